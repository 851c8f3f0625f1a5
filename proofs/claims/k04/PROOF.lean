import PyProof.Rows.All
import Wide.All
import OpenK.AllK
import Wide.FinOn
import HandS.ForMost
import HandS.Wide
import HandS.IsInst
import HandS.Evl
import HandS.Exc
import HandS.TryOnly
import HandS.ExcOwn
import HandS.ExcIs
import HandS.WordsExc
import HandS.ExcValue
import HandS.Strs
import HandS.SetFor
import HandS.Defaults
import HandS.MakeKw
import HandS.MakeKwOnly
import HandS.TupAny
import HandS.Style
import HandS.Walk
import HandS.Flow
import HandS.Steps
import KE.GoesEnum
import HandS.Iter
import PyProof.NeKinds
import PyProof.ReprRoads
import HandS.Ends
import HandS.Replace
import HandS.ReplaceLit
import HandS.FStr
import HandS.RaiseMore
import KE.KCallOwn
import PySem.Challenge.RW_groundlots_k04_texts_of_rules
set_option Elab.async false
set_option linter.all false
set_option maxRecDepth 100000
set_option maxHeartbeats 4000000
/-! my own layer: opaque lists, views, steps -/
namespace Gx
open PySem PySem.Spec PyProof.Rows L2 Evl

/-! ### a list known by a property alone -/
def isL (p : Addr) (G : List V → Prop) : Heap → Prop := fun h => ∃ xs, G xs ∧ xs.length ≤ sizeLine ∧ ∃ (its : List Value) (n : Nat), Vals xs its ∧ h.get? p = some { cls := .type "list", data := .seq its.toArray n }
def oL (p : Addr) (G : List V → Prop) : HO := .ext (isL p G)

/-- the same but for what stands at lists and opaque lists -/
def Shp (A B : Hp) : Prop := ∀ b, A b = B b ∨ (((∃ xs, A b = some (.lst xs)) ∨ ∃ φ, A b = some (.ext φ)) ∧ ((∃ xs, B b = some (.lst xs)) ∨ ∃ φ, B b = some (.ext φ)))
theorem Shp.refl (A : Hp) : Shp A A := fun _ => .inl rfl
theorem Shp.symm {A B : Hp} (s : Shp A B) : Shp B A := fun b => by
  rcases s b with h | ⟨h1, h2⟩
  · exact .inl h.symm
  · exact .inr ⟨h2, h1⟩
theorem Shp.none {A B : Hp} (s : Shp A B) {b : Addr} (h : A b = none) : B b = none := by
  rcases s b with e | ⟨h1, _⟩
  · rw [← e]; exact h
  · rcases h1 with ⟨_, h1⟩ | ⟨_, h1⟩ <;> (rw [h] at h1; cases h1)
theorem Shp.tup {A B : Hp} (s : Shp A B) {b : Addr} {xs : List V} (h : A b = some (.tup xs)) : B b = some (.tup xs) := by
  rcases s b with e | ⟨h1, _⟩
  · rw [← e]; exact h
  · rcases h1 with ⟨_, h1⟩ | ⟨_, h1⟩ <;> (rw [h] at h1; cases h1)
theorem Shp.own {A B : Hp} (s : Shp A B) {b x : Addr} (h : A b = some (.own x)) : B b = some (.own x) := by
  rcases s b with e | ⟨h1, _⟩
  · rw [← e]; exact h
  · rcases h1 with ⟨_, h1⟩ | ⟨_, h1⟩ <;> (rw [h] at h1; cases h1)
theorem Shp.frz {A B : Hp} (s : Shp A B) {b : Addr} {o : Obj} {u : HO} (h : A b = some (.frz o u)) : B b = some (.frz o u) := by
  rcases s b with e | ⟨h1, _⟩
  · rw [← e]; exact h
  · rcases h1 with ⟨_, h1⟩ | ⟨_, h1⟩ <;> (rw [h] at h1; cases h1)
theorem Shp.tbl {A B : Hp} (s : Shp A B) {b : Addr} {ps : Array Value} (h : A b = some (.tbl ps)) : B b = some (.tbl ps) := by
  rcases s b with e | ⟨h1, _⟩
  · rw [← e]; exact h
  · rcases h1 with ⟨_, h1⟩ | ⟨_, h1⟩ <;> (rw [h] at h1; cases h1)
theorem Shp.trans {A B C : Hp} (s : Shp A B) (t : Shp B C) : Shp A C := fun b => by
  rcases s b with e | ⟨h1, h2⟩
  · rw [e]; exact t b
  · rcases t b with e' | ⟨_, h4⟩
    · rw [← e']; exact .inr ⟨h1, h2⟩
    · exact .inr ⟨h1, h4⟩
theorem Shp.upd {A : Hp} {p : Addr} {o : HO} (h : (∃ xs, A p = some (.lst xs)) ∨ ∃ φ, A p = some (.ext φ)) (ho : (∃ xs, o = .lst xs) ∨ ∃ φ, o = .ext φ) : Shp A (upd A p o) := fun b => by
  by_cases e : b = p
  · subst e
    refine .inr ⟨h, ?_⟩
    rcases ho with ⟨xs, rfl⟩ | ⟨φ, rfl⟩
    · exact .inl ⟨xs, upd_same⟩
    · exact .inr ⟨φ, upd_same⟩
  · exact .inl (upd_ne e).symm
section
variable {P : Program} {w : World} {K : PySem.W.Frag} {mg : Str → Option Value} {base : Heap}
theorem Un.shp {fs ex : List Addr} {A A' B B' : Hp} {h h' : Heap} (u : Un fs ex A B h h') (s : Shp A A') (t : Shp B B') : Un fs ex A' B' h h' where
  keep := fun b o e n hf hx => u.keep b o e (s.symm.none n) hf hx
  slot := fun b o e n hf hx => u.slot b o e (s.symm.none n) hf hx
  free := fun b o e n hx => t.none (u.free b o e (s.symm.none n) hx)
  there := u.there
  tups := fun b xs e => t.tup (u.tups b xs (s.symm.tup e))
  frzs := fun b o x e => t.frz (u.frzs b o x (s.symm.frz e))
  tbls := fun b ps e => by
    obtain ⟨m, e2⟩ := u.tbls b ps (s.symm.tbl e)
    exact ⟨m, t.tbl e2⟩
/-- one entry another -/
theorem HOk.swap {A : Hp} {h : Heap} {p : Addr} {o : HO} (x : HOk P w A h) (s : Shp A (upd A p o)) (new : ObjOk P w (upd A p o) h p o) : HOk P w (upd A p o) h := fun b u e => by
  by_cases hb : b = p
  · subst hb; rw [upd_same] at e; cases e; exact new
  · rw [upd_ne hb] at e
    exact (x b u e).stay (fun _ _ _ q => q) (fun c q => s.own q) (fun c xs q => s.tup q)
theorem isL_mono {p : Addr} {G : List V → Prop} : ∀ h1 h2 : Heap, isL p G h1 → (∀ o, h1.get? p = some o → h2.get? p = some o) → isL p G h2 := fun h1 h2 ⟨xs, g, z, its, n, r, e⟩ k => ⟨xs, g, z, its, n, r, k _ e⟩
/-- an opaque list opened -/
theorem HOk.openL {A : Hp} {h : Heap} {p : Addr} {G : List V → Prop} (x : HOk P w A h) (e : A p = some (oL p G)) : ∃ xs, G xs ∧ HOk P w (upd A p (.lst xs)) h ∧ Shp A (upd A p (.lst xs)) := by
  obtain ⟨⟨xs, g, z, its, n, r, q⟩, _, _⟩ := (show ObjOk P w A h p (oL p G) from x p _ e)
  have s : Shp A (upd A p (.lst xs)) := Shp.upd (.inr ⟨_, e⟩) (.inl ⟨xs, rfl⟩)
  exact ⟨xs, g, HOk.swap x s ⟨z, its, n, r, q⟩, s⟩
theorem HOk.shutL {A : Hp} {h : Heap} {p : Addr} {G : List V → Prop} {xs : List V} (x : HOk P w A h) (e : A p = some (.lst xs)) (g : G xs) : HOk P w (upd A p (oL p G)) h ∧ Shp A (upd A p (oL p G)) := by
  obtain ⟨z, its, n, r, q⟩ := (show ObjOk P w A h p (.lst xs) from x p _ e)
  have s : Shp A (upd A p (oL p G)) := Shp.upd (.inl ⟨_, e⟩) (.inr ⟨_, rfl⟩)
  exact ⟨HOk.swap x s ⟨⟨xs, g, z, its, n, r, q⟩, ⟨_, q⟩, isL_mono⟩, s⟩
/-- a promise over another view of the heap -/
theorem FnOk.view {k : Nat} {f : Addr} {fd : FuncData} {ps : List Str} {sp sp' : Sp} (F : FnOk P w K mg base CX0 k f fd ps sp) (len : ∀ vs H Q E, sp' vs H Q E → vs.length = ps.length)
    (h : ∀ vs H Q E, sp' vs H Q E → ∀ hp : Heap, HOk P w H hp → ∃ H0, HOk P w H0 hp ∧ Shp H H0 ∧ sp vs H0 (fun v H1 => ∀ hp' : Heap, HOk P w H1 hp' → ∃ H2, HOk P w H2 hp' ∧ Shp H1 H2 ∧ Q v H2) E) : FnOk P w K mg base CX0 k f fd ps sp' := by
  refine ⟨len, fun A outer s H args us vs Q E hr he hb hv hs => ?_⟩
  obtain ⟨H0, ok0, s0, q0⟩ := h vs H Q E hs s.heap he.hok
  refine codeAny_mono (F.run A outer s H0 args us vs _ E hr ⟨he.frames, he.mod, fun b o e => ⟨(he.bs b o e).1, s0.none (he.bs b o e).2⟩, he.bsz, he.funs, fun b hb => s0.none (he.frf b hb), ok0, he.bare⟩ hb hv q0) fun r s' hq => ?_
  cases r with
  | error e => exact False.elim hq
  | ok fl =>
    cases fl with
    | ret u =>
      obtain ⟨v, H1, os, bare, un, hok, r, q⟩ := hq
      obtain ⟨H2, ok2, s2, q2⟩ := q _ hok
      exact ⟨v, H2, os, bare, Un.shp un s0.symm s2, ok2, r, q2⟩
    | next => exact False.elim hq
    | brk => exact False.elim hq
    | cont => exact False.elim hq
end
end Gx

/-! texts: the mathematics -/
namespace Gx
open PySem PySem.Spec PyProof.Rows L2 Evl

/-! ### texts -/
def okS (z : Str) : Prop := ∀ c ∈ z.cps.toList, c < 1114112
theorem okS_iff (z : Str) : PyData.strOk z = true ↔ okS z := by
  unfold PyData.strOk okS
  rw [← Array.all_toList, List.all_eq_true]
  constructor
  · intro h c hc; exact of_decide_eq_true (h c hc)
  · intro h c hc; exact decide_eq_true (h c hc)
theorem okS_app {a b : Str} (ha : okS a) (hb : okS b) : okS (a ++ b) := fun c hc => by
  rw [show (a ++ b).cps.toList = a.cps.toList ++ b.cps.toList from TL.tl_append a b] at hc
  rcases List.mem_append.mp hc with h | h
  · exact ha c h
  · exact hb c h
theorem len_tl (z : Str) : z.cps.toList.length = z.length := Array.length_toList
theorem len_app (a b : Str) : (a ++ b).length = a.length + b.length := by
  rw [← len_tl, ← len_tl, ← len_tl, show (a ++ b).cps.toList = a.cps.toList ++ b.cps.toList from TL.tl_append a b, List.length_append]
theorem joinL_flat : ∀ ps : List (List Nat), TL.joinL [] ps = ps.flatten
  | [] => rfl
  | [p] => by show p = [p].flatten; simp
  | p :: q :: r => by
    show p ++ ([] ++ TL.joinL [] (q :: r)) = (p :: q :: r).flatten
    rw [joinL_flat (q :: r), List.nil_append]; rfl
theorem join_flat (ys : List Str) : (Txt.join ("" : Str) ys).cps.toList = (ys.map fun y => y.cps.toList).flatten := by
  have h := TL.tl_join ("" : Str) ys
  rw [show TL.tl ("" : Str) = [] by decide +kernel, joinL_flat] at h
  rw [TL.join_eq]
  exact h
theorem okS_cut {z : Str} {lo hi : Option Int} (h : okS z) : okS (cutS z lo hi) := fun c hc => h c (List.mem_of_mem_drop (List.mem_of_mem_take hc))
theorem okS_sgn {z : Str} {c : Nat} (h : okS z) (hc : c ∈ z.cps.toList) : okS ⟨#[c]⟩ := fun d hd => by
  have e : d = c := by simpa using hd
  rw [e]; exact h c hc
theorem len_sgn (c : Nat) : (⟨#[c]⟩ : Str).length = 1 := rfl
end Gx

/-! an error that is caught and kept: it is known from then on, by its class and its own dict -/
namespace Gx
open PySem PySem.Spec PyProof.Rows L2 Evl
/-- an error object at a, of the class cls, its own dict d -/
def ExK (cls : Value) (d : Option Addr) (a : Addr) : HO := .ext fun h => ∃ (oe : Obj) (vs : Array Value), h.get? a = some oe ∧ Zc cls d oe ∧ oe.data = .fields vs
section
variable {X : Cx} {pins : List (Addr × Obj)} {σ : L2.St} {H : Hp} {s : Shared}
theorem exK_ok {P : Program} {w : World} {H : Hp} {h : Heap} {a : Addr} {cls : Value} {d : Option Addr} {oe : Obj} {vs : Array Value} (e : h.get? a = some oe) (z : Zc cls d oe) (f : oe.data = .fields vs) : ObjOk P w H h a (ExK cls d a) :=
  ⟨⟨oe, vs, e, z, f⟩, ⟨oe, e⟩, fun _ _ ⟨o, v, e1, z1, f1⟩ k => ⟨o, v, k o e1, z1, f1⟩⟩
/-- an object of ours, new behind the entry, is tracked from here on -/
theorem track {a : Addr} {oe : Obj} {vs : Array Value} {o : HO} (I : Inv X pins σ H s) (e : s.heap.get? a = some oe) (f : oe.data = .fields vs) (na : H a = none) (n0 : X.s_0.heap.get? a = none) (nL : a ≠ X.env.locals)
    (np : ∀ p ∈ X.pn ++ pins, p.1 ≠ a) (ok : ObjOk X.prog X.w (upd H a o) s.heap a o) : Inv X pins σ (upd H a o) s := by
  have old : ∀ b u, X.s_0.heap.get? b = some u → b ≠ a := fun b u q z => by rw [z, n0] at q; cases q
  have oth : ∀ {b u}, H b = some u → (upd H a o) b = some u := fun {b u} q => by rw [upd_ne (ne_of_none q na)]; exact q
  refine ⟨I.ok, I.os, I.bare, ⟨I.base.keep, I.base.slot, ?_, I.base.there, ?_, ?_, ?_⟩, I.loc, I.cell, ?_, ?_, ?_, HOk.laidN I.hok (fun _ _ q => q) na ok, I.len⟩
  · intro b u q n x
    rw [upd_ne (old b u q)]
    exact I.base.free b u q n x
  · intro b xs q
    exact oth (I.base.tups b xs q)
  · intro b u x q
    exact oth (I.base.frzs b u x q)
  · intro b ps q
    obtain ⟨m, r⟩ := I.base.tbls b ps q
    exact ⟨m, oth r⟩
  · rw [upd_ne (Ne.symm nL)]
    exact I.free
  · intro x c q
    obtain ⟨v, cl⟩ := I.cell x c q
    have ca : c ≠ a := by
      rintro rfl
      obtain ⟨oc, ec, fc⟩ := cl
      rw [e] at ec
      cases ec
      rw [f] at fc
      cases fc
    rw [upd_ne ca]
    exact I.freeC x c q
  · intro p hp
    obtain ⟨r1, r2, r3⟩ := I.pin p hp
    exact ⟨r1, by rw [upd_ne (np p hp)]; exact r2, r3⟩
end
/-- the ends of a suite that holds the error at a in slot i -/
def Ends.kept (D : Ends) (i : Nat) (a : Addr) (cls : Value) (d : Option Addr) : Ends where
  nx := fun σ' H' => D.nx (σ'.set i none) (upd H' a (ExK cls d a))
  rt := fun v H' => D.rt v (upd H' a (ExK cls d a))
  bk := fun σ' H' => D.bk (σ'.set i none) (upd H' a (ExK cls d a))
  ct := fun σ' H' => D.ct (σ'.set i none) (upd H' a (ExK cls d a))
/-- what `except c as n: suite` asks of an error that leaves the body -/
def wKeep (K : PySem.W.Frag) (c : Value) (i : Nat) (ts : Addr → Value → Option Addr → TS) (D : Ends) : WX := fun cls d σ' H' =>
  PySem.W.exmOne K cls c = some true ∧ ∀ a : Addr, H' a = none → ts a cls d (Ends.kept D i a cls d) (σ'.set i (some (.ref a))) H'
section
variable {X : Cx} {x n : Str} {c : Value} {i : Nat} {body suite : List Stmt} {b1 : Stmt} {p1 p2 p3 : Pos} {tb : WX → TS} {ts : Addr → Value → Option Addr → TS}
theorem ps_try_keep (noX : X.ex = []) (top : X.stack = X.env :: X.outer) (own : X.env.frame = some X.env.locals) (nd : X.N.Nodup) (at_i : X.N[i]? = some n) (loc : X.env.kindOf n = some .local) (nm : Names X x c)
    (B1 : ∀ (W : WX) (q : List (Addr × Obj)) (ex : Value → Shared → Prop), Takes (X.tr q ex) W → PassesOwn (model X.prog X.w) X.A X.env ex → PSs (X.tr q ex) body (tb W))
    (S1 : ∀ (a : Addr) (u : Obj) (cls : Value) (d : Option Addr) (q : List (Addr × Obj)), Zc cls d u → (∃ vs, u.data = .fields vs) → PSs (X.suite a ((a, u) :: q)) (b1 :: suite) (ts a cls d)) :
    PS X (.Try body [.ExceptHandler (some (.Name x p1)) (some n) (b1 :: suite) p2] [] [] p3) (fun D σ H => tb (wKeep X.K c i ts D) D σ H) := by
  constructor
  intro pins s σ H D I hyp
  have okX := I.ok
  have frX : X.A.frames = some (X.env :: X.outer) := okX.frames.trans (congrArg some top)
  apply wpAny_Try_except
  have run := (B1 (wKeep X.K c i ts D) (X.pn ++ pins) (fun e t1 => wpAny (model X.prog X.w) X.A (noteFrame e X.env) (fun _ t2 => wpAny (model X.prog X.w) X.A (setFlight e none) (fun _ t3 =>
    wpAny (model X.prog X.w) X.A (handleBy e X.env [.ExceptHandler (some (.Name x p1)) (some n) (b1 :: suite) p2]) (SP X pins D) X.xe t3) X.xe t2) X.xe t1) ?caught PassesOwn.looking).run [] s σ H D (I.toTry _) hyp
  case caught =>
    rintro _ t ⟨a, B, tI, q, σ1, H1, cls, d, rfl, IT, ground, lift, sky, fresh, eos, bare, isb, yes⟩
    have J := IT.ofTry okX
    rw [show (X.tr (X.pn ++ pins) _).stack = X.env :: X.outer from top] at sky
    refine Sky.land Zc.steady frX own sky fun g1 fly1 lift1 => ?_
    obtain ⟨u1, vs1, gu1, zu1, du1⟩ := fly1.there
    have notin : a ∉ frs (X.env :: X.outer) := fun mem => by
      obtain ⟨_, u2, gu2, plain⟩ := fly1.2.2.1.mem mem
      rw [gu1] at gu2
      cases gu2
      exact plain _ du1
    have aL : a ≠ X.env.locals := fun z => notin (List.mem_filterMap.mpr ⟨X.env, .head _, own.trans (congrArg some z.symm)⟩)
    have aF : a ∉ X.fs := fun mem => by
      obtain ⟨e1, h1, h2⟩ := List.mem_filterMap.mp mem
      exact notin (List.mem_filterMap.mpr ⟨e1, .tail _ h1, h2⟩)
    -- the ground lacks a, so the state ahead lacks it too
    have lackB : B.get? a = none := fly1.2.1
    have lackI : tI.heap.get? a = none := by
      cases q : tI.heap.get? a with
      | none => rfl
      | some o =>
        have z := ground a o q (by rw [show (X.tr (X.pn ++ pins) _).stack = X.env :: X.outer from top]; exact notin)
        rw [lackB] at z
        cases z
    have lack0 : X.s_0.heap.get? a = none := by
      cases q : X.s_0.heap.get? a with
      | none => rfl
      | some o =>
        obtain ⟨o2, z⟩ := J.base.there a o q (by rw [noX]; exact List.not_mem_nil)
        rw [lackI] at z
        cases z
    have landed : ∀ {g : Heap}, B.StaysIn g → tI.heap.UpToSlots g → Inv X pins σ1 H1 { t with heap := g } := fun st up => J.landed (B := B) (fun b o e nb => ground b o e nb) st up eos bare
    have J1 := landed fly1.1 (lift.trans lift1)
    have pinsLack : ∀ p ∈ X.pn ++ pins, p.1 ≠ a := fun p hp z => by
      have r := (J.pin p hp).1
      rw [z, lackI] at r
      cases r
    refine wpAny_handleBy_cons (codeAny_handlers_test ?_) (by intro z; cases z)
    have kind : PySem.W.Looks (model X.prog X.w) g1 (typeOf (.ref a)) cls := fun _ _ _ _ k1 k2 => wpAny_typeOf_ref (k1 _ _ gu1) (by rw [zu1.1]; exact k2)
    have answer := PySem.W.exm_one (M := model X.prog X.w) J1.kIn kind isb
    have named : ∀ {Q : Value → Shared → Prop} {E : Value → Shared → Prop}, Q c { t with heap := g1 } → wpAny (model X.prog X.w) (X.A.mark (some (.ref a))) (eval (.Name x p1) X.env) Q E { t with heap := g1 } := fun {Q E} k => by
      have JS := J1.suite gu1 du1 fresh aL aF
      obtain ⟨gl, ndb, own1 | ⟨no1, bb, nn⟩⟩ := nm
      · exact ld_glob (X := X.suite a ((a, u1) :: (X.pn ++ pins))) JS gl own1 k ndb
      · exact ld_blt (X := X.suite a ((a, u1) :: (X.pn ++ pins))) JS gl no1 bb k nn ndb
    refine named (answer.here ?_)
    refine codeAny_handlers_suite_as (HandSPX.lands_againZ fly1 fun g2 fly2 lift2 => ?_)
    obtain ⟨u2, vs2, gu2, zu2, du2⟩ := fly2.there
    have J2 := landed fly2.1 ((lift.trans lift1).trans lift2)
    refine store_ok (X := X.suite a ((a, u2) :: (X.pn ++ pins))) (v := .ref a) (J2.suite gu2 du2 fresh aL aF) nd at_i (.inl loc) rfl (fun t5 J5 => ?_) (.inr loc)
    refine thnF ((S1 a u2 cls d (X.pn ++ pins) zu2 ⟨_, du2⟩).run [] t5 _ H1 _ J5 (yes a fresh)) fun f t6 hf => ?_
    have close : ∀ {σ6 : L2.St} {H6 : Hp} {Q : Shared → Prop}, Inv (X.suite a ((a, u2) :: (X.pn ++ pins))) [] σ6 H6 t6 → (∀ t7, Inv X pins (σ6.set i none) (upd H6 a (ExK cls d a)) t7 → Q t7) →
        wpAny (model X.prog X.w) X.A (do bindName X.env n .none; unbindBehindTheSuite X.env n p2) (fun _ t7 => Q t7) X.xe t6 := fun {σ6 H6 Q} J6 k => by
      obtain ⟨r1, r2, _⟩ := J6.pin (a, u2) (List.mem_append_left _ (.head _))
      have J7 : Inv X pins σ6 H6 t6 := J6.unsuite okX
      exact gone_ok (track J7 r1 du2 r2 lack0 aL pinsLack (exK_ok r1 zu2 du2)) nd at_i loc k
    cases f with
    | next =>
      obtain ⟨σ6, H6, J6, r⟩ := hf
      exact close J6 fun t7 J7 => ⟨_, _, J7, r⟩
    | brk =>
      obtain ⟨σ6, H6, J6, r⟩ := hf
      exact close J6 fun t7 J7 => ⟨_, _, J7, r⟩
    | cont =>
      obtain ⟨σ6, H6, J6, r⟩ := hf
      exact close J6 fun t7 J7 => ⟨_, _, J7, r⟩
    | ret v =>
      obtain ⟨w6, σ6, H6, J6, rv, r⟩ := hf
      exact close J6 fun t7 J7 => ⟨_, _, _, J7, rv, r⟩
  refine wpAny_mono run (fun f t ht => ?_) (fun e t he => he)
  cases f with
  | next =>
    obtain ⟨σ2, H2, J2, r⟩ := ht
    exact wpAny_execs_nil ⟨σ2, H2, J2.ofTry okX, r⟩
  | brk =>
    obtain ⟨σ2, H2, J2, r⟩ := ht
    exact ⟨σ2, H2, J2.ofTry okX, r⟩
  | cont =>
    obtain ⟨σ2, H2, J2, r⟩ := ht
    exact ⟨σ2, H2, J2.ofTry okX, r⟩
  | ret v =>
    obtain ⟨v2, σ2, H2, J2, rv, r⟩ := ht
    exact ⟨v2, σ2, H2, J2.ofTry okX, rv, r⟩
end
end Gx

/-! set(xs) of texts, any number below the scan's bound: its size -/
namespace Gx
open PySem PySem.Spec PyProof.Rows L2 Evl
/-- the unlike texts among the first i -/
def metS (xs : List Str) : List Str := xs.foldl (fun acc x => if x ∈ acc then acc else acc ++ [x]) []
theorem metS_snoc (xs : List Str) (x : Str) : metS (xs ++ [x]) = if x ∈ metS xs then metS xs else metS xs ++ [x] := by
  unfold metS; rw [List.foldl_append]; rfl
theorem metS_mem : ∀ (n : Nat) (xs : List Str), xs.length = n → ∀ k, k ∈ metS xs ↔ k ∈ xs
  | 0, xs, h, k => by rw [List.length_eq_zero_iff.mp h]; exact Iff.rfl
  | n + 1, xs, h, k => by
    have hne : xs ≠ [] := by intro e; rw [e] at h; cases h
    obtain ⟨ys, y, rfl⟩ : ∃ ys y, xs = ys ++ [y] := ⟨xs.dropLast, xs.getLast hne, (List.dropLast_concat_getLast hne).symm⟩
    have ih := metS_mem n ys (by simpa using h)
    rw [metS_snoc]
    by_cases hy : y ∈ metS ys
    · rw [if_pos hy, List.mem_append, List.mem_singleton, ih k]
      constructor
      · exact Or.inl
      · rintro (q | rfl)
        · exact q
        · exact (ih k).mp hy
    · rw [if_neg hy, List.mem_append, List.mem_append, ih k]
theorem metS_len : ∀ (n : Nat) (xs : List Str), xs.length = n → (metS xs).length ≤ n ∧ ((metS xs).length = n ↔ xs.Nodup)
  | 0, xs, h => by rw [List.length_eq_zero_iff.mp h]; exact ⟨Nat.le_refl _, by simp [metS]⟩
  | n + 1, xs, h => by
    have hne : xs ≠ [] := by intro e; rw [e] at h; cases h
    obtain ⟨ys, y, rfl⟩ : ∃ ys y, xs = ys ++ [y] := ⟨xs.dropLast, xs.getLast hne, (List.dropLast_concat_getLast hne).symm⟩
    have hl : ys.length = n := by simpa using h
    obtain ⟨i1, i2⟩ := metS_len n ys hl
    have mem := metS_mem n ys hl y
    rw [metS_snoc, List.nodup_append]
    by_cases hy : y ∈ metS ys
    · rw [if_pos hy]
      refine ⟨by omega, ⟨fun e => by omega, fun ⟨_, _, q⟩ => absurd rfl (q y (mem.mp hy) y (by simp))⟩⟩
    · rw [if_neg hy, List.length_append]
      refine ⟨by simp; omega, ⟨fun e => ⟨i2.mp (by simp at e; omega), by simp, fun a ha b hb e2 => hy (mem.mpr (by rw [List.mem_singleton.mp hb] at e2; rw [← e2]; exact ha))⟩, fun ⟨q, _, _⟩ => by have := i2.mpr q; simp; omega⟩⟩
section
variable {P : Program} {w : World} {A : Around} {E : Value → Shared → Prop} {s : Shared}
/-- the loop that fills the set, from the i-th item on -/
theorem fill_texts {R : Result → Shared → Prop} {I : Addr} {fp wr : List Addr} {G : Array GenState → Array GenState → Prop} {n : Nat} {Pv : Nat → Value → Prop} {St : Nat → Shared → Prop}
    (W : WalksS P w A.in1 I fp wr G n Pv St) {S : Addr} (out : S ∉ fp) {xs : List Str} (hn : xs.length = n) (few : n + 1 < scanBound) (item : ∀ i v, Pv i v → ∃ x t, xs[i]? = some x ∧ v = .str x t) :
    ∀ (left i : Nat) (s : Shared), i + left = n → St i s → s.heap.SetOf (PySem.strKind P w) S (fun k => decide (k ∈ metS (xs.take i))) (metS (xs.take i)).length →
      (∀ s', Moved (S :: wr) G s s' → s'.heap.SetOf (PySem.strKind P w) S (fun k => decide (k ∈ metS xs)) (metS xs).length → R (.ok (.ret .none)) s') →
      codeAny (model P w) A (.builtin "set.update.loop" ⟨[.ref S, .ref I], []⟩) R s := by
  have outw : S ∉ wr := fun z => out (W.sub _ z)
  have more : ∀ b ∈ wr, b ∈ S :: wr := fun _ z => .tail _ z
  have stays : ∀ {s1 s2 : Shared} {f : Str → Bool} {c : Nat}, Moved wr G s1 s2 → s1.heap.SetOf (PySem.strKind P w) S f c → s2.heap.SetOf (PySem.strKind P w) S f c := fun {s1 s2 f c} mv ⟨o, es, ep, tb, e, r⟩ => ⟨o, es, ep, tb, mv.heap S _ outw e, r⟩
  intro left
  induction left with
  | zero =>
    intro i s hi st set0 fin
    have e : xs.take i = xs := List.take_of_length_le (by omega)
    rw [e] at set0
    refine codeAny_builtin F.entry_set_update_loop ?_
    rw [Around.under_plainId F.plain_set_update_loop _]
    have hi' : i = n := by omega
    subst hi'
    show wpAny _ A.in1 (pyNext (.ref I) >>= _) _ _ s
    exact wpAny_bind (W.done s _ _ st fun s1 mv => wpAny_pure (fin s1 (mv.mono more) (stays mv set0)))
  | succ left ih =>
    intro i s hi st set0 fin
    refine codeAny_builtin F.entry_set_update_loop ?_
    rw [Around.under_plainId F.plain_set_update_loop _]
    show wpAny _ A.in1 (pyNext (.ref I) >>= _) _ _ s
    refine wpAny_bind (W.item i s _ _ (by omega) st fun v s1 hv st1 mv => ?_)
    obtain ⟨x, t, hx, rfl⟩ := item i v hv
    have len1 := (metS_len (xs.take i).length (xs.take i) rfl).1
    rw [List.length_take] at len1
    show wpAny _ A.in1 (holding [Value.str x t] (setAdd S (.str x t)) >>= _) _ _ s1
    refine wpAny_bind (wpAny_holding ?_)
    unfold setAdd
    refine wpAny_holding (wpAny_bind ((PySem.strKind P w).pyHash (k := x) (strKind_is _ _ _ _) ?_))
    refine wpAny_setAddHashed_of (knd := PySem.strKind P w) (s := { s1 with toks := s1.toks + 1 }) (strKind_is _ _ _ _) rfl (show s1.heap.SetOf _ _ _ _ from stays mv set0) (by omega) fun h1 but set1 => ?_
    have grow : xs.take (i + 1) = xs.take i ++ [x] := by rw [List.take_add_one, hx]; rfl
    have set2 : h1.SetOf (PySem.strKind P w) S (fun k => decide (k ∈ metS (xs.take (i + 1)))) (metS (xs.take (i + 1))).length := by
      refine SetOf_congr set1 (fun k => ?_) ?_
      · show (decide (k ∈ metS (xs.take i)) || decide (k = x)) = _
        rw [grow, metS_snoc, Bool.eq_iff_iff]
        by_cases hm : x ∈ metS (xs.take i)
        · rw [if_pos hm]
          simp only [Bool.or_eq_true, decide_eq_true_eq]
          exact ⟨fun q => q.elim id fun e => e ▸ hm, Or.inl⟩
        · rw [if_neg hm]
          simp
      · show (if decide (x ∈ metS (xs.take i)) = true then _ else _) = _
        rw [grow, metS_snoc]
        by_cases hm : x ∈ metS (xs.take i)
        · rw [if_pos hm, if_pos (decide_eq_true hm)]
        · rw [if_neg hm, if_neg (by simpa using hm), List.length_append]; rfl
    refine wpAny_pure ⟨plainId_quiet F.plain_set_update_loop _, ih (i + 1) _ (by omega) (W.frame _ s1 _ _ st1 (Nat.le_succ _) fun b hb o e => ?_) set2 fun s3 mv3 set3 => fin s3 (Moved.trans W.gtrans ((mv.mono more).then_heap (Nat.le_succ _) fun b o hb e => ?_) mv3) set3⟩
    · rw [but.2 b (by rintro rfl; exact out hb)]; exact e
    · rw [but.2 b (by rintro rfl; exact hb (.head _))]; exact e
set_option maxHeartbeats 8000000 in
/-- set(l), l a list or a tuple of texts -/
theorem make_set {l : Addr} {items : Array Value} {xs : List Str} {Q : Value → Shared → Prop} (calm : A.handled = none) (src : s.heap.IsList l items ∨ s.heap.IsTuple l items) (vals : ∀ (i : Nat) v, items[i]? = some v → ∃ x t, xs[i]? = some x ∧ v = .str x t)
    (hn : xs.length = items.size) (few : items.size + 1 < scanBound)
    (k : ∀ (h' : Heap) (tk : Nat), h'.SetOf (PySem.strKind P w) s.heap.objs.size (fun k => decide (k ∈ metS xs)) (metS xs).length → (∀ b o, b < s.heap.objs.size → s.heap.get? b = some o → h'.get? b = some o) → Q (.ref s.heap.objs.size) { s with heap := h', toks := tk }) :
    wpAny (model P w) A (call (.type "set") [.ref l]) Q E s := by
  obtain ⟨c, tl, hmro⟩ := F.called_set.mro
  have hmade := F.called_set.made
  have hsub := F.called_set.sub
  have h1 := F.called_set.notType
  have h2 := F.called_set.canCreate
  have hct := F.typeCall_set_1 (.ref l)
  refine wpAny_call (codeAny_of_tree (show wpAny _ _ (callAny (.type "set") _) _ _ _ from wpAny_pure ⟨Code.quiet_builtin _ (by decide +kernel), codeAny_builtin F.entry_type_call ?_⟩))
  rw [Around.under_plain (weight_type_call_type "set" [.ref l] []) rfl]
  repeat (any_goals (first | assumption | wp_step))
  let fresh : Bool → Obj := fun led => { cls := .type "set", dict := none, data := .set #[] 0 (.fresh 0 0 led) }
  refine codeAny_mono (code_set_new_1 (.ref l) (E := E) (Q₁ := fun o t => ∃ led, o = .ref s.heap.objs.size ∧ t = { s with heap := s.heap.push (fresh led) }) fun led => ⟨led, rfl, rfl⟩) fun r t hr => ?_
  rcases r with e | fl
  · exact hr
  cases fl with
  | next => exact hr.elim
  | brk => exact hr.elim
  | cont => exact hr.elim
  | ret o =>
    obtain ⟨led, rfl, rfl⟩ := hr
    have at_S : (s.heap.push (fresh led)).get? s.heap.objs.size = some (fresh led) := Heap.get?_push_size _ rfl
    have kind_S : Shared.TypeIs { s with heap := s.heap.push (fresh led) } (.ref s.heap.objs.size) "set" := ⟨_, at_S, rfl⟩
    have hli := F.called_set.init.lookup
    have hbi := F.called_set.init.bind (.ref s.heap.objs.size)
    repeat (any_goals (first | assumption | wp_step))
    let Done : Value → Shared → Prop := fun r t => r = .none ∧ ∃ h' tk, t = { s with heap := h', toks := tk } ∧ h'.SetOf (PySem.strKind P w) s.heap.objs.size (fun k => decide (k ∈ metS xs)) (metS xs).length ∧ ∀ b o, b < s.heap.objs.size → s.heap.get? b = some o → h'.get? b = some o
    refine codeAny_mono (codeAny_call_builtin (R := wants Done E) F.called_set.init.plain F.entry_set_init (check_set_init_1 kind_S ?_)) fun r t hr => ?_
    · -- __init__ walks l
      have quiet : A.in1.in1.in1.handled = none := by simp [calm]
      have empty : ∀ {itr : Obj}, ((s.heap.push (fresh led)).push itr).SetOf (PySem.strKind P w) s.heap.objs.size (fun k => decide (k ∈ metS (xs.take 0))) (metS (xs.take 0)).length := fun {itr} =>
        SetOf_congr ((setObjOf_fresh (knd := PySem.strKind P w) led).setOf (Heap.get?_push_of_some itr at_S) (by unfold scanBound; omega)) (fun k => by simp [metS]) (by simp [metS])
      have grown : (s.heap.push (fresh led)).objs.size = s.heap.objs.size + 1 := Heap.size_push ..
      have finish : ∀ {itr : Addr} {t : Shared} {G : Array GenState → Array GenState → Prop} {s0 : Shared}, s.heap.objs.size < itr → t.gens = s.gens → t.drawn = s.drawn → t.os = s.os → (∀ b o, b ∉ [s.heap.objs.size, itr] → s0.heap.get? b = some o → t.heap.get? b = some o) →
          (∀ b o, s.heap.get? b = some o → s0.heap.get? b = some o) → t.heap.SetOf (PySem.strKind P w) s.heap.objs.size (fun k => decide (k ∈ metS xs)) (metS xs).length → Done .none t := by
        intro itr t G s0 lt eg ed eo keep old set1
        obtain ⟨h', g', d', tk', os'⟩ := t
        dsimp only at eg ed eo keep set1
        subst eg ed eo
        refine ⟨rfl, h', tk', rfl, set1, fun b o hb e => keep b o ?_ (old b o e)⟩
        simp only [List.mem_cons, List.not_mem_nil, or_false, not_or]
        exact ⟨by omega, by omega⟩
      rcases src with ⟨ol, e, hc, m, hd⟩ | ⟨ol, e, hc, m, hd⟩
      · obtain ⟨cl, dc, dt, sl⟩ := ol
        dsimp only at hc hd
        subst hc hd
        have e1 : (s.heap.push (fresh led)).get? l = some ⟨.type "list", dc, .seq items m, sl⟩ := Heap.get?_push_of_some _ e
        have lt : l < s.heap.objs.size := Heap.lt_size e
        have hsls := F.sub_list_set
        have hslf := F.sub_list_frozenset
        have hne : (Value.type "list" == Value.type "dict") = false := by decide
        have isl : (s.heap.push (fresh led)).IsList l items := ⟨_, e1, rfl, m, rfl⟩
        unfold Builtin.«set.__init__» noKeywords Builtin.Frozenset.updateFrom
        generalize walkName : pyIter = walk
        wp_walk
        subst walkName
        refine wpAny_pyIter_list isl (wpAny_bind (wpAny_runValue ?_))
        refine fill_texts ((Walks.list quiet _ l (by rw [grown]; exact Nat.ne_of_lt (Nat.lt_succ_of_lt lt)) items).toS) (by rw [grown]; simp only [List.mem_cons, List.not_mem_nil, or_false, not_or]; exact ⟨Nat.ne_of_lt (Nat.lt_succ_self _), Nat.ne_of_gt lt⟩) hn few vals items.size 0 _ (by omega) ⟨⟨_, Heap.get?_push_size _ rfl, rfl, rfl⟩, isl.push _⟩ empty fun t mv set1 => ?_
        refine wpAny_pure (wpAny_pure (finish (G := fun _ _ => True) (itr := (s.heap.push (fresh led)).objs.size) (by rw [grown]; exact Nat.lt_succ_self _) mv.gens mv.drawn mv.os (fun b o hb e2 => mv.heap b o hb e2) (fun b o e2 => Heap.get?_push_of_some _ (Heap.get?_push_of_some _ e2)) set1))
      · obtain ⟨cl, dc, dt, sl⟩ := ol
        dsimp only at hc hd
        subst hc hd
        have e1 : (s.heap.push (fresh led)).get? l = some ⟨.type "tuple", dc, .seq items m, sl⟩ := Heap.get?_push_of_some _ e
        have lt : l < s.heap.objs.size := Heap.lt_size e
        have hsls := F.sub_tuple_set
        have hslf := F.sub_tuple_frozenset
        have hne : (Value.type "tuple" == Value.type "dict") = false := by decide
        have isl : (s.heap.push (fresh led)).IsTuple l items := ⟨_, e1, rfl, m, rfl⟩
        unfold Builtin.«set.__init__» noKeywords Builtin.Frozenset.updateFrom
        generalize walkName : pyIter = walk
        wp_walk
        subst walkName
        refine wpAny_pyIter_tuple isl (wpAny_bind (wpAny_runValue ?_))
        refine fill_texts ((Walks.tuple quiet _ l (by rw [grown]; exact Nat.ne_of_lt (Nat.lt_succ_of_lt lt)) items).toS) (by rw [grown]; simp only [List.mem_cons, List.not_mem_nil, or_false, not_or]; exact ⟨Nat.ne_of_lt (Nat.lt_succ_self _), Nat.ne_of_gt lt⟩) hn few vals items.size 0 _ (by omega) ⟨⟨_, Heap.get?_push_size _ rfl, rfl, rfl⟩, isl.push _⟩ empty fun t mv set1 => ?_
        refine wpAny_pure (wpAny_pure (finish (G := fun _ _ => True) (itr := (s.heap.push (fresh led)).objs.size) (by rw [grown]; exact Nat.lt_succ_self _) mv.gens mv.drawn mv.os (fun b o hb e2 => mv.heap b o hb e2) (fun b o e2 => Heap.get?_push_of_some _ (Heap.get?_push_of_some _ e2)) set1))
    · rcases r with e | fl
      · exact hr
      cases fl with
      | next => exact hr.elim
      | brk => exact hr.elim
      | cont => exact hr.elim
      | ret o =>
        obtain ⟨rfl, h', tk, rfl, set1, old⟩ := hr
        repeat (any_goals (first | assumption | wp_step))
        exact k _ _ set1 old
end
/-- len(set(x)), x a list or a tuple of texts -/
def tLenSetS (K : PySem.W.Frag) (ta : TE) : TE := fun σ H Q => ta σ H fun x H1 => ∃ (l : Addr) (xs : List Str), x = .ref l ∧ (SqL K H1 l (xs.map V.str) ∨ SqT K H1 l (xs.map V.str)) ∧ xs.length ≤ 4000 ∧ Q (.int ((metS xs).length : Nat)) H1
theorem strs_at : ∀ {xs : List Str} {us : List Value}, Vals (xs.map V.str) us → ∀ (i : Nat) v, us[i]? = some v → ∃ x t, xs[i]? = some x ∧ v = .str x t
  | [], _, .nil, i, v, e => by simp at e
  | x :: xs, _, .cons ⟨t, q⟩ r, 0, v, e => ⟨x, t, rfl, by rw [← q]; exact (Option.some.inj e).symm⟩
  | x :: xs, _, .cons _ r, i + 1, v, e => by
    obtain ⟨y, t, h1, h2⟩ := strs_at r i v (by simpa using e)
    exact ⟨y, t, by simpa using h1, h2⟩
theorem pe_lenSetS {X : Cx} {a : Expr} {ta : TE} {p p2 q pos : Pos} (g1 : Gl X "len") (m1 : X.mg "len" = none) (g2 : Gl X "set") (m2 : X.mg "set" = none) (ha : PE X a ta) (calm : X.calm = true := by rfl)
    (na : starEach [a] X.env = (false, eval a X.env) :: starEach [] X.env := by rfl) : PE X (.Call (.Name "len" p) [.Call (.Name "set" p2) [a] [] q] [] pos) (tLenSetS X.K ta) := by
  constructor
  intro pins s σ H Q I h
  refine Call_ (ld_blt I g1 m1 boot_len (PyProof.Rows.callWith_builtin1 (PyProof.Rows.args_cons ?_ rfl) rfl rfl))
  refine Call_ (ld_blt I g2 m2 boot_set (PyProof.Rows.callWith_type1 (PyProof.Rows.args_cons (thn (ha.run pins s σ H _ I h) fun v s1 hv => PyProof.Rows.args_nil ?_) na) na rfl))
  obtain ⟨x, H1, I1, r1, l, xs, rfl, sq, few, q1⟩ := hv
  cases r1
  obtain ⟨its, r, src⟩ : ∃ its : List Value, Vals (xs.map V.str) its ∧ (s1.heap.IsList l its.toArray ∨ s1.heap.IsTuple l its.toArray) := by
    rcases sq with z | z
    · obtain ⟨its, r, pl, _⟩ := I1.list z
      exact ⟨its, r, .inl pl.isList⟩
    · obtain ⟨its, r, pl, _⟩ := I1.tuple z
      exact ⟨its, r, .inr pl⟩
  have len1 : xs.length = its.toArray.size := by rw [List.size_toArray, ← r.length, List.length_map]
  have lenM := (metS_len xs.length xs rfl).1
  refine make_set (I1.ok.hd calm) src (fun i v e => strs_at r i v (by simpa using e)) len1 (by rw [← len1]; unfold scanBound; omega) fun h' tk set1 old => PyProof.Rows.args_nil ?_
  obtain ⟨o, es, ep, t, ho, hex, hd, _, _, _, hf, hn⟩ := set1
  have I2 : Inv X pins σ H1 { s1 with heap := h', toks := tk } := I1.kept fun b o e => old b o (Heap.lt_size e) e
  exact call_len_set ho hex hd hf (by rw [hn]; omega) ⟨.int (metS xs).length, H1, I2.tok _, ⟨_, by rw [hn]⟩, q1⟩
end Gx

/-! own classes made by any call, == by an own __eq__, isinstance of a kept error -/
namespace Gx
open PySem PySem.Spec PyProof.Rows L2 Evl
/-! ### making an instance: n values by place, the keywords ks -/
def tMk (C : Addr) (n m : Nat) (sp : Sp) (gV : List V → List V → List V) (E : L2.St → XK) (t tk : TA) : TE := fun σ H Q => t σ H fun vs H1 => tk σ H1 fun zs H2 => vs.length = n ∧ zs.length = m ∧
  ∀ a dx, H2 a = none → H2 dx = none → dx ≠ a → sp (gV (.ref a :: vs) zs) (upd (upd H2 dx (.own a)) a (.ins C dx [])) (fun v H3 => v = .non ∧ Q (.ref a) H3) (E σ)
structure Ctor (P : Program) (w : World) (K : PySem.W.Frag) (mg : Str → Option Value) (base : Heap) (CX : CXT) (k : Nat) (x : Str) (C : Addr) (n : Nat) (ks : List Str) (gV : List V → List V → List V) (sp : Sp) : Prop where
  ex : ∃ (f : Addr) (fd : FuncData) (ps : List Str) (g : List Value → List Value → List Value), Mk K C f ∧ FnOk P w K mg base CX k f fd ps sp ∧ mg x = some (.ref C) ∧ KBn K fd ps (n + 1) ks g gV
section
variable {X : Cx} {CX : CXT} {k n : Nat} {C : Addr} {ks : List Str} {sp : Sp} {E : L2.St → XK} {x : Str} {p pos : Pos} {e : Expr} {es : List Expr} {kws : List Keyword} {t tk : TA} {gV : List V → List V → List V}
theorem run_mk {pins : List (Addr × Obj)} {σ : L2.St} {H : Hp} {s : Shared} {Q : VK} {us ws : List Value} {vs zs : List V} {f : Addr} {fd : FuncData} {ps : List Str} {g : List Value → List Value → List Value} {E1 : XK} (M : Mk X.K C f) (F : FnOk X.prog X.w X.K X.mg X.base CX k f fd ps sp) (room : Room (k + 1) X.A) (B : KBn X.K fd ps (n + 1) ks g gV)
    (passes : PassesAt CX X σ E1) (I : Inv X pins σ H s) (r : Vals vs us) (rz : Vals zs ws) (len : vs.length = n) (lenk : zs.length = ks.length)
    (hyp : ∀ a dx, H a = none → H dx = none → dx ≠ a → sp (gV (.ref a :: vs) zs) (upd (upd H dx (.own a)) a (.ins C dx [])) (fun v H3 => v = .non ∧ Q (.ref a) H3) E1) :
    wpAny (model X.prog X.w) X.A (call (.ref C) us (ks.zip ws)) (EP X pins σ Q) X.xe s := by
  let N := s.heap.objs.size
  have made := Inv.made (C := C) I
  have ready := hyp (N + 1) N (I.hok.fresh (Nat.le_succ _)) (I.hok.fresh (Nat.le_refl _)) (Nat.ne_of_lt (Nat.lt_succ_self _))
  have self : Vals (V.ref (N + 1) :: vs) (Value.ref (N + 1) :: us) := .cons rfl r
  have many : (Value.ref (N + 1) :: us).length = n + 1 := by rw [← self.length, List.length_cons, len]
  have body := F.run _ X.stack _ _ ⟨Value.ref (N + 1) :: us, ks.zip ws⟩ (g (Value.ref (N + 1) :: us) ws) _ _ E1 (room.make C us (ks.zip ws)) (made.env0.make C us (ks.zip ws)) (B.to _ _ ws made.kIn many (rz.length.symm.trans lenk)) (B.rel self rz) ready
  refine wpAny_call (make_map (f := f) I.kIn M.makes M.init (beq_iff_eq.mp M.fn) (codeAny_mono body fun r t ht => ?_))
  rcases r with e | fl
  · exact passes pins _ _ e t made ht
  cases fl with
  | next => exact False.elim ht
  | brk => exact False.elim ht
  | cont => exact False.elim ht
  | ret u =>
    obtain ⟨v, H3, J, rv, rfl, q⟩ := made.after ht
    exact ⟨rv, V.ref (N + 1), H3, J, rfl, q⟩
/-- C(e, .., k = v, ..) -/
theorem pe_ctor (M : Ctor X.prog X.w X.K X.mg X.base CX k x C n ks gV sp) (room : Room (k + 1) X.A) (gl : Gl X x) (passes : ∀ σ, PassesAt CX X σ (E σ)) (ha : PA X (e :: es) t) (hk : PK X kws tk)
    (all1 : (backToKw pos (keywordEach kws X.env)).all (·.1.isSome) = true := by rfl) (names : (backToKw pos (keywordEach kws X.env)).filterMap (·.1) = ks := by rfl) (ndb : (x == ("__debug__" : Str)) = false := by decide)
    (plain1 : starEach (e :: es) X.env = (false, eval e X.env) :: starEach es X.env := by rfl) (plain2 : ((backTo pos (starEach (e :: es) X.env)).any (·.1) || (backToKw pos (keywordEach kws X.env)).any (·.1.isNone)) = false := by rfl) :
    PE X (.Call (.Name x p) (e :: es) kws pos) (tMk C n ks.length sp gV E t tk) := by
  obtain ⟨f, fd, ps, g, M, F, m, B⟩ := M.ex
  constructor
  intro pins s σ H Q I h
  refine wpAny_Call_Name_kw (ld_glob I gl m (PySem.W.callWith_KW (h₀ := X.base) I.ok.mod.kin M.kp all1 (thn (ha.run pos pins s σ H _ I h) fun us s1 hv => ?_) plain2 plain1) ndb)
  obtain ⟨vs, H1, I1, r1, q1⟩ := hv
  refine thn (hk.run pos pins s1 σ H1 _ I1 q1) fun ws s2 hz => ?_
  obtain ⟨zs, H2, I2, r2, l1, l2, q2⟩ := hz
  exact ⟨I2.kIn, by rw [names]; exact run_mk M F room B (passes σ) I2 r1 r2 l1 l2 q2⟩
/-- C(k = v, ..) -/
theorem pe_ctor0 (M : Ctor X.prog X.w X.K X.mg X.base CX k x C 0 ks gV sp) (room : Room (k + 1) X.A) (gl : Gl X x) (passes : ∀ σ, PassesAt CX X σ (E σ)) (hk : PK X kws tk)
    (all1 : (backToKw pos (keywordEach kws X.env)).all (·.1.isSome) = true := by rfl) (names : (backToKw pos (keywordEach kws X.env)).filterMap (·.1) = ks := by rfl) (ndb : (x == ("__debug__" : Str)) = false := by decide)
    (plain2 : ((backTo pos (starEach [] X.env)).any (·.1) || (backToKw pos (keywordEach kws X.env)).any (·.1.isNone)) = false := by rfl) :
    PE X (.Call (.Name x p) [] kws pos) (tMk C 0 ks.length sp gV E tNil tk) := by
  obtain ⟨f, fd, ps, g, M, F, m, B⟩ := M.ex
  constructor
  intro pins s σ H Q I h
  refine wpAny_Call_Name_kw (ld_glob I gl m (PySem.W.callWith_KW0 (h₀ := X.base) I.ok.mod.kin M.kp all1 (thn (hk.run pos pins s σ H _ I h) fun ws s2 hz => ?_) plain2) ndb)
  obtain ⟨zs, H2, I2, r2, l1, l2, q2⟩ := hz
  exact ⟨I2.kIn, by rw [names]; exact run_mk (us := []) (vs := []) M F room B (passes σ) I2 .nil r2 rfl l2 q2⟩
end
theorem passesAt0 {X : Cx} {σ : L2.St} : PassesAt CX0 X σ E0 := fun _ _ _ _ _ _ h => h.elim
theorem passesAtL {X : Cx} {σ : L2.St} : PassesAt (L2.CX X.prog X.w) X σ E0 := fun _ _ _ _ _ I h => passL _ _ _ _ _ _ I h
/-! ### x == y, x an instance with its own __eq__ -/
def rOwnEq (K : PySem.W.Frag) (C : Addr) (sp : Sp) (E : XK) : R2 := fun x y H Q => ∃ (a dx : Addr) (fs : List (Str × V)) (t : Value), x = .ref a ∧ H a = some (.ins C dx fs) ∧ TyX K H y t ∧ PySem.W.notFirst K C t = true ∧ sp [.ref a, y] H (fun v H' => (∃ b, v = .bl b) ∧ Q v H') E
structure EqC (P : Program) (w : World) (K : PySem.W.Frag) (mg : Str → Option Value) (base : Heap) (CX : CXT) (k : Nat) (C : Addr) (sp : Sp) : Prop where
  ex : ∃ (f : Addr) (fd : FuncData) (ps : List Str), FnOk P w K mg base CX k f fd ps sp ∧ PySem.W.findIn K (.ref C) "__eq__" = some (some (.ref f)) ∧ PySem.W.isFn K (.ref f) = true ∧ Binds K fd ps []
theorem op_ownEq {X : Cx} {CX : CXT} {k : Nat} {C : Addr} {sp : Sp} {E : XK} (M : EqC X.prog X.w X.K X.mg X.base CX k C sp) (room : Room k X.A) (passes : Passes CX X E) : OpR X (compareOp .Eq) (rOwnEq X.K C sp E) := by
  obtain ⟨f, fd, ps, F, at_, fn, B⟩ := M.ex
  intro pins s σ H x y v u Q I rx ry h
  obtain ⟨a, dx, fs, t, rfl, ha, ty, nf, q⟩ := h
  cases rx
  obtain ⟨Pk, Z, pk, -⟩ := kit_of I ry ty
  obtain ⟨mA, J, _⟩ := ins_get I.hok ha
  obtain ⟨od, J, _⟩ := J.look
  obtain ⟨m, fr⟩ := I.fr
  have r2 : Vals [V.ref a, y] [Value.ref a, u] := .cons rfl (.cons ry .nil)
  have lens : [Value.ref a, u].length = ps.length := by rw [← r2.length]; exact F.len _ _ _ _ q
  have bound := B s [.ref a, u] I.kIn (by rw [List.append_nil]; exact lens)
  rw [List.append_nil] at bound
  show wpAny (model X.prog X.w) X.A (richCompare .Eq (.ref a) u) (EP X pins σ Q) X.xe s
  refine PySem.W.cmp_K (op := .Eq) (tb := t) room.units0 fr I.ok.mod.kin J (Z.ty _ _ I.kIn pk) nf at_ fn (wpAny_call (codeAny_mono (F.run X.A X.stack s H ⟨[.ref a, u], []⟩ _ _ _ E room I.env0 bound r2 q) fun r t2 ht => ?_))
  rcases r with e | fl
  · exact passes pins σ H s e t2 I ht
  cases fl with
  | next => exact False.elim ht
  | brk => exact False.elim ht
  | cont => exact False.elim ht
  | ret o =>
    obtain ⟨v, H', J', rv, ⟨b, rfl⟩, q'⟩ := I.after ht
    cases rv
    exact ⟨.bl b, H', J', rfl, q'⟩
/-! ### isinstance of a kept error -/
def rIsX (K : PySem.W.Frag) : List V → Hp → VK → Prop := fun xs H Q => ∃ (a D : Addr) (c : V) (cv : Value) (b : Bool), xs = [.ref a, c] ∧ H a = some (ExK (.ref D) none a) ∧ ExcC K D ∧ ClsV c cv ∧ PySem.W.kitOne K (.ref D) cv = some b ∧ Q (.bl b) H
theorem call_isX {X : Cx} : CallR X (.builtin "isinstance") (rIsX X.K) := by
  intro pins s σ H xs us Q I r h
  obtain ⟨a, D, c, cv, b, rfl, ha, C, hc, e, q⟩ := h
  obtain ⟨u1, u2, rfl, r1, r2⟩ := vals2 r
  cases r1
  obtain rfl := hc.eq r2
  obtain ⟨⟨oe, vs, he, hz, hf⟩, _⟩ := (show ObjOk X.prog X.w H s.heap a (ExK (.ref D) none a) from I.hok a _ ha)
  have J : PySem.W.InstAt s.heap a oe D none := by
    obtain ⟨oc, od, oda, osl⟩ := oe
    obtain ⟨z1, z2⟩ := hz
    dsimp only at z1 z2 hf
    subst z1 z2 hf
    exact ⟨he, rfl, rfl, trivial⟩
  exact PySem.W.kia_one (PySem.W.handS_kitx_exc C.hg C.hk C.hs C.hd C.ha C.hn C.ht C.hm) I.kIn J e (fun z => nomatch z) fun tk => ⟨.bl b, H, I.tok tk, rfl, q⟩
/-! ### bundles: a method, an error's class; raise, try -/
structure Met (P : Program) (w : World) (K : PySem.W.Frag) (mg : Str → Option Value) (base : Heap) (CX : CXT) (k : Nat) (C : Addr) (m : Str) (sp : Sp) : Prop where
  ex : ∃ (f : Addr) (fd : FuncData) (ps : List Str), Cls K C ∧ Meth K C m f ∧ FnOk P w K mg base CX k f fd ps sp ∧ Binds K fd ps []
theorem pe_met0 {X : Cx} {CX : CXT} {k : Nat} {C : Addr} {m : Str} {sp : Sp} {E : XK} {o : Expr} {ta : TE} {apos pos : Pos} {pl : Sem Bool} (M : Met X.prog X.w X.K X.mg X.base CX k C m sp) (room : Room k X.A) (passes : Passes CX X E) (ho : PE X o ta)
    (ht : eval (.Call (.Attribute o m apos) [] [] pos) X.env = (do
      let ov ← eval o X.env
      standAt apos.atName
      let (f, first) ← holding [ov] (getMethod ov m pl)
      callWith pos f first (backTo pos (starEach [] X.env)) (backToKw pos (keywordEach [] X.env))) := by rfl) : PE X (.Call (.Attribute o m apos) [] [] pos) (tMeth C m sp [] E ta tNil) := by
  obtain ⟨f, fd, ps, c, hm, F, B⟩ := M.ex
  exact pe_meth0 (pl := pl) ho c hm F room B .nil passes ht
structure ExC (K : PySem.W.Frag) (mg : Str → Option Value) (x : Str) (C : Addr) : Prop where
  g : mg x = some (.ref C)
  x : PySem.W.excIn K C [.type "ValueError", .type "Exception", .type "BaseException", .type "object"] "ValueError.__new__" = true
  k : PySem.W.keepIn K (.ref C) = true
  b : PySem.W.subIn K (.ref C) (.type "BaseException") = some true
  t : PySem.W.typeIn K (.ref C) = some (.type "type")
theorem ExC.r {X : Cx} {x : Str} {C : Addr} (h : ExC X.K X.mg x C) : Raises X (.ref C) := raises_own h.b h.t
def tRaiseO (C : Addr) (W : WX) : TS := fun _ σ H => W (.ref C) none σ H
def tTryK (K : PySem.W.Frag) (c : Value) (i : Nat) (tb : WX → TS) (ts : Addr → Value → Option Addr → TS) : TS := fun D σ H => tb (wKeep K c i ts D) D σ H
theorem PassesAt.of {CX : CXT} {X : Cx} {σ : L2.St} {E : XK} (h : Passes CX X E) : PassesAt CX X σ E := fun pins H s e s' I c => h pins σ H s e s' I c
end Gx

/-! a text times a number; what is walked, a list or a tuple; slices and sums of tuples -/
namespace Gx
open PySem PySem.Spec PyProof.Rows L2 Evl
def repS (z : Str) (k : Nat) : Str := ⟨((List.replicate k z.cps.toList).flatten).toArray⟩
theorem foldl_app (a : Array Nat) : ∀ (k : Nat) (b : Array Nat), ((List.replicate k a).foldl (· ++ ·) b).toList = b.toList ++ (List.replicate k a.toList).flatten
  | 0, b => by simp
  | k + 1, b => by
    rw [List.replicate_succ, List.foldl_cons, foldl_app a k (b ++ a), List.replicate_succ, List.flatten_cons, Array.toList_append, List.append_assoc]
theorem repS_eq (z : Str) (k : Nat) : (⟨(List.replicate k z.cps).foldl (· ++ ·) #[]⟩ : Str) = repS z k := by
  refine TL.ext_tl ?_
  show ((List.replicate k z.cps).foldl (· ++ ·) #[]).toList = _
  rw [foldl_app]; rfl
theorem repS_one (z : Str) : repS z 1 = z := TL.ext_tl (by show (List.replicate 1 z.cps.toList).flatten = _; simp)
theorem sum_rep : ∀ (k n : Nat), (List.replicate k n).sum = k * n
  | 0, n => by simp
  | k + 1, n => by rw [List.replicate_succ, List.sum_cons, sum_rep k n, Nat.succ_mul, Nat.add_comm]
theorem repS_len (z : Str) (k : Nat) : (repS z k).length = k * z.length := by
  rw [← len_tl]
  show ((List.replicate k z.cps.toList).flatten).length = _
  rw [List.length_flatten, List.map_replicate, sum_rep, len_tl]
theorem repS_mem {z : Str} {k c : Nat} (h : c ∈ (repS z k).cps.toList) : c ∈ z.cps.toList := by
  obtain ⟨l, hl, hc⟩ := List.mem_flatten.mp (show c ∈ (List.replicate k z.cps.toList).flatten from h)
  rw [(List.mem_replicate.mp hl).2] at hc
  exact hc
def rMulS : R2 := fun x y H Q => ∃ (z : Str) (k : Int), x = .str z ∧ y = .int k ∧ 1 ≤ k ∧ k ≤ 1000 ∧ z.length ≤ 1000 ∧ Q (.str (repS z k.toNat)) H
theorem op_mulS {X : Cx} : OpR X (binaryOp .Mult) rMulS := by
  intro pins s σ H x y v u Q I rx ry h
  obtain ⟨z, k, rfl, rfl, k1, k2, hz, q⟩ := h
  obtain ⟨t, rfl⟩ := rx
  obtain ⟨t2, rfl⟩ := ry
  have e63 : (2 ^ 63 : Int) = 9223372036854775808 := by decide
  have prod : z.length * k.toNat ≤ 1000 * 1000 := Nat.mul_le_mul hz (by omega)
  have line : 1000000 ≤ sizeLine := by decide
  refine P.mul_str (by rw [e63, decide_eq_false (by omega), decide_eq_false (by omega)]; rfl) (fun _ _ => ?_) (fun _ _ => ?_) ?_
  · have : (1000 : Int) ≤ (2 ^ 63 - 1) / k := by
      rw [e63]
      refine Int.le_ediv_of_mul_le (by omega) ?_
      omega
    omega
  · unfold Builtin.Str.tooLong
    exact decide_eq_false (by omega)
  · rw [if_neg (by omega)]
    by_cases h1 : (k == 1 || z.length == 0) = true
    · rw [if_pos h1]
      have e : repS z k.toNat = z := by
        rcases Bool.or_eq_true_iff.mp h1 with e | e
        · rw [eq_of_beq e]; exact repS_one z
        · have e0 : z.length = 0 := eq_of_beq e
          have l1 := repS_len z k.toNat
          rw [e0, Nat.mul_zero] at l1
          have a1 : (repS z k.toNat).cps.toList = [] := List.length_eq_zero_iff.mp (by rw [len_tl]; exact l1)
          have a2 : z.cps.toList = [] := List.length_eq_zero_iff.mp (by rw [len_tl]; exact e0)
          exact TL.ext_tl (a1.trans a2.symm)
      rw [e] at q
      exact ⟨.str z, H, I.tok _, ⟨t, rfl⟩, q⟩
    · rw [if_neg h1, repS_eq]
      refine ⟨?_, .str (repS z k.toNat), H, I.tok _, ⟨_, rfl⟩, q⟩
      rw [repS_len, Nat.mul_comm]; omega
/-! ### walked by either rule -/
def iOr (i1 i2 : TI) : TI := fun σ H R => i1 σ H R ∨ i2 σ H R
theorem pi_or {X : Cx} {tg e : Expr} {i1 i2 : TI} (h1 : PI X tg e i1) (h2 : PI X tg e i2) : PI X tg e (iOr i1 i2) := by
  constructor
  intro pins s σ H R I h
  rcases h with h | h
  · exact h1.run pins s σ H R I h
  · exact h2.run pins s σ H R I h
end Gx

/-! steps: one lemma a piece of a reading; alternatives of rules by values -/
namespace Gx
open PySem PySem.Spec PyProof.Rows L2 Evl

/-! ### rules joined -/
def rOr (r1 r2 : R2) : R2 := fun x y H Q => r1 x y H Q ∨ r2 x y H Q
def cOr (r1 r2 : List V → Hp → VK → Prop) : List V → Hp → VK → Prop := fun xs H Q => r1 xs H Q ∨ r2 xs H Q
section
variable {X : Cx}
theorem opOr {f : Value → Value → Sem Value} {r1 r2 : R2} (h1 : OpR X f r1) (h2 : OpR X f r2) : OpR X f (rOr r1 r2) := fun pins s σ H x y v u Q I rx ry h => by
  rcases h with h | h
  · exact h1 pins s σ H x y v u Q I rx ry h
  · exact h2 pins s σ H x y v u Q I rx ry h
theorem callOr {f : Value} {r1 r2 : List V → Hp → VK → Prop} (h1 : CallR X f r1) (h2 : CallR X f r2) : CallR X f (cOr r1 r2) := fun pins s σ H xs us Q I r h => by
  rcases h with h | h
  · exact h1 pins s σ H xs us Q I r h
  · exact h2 pins s σ H xs us Q I r h
end
/-- in the form of the list's rule, the list one that is read -/
def gAdd (K : PySem.W.Frag) : R2 := rOr (rI0 fun i j => .int (i + j)) (rOr (fun x y H Q => ∃ i j, x = .str i ∧ y = .str j ∧ i.length + j.length ≤ sizeLine ∧ Q (.str (i ++ j)) H) (rOr rCat (rCatA K)))
theorem op_gAdd {X : Cx} : OpR X (binaryOp .Add) (gAdd X.K) := opOr op_add (opOr op_add_str (opOr op_cat op_catA))
def gMul : R2 := rOr (rI CMulW fun i j => .int (i * j)) (rOr rRep rMulS)
theorem op_gMul {X : Cx} : OpR X (binaryOp .Mult) gMul := opOr op_mulW (opOr op_rep op_mulS)
def gEq (K : PySem.W.Frag) : R2 := rOr rEq (rEqD K)
theorem op_gEq {X : Cx} (hu : X.A.units + 64 < cLine) : OpR X (compareOp .Eq) (gEq X.K) := opOr op_eq (op_eqD hu)
def gNe (K : PySem.W.Frag) : R2 := rOr rNe (rNeD K)
theorem op_gNe {X : Cx} (hu : X.A.units + 64 < cLine) : OpR X (compareOp .NotEq) (gNe X.K) := opOr op_ne (op_neD hu)
def gLt : R2 := rOr (rI0 fun i j => .bl (decide (i < j))) (fun x y H Q => ∃ i j, x = .str i ∧ y = .str j ∧ Q (.bl (decide (i.cps.toList < j.cps.toList))) H)
theorem op_gLt {X : Cx} : OpR X (compareOp .Lt) gLt := opOr op_lt op_lt_str
def gLe : R2 := rOr (rI0 fun i j => .bl (decide (i ≤ j))) (fun x y H Q => ∃ i j, x = .str i ∧ y = .str j ∧ Q (.bl (!decide (j.cps.toList < i.cps.toList))) H)
theorem op_gLe {X : Cx} : OpR X (compareOp .LtE) gLe := opOr op_le op_le_str
def gGt : R2 := rOr (rI0 fun i j => .bl (decide (j < i))) (fun x y H Q => ∃ i j, x = .str i ∧ y = .str j ∧ Q (.bl (decide (j.cps.toList < i.cps.toList))) H)
theorem op_gGt {X : Cx} : OpR X (compareOp .Gt) gGt := opOr op_gt op_gt_str
def gGe : R2 := rOr (rI0 fun i j => .bl (decide (j ≤ i))) (fun x y H Q => ∃ i j, x = .str i ∧ y = .str j ∧ Q (.bl (!decide (i.cps.toList < j.cps.toList))) H)
theorem op_gGe {X : Cx} : OpR X (compareOp .GtE) gGe := opOr op_ge op_ge_str
/-- one sign in a text -/
def rSgn (neg : Bool) : R2 := fun x y H Q => ∃ (c : Nat) (z : Str), x = .str ⟨#[c]⟩ ∧ y = .str z ∧ Q (.bl (if neg then !decide (c ∈ z.cps.toList) else decide (c ∈ z.cps.toList))) H
def gIn (K : PySem.W.Frag) : R2 := rOr (rIn K false) (rSgn false)
theorem op_gIn {X : Cx} : OpR X (compareOp .In) (gIn X.K) := opOr op_in_seq op_in_sign
def gNi (K : PySem.W.Frag) : R2 := rOr (rIn K true) (rSgn true)
theorem op_gNi {X : Cx} : OpR X (compareOp .NotIn) (gNi X.K) := opOr op_notIn_seq op_notIn_sign
def gLen (K : PySem.W.Frag) : List V → Hp → VK → Prop := cOr (fun xs H Q => ∃ p ys, xs = [.ref p] ∧ (SqL K H p ys ∨ SqT K H p ys) ∧ Q (.int ys.length) H) (fun xs H Q => ∃ z, xs = [.str z] ∧ z.length ≤ sizeLine ∧ Q (.int z.length) H)
theorem call_gLen {X : Cx} : CallR X (.builtin "len") (gLen X.K) := callOr call_len_seq call_len_str
def gIsi (K : PySem.W.Frag) : List V → Hp → VK → Prop := cOr (rIsi K) (cOr (rIsiT K) (rIsX K))
theorem call_gIsi {X : Cx} : CallR X (.builtin "isinstance") (gIsi X.K) := callOr call_isi (callOr call_isiT call_isX)
/-- slices of what is read: a list, a tuple, a text -/
def gSl (K : PySem.W.Frag) : V → Option Int → Option Int → Hp → VK → Prop := fun x lo hi H Q => rSlL K x lo hi H Q ∨ rSlA K x lo hi H Q ∨ rSlS x lo hi H Q
theorem sl_g {X : Cx} : SlR X (gSl X.K) := SlR.or sl_list (SlR.or sl_tupA sl_str)

/-! ### a def as its callers see it -/
structure Cal (P : Program) (w : World) (K : PySem.W.Frag) (mg : Str → Option Value) (base : Heap) (CX : CXT) (k : Nat) (x : Str) (ps : List Str) (dvs : List V) (sp : Sp) : Prop where
  ex : ∃ (f : Addr) (fd : FuncData) (ds : List Value), FnOk P w K mg base CX k f fd ps sp ∧ mg x = some (.ref f) ∧ PySem.W.keepIn K (.ref f) = true ∧ Binds K fd ps ds ∧ Vals dvs ds
theorem pe_cal {X : Cx} {CX : CXT} {k : Nat} {x : Str} {ps : List Str} {dvs : List V} {sp : Sp} {E : XK} {p pos : Pos} {e : Expr} {es : List Expr} {t : TA} (C : Cal X.prog X.w X.K X.mg X.base CX k x ps dvs sp) (hr : Room k X.A) (hg : Gl X x) (hx : Passes CX X E) (ha : PA X (e :: es) t)
    (hdb : (x == ("__debug__" : Str)) = false := by decide) (he : starEach (e :: es) X.env = (false, eval e X.env) :: starEach es X.env := by rfl) (hpl : (backTo pos (starEach es X.env)).any (·.1) = false := by rfl) :
    PE X (.Call (.Name x p) (e :: es) [] pos) (tCall sp dvs E t) := by
  obtain ⟨f, fd, ds, F, m, kp, b, d⟩ := C.ex
  exact pe_call F hr hg m kp b d hx ha hdb he hpl
theorem pe_cal0 {X : Cx} {CX : CXT} {k : Nat} {x : Str} {ps : List Str} {dvs : List V} {sp : Sp} {E : XK} {p pos : Pos} (C : Cal X.prog X.w X.K X.mg X.base CX k x ps dvs sp) (hr : Room k X.A) (hg : Gl X x) (hx : Passes CX X E)
    (hdb : (x == ("__debug__" : Str)) = false := by decide) : PE X (.Call (.Name x p) [] [] pos) (tCall sp dvs E tNil) := by
  obtain ⟨f, fd, ds, F, m, kp, b, d⟩ := C.ex
  exact pe_call0 F hr hg m kp b d hx hdb
/-- f(k = v, ..), all by keywords -/
theorem pe_callK0 {X : Cx} {CX : CXT} {k : Nat} {f : Addr} {fd : FuncData} {ps ks : List Str} {sp : Sp} {E : XK} {x : Str} {p pos : Pos} {kws : List Keyword} {tk : TA} {g : List Value → List Value → List Value} {gV : List V → List V → List V}
    (F : FnOk X.prog X.w X.K X.mg X.base CX k f fd ps sp) (hr : Room k X.A) (hg : Gl X x) (hm : X.mg x = some (.ref f)) (hk : PySem.W.keepIn X.K (.ref f) = true) (hb : KBinds X.K fd ps ks g gV) (hx : Passes CX X E) (hkw : PK X kws tk)
    (hall : (backToKw pos (keywordEach kws X.env)).all (·.1.isSome) = true := by rfl) (hks : (backToKw pos (keywordEach kws X.env)).filterMap (·.1) = ks := by rfl) (hdb : (x == ("__debug__" : Str)) = false := by decide)
    (hpl : ((backTo pos (starEach [] X.env)).any (·.1) || (backToKw pos (keywordEach kws X.env)).any (·.1.isNone)) = false := by rfl) :
    PE X (.Call (.Name x p) [] kws pos) (tCallK sp gV E tNil tk) := by
  refine ⟨fun pins s σ H Q I h => ?_⟩
  refine wpAny_Call_Name_kw (ld_glob I hg hm ?_ hdb)
  refine PySem.W.callWith_KW0 (h₀ := X.base) I.ok.mod.kin hk hall ?_ hpl
  refine thn (hkw.run pos pins s σ H _ I h) fun ws s2 ⟨zs, H2, I2, rz, q2⟩ => ⟨I2.kIn, ?_⟩
  rw [hks]
  exact run_fnk (us := []) (vs := []) F hr hb hx I2 .nil rz q2
structure CalK (P : Program) (w : World) (K : PySem.W.Frag) (mg : Str → Option Value) (base : Heap) (CX : CXT) (k : Nat) (x : Str) (ps ks : List Str) (gV : List V → List V → List V) (sp : Sp) : Prop where
  ex : ∃ (f : Addr) (fd : FuncData) (g : List Value → List Value → List Value), FnOk P w K mg base CX k f fd ps sp ∧ mg x = some (.ref f) ∧ PySem.W.keepIn K (.ref f) = true ∧ KBinds K fd ps ks g gV
theorem pe_calK0 {X : Cx} {CX : CXT} {k : Nat} {x : Str} {ps ks : List Str} {sp : Sp} {E : XK} {p pos : Pos} {kws : List Keyword} {tk : TA} {gV : List V → List V → List V}
    (C : CalK X.prog X.w X.K X.mg X.base CX k x ps ks gV sp) (hr : Room k X.A) (hg : Gl X x) (hx : Passes CX X E) (hkw : PK X kws tk)
    (hall : (backToKw pos (keywordEach kws X.env)).all (·.1.isSome) = true := by rfl) (hks : (backToKw pos (keywordEach kws X.env)).filterMap (·.1) = ks := by rfl) (hdb : (x == ("__debug__" : Str)) = false := by decide)
    (hpl : ((backTo pos (starEach [] X.env)).any (·.1) || (backToKw pos (keywordEach kws X.env)).any (·.1.isNone)) = false := by rfl) :
    PE X (.Call (.Name x p) [] kws pos) (tCallK sp gV E tNil tk) := by
  obtain ⟨f, fd, g, F, m, kp, b⟩ := C.ex
  exact pe_callK0 F hr hg m kp b hx hkw hall hks hdb hpl

theorem cal_of {P : Program} {w : World} {K : PySem.W.Frag} {mg : Str → Option Value} {base : Heap} {CX : CXT} {x qual : Str} {st : Stmt} {f : Addr} {fd : FuncData} {k : Nat} {ps : List Str} {sp : Sp} (F : Fun K x qual st f fd) (ok : FnOk P w K mg base CX k f fd ps sp) (m : mg x = some (.ref f)) (b : Binds K fd ps []) : Cal P w K mg base CX k x ps [] sp := ⟨f, fd, [], ok, m, F.kp, b, .nil⟩
theorem _root_.L2.Fun.kbindsF {K : PySem.W.Frag} {x qual : Str} {st : Stmt} {f : Addr} {fd : FuncData} {ps ks : List Str} (F : Fun K x qual st f fd)
    (h : ∀ (kV doc pm : Value) (an : Option Addr) (cdv ct : Value) (us ws : List Value), (us ++ ws).length = ps.length → bindArgs (PySem.W.fnOf x qual (defArgs st) (defBody st) (defScope st) .none kV doc pm an cdv ct) ⟨us, ks.zip ws⟩ = pure (ps.zip (us ++ ws))) : KBinds K fd ps ks (fun us ws => us ++ ws) (fun vs zs => vs ++ zs) := by
  obtain ⟨oc, od, kV, doc, pm, an, cdv, ct, osl, rfl, lk, hcd⟩ := F.ex
  exact ⟨fun s us ws _ hl => .of_eq (h kV doc pm an cdv ct us ws hl), fun r1 r2 => r1.append r2⟩
theorem calk_of {P : Program} {w : World} {K : PySem.W.Frag} {mg : Str → Option Value} {base : Heap} {CX : CXT} {x qual : Str} {st : Stmt} {f : Addr} {fd : FuncData} {k : Nat} {ps ks : List Str} {sp : Sp} {g : List Value → List Value → List Value} {gV : List V → List V → List V} (F : Fun K x qual st f fd) (ok : FnOk P w K mg base CX k f fd ps sp) (m : mg x = some (.ref f)) (b : KBinds K fd ps ks g gV) : CalK P w K mg base CX k x ps ks gV sp := ⟨f, fd, g, ok, m, F.kp, b⟩

/-! ### steps -/
section
variable {K : PySem.W.Frag} {σ : L2.St} {H : Hp} {Q : VK} {D : Ends} {ta tb tc te : TE} {x y v : V} {t u : TS} {tt uu : TT} {QB : Bool → Hp → Prop} {A B : Prop} {b c : Bool} {QL : List V → Hp → Prop}
theorem c_seq (h : t { D with nx := u D } σ H) : tSeq t u D σ H := h
theorem c_next (h : D.nx σ H) : tNext D σ H := h
theorem c_brk (h : D.bk σ H) : tBreak D σ H := h
theorem c_cont (h : D.ct σ H) : tCont D σ H := h
theorem c_drop (h : te σ H fun _ H1 => D.nx σ H1) : tDrop te D σ H := h
theorem c_ret (h : te σ H D.rt) : tRet te D σ H := h
theorem c_retN (h : D.rt .non H) : tRetN D σ H := h
theorem c_ifs (h : tt σ H fun b H1 => if b = true then t D σ H1 else u D σ H1) : tIfS tt t u D σ H := h
theorem c_asgG {g : TG} (h : te σ H fun x H1 => g x σ H1 D.nx) : tAsg te g D σ H := h
theorem c_c (h : Q v H) : tC v σ H Q := h
theorem c_op {r : R2} (h : ta σ H fun x H1 => tb σ H1 fun y H2 => r x y H2 Q) : tOp r ta tb σ H Q := h
theorem c_un {r : V → Hp → VK → Prop} (h : ta σ H fun x H1 => r x H1 Q) : tUn r ta σ H Q := h
theorem c_cb {r : List V → Hp → VK → Prop} {ta : TA} (h : ta σ H fun vs H1 => r vs H1 Q) : tCB r ta σ H Q := h
theorem c_nil (h : QL [] H) : tNil σ H QL := h
theorem c_cons {tr : TA} (h : ta σ H fun x H1 => tr σ H1 fun xs H2 => QL (x :: xs) H2) : tCons ta tr σ H QL := h
theorem c_call {sp : Sp} {dvs : List V} {E : XK} {ta : TA} (h : ta σ H fun vs H1 => sp (vs ++ dvs) H1 Q E) : tCall sp dvs E ta σ H Q := h
theorem c_callK {sp : Sp} {gV : List V → List V → List V} {E : XK} {ta tk : TA} (h : ta σ H fun vs H1 => tk σ H1 fun zs H2 => sp (gV vs zs) H2 Q E) : tCallK sp gV E ta tk σ H Q := h
theorem c_test (h : te σ H fun x H' => ∃ k, x = .bl k ∧ QB k H') : tTest te σ H QB := h
theorem c_tB (h : te σ H fun x H' => ∃ k, x = .bl k ∧ QB k H') : tB te σ H QB := h
theorem c_bl (h : QB b H) : ∃ k, V.bl b = .bl k ∧ QB k H := ⟨b, rfl, h⟩
theorem c_and (h : tt σ H fun c H1 => if c = true then uu σ H1 QB else QB false H1) : tAnd tt uu σ H QB := h
theorem c_or (h : tt σ H fun c H1 => if c = true then QB true H1 else uu σ H1 QB) : tOr tt uu σ H QB := h
theorem c_not (h : tt σ H fun c H1 => QB (!c) H1) : tNot tt σ H QB := h
theorem c_andV (h : ta σ H fun x H1 => ∃ c, x = .bl c ∧ if c = true then tb σ H1 Q else Q (.bl false) H1) : tAndV ta tb σ H Q := h
theorem c_orV (h : ta σ H fun x H1 => ∃ c, x = .bl c ∧ if c = true then Q (.bl true) H1 else tb σ H1 Q) : tOrV ta tb σ H Q := h
theorem c_notV (h : ta σ H fun x H1 => ∃ c, x = .bl c ∧ Q (.bl (!c)) H1) : tNotV ta σ H Q := h
theorem c_blP {R : Bool → Prop} (h : R b) : ∃ c, V.bl b = .bl c ∧ R c := ⟨b, rfl, h⟩
theorem c_if (h : tt σ H fun c H1 => if c = true then ta σ H1 Q else tb σ H1 Q) : tIf tt ta tb σ H Q := h
theorem c_chain {r r' : R2} (h : ta σ H fun x H1 => tb σ H1 fun y H2 => r x y H2 fun z H3 => ∃ k, z = .bl k ∧ if k = true then tc σ H3 fun y' H4 => r' y y' H4 Q else Q (.bl false) H3) : tChain r r' ta tb tc σ H Q := h
theorem c_sl {r : V → Option Int → Option Int → Hp → VK → Prop} {tl th : TO} (h : te σ H fun x H1 => tl σ H1 fun l H2 => th σ H2 fun u H3 => r x l u H3 Q) : tSl r te tl th σ H Q := h
theorem c_nop {QO : Option Int → Hp → Prop} (h : QO none H) : tNoPart σ H QO := h
theorem c_part {QO : Option Int → Hp → Prop} (h : te σ H fun x H1 => ∃ i, x = .int i ∧ QO (some i) H1) : tPart te σ H QO := h
theorem c_parti {i : Int} {R : Int → Prop} (h : R i) : ∃ j, V.int i = .int j ∧ R j := ⟨i, rfl, h⟩
def LK (Q : VK) (xs : List V) (H : Hp) : Prop := xs.length ≤ sizeLine ∧ ∀ p, H p = none → Q (.ref p) (upd H p (.lst xs))
def TK (Q : VK) (xs : List V) (H : Hp) : Prop := xs.length ≤ sizeLine ∧ ∀ p, H p = none → Q (.ref p) (upd H p (.tup xs))
theorem c_lst {ta : TA} (h : ta σ H fun xs H1 => LK Q xs H1) : tLst ta σ H Q := h
theorem c_lstE {xs : List V} (hl : xs.length ≤ 100000) (h : ∀ p H', H p = none → Ex H H' → H' p = some (.lst xs) → Q (.ref p) H') : LK Q xs H := ⟨sz_of hl, fun p hp => h p _ hp (Ex.new hp) upd_same⟩
theorem c_tup {ta : TA} (h : ta σ H fun xs H1 => TK Q xs H1) : tTup ta σ H Q := h
theorem c_tupE {xs : List V} (hl : xs.length ≤ 100000) (h : ∀ p H', H p = none → Ex H H' → H' p = some (.tup xs) → Q (.ref p) H') : TK Q xs H := ⟨sz_of hl, fun p hp => h p _ hp (Ex.new hp) upd_same⟩
theorem c_isn (h : Q (.bl (decide (x = .non))) H) : rIsN x .non H Q := ⟨rfl, h⟩
theorem c_notn (h : Q (.bl (!decide (x = .non))) H) : rNotN x .non H Q := ⟨rfl, h⟩
/-! ways -/
theorem c_t (h : A) : if true = true then A else B := by rw [if_pos rfl]; exact h
theorem c_f (h : B) : if false = true then A else B := by rw [if_neg Bool.false_ne_true]; exact h
theorem c_2 (h1 : b = true → A) (h2 : b = false → B) : if b = true then A else B := by
  cases b with
  | true => exact c_t (h1 rfl)
  | false => exact c_f (h2 rfl)
theorem c_d {p : Prop} [Decidable p] (h1 : p → A) (h2 : ¬p → B) : if decide p = true then A else B := c_2 (fun e => h1 (of_decide_eq_true e)) (fun e => h2 (of_decide_eq_false e))
theorem c_nd {p : Prop} [Decidable p] (h1 : ¬p → A) (h2 : p → B) : if (!decide p) = true then A else B := c_2 (fun e => h1 (by simpa using e)) (fun e => h2 (by simpa using e))
/-! operators by values -/
theorem g_add_i {i j : Int} (h : Q (.int (i + j)) H) : gAdd K (.int i) (.int j) H Q := .inl ⟨i, j, rfl, rfl, h⟩
theorem g_add_s {i j : Str} (hl : i.length + j.length ≤ 100000) (h : Q (.str (i ++ j)) H) : gAdd K (.str i) (.str j) H Q := .inr (.inl ⟨i, j, rfl, rfl, sz_of hl, h⟩)
theorem g_add_l {p q : Addr} {xs ys : List V} (hp : H p = some (.lst xs)) (hq : H q = some (.lst ys)) (hl : xs.length + ys.length ≤ 100000) (h : ∀ r H', H r = none → Ex H H' → H' r = some (.lst (xs ++ ys)) → Q (.ref r) H') : gAdd K (.ref p) (.ref q) H Q :=
  .inr (.inr (.inl ⟨p, q, xs, ys, rfl, rfl, hp, hq, sz_of hl, fun r hr => h r _ hr (Ex.new hr) upd_same⟩))
theorem g_sub_i {i j : Int} (h : Q (.int (i - j)) H) : rI0 (fun i j => .int (i - j)) (.int i) (.int j) H Q := ⟨i, j, rfl, rfl, h⟩
theorem g_mul_i {i j : Int} (hc : CMulW i j) (h : Q (.int (i * j)) H) : gMul (.int i) (.int j) H Q := .inl ⟨i, j, rfl, rfl, hc, h⟩
theorem g_fdiv_i {i j : Int} (hc : CDivW i j) (h : Q (.int (i / j)) H) : rI CDivW (fun i j => .int (i / j)) (.int i) (.int j) H Q := ⟨i, j, rfl, rfl, hc, h⟩
theorem g_mod_i {i j : Int} (hc : 0 < j) (h : Q (.int (i % j)) H) : rI (fun _ j => 0 < j) (fun i j => .int (i % j)) (.int i) (.int j) H Q := ⟨i, j, rfl, rfl, hc, h⟩
theorem g_pow_i {i j : Int} (hc : CPow i j) (h : Q (.int (i ^ j.toNat)) H) : rI CPow (fun i j => .int (i ^ j.toNat)) (.int i) (.int j) H Q := ⟨i, j, rfl, rfl, hc, h⟩
theorem g_eq_s (hs : scal x y = true) (h : Q (.bl (decide (x = y))) H) : gEq K x y H Q := .inl ⟨hs, h⟩
theorem v_int {i j : Int} : decide (V.int i = V.int j) = decide (i = j) := by
  rw [decide_eq_decide]; exact ⟨V.int.inj, fun e => e ▸ rfl⟩
theorem v_str {i j : Str} : decide (V.str i = V.str j) = decide (i = j) := by
  rw [decide_eq_decide]; exact ⟨V.str.inj, fun e => e ▸ rfl⟩
theorem v_bl {i j : Bool} : decide (V.bl i = V.bl j) = decide (i = j) := by
  rw [decide_eq_decide]; exact ⟨V.bl.inj, fun e => e ▸ rfl⟩
theorem g_eq_i {i j : Int} (h : Q (.bl (decide (i = j))) H) : gEq K (.int i) (.int j) H Q := .inl ⟨rfl, by rw [v_int]; exact h⟩
theorem g_eq_st {i j : Str} (h : Q (.bl (decide (i = j))) H) : gEq K (.str i) (.str j) H Q := .inl ⟨rfl, by rw [v_str]; exact h⟩
theorem g_eq_b {i j : Bool} (h : Q (.bl (decide (i = j))) H) : gEq K (.bl i) (.bl j) H Q := .inl ⟨rfl, by rw [v_bl]; exact h⟩
theorem g_ne_i {i j : Int} (h : Q (.bl (!decide (i = j))) H) : gNe K (.int i) (.int j) H Q := .inl ⟨rfl, by rw [v_int]; exact h⟩
theorem g_ne_st {i j : Str} (h : Q (.bl (!decide (i = j))) H) : gNe K (.str i) (.str j) H Q := .inl ⟨rfl, by rw [v_str]; exact h⟩
theorem g_ne_b {i j : Bool} (h : Q (.bl (!decide (i = j))) H) : gNe K (.bl i) (.bl j) H Q := .inl ⟨rfl, by rw [v_bl]; exact h⟩
theorem g_eq_d {d e : PyData} (hd : Dp K H x d) (he : Dp K H y e) (s1 : SeqAt.shaped d = true) (s2 : SeqAt.shaped e = true) (h : Q (.bl (PyData.eqv d e)) H) : gEq K x y H Q := .inr ⟨d, e, hd, he, s1, s2, h⟩
theorem g_ne_d {d e : PyData} (hd : Dp K H x d) (he : Dp K H y e) (s1 : SeqAt.shaped d = true) (s2 : SeqAt.shaped e = true) (h : Q (.bl (!PyData.eqv d e)) H) : gNe K x y H Q := .inr ⟨d, e, hd, he, s1, s2, h⟩
theorem g_lt_i {i j : Int} (h : Q (.bl (decide (i < j))) H) : gLt (.int i) (.int j) H Q := .inl ⟨i, j, rfl, rfl, h⟩
theorem g_le_i {i j : Int} (h : Q (.bl (decide (i ≤ j))) H) : gLe (.int i) (.int j) H Q := .inl ⟨i, j, rfl, rfl, h⟩
theorem g_gt_i {i j : Int} (h : Q (.bl (decide (j < i))) H) : gGt (.int i) (.int j) H Q := .inl ⟨i, j, rfl, rfl, h⟩
theorem g_ge_i {i j : Int} (h : Q (.bl (decide (j ≤ i))) H) : gGe (.int i) (.int j) H Q := .inl ⟨i, j, rfl, rfl, h⟩
theorem g_le_s {i j : Str} (h : Q (.bl (!decide (j.cps.toList < i.cps.toList))) H) : gLe (.str i) (.str j) H Q := .inr ⟨i, j, rfl, rfl, h⟩
theorem g_in_l {p : Addr} {xs : List V} (hp : SqL K H p xs ∨ SqT K H p xs) (hx : flatV x = true) (hf : xs.all flatV = true) (h : Q (.bl (inV x xs)) H) : gIn K x (.ref p) H Q := .inl ⟨p, xs, rfl, hp, hx, hf, h⟩
theorem g_ni_l {p : Addr} {xs : List V} (hp : SqL K H p xs ∨ SqT K H p xs) (hx : flatV x = true) (hf : xs.all flatV = true) (h : Q (.bl (!inV x xs)) H) : gNi K x (.ref p) H Q := .inl ⟨p, xs, rfl, hp, hx, hf, h⟩
theorem g_in_s {c : Nat} {z : Str} (h : Q (.bl (decide (c ∈ z.cps.toList))) H) : gIn K (.str ⟨#[c]⟩) (.str z) H Q := .inr ⟨c, z, rfl, rfl, h⟩
theorem g_ni_s {c : Nat} {z : Str} (h : Q (.bl (!decide (c ∈ z.cps.toList))) H) : gNi K (.str ⟨#[c]⟩) (.str z) H Q := .inr ⟨c, z, rfl, rfl, h⟩
theorem g_len_l {p : Addr} {xs : List V} (hp : SqL K H p xs ∨ SqT K H p xs) (h : Q (.int xs.length) H) : gLen K [.ref p] H Q := .inl ⟨p, xs, rfl, hp, h⟩
theorem g_len_s {z : Str} (hz : z.length ≤ 100000) (h : Q (.int z.length) H) : gLen K [.str z] H Q := .inr ⟨z, rfl, sz_of hz, h⟩
theorem g_ix_l {p : Addr} {xs : List V} {i : Int} (hp : SqL K H p xs) (hi : atI xs i = some v) (h : Q v H) : rIx K (.ref p) (.int i) H Q := .inl ⟨p, xs, i, v, rfl, rfl, hp, hi, h⟩
theorem g_ix_t {p : Addr} {xs : List V} {i : Int} (hp : SqT K H p xs) (hi : atI xs i = some v) (h : Q v H) : rIx K (.ref p) (.int i) H Q := .inr (.inl ⟨p, xs, i, v, rfl, rfl, hp, hi, h⟩)
theorem g_ix_s {z : Str} {i : Int} {c : Nat} (hz : z.length ≤ 100000) (hi : atI z.cps.toList i = some c) (h : Q (.str ⟨#[c]⟩) H) : rIx K (.str z) (.int i) H Q := .inr (.inr ⟨z, i, c, rfl, rfl, sz_of hz, hi, h⟩)
theorem g_sl_l {p : Addr} {xs : List V} {lo hi : Option Int} (hp : SqL K H p xs) (h : ∀ r H', H r = none → Ex H H' → H' r = some (.lst (cutV xs lo hi)) → Q (.ref r) H') : gSl K (.ref p) lo hi H Q :=
  .inl ⟨p, xs, rfl, hp, fun r hr => h r _ hr (Ex.new hr) upd_same⟩
theorem g_sl_s {z : Str} {lo hi : Option Int} (hz : z.length ≤ 100000) (h : Q (.str (cutS z lo hi)) H) : gSl K (.str z) lo hi H Q := .inr (.inr ⟨z, rfl, sz_of hz, h⟩)
theorem g_neg {i : Int} (h : Q (.int (-i)) H) : rU (fun i => .int (-i)) (.int i) H Q := ⟨i, rfl, h⟩
theorem g_isi {t u : Value} {cc : V} {b : Bool} (hc : ClsV cc u) (ht : TyX K H x t) (hk : PySem.W.kitOne K t u = some b) (h : Q (.bl b) H) : gIsi K [x, cc] H Q := .inl ⟨x, cc, t, u, b, rfl, hc, ht, hk, h⟩
theorem g_isiT {tp : Addr} {cs : List V} {t : Value} {us : List Value} {b : Bool} (hp : H tp = some (.tup cs)) (hc : Paired ClsV cs us) (ht : TyX K H x t) (hk : PySem.W.kitAny K t us = some b) (h : Q (.bl b) H) : gIsi K [x, .ref tp] H Q := .inr (.inl ⟨x, tp, cs, t, us, b, rfl, hp, hc, ht, hk, h⟩)
theorem g_isx {a D : Addr} {cc : V} {u : Value} {b : Bool} (ha : H a = some (ExK (.ref D) none a)) (C : ExcC K D) (hc : ClsV cc u) (hk : PySem.W.kitOne K (.ref D) u = some b) (h : Q (.bl b) H) : gIsi K [.ref a, cc] H Q := .inr (.inr ⟨a, D, cc, u, b, rfl, ha, C, hc, hk, h⟩)
theorem g_add_t {p q : Addr} {xs ys : List V} (hp : SqT K H p xs) (hq : SqT K H q ys) (hl : xs.length + ys.length ≤ 100000) (h : ∀ r H', Ex H H' → SqT K H' r (xs ++ ys) → Q (.ref r) H') : gAdd K (.ref p) (.ref q) H Q :=
  .inr (.inr (.inr ⟨p, q, xs, ys, rfl, rfl, hp, hq, sz_of hl, fun e => h q H (Ex.refl _) (by rw [e]; exact hq), fun _ e => h p H (Ex.refl _) (by rw [e, List.append_nil]; exact hp), fun _ _ r hr => h r _ (Ex.new hr) (.inl (.inl upd_same))⟩))
theorem g_rep {p : Addr} {xs : List V} {k : Int} (hp : H p = some (.lst xs)) (k0 : 0 ≤ k) (k1 : k ≤ 1000) (hl : xs.length ≤ 1000) (h : ∀ r H', H r = none → Ex H H' → H' r = some (.lst (List.replicate k.toNat xs).flatten) → Q (.ref r) H') : gMul (.ref p) (.int k) H Q :=
  .inr (.inl ⟨p, k, xs, rfl, rfl, hp, by omega, by omega, Nat.le_trans (Nat.mul_le_mul hl (show k.toNat ≤ 1000 by omega)) (by decide), fun r hr => h r _ hr (Ex.new hr) upd_same⟩)
theorem g_mul_s {z : Str} {k : Int} (k1 : 1 ≤ k) (k2 : k ≤ 1000) (hz : z.length ≤ 1000) (h : Q (.str (repS z k.toNat)) H) : gMul (.str z) (.int k) H Q := .inr (.inr ⟨z, k, rfl, rfl, k1, k2, hz, h⟩)
theorem g_sl_t {p : Addr} {xs : List V} {lo hi : Option Int} (hp : SqT K H p xs) (h : ∀ r H', Ex H H' → SqT K H' r (cutV xs lo hi) → Q (.ref r) H') : gSl K (.ref p) lo hi H Q :=
  .inr (.inl ⟨p, xs, rfl, hp, fun e => h p H (Ex.refl _) (by
    have z : cutV xs lo hi = xs := by unfold cutV; rw [e.1, e.2]; simp
    rw [z]; exact hp), fun _ r hr => h r _ (Ex.new hr) (.inl (.inl upd_same))⟩)
theorem g_all {p : Addr} {bs : List Bool} (hp : SqL K H p (bs.map V.bl)) (h : Q (.bl (bs.all id)) H) : rAll K [.ref p] H Q := ⟨p, bs, rfl, hp, h⟩
theorem g_any {p : Addr} {bs : List Bool} (hp : SqL K H p (bs.map V.bl)) (h : Q (.bl (bs.any id)) H) : rAny K [.ref p] H Q := ⟨p, bs, rfl, hp, h⟩
/-- len of what is handed on -/
theorem sq_l {p : Addr} {xs : List V} (h : H p = some (.lst xs)) : SqL K H p xs := .inl (.inl h)
theorem sq_t {p : Addr} {xs : List V} (h : H p = some (.tup xs)) : SqT K H p xs := .inl (.inl h)
theorem sq_kt {p : Addr} {xs : List V} {o : Obj} {u : HO} (h : SqL K H p xs) : SqL K H p xs ∨ SqT K H p xs := .inl h

theorem c_var0 {l : L2.St} (h : Q v H) : tVar 0 (some v :: l) H Q := ⟨v, rfl, h⟩
theorem c_asg0 {o : Option V} {l : L2.St} (h : te (o :: l) H fun v H1 => D.nx (some v :: l) H1) : tAsg te (gName 0) D (o :: l) H := h
theorem c_nam0 {o : Option V} {l : L2.St} {QS : L2.St → Hp → Prop} (h : QS (some v :: l) H) : gName 0 v (o :: l) H QS := h
theorem c_var1 {a0 : Option V} {l : L2.St} (h : Q v H) : tVar 1 (a0 :: some v :: l) H Q := ⟨v, rfl, h⟩
theorem c_asg1 {a0 : Option V} {o : Option V} {l : L2.St} (h : te (a0 :: o :: l) H fun v H1 => D.nx (a0 :: some v :: l) H1) : tAsg te (gName 1) D (a0 :: o :: l) H := h
theorem c_nam1 {a0 : Option V} {o : Option V} {l : L2.St} {QS : L2.St → Hp → Prop} (h : QS (a0 :: some v :: l) H) : gName 1 v (a0 :: o :: l) H QS := h
theorem c_var2 {a0 a1 : Option V} {l : L2.St} (h : Q v H) : tVar 2 (a0 :: a1 :: some v :: l) H Q := ⟨v, rfl, h⟩
theorem c_asg2 {a0 a1 : Option V} {o : Option V} {l : L2.St} (h : te (a0 :: a1 :: o :: l) H fun v H1 => D.nx (a0 :: a1 :: some v :: l) H1) : tAsg te (gName 2) D (a0 :: a1 :: o :: l) H := h
theorem c_nam2 {a0 a1 : Option V} {o : Option V} {l : L2.St} {QS : L2.St → Hp → Prop} (h : QS (a0 :: a1 :: some v :: l) H) : gName 2 v (a0 :: a1 :: o :: l) H QS := h
theorem c_var3 {a0 a1 a2 : Option V} {l : L2.St} (h : Q v H) : tVar 3 (a0 :: a1 :: a2 :: some v :: l) H Q := ⟨v, rfl, h⟩
theorem c_asg3 {a0 a1 a2 : Option V} {o : Option V} {l : L2.St} (h : te (a0 :: a1 :: a2 :: o :: l) H fun v H1 => D.nx (a0 :: a1 :: a2 :: some v :: l) H1) : tAsg te (gName 3) D (a0 :: a1 :: a2 :: o :: l) H := h
theorem c_nam3 {a0 a1 a2 : Option V} {o : Option V} {l : L2.St} {QS : L2.St → Hp → Prop} (h : QS (a0 :: a1 :: a2 :: some v :: l) H) : gName 3 v (a0 :: a1 :: a2 :: o :: l) H QS := h
theorem c_var4 {a0 a1 a2 a3 : Option V} {l : L2.St} (h : Q v H) : tVar 4 (a0 :: a1 :: a2 :: a3 :: some v :: l) H Q := ⟨v, rfl, h⟩
theorem c_asg4 {a0 a1 a2 a3 : Option V} {o : Option V} {l : L2.St} (h : te (a0 :: a1 :: a2 :: a3 :: o :: l) H fun v H1 => D.nx (a0 :: a1 :: a2 :: a3 :: some v :: l) H1) : tAsg te (gName 4) D (a0 :: a1 :: a2 :: a3 :: o :: l) H := h
theorem c_nam4 {a0 a1 a2 a3 : Option V} {o : Option V} {l : L2.St} {QS : L2.St → Hp → Prop} (h : QS (a0 :: a1 :: a2 :: a3 :: some v :: l) H) : gName 4 v (a0 :: a1 :: a2 :: a3 :: o :: l) H QS := h
theorem c_var5 {a0 a1 a2 a3 a4 : Option V} {l : L2.St} (h : Q v H) : tVar 5 (a0 :: a1 :: a2 :: a3 :: a4 :: some v :: l) H Q := ⟨v, rfl, h⟩
theorem c_asg5 {a0 a1 a2 a3 a4 : Option V} {o : Option V} {l : L2.St} (h : te (a0 :: a1 :: a2 :: a3 :: a4 :: o :: l) H fun v H1 => D.nx (a0 :: a1 :: a2 :: a3 :: a4 :: some v :: l) H1) : tAsg te (gName 5) D (a0 :: a1 :: a2 :: a3 :: a4 :: o :: l) H := h
theorem c_nam5 {a0 a1 a2 a3 a4 : Option V} {o : Option V} {l : L2.St} {QS : L2.St → Hp → Prop} (h : QS (a0 :: a1 :: a2 :: a3 :: a4 :: some v :: l) H) : gName 5 v (a0 :: a1 :: a2 :: a3 :: a4 :: o :: l) H QS := h
theorem c_var6 {a0 a1 a2 a3 a4 a5 : Option V} {l : L2.St} (h : Q v H) : tVar 6 (a0 :: a1 :: a2 :: a3 :: a4 :: a5 :: some v :: l) H Q := ⟨v, rfl, h⟩
theorem c_asg6 {a0 a1 a2 a3 a4 a5 : Option V} {o : Option V} {l : L2.St} (h : te (a0 :: a1 :: a2 :: a3 :: a4 :: a5 :: o :: l) H fun v H1 => D.nx (a0 :: a1 :: a2 :: a3 :: a4 :: a5 :: some v :: l) H1) : tAsg te (gName 6) D (a0 :: a1 :: a2 :: a3 :: a4 :: a5 :: o :: l) H := h
theorem c_nam6 {a0 a1 a2 a3 a4 a5 : Option V} {o : Option V} {l : L2.St} {QS : L2.St → Hp → Prop} (h : QS (a0 :: a1 :: a2 :: a3 :: a4 :: a5 :: some v :: l) H) : gName 6 v (a0 :: a1 :: a2 :: a3 :: a4 :: a5 :: o :: l) H QS := h
theorem c_var7 {a0 a1 a2 a3 a4 a5 a6 : Option V} {l : L2.St} (h : Q v H) : tVar 7 (a0 :: a1 :: a2 :: a3 :: a4 :: a5 :: a6 :: some v :: l) H Q := ⟨v, rfl, h⟩
theorem c_asg7 {a0 a1 a2 a3 a4 a5 a6 : Option V} {o : Option V} {l : L2.St} (h : te (a0 :: a1 :: a2 :: a3 :: a4 :: a5 :: a6 :: o :: l) H fun v H1 => D.nx (a0 :: a1 :: a2 :: a3 :: a4 :: a5 :: a6 :: some v :: l) H1) : tAsg te (gName 7) D (a0 :: a1 :: a2 :: a3 :: a4 :: a5 :: a6 :: o :: l) H := h
theorem c_nam7 {a0 a1 a2 a3 a4 a5 a6 : Option V} {o : Option V} {l : L2.St} {QS : L2.St → Hp → Prop} (h : QS (a0 :: a1 :: a2 :: a3 :: a4 :: a5 :: a6 :: some v :: l) H) : gName 7 v (a0 :: a1 :: a2 :: a3 :: a4 :: a5 :: a6 :: o :: l) H QS := h
theorem c_var8 {a0 a1 a2 a3 a4 a5 a6 a7 : Option V} {l : L2.St} (h : Q v H) : tVar 8 (a0 :: a1 :: a2 :: a3 :: a4 :: a5 :: a6 :: a7 :: some v :: l) H Q := ⟨v, rfl, h⟩
theorem c_asg8 {a0 a1 a2 a3 a4 a5 a6 a7 : Option V} {o : Option V} {l : L2.St} (h : te (a0 :: a1 :: a2 :: a3 :: a4 :: a5 :: a6 :: a7 :: o :: l) H fun v H1 => D.nx (a0 :: a1 :: a2 :: a3 :: a4 :: a5 :: a6 :: a7 :: some v :: l) H1) : tAsg te (gName 8) D (a0 :: a1 :: a2 :: a3 :: a4 :: a5 :: a6 :: a7 :: o :: l) H := h
theorem c_nam8 {a0 a1 a2 a3 a4 a5 a6 a7 : Option V} {o : Option V} {l : L2.St} {QS : L2.St → Hp → Prop} (h : QS (a0 :: a1 :: a2 :: a3 :: a4 :: a5 :: a6 :: a7 :: some v :: l) H) : gName 8 v (a0 :: a1 :: a2 :: a3 :: a4 :: a5 :: a6 :: a7 :: o :: l) H QS := h
theorem c_var9 {a0 a1 a2 a3 a4 a5 a6 a7 a8 : Option V} {l : L2.St} (h : Q v H) : tVar 9 (a0 :: a1 :: a2 :: a3 :: a4 :: a5 :: a6 :: a7 :: a8 :: some v :: l) H Q := ⟨v, rfl, h⟩
theorem c_asg9 {a0 a1 a2 a3 a4 a5 a6 a7 a8 : Option V} {o : Option V} {l : L2.St} (h : te (a0 :: a1 :: a2 :: a3 :: a4 :: a5 :: a6 :: a7 :: a8 :: o :: l) H fun v H1 => D.nx (a0 :: a1 :: a2 :: a3 :: a4 :: a5 :: a6 :: a7 :: a8 :: some v :: l) H1) : tAsg te (gName 9) D (a0 :: a1 :: a2 :: a3 :: a4 :: a5 :: a6 :: a7 :: a8 :: o :: l) H := h
theorem c_nam9 {a0 a1 a2 a3 a4 a5 a6 a7 a8 : Option V} {o : Option V} {l : L2.St} {QS : L2.St → Hp → Prop} (h : QS (a0 :: a1 :: a2 :: a3 :: a4 :: a5 :: a6 :: a7 :: a8 :: some v :: l) H) : gName 9 v (a0 :: a1 :: a2 :: a3 :: a4 :: a5 :: a6 :: a7 :: a8 :: o :: l) H QS := h
theorem c_var10 {a0 a1 a2 a3 a4 a5 a6 a7 a8 a9 : Option V} {l : L2.St} (h : Q v H) : tVar 10 (a0 :: a1 :: a2 :: a3 :: a4 :: a5 :: a6 :: a7 :: a8 :: a9 :: some v :: l) H Q := ⟨v, rfl, h⟩
theorem c_asg10 {a0 a1 a2 a3 a4 a5 a6 a7 a8 a9 : Option V} {o : Option V} {l : L2.St} (h : te (a0 :: a1 :: a2 :: a3 :: a4 :: a5 :: a6 :: a7 :: a8 :: a9 :: o :: l) H fun v H1 => D.nx (a0 :: a1 :: a2 :: a3 :: a4 :: a5 :: a6 :: a7 :: a8 :: a9 :: some v :: l) H1) : tAsg te (gName 10) D (a0 :: a1 :: a2 :: a3 :: a4 :: a5 :: a6 :: a7 :: a8 :: a9 :: o :: l) H := h
theorem c_nam10 {a0 a1 a2 a3 a4 a5 a6 a7 a8 a9 : Option V} {o : Option V} {l : L2.St} {QS : L2.St → Hp → Prop} (h : QS (a0 :: a1 :: a2 :: a3 :: a4 :: a5 :: a6 :: a7 :: a8 :: a9 :: some v :: l) H) : gName 10 v (a0 :: a1 :: a2 :: a3 :: a4 :: a5 :: a6 :: a7 :: a8 :: a9 :: o :: l) H QS := h
theorem c_var11 {a0 a1 a2 a3 a4 a5 a6 a7 a8 a9 a10 : Option V} {l : L2.St} (h : Q v H) : tVar 11 (a0 :: a1 :: a2 :: a3 :: a4 :: a5 :: a6 :: a7 :: a8 :: a9 :: a10 :: some v :: l) H Q := ⟨v, rfl, h⟩
theorem c_asg11 {a0 a1 a2 a3 a4 a5 a6 a7 a8 a9 a10 : Option V} {o : Option V} {l : L2.St} (h : te (a0 :: a1 :: a2 :: a3 :: a4 :: a5 :: a6 :: a7 :: a8 :: a9 :: a10 :: o :: l) H fun v H1 => D.nx (a0 :: a1 :: a2 :: a3 :: a4 :: a5 :: a6 :: a7 :: a8 :: a9 :: a10 :: some v :: l) H1) : tAsg te (gName 11) D (a0 :: a1 :: a2 :: a3 :: a4 :: a5 :: a6 :: a7 :: a8 :: a9 :: a10 :: o :: l) H := h
theorem c_nam11 {a0 a1 a2 a3 a4 a5 a6 a7 a8 a9 a10 : Option V} {o : Option V} {l : L2.St} {QS : L2.St → Hp → Prop} (h : QS (a0 :: a1 :: a2 :: a3 :: a4 :: a5 :: a6 :: a7 :: a8 :: a9 :: a10 :: some v :: l) H) : gName 11 v (a0 :: a1 :: a2 :: a3 :: a4 :: a5 :: a6 :: a7 :: a8 :: a9 :: a10 :: o :: l) H QS := h
theorem c_var12 {a0 a1 a2 a3 a4 a5 a6 a7 a8 a9 a10 a11 : Option V} {l : L2.St} (h : Q v H) : tVar 12 (a0 :: a1 :: a2 :: a3 :: a4 :: a5 :: a6 :: a7 :: a8 :: a9 :: a10 :: a11 :: some v :: l) H Q := ⟨v, rfl, h⟩
theorem c_asg12 {a0 a1 a2 a3 a4 a5 a6 a7 a8 a9 a10 a11 : Option V} {o : Option V} {l : L2.St} (h : te (a0 :: a1 :: a2 :: a3 :: a4 :: a5 :: a6 :: a7 :: a8 :: a9 :: a10 :: a11 :: o :: l) H fun v H1 => D.nx (a0 :: a1 :: a2 :: a3 :: a4 :: a5 :: a6 :: a7 :: a8 :: a9 :: a10 :: a11 :: some v :: l) H1) : tAsg te (gName 12) D (a0 :: a1 :: a2 :: a3 :: a4 :: a5 :: a6 :: a7 :: a8 :: a9 :: a10 :: a11 :: o :: l) H := h
theorem c_nam12 {a0 a1 a2 a3 a4 a5 a6 a7 a8 a9 a10 a11 : Option V} {o : Option V} {l : L2.St} {QS : L2.St → Hp → Prop} (h : QS (a0 :: a1 :: a2 :: a3 :: a4 :: a5 :: a6 :: a7 :: a8 :: a9 :: a10 :: a11 :: some v :: l) H) : gName 12 v (a0 :: a1 :: a2 :: a3 :: a4 :: a5 :: a6 :: a7 :: a8 :: a9 :: a10 :: a11 :: o :: l) H QS := h
theorem c_var13 {a0 a1 a2 a3 a4 a5 a6 a7 a8 a9 a10 a11 a12 : Option V} {l : L2.St} (h : Q v H) : tVar 13 (a0 :: a1 :: a2 :: a3 :: a4 :: a5 :: a6 :: a7 :: a8 :: a9 :: a10 :: a11 :: a12 :: some v :: l) H Q := ⟨v, rfl, h⟩
theorem c_asg13 {a0 a1 a2 a3 a4 a5 a6 a7 a8 a9 a10 a11 a12 : Option V} {o : Option V} {l : L2.St} (h : te (a0 :: a1 :: a2 :: a3 :: a4 :: a5 :: a6 :: a7 :: a8 :: a9 :: a10 :: a11 :: a12 :: o :: l) H fun v H1 => D.nx (a0 :: a1 :: a2 :: a3 :: a4 :: a5 :: a6 :: a7 :: a8 :: a9 :: a10 :: a11 :: a12 :: some v :: l) H1) : tAsg te (gName 13) D (a0 :: a1 :: a2 :: a3 :: a4 :: a5 :: a6 :: a7 :: a8 :: a9 :: a10 :: a11 :: a12 :: o :: l) H := h
theorem c_nam13 {a0 a1 a2 a3 a4 a5 a6 a7 a8 a9 a10 a11 a12 : Option V} {o : Option V} {l : L2.St} {QS : L2.St → Hp → Prop} (h : QS (a0 :: a1 :: a2 :: a3 :: a4 :: a5 :: a6 :: a7 :: a8 :: a9 :: a10 :: a11 :: a12 :: some v :: l) H) : gName 13 v (a0 :: a1 :: a2 :: a3 :: a4 :: a5 :: a6 :: a7 :: a8 :: a9 :: a10 :: a11 :: a12 :: o :: l) H QS := h
theorem c_var14 {a0 a1 a2 a3 a4 a5 a6 a7 a8 a9 a10 a11 a12 a13 : Option V} {l : L2.St} (h : Q v H) : tVar 14 (a0 :: a1 :: a2 :: a3 :: a4 :: a5 :: a6 :: a7 :: a8 :: a9 :: a10 :: a11 :: a12 :: a13 :: some v :: l) H Q := ⟨v, rfl, h⟩
theorem c_asg14 {a0 a1 a2 a3 a4 a5 a6 a7 a8 a9 a10 a11 a12 a13 : Option V} {o : Option V} {l : L2.St} (h : te (a0 :: a1 :: a2 :: a3 :: a4 :: a5 :: a6 :: a7 :: a8 :: a9 :: a10 :: a11 :: a12 :: a13 :: o :: l) H fun v H1 => D.nx (a0 :: a1 :: a2 :: a3 :: a4 :: a5 :: a6 :: a7 :: a8 :: a9 :: a10 :: a11 :: a12 :: a13 :: some v :: l) H1) : tAsg te (gName 14) D (a0 :: a1 :: a2 :: a3 :: a4 :: a5 :: a6 :: a7 :: a8 :: a9 :: a10 :: a11 :: a12 :: a13 :: o :: l) H := h
theorem c_nam14 {a0 a1 a2 a3 a4 a5 a6 a7 a8 a9 a10 a11 a12 a13 : Option V} {o : Option V} {l : L2.St} {QS : L2.St → Hp → Prop} (h : QS (a0 :: a1 :: a2 :: a3 :: a4 :: a5 :: a6 :: a7 :: a8 :: a9 :: a10 :: a11 :: a12 :: a13 :: some v :: l) H) : gName 14 v (a0 :: a1 :: a2 :: a3 :: a4 :: a5 :: a6 :: a7 :: a8 :: a9 :: a10 :: a11 :: a12 :: a13 :: o :: l) H QS := h
theorem c_var15 {a0 a1 a2 a3 a4 a5 a6 a7 a8 a9 a10 a11 a12 a13 a14 : Option V} {l : L2.St} (h : Q v H) : tVar 15 (a0 :: a1 :: a2 :: a3 :: a4 :: a5 :: a6 :: a7 :: a8 :: a9 :: a10 :: a11 :: a12 :: a13 :: a14 :: some v :: l) H Q := ⟨v, rfl, h⟩
theorem c_asg15 {a0 a1 a2 a3 a4 a5 a6 a7 a8 a9 a10 a11 a12 a13 a14 : Option V} {o : Option V} {l : L2.St} (h : te (a0 :: a1 :: a2 :: a3 :: a4 :: a5 :: a6 :: a7 :: a8 :: a9 :: a10 :: a11 :: a12 :: a13 :: a14 :: o :: l) H fun v H1 => D.nx (a0 :: a1 :: a2 :: a3 :: a4 :: a5 :: a6 :: a7 :: a8 :: a9 :: a10 :: a11 :: a12 :: a13 :: a14 :: some v :: l) H1) : tAsg te (gName 15) D (a0 :: a1 :: a2 :: a3 :: a4 :: a5 :: a6 :: a7 :: a8 :: a9 :: a10 :: a11 :: a12 :: a13 :: a14 :: o :: l) H := h
theorem c_nam15 {a0 a1 a2 a3 a4 a5 a6 a7 a8 a9 a10 a11 a12 a13 a14 : Option V} {o : Option V} {l : L2.St} {QS : L2.St → Hp → Prop} (h : QS (a0 :: a1 :: a2 :: a3 :: a4 :: a5 :: a6 :: a7 :: a8 :: a9 :: a10 :: a11 :: a12 :: a13 :: a14 :: some v :: l) H) : gName 15 v (a0 :: a1 :: a2 :: a3 :: a4 :: a5 :: a6 :: a7 :: a8 :: a9 :: a10 :: a11 :: a12 :: a13 :: a14 :: o :: l) H QS := h
theorem c_var16 {a0 a1 a2 a3 a4 a5 a6 a7 a8 a9 a10 a11 a12 a13 a14 a15 : Option V} {l : L2.St} (h : Q v H) : tVar 16 (a0 :: a1 :: a2 :: a3 :: a4 :: a5 :: a6 :: a7 :: a8 :: a9 :: a10 :: a11 :: a12 :: a13 :: a14 :: a15 :: some v :: l) H Q := ⟨v, rfl, h⟩
theorem c_asg16 {a0 a1 a2 a3 a4 a5 a6 a7 a8 a9 a10 a11 a12 a13 a14 a15 : Option V} {o : Option V} {l : L2.St} (h : te (a0 :: a1 :: a2 :: a3 :: a4 :: a5 :: a6 :: a7 :: a8 :: a9 :: a10 :: a11 :: a12 :: a13 :: a14 :: a15 :: o :: l) H fun v H1 => D.nx (a0 :: a1 :: a2 :: a3 :: a4 :: a5 :: a6 :: a7 :: a8 :: a9 :: a10 :: a11 :: a12 :: a13 :: a14 :: a15 :: some v :: l) H1) : tAsg te (gName 16) D (a0 :: a1 :: a2 :: a3 :: a4 :: a5 :: a6 :: a7 :: a8 :: a9 :: a10 :: a11 :: a12 :: a13 :: a14 :: a15 :: o :: l) H := h
theorem c_nam16 {a0 a1 a2 a3 a4 a5 a6 a7 a8 a9 a10 a11 a12 a13 a14 a15 : Option V} {o : Option V} {l : L2.St} {QS : L2.St → Hp → Prop} (h : QS (a0 :: a1 :: a2 :: a3 :: a4 :: a5 :: a6 :: a7 :: a8 :: a9 :: a10 :: a11 :: a12 :: a13 :: a14 :: a15 :: some v :: l) H) : gName 16 v (a0 :: a1 :: a2 :: a3 :: a4 :: a5 :: a6 :: a7 :: a8 :: a9 :: a10 :: a11 :: a12 :: a13 :: a14 :: a15 :: o :: l) H QS := h
theorem c_var17 {a0 a1 a2 a3 a4 a5 a6 a7 a8 a9 a10 a11 a12 a13 a14 a15 a16 : Option V} {l : L2.St} (h : Q v H) : tVar 17 (a0 :: a1 :: a2 :: a3 :: a4 :: a5 :: a6 :: a7 :: a8 :: a9 :: a10 :: a11 :: a12 :: a13 :: a14 :: a15 :: a16 :: some v :: l) H Q := ⟨v, rfl, h⟩
theorem c_asg17 {a0 a1 a2 a3 a4 a5 a6 a7 a8 a9 a10 a11 a12 a13 a14 a15 a16 : Option V} {o : Option V} {l : L2.St} (h : te (a0 :: a1 :: a2 :: a3 :: a4 :: a5 :: a6 :: a7 :: a8 :: a9 :: a10 :: a11 :: a12 :: a13 :: a14 :: a15 :: a16 :: o :: l) H fun v H1 => D.nx (a0 :: a1 :: a2 :: a3 :: a4 :: a5 :: a6 :: a7 :: a8 :: a9 :: a10 :: a11 :: a12 :: a13 :: a14 :: a15 :: a16 :: some v :: l) H1) : tAsg te (gName 17) D (a0 :: a1 :: a2 :: a3 :: a4 :: a5 :: a6 :: a7 :: a8 :: a9 :: a10 :: a11 :: a12 :: a13 :: a14 :: a15 :: a16 :: o :: l) H := h
theorem c_nam17 {a0 a1 a2 a3 a4 a5 a6 a7 a8 a9 a10 a11 a12 a13 a14 a15 a16 : Option V} {o : Option V} {l : L2.St} {QS : L2.St → Hp → Prop} (h : QS (a0 :: a1 :: a2 :: a3 :: a4 :: a5 :: a6 :: a7 :: a8 :: a9 :: a10 :: a11 :: a12 :: a13 :: a14 :: a15 :: a16 :: some v :: l) H) : gName 17 v (a0 :: a1 :: a2 :: a3 :: a4 :: a5 :: a6 :: a7 :: a8 :: a9 :: a10 :: a11 :: a12 :: a13 :: a14 :: a15 :: a16 :: o :: l) H QS := h
theorem c_var18 {a0 a1 a2 a3 a4 a5 a6 a7 a8 a9 a10 a11 a12 a13 a14 a15 a16 a17 : Option V} {l : L2.St} (h : Q v H) : tVar 18 (a0 :: a1 :: a2 :: a3 :: a4 :: a5 :: a6 :: a7 :: a8 :: a9 :: a10 :: a11 :: a12 :: a13 :: a14 :: a15 :: a16 :: a17 :: some v :: l) H Q := ⟨v, rfl, h⟩
theorem c_asg18 {a0 a1 a2 a3 a4 a5 a6 a7 a8 a9 a10 a11 a12 a13 a14 a15 a16 a17 : Option V} {o : Option V} {l : L2.St} (h : te (a0 :: a1 :: a2 :: a3 :: a4 :: a5 :: a6 :: a7 :: a8 :: a9 :: a10 :: a11 :: a12 :: a13 :: a14 :: a15 :: a16 :: a17 :: o :: l) H fun v H1 => D.nx (a0 :: a1 :: a2 :: a3 :: a4 :: a5 :: a6 :: a7 :: a8 :: a9 :: a10 :: a11 :: a12 :: a13 :: a14 :: a15 :: a16 :: a17 :: some v :: l) H1) : tAsg te (gName 18) D (a0 :: a1 :: a2 :: a3 :: a4 :: a5 :: a6 :: a7 :: a8 :: a9 :: a10 :: a11 :: a12 :: a13 :: a14 :: a15 :: a16 :: a17 :: o :: l) H := h
theorem c_nam18 {a0 a1 a2 a3 a4 a5 a6 a7 a8 a9 a10 a11 a12 a13 a14 a15 a16 a17 : Option V} {o : Option V} {l : L2.St} {QS : L2.St → Hp → Prop} (h : QS (a0 :: a1 :: a2 :: a3 :: a4 :: a5 :: a6 :: a7 :: a8 :: a9 :: a10 :: a11 :: a12 :: a13 :: a14 :: a15 :: a16 :: a17 :: some v :: l) H) : gName 18 v (a0 :: a1 :: a2 :: a3 :: a4 :: a5 :: a6 :: a7 :: a8 :: a9 :: a10 :: a11 :: a12 :: a13 :: a14 :: a15 :: a16 :: a17 :: o :: l) H QS := h
theorem c_var19 {a0 a1 a2 a3 a4 a5 a6 a7 a8 a9 a10 a11 a12 a13 a14 a15 a16 a17 a18 : Option V} {l : L2.St} (h : Q v H) : tVar 19 (a0 :: a1 :: a2 :: a3 :: a4 :: a5 :: a6 :: a7 :: a8 :: a9 :: a10 :: a11 :: a12 :: a13 :: a14 :: a15 :: a16 :: a17 :: a18 :: some v :: l) H Q := ⟨v, rfl, h⟩
theorem c_asg19 {a0 a1 a2 a3 a4 a5 a6 a7 a8 a9 a10 a11 a12 a13 a14 a15 a16 a17 a18 : Option V} {o : Option V} {l : L2.St} (h : te (a0 :: a1 :: a2 :: a3 :: a4 :: a5 :: a6 :: a7 :: a8 :: a9 :: a10 :: a11 :: a12 :: a13 :: a14 :: a15 :: a16 :: a17 :: a18 :: o :: l) H fun v H1 => D.nx (a0 :: a1 :: a2 :: a3 :: a4 :: a5 :: a6 :: a7 :: a8 :: a9 :: a10 :: a11 :: a12 :: a13 :: a14 :: a15 :: a16 :: a17 :: a18 :: some v :: l) H1) : tAsg te (gName 19) D (a0 :: a1 :: a2 :: a3 :: a4 :: a5 :: a6 :: a7 :: a8 :: a9 :: a10 :: a11 :: a12 :: a13 :: a14 :: a15 :: a16 :: a17 :: a18 :: o :: l) H := h
theorem c_nam19 {a0 a1 a2 a3 a4 a5 a6 a7 a8 a9 a10 a11 a12 a13 a14 a15 a16 a17 a18 : Option V} {o : Option V} {l : L2.St} {QS : L2.St → Hp → Prop} (h : QS (a0 :: a1 :: a2 :: a3 :: a4 :: a5 :: a6 :: a7 :: a8 :: a9 :: a10 :: a11 :: a12 :: a13 :: a14 :: a15 :: a16 :: a17 :: a18 :: some v :: l) H) : gName 19 v (a0 :: a1 :: a2 :: a3 :: a4 :: a5 :: a6 :: a7 :: a8 :: a9 :: a10 :: a11 :: a12 :: a13 :: a14 :: a15 :: a16 :: a17 :: a18 :: o :: l) H QS := h
theorem c_var20 {a0 a1 a2 a3 a4 a5 a6 a7 a8 a9 a10 a11 a12 a13 a14 a15 a16 a17 a18 a19 : Option V} {l : L2.St} (h : Q v H) : tVar 20 (a0 :: a1 :: a2 :: a3 :: a4 :: a5 :: a6 :: a7 :: a8 :: a9 :: a10 :: a11 :: a12 :: a13 :: a14 :: a15 :: a16 :: a17 :: a18 :: a19 :: some v :: l) H Q := ⟨v, rfl, h⟩
theorem c_asg20 {a0 a1 a2 a3 a4 a5 a6 a7 a8 a9 a10 a11 a12 a13 a14 a15 a16 a17 a18 a19 : Option V} {o : Option V} {l : L2.St} (h : te (a0 :: a1 :: a2 :: a3 :: a4 :: a5 :: a6 :: a7 :: a8 :: a9 :: a10 :: a11 :: a12 :: a13 :: a14 :: a15 :: a16 :: a17 :: a18 :: a19 :: o :: l) H fun v H1 => D.nx (a0 :: a1 :: a2 :: a3 :: a4 :: a5 :: a6 :: a7 :: a8 :: a9 :: a10 :: a11 :: a12 :: a13 :: a14 :: a15 :: a16 :: a17 :: a18 :: a19 :: some v :: l) H1) : tAsg te (gName 20) D (a0 :: a1 :: a2 :: a3 :: a4 :: a5 :: a6 :: a7 :: a8 :: a9 :: a10 :: a11 :: a12 :: a13 :: a14 :: a15 :: a16 :: a17 :: a18 :: a19 :: o :: l) H := h
theorem c_nam20 {a0 a1 a2 a3 a4 a5 a6 a7 a8 a9 a10 a11 a12 a13 a14 a15 a16 a17 a18 a19 : Option V} {o : Option V} {l : L2.St} {QS : L2.St → Hp → Prop} (h : QS (a0 :: a1 :: a2 :: a3 :: a4 :: a5 :: a6 :: a7 :: a8 :: a9 :: a10 :: a11 :: a12 :: a13 :: a14 :: a15 :: a16 :: a17 :: a18 :: a19 :: some v :: l) H) : gName 20 v (a0 :: a1 :: a2 :: a3 :: a4 :: a5 :: a6 :: a7 :: a8 :: a9 :: a10 :: a11 :: a12 :: a13 :: a14 :: a15 :: a16 :: a17 :: a18 :: a19 :: o :: l) H QS := h
theorem c_var21 {a0 a1 a2 a3 a4 a5 a6 a7 a8 a9 a10 a11 a12 a13 a14 a15 a16 a17 a18 a19 a20 : Option V} {l : L2.St} (h : Q v H) : tVar 21 (a0 :: a1 :: a2 :: a3 :: a4 :: a5 :: a6 :: a7 :: a8 :: a9 :: a10 :: a11 :: a12 :: a13 :: a14 :: a15 :: a16 :: a17 :: a18 :: a19 :: a20 :: some v :: l) H Q := ⟨v, rfl, h⟩
theorem c_asg21 {a0 a1 a2 a3 a4 a5 a6 a7 a8 a9 a10 a11 a12 a13 a14 a15 a16 a17 a18 a19 a20 : Option V} {o : Option V} {l : L2.St} (h : te (a0 :: a1 :: a2 :: a3 :: a4 :: a5 :: a6 :: a7 :: a8 :: a9 :: a10 :: a11 :: a12 :: a13 :: a14 :: a15 :: a16 :: a17 :: a18 :: a19 :: a20 :: o :: l) H fun v H1 => D.nx (a0 :: a1 :: a2 :: a3 :: a4 :: a5 :: a6 :: a7 :: a8 :: a9 :: a10 :: a11 :: a12 :: a13 :: a14 :: a15 :: a16 :: a17 :: a18 :: a19 :: a20 :: some v :: l) H1) : tAsg te (gName 21) D (a0 :: a1 :: a2 :: a3 :: a4 :: a5 :: a6 :: a7 :: a8 :: a9 :: a10 :: a11 :: a12 :: a13 :: a14 :: a15 :: a16 :: a17 :: a18 :: a19 :: a20 :: o :: l) H := h
theorem c_nam21 {a0 a1 a2 a3 a4 a5 a6 a7 a8 a9 a10 a11 a12 a13 a14 a15 a16 a17 a18 a19 a20 : Option V} {o : Option V} {l : L2.St} {QS : L2.St → Hp → Prop} (h : QS (a0 :: a1 :: a2 :: a3 :: a4 :: a5 :: a6 :: a7 :: a8 :: a9 :: a10 :: a11 :: a12 :: a13 :: a14 :: a15 :: a16 :: a17 :: a18 :: a19 :: a20 :: some v :: l) H) : gName 21 v (a0 :: a1 :: a2 :: a3 :: a4 :: a5 :: a6 :: a7 :: a8 :: a9 :: a10 :: a11 :: a12 :: a13 :: a14 :: a15 :: a16 :: a17 :: a18 :: a19 :: a20 :: o :: l) H QS := h
theorem c_var22 {a0 a1 a2 a3 a4 a5 a6 a7 a8 a9 a10 a11 a12 a13 a14 a15 a16 a17 a18 a19 a20 a21 : Option V} {l : L2.St} (h : Q v H) : tVar 22 (a0 :: a1 :: a2 :: a3 :: a4 :: a5 :: a6 :: a7 :: a8 :: a9 :: a10 :: a11 :: a12 :: a13 :: a14 :: a15 :: a16 :: a17 :: a18 :: a19 :: a20 :: a21 :: some v :: l) H Q := ⟨v, rfl, h⟩
theorem c_asg22 {a0 a1 a2 a3 a4 a5 a6 a7 a8 a9 a10 a11 a12 a13 a14 a15 a16 a17 a18 a19 a20 a21 : Option V} {o : Option V} {l : L2.St} (h : te (a0 :: a1 :: a2 :: a3 :: a4 :: a5 :: a6 :: a7 :: a8 :: a9 :: a10 :: a11 :: a12 :: a13 :: a14 :: a15 :: a16 :: a17 :: a18 :: a19 :: a20 :: a21 :: o :: l) H fun v H1 => D.nx (a0 :: a1 :: a2 :: a3 :: a4 :: a5 :: a6 :: a7 :: a8 :: a9 :: a10 :: a11 :: a12 :: a13 :: a14 :: a15 :: a16 :: a17 :: a18 :: a19 :: a20 :: a21 :: some v :: l) H1) : tAsg te (gName 22) D (a0 :: a1 :: a2 :: a3 :: a4 :: a5 :: a6 :: a7 :: a8 :: a9 :: a10 :: a11 :: a12 :: a13 :: a14 :: a15 :: a16 :: a17 :: a18 :: a19 :: a20 :: a21 :: o :: l) H := h
theorem c_nam22 {a0 a1 a2 a3 a4 a5 a6 a7 a8 a9 a10 a11 a12 a13 a14 a15 a16 a17 a18 a19 a20 a21 : Option V} {o : Option V} {l : L2.St} {QS : L2.St → Hp → Prop} (h : QS (a0 :: a1 :: a2 :: a3 :: a4 :: a5 :: a6 :: a7 :: a8 :: a9 :: a10 :: a11 :: a12 :: a13 :: a14 :: a15 :: a16 :: a17 :: a18 :: a19 :: a20 :: a21 :: some v :: l) H) : gName 22 v (a0 :: a1 :: a2 :: a3 :: a4 :: a5 :: a6 :: a7 :: a8 :: a9 :: a10 :: a11 :: a12 :: a13 :: a14 :: a15 :: a16 :: a17 :: a18 :: a19 :: a20 :: a21 :: o :: l) H QS := h
theorem c_var23 {a0 a1 a2 a3 a4 a5 a6 a7 a8 a9 a10 a11 a12 a13 a14 a15 a16 a17 a18 a19 a20 a21 a22 : Option V} {l : L2.St} (h : Q v H) : tVar 23 (a0 :: a1 :: a2 :: a3 :: a4 :: a5 :: a6 :: a7 :: a8 :: a9 :: a10 :: a11 :: a12 :: a13 :: a14 :: a15 :: a16 :: a17 :: a18 :: a19 :: a20 :: a21 :: a22 :: some v :: l) H Q := ⟨v, rfl, h⟩
theorem c_asg23 {a0 a1 a2 a3 a4 a5 a6 a7 a8 a9 a10 a11 a12 a13 a14 a15 a16 a17 a18 a19 a20 a21 a22 : Option V} {o : Option V} {l : L2.St} (h : te (a0 :: a1 :: a2 :: a3 :: a4 :: a5 :: a6 :: a7 :: a8 :: a9 :: a10 :: a11 :: a12 :: a13 :: a14 :: a15 :: a16 :: a17 :: a18 :: a19 :: a20 :: a21 :: a22 :: o :: l) H fun v H1 => D.nx (a0 :: a1 :: a2 :: a3 :: a4 :: a5 :: a6 :: a7 :: a8 :: a9 :: a10 :: a11 :: a12 :: a13 :: a14 :: a15 :: a16 :: a17 :: a18 :: a19 :: a20 :: a21 :: a22 :: some v :: l) H1) : tAsg te (gName 23) D (a0 :: a1 :: a2 :: a3 :: a4 :: a5 :: a6 :: a7 :: a8 :: a9 :: a10 :: a11 :: a12 :: a13 :: a14 :: a15 :: a16 :: a17 :: a18 :: a19 :: a20 :: a21 :: a22 :: o :: l) H := h
theorem c_nam23 {a0 a1 a2 a3 a4 a5 a6 a7 a8 a9 a10 a11 a12 a13 a14 a15 a16 a17 a18 a19 a20 a21 a22 : Option V} {o : Option V} {l : L2.St} {QS : L2.St → Hp → Prop} (h : QS (a0 :: a1 :: a2 :: a3 :: a4 :: a5 :: a6 :: a7 :: a8 :: a9 :: a10 :: a11 :: a12 :: a13 :: a14 :: a15 :: a16 :: a17 :: a18 :: a19 :: a20 :: a21 :: a22 :: some v :: l) H) : gName 23 v (a0 :: a1 :: a2 :: a3 :: a4 :: a5 :: a6 :: a7 :: a8 :: a9 :: a10 :: a11 :: a12 :: a13 :: a14 :: a15 :: a16 :: a17 :: a18 :: a19 :: a20 :: a21 :: a22 :: o :: l) H QS := h
end
end Gx
/-! loops, comprehensions, calls of built-ins by names, the law's draws -/
namespace Gx
open PySem PySem.Spec PyProof.Rows L2 Evl

def rAbs : List V → Hp → VK → Prop := fun xs H Q => ∃ i, xs = [.int i] ∧ Q (.int (if i < 0 then -i else i)) H
theorem call_abs1 {X : Cx} : CallR X (.builtin "abs") rAbs := call_abs
def rTupleS (K : PySem.W.Frag) : List V → Hp → VK → Prop := fun xs H Q => ∃ p ys, xs = [.ref p] ∧ ((SqL K H p ys ∧ ∀ l, H l = none → Q (.ref l) (upd H l (.tup ys))) ∨ (SqT K H p ys ∧ Q (.ref p) H))
theorem call_tuple1 {X : Cx} : CallR X (.type "tuple") (rTupleS X.K) := call_tuple_of
theorem call_list1 {X : Cx} : CallR X (.type "list") (rListS X.K) := call_list_of
def rJoin (K : PySem.W.Frag) : V → List V → Hp → VK → Prop := fun x xs H Q => ∃ a p, ∃ ys : List Str, x = .str a ∧ xs = [.ref p] ∧ (SqL K H p (ys.map V.str) ∨ SqT K H p (ys.map V.str)) ∧
    (ys.map (·.length)).sum + ys.length * a.length ≤ 16777216 ∧ Q (.str (Txt.join a ys)) H
theorem pe_joinR {X : Cx} {o e : Expr} {to te : TE} {apos pos : Pos} (ho : PE X o to) (he : PE X e te) (hs : starEach [e] X.env = [(false, eval e X.env)] := by rfl) (hbase : attributeBase o "join" X.env (eval o X.env) = eval o X.env := by rfl) (hline : (apos.endLine == pos.line) = true := by rfl) :
    PE X (.Call (.Attribute o "join" apos) [e] [] pos) (tM1 (rJoin X.K) to te) := pe_m1 F.slot_str_join F.type_str_join mt_join ho he hs hbase hline

section
variable {K : PySem.W.Frag} {σ : L2.St} {H : Hp} {Q : VK} {D : Ends} {ta tb tc te : TE} {x y v : V} {t u : TS} {tt uu : TT}
theorem c_yes {QB : Bool → Hp → Prop} (h : QB true H) : tYes σ H QB := h
theorem exget {H H' : Hp} {p : Addr} {o : HO} (e : Ex H H') (h : H p = some o) : H' p = some o := e _ _ h
theorem atI_in {α : Type} {xs : List α} {i : Int} (h0 : 0 ≤ i) (h1 : i < xs.length) : ∃ (k : Nat) (v : α), i = (k : Int) ∧ xs[k]? = some v ∧ v ∈ xs ∧ atI xs i = some v := by
  obtain ⟨k, rfl⟩ := Int.eq_ofNat_of_zero_le h0
  have hk : k < xs.length := by omega
  exact ⟨k, xs[k], rfl, List.getElem?_eq_getElem hk, List.getElem_mem hk, atI_nat (List.getElem?_eq_getElem hk)⟩
theorem ixN_in {n k : Nat} (h : k < n) : ixN n (k : Int) = some k := by
  unfold ixN
  rw [if_pos (by omega), if_pos (by omega)]; simp
/-- all but one object as they were -/
def Exb (p : Addr) (H H' : Hp) : Prop := ∀ a o, a ≠ p → H a = some o → H' a = some o
theorem Exb.upd {H : Hp} {p : Addr} {o : HO} : Exb p H (upd H p o) := fun a u ne h => by rw [upd_ne ne]; exact h
theorem exbget {H H' : Hp} {p a : Addr} {o : HO} (e : Exb p H H') (ne : a ≠ p) (h : H a = some o) : H' a = some o := e _ _ ne h
theorem c_sub {to ti : TE} {ts : TSet} {QS : L2.St → Hp → Prop} (h : to σ H fun o H1 => ti σ H1 fun i H2 => ts o i v H2 fun H3 => QS σ H3) : gSub to ti ts v σ H QS := h
theorem g_set {p : Addr} {xs : List V} {i : Int} {j : Nat} {QH : Hp → Prop} (hp : H p = some (.lst xs)) (hj : ixN xs.length i = some j) (h : ∀ H', Exb p H H' → H' p = some (.lst (xs.set j v)) → QH H') : rSetL (.ref p) (.int i) v H QH := ⟨p, xs, i, j, rfl, rfl, hp, hj, h _ Exb.upd upd_same⟩
/-- a written dict, pair by pair -/
def DK (p : Addr) (Q : VK) (ps : List (V × V)) (H2 : Hp) : Prop := H2 p = some (.dK []) ∧ ∃ kvs : List (Key × V), ps = kvs.map (fun kv => (kV kv.1, kv.2)) ∧ kvs.length ≤ 15 ∧ Q (.ref p) (upd H2 p (.dK (mergeK [] kvs)))
theorem c_disp {trs : List (TE × TE)} (h : ∀ p H0, H p = none → Ex H H0 → H0 p = some (.dK []) → tPairs trs σ H0 (DK p Q)) : tDisp trs σ H Q := fun p hp => h p _ hp (Ex.new hp) upd_same
theorem c_pair {tk tv : TE} {r : List (TE × TE)} {QP : List (V × V) → Hp → Prop} (h : tk σ H fun x H1 => tv σ H1 fun y H2 => tPairs r σ H2 fun ps H3 => QP ((x, y) :: ps) H3) : tPairs ((tk, tv) :: r) σ H QP := h
theorem c_pnil {QP : List (V × V) → Hp → Prop} (h : QP [] H) : tPairs [] σ H QP := h
theorem c_dk1s {H0 : Hp} {p : Addr} {z : Str} (n : H0 p = none) (e : Ex H0 H) (hp : H p = some (.dK [])) (h : ∀ H3, Ex H0 H3 → H3 p = some (.dK [(Sum.inr z, v)]) → Q (.ref p) H3) : DK p Q [(.str z, v)] H :=
  ⟨hp, [(Sum.inr z, v)], rfl, by simp, h _ (Ex.mut e n) upd_same⟩
theorem c_for {wi : TI} {g : TG} {tb : TS} (h : wi σ H fun J H1 => ∃ W : Nat → Nat → L2.St → Hp → Prop, (∃ m, W 0 m σ H1) ∧ ∀ i m σ H, W i m σ H →
      (J.stop i H ∧ D.nx σ H) ∨ (J.go i H ∧ ∃ N : L2.St → Hp → Prop, (∀ σ' H', N σ' H' → ∃ m', m' < m ∧ W (i + 1) m' σ' H') ∧ ∀ x H', J.yld i H x H' → g x σ H' fun σ2 H2 => tb { D with nx := N, ct := N, bk := D.nx } σ2 H2)) : tFor wi g tb D σ H := h
theorem c_iList {tl : TE} {R : It → Hp → Prop} (h : tl σ H fun x H1 => ∃ a, x = .ref a ∧ (∃ xs, SqL K H1 a xs) ∧ R (Itl K a) H1) : iList K tl σ H R := h
theorem c_iL {p : Addr} {xs : List V} {R : Addr → Prop} (hp : SqL K H p xs) (h : R p) : ∃ a, V.ref p = .ref a ∧ (∃ xs, SqL K H a xs) ∧ R a := ⟨p, rfl, ⟨xs, hp⟩, h⟩
theorem c_iTup {tl : TE} {R : It → Hp → Prop} (h : tl σ H fun x H1 => ∃ a, x = .ref a ∧ (∃ xs, SqT K H1 a xs) ∧ R (Itt K a) H1) : iTup K tl σ H R := h
theorem c_iT {p : Addr} {xs : List V} {R : Addr → Prop} (hp : SqT K H p xs) (h : R p) : ∃ a, V.ref p = .ref a ∧ (∃ xs, SqT K H a xs) ∧ R a := ⟨p, rfl, ⟨xs, hp⟩, h⟩
theorem c_iStr {te : TE} {R : It → Hp → Prop} (h : te σ H fun v H1 => ∃ x, v = .str x ∧ R (Its x) H1) : iStr te σ H R := h
theorem c_iS {z : Str} {R : Str → Prop} (h : R z) : ∃ x, V.str z = .str x ∧ R x := ⟨z, rfl, h⟩
theorem c_iRng1 {ta : TA} {R : It → Hp → Prop} (h : ta σ H fun vs H1 => ∃ j : Int, vs = [.int j] ∧ -(2 ^ 62) ≤ j ∧ j < 2 ^ 62 ∧ R (Itr 0 j.toNat) H1) : iRng1 ta σ H R := h
theorem c_iR1 {j : Int} {R : Int → Prop} (h1 : -(2 ^ 62) ≤ j) (h2 : j < 2 ^ 62) (h : R j) : ∃ k : Int, [V.int j] = [.int k] ∧ -(2 ^ 62) ≤ k ∧ k < 2 ^ 62 ∧ R k := ⟨j, rfl, h1, h2, h⟩
theorem c_lcW {wi : TI} {g : TG} {vs : List Nat} (h : wi σ H fun J H1 => ∀ D, H1 D = none → ∃ W : Nat → Nat → Hp → Prop, (∃ m, W 0 m (upd H1 D (.lst []))) ∧ ∀ i m H, W i m H →
  (J.stop i H ∧ Q (.ref D) H) ∨ (J.go i H ∧ ∃ Nx : Hp → Prop, (∀ H', Nx H' → ∃ m', m' < m ∧ W (i + 1) m' H') ∧ ∀ x H', J.yld i H x H' → g x (wipe σ vs) H' fun σ2 H2 => wipe σ2 vs = wipe σ vs ∧ tt σ2 H2 fun b H3 =>
    if b = true then te σ2 H3 fun y H4 => ∃ acc, H4 D = some (.lst acc) ∧ acc.length < sizeLine ∧ Nx (upd H4 D (.lst (acc ++ [y]))) else Nx H3)) : tLc wi g tt te vs σ H Q := h
/-- a comprehension by what its list is so far -/
theorem c_lc {J : It} {n : Nat} {G : Hp → Prop} {Y : Nat → Hp → V → Hp → Prop} (w : Walk J n G Y) (R : Nat → List V → Prop) {g : TG} {vs : List Nat} {H1 : Hp} {Qd : Addr → Hp → Prop} {σ0 : L2.St} (hw : wipe σ vs = σ0) (hn : n < 100000) (r0 : R 0 []) (hG : ∀ H', Ex H1 H' → G H')
    (hs : ∀ i acc x H2 H3 (Q1 : V → Hp → Prop) (Q0 : Hp → Prop), i < n → R i acc → Ex H1 H2 → Y i H2 x H3 → (∀ y H6, Ex H2 H6 → R (i + 1) (acc ++ [y]) → Q1 y H6) → (∀ H5, Ex H2 H5 → R (i + 1) acc → Q0 H5) →
      g x σ0 H3 fun σ2 H4 => wipe σ2 vs = σ0 ∧ tt σ2 H4 fun b H5 => if b = true then te σ2 H5 Q1 else Q0 H5)
    (hd : ∀ D H' xs, H1 D = none → Ex H1 H' → R n xs → xs.length ≤ n → H' D = some (.lst xs) → Qd D H') :
    ∀ (D : Addr), H1 D = none → ∃ W : Nat → Nat → Hp → Prop, (∃ m, W 0 m (upd H1 D (.lst []))) ∧ ∀ i m H, W i m H →
      (J.stop i H ∧ Qd D H) ∨ (J.go i H ∧ ∃ Nx : Hp → Prop, (∀ H', Nx H' → ∃ m', m' < m ∧ W (i + 1) m' H') ∧ ∀ x H', J.yld i H x H' → g x (wipe σ vs) H' fun σ2 H2 => wipe σ2 vs = wipe σ vs ∧ tt σ2 H2 fun b H3 =>
        if b = true then te σ2 H3 fun y H4 => ∃ acc, H4 D = some (.lst acc) ∧ acc.length < sizeLine ∧ Nx (upd H4 D (.lst (acc ++ [y]))) else Nx H3) := by
  intro D hD
  subst hw
  refine lc_it w (Qd := Qd D) (fun i H' => Ex H1 H' ∧ ∃ acc, R i acc ∧ acc.length ≤ i ∧ H' D = some (.lst acc)) ⟨Ex.new hD, [], r0, Nat.le_refl _, upd_same⟩ (fun i H' _ h => hG H' h.1) (fun i x H2 H3 hi ⟨e1, acc, ra, la, ea⟩ hy => ?_) (fun H' ⟨e1, acc, ra, la, ea⟩ => hd D H' acc hD e1 ra la ea)
  exact hs i acc x H2 H3 _ _ hi ra e1 hy (fun y H6 e2 r2 => ⟨acc, e2 _ _ ea, sz_lt (by omega), Ex.mut (e1.trans e2) hD, acc ++ [y], r2, by simp; omega, upd_same⟩) (fun H5 e2 r2 => ⟨e1.trans e2, acc, r2, by omega, e2 _ _ ea⟩)
end

/-! ### flat data compared -/
def dV : V → PyData
  | .non => .none
  | .bl b => .bool b
  | .int i => .int i
  | .str x => .str x
  | _ => .none
theorem dp_flat {K : PySem.W.Frag} {H : Hp} {v : V} (h : flatV v = true) : Dp K H v (dV v) := by
  cases v with
  | non => exact .non
  | bl b => exact .bl b
  | int i => exact .int i
  | str x => exact .str x
  | _ => cases h
theorem dpAll_flat {K : PySem.W.Frag} {H : Hp} : ∀ {xs : List V}, xs.all flatV = true → DpAll K H xs (xs.map dV)
  | [], _ => .nil
  | v :: xs, h => by
    rw [List.all_cons, Bool.and_eq_true] at h
    exact .cons (dp_flat h.1) (dpAll_flat h.2)
def okV : V → Bool
  | .non => true
  | .bl _ => true
  | .int _ => true
  | .str x => PyData.strOk x
  | _ => false
theorem ok_flat {v : V} (h : okV v = true) : flatV v = true := by
  cases v with
  | non => rfl
  | bl b => rfl
  | int i => rfl
  | str x => rfl
  | _ => cases h
theorem okAll_flat {xs : List V} (h : xs.all okV = true) : xs.all flatV = true := by
  rw [List.all_eq_true] at h ⊢
  exact fun x hx => ok_flat (h x hx)
theorem lay_dV {v : V} (h : okV v = true) : (dV v).canLay0 = true ∧ (dV v).depth = 0 := by
  cases v with
  | non => exact ⟨rfl, rfl⟩
  | bl b => exact ⟨rfl, rfl⟩
  | int i => exact ⟨rfl, rfl⟩
  | str x => exact ⟨h, rfl⟩
  | _ => cases h
theorem lay_all : ∀ {xs : List V}, xs.all okV = true → PyData.canLayAll0 (xs.map dV) = true ∧ PyData.depthAll (xs.map dV) = 0
  | [], _ => ⟨rfl, rfl⟩
  | v :: xs, h => by
    rw [List.all_cons, Bool.and_eq_true] at h
    obtain ⟨h1, h2⟩ := lay_dV h.1
    obtain ⟨h3, h4⟩ := lay_all h.2
    refine ⟨?_, ?_⟩
    · show ((dV v).canLay0 && PyData.canLayAll0 (xs.map dV)) = true
      rw [h1, h3]; rfl
    · show max (dV v).depth (PyData.depthAll (xs.map dV)) = 0
      rw [h2, h4]; rfl
theorem shaped_dV {v : V} (h : okV v = true) : SeqAt.shaped (dV v) = true := by
  unfold SeqAt.shaped
  obtain ⟨h1, h2⟩ := lay_dV h
  rw [h1, h2]; rfl
theorem shaped_l {xs : List V} (h : xs.all okV = true) : SeqAt.shaped (.list (xs.map dV)) = true := by
  obtain ⟨h1, h2⟩ := lay_all h
  have e1 : (PyData.list (xs.map dV)).canLay0 = true := by simpa [PyData.canLay0] using h1
  have e2 : (PyData.list (xs.map dV)).depth = 1 := by show PyData.depthAll (xs.map dV) + 1 = 1; rw [h2]
  unfold SeqAt.shaped
  rw [e1, e2]; rfl
theorem shaped_t {xs : List V} (h : xs.all okV = true) : SeqAt.shaped (.tuple (xs.map dV)) = true := by
  obtain ⟨h1, h2⟩ := lay_all h
  have e1 : (PyData.tuple (xs.map dV)).canLay0 = true := by simpa [PyData.canLay0] using h1
  have e2 : (PyData.tuple (xs.map dV)).depth = 1 := by show PyData.depthAll (xs.map dV) + 1 = 1; rw [h2]
  unfold SeqAt.shaped
  rw [e1, e2]; rfl
/-- a list beside the empty one -/
theorem g_eq_e {K : PySem.W.Frag} {H : Hp} {Q : VK} {p q : Addr} {xs : List V} (hp : SqL K H p xs) (hq : SqL K H q []) (hf : xs.all okV = true) (h : Q (.bl (decide (xs = []))) H) : gEq K (.ref p) (.ref q) H Q := by
  refine g_eq_d (.lst hp (dpAll_flat (okAll_flat hf))) (.lst hq .nil) (shaped_l hf) (shaped_l (xs := []) rfl) ?_
  cases xs with
  | nil => exact h
  | cons x xs => exact h
theorem g_ne_e {K : PySem.W.Frag} {H : Hp} {Q : VK} {p q : Addr} {xs : List V} (hp : SqL K H p xs) (hq : SqL K H q []) (hf : xs.all okV = true) (h : Q (.bl (!decide (xs = []))) H) : gNe K (.ref p) (.ref q) H Q := by
  refine g_ne_d (.lst hp (dpAll_flat (okAll_flat hf))) (.lst hq .nil) (shaped_l hf) (shaped_l (xs := []) rfl) ?_
  cases xs with
  | nil => exact h
  | cons x xs => exact h
theorem ok_int (ns : List Int) : (ns.map V.int).all okV = true := by rw [List.all_map, List.all_eq_true]; intro _ _; rfl
theorem flat_int (ns : List Int) : (ns.map V.int).all flatV = true := by rw [List.all_map, List.all_eq_true]; intro _ _; rfl
theorem flat_str (ns : List Str) : (ns.map V.str).all flatV = true := by rw [List.all_map, List.all_eq_true]; intro _ _; rfl
theorem cutV_mem {xs : List V} {lo hi : Option Int} {x : V} (h : x ∈ cutV xs lo hi) : x ∈ xs := List.mem_of_mem_drop (List.mem_of_mem_take h)

/-! ### the draws -/
def Gd (c : Addr) (xs : List V) : Prop := ∃ a b : Int, xs = [.ref c, .int a, .int b] ∧ 0 ≤ b ∧ b < 2147483647
def Gc (xs : List V) : Prop := ∃ ns : List Int, xs = ns.map V.int ∧ ns ≠ []
def Draw (H : Hp) (d : Addr) : Prop := ∃ c, H d = some (oL d (Gd c)) ∧ H c = some (oL c Gc) ∧ d ≠ c
theorem Draw.ex {H H' : Hp} {d : Addr} (e : Ex H H') (h : Draw H d) : Draw H' d := by
  obtain ⟨c, h1, h2, h3⟩ := h
  exact ⟨c, e _ _ h1, e _ _ h2, h3⟩
/-- all but two objects as they were -/
def Ex2 (d c : Addr) (H H' : Hp) : Prop := ∀ a o, a ≠ d → a ≠ c → H a = some o → H' a = some o
def sp_take0 : Sp := fun vs H Q _ => ∃ (d c : Addr) (size a b : Int) (ns : List Int), vs = [.ref d, .int size] ∧ H d = some (.lst [.ref c, .int a, .int b]) ∧ H c = some (.lst (ns.map V.int)) ∧ d ≠ c ∧ ns ≠ [] ∧ 0 ≤ b ∧ b < 2147483647 ∧ 0 < size ∧ size < 2 ^ 64 ∧
  ∀ n H1 a' b' ns', 0 ≤ n → n < size → H1 d = some (.lst [.ref c, .int a', .int b']) → 0 ≤ b' → b' < 2147483647 → H1 c = some (.lst (ns'.map V.int)) → ns' ≠ [] → Ex2 d c H H1 → Q (.int n) H1
def sp_take : Sp := fun vs H Q _ => ∃ (d : Addr) (size : Int), vs = [.ref d, .int size] ∧ Draw H d ∧ 0 < size ∧ size < 2 ^ 64 ∧ ∀ n H', 0 ≤ n → n < size → Ex H H' → Q (.int n) H'
theorem take_view {P : Program} {w : World} {K : PySem.W.Frag} {mg : Str → Option Value} {base : Heap} {k : Nat} {f : Addr} {fd : FuncData} {ps : List Str} (F : FnOk P w K mg base CX0 k f fd ps sp_take0) (hl : ps.length = 2) : FnOk P w K mg base CX0 k f fd ps sp_take := by
  refine FnOk.view F (fun vs H Q E ⟨d, size, h, _⟩ => by rw [h, hl]; rfl) (fun vs H Q E ⟨d, size, hv, ⟨c, hd, hc, ne⟩, s0, s1, q⟩ hp ok => ?_)
  obtain ⟨xs, ⟨a, b, rfl, b0, b1⟩, ok1, sh1⟩ := HOk.openL ok hd
  have hc1 : (upd H d (.lst [.ref c, .int a, .int b])) c = some (oL c Gc) := by rw [upd_ne (Ne.symm ne)]; exact hc
  obtain ⟨ys, ⟨ns, rfl, hns⟩, ok2, sh2⟩ := HOk.openL ok1 hc1
  refine ⟨_, ok2, sh1.trans sh2, d, c, size, a, b, ns, hv, by rw [upd_ne ne, upd_same], upd_same, ne, hns, b0, b1, s0, s1, fun n H1 a' b' ns' n0 n1 e1 b0' b1' e2 hns' ex hp' ok' => ?_⟩
  obtain ⟨ok3, sh3⟩ := HOk.shutL (G := Gd c) ok' e1 ⟨a', b', rfl, b0', b1'⟩
  have e2' : (upd H1 d (oL d (Gd c))) c = some (.lst (ns'.map V.int)) := by rw [upd_ne (Ne.symm ne)]; exact e2
  obtain ⟨ok4, sh4⟩ := HOk.shutL (G := Gc) ok3 e2' ⟨ns', rfl, hns'⟩
  refine ⟨_, ok4, sh3.trans sh4, q n _ n0 n1 fun x o ho => ?_⟩
  by_cases h1 : x = c
  · subst h1; rw [hc] at ho; cases ho; exact upd_same
  · rw [upd_ne h1]
    by_cases h2 : x = d
    · subst h2; rw [hd] at ho; cases ho; exact upd_same
    · rw [upd_ne h2]
      refine ex x o h2 h1 ?_
      rw [upd_ne h1, upd_ne h2]; exact ho
def sp_begin0 (K : PySem.W.Frag) : Sp := fun vs H Q _ => ∃ (a : Addr) (ns : List Int), vs = [.ref a] ∧ SqL K H a (ns.map V.int) ∧ ns.length ≤ 63 ∧
  ∀ d c H1 ms, H d = none → H c = none → d ≠ c → Ex H H1 → H1 d = some (.lst [.ref c, .int 0, .int 1]) → H1 c = some (.lst (ms.map V.int)) → ms ≠ [] → Q (.ref d) H1
def sp_begin (K : PySem.W.Frag) : Sp := fun vs H Q _ => ∃ (a : Addr) (ns : List Int), vs = [.ref a] ∧ SqL K H a (ns.map V.int) ∧ ns.length ≤ 63 ∧ ∀ d H1, Draw H1 d → Ex H H1 → Q (.ref d) H1
theorem begin_view {P : Program} {w : World} {K : PySem.W.Frag} {mg : Str → Option Value} {base : Heap} {k : Nat} {f : Addr} {fd : FuncData} {ps : List Str} (F : FnOk P w K mg base CX0 k f fd ps (sp_begin0 K)) (hl : ps.length = 1) : FnOk P w K mg base CX0 k f fd ps (sp_begin K) := by
  refine FnOk.view F (fun vs H Q E ⟨d, ns, h, _⟩ => by rw [h, hl]; rfl) (fun vs H Q E ⟨p, ns, hv, hs, hn, q⟩ hp ok => ?_)
  refine ⟨H, ok, Shp.refl H, p, ns, hv, hs, hn, fun d c H1 ms nd nc ne ex e1 e2 hm hp' ok' => ?_⟩
  obtain ⟨ok3, sh3⟩ := HOk.shutL (G := Gd c) ok' e1 ⟨0, 1, rfl, by omega, by omega⟩
  have e2' : (upd H1 d (oL d (Gd c))) c = some (.lst (ms.map V.int)) := by rw [upd_ne (Ne.symm ne)]; exact e2
  obtain ⟨ok4, sh4⟩ := HOk.shutL (G := Gc) ok3 e2' ⟨ms, rfl, hm⟩
  refine ⟨_, ok4, sh3.trans sh4, q d _ ⟨c, by rw [upd_ne ne, upd_same], upd_same, ne⟩ (Ex.mut (Ex.mut ex nd) nc)⟩
end Gx

/-! names, texts, things: the mathematics and the promises that the laws share -/
namespace Gx
open PySem PySem.Spec PyProof.Rows L2 Evl

def isLet (c : Nat) : Bool := decide (97 ≤ c ∧ c ≤ 122)
def abcS : Str := "abcdefghijklmnopqrstuvwxyz"
theorem mem_abc (c : Nat) : c ∈ abcS.cps.toList ↔ isLet c = true := by
  have e : abcS.cps.toList = [97, 98, 99, 100, 101, 102, 103, 104, 105, 106, 107, 108, 109, 110, 111, 112, 113, 114, 115, 116, 117, 118, 119, 120, 121, 122] := by decide +kernel
  rw [e]
  unfold isLet
  simp only [List.mem_cons, List.not_mem_nil, or_false, decide_eq_true_eq]
  omega
def taken : List Str := ["not", "never", "may"]
def nameS (z : Str) : Bool := decide (1 ≤ z.length ∧ z.length ≤ 8) && decide (z ∉ taken) && z.cps.toList.all isLet
theorem nameS_iff (z : Str) : nameS z = true ↔ (1 ≤ z.length ∧ z.length ≤ 8) ∧ z ∉ taken ∧ ∀ c ∈ z.cps.toList, isLet c = true := by
  unfold nameS
  rw [Bool.and_eq_true, Bool.and_eq_true, decide_eq_true_iff, decide_eq_true_iff, List.all_eq_true, and_assoc]
theorem okS_let {z : Str} (h : ∀ c ∈ z.cps.toList, isLet c = true) : okS z := fun c hc => by
  have := of_decide_eq_true (h c hc)
  omega
theorem nameS_ok {z : Str} (h : nameS z = true) : okS z := okS_let ((nameS_iff z).mp h).2.2
theorem nameS_len {z : Str} (h : nameS z = true) : z.length ≤ 8 := ((nameS_iff z).mp h).1.2
def isNm : V → Bool
  | .str z => nameS z
  | _ => false
theorem inV_strs (z : Str) (ys : List Str) : inV (.str z) (ys.map V.str) = decide (z ∈ ys) := by
  unfold inV
  rw [Bool.eq_iff_iff, List.any_eq_true, decide_eq_true_iff]
  constructor
  · rintro ⟨x, hx, e⟩
    obtain ⟨y, hy, rfl⟩ := List.mem_map.mp hx
    have : y = z := eq_of_beq (show (y == z) = true from e)
    rw [← this]; exact hy
  · intro h
    exact ⟨.str z, List.mem_map.mpr ⟨z, h, rfl⟩, show (z == z) = true from beq_self_eq_true z⟩

/-! ### things of any kind -/
def Thing (H : Hp) : V → Prop
  | .non => True
  | .bl _ => True
  | .int _ => True
  | .str z => z.length ≤ 1000 ∧ okS z
  | .ref a => (∃ xs, H a = some (.lst xs)) ∨ (∃ xs, H a = some (.tup xs)) ∨ ∃ kvs, H a = some (.dK kvs)
  | _ => False
theorem Thing.ex {H H' : Hp} {x : V} (e : Ex H H') (h : Thing H x) : Thing H' x := by
  cases x with
  | ref a =>
    rcases h with ⟨xs, h⟩ | ⟨xs, h⟩ | ⟨xs, h⟩
    · exact .inl ⟨xs, e _ _ h⟩
    · exact .inr (.inl ⟨xs, e _ _ h⟩)
    · exact .inr (.inr ⟨xs, e _ _ h⟩)
  | _ => exact h
def kinds : List String := ["NoneType", "bool", "int", "str", "list", "tuple", "dict"]
def subK (n m : String) : Bool := n == m || (n == "bool" && m == "int")
theorem kit_kinds {K : PySem.W.Frag} {n m : String} (hn : n ∈ kinds) (hm : m ∈ kinds) : PySem.W.kitOne K (.type n) (.type m) = some (subK n m) := by
  refine kit_ty ?_
  have h : ∀ n ∈ kinds, ∀ m ∈ kinds, kitB n m = some (subK n m) := by decide +kernel
  exact h n hn m hm
/-- the kind of a value that is no object -/
def kindV : V → String
  | .non => "NoneType"
  | .bl _ => "bool"
  | .int _ => "int"
  | .str _ => "str"
  | _ => "list"
def isStr : V → Bool
  | .str _ => true
  | _ => false
def isBl : V → Bool
  | .bl _ => true
  | _ => false
theorem thing_ty {K : PySem.W.Frag} {H : Hp} {x : V} (h : Thing H x) : ∃ n, n ∈ kinds ∧ TyX K H x (.type n) ∧ (n == "str") = isStr x ∧ (n == "bool") = isBl x := by
  cases x with
  | non => exact ⟨"NoneType", by decide, .base .non, show ("NoneType" == "str") = false by decide, show ("NoneType" == "bool") = false by decide⟩
  | bl b => exact ⟨"bool", by decide, .base (.bl b), show ("bool" == "str") = false by decide, show ("bool" == "bool") = true by decide⟩
  | int i => exact ⟨"int", by decide, .base (.int i), show ("int" == "str") = false by decide, show ("int" == "bool") = false by decide⟩
  | str z => exact ⟨"str", by decide, .base (.str z), show ("str" == "str") = true by decide, show ("str" == "bool") = false by decide⟩
  | ref a =>
    rcases h with ⟨xs, h⟩ | ⟨xs, h⟩ | ⟨xs, h⟩
    · exact ⟨"list", by decide, .base (.lst h), show ("list" == "str") = false by decide, show ("list" == "bool") = false by decide⟩
    · exact ⟨"tuple", by decide, .base (.tup h), show ("tuple" == "str") = false by decide, show ("tuple" == "bool") = false by decide⟩
    · exact ⟨"dict", by decide, .base (.dK h), show ("dict" == "str") = false by decide, show ("dict" == "bool") = false by decide⟩
  | _ => exact h.elim
theorem g_isi_str {K : PySem.W.Frag} {H : Hp} {Q : VK} {x : V} (h : Thing H x) (q : Q (.bl (isStr x)) H) : gIsi K [x, .ty "str"] H Q := by
  obtain ⟨n, hn, ht, e, _⟩ := thing_ty (K := K) h
  refine .inl ⟨x, _, _, _, _, rfl, .ty "str", ht, kit_kinds hn (by decide), ?_⟩
  rw [show subK n "str" = isStr x by unfold subK; rw [e]; cases isStr x <;> simp]
  exact q
theorem g_isi_bl {K : PySem.W.Frag} {H : Hp} {Q : VK} {x : V} (h : Thing H x) (q : Q (.bl (isBl x)) H) : gIsi K [x, .ty "bool"] H Q := by
  obtain ⟨n, hn, ht, _, e⟩ := thing_ty (K := K) h
  refine .inl ⟨x, _, _, _, _, rfl, .ty "bool", ht, kit_kinds hn (by decide), ?_⟩
  rw [show subK n "bool" = isBl x by unfold subK; rw [e]; cases isBl x <;> simp]
  exact q
/-! ### promises -/
def sp_is_small_letter (K : PySem.W.Frag) : Sp := fun vs H Q _ => ∃ c : Nat, vs = [.str ⟨#[c]⟩] ∧ ∀ H', Ex H H' → Q (.bl (isLet c)) H'
def sp_is_name (K : PySem.W.Frag) : Sp := fun vs H Q _ => ∃ x : V, vs = [x] ∧ Thing H x ∧ ∀ H', Ex H H' → Q (.bl (isNm x)) H'
def sp__law_begin (K : PySem.W.Frag) : Sp := sp_begin K
def sp__law_take (K : PySem.W.Frag) : Sp := sp_take
def sp__law_pick (K : PySem.W.Frag) : Sp := fun vs H Q _ => ∃ (d : Addr) (x : V), vs = [.ref d, x] ∧ Draw H d ∧
  ((∃ p xs, x = .ref p ∧ SqL K H p xs ∧ xs ≠ [] ∧ xs.length ≤ 100000 ∧ ∀ v H', v ∈ xs → Ex H H' → Q v H') ∨ (∃ z : Str, x = .str z ∧ 0 < z.length ∧ z.length ≤ 100000 ∧ ∀ c H', c ∈ z.cps.toList → Ex H H' → Q (.str ⟨#[c]⟩) H'))
def sp__law_word (K : PySem.W.Frag) : Sp := fun vs H Q _ => ∃ d : Addr, vs = [.ref d] ∧ Draw H d ∧ ∀ z H', nameS z = true → Ex H H' → Q (.str z) H'
section
variable {K : PySem.W.Frag} {H : Hp} {Q : VK} {E : XK} {d : Addr}
theorem c_take {size : Int} (hd : Draw H d) (h0 : 0 < size) (h1 : size < 2 ^ 64) (h : ∀ n H', 0 ≤ n → n < size → Ex H H' → Q (.int n) H') : sp__law_take K ([.ref d, .int size] ++ []) H Q E := ⟨d, size, rfl, hd, h0, h1, h⟩
theorem c_pickL {p : Addr} {xs : List V} (hd : Draw H d) (hp : SqL K H p xs) (h0 : xs ≠ []) (h1 : xs.length ≤ 100000) (h : ∀ v H', v ∈ xs → Ex H H' → Q v H') : sp__law_pick K ([.ref d, .ref p] ++ []) H Q E := ⟨d, .ref p, rfl, hd, .inl ⟨p, xs, rfl, hp, h0, h1, h⟩⟩
theorem c_pickS {z : Str} (hd : Draw H d) (h0 : 0 < z.length) (h1 : z.length ≤ 100000) (h : ∀ c H', c ∈ z.cps.toList → Ex H H' → Q (.str ⟨#[c]⟩) H') : sp__law_pick K ([.ref d, .str z] ++ []) H Q E := ⟨d, .str z, rfl, hd, .inr ⟨z, rfl, h0, h1, h⟩⟩
theorem c_word (hd : Draw H d) (h : ∀ z H', nameS z = true → Ex H H' → Q (.str z) H') : sp__law_word K ([.ref d] ++ []) H Q E := ⟨d, rfl, hd, h⟩
theorem c_isname {x : V} (hx : Thing H x) (h : ∀ H', Ex H H' → Q (.bl (isNm x)) H') : sp_is_name K ([x] ++ []) H Q E := ⟨x, rfl, hx, h⟩
theorem c_issmall {c : Nat} (h : ∀ H', Ex H H' → Q (.bl (isLet c)) H') : sp_is_small_letter K ([.str ⟨#[c]⟩] ++ []) H Q E := ⟨c, rfl, h⟩
end
end Gx

/-! rules: what a thing handed in is, what a Rule is, the promises of the program's own defs -/
namespace Gx
open PySem PySem.Spec PyProof.Rows L2 Evl
/-- where the program's classes stand -/
structure Ads where
  (GroundError BadName BadNames BadRule BadRules NotPlain NoText NotHeld IsHeld BadSets TooMany NoRule NoDeed Twice NotThere NoLog BadRanks Needed BadWay Contrary BadStep BadParts Rule Telling Network Keeper Machine Desk dB dU : Addr)
theorem sqT_ty {K : PySem.W.Frag} {H : Hp} {p : Addr} {xs : List V} (h : SqT K H p xs) : TyX K H (.ref p) (.type "tuple") := by
  rcases h with (h | ⟨o, h⟩) | ⟨o, its, n, h, hc, _⟩
  · exact .base (.tup h)
  · exact .fTuple h
  · exact .kTuple h hc
theorem sqL_ty {K : PySem.W.Frag} {H : Hp} {p : Addr} {xs : List V} (h : SqL K H p xs) : TyX K H (.ref p) (.type "list") := by
  rcases h with (h | ⟨o, h⟩) | ⟨o, its, n, h, hc, _⟩
  · exact .base (.lst h)
  · exact .base (.frz h)
  · exact .kList h hc
/-- a thing handed in where a list is wanted: its items, if it is a list or a tuple -/
def Arg (K : PySem.W.Frag) (H : Hp) (x : V) : Option (List V) → Prop
  | some xs => (∃ p, x = .ref p ∧ (SqL K H p xs ∨ SqT K H p xs)) ∧ xs.length ≤ 1000 ∧ ∀ v ∈ xs, Thing H v
  | none => ∃ n, n ∈ kinds ∧ n ≠ "list" ∧ n ≠ "tuple" ∧ TyX K H x (.type n)
theorem tyX_ex {K : PySem.W.Frag} {H H' : Hp} {x : V} {n : String} (e : Ex H H') (h : TyX K H x (.type n)) : TyX K H' x (.type n) := by
  cases h with
  | base h =>
    cases h with
    | non => exact .base .non
    | bl b => exact .base (.bl b)
    | int i => exact .base (.int i)
    | str z => exact .base (.str z)
    | flt z => exact .base (.flt z)
    | lst q => exact .base (.lst (e _ _ q))
    | frz q => exact .base (.frz (e _ _ q))
    | tup q => exact .base (.tup (e _ _ q))
    | dK q => exact .base (.dK (e _ _ q))
    | dT q => exact .base (.dT (e _ _ q))
  | byt b => exact .byt b
  | set q => exact .set (e _ _ q)
  | kList q c => exact .kList q c
  | kTuple q c => exact .kTuple q c
  | kDict q c => exact .kDict q c
  | fTuple q => exact .fTuple (e _ _ q)
  | fDict q => exact .fDict (e _ _ q)
theorem Arg.ex {K : PySem.W.Frag} {H H' : Hp} {x : V} {o : Option (List V)} (e : Ex H H') (h : Arg K H x o) : Arg K H' x o := by
  cases o with
  | none => obtain ⟨n, h1, h2, h3, h4⟩ := h; exact ⟨n, h1, h2, h3, tyX_ex e h4⟩
  | some xs =>
    obtain ⟨⟨p, hp, h1⟩, h2, h3⟩ := h
    exact ⟨⟨p, hp, h1.elim (fun q => .inl (ex_l e q)) (fun q => .inr (ex_t e q))⟩, h2, fun v hv => (h3 v hv).ex e⟩
/-- a list of at most m unlike names -/
def nmsO : Option (List V) → Nat → Bool
  | some xs, m => decide (xs.length ≤ m) && (xs.all isNm && decide xs.Nodup)
  | none, _ => false
theorem nmsO_some (xs : List V) (m : Nat) : nmsO (some xs) m = (decide (xs.length ≤ m) && (xs.all isNm && decide xs.Nodup)) := rfl
theorem nms_strs : ∀ {xs : List V}, xs.all isNm = true → ∃ ss : List Str, xs = ss.map V.str ∧ ∀ z ∈ ss, nameS z = true
  | [], _ => ⟨[], rfl, by simp⟩
  | x :: xs, h => by
    rw [List.all_cons, Bool.and_eq_true] at h
    obtain ⟨ss, rfl, hs⟩ := nms_strs h.2
    cases x with
    | str z => exact ⟨z :: ss, rfl, fun y hy => (List.mem_cons.mp hy).elim (fun e => e ▸ h.1) (hs y)⟩
    | _ => exact absurd h.1 (by simp [isNm])
theorem nodup_strs {ss : List Str} : (ss.map V.str).Nodup ↔ ss.Nodup := by
  induction ss with
  | nil => simp
  | cons x xs ih =>
    rw [List.map_cons, List.nodup_cons, List.nodup_cons, ih]
    have : V.str x ∈ xs.map V.str ↔ x ∈ xs := by
      rw [List.mem_map]
      exact ⟨fun ⟨y, hy, e⟩ => V.str.inj e ▸ hy, fun h => ⟨x, h, rfl⟩⟩
    rw [this]
def goodR (h : V) (b u : Option (List V)) : Bool := (decide (h = .non) || isNm h) && (nmsO b 6 && nmsO u 4)
/-- the Rule at a: its head, the items of its body and unless -/
def IsRule (K : PySem.W.Frag) (Z : Ads) (H : Hp) (a : Addr) (h : V) (bd us : List V) : Prop :=
  ∃ dx pb pu, H a = some (.ins Z.Rule dx [("head", h), ("body", .ref pb), ("unless", .ref pu)]) ∧ SqT K H pb bd ∧ SqT K H pu us ∧ (decide (h = .non) || isNm h) = true ∧ nmsO (some bd) 6 = true ∧ nmsO (some us) 4 = true
theorem IsRule.ex {K : PySem.W.Frag} {Z : Ads} {H H' : Hp} {a : Addr} {h : V} {bd us : List V} (e : Ex H H') (r : IsRule K Z H a h bd us) : IsRule K Z H' a h bd us := by
  obtain ⟨dx, pb, pu, h1, h2, h3, r⟩ := r
  exact ⟨dx, pb, pu, e _ _ h1, ex_t e h2, ex_t e h3, r⟩
/-- what the class Rule says -/
structure RuleC (K : PySem.W.Frag) (C : Addr) : Prop where
  cls : Cls K C
  nh : NoAttr K C "head"
  nb : NoAttr K C "body"
  nu : NoAttr K C "unless"
  ha : PySem.W.findIn K (.ref C) "__class__" = some (some (.builtin "object.__class__"))
  hn : PySem.W.specialIn K (.builtin "object.__class__") "__get__" = some (some (.builtin "getset_descriptor.__get__"))
  ht : PySem.W.takesIn K (.builtin "object.__class__") = some true
  hm : PySem.W.mroIn K C (.type "object") = some true
  self : PySem.W.kitOne K (.ref C) (.ref C) = some true
  noStr : PySem.W.kitOne K (.ref C) (.type "str") = some false
  noTup : PySem.W.kitOne K (.ref C) (.type "tuple") = some false
  noLst : PySem.W.kitOne K (.ref C) (.type "list") = some false
  other : ∀ n, n ∈ kinds → PySem.W.kitOne K (.type n) (.ref C) = some false
  first : ∀ n, n ∈ kinds → PySem.W.notFirst K C (.type n) = true
  first1 : PySem.W.notFirst K C (.ref C) = true
theorem rule_ty {K : PySem.W.Frag} {Z : Ads} {H : Hp} {a dx : Addr} {fs : List (Str × V)} (R : RuleC K Z.Rule) (h : H a = some (.ins Z.Rule dx fs)) : TyX K H (.ref a) (.ref Z.Rule) := .base (.ins h R.cls R.ha R.hn R.ht R.hm)
/-! ### steps about instances -/
def SFld (K : PySem.W.Frag) (f : Str) (x y : V) (σ : L2.St) (D : Ends) (H2 : Hp) : Prop := ∃ a C dx fs, x = .ref a ∧ H2 a = some (.ins C dx fs) ∧ Cls K C ∧ NoAttr K C f ∧ fs.length < 1000 ∧ D.nx σ (upd H2 a (.ins C dx (putF f y fs)))
def GFld (K : PySem.W.Frag) (f : Str) (x : V) (H1 : Hp) (Q : VK) : Prop := ∃ a C dx fs v, x = .ref a ∧ H1 a = some (.ins C dx fs) ∧ Cls K C ∧ NoAttr K C f ∧ fs.lookup f = some v ∧ Q v H1
section
variable {K : PySem.W.Frag} {σ : L2.St} {H H' : Hp} {Q : VK} {D : Ends} {ta tv : TE} {f : Str} {a C dx p : Addr} {fs : List (Str × V)} {v y : V} {xs : List V}
theorem c_sfld (h : tv σ H fun y H1 => ta σ H1 fun x H2 => SFld K f x y σ D H2) : sFld K ta tv f D σ H := h
theorem g_sfld (ha : H a = some (.ins C dx fs)) (c : Cls K C) (n : NoAttr K C f) (hl : fs.length < 1000) (h : ∀ H', Exb a H H' → H' a = some (.ins C dx (putF f y fs)) → D.nx σ H') : SFld K f (.ref a) y σ D H := ⟨a, C, dx, fs, rfl, ha, c, n, hl, h _ Exb.upd upd_same⟩
theorem c_fld (h : ta σ H fun x H1 => GFld K f x H1 Q) : tFld K ta f σ H Q := h
theorem g_fld (ha : H a = some (.ins C dx fs)) (c : Cls K C) (n : NoAttr K C f) (hl : fs.lookup f = some v) (h : Q v H) : GFld K f (.ref a) H Q := ⟨a, C, dx, fs, v, rfl, ha, c, n, hl, h⟩
theorem c_raise {W : WX} (h : W (.ref C) none σ H) : tRaiseO C W D σ H := h
theorem g_tupleS (hp : SqL K H p xs ∨ SqT K H p xs) (h : ∀ r H', Ex H H' → SqT K H' r xs → Q (.ref r) H') : rTupleS K [.ref p] H Q := by
  rcases hp with hp | hp
  · exact ⟨p, xs, rfl, .inl ⟨hp, fun r hr => h r _ (Ex.new hr) (.inl (.inl upd_same))⟩⟩
  · exact ⟨p, xs, rfl, .inr ⟨hp, h p H (Ex.refl _) hp⟩⟩
theorem c_meth0 {m : Str} {sp : Sp} {E : XK} (h : ta σ H fun x H1 => ∃ a dx fs, x = .ref a ∧ H1 a = some (.ins C dx fs) ∧ fs.lookup m = none ∧ tNil σ H1 fun vs H2 => sp (x :: (vs ++ [])) H2 Q E) : tMeth C m sp [] E ta tNil σ H Q := h
/-- an instance is changed: what is none stays -/
def noIns : HO → Bool
  | .ins _ _ _ => false
  | _ => true
theorem exb_keep {o : HO} (ha : H a = some (.ins C dx fs)) (e : Exb a H H') (hp : H p = some o) (ho : noIns o = true) : H' p = some o := e _ _ (by
  rintro rfl
  rw [ha] at hp
  cases hp
  cases ho) hp
theorem sqT_exb (ha : H a = some (.ins C dx fs)) (e : Exb a H H') (h : SqT K H p xs) : SqT K H' p xs := by
  rcases h with (h | ⟨o, h⟩) | h
  · exact .inl (.inl (exb_keep ha e h rfl))
  · exact .inl (.inr ⟨o, exb_keep ha e h rfl⟩)
  · exact .inr h
theorem sqL_exb (ha : H a = some (.ins C dx fs)) (e : Exb a H H') (h : SqL K H p xs) : SqL K H' p xs := by
  rcases h with (h | ⟨o, h⟩) | h
  · exact .inl (.inl (exb_keep ha e h rfl))
  · exact .inl (.inr ⟨o, exb_keep ha e h rfl⟩)
  · exact .inr h
end
theorem nm_cases {h : V} (g : (decide (h = .non) || isNm h) = true) : h = .non ∨ ∃ z, h = .str z ∧ nameS z = true := by
  cases h with
  | non => exact .inl rfl
  | str z => exact .inr ⟨z, rfl, by simpa [isNm] using g⟩
  | _ => simp [isNm] at g
theorem nms_of {xs : List V} {m : Nat} (g : nmsO (some xs) m = true) : ∃ ss : List Str, xs = ss.map V.str ∧ (∀ z ∈ ss, nameS z = true) ∧ ss.Nodup ∧ ss.length ≤ m := by
  rw [nmsO_some, Bool.and_eq_true, Bool.and_eq_true] at g
  obtain ⟨g1, g2, g3⟩ := g
  obtain ⟨ss, rfl, hs⟩ := nms_strs g2
  exact ⟨ss, rfl, hs, nodup_strs.mp (of_decide_eq_true g3), by simpa using of_decide_eq_true g1⟩
theorem ok_names {ss : List Str} (h : ∀ z ∈ ss, nameS z = true) : (ss.map V.str).all okV = true := by
  rw [List.all_map, List.all_eq_true]
  exact fun z hz => (okS_iff z).mpr (nameS_ok (h z hz))
theorem eqv_strs : ∀ xs ys : List Str, PyData.eqvAll ((xs.map V.str).map dV) ((ys.map V.str).map dV) = decide (xs = ys)
  | [], [] => by simp [PyData.eqvAll]
  | [], y :: ys => by simp [PyData.eqvAll]
  | x :: xs, [] => by simp [PyData.eqvAll]
  | x :: xs, y :: ys => by
    show (PyData.eqv (.str x) (.str y) && PyData.eqvAll ((xs.map V.str).map dV) ((ys.map V.str).map dV)) = _
    rw [eqv_strs xs ys, show PyData.eqv (.str x) (.str y) = (x == y) by simp [PyData.eqv], Bool.eq_iff_iff]
    simp
theorem g_eq_tt {K : PySem.W.Frag} {H : Hp} {Q : VK} {p q : Addr} {xs ys : List Str} (hp : SqT K H p (xs.map V.str)) (hq : SqT K H q (ys.map V.str)) (h1 : ∀ z ∈ xs, nameS z = true) (h2 : ∀ z ∈ ys, nameS z = true) (h : Q (.bl (decide (xs = ys))) H) : gEq K (.ref p) (.ref q) H Q := by
  refine g_eq_d (.tup hp (dpAll_flat (okAll_flat (ok_names h1)))) (.tup hq (dpAll_flat (okAll_flat (ok_names h2)))) (shaped_t (ok_names h1)) (shaped_t (ok_names h2)) ?_
  rw [show PyData.eqv (.tuple ((xs.map V.str).map dV)) (.tuple ((ys.map V.str).map dV)) = decide (xs = ys) by
    rw [← eqv_strs]; simp [PyData.eqv]]
  exact h
/-! ### promises -/
def sp_is_names (K : PySem.W.Frag) : Sp := fun vs H Q _ => ∃ (x : V) (m : Nat) (o : Option (List V)), vs = [x, .int (m : Nat)] ∧ Arg K H x o ∧ m ≤ 1000 ∧ ∀ H', Ex H H' → Q (.bl (nmsO o m)) H'
def sp_Rule___init__ (K : PySem.W.Frag) (Z : Ads) : Sp := fun vs H Q E => ∃ (a dx : Addr) (h b u : V) (ob ou : Option (List V)), vs = [.ref a, h, b, u] ∧ H a = some (.ins Z.Rule dx []) ∧ Thing H h ∧ Arg K H b ob ∧ Arg K H u ou ∧ 
  (goodR h ob ou = true → ∀ H', Exb a H H' → IsRule K Z H' a h (ob.getD []) (ou.getD []) → Q .non H') ∧ (goodR h ob ou = false → ∀ H', Ex H H' → E (.ref Z.BadRule) none H')
def sp_Rule_told (K : PySem.W.Frag) (Z : Ads) : Sp := fun vs H Q _ => ∃ (a : Addr) (h : V) (bd us : List V), vs = [.ref a] ∧ IsRule K Z H a h bd us ∧ ∀ p pb pu H', Ex H H' → H' p = some (.tup [.str "rule", h, .ref pb, .ref pu]) → SqT K H' pb bd → SqT K H' pu us → Q (.ref p) H'
def sp_Rule___eq__ (K : PySem.W.Frag) (Z : Ads) : Sp := fun vs H Q _ => ∃ (a : Addr) (h y : V) (bd us : List V), vs = [.ref a, y] ∧ IsRule K Z H a h bd us ∧
  ((∃ n, n ∈ kinds ∧ TyX K H y (.type n) ∧ ∀ H', Ex H H' → Q (.bl false) H') ∨ (∃ b h' bd' us', y = .ref b ∧ IsRule K Z H b h' bd' us' ∧ ∀ H', Ex H H' → Q (.bl (decide (h = h') && (decide (bd = bd') && decide (us = us')))) H'))
theorem take_min {α : Type} (xs : List α) (i : Nat) : xs.take (min i xs.length) = xs.take i := by
  by_cases h : i ≤ xs.length
  · rw [Nat.min_eq_left h]
  · rw [Nat.min_eq_right (by omega), List.take_of_length_le (Nat.le_refl _), List.take_of_length_le (by omega)]
theorem cut_take (xs : List V) (i : Nat) : cutV xs none (some (i : Int)) = xs.take i := by
  unfold cutV
  rw [HT.sIx_none, HT.sIx_nat, List.drop_zero, Nat.sub_zero, take_min]
theorem cut_drop (xs : List V) (i : Nat) : cutV xs (some (i : Int)) none = xs.drop i := by
  unfold cutV
  rw [HT.sIx_none, HT.sIx_nat]
  by_cases h : i ≤ xs.length
  · rw [Nat.min_eq_left h]
    exact List.take_of_length_le (by rw [List.length_drop]; exact Nat.le_refl _)
  · rw [Nat.min_eq_right (by omega), List.drop_eq_nil_of_le (Nat.le_refl _), List.drop_eq_nil_of_le (by omega), List.take_nil]
theorem cutS_take (z : Str) (i : Nat) : (cutS z none (some (i : Int))).cps.toList = z.cps.toList.take i := by
  show (z.cps.toList.drop (HT.sIx z.length 0 none)).take (HT.sIx z.length z.length (some (i : Int)) - HT.sIx z.length 0 none) = _
  rw [HT.sIx_none, HT.sIx_nat, List.drop_zero, Nat.sub_zero, ← len_tl, take_min]
section
variable {K : PySem.W.Frag} {σ : L2.St} {H : Hp} {Q : VK} {QS : L2.St → Hp → Prop}
theorem c_iEnum {ta : TA} {R : It → Hp → Prop} (h : ta σ H fun vs H1 => ∃ a xs, vs = [.ref a] ∧ SqL K H1 a xs ∧ R (Ite K a) H1) : iEnum K ta σ H R := h
theorem c_iE {p : Addr} {xs : List V} {R : Addr → Prop} (hp : SqL K H p xs) (h : R p) : ∃ a ys, [V.ref p] = [.ref a] ∧ SqL K H a ys ∧ R a := ⟨p, xs, rfl, hp, h⟩
/-- a, b = a pair -/
theorem g_pair {p : Addr} {x y : V} {i j : Nat} (hp : SqT K H p [x, y]) (h : gName i x σ H fun σ1 H1 => gName j y σ1 H1 QS) : gTup K 2 (gCons (gName i) (gCons (gName j) gNil)) (.ref p) σ H QS :=
  ⟨p, [x, y], rfl, hp, rfl, x, [y], rfl, y, [], rfl, rfl, h⟩
theorem g_listS {p : Addr} {xs : List V} (hp : SqL K H p xs ∨ SqT K H p xs) (h : ∀ r H', H r = none → Ex H H' → H' r = some (.lst xs) → Q (.ref r) H') : rListS K [.ref p] H Q := ⟨p, xs, rfl, hp, fun r hr => h r _ hr (Ex.new hr) upd_same⟩
theorem c_bm {T : String} {r : V → List V → Hp → VK → Prop} {to : TE} {t : TA} (h : to σ H fun x H1 => tyV K T x H1 ∧ t σ H1 fun xs H2 => r x xs H2 Q) : tBM K T r to t σ H Q := h
theorem c_bm0 {T : String} {r : V → List V → Hp → VK → Prop} {to : TE} (h : to σ H fun x H1 => tyV K T x H1 ∧ r x [] H1 Q) : tBM0 K T r to σ H Q := h
theorem ty_l {p : Addr} {xs : List V} (hp : H p = some (.lst xs)) : tyV K "list" (.ref p) H := .inl ⟨rfl, _, sq_l hp⟩
theorem g_append {p : Addr} {xs : List V} {y : V} (hp : H p = some (.lst xs)) (hl : xs.length < 100000) (h : ∀ H', Exb p H H' → H' p = some (.lst (xs ++ [y])) → Q .non H') : rAppend (.ref p) [y] H Q := ⟨p, xs, y, rfl, rfl, hp, sz_lt hl, h _ Exb.upd upd_same⟩
theorem g_reverse {p : Addr} {xs : List V} (hp : H p = some (.lst xs)) (h : ∀ H', Exb p H H' → H' p = some (.lst xs.reverse) → Q .non H') : rReverse (.ref p) [] H Q := ⟨p, xs, rfl, rfl, hp, h _ Exb.upd upd_same⟩
/-- what was there ahead of a new list is there still -/
theorem ex_exb {H0 H1 H2 : Hp} {p : Addr} (e : Ex H0 H1) (n : H0 p = none) (b : Exb p H1 H2) : Ex H0 H2 := fun a o h => b a o (ne_of_none h n) (e a o h)
theorem g_rev {p : Addr} {xs : List V} {te : TE} (h : te σ H fun x H1 => ∃ a ys, x = .ref a ∧ SqL K H1 a ys ∧ ∀ p, H1 p = none → Q (.ref p) (upd H1 p (.lst ys.reverse))) : tRevL K te σ H Q := h
theorem g_revE {p : Addr} {xs : List V} (hp : SqL K H p xs) (h : ∀ r H', H r = none → Ex H H' → H' r = some (.lst xs.reverse) → Q (.ref r) H') : ∃ a ys, V.ref p = .ref a ∧ SqL K H a ys ∧ ∀ p, H p = none → Q (.ref p) (upd H p (.lst ys.reverse)) := ⟨p, xs, rfl, hp, fun r hr => h r _ hr (Ex.new hr) upd_same⟩
end
/-! ### a Rule is made -/
def MKP (C : Addr) (n m : Nat) (sp : Sp) (gV : List V → List V → List V) (E : XK) (Q : VK) (vs zs : List V) (H2 : Hp) : Prop := vs.length = n ∧ zs.length = m ∧
  ∀ a dx, H2 a = none → H2 dx = none → dx ≠ a → sp (gV (.ref a :: vs) zs) (upd (upd H2 dx (.own a)) a (.ins C dx [])) (fun v H3 => v = .non ∧ Q (.ref a) H3) E
theorem c_mk {σ : L2.St} {H : Hp} {Q : VK} {C : Addr} {n m : Nat} {sp : Sp} {gV : List V → List V → List V} {E : L2.St → XK} {t tk : TA} (h : t σ H fun vs H1 => tk σ H1 fun zs H2 => MKP C n m sp gV (E σ) Q vs zs H2) : tMk C n m sp gV E t tk σ H Q := h
theorem c_try {σ : L2.St} {H : Hp} {D : Ends} {K : PySem.W.Frag} {c : Value} {i : Nat} {tb : WX → TS} {ts : Addr → Value → Option Addr → TS} (h : tb (wKeep K c i ts D) D σ H) : tTryK K c i tb ts D σ H := h
theorem mk_rule {K : PySem.W.Frag} {Z : Ads} {n m : Nat} {gV : List V → List V → List V} {vs zs : List V} {Q : VK} {E : XK} {H : Hp} {h b u : V} {ob ou : Option (List V)} (hx : Thing H h) (hb : Arg K H b ob) (hu : Arg K H u ou)
    (good : goodR h ob ou = true → ∀ a H', H a = none → Ex H H' → IsRule K Z H' a h (ob.getD []) (ou.getD []) → Q (.ref a) H') (bad : goodR h ob ou = false → ∀ H', Ex H H' → E (.ref Z.BadRule) none H')
    (hn : vs.length = n := by rfl) (hm : zs.length = m := by rfl) (hg : ∀ a, gV (.ref a :: vs) zs = [.ref a, h, b, u] := by intro _; rfl) : MKP Z.Rule n m (sp_Rule___init__ K Z) gV E Q vs zs H := by
  refine ⟨hn, hm, fun a dx na ndx ne => ?_⟩
  rw [hg]
  have e : Ex H (upd (upd H dx (.own a)) a (.ins Z.Rule dx [])) := Ex.mut (Ex.new ndx) na
  exact ⟨a, dx, h, b, u, ob, ou, rfl, upd_same, hx.ex e, hb.ex e, hu.ex e, fun g H' eb r => ⟨rfl, good g a H' na (ex_exb e na eb) r⟩, fun g H' e' => bad g H' (e.trans e')⟩
end Gx

set_option maxHeartbeats 800000
/-! joins of ways, lists aside (Exl), things of kinds, candidates, made rules: what k02's readings needed beside -/
namespace Gx
open PySem PySem.Spec PyProof.Rows L2 Evl
local macro_rules | `(tactic| walk_at "get") => `(tactic| first
  | assumption
  | exact upd_same
  | ((with_reducible refine sq_l ?_); walk_at "get")
  | ((with_reducible refine sq_t ?_); walk_at "get")
  | ((with_reducible refine ex_l (by assumption) ?_); walk_at "get")
  | ((with_reducible refine ex_t (by assumption) ?_); walk_at "get")
  | ((with_reducible refine Draw.ex (by assumption) ?_); walk_at "get")
  | ((with_reducible refine Arg.ex (by assumption) ?_); walk_at "get")
  | ((with_reducible refine IsRule.ex (by assumption) ?_); walk_at "get")
  | ((with_reducible refine Thing.ex (by assumption) ?_); walk_at "get")
  | ((with_reducible refine exget (by assumption) ?_); walk_at "get"))
local macro_rules | `(tactic| walk_at "rd1") => `(tactic| first
  | (with_reducible refine c_seq ?_)
  | (with_reducible refine c_next ?_)
  | (with_reducible refine c_drop ?_)
  | (with_reducible refine c_ret ?_)
  | (with_reducible refine c_retN ?_)
  | (with_reducible refine c_ifs ?_)
  | (with_reducible refine c_c ?_)
  | (with_reducible refine c_op ?_)
  | (with_reducible refine c_un ?_)
  | (with_reducible refine c_cb ?_)
  | (with_reducible refine c_nil ?_)
  | (with_reducible refine c_cons ?_)
  | (with_reducible refine c_call ?_)
  | (with_reducible refine c_callK ?_)
  | (with_reducible refine c_test ?_)
  | (with_reducible refine c_tB ?_)
  | (with_reducible refine c_and ?_)
  | (with_reducible refine c_or ?_)
  | (with_reducible refine c_not ?_)
  | (with_reducible refine c_andV ?_)
  | (with_reducible refine c_orV ?_)
  | (with_reducible refine c_notV ?_)
  | (with_reducible refine c_if ?_)
  | (with_reducible refine c_chain ?_)
  | (with_reducible refine c_sl ?_)
  | (with_reducible refine c_nop ?_)
  | (with_reducible refine c_part ?_)
  | (with_reducible refine c_lst ?_)
  | (with_reducible refine c_tup ?_)
  | (with_reducible refine c_bl ?_)
  | (with_reducible refine c_blP ?_)
  | (with_reducible refine c_parti ?_)
  | (with_reducible refine c_t ?_)
  | (with_reducible refine c_f ?_)
  | (with_reducible refine g_add_i ?_)
  | (with_reducible refine g_sub_i ?_)
  | (with_reducible refine g_neg ?_)
  | (with_reducible refine g_eq_i ?_)
  | (with_reducible refine g_eq_st ?_)
  | (with_reducible refine g_eq_b ?_)
  | (with_reducible refine g_ne_i ?_)
  | (with_reducible refine g_ne_st ?_)
  | (with_reducible refine g_ne_b ?_)
  | (with_reducible refine g_lt_i ?_)
  | (with_reducible refine g_le_i ?_)
  | (with_reducible refine g_gt_i ?_)
  | (with_reducible refine g_ge_i ?_)
  | (with_reducible refine g_le_s ?_)
  | (with_reducible refine g_in_s ?_)
  | (with_reducible refine g_ni_s ?_)
  | (with_reducible refine c_brk ?_)
  | (with_reducible refine c_cont ?_)
  | (with_reducible refine c_for ?_)
  | (with_reducible refine c_lcW ?_)
  | (with_reducible refine c_iList ?_)
  | (with_reducible refine c_iTup ?_)
  | (with_reducible refine c_iStr ?_)
  | (with_reducible refine c_iRng1 ?_)
  | (with_reducible refine c_iS ?_)
  | (with_reducible refine c_yes ?_)
  | (with_reducible refine c_sub ?_)
  | (with_reducible refine c_pair ?_)
  | (with_reducible refine c_pnil ?_)
  | (with_reducible refine c_isn ?_)
  | (with_reducible refine c_notn ?_)
  | (with_reducible refine c_sfld ?_)
  | (with_reducible refine c_fld ?_)
  | (with_reducible refine c_raise ?_)
  | (with_reducible refine c_meth0 ?_)
  | (with_reducible refine c_iEnum ?_)
  | (with_reducible refine c_bm ?_)
  | (with_reducible refine c_bm0 ?_)
  | (with_reducible refine c_mk ?_)
  | (with_reducible refine c_try ?_)
  | (with_reducible refine c_var0 ?_)
  | (with_reducible refine c_asg0 ?_)
  | (with_reducible refine c_nam0 ?_)
  | (with_reducible refine c_var1 ?_)
  | (with_reducible refine c_asg1 ?_)
  | (with_reducible refine c_nam1 ?_)
  | (with_reducible refine c_var2 ?_)
  | (with_reducible refine c_asg2 ?_)
  | (with_reducible refine c_nam2 ?_)
  | (with_reducible refine c_var3 ?_)
  | (with_reducible refine c_asg3 ?_)
  | (with_reducible refine c_nam3 ?_)
  | (with_reducible refine c_var4 ?_)
  | (with_reducible refine c_asg4 ?_)
  | (with_reducible refine c_nam4 ?_)
  | (with_reducible refine c_var5 ?_)
  | (with_reducible refine c_asg5 ?_)
  | (with_reducible refine c_nam5 ?_)
  | (with_reducible refine c_var6 ?_)
  | (with_reducible refine c_asg6 ?_)
  | (with_reducible refine c_nam6 ?_)
  | (with_reducible refine c_var7 ?_)
  | (with_reducible refine c_asg7 ?_)
  | (with_reducible refine c_nam7 ?_)
  | (with_reducible refine c_var8 ?_)
  | (with_reducible refine c_asg8 ?_)
  | (with_reducible refine c_nam8 ?_)
  | (with_reducible refine c_var9 ?_)
  | (with_reducible refine c_asg9 ?_)
  | (with_reducible refine c_nam9 ?_)
  | (with_reducible refine c_var10 ?_)
  | (with_reducible refine c_asg10 ?_)
  | (with_reducible refine c_nam10 ?_)
  | (with_reducible refine c_var11 ?_)
  | (with_reducible refine c_asg11 ?_)
  | (with_reducible refine c_nam11 ?_)
  | (with_reducible refine c_var12 ?_)
  | (with_reducible refine c_asg12 ?_)
  | (with_reducible refine c_nam12 ?_)
  | (with_reducible refine c_var13 ?_)
  | (with_reducible refine c_asg13 ?_)
  | (with_reducible refine c_nam13 ?_)
  | (with_reducible refine c_var14 ?_)
  | (with_reducible refine c_asg14 ?_)
  | (with_reducible refine c_nam14 ?_)
  | (with_reducible refine c_var15 ?_)
  | (with_reducible refine c_asg15 ?_)
  | (with_reducible refine c_nam15 ?_)
  | (with_reducible refine c_asgG ?_)
  | ((with_reducible refine g_ix_l (xs := ?gxa) (v := ?gxb) ?gx1 ?gx2 ?gx3); (case gx1 => walk_at "get"); (case gx2 => rfl))
  | ((with_reducible refine g_len_l (xs := ?gxa) (.inl ?gx1) ?gx3); (case gx1 => walk_at "get"))
  | ((with_reducible refine g_mod_i ?gx1 ?gx3); (case gx1 => omega)))
local macro_rules | `(tactic| walk_at "rd") => `(tactic| repeat walk_at "rd1")
local macro_rules | `(tactic| walk_at "rs1") => `(tactic| first
  | (with_reducible refine c_next ?_)
  | (with_reducible refine c_drop ?_)
  | (with_reducible refine c_ret ?_)
  | (with_reducible refine c_retN ?_)
  | (with_reducible refine c_ifs ?_)
  | (with_reducible refine c_c ?_)
  | (with_reducible refine c_op ?_)
  | (with_reducible refine c_un ?_)
  | (with_reducible refine c_cb ?_)
  | (with_reducible refine c_nil ?_)
  | (with_reducible refine c_cons ?_)
  | (with_reducible refine c_call ?_)
  | (with_reducible refine c_callK ?_)
  | (with_reducible refine c_test ?_)
  | (with_reducible refine c_tB ?_)
  | (with_reducible refine c_and ?_)
  | (with_reducible refine c_or ?_)
  | (with_reducible refine c_not ?_)
  | (with_reducible refine c_andV ?_)
  | (with_reducible refine c_orV ?_)
  | (with_reducible refine c_notV ?_)
  | (with_reducible refine c_chain ?_)
  | (with_reducible refine c_sl ?_)
  | (with_reducible refine c_nop ?_)
  | (with_reducible refine c_part ?_)
  | (with_reducible refine c_lst ?_)
  | (with_reducible refine c_tup ?_)
  | (with_reducible refine c_bl ?_)
  | (with_reducible refine c_blP ?_)
  | (with_reducible refine c_parti ?_)
  | (with_reducible refine c_t ?_)
  | (with_reducible refine c_f ?_)
  | (with_reducible refine g_add_i ?_)
  | (with_reducible refine g_sub_i ?_)
  | (with_reducible refine g_neg ?_)
  | (with_reducible refine g_eq_i ?_)
  | (with_reducible refine g_eq_st ?_)
  | (with_reducible refine g_eq_b ?_)
  | (with_reducible refine g_ne_i ?_)
  | (with_reducible refine g_ne_st ?_)
  | (with_reducible refine g_ne_b ?_)
  | (with_reducible refine g_lt_i ?_)
  | (with_reducible refine g_le_i ?_)
  | (with_reducible refine g_gt_i ?_)
  | (with_reducible refine g_ge_i ?_)
  | (with_reducible refine g_le_s ?_)
  | (with_reducible refine g_in_s ?_)
  | (with_reducible refine g_ni_s ?_)
  | (with_reducible refine c_brk ?_)
  | (with_reducible refine c_cont ?_)
  | (with_reducible refine c_for ?_)
  | (with_reducible refine c_lcW ?_)
  | (with_reducible refine c_iList ?_)
  | (with_reducible refine c_iTup ?_)
  | (with_reducible refine c_iStr ?_)
  | (with_reducible refine c_iRng1 ?_)
  | (with_reducible refine c_iS ?_)
  | (with_reducible refine c_yes ?_)
  | (with_reducible refine c_sub ?_)
  | (with_reducible refine c_pair ?_)
  | (with_reducible refine c_pnil ?_)
  | (with_reducible refine c_isn ?_)
  | (with_reducible refine c_notn ?_)
  | (with_reducible refine c_sfld ?_)
  | (with_reducible refine c_fld ?_)
  | (with_reducible refine c_raise ?_)
  | (with_reducible refine c_meth0 ?_)
  | (with_reducible refine c_iEnum ?_)
  | (with_reducible refine c_bm ?_)
  | (with_reducible refine c_bm0 ?_)
  | (with_reducible refine c_mk ?_)
  | (with_reducible refine c_try ?_)
  | (with_reducible refine c_var0 ?_)
  | (with_reducible refine c_asg0 ?_)
  | (with_reducible refine c_nam0 ?_)
  | (with_reducible refine c_var1 ?_)
  | (with_reducible refine c_asg1 ?_)
  | (with_reducible refine c_nam1 ?_)
  | (with_reducible refine c_var2 ?_)
  | (with_reducible refine c_asg2 ?_)
  | (with_reducible refine c_nam2 ?_)
  | (with_reducible refine c_var3 ?_)
  | (with_reducible refine c_asg3 ?_)
  | (with_reducible refine c_nam3 ?_)
  | (with_reducible refine c_var4 ?_)
  | (with_reducible refine c_asg4 ?_)
  | (with_reducible refine c_nam4 ?_)
  | (with_reducible refine c_var5 ?_)
  | (with_reducible refine c_asg5 ?_)
  | (with_reducible refine c_nam5 ?_)
  | (with_reducible refine c_var6 ?_)
  | (with_reducible refine c_asg6 ?_)
  | (with_reducible refine c_nam6 ?_)
  | (with_reducible refine c_var7 ?_)
  | (with_reducible refine c_asg7 ?_)
  | (with_reducible refine c_nam7 ?_)
  | (with_reducible refine c_var8 ?_)
  | (with_reducible refine c_asg8 ?_)
  | (with_reducible refine c_nam8 ?_)
  | (with_reducible refine c_var9 ?_)
  | (with_reducible refine c_asg9 ?_)
  | (with_reducible refine c_nam9 ?_)
  | (with_reducible refine c_var10 ?_)
  | (with_reducible refine c_asg10 ?_)
  | (with_reducible refine c_nam10 ?_)
  | (with_reducible refine c_var11 ?_)
  | (with_reducible refine c_asg11 ?_)
  | (with_reducible refine c_nam11 ?_)
  | (with_reducible refine c_var12 ?_)
  | (with_reducible refine c_asg12 ?_)
  | (with_reducible refine c_nam12 ?_)
  | (with_reducible refine c_var13 ?_)
  | (with_reducible refine c_asg13 ?_)
  | (with_reducible refine c_nam13 ?_)
  | (with_reducible refine c_var14 ?_)
  | (with_reducible refine c_asg14 ?_)
  | (with_reducible refine c_nam14 ?_)
  | (with_reducible refine c_var15 ?_)
  | (with_reducible refine c_asg15 ?_)
  | (with_reducible refine c_nam15 ?_)
  | (with_reducible refine c_asgG ?_)
  | ((with_reducible refine g_ix_l (xs := ?gxa) (v := ?gxb) ?gx1 ?gx2 ?gx3); (case gx1 => walk_at "get"); (case gx2 => rfl))
  | ((with_reducible refine g_len_l (xs := ?gxa) (.inl ?gx1) ?gx3); (case gx1 => walk_at "get"))
  | ((with_reducible refine g_mod_i ?gx1 ?gx3); (case gx1 => omega)))
local macro_rules | `(tactic| walk_at "rs") => `(tactic| repeat walk_at "rs1")
section
variable {P : Program} {w : World} {K : PySem.W.Frag} {mg : Str → Option Value} {base : Heap} {Z : Ads}
def sp__law_words (K : PySem.W.Frag) : Sp := fun vs H Q _ => ∃ (d : Addr) (m : Int), vs = [.ref d, .int m] ∧ Draw H d ∧ 0 ≤ m ∧ m ≤ 23 ∧
  ∀ p (ss : List Str) H', H p = none → Ex H H' → H' p = some (.lst (ss.map V.str)) → (ss.length : Int) = m → ss.Nodup → (∀ z ∈ ss, nameS z = true) → Q (.ref p) H'
def sp__law_name (K : PySem.W.Frag) : Sp := fun vs H Q _ => ∃ x : V, vs = [x] ∧ Thing H x ∧ ∀ H', Ex H H' → Q (.bl (isNm x)) H'
/-- a list of ours, or no list and no tuple -/
def ArgL (K : PySem.W.Frag) (H : Hp) (x : V) (o : Option (List V)) : Prop := Arg K H x o ∧ ∀ xs, o = some xs → ∃ p, x = .ref p ∧ H p = some (.lst xs)
theorem ArgL.ex {K : PySem.W.Frag} {H H' : Hp} {x : V} {o : Option (List V)} (e : Ex H H') (h : ArgL K H x o) : ArgL K H' x o := ⟨h.1.ex e, fun xs hx => by
  obtain ⟨p, h1, h2⟩ := h.2 xs hx
  exact ⟨p, h1, e _ _ h2⟩⟩
theorem lt_a (c : Nat) : decide ([c] < ("a" : Str).cps.toList) = decide (c < 97) := by
  have e : ("a" : Str).cps.toList = [97] := by decide +kernel
  rw [e, decide_eq_decide]
  simp [List.cons_lt_cons_iff]
theorem lt_z (c : Nat) : decide (("z" : Str).cps.toList < [c]) = decide (122 < c) := by
  have e : ("z" : Str).cps.toList = [122] := by decide +kernel
  rw [e, decide_eq_decide]
  simp [List.cons_lt_cons_iff]
theorem all_mapid {α : Type} (f : α → Bool) (l : List α) : (l.map f).all id = l.all f := by
  rw [List.all_map]; rfl
theorem own_names : ∀ z ∈ (["lot", "held", "back", "by", "in", "all", "some", "none", "rule", "told", "rank", "nots", "a", "z", "maybe"] : List Str), nameS z = true := by decide +kernel
theorem taken_cut : ∀ z ∈ taken, nameS (cutS z none (some (-1))) = true := by decide +kernel
theorem scal_nm {x y : V} (h : x = .non ∨ ∃ z, x = .str z ∧ nameS z = true) (h' : y = .non ∨ ∃ z, y = .str z ∧ nameS z = true) : scal x y = true := by
  rcases h with rfl | ⟨z, rfl, _⟩ <;> rcases h' with rfl | ⟨z', rfl, _⟩ <;> rfl
theorem dec_map {xs ys : List Str} : decide (xs.map V.str = ys.map V.str) = decide (xs = ys) := by
  rw [decide_eq_decide]
  exact ⟨fun e => List.map_inj_right (fun _ _ e => V.str.inj e) |>.mp e, fun e => by rw [e]⟩
theorem kit_lt {n : String} (hn : n ∈ kinds) : PySem.W.kitAny K (.type n) [.type "list", .type "tuple"] = some (n == "list" || n == "tuple") := by
  have h1 := kit_kinds (K := K) hn (show "list" ∈ kinds by decide)
  have h2 := kit_kinds (K := K) hn (show "tuple" ∈ kinds by decide)
  have e1 : subK n "list" = (n == "list") := by unfold subK; rw [show ("list" == "int") = false by decide]; simp
  have e2 : subK n "tuple" = (n == "tuple") := by unfold subK; rw [show ("tuple" == "int") = false by decide]; simp
  rw [e1] at h1
  rw [e2] at h2
  exact kitAny_cons h1 (fun e => kitAny_cons h2 (fun e' => by rw [kitAny_nil, e, e']; rfl) (fun e' => by rw [e']; simp)) (fun e => by rw [e]; simp)
theorem g_isi_lt {H : Hp} {Q : VK} {x : V} {o : Option (List V)} {tp : Addr} (hp : H tp = some (.tup [.ty "list", .ty "tuple"])) (hx : Arg K H x o) (q : Q (.bl o.isSome) H) : gIsi K [x, .ref tp] H Q := by
  have go : ∀ {n}, n ∈ kinds → TyX K H x (.type n) → (n == "list" || n == "tuple") = o.isSome → gIsi K [x, .ref tp] H Q := fun {n} hn ht e => by
    refine .inr (.inl ⟨x, tp, _, _, _, _, rfl, hp, .cons (.ty "list") (.cons (.ty "tuple") .nil), ht, kit_lt hn, ?_⟩)
    rw [e]; exact q
  cases o with
  | none =>
    obtain ⟨n, hn, n1, n2, ht⟩ := hx
    exact go hn ht (by simp [n1, n2])
  | some xs =>
    obtain ⟨⟨p, rfl, h | h⟩, -, -⟩ := hx
    · exact go (n := "list") (by decide) (sqL_ty h) (show ("list" == "list" || "list" == "tuple") = true by decide)
    · exact go (n := "tuple") (by decide) (sqT_ty h) (show ("tuple" == "list" || "tuple" == "tuple") = true by decide)
theorem take_snoc {α : Type} {xs : List α} {i : Nat} {y : α} (h : xs[i]? = some y) : xs.take (i + 1) = xs.take i ++ [y] := by
  rw [List.take_add_one, h]; rfl
theorem flat_nms {xs : List V} (h : xs.all isNm = true) : xs.all flatV = true := by
  obtain ⟨ss, rfl, _⟩ := nms_strs h
  exact flat_str ss
theorem inV_nms {xs : List V} (h : xs.all isNm = true) {y : V} (hy : isNm y = true) : inV y xs = decide (y ∈ xs) := by
  obtain ⟨ss, rfl, _⟩ := nms_strs h
  cases y with
  | str z =>
    rw [inV_strs, decide_eq_decide]
    exact ⟨fun k => List.mem_map.mpr ⟨z, k, rfl⟩, fun k => by
      obtain ⟨z', hz', e⟩ := List.mem_map.mp k
      cases e; exact hz'⟩
  | _ => cases hy
theorem nm_flat {y : V} (hy : isNm y = true) : flatV y = true := by
  cases y with
  | str z => rfl
  | _ => cases hy
theorem nodup_snoc {α : Type} {xs : List α} {y : α} (h : xs.Nodup) (hy : y ∉ xs) : (xs ++ [y]).Nodup := by
  rw [List.nodup_append]
  exact ⟨h, by simp, fun a ha b hb e => hy (by rw [List.mem_singleton.mp hb] at e; exact e ▸ ha)⟩
theorem sub_len {α : Type} [DecidableEq α] : ∀ {xs ys : List α}, xs.Nodup → (∀ x ∈ xs, x ∈ ys) → xs.length ≤ ys.length
  | [], _, _, _ => Nat.zero_le _
  | x :: xs, ys, nd, h => by
    have hx := h x (by simp)
    rw [List.nodup_cons] at nd
    have := sub_len (ys := ys.erase x) nd.2 (fun y hy => (List.mem_erase_of_ne (fun e : y = x => nd.1 (by rw [← e]; exact hy))).mpr (h y (List.mem_cons_of_mem _ hy)))
    rw [List.length_erase_of_mem hx] at this
    have := List.length_pos_of_mem hx
    rw [List.length_cons]
    omega
def cand (z : Str) (c : Nat) : Str := cutS z none (some 7) ++ (⟨#[c]⟩ : Str)
theorem cand_tl (z : Str) (c : Nat) : (cand z c).cps.toList = z.cps.toList.take 7 ++ [c] := by
  unfold cand
  rw [show ((cutS z none (some 7) ++ ⟨#[c]⟩ : Str)).cps.toList = (cutS z none (some 7)).cps.toList ++ [c] from TL.tl_append _ _]
  rw [show cutS z none (some 7) = cutS z none (some ((7 : Nat) : Int)) from rfl, cutS_take]
theorem cand_name {z : Str} {c : Nat} (h : nameS z = true) (hc : isLet c = true) (nt : cand z c ∉ taken) : nameS (cand z c) = true := by
  obtain ⟨h1, _, h3⟩ := (nameS_iff z).mp h
  refine (nameS_iff _).mpr ⟨?_, nt, ?_⟩
  · rw [← len_tl, cand_tl, List.length_append, List.length_take, len_tl]
    simp; omega
  · intro c' hc'
    rw [cand_tl] at hc'
    rcases List.mem_append.mp hc' with k | k
    · exact h3 c' (List.mem_of_mem_take k)
    · rw [List.mem_singleton.mp k]; exact hc
theorem abc_nodup : abcS.cps.toList.Nodup := by decide +kernel
theorem cand_ex (z : Str) {L : List Str} (hL : L.length ≤ 25) : ∃ c, c ∈ abcS.cps.toList ∧ cand z c ∉ L := by
  refine Classical.byContradiction fun no => ?_
  have h1 : (abcS.cps.toList.map (cand z)).Nodup := by
    refine List.pairwise_map.mpr (abc_nodup.imp ?_)
    intro a b ne e
    have := congrArg (fun s : Str => s.cps.toList) e
    simp only [cand_tl] at this
    exact ne (by simpa using this)
  have h2 := sub_len (ys := L) h1 (fun x hx => by
    obtain ⟨c, hc, rfl⟩ := List.mem_map.mp hx
    exact Classical.byContradiction fun k => no ⟨c, hc, k⟩)
  rw [List.length_map, show abcS.cps.toList.length = 26 by decide +kernel] at h2
  omega
def thingB : V → Bool
  | .non => true
  | .bl _ => true
  | .int _ => true
  | .str z => decide (z.length ≤ 1000) && PyData.strOk z
  | _ => false
theorem thing_b {H : Hp} {v : V} (h : thingB v = true) : Thing H v := by
  cases v with
  | str z =>
    have h' : (decide (z.length ≤ 1000) && PyData.strOk z) = true := h
    rw [Bool.and_eq_true] at h'
    exact ⟨of_decide_eq_true h'.1, (okS_iff z).mp h'.2⟩
  | non => trivial
  | bl b => trivial
  | int i => trivial
  | _ => cases h
def kindB : V → Bool
  | .non => true
  | .bl _ => true
  | .int _ => true
  | .str _ => true
  | _ => false
theorem arg_b {H : Hp} {v : V} (h : kindB v = true) : ArgL K H v none := by
  refine ⟨?_, fun _ h => by cases h⟩
  cases v with
  | non => exact ⟨"NoneType", by decide, by decide, by decide, .base .non⟩
  | bl b => exact ⟨"bool", by decide, by decide, by decide, .base (.bl b)⟩
  | int i => exact ⟨"int", by decide, by decide, by decide, .base (.int i)⟩
  | str z => exact ⟨"str", by decide, by decide, by decide, .base (.str z)⟩
  | _ => cases h
theorem kind_ref {v : V} (h : kindB v = true) {H : Hp} : ∀ q, v = .ref q → H q = none := by rintro q rfl; cases h
theorem nm_thing {H : Hp} {v : V} (h : isNm v = true) : Thing H v := by
  cases v with
  | str z => exact ⟨Nat.le_trans (nameS_len h) (by omega), nameS_ok h⟩
  | _ => cases h
theorem nms_thing {H : Hp} {ss : List Str} (h : ∀ z ∈ ss, nameS z = true) {v : V} (hv : v ∈ ss.map V.str) : Thing H v := by
  obtain ⟨z, hz, rfl⟩ := List.mem_map.mp hv
  exact nm_thing (h z hz)
theorem argL_of {H : Hp} {p : Addr} {xs : List V} (hp : H p = some (.lst xs)) (hl : xs.length ≤ 1000) (ht : ∀ v ∈ xs, Thing H v) : ArgL K H (.ref p) (some xs) :=
  ⟨⟨⟨p, rfl, .inl (sq_l hp)⟩, hl, ht⟩, fun ys h => by cases h; exact ⟨p, rfl, hp⟩⟩
theorem cutV_len (xs : List V) (lo hi : Option Int) : (cutV xs lo hi).length ≤ xs.length := by
  unfold cutV
  rw [List.length_take, List.length_drop]; omega
theorem fresh_ex {H H1 : Hp} {r : Addr} (e : Ex H H1) (n : H1 r = none) : ∀ q, V.ref r = .ref q → H q = none := by
  intro q hq
  cases hq
  cases h : H r with
  | none => rfl
  | some o => rw [e _ _ h] at n; cases n
theorem fresh_ref {H : Hp} {r : Addr} (n : H r = none) : ∀ q, V.ref r = .ref q → H q = none := by
  intro q hq
  cases hq
  exact n
theorem rep_mem {α : Type} {n : Nat} {xs : List α} {x : α} (h : x ∈ (List.replicate n xs).flatten) : x ∈ xs := by
  obtain ⟨l, hl, hx⟩ := List.mem_flatten.mp h
  rw [List.eq_of_mem_replicate hl] at hx; exact hx
theorem rep_len {α : Type} (n : Nat) (xs : List α) : ((List.replicate n xs).flatten).length = n * xs.length := by simp [List.length_flatten]
theorem x_str : okS ("x" : Str) := by
  refine (okS_iff _).mp ?_
  decide +kernel
theorem repS_ok {z : Str} {k : Nat} (h : okS z) : okS (repS z k) := fun c hc => h c (repS_mem hc)
theorem lay_names {ss : List Str} (h : ∀ z ∈ ss, nameS z = true) : (PyData.tuple ((ss.map V.str).map dV)).canLay0 = true ∧ (PyData.tuple ((ss.map V.str).map dV)).depth = 1 := by
  obtain ⟨h1, h2⟩ := lay_all (ok_names h)
  exact ⟨by simpa [PyData.canLay0] using h1, by show PyData.depthAll ((ss.map V.str).map dV) + 1 = 1; rw [h2]⟩
theorem dp_names {H : Hp} {r : Addr} {xs : List Str} (nx : ∀ z ∈ xs, nameS z = true) (k : SqT K H r (xs.map V.str)) : Dp K H (.ref r) (.tuple ((xs.map V.str).map dV)) := .tup k (dpAll_flat (okAll_flat (ok_names nx)))
theorem g_eq_same {H : Hp} {Q : VK} {x y : V} {d : PyData} (hx : Dp K H x d) (hy : Dp K H y d) (lay : d.canLay0 = true) (dep : d.depth ≤ 64) (h : Q (.bl true) H) : gEq K x y H Q := by
  have sh : SeqAt.shaped d = true := by
    unfold SeqAt.shaped
    rw [lay, decide_eq_true dep]; rfl
  refine g_eq_d hx hy sh sh ?_
  rw [SeqAt.eqv_refl _ lay]
  exact h
/-- a pair of tuples of names beside one like it -/
theorem g_eq_pairs {H : Hp} {Q : VK} {p q a b c d : Addr} {xs ys : List Str} (hp : SqT K H p [.ref a, .ref b]) (hq : SqT K H q [.ref c, .ref d]) (ha : SqT K H a (xs.map V.str)) (hb : SqT K H b (ys.map V.str)) (hc : SqT K H c (xs.map V.str)) (hd : SqT K H d (ys.map V.str))
    (nx : ∀ z ∈ xs, nameS z = true) (ny : ∀ z ∈ ys, nameS z = true) (h : Q (.bl true) H) : gEq K (.ref p) (.ref q) H Q := by
  obtain ⟨lx, px⟩ := lay_names nx
  obtain ⟨ly, py⟩ := lay_names ny
  refine g_eq_same (d := .tuple [.tuple ((xs.map V.str).map dV), .tuple ((ys.map V.str).map dV)]) (.tup hp (.cons (dp_names nx ha) (.cons (dp_names ny hb) .nil))) (.tup hq (.cons (dp_names nx hc) (.cons (dp_names ny hd) .nil))) ?_ ?_ h
  · simp only [PyData.canLay0, PyData.canLayAll0] at lx ly ⊢
    rw [lx, ly]; rfl
  · show max _ (max _ 0) + 1 ≤ 64
    rw [px, py]; decide
theorem ok_nm {h : V} (g : (decide (h = .non) || isNm h) = true) : okV h = true := by
  rcases nm_cases g with rfl | ⟨z, rfl, hz⟩
  · rfl
  · exact (okS_iff z).mpr (nameS_ok hz)
theorem thing_nm {H : Hp} {h : V} (g : (decide (h = .non) || isNm h) = true) : Thing H h := by
  rcases nm_cases g with rfl | ⟨z, rfl, hz⟩
  · trivial
  · exact nm_thing (v := .str z) hz
/-- what two rules tell, beside one another -/
theorem g_eq_told {H : Hp} {Q : VK} {p q a b c d : Addr} {h : V} {xs ys : List Str} (g : (decide (h = .non) || isNm h) = true) (hp : SqT K H p [.str "rule", h, .ref a, .ref b]) (hq : SqT K H q [.str "rule", h, .ref c, .ref d]) (ha : SqT K H a (xs.map V.str)) (hb : SqT K H b (ys.map V.str)) (hc : SqT K H c (xs.map V.str)) (hd : SqT K H d (ys.map V.str))
    (nx : ∀ z ∈ xs, nameS z = true) (ny : ∀ z ∈ ys, nameS z = true) (k : Q (.bl true) H) : gEq K (.ref p) (.ref q) H Q := by
  obtain ⟨lx, px⟩ := lay_names nx
  obtain ⟨ly, py⟩ := lay_names ny
  obtain ⟨lh, ph⟩ := lay_dV (ok_nm g)
  have dh : Dp K H h (dV h) := dp_flat (ok_flat (ok_nm g))
  refine g_eq_same (d := .tuple [.str "rule", dV h, .tuple ((xs.map V.str).map dV), .tuple ((ys.map V.str).map dV)]) (.tup hp (.cons (.str _) (.cons dh (.cons (dp_names nx ha) (.cons (dp_names ny hb) .nil))))) (.tup hq (.cons (.str _) (.cons dh (.cons (dp_names nx hc) (.cons (dp_names ny hd) .nil))))) ?_ ?_ k
  · simp only [PyData.canLay0, PyData.canLayAll0] at lx ly ⊢
    rw [lx, ly, lh, show PyData.strOk ("rule" : Str) = true by decide +kernel]; rfl
  · show max 0 (max _ (max _ (max _ 0))) + 1 ≤ 64
    rw [px, py, ph]; decide
theorem kit_tt : PySem.W.kitOne K (.type "tuple") (.type "tuple") = some true := by
  have := kit_kinds (K := K) (n := "tuple") (m := "tuple") (by decide) (by decide)
  rw [this]; unfold subK; simp
section
variable {σ : L2.St} {H : Hp} {Q : VK} {D : Ends}
/-- a statement, and what holds behind it -/
theorem c_seqJ {t u : TS} (P : L2.St → Hp → Prop) (h1 : ∀ N : L2.St → Hp → Prop, (∀ σ' H', P σ' H' → N σ' H') → t { D with nx := N } σ H) (h2 : ∀ σ' H', P σ' H' → u D σ' H') : tSeq t u D σ H := h1 _ h2
theorem c_valJ {t : TE} (P : V → Hp → Prop) (h1 : ∀ N : VK, (∀ v H', P v H' → N v H') → t σ H N) (h2 : ∀ v H', P v H' → Q v H') : t σ H Q := h1 _ h2
theorem c_par {i j : Nat} {ta : TA} (h : ta σ H fun vs H1 => ∃ v w, vs = [v, w] ∧ D.nx ((σ.set i (some v)).set j (some w)) H1) : tPar i j ta D σ H := h
theorem c_tru {ta : TE} {QB : Bool → Hp → Prop} (h : ta σ H fun x H' => ∃ k, TruV K x H' k ∧ QB k H') : tTru K ta σ H QB := h
theorem g_trub {b : Bool} {QB : Bool → Hp → Prop} (h : QB b H) : ∃ k, TruV K (.bl b) H k ∧ QB k H := ⟨b, rfl, h⟩
theorem g_oeq_i {r : R2} {i j : Int} (h : Q (.bl (decide (i = j))) H) : rOr (gEq K) r (.int i) (.int j) H Q := .inl (g_eq_i h)
end
/-- what is no list of ours stays -/
def isLs : HO → Bool
  | .lst _ => true
  | _ => false
def Exl (H H' : Hp) : Prop := ∀ a o, H a = some o → isLs o = false → H' a = some o
theorem Exl.of {H H' : Hp} {p : Addr} {xs : List V} (hp : H p = some (.lst xs)) (e : Exb p H H') : Exl H H' := fun a o ha ho => e a o (by
  rintro rfl
  rw [hp] at ha
  cases ha
  cases ho) ha
theorem Exl.ofEx {H H' : Hp} (e : Ex H H') : Exl H H' := fun a o ha _ => e a o ha
theorem Exl.trans {H H1 H2 : Hp} (e : Exl H H1) (e' : Exl H1 H2) : Exl H H2 := fun a o ha ho => e' a o (e a o ha ho) ho
theorem Exl.refl {H : Hp} : Exl H H := fun _ _ h _ => h
theorem exl_t {H H' : Hp} {p : Addr} {xs : List V} (e : Exl H H') (h : SqT K H p xs) : SqT K H' p xs := by
  rcases h with (h | ⟨o, h⟩) | h
  · exact .inl (.inl (e _ _ h rfl))
  · exact .inl (.inr ⟨o, e _ _ h rfl⟩)
  · exact .inr h
theorem exl_ty {H H' : Hp} {x : V} {n : String} (e : Exl H H') (hn : n ≠ "list") (h : TyX K H x (.type n)) : TyX K H' x (.type n) := by
  cases h with
  | base h =>
    cases h with
    | non => exact .base .non
    | bl b => exact .base (.bl b)
    | int i => exact .base (.int i)
    | str z => exact .base (.str z)
    | flt z => exact .base (.flt z)
    | lst q => exact absurd rfl hn
    | frz q => exact .base (.frz (e _ _ q rfl))
    | tup q => exact .base (.tup (e _ _ q rfl))
    | dK q => exact .base (.dK (e _ _ q rfl))
    | dT q => exact .base (.dT (e _ _ q rfl))
  | byt b => exact .byt b
  | set q => exact .set (e _ _ q rfl)
  | kList q c => exact .kList q c
  | kTuple q c => exact .kTuple q c
  | kDict q c => exact .kDict q c
  | fTuple q => exact .fTuple (e _ _ q rfl)
  | fDict q => exact .fDict (e _ _ q rfl)
theorem exl_rule {H H' : Hp} {a : Addr} {h : V} {bd us : List V} (e : Exl H H') (r : IsRule K Z H a h bd us) : IsRule K Z H' a h bd us := by
  obtain ⟨dx, pb, pu, h1, h2, h3, r⟩ := r
  exact ⟨dx, pb, pu, e _ _ h1 rfl, exl_t e h2, exl_t e h3, r⟩
/-- isinstance(x, list), x of a kind -/
theorem kit_nl {n : String} (hn : n ∈ kinds) (h : n ≠ "list") : PySem.W.kitOne K (.type n) (.type "list") = some false := by
  rw [kit_kinds hn (by decide)]
  unfold subK
  rw [show (n == "list") = false by simpa using h, show (("list" : String) == "int") = false by decide]; simp
theorem g_isi_nl {H : Hp} {Q : VK} {x : V} {n : String} (hn : n ∈ kinds) (h : n ≠ "list") (ht : TyX K H x (.type n)) (q : Q (.bl false) H) : gIsi K [x, .ty "list"] H Q := g_isi (.ty "list") ht (kit_nl hn h) q
theorem g_isi_l {H : Hp} {Q : VK} {p : Addr} {xs : List V} (hp : SqL K H p xs) (q : Q (.bl true) H) : gIsi K [.ref p, .ty "list"] H Q := by
  refine g_isi (.ty "list") (sqL_ty hp) ?_ q
  rw [kit_kinds (by decide) (by decide)]
  unfold subK; simp
theorem g_isi_al {H : Hp} {Q : VK} {x : V} {o : Option (List V)} (h : ArgL K H x o) (q : Q (.bl o.isSome) H) : gIsi K [x, .ty "list"] H Q := by
  cases o with
  | none =>
    obtain ⟨⟨n, hn, h1, _, ht⟩, _⟩ := h
    exact g_isi_nl hn h1 ht q
  | some xs =>
    obtain ⟨p, rfl, hp⟩ := h.2 xs rfl
    exact g_isi_l (sq_l hp) q
/-- a part as it is handed on: itself, or a tuple of it -/
def WPart (K : PySem.W.Frag) (H : Hp) (w y : V) (o : Option (List V)) : Prop := w = y ∨ ∃ q xs, w = .ref q ∧ o = some xs ∧ SqT K H q xs
theorem WPart.exl {H H' : Hp} {w y : V} {o : Option (List V)} (e : Exl H H') (h : WPart K H w y o) : WPart K H' w y o := h.imp id fun ⟨q, xs, h1, h2, h3⟩ => ⟨q, xs, h1, h2, exl_t e h3⟩
theorem WPart.arg {H : Hp} {w y : V} {o : Option (List V)} (h : WPart K H w y o) (hy : Arg K H y o) : Arg K H w o := by
  rcases h with rfl | ⟨q, xs, rfl, rfl, hq⟩
  · exact hy
  · exact ⟨⟨q, rfl, .inr hq⟩, hy.2⟩
/-- a part as it is changed behind -/
def MPart (K : PySem.W.Frag) (hp : Addr) (H0 H : Hp) (i : Nat) (w : V) : Prop := (∃ n, n ∈ kinds ∧ n ≠ "list" ∧ TyX K H w (.type n)) ∨ ∃ q xs, w = .ref q ∧ H q = some (.lst xs) ∧ xs.length ≤ 1000 + i ∧ q ≠ hp ∧ H0 q = none
theorem WPart.m {H H0 : Hp} {hp : Addr} {w y : V} {o : Option (List V)} (h : WPart K H w y o) (hy : ArgL K H y o) (f : ∀ q, y = .ref q → H0 q = none) (ne : ∀ q xs, y = .ref q → H q = some (.lst xs) → q ≠ hp) : MPart K hp H0 H 0 w := by
  rcases h with rfl | ⟨q, xs, rfl, rfl, hq⟩
  · cases o with
    | none =>
      obtain ⟨⟨n, hn, h1, _, ht⟩, _⟩ := hy
      exact .inl ⟨n, hn, h1, ht⟩
    | some xs =>
      obtain ⟨p, rfl, hp⟩ := hy.2 xs rfl
      exact .inr ⟨p, xs, rfl, hp, by have := hy.1.2.1; omega, ne p xs rfl hp, f p rfl⟩
  · exact .inl ⟨"tuple", by decide, by decide, sqT_ty hq⟩
/-- one part is changed: of the others nothing is worse -/
theorem MPart.step {H0 H H' : Hp} {hp q : Addr} {i : Nat} {xs xs' : List V} {w : V} (h : MPart K hp H0 H i w) (e : Exb q H H') (hq : H q = some (.lst xs)) (hq' : H' q = some (.lst xs')) (l : xs'.length ≤ 1000 + (i + 1)) : MPart K hp H0 H' (i + 1) w := by
  rcases h with ⟨n, hn, h1, ht⟩ | ⟨q2, ys, rfl, h2, h3, h4, h5⟩
  · exact .inl ⟨n, hn, h1, exl_ty (Exl.of hq e) h1 ht⟩
  · by_cases hh : q2 = q
    · subst hh
      exact .inr ⟨q2, xs', rfl, hq', l, h4, h5⟩
    · exact .inr ⟨q2, ys, rfl, e _ _ hh h2, by omega, h4, h5⟩
theorem MPart.up {H0 H : Hp} {hp : Addr} {i : Nat} {w : V} (h : MPart K hp H0 H i w) : MPart K hp H0 H (i + 1) w := h.imp id fun ⟨q, xs, h1, h2, h3, h⟩ => ⟨q, xs, h1, h2, by omega, h⟩
/-- == of a rule with itself made again, and with what differs -/
theorem g_own_r {H : Hp} {Q : VK} {a b : Addr} {h h' : V} {bd us bd' us' : List V} (R : RuleC K Z.Rule) (r : IsRule K Z H a h bd us) (r' : IsRule K Z H b h' bd' us') (q : ∀ H', Ex H H' → Q (.bl (decide (h = h') && (decide (bd = bd') && decide (us = us')))) H') : rOr (gEq K) (rOwnEq K Z.Rule (sp_Rule___eq__ K Z) E0) (.ref a) (.ref b) H Q := by
  obtain ⟨dx', pb', pu', hb, _⟩ := id r'
  obtain ⟨dx, pb, pu, ha, _⟩ := id r
  exact .inr ⟨a, dx, _, _, rfl, ha, rule_ty R hb, R.first1, a, h, _, bd, us, rfl, r, .inr ⟨b, h', bd', us', rfl, r', fun H' e => ⟨⟨_, rfl⟩, q H' e⟩⟩⟩
theorem g_own_n {H : Hp} {Q : VK} {a : Addr} {h y : V} {bd us : List V} {n : String} (R : RuleC K Z.Rule) (r : IsRule K Z H a h bd us) (hn : n ∈ kinds) (ht : TyX K H y (.type n)) (q : ∀ H', Ex H H' → Q (.bl false) H') : rOr (gEq K) (rOwnEq K Z.Rule (sp_Rule___eq__ K Z) E0) (.ref a) y H Q := by
  obtain ⟨dx, pb, pu, ha, _⟩ := id r
  exact .inr ⟨a, dx, _, _, rfl, ha, ht, R.first n hn, a, h, _, bd, us, rfl, r, .inl ⟨n, hn, ht, fun H' e => ⟨⟨_, rfl⟩, q H' e⟩⟩⟩
/-- a thing that no rule of ours equals -/
def EqF (K : PySem.W.Frag) (Z : Ads) (H : Hp) (h : V) (bd us : List V) (x : V) : Prop := (∃ n, n ∈ kinds ∧ n ≠ "list" ∧ TyX K H x (.type n)) ∨ ∃ b h' bd' us', x = .ref b ∧ IsRule K Z H b h' bd' us' ∧ (decide (h = h') && (decide (bd = bd') && decide (us = us'))) = false
theorem EqF.exl {H H' : Hp} {h x : V} {bd us : List V} (e : Exl H H') (k : EqF K Z H h bd us x) : EqF K Z H' h bd us x := by
  rcases k with ⟨n, hn, h1, ht⟩ | ⟨b, h', bd', us', rfl, r, k⟩
  · exact .inl ⟨n, hn, h1, exl_ty e h1 ht⟩
  · exact .inr ⟨b, h', bd', us', rfl, exl_rule e r, k⟩
/-- a tuple of names beside the empty one; all behind its first -/
theorem g_ne_te {H : Hp} {Q : VK} {p q : Addr} {xs : List Str} (hp : SqT K H p (xs.map V.str)) (hq : SqT K H q []) (nx : ∀ z ∈ xs, nameS z = true) (h : Q (.bl (!decide (xs = []))) H) : gNe K (.ref p) (.ref q) H Q := by
  refine g_ne_d (dp_names nx hp) (.tup hq .nil) (shaped_t (ok_names nx)) (shaped_t (xs := []) rfl) ?_
  cases xs with
  | nil => exact h
  | cons x xs => exact h
theorem g_sl_t1 {H : Hp} {Q : VK} {p : Addr} {xs : List V} (hp : SqT K H p xs) (h : ∀ r H', Ex H H' → SqT K H' r (xs.drop 1) → Q (.ref r) H') : gSl K (.ref p) (some 1) none H Q := by
  refine .inr (.inl ⟨p, xs, rfl, hp, fun ⟨h1, _⟩ => ?_, fun _ r hr => ?_⟩)
  · have e : HT.sIx xs.length 0 (some ((1 : Nat) : Int)) = min 1 xs.length := HT.sIx_nat ..
    rw [show (some (1 : Int)) = some ((1 : Nat) : Int) from rfl, e] at h1
    have hx : xs = [] := List.eq_nil_of_length_eq_zero (by omega)
    refine h p H (Ex.refl _) ?_
    rw [hx] at hp ⊢
    exact hp
  · rw [show (some (1 : Int)) = some ((1 : Nat) : Int) from rfl, cut_drop]
    exact h r _ (Ex.new hr) (.inl (.inl upd_same))
theorem cut_names {ss : List Str} {lo hi : Option Int} (h : ∀ z ∈ ss, nameS z = true) : ∃ ts : List Str, cutV (ss.map V.str) lo hi = ts.map V.str ∧ (∀ z ∈ ts, nameS z = true) ∧ ts.length ≤ ss.length := by
  have ha : (cutV (ss.map V.str) lo hi).all isNm = true := by
    rw [List.all_eq_true]
    intro v hv
    obtain ⟨z, hz, rfl⟩ := List.mem_map.mp (cutV_mem hv)
    exact h z hz
  obtain ⟨ts, e, hn⟩ := nms_strs ha
  refine ⟨ts, e, hn, ?_⟩
  have := cutV_len (ss.map V.str) lo hi
  rw [e, List.length_map, List.length_map] at this
  exact this
theorem nms_tail {ss : List Str} {m : Nat} (h : nmsO (some (ss.map V.str)) m = true) : nmsO (some ((ss.map V.str).drop 1)) m = true := by
  rw [nmsO_some, Bool.and_eq_true, Bool.and_eq_true, decide_eq_true_iff, decide_eq_true_iff, List.all_eq_true] at h ⊢
  obtain ⟨h1, h2, h3⟩ := h
  refine ⟨by rw [List.length_drop]; omega, fun x hx => h2 x (List.mem_of_mem_drop hx), h3.sublist (List.drop_sublist _ _)⟩
theorem arg_t {H : Hp} {p : Addr} {xs : List V} {m : Nat} (hp : SqT K H p xs) (h : nmsO (some xs) m = true) (hm : m ≤ 1000) : Arg K H (.ref p) (some xs) := by
  obtain ⟨ss, rfl, hn, _, hl⟩ := nms_of h
  exact ⟨⟨p, rfl, .inr hp⟩, by rw [List.length_map]; omega, fun v hv => nms_thing hn hv⟩

def N7 : List (Option V) := [none, none, none, none, none, none, none]
theorem fresh_up {H H1 : Hp} {y : V} (e : Ex H H1) (n : ∀ q, y = .ref q → H1 q = none) : ∀ q, y = .ref q → H q = none := fun q hq => by
  cases h : H q with
  | none => rfl
  | some o => have := n q hq; rw [e _ _ h] at this; cases this
theorem good_and {h : V} {b u : Option (List V)} (g : goodR h b u = true) : (decide (h = .non) || isNm h) = true ∧ nmsO b 6 = true ∧ nmsO u 4 = true := by
  unfold goodR at g
  rw [Bool.and_eq_true, Bool.and_eq_true] at g
  exact g
theorem good_of {h : V} {b u : Option (List V)} (g1 : (decide (h = .non) || isNm h) = true) (g2 : nmsO b 6 = true) (g3 : nmsO u 4 = true) : goodR h b u = true := by
  unfold goodR; rw [g1, g2, g3]; rfl
theorem mk_t {Q : VK} {E : XK} {H : Hp} {h : V} {pb pu : Addr} {bd us : List V} (g1 : (decide (h = .non) || isNm h) = true) (g2 : nmsO (some bd) 6 = true) (g3 : nmsO (some us) 4 = true) (hb : SqT K H pb bd) (hu : SqT K H pu us) {gV : List V → List V → List V} (k : ∀ b H', H b = none → Ex H H' → IsRule K Z H' b h bd us → Q (.ref b) H') (hg : ∀ a, gV [.ref a, h, .ref pb] [.ref pu] = [.ref a, h, .ref pb, .ref pu] := by intro _; rfl) :
    MKP Z.Rule 2 1 (sp_Rule___init__ K Z) gV E Q [h, .ref pb] [.ref pu] H :=
  mk_rule (thing_nm g1) (arg_t hb g2 (by omega)) (arg_t hu g3 (by omega)) (fun _ a H' na e r => k a H' na e r) (fun g' => by rw [good_of g1 g2 g3] at g'; cases g') rfl rfl hg
theorem Exb.trans {H H1 H2 : Hp} {p : Addr} (e : Exb p H H1) (e' : Exb p H1 H2) : Exb p H H2 := fun a o ne h => e' a o ne (e a o ne h)
theorem short_tup {ss : List Str} {m : Nat} {pt : Addr} {σ : L2.St} {H : Hp} {N : VK} {te : TE} (g : nmsO (some (ss.map V.str)) m = true) (hm : 1 ≤ m) (hp : SqT K H pt (ss.map V.str)) (hte : ∀ (H' : Hp) (Q' : VK), Ex H H' → Q' (.ref pt) H' → te σ H' Q')
    (k : ∀ t ts H'', SqT K H'' t ts → nmsO (some ts) m = true → ss.map V.str ≠ ts → Ex H H'' → N (.ref t) H'') : tIf (tTest (tOp (gNe K) te (tTup tNil))) (tSl (gSl K) te (tPart (tC (.int 1))) tNoPart) (tTup (tCons (tC (.str "a")) tNil)) σ H N := by
  have nx : ∀ z ∈ ss, nameS z = true := fun z hz => by
    rw [nmsO_some, Bool.and_eq_true, Bool.and_eq_true, List.all_eq_true] at g
    exact g.2.1 _ (List.mem_map.mpr ⟨z, hz, rfl⟩)
  with_reducible refine c_if ?_
  with_reducible refine c_test ?_
  with_reducible refine c_op ?_
  refine hte H _ (Ex.refl _) ?_
  walk_at "rs"
  refine c_tupE (by simp) (fun p1 H1 n1 e1 h1 => ?_)
  refine g_ne_te (ex_t e1 hp) (sq_t h1) nx ?_
  walk_at "rs"
  refine c_nd (fun ne => ?_) (fun eq => ?_)
  · with_reducible refine c_sl ?_
    refine hte H1 _ e1 ?_
    walk_at "rs"
    refine g_sl_t1 (ex_t e1 hp) (fun r H2 e2 h2 => k r _ H2 h2 (nms_tail g) (fun e => ne ?_) (e1.trans e2))
    have := congrArg List.length e
    rw [List.length_drop, List.length_map] at this
    exact List.eq_nil_of_length_eq_zero (by omega)
  · walk_at "rs"
    refine c_tupE (by simp) (fun t H2 n2 e2 h2 => ?_)
    refine k t _ H2 (sq_t h2) ?_ (by rw [eq]; simp) (e1.trans e2)
    rw [nmsO_some, decide_eq_true (show [V.str "a"].length ≤ m from hm)]
    decide +kernel
theorem g_ne_same {H : Hp} {Q : VK} {x y : V} {d : PyData} (hx : Dp K H x d) (hy : Dp K H y d) (lay : d.canLay0 = true) (dep : d.depth ≤ 64) (h : Q (.bl false) H) : gNe K x y H Q := by
  have sh : SeqAt.shaped d = true := by
    unfold SeqAt.shaped
    rw [lay, decide_eq_true dep]; rfl
  refine g_ne_d hx hy sh sh ?_
  rw [SeqAt.eqv_refl _ lay]
  exact h
theorem c_lawname {H : Hp} {Q : VK} {E : XK} {x : V} (hx : Thing H x) (h : ∀ H', Ex H H' → Q (.bl (isNm x)) H') : sp__law_name K ([x] ++ []) H Q E := ⟨x, rfl, hx, h⟩
end
end Gx

/-! enumerate(a tuple) -/
namespace Gx
open PySem PySem.Spec PyProof.Rows L2 Evl
open Sem (wp)
theorem new_enumT (a : Addr) (items : Array Value) :
    Meets (Builtin.«enumerate.__new__» ⟨[.type "enumerate", .ref a], []⟩) (fun _ R s => s.heap.IsTuple a items ∧
      R (.ok (.ret (.ref (s.heap.push { cls := .type "tuple_iterator", data := .fields #[.ref a, .int 0 0] }).objs.size)))
        { s with heap := (s.heap.push { cls := .type "tuple_iterator", data := .fields #[.ref a, .int 0 0] }).push { cls := .type "enumerate", data := .fields #[.none, .bool false, .ref s.heap.objs.size, rawInt 0, .none, .none] } }) :=
  .of_wp fun prog w A R s h => by
    obtain ⟨hp, g, d, tk, os⟩ := s
    obtain ⟨ht, hR⟩ := h
    have sub := sub_enumerate
    have it : ∀ {A' : Around} {E : Value → Shared → Prop} {Q : Value → Shared → Prop}, Q (.ref hp.objs.size) ⟨hp.push { cls := .type "tuple_iterator", data := .fields #[.ref a, .int 0 0] }, g, d, tk, os⟩ → wpAny (model prog w) A' (pyIter (.ref a)) Q E ⟨hp, g, d, tk, os⟩ :=
      fun q => (begins_tuple a items).iter prog w _ _ ⟨hp, g, d, tk, os⟩ _ ht q
    wp_walk using it
    refine wpAny_stack_any fun st => wpAny_pure ?_
    split
    · rename_i c _ _ _ _ _
      cases (c == Value.type "enumerate")
      · wp_walk using it
        exact ⟨_, rfl, hR⟩
      · wp_walk using it
        exact ⟨_, rfl, hR⟩
    · wp_walk using it
      exact ⟨_, rfl, hR⟩

section
variable {prog : Program} {w : World} {A : Around} {E : Value → Shared → Prop} {s : Shared}
theorem call_enumT {a : Addr} {items : Array Value} {Q : Value → Shared → Prop} (ht : s.heap.IsTuple a items)
    (h : ∀ h', IsEnum h' (s.heap.objs.size + 1) s.heap.objs.size 0 .none → h'.IsTupleIter s.heap.objs.size a 0 → (∀ b o, s.heap.get? b = some o → h'.get? b = some o) → Q (.ref (s.heap.objs.size + 1)) { s with heap := h' }) :
    wpAny (model prog w) A (call (.type "enumerate") [.ref a]) Q E s := by
  refine callType_new F.called_enumerate (by decide) (F.typeCall_enumerate_1 _) (F.newCall_enumerate_1 _) (fun obj => F.args_object_init_2 obj _) F.entry_enumerate_new (new_enumT a items) ⟨ht, ?_⟩
  have size1 : (s.heap.push { cls := .type "tuple_iterator", data := .fields #[.ref a, .int 0 0] }).objs.size = s.heap.objs.size + 1 := Heap.size_push ..
  have last := Heap.get?_push_size (s.heap.push { cls := .type "tuple_iterator", data := .fields #[.ref a, .int 0 0] }) (o := { cls := .type "enumerate", data := .fields #[.none, .bool false, .ref s.heap.objs.size, rawInt 0, .none, .none] }) rfl
  rw [size1] at last
  show _ ∧ _
  rw [size1]
  exact ⟨⟨_, last, rfl⟩, h _ last ⟨_, Heap.get?_push_of_some _ (Heap.get?_push_size _ rfl), rfl, rfl⟩ fun b o x => Heap.get?_push_of_some _ (Heap.get?_push_of_some _ x)⟩
end
section
variable {prog : Program} {w : World} {A : Around} {E : Value → Shared → Prop} {s : Shared}
theorem next_enumT_end {e it a : Addr} {i : Nat} {items : Array Value} {old : Value} {Q : Option Value → Shared → Prop} (hh : A.handled = none) (he : IsEnum s.heap e it i old) (hit : s.heap.IsTupleIter it a i) (ht : s.heap.IsTuple a items) (hx : items[i]? = none)
    (hQ : ∀ h', Heap.ExtBut it s.heap h' → Q none { s with heap := h' }) : wpAny (model prog w) A (pyNext (.ref e)) Q E s := by
  have ty : s.TypeIs (.ref e) "enumerate" := ⟨_, he, rfl⟩
  unfold pyNext
  refine wpAny_bind (wpAny_attempt (wpAny_callSpecial?_slot (name := Str.ofString "__next__") ty F.slot_enumerate_next (wpAny_call_entry F.slot_enumerate_next ty F.entry_enumerate_next ?_ (F.args_enumerate_next_1 _))))
  show wpAny _ _ (field (.ref e) 2 >>= _) _ _ _
  refine wpAny_bind (wpAny_field he rfl (x := .ref it) rfl (wpAny_bind (wpAny_nextOf_tuple_end hh hit ht hx fun h' x eb ⟨o, ho, hc⟩ => ?_)))
  exact wpAny_bind (wpAny_isInstance (T := "StopIteration") (b := true) ⟨o, ho, hc⟩ isSubtype_stop (wpAny_pure (hQ _ eb)))
end
/-- the tuple at a, each item in a new pair with its place -/
def Itet (K : PySem.W.Frag) (a : Addr) : It :=
  ⟨fun i H => ∃ (xs : List V) (x : V), SqT K H a xs ∧ xs[i]? = some x, fun i H v H' => ∃ T x, v = .ref T ∧ H T = none ∧ H' = upd H T (.tup [.int (i : Nat), x]) ∧ ∀ xs, SqT K H a xs → xs[i]? = some x, fun i H => ∃ xs : List V, SqT K H a xs ∧ xs.length ≤ i⟩
theorem turn_enumT {P : Program} {w : World} {K : PySem.W.Frag} {elts : List Expr} {kk : Nat} {tpos : Pos} (a e it : Addr) :
    Turn P w K (.Tuple elts kk tpos) (Itet K a) [e, it] e (fun i h => (∃ old, IsEnum h e it ((i : Nat) : Int) old) ∧ h.IsTupleIter it a i ∧ e ≠ it ∧ e ≠ a ∧ a ≠ it) where
  mem := by simp
  obj := fun i h st b hb => by
    obtain ⟨⟨old, he⟩, ⟨o, ho, hc, hd⟩, _⟩ := st
    rcases (show b = e ∨ b = it by simpa using hb) with z | z
    · rw [z]; exact ⟨_, he, fun v q => nomatch q⟩
    · rw [z]; exact ⟨o, ho, fun v q => by rw [hd] at q; cases q⟩
  keep := fun i h h' st k => let ⟨⟨old, he⟩, hi, hne⟩ := st; ⟨⟨old, k e (by simp) _ he⟩, hi.at fun o q => k it (by simp) o q, hne⟩
  item := by
    intro X hP hw hK hc i pins s σ H E I hf st hg
    subst hP hw hK
    obtain ⟨⟨old, he⟩, hit, hne, hea, hai⟩ := st
    obtain ⟨xs, x, hq, hx⟩ := hg
    obtain ⟨its, rv, p, hz⟩ := I.tuple hq
    obtain ⟨u, hu, ru⟩ := rv.get hx
    have hel : e < s.heap.objs.size := Heap.lt_size he
    have hil : it < s.heap.objs.size := by obtain ⟨_, q, _⟩ := hit; exact Heap.lt_size q
    have low : ∀ b, b ∈ [e, it] → b < s.heap.objs.size := fun b hb => by
      rcases (show b = e ∨ b = it by simpa using hb) with z | z
      · rw [z]; exact hel
      · rw [z]; exact hil
    have n := rv.get hx
    have hlt : i < its.toArray.size := by
      have := rv.length
      have h1 : i < xs.length := by
        rcases Nat.lt_or_ge i xs.length with k | k
        · exact k
        · rw [List.getElem?_eq_none k] at hx; cases hx
      simp; omega
    refine wpAny_pyNext_enum_itemD (Draws.tuple (A := X.A.in1) (show X.A.in1.handled = none from I.ok.hd hc) it a hai its.toArray) he ⟨hit, p⟩ hlt hne (by simp [hne, hea]) fun x' h' tk hP ho hst hT hsz hk => ?_
    have ex : x' = u := by
      have q1 : its.toArray[i]? = some x' := hP
      have q2 : its.toArray[i]? = some u := by simpa using hu
      rw [q2] at q1; cases q1; rfl
    subst ex
    refine ⟨_, rfl, wpAny_letOwnedTupleGo_enum (s := { s with heap := h', toks := tk + 1 }) ho fun h'' he' sb => ?_⟩
    have hT2 : h''.get? s.heap.objs.size = some { cls := .type "tuple", data := .seq #[.int i tk, x'] } := (sb.2 _ (Nat.ne_of_gt hel)).trans hT
    have new : ObjOk X.prog X.w (upd H s.heap.objs.size (.tup [.int (i : Nat), x])) h'' s.heap.objs.size (.tup [.int (i : Nat), x]) :=
      ⟨by show 2 ≤ sizeLine; decide, [.int i tk, x'], .cons ⟨_, rfl⟩ (.cons ru .nil), ⟨_, hT2, rfl, _, rfl⟩⟩
    have I1 : Inv X pins σ (upd H s.heap.objs.size (.tup [.int (i : Nat), x])) { s with heap := h'', toks := tk + 1 } :=
      I.turnedNew (ch := [e, it]) (fun b ob hb q => (sb.2 b (fun z => hb (by simp [z]))).trans (hk b ob (fun z => hb (by simp [z])) (fun z => hb (by simp [z])) q)) hf (Nat.le_refl _) new
    refine ⟨.ref s.heap.objs.size, _, I1, rfl, ⟨_, x, rfl, I.hok.fresh (Nat.le_refl _), rfl, fun ys hy => by rw [I.tuple_inj hy hq]; exact hx⟩, ⟨⟨x', ?_⟩, hst.1.at fun o q => (sb.2 it (Ne.symm hne)).trans q, hne, hea, hai⟩, fun b hb => ?_⟩
    · rw [show ((i + 1 : Nat) : Int) = (i : Int) + 1 by omega]; exact he'
    · rw [upd_ne (Nat.ne_of_lt (low b hb))]
      exact (hf b hb).1
  done := by
    intro X hP hw hK hc i pins s σ H E I hf st hg
    subst hP hw hK
    obtain ⟨⟨old, he⟩, hit, hne, hea, hai⟩ := st
    obtain ⟨xs, hq, hx⟩ := hg
    obtain ⟨its, rv, p, hz⟩ := I.tuple hq
    obtain ⟨f0, f1, f2, f3, f4, f5⟩ := hf it (by simp)
    have hl := rv.length
    exact next_enumT_end (I.ok.hd hc) he hit p (by simp; omega) fun h' eb => ⟨rfl, I.turned (t' := s.toks) (fun b o hb q => eb b o hb q) f0 f1 f3 f4 f5⟩
  self := fun A i s Q E st h => let ⟨⟨_, he⟩, _⟩ := st; wpAny_pyIter_enum he h
def iEnumT (K : PySem.W.Frag) (ta : TA) : TI := fun σ H R => ta σ H fun vs H1 => ∃ a xs, vs = [.ref a] ∧ SqT K H1 a xs ∧ R (Itet K a) H1
theorem pi_enumT {X : Cx} {e : Expr} {ta : TA} {p pos tpos : Pos} {elts : List Expr} {kk : Nat} (hg : Gl X "enumerate") (hm : X.mg "enumerate" = none) (ha : PA X [e] ta) (hs : starEach [e] X.env = [(false, eval e X.env)] := by rfl) :
    PI X (.Tuple elts kk tpos) (.Call (.Name "enumerate" p) [e] [] pos) (iEnumT X.K ta) := by
  constructor
  intro pins s σ H R I h
  refine Call_ (ld_blt I hg hm boot_enumerate (PyProof.Rows.callWith_type1 (thn (ha.run pos pins s σ H _ I h) fun us s1 hv => ?_) hs rfl))
  obtain ⟨vs, H1, I1, r1, a, xs, rfl, hq, q⟩ := hv
  obtain ⟨u, rfl, ru⟩ : ∃ u, us = [u] ∧ RelV (V.ref a) u := by
    cases r1 with
    | cons r rr => cases rr; exact ⟨_, rfl, r⟩
  cases ru
  obtain ⟨its, rv, pt, hz⟩ := I1.tuple hq
  have lt : a < s1.heap.objs.size := by obtain ⟨o, ho, _⟩ := pt; exact Heap.lt_size ho
  refine call_enumT pt fun h' he hit hk => wpAny_pyIter_enum he ?_
  have I2 : Inv X pins σ H1 { s1 with heap := h' } := I1.kept (t' := s1.toks) hk
  refine ⟨s1.heap.objs.size + 1, [s1.heap.objs.size + 1, s1.heap.objs.size], _, _, H1, rfl, I2, turn_enumT a (s1.heap.objs.size + 1) s1.heap.objs.size, ⟨⟨.none, he⟩, hit, Nat.succ_ne_self _, Ne.symm (Nat.ne_of_lt (Nat.lt_succ_of_lt lt)), Nat.ne_of_lt lt⟩, fun b hb => ?_, q⟩
  have hle : s1.heap.objs.size ≤ b := by
    rcases (show b = s1.heap.objs.size + 1 ∨ b = s1.heap.objs.size by simpa using hb) with z | z
    · rw [z]; exact Nat.le_succ _
    · rw [z]; exact Nat.le_refl _
  exact I1.fpOk hle (I1.hok.fresh hle)
theorem walk_enumT {K : PySem.W.Frag} {a : Addr} {xs : List V} : Walk (Itet K a) xs.length (fun H => SqT K H a xs) (YPair (fun i => some (.int (i : Nat))) (fun i => xs[i]?)) := by
  refine ⟨fun i _ hi q => ⟨xs, xs[i], q, by simp [hi]⟩, fun _ q => ⟨xs, q, Nat.le_refl _⟩, fun i H v H' _ q y => ?_⟩
  obtain ⟨T, x, h1, h2, h3, h4⟩ := y
  exact ⟨T, .int (i : Nat), x, h1, h2, h3, rfl, h4 xs q⟩
theorem c_iEnumT {K : PySem.W.Frag} {σ : L2.St} {H : Hp} {ta : TA} {R : It → Hp → Prop} (h : ta σ H fun vs H1 => ∃ a xs, vs = [.ref a] ∧ SqT K H1 a xs ∧ R (Itet K a) H1) : iEnumT K ta σ H R := h
theorem c_iET {K : PySem.W.Frag} {H : Hp} {p : Addr} {xs : List V} {R : Addr → Prop} (hp : SqT K H p xs) (h : R p) : ∃ a ys, [V.ref p] = [.ref a] ∧ SqT K H a ys ∧ R a := ⟨p, xs, rfl, hp, h⟩
end Gx

/-! a dict beside a text by != -/
namespace Gx
open PySem PySem.Spec PyProof.Rows L2 Evl
open Sem (wp)
theorem dict_ne_str (l : Addr) (es : Array DictEntry) (n : Nat) (dd : Option Addr) (sl : Array (Option Value)) (b : Str) (u : Tok) :
    Meets (Builtin.«dict.__ne__» ⟨[.ref l, .str b u], []⟩) (fun _ R s => s.heap.get? l = some { cls := .type "dict", dict := dd, data := .dict es n, slots := sl } ∧ R (.ok (.ret .notImplemented)) s) :=
  .of_wp fun prog w A R s h => by
    obtain ⟨hp, g, d, tk, os⟩ := s
    obtain ⟨hl, h⟩ := h
    have f1 := F.sub_str_dict
    wp_walk using wpAny_loadPart' hl
    exact ⟨_, rfl, h⟩
theorem str_ne_dict (l : Addr) (c : Value) (es : Array DictEntry) (n : Nat) (dd : Option Addr) (sl : Array (Option Value)) (b : Str) (u : Tok) :
    Meets (Builtin.«str.__ne__» ⟨[.str b u, .ref l], []⟩) (fun _ R s => s.heap.get? l = some { cls := c, dict := dd, data := .dict es n, slots := sl } ∧ R (.ok (.ret .notImplemented)) s) :=
  .of_wp fun prog w A R s h => by
    obtain ⟨hp, g, d, tk, os⟩ := s
    obtain ⟨hl, h⟩ := h
    wp_walk using wpAny_loadPart' hl, wpAny_load hl
    exact ⟨_, rfl, h⟩
def rNeDk : R2 := fun x y H Q => ∃ (p : Addr) (kvs : List (Key × V)) (z : Str), x = .ref p ∧ H p = some (.dK kvs) ∧ y = .str z ∧ Q (.bl true) H
theorem op_neDk {X : Cx} (hu : X.A.units < cLine) : OpR X (compareOp .NotEq) rNeDk := by
  intro pins s σ H x y v u Q I rx ry h
  obtain ⟨p, kvs, z, rfl, hp, rfl, q⟩ := h
  cases rx
  obtain ⟨t, rfl⟩ := ry
  obtain ⟨_, _, vs, _, D⟩ := (show ObjOk X.prog X.w H s.heap p (.dK kvs) from I.hok p _ hp)
  obtain ⟨⟨cls, dd, data, sl⟩, es, ep, e, c, hd, _⟩ := D
  have hc : cls = .type "dict" := c.1
  simp only at hc hd
  subst hc hd
  show wpAny (model X.prog X.w) X.A (richCompare .NotEq (.ref p) (.str z t)) (EP X pins σ Q) X.xe s
  exact PySem.SeqAt.rc_ne_decline_or (k := false) ⟨_, e, rfl⟩ rfl (by decide) F.sub_str_dict F.slot_dict_ne F.slot_str_ne_refl
    (fun _ hq => call_meets F.slot_dict_ne ⟨_, e, rfl⟩ F.entry_dict_ne (F.args_dict_ne_2 _ _) (dict_ne_str p es ep dd sl z t) ⟨e, hq⟩)
    (fun _ hq => call_meets F.slot_str_ne_refl rfl F.entry_str_ne (F.args_str_ne_2 _ _) (str_ne_dict p _ es ep dd sl z t) ⟨e, hq⟩)
    (fun _ hq => wpAny_of_eq (rfl : isSame (.ref p) (.str z t) = pure false) hq) (.inr hu) ⟨.bl true, H, I, rfl, q⟩
end Gx

/-! repr of lists and tuples; defs that are called where no repr is under way -/
namespace Gx
open PySem PySem.Spec PyProof.Rows L2 Evl
def rRepr (K : PySem.W.Frag) : List V → Hp → VK → Prop := fun xs H Q => ∃ (a : Addr) (d : PyData), xs = [.ref a] ∧ Dp K H (.ref a) d ∧ d.showable = true ∧ d.hasDict = false ∧ d.depth ≤ 64 ∧ d.shown.length ≤ sizeLine ∧ Q (.str d.shown) H
theorem call_repr {X : Cx} (hg : X.A.guards = some []) (hu : X.A.units + 66 < cLine) : CallR X (.builtin "repr") (rRepr X.K) := by
  intro pins s σ H xs us Q I r h
  obtain ⟨a, d, rfl, hd, sh, nd, dp, sz, q⟩ := h
  obtain ⟨u, rfl, ru⟩ : ∃ u, us = [u] ∧ RelV (V.ref a) u := by
    cases r with
    | cons r rr => cases rr; exact ⟨_, rfl, r⟩
  cases ru
  obtain ⟨as, rd⟩ := Dp.reads I d (.ref a) (.ref a) hd rfl
  exact repr_of_reads' rd sh (PyData.noDict_hsm nd) hg (by omega) (fun _ _ e => e) (fun h' t tk hk => ⟨.str d.shown, H, I.kept (t' := tk) hk, ⟨t, rfl⟩, q⟩) sz
/-- a def as its callers see it, where no repr is under way -/
structure FnG (P : Program) (w : World) (K : PySem.W.Frag) (mg : Str → Option Value) (base : Heap) (CX : CXT) (k : Nat) (f : Addr) (fd : FuncData) (ps : List Str) (sp : Sp) : Prop where
  len : ∀ vs H Q E, sp vs H Q E → vs.length = ps.length
  run : ∀ (A : Around) (outer : List Env) (s : Shared) (H : Hp) (args : Args) (us : List Value) (vs : List V) (Q : VK) (E : XK), A.guards = some [] → Room k A → Env0 P w K mg base A outer s H → BindsTo s fd args (ps.zip us) → Vals vs us → sp vs H Q E →
    codeAny (model P w) A (.call (.ref f) args) (CR CX outer P w H s Q E) s
section
variable {P : Program} {w : World} {K : PySem.W.Frag} {mg : Str → Option Value} {base : Heap}
theorem okG {CX : CXT} {x qual : Str} {st : Stmt} {f : Addr} {fd : FuncData} {N ps : List Str} {k : Nat} {sp : Sp} (F : Fun K x qual st f fd) (S : FnScope N ps (defScope st)) (len : ∀ vs H Q E, sp vs H Q E → vs.length = ps.length)
    (body : ∀ (cdv : Value) (A : Around) (outer : List Env) (s : Shared) (H : Hp) (vs : List V) (Q : VK) (E : XK), A.guards = some [] → Room k (A.deeper (envOfC qual (defScope st) s.heap.objs.size f cdv)) → sp vs H Q E →
      ∃ t, PSs (cxOf CX P w K mg base N qual (defScope st) f cdv A outer s H E) (defBody st) t ∧ t { nx := fun _ H' => Q .non H', rt := Q } (start N vs) H) : FnG P w K mg base CX (k + 1) f fd ps sp := by
  obtain ⟨oc, od, kV, doc, pm, an, cdv, ct, osl, rfl, lk, hcd⟩ := F.ex
  refine ⟨len, fun A outer s H args us vs Q E hg hr e0 hb r hsp => ?_⟩
  have many := len _ _ _ _ hsp
  have KX : K.In s.heap := e0.mod.kin.keeps fun b o e => (e0.bs b o e).1
  have kinds : ∀ y ∈ ps.zip us, (defScope st).names.lookup y.1 = some .local ∨ ((defScope st).names.lookup y.1 = some .cell ∧ ((cellsFrom (s.heap.objs.size + 1) (defScope st).names []).lookup y.1).isSome = true) := fun y hy =>
    (S.par y.1 (List.of_mem_zip (show (y.1, y.2) ∈ ps.zip us from hy)).1).imp id fun q => ⟨q, PySem.W.cellsFrom_some _ _ _ (.inl q)⟩
  refine codeAny_call_function hr.depth (KX _ _ lk) rfl S.co S.gen rfl (PySem.W.codeRec_of KX hcd) (hb _ _ _ _ (wpAny_newFunctionEnv_cells S.kind kinds fun env he s1 x => ?_))
  subst he
  refine ⟨(e0.mod.nolimit.keeps fun b o e => (e0.bs b o e).1).keeps x.toInCall.keep, codeAny_func ?_⟩
  obtain ⟨t, ht, start_ok⟩ := body cdv A outer s H vs Q E hg (hr.deeper _) hsp
  refine wpAny_mono (ht.run [] s1 (start N vs) H _ (inv_start S hr.hd e0 many r x) start_ok) (fun fl s' hs => ?_) fun e s' hs => hs
  cases fl with
  | ret u =>
    obtain ⟨v, σ', H', J, rv, q⟩ := hs
    exact ⟨v, H', J.os, J.bare, J.base, J.hok, rv, q⟩
  | next =>
    obtain ⟨σ', H', J, q⟩ := hs
    exact ⟨.non, H', J.os, J.bare, J.base, J.hok, rfl, q⟩
  | brk => exact hs.elim fun _ h => h.elim fun _ h => h.2.elim
  | cont => exact hs.elim fun _ h => h.elim fun _ h => h.2.elim
end
section
variable {X : Cx} {CX : CXT} {k : Nat} {f : Addr} {fd : FuncData} {ps : List Str} {sp : Sp} {E : XK} {x : Str} {p pos : Pos} {e : Expr} {es : List Expr} {t : TA}
structure CalG (P : Program) (w : World) (K : PySem.W.Frag) (mg : Str → Option Value) (base : Heap) (CX : CXT) (k : Nat) (x : Str) (ps : List Str) (sp : Sp) : Prop where
  ex : ∃ (f : Addr) (fd : FuncData), FnG P w K mg base CX k f fd ps sp ∧ mg x = some (.ref f) ∧ PySem.W.keepIn K (.ref f) = true ∧ Binds K fd ps []
theorem pe_calG (C : CalG X.prog X.w X.K X.mg X.base CX k x ps sp) (hg : X.A.guards = some []) (hr : Room k X.A) (gl : Gl X x) (hx : Passes CX X E) (ha : PA X (e :: es) t) (hdb : (x == ("__debug__" : Str)) = false := by decide)
    (he : starEach (e :: es) X.env = (false, eval e X.env) :: starEach es X.env := by rfl) (hpl : (backTo pos (starEach es X.env)).any (·.1) = false := by rfl) : PE X (.Call (.Name x p) (e :: es) [] pos) (tCall sp [] E t) := by
  obtain ⟨f, fd, F, m, kp, B⟩ := C.ex
  constructor
  intro pins s σ H Q I h
  refine wpAny_Call_Name_kw (ld_glob I gl m (PySem.W.callWith_K (h₀ := X.base) I.ok.mod.kin kp (thn (ha.run pos pins s σ H _ I h) fun us s1 hv => ?_) he hpl) hdb)
  obtain ⟨vs, H1, I1, r, q⟩ := hv
  refine ⟨I1.kIn, ?_⟩
  have r2 : Vals (vs ++ []) (us ++ []) := by rw [List.append_nil, List.append_nil]; exact r
  have hl : (us ++ ([] : List Value)).length = ps.length := by rw [← r2.length]; exact F.len _ _ _ _ q
  refine wpAny_call (codeAny_mono (F.run X.A X.stack s1 H1 ⟨us, []⟩ (us ++ []) (vs ++ []) Q E hg hr I1.env0 (B s1 us I1.kIn hl) r2 q) fun r s' hq => ?_)
  cases r with
  | error e => exact hx pins σ H1 s1 e s' I1 hq
  | ok fl =>
    cases fl with
    | ret u => exact I1.after hq
    | next => exact hq.elim
    | brk => exact hq.elim
    | cont => exact hq.elim
end
end Gx

/-! the law's own call, from its promise where no repr is under way -/
namespace Gx
open PySem PySem.Spec PyProof.Rows L2 Evl
section
variable {P : Program} {w : World} {K : PySem.W.Frag} {mg mb : Str → Option Value} {CX : CXT} {k : Nat} {fa a : Addr} {fd : FuncData} {x : Str} {sp : Sp} {s₁ : Shared} {vs : List Value} {ns : List Int}
/-- the call from a heap in which at most the script is tracked -/
theorem callG (KX : K.In s₁.heap) (hns : s₁.heap.Ns mainGlobals mg) (hb : s₁.heap.Ns builtinsNs mb) (hbb : ∀ x : Str, x ≠ "__name__" → mb x = bootBuiltins x) (hlim : s₁.heap.NoLimit) (hg : s₁.gens = #[])
    (ha : s₁.heap.get? a = some { cls := .type "list", data := .seq vs.toArray }) (hr : Room k callerA)
    (F : ∀ base : Heap, K.In base → base.Ns mainGlobals mg → FnG P w K mg base CX k fa fd [x] sp) (hbind : ∀ (s : Shared) (u : Value), BindsTo s fd ⟨[u], []⟩ [(x, u)])
    {H : Hp} (only : Only H) (here : sp [.ref a] H (fun v _ => v = .bl true) fun _ _ _ => False) (hCX : ∀ e s', CX [] H s₁ (fun _ _ _ => False) e s' → False)
    (hok : HOk P w H s₁.heap) (alone : ∀ b, H b ≠ none → b = a) (apart : H a ≠ none → K.lookup a = none) :
    codeAny (model P w) callerA (.call (.ref fa) ⟨[.ref a], []⟩) (fun r s' => r = .ok (.ret (.bool true)) ∧ OldK s₁.heap s'.heap ∧ s'.os = s₁.os ∧ AllBare s'.gens) s₁ := by
  have noD : ∀ {b : Addr} {o : Obj} {es : Array DictEntry} {ep : Nat}, s₁.heap.get? b = some o → o.data = .dict es ep → H b = none := fun {b o es ep} e d => Classical.byContradiction fun n => by
    obtain rfl := alone b n
    rw [ha] at e
    cases e
    exact absurd d (by intro z; cases z)
  have low : ∀ {b : Addr} {m : Str → Option Value}, s₁.heap.Ns b m → (hidT s₁.heap H).Ns b m := fun {b m} ⟨o, es, ep, e, d, r⟩ => ⟨o, es, ep, hidT_get e (noD e d), d, r⟩
  have inK : K.In (hidT s₁.heap H) := fun b o e => hidT_get (KX b o e) (Classical.byContradiction fun n => by
    obtain rfl := alone b n
    rw [apart n] at e
    cases e)
  have mod : Mod K mg (hidT s₁.heap H) := ⟨inK, low hns, ⟨mb, low hb, hbb⟩, let ⟨mc, h1, h2⟩ := hlim; ⟨mc, low h1, h2⟩⟩
  have env : Env0 P w K mg (hidT s₁.heap H) callerA [] s₁ H := ⟨rfl, mod, fun b o e => of_hidT e, Nat.le_of_eq (hidT_size _ _), trivial, fun b hb => absurd (show b ∈ ([] : List Addr) from hb) (by simp), hok, .of_eq hg⟩
  refine codeAny_mono ((F _ inK (low hns)).run callerA [] s₁ H ⟨[.ref a], []⟩ [.ref a] [.ref a] _ _ rfl hr env (hbind s₁ (.ref a)) (.cons rfl .nil) here) fun r s' h => ?_
  match r, h with
  | .error e, h => exact (hCX e s' h).elim
  | .ok (.ret u), h =>
    obtain ⟨v, H', os, bare, un, hok', rv, rfl⟩ := h
    obtain rfl : u = Value.bool true := rv
    refine ⟨rfl, OldK.of_keep fun b o e => ?_, os, bare⟩
    match q : H b with
    | none => exact un.keep b o e q (fun z => absurd (show b ∈ ([] : List Addr) from z) (by simp)) (by simp)
    | some t =>
      rcases only b with z | ⟨ob, xs, z⟩
      · rw [q] at z; cases z
      · obtain ⟨e1, _⟩ := hok b _ z
        obtain ⟨e2, _⟩ := hok' b _ (un.frzs b ob _ z)
        rw [e] at e1
        cases e1
        exact e2
  | .ok .next, h => exact h.elim
  | .ok .brk, h => exact h.elim
  | .ok .cont, h => exact h.elim
end
theorem walkG {l : PySem.W.OpenLaw} {n k : Nat} {q : Program} {loose : List Str} {XP : (Str → Option Value) → Heap → Prop} {YP : World → Heap → Prop} {d : DefRec} {K : Params → PySem.W.Frag} {sp : World → Sp} {x : Str}
    (hn : l.most = some n) (hn2 : n ≤ sizeLine) (hdf : d.params.defaults = []) (hr : Room k callerA) (hY : ∀ (w : World) (h : Heap), YP w h → (K w.params).In h)
    (F : ∀ (w : World) (mg : Str → Option Value) (fa : Addr) (h : Heap), (K w.params).In h → h.Ns mainGlobals mg → mg d.name = some (.ref fa) →
      ∃ fd : FuncData, (∀ (s : Shared) (u : Value), BindsTo s fd ⟨[u], []⟩ [(x, u)]) ∧ ∀ base : Heap, (K w.params).In base → base.Ns mainGlobals mg → FnG l.prog w (K w.params) mg base CX0 k fa fd [x] (sp w))
    (hsp : ∀ (w : World) (H : Hp) (a : Addr) (ns : List Int), ns.length ≤ n → Only H → SqL (K w.params) H a (ns.map V.int) → sp w [.ref a] H (fun v _ => v = .bl true) fun _ _ _ => False) :
    PySem.W.WalkO q loose XP YP l.row.toRowW d [] (fun f vs => PySem.call f vs) := by
  refine Att.attach_call hn hdf fun w s₀ s₁ mg mb fa o pm cd doc a vs ns G Y ho hd hcd hmg hobj hints hlen hg => ?_
  have KX := hY w _ Y
  obtain ⟨fd, hb, hF⟩ := F w mg fa _ KX G.T.g hmg
  have rv := vals_ints hints
  have many := hints.length
  have small := Nat.le_trans hlen hn2
  cases inside : (K w.params).lookup a with
  | some o =>
    have e := KX a o inside
    rw [hobj] at e
    cases e
    have hS : SqL (K w.params) (fun _ => none) a (ns.map V.int) := .inr ⟨_, vs.toArray, _, inside, rfl, rfl, rfl, by rw [List.size_toArray, many]; exact small, by simpa using rv⟩
    exact callG KX G.T.g G.T.b G.T.builtins G.T.nolimit hg hobj hr hF hb (H := fun _ => none) (fun _ => .inl rfl) (hsp w _ a ns hlen (fun _ => .inl rfl) hS) (fun _ _ z => z) (fun b u z => by cases (show (none : Option HO) = some u from z)) (fun b z => absurd rfl z) fun z => absurd rfl z
  | none =>
    have at_a : ∀ {b : Addr} {u : HO}, (if b = a then some (HO.frz { cls := .type "list", data := .seq vs.toArray } (.lst (ns.map V.int))) else none) = some u → b = a ∧ u = .frz { cls := .type "list", data := .seq vs.toArray } (.lst (ns.map V.int)) := fun {b u} z => by
      by_cases hba : b = a
      · rw [if_pos hba] at z; cases z; exact ⟨hba, rfl⟩
      · rw [if_neg hba] at z; cases z
    have only : Only (fun b => if b = a then some (HO.frz { cls := .type "list", data := .seq vs.toArray } (.lst (ns.map V.int))) else none) := fun b => by
      by_cases hba : b = a
      · exact .inr ⟨_, _, if_pos hba⟩
      · exact .inl (if_neg hba)
    refine callG KX G.T.g G.T.b G.T.builtins G.T.nolimit hg hobj hr hF hb only (hsp w _ a ns hlen only (.inl (.inr ⟨_, if_pos rfl⟩))) (fun _ _ z => z) (fun b u z => ?_) (fun b z => Classical.byContradiction fun nb => z (if_neg nb)) fun _ => inside
    obtain ⟨rfl, rfl⟩ := at_a z
    exact ⟨hobj, by rw [List.length_map]; exact small, vs, _, rv, hobj⟩
end Gx

/-! a def that may raise, called by keywords within a try; rooms; steps -/
namespace Gx
open PySem PySem.Spec PyProof.Rows L2 Evl
theorem room66 {k : Nat} {A : Around} (r : Room k A) : A.units + 66 < cLine := by have := r.un; omega
theorem room0 {k : Nat} {A : Around} (r : Room k A) : A.units < cLine := by have := r.un; omega
def tCallKS (sp : Sp) (gV : List V → List V → List V) (E : L2.St → XK) (tk : TA) : TE := fun σ H Q => tk σ H fun zs H2 => sp (gV [] zs) H2 Q (E σ)
theorem pe_calKS {X : Cx} {CX : CXT} {k : Nat} {x : Str} {ps ks : List Str} {sp : Sp} {E : L2.St → XK} {p pos : Pos} {kws : List Keyword} {tk : TA} {gV : List V → List V → List V}
    (C : CalK X.prog X.w X.K X.mg X.base CX k x ps ks gV sp) (hr : Room k X.A) (gl : Gl X x) (passes : ∀ σ, PassesAt CX X σ (E σ)) (hkw : PK X kws tk)
    (all1 : (backToKw pos (keywordEach kws X.env)).all (·.1.isSome) = true := by rfl) (names : (backToKw pos (keywordEach kws X.env)).filterMap (·.1) = ks := by rfl) (ndb : (x == ("__debug__" : Str)) = false := by decide)
    (plain2 : ((backTo pos (starEach [] X.env)).any (·.1) || (backToKw pos (keywordEach kws X.env)).any (·.1.isNone)) = false := by rfl) :
    PE X (.Call (.Name x p) [] kws pos) (tCallKS sp gV E tk) := by
  obtain ⟨f, fd, g, F, m, kp, B⟩ := C.ex
  constructor
  intro pins s σ H Q I h
  refine wpAny_Call_Name_kw (ld_glob I gl m (PySem.W.callWith_KW0 (h₀ := X.base) I.ok.mod.kin kp all1 (thn (hkw.run pos pins s σ H _ I h) fun ws s2 hz => ?_) plain2) ndb)
  obtain ⟨zs, H2, I2, rz, q2⟩ := hz
  refine ⟨I2.kIn, ?_⟩
  rw [names]
  have r2 : Vals (gV [] zs) (g [] ws) := B.rel .nil rz
  have hl : (g [] ws).length = ps.length := by rw [← r2.length]; exact F.len _ _ _ _ q2
  refine wpAny_call (codeAny_mono (F.run X.A X.stack s2 H2 ⟨[], ks.zip ws⟩ (g [] ws) (gV [] zs) Q (E σ) hr I2.env0 (B.to s2 [] ws I2.kIn hl) r2 q2) fun r s' hq => ?_)
  cases r with
  | error e => exact passes σ pins H2 s2 e s' I2 hq
  | ok fl =>
    cases fl with
    | ret u => exact I2.after hq
    | next => exact hq.elim
    | brk => exact hq.elim
    | cont => exact hq.elim
theorem c_callKS {σ : L2.St} {H : Hp} {Q : VK} {sp : Sp} {gV : List V → List V → List V} {E : L2.St → XK} {tk : TA} (h : tk σ H fun zs H2 => sp (gV [] zs) H2 Q (E σ)) : tCallKS sp gV E tk σ H Q := h
end Gx

/-! str of an instance by its own __str__; defs that are called once a token is out; what is never come to -/
namespace Gx
open PySem PySem.Spec PyProof.Rows L2 Evl
/-! ### str(x), x an instance with its own __str__ -/
def rStrOwn (C : Addr) (sp : Sp) (E : XK) : List V → Hp → VK → Prop := fun xs H Q => ∃ (a dx : Addr) (fs : List (Str × V)), xs = [.ref a] ∧ H a = some (.ins C dx fs) ∧ sp [.ref a] H (fun v H' => (∃ z, v = .str z) ∧ Q v H') E
structure StrC (P : Program) (w : World) (K : PySem.W.Frag) (mg : Str → Option Value) (base : Heap) (CX : CXT) (k : Nat) (C : Addr) (sp : Sp) : Prop where
  ex : ∃ (f : Addr) (fd : FuncData) (ps : List Str), FnOk P w K mg base CX k f fd ps sp ∧ PySem.W.findIn K (.ref C) "__str__" = some (some (.ref f)) ∧ PySem.W.isFn K (.ref f) = true ∧ Binds K fd ps []
theorem call_strOwn {X : Cx} {CX : CXT} {k : Nat} {C : Addr} {sp : Sp} {E : XK} (M : StrC X.prog X.w X.K X.mg X.base CX k C sp) (room : Room (k + 2) X.A) (passes : Passes CX X E) : CallR X (.type "str") (rStrOwn C sp E) := by
  obtain ⟨f, fd, ps, F, at_, fn, B⟩ := M.ex
  intro pins s σ H xs us Q I r h
  obtain ⟨a, dx, fs, rfl, ha, q⟩ := h
  obtain ⟨u, rfl, ru⟩ : ∃ u, us = [u] ∧ RelV (V.ref a) u := by
    cases r with
    | cons r rr => cases rr; exact ⟨_, rfl, r⟩
  cases ru
  obtain ⟨mA, J, _⟩ := ins_get I.hok ha
  obtain ⟨od, J, _⟩ := J.look
  have r2 : Vals [V.ref a] [Value.ref a] := .cons rfl .nil
  have lens : [Value.ref a].length = ps.length := by rw [← r2.length]; exact F.len _ _ _ _ q
  have bound := B s [.ref a] I.kIn (by rw [List.append_nil]; exact lens)
  rw [List.append_nil] at bound
  refine PySem.W.kso_call room.in1.in1.units0 I.kIn J at_ fn (wpAny_call (codeAny_mono (F.run X.A.in1.in1 X.stack s H ⟨[.ref a], []⟩ _ _ _ E room.in1.in1 I.env0.in1.in1 bound r2 q) fun r t2 ht => ?_))
  rcases r with e | fl
  · exact passes pins σ H s e t2 I ht
  cases fl with
  | next => exact False.elim ht
  | brk => exact False.elim ht
  | cont => exact False.elim ht
  | ret o =>
    obtain ⟨v, H', J', rv, ⟨z, rfl⟩, q'⟩ := I.after ht
    obtain ⟨tk, rfl⟩ := rv
    exact ⟨.str z, H', J', ⟨tk, rfl⟩, q'⟩
/-! ### a def that is called once a token is out -/
structure FnT (P : Program) (w : World) (K : PySem.W.Frag) (mg : Str → Option Value) (base : Heap) (CX : CXT) (k : Nat) (f : Addr) (fd : FuncData) (ps : List Str) (sp : Sp) : Prop where
  len : ∀ vs H Q E, sp vs H Q E → vs.length = ps.length
  run : ∀ (A : Around) (outer : List Env) (s : Shared) (H : Hp) (args : Args) (us : List Value) (vs : List V) (Q : VK) (E : XK), 1 ≤ s.toks → Room k A → Env0 P w K mg base A outer s H → BindsTo s fd args (ps.zip us) → Vals vs us → sp vs H Q E →
    codeAny (model P w) A (.call (.ref f) args) (CR CX outer P w H s Q E) s
section
variable {P : Program} {w : World} {K : PySem.W.Frag} {mg : Str → Option Value} {base : Heap}
theorem okT {CX : CXT} {x qual : Str} {st : Stmt} {f : Addr} {fd : FuncData} {N ps : List Str} {k : Nat} {sp : Sp} (F : Fun K x qual st f fd) (S : FnScope N ps (defScope st)) (len : ∀ vs H Q E, sp vs H Q E → vs.length = ps.length)
    (body : ∀ (cdv : Value) (A : Around) (outer : List Env) (s : Shared) (H : Hp) (vs : List V) (Q : VK) (E : XK), Room k (A.deeper (envOfC qual (defScope st) s.heap.objs.size f cdv)) → sp vs H Q E →
      ∃ t, PSsT (cxOf CX P w K mg base N qual (defScope st) f cdv A outer s H E) (defBody st) t ∧ t { nx := fun _ H' => Q .non H', rt := Q } (start N vs) H) : FnT P w K mg base CX (k + 1) f fd ps sp := by
  obtain ⟨oc, od, kV, doc, pm, an, cdv, ct, osl, rfl, lk, hcd⟩ := F.ex
  refine ⟨len, fun A outer s H args us vs Q E hg hr e0 hb r hsp => ?_⟩
  have many := len _ _ _ _ hsp
  have KX : K.In s.heap := e0.mod.kin.keeps fun b o e => (e0.bs b o e).1
  have kinds : ∀ y ∈ ps.zip us, (defScope st).names.lookup y.1 = some .local ∨ ((defScope st).names.lookup y.1 = some .cell ∧ ((cellsFrom (s.heap.objs.size + 1) (defScope st).names []).lookup y.1).isSome = true) := fun y hy =>
    (S.par y.1 (List.of_mem_zip (show (y.1, y.2) ∈ ps.zip us from hy)).1).imp id fun q => ⟨q, PySem.W.cellsFrom_some _ _ _ (.inl q)⟩
  refine codeAny_call_function hr.depth (KX _ _ lk) rfl S.co S.gen rfl (PySem.W.codeRec_of KX hcd) (hb _ _ _ _ (wpAny_with_toks (n := 1) hg (wpAny_newFunctionEnv_cells S.kind kinds fun env he s1 x hk => ?_)))
  subst he
  refine ⟨(e0.mod.nolimit.keeps fun b o e => (e0.bs b o e).1).keeps x.toInCall.keep, codeAny_func ?_⟩
  obtain ⟨t, ht, start_ok⟩ := body cdv A outer s H vs Q E (hr.deeper _) hsp
  refine wpAny_mono (ht [] s1 (start N vs) H _ hk (inv_start S hr.hd e0 many r x) start_ok) (fun fl s' hs => ?_) fun e s' hs => hs
  cases fl with
  | ret u =>
    obtain ⟨v, σ', H', J, rv, q⟩ := hs
    exact ⟨v, H', J.os, J.bare, J.base, J.hok, rv, q⟩
  | next =>
    obtain ⟨σ', H', J, q⟩ := hs
    exact ⟨.non, H', J.os, J.bare, J.base, J.hok, rfl, q⟩
  | brk => exact hs.elim fun _ h => h.elim fun _ h => h.2.elim
  | cont => exact hs.elim fun _ h => h.elim fun _ h => h.2.elim
end
section
variable {X : Cx} {CX : CXT} {k : Nat} {f : Addr} {fd : FuncData} {ps : List Str} {sp : Sp} {E : XK} {x : Str} {p pos : Pos} {e : Expr} {es : List Expr} {t : TA} {te : TE}
structure CalT (P : Program) (w : World) (K : PySem.W.Frag) (mg : Str → Option Value) (base : Heap) (CX : CXT) (k : Nat) (x : Str) (ps : List Str) (sp : Sp) : Prop where
  ex : ∃ (f : Addr) (fd : FuncData), FnT P w K mg base CX k f fd ps sp ∧ mg x = some (.ref f) ∧ PySem.W.keepIn K (.ref f) = true ∧ Binds K fd ps []
theorem CalT.land (F : FnT X.prog X.w X.K X.mg X.base CX k f fd ps sp) (B : Binds X.K fd ps []) (hr : Room k X.A) (hx : Passes CX X E) {pins : List (Addr × Obj)} {σ : L2.St} {H1 : Hp} {s1 : Shared} {vs : List V} {us : List Value} {Q : VK} (h1 : 1 ≤ s1.toks) (I1 : Inv X pins σ H1 s1) (r : Vals vs us) (q : sp (vs ++ []) H1 Q E) :
    wpAny (model X.prog X.w) X.A (call (.ref f) us) (EP X pins σ Q) X.xe s1 := by
  have r2 : Vals (vs ++ []) (us ++ []) := by rw [List.append_nil, List.append_nil]; exact r
  have hl : (us ++ ([] : List Value)).length = ps.length := by rw [← r2.length]; exact F.len _ _ _ _ q
  refine wpAny_call (codeAny_mono (F.run X.A X.stack s1 H1 ⟨us, []⟩ (us ++ []) (vs ++ []) Q E h1 hr I1.env0 (B s1 us I1.kIn hl) r2 q) fun r s' hq => ?_)
  cases r with
  | error e => exact hx pins σ H1 s1 e s' I1 hq
  | ok fl =>
    cases fl with
    | ret u => exact I1.after hq
    | next => exact hq.elim
    | brk => exact hq.elim
    | cont => exact hq.elim
/-- a token is out ahead of the call -/
theorem pet_calT (C : CalT X.prog X.w X.K X.mg X.base CX k x ps sp) (hr : Room k X.A) (gl : Gl X x) (hx : Passes CX X E) (ha : PAT X (e :: es) t) (hdb : (x == ("__debug__" : Str)) = false := by decide)
    (he : starEach (e :: es) X.env = (false, eval e X.env) :: starEach es X.env := by rfl) (hpl : (backTo pos (starEach es X.env)).any (·.1) = false := by rfl) : PET X (.Call (.Name x p) (e :: es) [] pos) (tCall sp [] E t) := by
  obtain ⟨f, fd, F, m, kp, B⟩ := C.ex
  intro pins s σ H Q h0 I h
  refine wpAny_Call_Name_kw (ld_glob I gl m (PySem.W.callWith_K (h₀ := X.base) I.ok.mod.kin kp (wpAny_mono (wpAny_toks (ha pos pins s σ H _ h0 I h)) (fun us s1 hv => ?_) fun _ _ z => z.2) he hpl) hdb)
  obtain ⟨hk, vs, H1, I1, r, q⟩ := hv
  exact ⟨I1.kIn, CalT.land F B hr hx (Nat.le_trans h0 hk) I1 r q⟩
/-- a token is out behind it -/
def PE1 (X : Cx) (e : Expr) (t : TE) : Prop :=
  ∀ (pins : List (Addr × Obj)) (s : Shared) (σ : L2.St) (H : Hp) (Q : VK), Inv X pins σ H s → t σ H Q → wpAny (model X.prog X.w) X.A (eval e X.env) (fun v s' => 1 ≤ s'.toks ∧ EP X pins σ Q v s') X.xe s
theorem pe1_str {z : Str} {j : Nat} {pos : Pos} : PE1 X (.Constant (.str z) j pos) (tC (.str z)) := fun _ s _ H _ I h => Calls.Constant_str ⟨by show 1 ≤ s.toks + 1; omega, .str z, H, I.tok _, ⟨_, rfl⟩, h⟩
theorem pe1_int {i : Int} {j : Nat} {pos : Pos} : PE1 X (.Constant (.int i) j pos) (tC (.int i)) := fun _ s _ H _ I h => wpAny_Constant_int ⟨by show 1 ≤ s.toks + 1; omega, .int i, H, I.tok _, ⟨_, rfl⟩, h⟩
/-- e[i], i an int that is written -/
theorem pe1_ix {r : R2} {a b : Expr} {ta tb : TE} (hr : IxR X r) (ha : PE X a ta) (hb : PE1 X b tb) (hs : PlainIx b) : PE1 X (.Subscript a b pos) (tOp r ta tb) := by
  intro pins s σ H Q I h
  refine Subscript_ (thn (ha.run pins s σ H _ I h) fun v s1 ⟨x, H1, I1, r1, q1⟩ => ?_)
  refine thn (hb pins s1 σ H1 _ I1 q1) fun u s2 ⟨h1, y, H2, I2, r2, q2⟩ => ?_
  exact wpAny_mono (wpAny_toks_of h1 (hr a b pins s2 σ H2 x y v u Q I2 r1 r2 q2 (hs _ _))) (fun _ _ z => z) fun _ _ z => z.2
theorem pe_calT1 (C : CalT X.prog X.w X.K X.mg X.base CX k x ps sp) (hr : Room k X.A) (gl : Gl X x) (hx : Passes CX X E) (ha : PE1 X e te) (hdb : (x == ("__debug__" : Str)) = false := by decide)
    (he : starEach [e] X.env = (false, eval e X.env) :: starEach [] X.env := by rfl) (hpl : (backTo pos (starEach [] X.env)).any (·.1) = false := by rfl) : PE X (.Call (.Name x p) [e] [] pos) (tCall sp [] E (tCons te tNil)) := by
  obtain ⟨f, fd, F, m, kp, B⟩ := C.ex
  constructor
  intro pins s σ H Q I h
  refine wpAny_Call_Name_kw (ld_glob I gl m (PySem.W.callWith_K (h₀ := X.base) I.ok.mod.kin kp ?_ he hpl) hdb)
  rw [he]
  show wpAny _ _ (spliced ((false, eval e X.env) :: backTo pos (starEach [] X.env))) _ _ s
  refine Calls.spliced_cons (thn (ha pins s σ H _ I h) fun v s1 ⟨h1, y, H1, I1, r1, q1⟩ => Calls.spliced_nil ?_)
  exact ⟨I1.kIn, CalT.land F B hr hx h1 I1 (.cons r1 .nil) q1⟩
theorem pet_ifExp {c a b : Expr} {tt : TT} {ta tb : TE} (hc : PT X c tt) (ha : PET X a ta) (hb : PET X b tb) : PET X (.IfExp c a b pos) (tIf tt ta tb) := by
  intro pins s σ H Q h0 I h
  refine wpAny_IfExp (wpAny_mono (wpAny_toks (hc.run pins s σ H _ I h)) (fun d s1 q => ?_) fun _ _ z => z.2)
  obtain ⟨hk, H1, I1, q1⟩ := q
  cases d with
  | true => exact ha pins s1 σ H1 Q (Nat.le_trans h0 hk) I1 q1
  | false => exact hb pins s1 σ H1 Q (Nat.le_trans h0 hk) I1 q1
theorem pst_set {i : Nat} {x : Str} {pos' : Pos} (hN : X.N.Nodup) (hi : X.N[i]? = some x) (hx : Loc X.env.scope x) (he : PET X e te) (hs : swapsWith e (some (.Name x pos')) pos.line X.env = pure false := by rfl) (hf : X.fn x = true ∨ X.env.scope.names.lookup x = some .local := by first | exact .inl rfl | exact .inr rfl | assumption) :
    PST X (.Assign [.Name x pos'] e pos) (tAsg te (gName i)) := by
  intro pins s σ H D h0 I h
  refine wpAny_Assign_Name (thn (he pins s σ H _ h0 I h) fun v s1 ⟨y, H1, I1, r1, q1⟩ => ?_) hs
  exact store_ok I1 hN hi hx r1 (fun s2 I2 => ⟨_, H1, I2, q1⟩) hf
end
/-! ### never come to -/
def tDeadS : TS := fun _ _ _ => False
theorem ps_dead {X : Cx} {st : Stmt} : PS X st tDeadS := ⟨fun _ _ _ _ _ _ h => h.elim⟩
def tDeadE : TE := fun _ _ _ => False
theorem pe_dead {X : Cx} {e : Expr} : PE X e tDeadE := ⟨fun _ _ _ _ _ _ h => h.elim⟩
/-! ### try: .. except c: .. -/
def tTryO (K : PySem.W.Frag) (c : Value) (Wout : WX) (tb : WX → TS) (ts : Addr → Value → Option Addr → TS) : TS := fun D σ H => tb (wOnly K c ts Wout D) D σ H
/-! ### steps -/
section
variable {K : PySem.W.Frag} {σ : L2.St} {H : Hp} {Q : VK} {D : Ends} {te : TE}
theorem c_tryO {c : Value} {W : WX} {tb : WX → TS} {ts : Addr → Value → Option Addr → TS} (h : tb (wOnly K c ts W D) D σ H) : tTryO K c W tb ts D σ H := h
theorem c_repl {y z : Str} (h : te σ H fun v H1 => ∃ x, v = .str x ∧ x.length + (x.length + 1) * z.length ≤ 16777216 ∧ Q (.str (Txt.replace x y z)) H1) : CwR.tReplC te y z σ H Q := h
theorem c_fmt (h : te σ H fun x H1 => (∃ y : Str, x = .str y ∧ y.length ≤ sizeLine ∧ Q (.str y) H1) ∨ ∃ i : Int, x = .int i ∧ i.natAbs.log2 < 1920 ∧ Q (.str (toString i)) H1) : tFmt te σ H Q := h
theorem c_fmtS {y : Str} {R : Str → Prop} {S : Int → Prop} (hl : y.length ≤ 100000) (h : R y) : (∃ y' : Str, V.str y = .str y' ∧ y'.length ≤ sizeLine ∧ R y') ∨ ∃ i : Int, V.str y = .int i ∧ i.natAbs.log2 < 1920 ∧ S i := .inl ⟨y, rfl, sz_of hl, h⟩
def tFs (ts : List TE) : TE := fun σ H Q => tJs ts Str.empty σ H fun out H1 => Q (.str out) H1
theorem pe_fs {X : Cx} {v1 v2 : Expr} {rest : List Expr} {ts : List TE} {pos : Pos} (h : PJ X (v1 :: v2 :: rest) ts) : PE X (.JoinedStr (v1 :: v2 :: rest) pos) (tFs ts) := pe_joined h
theorem c_fs {ts : List TE} (h : tJs ts Str.empty σ H fun out H1 => Q (.str out) H1) : tFs ts σ H Q := h
theorem c_jn {acc : Str} {QJ : Str → Hp → Prop} (h : QJ acc H) : tJs [] acc σ H QJ := h
theorem c_jc {ts : List TE} {acc : Str} {QJ : Str → Hp → Prop} (h : te σ H fun x H1 => ∃ y : Str, x = .str y ∧ (acc ++ y).length ≤ sizeLine ∧ tJs ts (acc ++ y) σ H1 QJ) : tJs (te :: ts) acc σ H QJ := h
theorem c_js {acc y : Str} {R : Str → Prop} (hl : acc.length + y.length ≤ 100000) (h : R (acc ++ y)) : ∃ y' : Str, V.str y = .str y' ∧ (acc ++ y').length ≤ sizeLine ∧ R (acc ++ y') := ⟨y, rfl, by rw [len_app]; exact sz_of hl, h⟩
end
/-! ### texts: str, split, join -/
def rStrS : List V → Hp → VK → Prop := fun xs H Q => ∃ a, xs = [.str a] ∧ Q (.str a) H
theorem call_strS {X : Cx} : CallR X (.type "str") rStrS := SkE.call_str_str
def rSplit : V → List V → Hp → VK → Prop := fun x xs H Q => ∃ a b, x = .str a ∧ xs = [.str b] ∧ (b.length == 0) = false ∧ a.length + 2 ≤ sizeLine ∧ rNewStrs (Txt.split a b) H Q
theorem pe_splitR {X : Cx} {o e : Expr} {to te : TE} {apos pos : Pos} (ho : PE X o to) (he : PE X e te) (hs : starEach [e] X.env = [(false, eval e X.env)] := by rfl) (hbase : attributeBase o "split" X.env (eval o X.env) = eval o X.env := by rfl) (hline : (apos.endLine == pos.line) = true := by rfl) :
    PE X (.Call (.Attribute o "split" apos) [e] [] pos) (tM1 rSplit to te) := pe_split ho he hs hbase hline
theorem psst_oneS {X : Cx} {st : Stmt} {t : TS} (h : PST X st t) : PSsT X [st] t := CwR.psst_one h
theorem PSsT.nox {X : Cx} {st : List Stmt} {t : TS} (h : PSsT X.nox st t) : PSsT X st t := fun pins s σ H D h0 I hw =>
  wpAny_mono (h pins s σ H D h0 (I.wish _) hw) (fun _ _ q => q.unwish) fun _ _ z => False.elim z
theorem takesF {X : Cx} : Takes X (fun _ _ _ _ => False) := fun _ _ ⟨_, _, _, _, _, _, _, _, _, _, _, _, _, _, _, _, w⟩ => w.elim
/-- a def's call, one token out -/
theorem pet_cal {X : Cx} {CX : CXT} {k : Nat} {x : Str} {ps : List Str} {dvs : List V} {sp : Sp} {E : XK} {p pos : Pos} {e : Expr} {es : List Expr} {t : TA} (C : Cal X.prog X.w X.K X.mg X.base CX k x ps dvs sp) (hr : Room k X.A) (gl : Gl X x) (hx : Passes CX X E) (ha : PAT X (e :: es) t) (hdb : (x == ("__debug__" : Str)) = false := by decide)
    (he : starEach (e :: es) X.env = (false, eval e X.env) :: starEach es X.env := by rfl) (hpl : (backTo pos (starEach es X.env)).any (·.1) = false := by rfl) : PET X (.Call (.Name x p) (e :: es) [] pos) (tCall sp dvs E t) := by
  obtain ⟨f, fd, ds, F, m, kp, B, rd⟩ := C.ex
  intro pins s σ H Q h0 I h
  refine wpAny_Call_Name_kw (ld_glob I gl m (PySem.W.callWith_K (h₀ := X.base) I.ok.mod.kin kp (thn (ha pos pins s σ H _ h0 I h) fun us s1 hv => ?_) he hpl) hdb)
  obtain ⟨vs, H1, I1, r, q⟩ := hv
  refine ⟨I1.kIn, ?_⟩
  have r2 : Vals (vs ++ dvs) (us ++ ds) := r.append rd
  have hl : (us ++ ds).length = ps.length := by rw [← r2.length]; exact F.len _ _ _ _ q
  refine wpAny_call (codeAny_mono (F.run X.A X.stack s1 H1 ⟨us, []⟩ (us ++ ds) (vs ++ dvs) Q E hr I1.env0 (B s1 us I1.kIn hl) r2 q) fun r s' hq => ?_)
  cases r with
  | error e => exact hx pins σ H1 s1 e s' I1 hq
  | ok fl =>
    cases fl with
    | ret u => exact I1.after hq
    | next => exact hq.elim
    | brk => exact hq.elim
    | cont => exact hq.elim
section
variable {K : PySem.W.Frag} {σ : L2.St} {H : Hp} {Q : VK} {D : Ends} {to te : TE}
theorem c_m1 {r : V → List V → Hp → VK → Prop} (h : to σ H fun x H1 => (∃ a, x = .str a) ∧ te σ H1 fun y H2 => r x [y] H2 Q) : tM1 r to te σ H Q := h
theorem c_m1s {z : Str} {R : Prop} (h : R) : (∃ a, V.str z = .str a) ∧ R := ⟨⟨z, rfl⟩, h⟩
theorem g_strS {z : Str} (h : Q (.str z) H) : rStrS [.str z] H Q := ⟨z, rfl, h⟩
theorem g_split {a b : Str} (hb : (b.length == 0) = false) (hl : a.length ≤ 90000) (h : ∀ p H', H p = none → Ex H H' → H' p = some (.lst ((Txt.split a b).map V.str)) → Q (.ref p) H') : rSplit (.str a) [.str b] H Q :=
  ⟨a, b, rfl, rfl, hb, sz_of (by omega), fun p np => h p _ np (Ex.new np) upd_same⟩
end
end Gx

/-! texts replaced, split and read as words: the mathematics -/
namespace Gx
open PySem PySem.Spec PyProof.Rows L2 Evl
open TL (tl spl pre joinL)
def push (a : List Nat) : List (List Nat) → List (List Nat)
  | [] => [a]
  | p :: r => (a ++ p) :: r
theorem spl_ne (S : List Nat) : ∀ (l : List Nat) (k : Nat) (acc : List Nat), spl S k acc l ≠ []
  | [], k, acc => by rw [TL.spl_nil]; simp
  | c :: r, 0, acc => by
    cases h : pre S (c :: r) with
    | true => rw [TL.spl_hit h]; simp
    | false => rw [TL.spl_miss h]; exact spl_ne S r 0 _
  | c :: r, k + 1, acc => spl_ne S r k acc
theorem spl_acc (S : List Nat) : ∀ (l acc : List Nat), spl S 0 acc l = push acc (spl S 0 [] l)
  | [], acc => by rw [TL.spl_nil, TL.spl_nil]; simp [push]
  | c :: r, acc => by
    cases h : pre S (c :: r) with
    | true => rw [TL.spl_hit h, TL.spl_hit h]; simp [push]
    | false =>
      rw [TL.spl_miss h, TL.spl_miss h, spl_acc S r (acc ++ [c]), spl_acc S r ([] ++ [c])]
      cases hs : spl S 0 [] r with
      | nil => exact absurd hs (spl_ne S r 0 [])
      | cons p q => simp [push]
theorem joinL_push (Z a : List Nat) : ∀ ps : List (List Nat), ps ≠ [] → joinL Z (push a ps) = a ++ joinL Z ps
  | [], h => absurd rfl h
  | [p], _ => rfl
  | p :: q :: r, _ => by show (a ++ p) ++ (Z ++ joinL Z (q :: r)) = a ++ (p ++ (Z ++ joinL Z (q :: r))); simp
/-- S replaced by Z, from the left -/
def rep (S Z l : List Nat) : List Nat := joinL Z (spl S 0 [] l)
theorem rep_nil (S Z : List Nat) : rep S Z [] = [] := by unfold rep; rw [TL.spl_nil]; rfl
theorem rep_miss {S Z r : List Nat} {c : Nat} (h : pre S (c :: r) = false) : rep S Z (c :: r) = c :: rep S Z r := by
  unfold rep
  rw [TL.spl_miss h, spl_acc, joinL_push _ _ _ (spl_ne _ _ _ _)]; rfl
theorem rep_hit {S Z r : List Nat} {c : Nat} (h : pre S (c :: r) = true) : rep S Z (c :: r) = Z ++ rep S Z (r.drop (S.length - 1)) := by
  unfold rep
  rw [TL.spl_hit h, TL.spl_pass]
  cases hs : spl S 0 [] (r.drop (S.length - 1)) with
  | nil => exact absurd hs (spl_ne _ _ _ _)
  | cons p q => rfl
theorem replace_rep (x y z : Str) (hy : tl y ≠ []) : tl (Txt.replace x y z) = rep (tl y) (tl z) (tl x) := by
  obtain ⟨f, g, hn⟩ := StrLaws.occ_tight x y (TL.len1 hy)
  have key := TL.parts_spl hy _ 0 f (Nat.zero_le _) g hn
  rw [List.drop_zero] at key
  have hl : (y.length == 0) = false := by
    have := TL.len1 hy
    exact beq_eq_false_iff_ne.mpr (by omega)
  unfold Txt.replace
  rw [hl, Bool.false_and, Bool.or_false]
  unfold rep
  cases he : Builtin.Str.occurrences x y 0 x.length (x.length + 1) with
  | nil =>
    rw [he] at key
    have e0 : StrLaws.partsFrom x y.length 0 [] = [x] := by show [Builtin.Str.strSub x 0 x.length] = [x]; rw [StrLaws.sub_whole]
    rw [e0] at key
    rw [if_pos (by rfl), ← key]; rfl
  | cons i r =>
    rw [he] at key
    rw [if_neg (by simp), StrLaws.glued_eq_join, StrLaws.partsBetween_eq, TL.tl_join, key]
/-! ### the words of a row -/
def W (l : List Nat) : List (List Nat) := (spl [32] 0 [] l).filter fun w => decide (w ≠ [])
theorem pre1 (s c : Nat) (r : List Nat) : pre [s] (c :: r) = decide (c = s) := by
  by_cases h : c = s
  · subst h; rw [decide_eq_true rfl]; simp [pre]
  · rw [decide_eq_false h]; exact TL.pre_of_head [] r h
theorem W_nil : W [] = [] := by unfold W; rw [TL.spl_nil]; rfl
theorem W_blank (r : List Nat) : W (32 :: r) = W r := by
  unfold W
  rw [TL.spl_hit (by rw [pre1]; simp)]; rfl
theorem spl_free {p : List Nat} (h : 32 ∉ p) (r acc : List Nat) : spl [32] 0 acc (p ++ 32 :: r) = (acc ++ p) :: spl [32] 0 [] r := TL.spl_part1 (S := []) h
theorem W_word {p : List Nat} (h : 32 ∉ p) (hp : p ≠ []) (r : List Nat) : W (p ++ 32 :: r) = p :: W r := by
  unfold W
  rw [spl_free h, List.nil_append, List.filter_cons_of_pos (by simpa using hp)]
theorem W_last {p : List Nat} (h : 32 ∉ p) (hp : p ≠ []) : W p = [p] := by
  unfold W
  rw [TL.spl_last1 (S := []) h, List.nil_append, List.filter_cons_of_pos (by simpa using hp)]; rfl
/-- a row with blanks round its commas and arrows -/
def R1 (l : List Nat) : List Nat := rep [44] [32, 44, 32] l
def R2 (l : List Nat) : List Nat := rep [60, 45] [32, 60, 45, 32] l
theorem R1_nil : R1 [] = [] := rep_nil _ _
theorem R1_hit (r : List Nat) : R1 (44 :: r) = 32 :: 44 :: 32 :: R1 r := by unfold R1; rw [rep_hit (by rw [pre1]; simp)]; rfl
theorem R1_miss {c : Nat} (h : c ≠ 44) (r : List Nat) : R1 (c :: r) = c :: R1 r := rep_miss (by rw [pre1]; exact decide_eq_false h)
theorem R1_app : ∀ a b : List Nat, R1 (a ++ b) = R1 a ++ R1 b
  | [], b => by rw [R1_nil]; rfl
  | c :: a, b => by
    by_cases h : c = 44
    · subst h; rw [List.cons_append, R1_hit, R1_hit, R1_app a b]; rfl
    · rw [List.cons_append, R1_miss h, R1_miss h, R1_app a b]; rfl
theorem R1_free : ∀ p : List Nat, 44 ∉ p → R1 p = p
  | [], _ => R1_nil
  | c :: r, h => by
    rw [List.mem_cons] at h
    rw [R1_miss (fun e => h (.inl e.symm)), R1_free r fun m => h (.inr m)]
theorem R2_nil : R2 [] = [] := rep_nil _ _
theorem R2_hit (r : List Nat) : R2 (60 :: 45 :: r) = 32 :: 60 :: 45 :: 32 :: R2 r := by unfold R2; rw [rep_hit (by simp [pre])]; rfl
theorem R2_miss {c : Nat} (h : c ≠ 60) (r : List Nat) : R2 (c :: r) = c :: R2 r := rep_miss (TL.pre_of_head [45] r h)
theorem R2_app : ∀ a b : List Nat, 60 ∉ a → R2 (a ++ b) = a ++ R2 b
  | [], b, _ => rfl
  | c :: a, b, h => by
    rw [List.mem_cons] at h
    rw [List.cons_append, R2_miss (fun e => h (.inl e.symm)), R2_app a b fun m => h (.inr m)]; rfl
theorem R2_free (p : List Nat) (h : 60 ∉ p) : R2 p = p := by have := R2_app p [] h; rwa [R2_nil, List.append_nil] at this
def wordsL (l : List Nat) : List (List Nat) := W (R2 (R1 l))
/-- the words of a row as the program takes them -/
def wordsS (z : Str) : List Str := (Txt.split (Txt.replace (Txt.replace z "," " , ") "<-" " <- ") " ").filter fun w => decide (w ≠ ("" : Str))
theorem filter_tl : ∀ l : List Str, (l.filter fun w => decide (w ≠ ("" : Str))).map tl = (l.map tl).filter fun w => decide (w ≠ [])
  | [] => rfl
  | w :: r => by
    have ih := filter_tl r
    by_cases h : w = ("" : Str)
    · subst h
      rw [List.filter_cons_of_neg (by simp), List.map_cons, List.filter_cons_of_neg (by decide +kernel), ih]
    · have h2 : tl w ≠ [] := fun e => h (TL.ext_tl (by rw [e]; decide +kernel))
      rw [List.filter_cons_of_pos (by simpa using h), List.map_cons, List.map_cons, List.filter_cons_of_pos (by simpa using h2), ih]
theorem wordsS_tl (z : Str) : (wordsS z).map tl = wordsL (tl z) := by
  unfold wordsS wordsL W R1 R2
  rw [filter_tl, TL.split_spl _ _ (by decide +kernel) (TL.kind_ok (by decide +kernel)), replace_rep _ _ _ (by decide +kernel), replace_rep _ _ _ (by decide +kernel)]
  have e1 : tl (("," : Str)) = [44] := by decide +kernel
  have e2 : tl ((" , " : Str)) = [32, 44, 32] := by decide +kernel
  have e3 : tl (("<-" : Str)) = [60, 45] := by decide +kernel
  have e4 : tl ((" <- " : Str)) = [32, 60, 45, 32] := by decide +kernel
  have e5 : tl ((" " : Str)) = [32] := by decide +kernel
  rw [e1, e2, e3, e4, e5]
theorem wordsS_eq {z : Str} {ws : List Str} (h : wordsL (tl z) = ws.map tl) : wordsS z = ws := TL.map_tl_inj (by rw [wordsS_tl, h])
/-! ### going on behind a word -/
def plainW (p : List Nat) : Prop := 32 ∉ p ∧ 44 ∉ p ∧ 60 ∉ p ∧ p ≠ []
theorem wl_nil : wordsL [] = [] := by unfold wordsL; rw [R1_nil, R2_nil, W_nil]
theorem wl_blank (r : List Nat) : wordsL (32 :: r) = wordsL r := by unfold wordsL; rw [R1_miss (by decide), R2_miss (by decide), W_blank]
theorem wl_last {p : List Nat} (h : plainW p) : wordsL p = [p] := by unfold wordsL; rw [R1_free _ h.2.1, R2_free _ h.2.2.1, W_last h.1 h.2.2.2]
theorem wl_word {p : List Nat} (h : plainW p) (r : List Nat) : wordsL (p ++ 32 :: r) = p :: wordsL r := by
  unfold wordsL
  rw [R1_app, R1_free _ h.2.1, R1_miss (by decide), R2_app _ _ h.2.2.1, R2_miss (by decide), W_word h.1 h.2.2.2]
theorem wl_comma (r : List Nat) : wordsL (44 :: r) = [44] :: wordsL r := by
  unfold wordsL
  rw [R1_hit, R2_miss (by decide), R2_miss (by decide), R2_miss (by decide), W_blank]
  exact W_word (p := [44]) (by decide) (by decide) _
theorem wl_wcomma {p : List Nat} (h : plainW p) (r : List Nat) : wordsL (p ++ 44 :: r) = p :: [44] :: wordsL r := by
  have hc := wl_comma r
  unfold wordsL at hc ⊢
  rw [R1_app, R1_free _ h.2.1, R1_hit, R2_app _ _ h.2.2.1, R2_miss (by decide), W_word h.1 h.2.2.2]
  rw [R1_hit, R2_miss (by decide), W_blank] at hc
  rw [hc]
theorem wl_arrow (r : List Nat) : wordsL (60 :: 45 :: r) = [60, 45] :: wordsL r := by
  unfold wordsL
  rw [R1_miss (by decide), R1_miss (by decide), R2_hit, W_blank]
  exact W_word (p := [60, 45]) (by decide) (by decide) _
end Gx

/-! the text of a rule, and what words tell -/
namespace Gx
open PySem PySem.Spec PyProof.Rows L2 Evl
open TL (tl spl pre joinL)
def headT : V → Str
  | .str z => z
  | _ => "never"
def grS (bs us : List Str) : Str := Txt.join ", " (bs ++ us.map fun u => ("not " : Str) ++ u)
def ruleText (h : V) (bs us : List Str) : Str := if bs ++ us = [] then headT h else (headT h ++ (if h = .non then " " else " <- ")) ++ grS bs us
/-- the words of the items, commas between -/
def joinW : List (List Str) → List Str
  | [] => []
  | [p] => p
  | p :: q :: r => p ++ (("," : Str) :: joinW (q :: r))
def itemsW (bs us : List Str) : List (List Str) := bs.map (fun b => [b]) ++ us.map fun u => [("not" : Str), u]
def itemOk (it : List Str) : Prop := (∃ b, it = [b] ∧ plainW (tl b)) ∨ ∃ n u, it = [n, u] ∧ plainW (tl n) ∧ plainW (tl u)
def itT : List Str → List Nat
  | [b] => tl b
  | [n, u] => tl n ++ 32 :: tl u
  | _ => []
theorem wl_item {it : List Str} (h : itemOk it) (r : List Nat) : wordsL (itT it ++ 44 :: r) = it.map tl ++ [44] :: wordsL r := by
  rcases h with ⟨b, rfl, hb⟩ | ⟨n, u, rfl, hn, hu⟩
  · exact wl_wcomma hb r
  · show wordsL ((tl n ++ 32 :: tl u) ++ 44 :: r) = _
    rw [List.append_assoc]
    show wordsL (tl n ++ 32 :: (tl u ++ 44 :: r)) = _
    rw [wl_word hn, wl_wcomma hu]; rfl
theorem wl_itemE {it : List Str} (h : itemOk it) : wordsL (itT it) = it.map tl := by
  rcases h with ⟨b, rfl, hb⟩ | ⟨n, u, rfl, hn, hu⟩
  · exact wl_last hb
  · show wordsL (tl n ++ 32 :: tl u) = _
    rw [wl_word hn, wl_last hu]; rfl
theorem tl_comma : tl ((",") : Str) = [44] := by decide +kernel
theorem wl_items : ∀ {its : List (List Str)}, (∀ it ∈ its, itemOk it) → wordsL (joinL [44, 32] (its.map itT)) = (joinW its).map tl
  | [], _ => wl_nil
  | [p], h => wl_itemE (h p (.head _))
  | p :: q :: r, h => by
    have ih := wl_items (its := q :: r) fun it hi => h it (.tail _ hi)
    show wordsL (itT p ++ (44 :: 32 :: joinL [44, 32] ((q :: r).map itT))) = (p ++ (("," : Str) :: joinW (q :: r))).map tl
    rw [wl_item (h p (.head _)), wl_blank, ih, List.map_append, List.map_cons, tl_comma]
theorem plain_let {z : Str} (h : ∀ c ∈ tl z, isLet c = true) (hz : tl z ≠ []) : plainW (tl z) := by
  have no : ∀ k, isLet k = false → k ∉ tl z := fun k hk hm => by rw [h k hm] at hk; cases hk
  exact ⟨no 32 (by decide), no 44 (by decide), no 60 (by decide), hz⟩
theorem nameS_ne {z : Str} (h : nameS z = true) : tl z ≠ [] := fun e => by
  have := ((nameS_iff z).mp h).1.1
  have e2 : z.length = 0 := by rw [TL.len_tl, e]; rfl
  omega
theorem plain_name {z : Str} (h : nameS z = true) : plainW (tl z) := plain_let ((nameS_iff z).mp h).2.2 (nameS_ne h)
theorem plain_not : plainW (tl ("not" : Str)) := by refine ⟨?_, ?_, ?_, ?_⟩ <;> decide +kernel
theorem plain_never : plainW (tl ("never" : Str)) := by refine ⟨?_, ?_, ?_, ?_⟩ <;> decide +kernel
theorem items_ok {bs us : List Str} (hb : ∀ z ∈ bs, nameS z = true) (hu : ∀ z ∈ us, nameS z = true) : ∀ it ∈ itemsW bs us, itemOk it := fun it hi => by
  rcases List.mem_append.mp hi with k | k
  · obtain ⟨b, hm, rfl⟩ := List.mem_map.mp k; exact .inl ⟨b, rfl, plain_name (hb b hm)⟩
  · obtain ⟨u, hm, rfl⟩ := List.mem_map.mp k; exact .inr ⟨_, u, rfl, plain_not, plain_name (hu u hm)⟩
theorem tl_grS (bs us : List Str) : tl (grS bs us) = joinL [44, 32] ((itemsW bs us).map itT) := by
  unfold grS itemsW
  rw [TL.join_eq, TL.tl_join, show tl (", " : Str) = [44, 32] by decide +kernel]
  congr 1
  rw [List.map_append, List.map_append, List.map_map, List.map_map, List.map_map]
  congr 1
  refine List.map_congr_left fun u _ => ?_
  show tl (("not " : Str) ++ u) = tl ("not" : Str) ++ 32 :: tl u
  rw [TL.tl_append, show tl ("not " : Str) = tl ("not" : Str) ++ [32] by decide +kernel]; simp
def wordsOf (h : V) (bs us : List Str) : List Str := headT h :: (if bs ++ us = [] then [] else (if h = .non then [] else [("<-" : Str)]) ++ joinW (itemsW bs us))
theorem head_plain {h : V} (hh : (decide (h = .non) || isNm h) = true) : plainW (tl (headT h)) := by
  cases h with
  | str z => exact plain_name (z := z) (by simpa [isNm] using hh)
  | _ => exact plain_never
theorem words_rule {h : V} {bs us : List Str} (hh : (decide (h = .non) || isNm h) = true) (hb : ∀ z ∈ bs, nameS z = true) (hu : ∀ z ∈ us, nameS z = true) : wordsS (ruleText h bs us) = wordsOf h bs us := by
  refine wordsS_eq ?_
  unfold ruleText wordsOf
  have hp := head_plain hh
  by_cases e : bs ++ us = []
  · rw [if_pos e, if_pos e, wl_last hp]; rfl
  · rw [if_neg e, if_neg e, TL.tl_append, TL.tl_append, tl_grS]
    by_cases hn : h = .non
    · rw [if_pos hn, if_pos hn, show tl (" " : Str) = [32] by decide +kernel, List.append_assoc]
      show wordsL (tl (headT h) ++ 32 :: joinL [44, 32] ((itemsW bs us).map itT)) = _
      rw [wl_word hp, wl_items (items_ok hb hu)]; rfl
    · rw [if_neg hn, if_neg hn, show tl (" <- " : Str) = [32, 60, 45, 32] by decide +kernel, List.append_assoc]
      show wordsL (tl (headT h) ++ 32 :: 60 :: 45 :: 32 :: joinL [44, 32] ((itemsW bs us).map itT)) = _
      rw [wl_word hp, wl_arrow, wl_blank, wl_items (items_ok hb hu)]; rfl
/-! ### what words tell -/
def addW : List (List Str) → Str → List (List Str)
  | [], w => [[w]]
  | [p], w => if w = "," then [p, []] else [p ++ [w]]
  | p :: q :: r, w => p :: addW (q :: r) w
def partsW (ws : List Str) : List (List Str) := ws.foldl addW [[]]
theorem addW_ne : ∀ (ps : List (List Str)) (w : Str), addW ps w ≠ []
  | [], _ => by simp [addW]
  | [p], w => by unfold addW; split <;> simp
  | p :: q :: r, w => by simp [addW]
theorem addW_comma : ∀ ps : List (List Str), ps ≠ [] → addW ps ("," : Str) = ps ++ [[]]
  | [], h => absurd rfl h
  | [p], _ => by show (if (("," : Str) = ",") then [p, []] else [p ++ [("," : Str)]]) = _; rw [if_pos rfl]; rfl
  | p :: q :: r, _ => by show p :: addW (q :: r) ("," : Str) = _; rw [addW_comma (q :: r) (by simp)]; rfl
theorem addW_word {w : Str} (h : w ≠ ",") : ∀ (ps : List (List Str)) (p : List Str), addW (ps ++ [p]) w = ps ++ [p ++ [w]]
  | [], p => by show (if w = "," then [p, []] else [p ++ [w]]) = _; rw [if_neg h]; rfl
  | [a], p => by show a :: addW [p] w = _; show a :: (if w = "," then [p, []] else [p ++ [w]]) = _; rw [if_neg h]; rfl
  | a :: b :: r, p => by show a :: addW ((b :: r) ++ [p]) w = _; rw [addW_word h (b :: r) p]; rfl
theorem fold_item : ∀ {it : List Str}, (∀ w ∈ it, w ≠ ",") → ∀ (ps : List (List Str)) (p : List Str), it.foldl addW (ps ++ [p]) = ps ++ [p ++ it]
  | [], _, ps, p => by simp
  | w :: r, h, ps, p => by
    rw [List.foldl_cons, addW_word (h w (.head _)), fold_item (fun v hv => h v (.tail _ hv))]; simp
theorem fold_join : ∀ {its : List (List Str)}, its ≠ [] → (∀ it ∈ its, ∀ w ∈ it, w ≠ ",") → ∀ ps : List (List Str), (joinW its).foldl addW (ps ++ [[]]) = ps ++ its
  | [], h, _, _ => absurd rfl h
  | [p], _, h, ps => by show p.foldl addW (ps ++ [[]]) = _; rw [fold_item (h p (.head _))]; simp
  | p :: q :: r, _, h, ps => by
    show (p ++ (("," : Str) :: joinW (q :: r))).foldl addW (ps ++ [[]]) = _
    rw [List.foldl_append, fold_item (h p (.head _)), List.nil_append, List.foldl_cons, addW_comma _ (by simp), fold_join (its := q :: r) (by simp) (fun it hi => h it (.tail _ hi))]
    simp
theorem partsW_join {its : List (List Str)} (h : its ≠ []) (hc : ∀ it ∈ its, ∀ w ∈ it, w ≠ ",") : partsW (joinW its) = its := fold_join h hc []
/-- the body and the unless of items -/
def readIt : List (List Str) → Option (List Str × List Str)
  | [] => some ([], [])
  | [b] :: r => (readIt r).map fun p => (b :: p.1, p.2)
  | [n, u] :: r => if n = "not" then (readIt r).map fun p => (p.1, u :: p.2) else none
  | _ :: _ => none
theorem readIt_us : ∀ us : List Str, readIt (us.map fun u => [("not" : Str), u]) = some ([], us)
  | [] => rfl
  | u :: r => by
    show (if (("not" : Str) = "not") then (readIt (r.map fun u => [("not" : Str), u])).map (fun p => (p.1, u :: p.2)) else none) = _
    rw [if_pos rfl, readIt_us r]; rfl
theorem readIt_items : ∀ bs us : List Str, readIt (itemsW bs us) = some (bs, us)
  | [], us => readIt_us us
  | b :: r, us => by
    show (readIt (itemsW r us)).map (fun p => (b :: p.1, p.2)) = _
    rw [readIt_items r us]; rfl
def withW (h : V) (ws : List Str) : Option (V × List Str × List Str) :=
  match readIt (if ws = [] then [] else partsW ws) with
  | some (b, u) => if goodR h (some (b.map V.str)) (some (u.map V.str)) = true then some (h, b, u) else none
  | none => none
def ruleW : List Str → Option (V × List Str × List Str)
  | [] => none
  | w :: r => if w = "never" then withW .non r else
    match r with
    | [] => withW (.str w) []
    | a :: q => if a = "<-" ∧ q ≠ [] then withW (.str w) q else none
theorem name_ne {z y : Str} (h : nameS z = true) (hy : nameS y = false) : z ≠ y := fun e => by rw [e, hy] at h; cases h
theorem items_nc {bs us : List Str} (hb : ∀ z ∈ bs, nameS z = true) (hu : ∀ z ∈ us, nameS z = true) : ∀ it ∈ itemsW bs us, ∀ w ∈ it, w ≠ "," := fun it hi w hw => by
  have nc : nameS ("," : Str) = false := by decide +kernel
  rcases List.mem_append.mp hi with k | k
  · obtain ⟨b, hm, rfl⟩ := List.mem_map.mp k
    rw [List.mem_singleton] at hw; subst hw; exact name_ne (hb _ hm) nc
  · obtain ⟨u, hm, rfl⟩ := List.mem_map.mp k
    simp only [List.mem_cons, List.not_mem_nil, or_false] at hw
    rcases hw with rfl | rfl
    · decide +kernel
    · exact name_ne (hu _ hm) nc
theorem joinW_ne {its : List (List Str)} (h : its ≠ []) (hn : ∀ it ∈ its, it ≠ []) : joinW its ≠ [] := by
  match its, h with
  | [p], _ => exact hn p (.head _)
  | p :: q :: r, _ => show p ++ _ ≠ []; simp
theorem items_ne (bs us : List Str) : ∀ it ∈ itemsW bs us, it ≠ [] := fun it hi => by
  rcases List.mem_append.mp hi with k | k <;> (obtain ⟨_, _, rfl⟩ := List.mem_map.mp k; simp)
theorem withW_items {h : V} {bs us : List Str} (hg : goodR h (some (bs.map V.str)) (some (us.map V.str)) = true) (hb : ∀ z ∈ bs, nameS z = true) (hu : ∀ z ∈ us, nameS z = true) : withW h (joinW (itemsW bs us)) = some (h, bs, us) := by
  have e : readIt (if joinW (itemsW bs us) = [] then [] else partsW (joinW (itemsW bs us))) = some (bs, us) := by
    by_cases z : itemsW bs us = []
    · rw [z, show joinW ([] : List (List Str)) = [] from rfl, if_pos rfl]
      have := readIt_items bs us
      rwa [z] at this
    · rw [if_neg (joinW_ne z (items_ne bs us)), partsW_join z (items_nc hb hu), readIt_items]
  unfold withW
  rw [e]
  show (if _ then _ else _) = _
  rw [if_pos hg]
theorem ruleW_of {h : V} {bs us : List Str} (hg : goodR h (some (bs.map V.str)) (some (us.map V.str)) = true) (hb : ∀ z ∈ bs, nameS z = true) (hu : ∀ z ∈ us, nameS z = true) : ruleW (wordsOf h bs us) = some (h, bs, us) := by
  have key := withW_items hg hb hu
  have hh : (decide (h = .non) || isNm h) = true := by unfold goodR at hg; exact (Bool.and_eq_true _ _ ▸ hg).1
  have it0 : bs ++ us = [] → itemsW bs us = [] := fun e => by
    obtain ⟨rfl, rfl⟩ := List.append_eq_nil_iff.mp e; rfl
  have it1 : bs ++ us ≠ [] → itemsW bs us ≠ [] := fun e z => e (by
    obtain ⟨z1, z2⟩ := List.append_eq_nil_iff.mp z
    rw [List.map_eq_nil_iff.mp z1, List.map_eq_nil_iff.mp z2]; rfl)
  unfold wordsOf ruleW
  by_cases hn : h = .non
  · subst hn
    show (if (("never" : Str) = "never") then _ else _) = _
    rw [if_pos rfl]
    by_cases e : bs ++ us = []
    · rw [if_pos e]; rw [it0 e] at key; exact key
    · rw [if_neg e, if_pos rfl]; exact key
  · have hz : ∃ z, h = .str z ∧ nameS z = true := by
      cases h with
      | str z => exact ⟨z, rfl, by simpa [isNm] using hh⟩
      | non => exact absurd rfl hn
      | _ => simp [isNm] at hh
    obtain ⟨z, rfl, nz⟩ := hz
    show (if z = "never" then _ else _) = _
    rw [if_neg (name_ne nz (by decide +kernel))]
    by_cases e : bs ++ us = []
    · rw [if_pos e]; rw [it0 e] at key; exact key
    · rw [if_neg e, if_neg hn]
      show (if (("<-" : Str) = "<-" ∧ joinW (itemsW bs us) ≠ []) then _ else _) = _
      rw [if_pos ⟨rfl, joinW_ne (it1 e) (items_ne bs us)⟩]; exact key
theorem read_text {h : V} {bs us : List Str} (hg : goodR h (some (bs.map V.str)) (some (us.map V.str)) = true) (hb : ∀ z ∈ bs, nameS z = true) (hu : ∀ z ∈ us, nameS z = true) : ruleW (wordsS (ruleText h bs us)) = some (h, bs, us) := by
  have hh : (decide (h = .non) || isNm h) = true := by unfold goodR at hg; exact (Bool.and_eq_true _ _ ▸ hg).1
  rw [words_rule hh hb hu, ruleW_of hg hb hu]
end Gx

/-! steps over texts and lists -/
namespace Gx
open PySem PySem.Spec PyProof.Rows L2 Evl
section
variable {K : PySem.W.Frag} {σ : L2.St} {H : Hp} {Q : VK}
theorem g_join {a : Str} {p : Addr} {ys : List Str} (hp : SqL K H p (ys.map V.str) ∨ SqT K H p (ys.map V.str)) (hl : (ys.map (·.length)).sum + ys.length * a.length ≤ 90000) (h : Q (.str (Txt.join a ys)) H) : rJoin K (.str a) [.ref p] H Q :=
  ⟨a, p, ys, rfl, rfl, hp, by omega, h⟩
theorem g_tupS {p : Addr} {xs : List V} (hp : SqL K H p xs) (h : ∀ r H', H r = none → Ex H H' → H' r = some (.tup xs) → Q (.ref r) H') : rTupleS K [.ref p] H Q := ⟨p, xs, rfl, .inl ⟨hp, fun l hl => h l _ hl (Ex.new hl) upd_same⟩⟩
theorem tru_l {p : Addr} {xs : List V} (hp : SqL K H p xs) : TruV K (.ref p) H (!xs.isEmpty) := .inl ⟨xs, hp, rfl⟩
theorem tru_s {z : Str} (hz : z.length ≤ 100000) : TruV K (.str z) H (!decide (z = ("" : Str))) := by
  refine ⟨sz_of hz, ?_⟩
  by_cases e : z = ("" : Str)
  · subst e; rw [decide_eq_true rfl]; decide +kernel
  · rw [decide_eq_false e]
    have : z.length ≠ 0 := fun k => e (TL.ext_tl (by rw [(TL.len0_tl z).mp k]; decide +kernel))
    symm
    simp only [Bool.not_false, bne_iff_ne, ne_eq]; omega
theorem c_replS {z : Str} {n : Nat} {R : Str → Prop} (hl : z.length + (z.length + 1) * n ≤ 16777216) (h : R z) : ∃ x, V.str z = .str x ∧ x.length + (x.length + 1) * n ≤ 16777216 ∧ R x := ⟨z, rfl, hl, h⟩
theorem atI0 {α : Type} {x : α} {xs : List α} : atI (x :: xs) 0 = some x := atI_nat (j := 0) rfl
theorem atI1 {α : Type} {x y : α} {xs : List α} : atI (x :: y :: xs) 1 = some y := atI_nat (j := 1) rfl
theorem atI2 {α : Type} {x y z : α} {xs : List α} : atI (x :: y :: z :: xs) 2 = some z := atI_nat (j := 2) rfl
end
end Gx

set_option maxHeartbeats 800000
namespace K04
open PySem PySem.Spec PyProof.Rows L2 Evl Gx
def topS (i : Nat) : Stmt := PySem.Challenge.pw_groundlots_k04_texts_of_rules.main.body.getD i (.Pass ⟨0, 0, 0, 0⟩)
abbrev s_is_small_letter : Stmt := topS 9
theorem sc_is_small_letter : FnScope ["sign"] ["sign"] (defScope s_is_small_letter) := ⟨rfl, rfl, rfl, by decide +kernel, rfl, by decide +kernel, by decide +kernel⟩
abbrev s_is_name : Stmt := topS 8
theorem sc_is_name : FnScope ["thing", "sign"] ["thing"] (defScope s_is_name) := ⟨rfl, rfl, rfl, by decide +kernel, rfl, by decide +kernel, by decide +kernel⟩
abbrev s_is_names : Stmt := topS 10
theorem sc_is_names : FnScope ["thing", "most", "one"] ["thing", "most"] (defScope s_is_names) := ⟨rfl, rfl, rfl, by decide +kernel, rfl, by decide +kernel, by decide +kernel⟩
abbrev s_Rule___init__ : Stmt := inClass (topS 14) 0
theorem sc_Rule___init__ : FnScope ["self", "head", "body", "unless"] ["self", "head", "body", "unless"] (defScope s_Rule___init__) := ⟨rfl, rfl, rfl, by decide +kernel, rfl, by decide +kernel, by decide +kernel⟩
abbrev s_Rule_told : Stmt := inClass (topS 14) 1
theorem sc_Rule_told : FnScope ["self"] ["self"] (defScope s_Rule_told) := ⟨rfl, rfl, rfl, by decide +kernel, rfl, by decide +kernel, by decide +kernel⟩
abbrev s_Rule_text : Stmt := inClass (topS 14) 2
theorem sc_Rule_text : FnScope ["self", "grounds", "name"] ["self"] (defScope s_Rule_text) := ⟨rfl, rfl, rfl, by decide +kernel, rfl, by decide +kernel, by decide +kernel⟩
abbrev s_Rule___str__ : Stmt := inClass (topS 14) 3
theorem sc_Rule___str__ : FnScope ["self"] ["self"] (defScope s_Rule___str__) := ⟨rfl, rfl, rfl, by decide +kernel, rfl, by decide +kernel, by decide +kernel⟩
abbrev s_Rule___eq__ : Stmt := inClass (topS 14) 4
theorem sc_Rule___eq__ : FnScope ["self", "other"] ["self", "other"] (defScope s_Rule___eq__) := ⟨rfl, rfl, rfl, by decide +kernel, rfl, by decide +kernel, by decide +kernel⟩
abbrev s_words_in : Stmt := topS 17
theorem sc_words_in : FnScope ["row", "parted", "word"] ["row"] (defScope s_words_in) := ⟨rfl, rfl, rfl, by decide +kernel, rfl, by decide +kernel, by decide +kernel⟩
abbrev s_parts_of : Stmt := topS 20
theorem sc_parts_of : FnScope ["words", "parts", "word"] ["words"] (defScope s_parts_of) := ⟨rfl, rfl, rfl, by decide +kernel, rfl, by decide +kernel, by decide +kernel⟩
abbrev s_rule_with : Stmt := topS 19
theorem sc_rule_with : FnScope ["head", "words", "body", "unless", "parts", "part"] ["head", "words"] (defScope s_rule_with) := ⟨rfl, rfl, rfl, by decide +kernel, rfl, by decide +kernel, by decide +kernel⟩
abbrev s_rule_in : Stmt := topS 18
theorem sc_rule_in : FnScope ["words"] ["words"] (defScope s_rule_in) := ⟨rfl, rfl, rfl, by decide +kernel, rfl, by decide +kernel, by decide +kernel⟩
abbrev s_read_rule : Stmt := topS 16
theorem sc_read_rule : FnScope ["text", "rule"] ["text"] (defScope s_read_rule) := ⟨rfl, rfl, rfl, by decide +kernel, rfl, by decide +kernel, by decide +kernel⟩
abbrev s__law_begin : Stmt := topS 22
theorem sc__law_begin : FnScope ["script", "cells", "cell"] ["script"] (defScope s__law_begin) := ⟨rfl, rfl, rfl, by decide +kernel, rfl, by decide +kernel, by decide +kernel⟩
abbrev s__law_take : Stmt := topS 23
theorem sc__law_take : FnScope ["draw", "size", "cells", "at", "cell"] ["draw", "size"] (defScope s__law_take) := ⟨rfl, rfl, rfl, by decide +kernel, rfl, by decide +kernel, by decide +kernel⟩
abbrev s__law_pick : Stmt := topS 24
theorem sc__law_pick : FnScope ["draw", "some"] ["draw", "some"] (defScope s__law_pick) := ⟨rfl, rfl, rfl, by decide +kernel, rfl, by decide +kernel, by decide +kernel⟩
abbrev s__law_word : Stmt := topS 25
theorem sc__law_word : FnScope ["draw", "own", "word", "k"] ["draw"] (defScope s__law_word) := ⟨rfl, rfl, rfl, by decide +kernel, rfl, by decide +kernel, by decide +kernel⟩
abbrev s__law_words : Stmt := topS 26
theorem sc__law_words : FnScope ["draw", "many", "found", "k", "word", "taken", "sign"] ["draw", "many"] (defScope s__law_words) := ⟨rfl, rfl, rfl, by decide +kernel, rfl, by decide +kernel, by decide +kernel⟩
abbrev s__law_parts : Stmt := topS 27
theorem sc__law_parts : FnScope ["draw", "words", "head", "first", "second", "turned", "other"] ["draw", "words"] (defScope s__law_parts) := ⟨rfl, rfl, rfl, by decide +kernel, rfl, by decide +kernel, by decide +kernel⟩
abbrev s__law_text : Stmt := topS 28
theorem sc__law_text : FnScope ["parts", "some", "name"] ["parts"] (defScope s__law_text) := ⟨rfl, rfl, rfl, by decide +kernel, rfl, by decide +kernel, by decide +kernel⟩
abbrev s_law : Stmt := topS 29
theorem sc_law : FnScope ["script", "draw", "turn", "parts", "rule", "found", "again"] ["script"] (defScope s_law) := ⟨rfl, rfl, rfl, by decide +kernel, rfl, by decide +kernel, by decide +kernel⟩
end K04

set_option maxHeartbeats 800000
namespace K04
open PySem PySem.Spec PyProof.Rows L2 Evl Gx
def g_Rule_2_unless (Z : Ads) (vs zs : List V) : List V := vs ++ zs
def g_Rule_1 (Z : Ads) (vs zs : List V) : List V := vs ++ [.ref Z.dB, .ref Z.dU]
def Names (ss : List Str) : Prop := ∀ z ∈ ss, nameS z = true
/-- words of a row -/
def WOk (ws : List Str) : Prop := (∀ w ∈ ws, w.length ≤ 1000 ∧ okS w) ∧ ws.length ≤ 900
def sp_Rule_text (K : PySem.W.Frag) (Z : Ads) : Sp := fun vs H Q _ => ∃ (a : Addr) (h : V) (bs us : List Str), vs = [.ref a] ∧ IsRule K Z H a h (bs.map V.str) (us.map V.str) ∧ ∀ H', Ex H H' → Q (.str (ruleText h bs us)) H'
def sp_Rule___str__ (K : PySem.W.Frag) (Z : Ads) : Sp := sp_Rule_text K Z
def sp_words_in (K : PySem.W.Frag) : Sp := fun vs H Q _ => ∃ z : Str, vs = [.str z] ∧ z.length ≤ 1000 ∧ (wordsS z).length ≤ 1000 ∧ ∀ p H', Ex H H' → H' p = some (.lst ((wordsS z).map V.str)) → Q (.ref p) H'
/-- lists of words at the addresses -/
def PL (H : Hp) : List Addr → List (List Str) → Prop
  | [], [] => True
  | a :: as, ps :: pss => H a = some (.lst (ps.map V.str)) ∧ PL H as pss
  | _, _ => False
def sp_parts_of (K : PySem.W.Frag) : Sp := fun vs H Q _ => ∃ (p : Addr) (ws : List Str), vs = [.ref p] ∧ H p = some (.lst (ws.map V.str)) ∧ WOk ws ∧ ∀ q as H', Ex H H' → H q = none → (∀ a ∈ as, H a = none) → H' q = some (.lst (as.map V.ref)) → PL H' as (partsW ws) → Q (.ref q) H'
def sp_rule_with (K : PySem.W.Frag) (Z : Ads) : Sp := fun vs H Q _ => ∃ (h : V) (p : Addr) (ws : List Str), vs = [h, .ref p] ∧ Thing H h ∧ H p = some (.lst (ws.map V.str)) ∧ WOk ws ∧
  (∀ a b u H', withW h ws = some (h, b, u) → Ex H H' → IsRule K Z H' a h (b.map V.str) (u.map V.str) → Q (.ref a) H') ∧ (withW h ws = none → ∀ H', Ex H H' → Q .non H')
def sp_rule_in (K : PySem.W.Frag) (Z : Ads) : Sp := fun vs H Q _ => ∃ (p : Addr) (ws : List Str), vs = [.ref p] ∧ H p = some (.lst (ws.map V.str)) ∧ WOk ws ∧
  (∀ a h b u H', ruleW ws = some (h, b, u) → Ex H H' → IsRule K Z H' a h (b.map V.str) (u.map V.str) → Q (.ref a) H') ∧ (ruleW ws = none → ∀ H', Ex H H' → Q .non H')
def sp_read_rule (K : PySem.W.Frag) (Z : Ads) : Sp := fun vs H Q _ => ∃ (z : Str) (h : V) (b u : List Str), vs = [.str z] ∧ z.length ≤ 1000 ∧ okS z ∧ WOk (wordsS z) ∧ ruleW (wordsS z) = some (h, b, u) ∧
  ∀ a H', Ex H H' → IsRule K Z H' a h (b.map V.str) (u.map V.str) → Q (.ref a) H'
/-- the parts of a rule, as the law lays them -/
def PartsT (H : Hp) (q : Addr) (h : V) (b u : Addr) (bs us : List Str) : Prop := H q = some (.tup [h, .ref b, .ref u]) ∧ H b = some (.tup (bs.map V.str)) ∧ H u = some (.tup (us.map V.str)) ∧ goodR h (some (bs.map V.str)) (some (us.map V.str)) = true ∧ Names bs ∧ Names us
theorem PartsT.ex {H H' : Hp} {q b u : Addr} {h : V} {bs us : List Str} (e : Ex H H') (p : PartsT H q h b u bs us) : PartsT H' q h b u bs us := ⟨e _ _ p.1, e _ _ p.2.1, e _ _ p.2.2.1, p.2.2.2⟩
def sp__law_parts (K : PySem.W.Frag) : Sp := fun vs H Q _ => ∃ (d p : Addr) (ss : List Str), vs = [.ref d, .ref p] ∧ Draw H d ∧ H p = some (.lst (ss.map V.str)) ∧ ss.length = 7 ∧ ss.Nodup ∧ Names ss ∧
  ∀ q h b u bs us H', Ex H H' → PartsT H' q h b u bs us → Q (.ref q) H'
def sp__law_text (K : PySem.W.Frag) : Sp := fun vs H Q _ => ∃ (q : Addr) (h : V) (b u : Addr) (bs us : List Str), vs = [.ref q] ∧ PartsT H q h b u bs us ∧ ∀ H', Ex H H' → Q (.str (ruleText h bs us)) H'
def sp_law (K : PySem.W.Frag) (Z : Ads) : Sp := fun vs H Q _ => ∃ (a : Addr) (ns : List Int), vs = [.ref a] ∧ SqL K H a (ns.map V.int) ∧ ns.length ≤ 63 ∧ ∀ H', Q (.bl true) H'

end K04

set_option maxHeartbeats 800000
namespace K04
open PySem PySem.Spec PyProof.Rows L2 Evl Gx
section
variable {P : Program} {w : World} {K : PySem.W.Frag} {mg : Str → Option Value} {base : Heap} {Z : Ads}
def t_is_small_letter (K : PySem.W.Frag) (Z : Ads)  : TS :=
    (tRet (tChain gLe gLe (tC (.str "a")) (tVar 0) (tC (.str "z"))))
theorem d_is_small_letter {f : Addr} {cdv : Value} {A : Around} {outer : List Env} {s : Shared} {H : Hp} {E : XK}   (hr : Room 0 (A.deeper (envOfC "is_small_letter" (defScope s_is_small_letter) s.heap.objs.size f cdv))) :
  PSs (cxOf CX0 P w K mg base ["sign"] "is_small_letter" (defScope s_is_small_letter) f cdv A outer s H E).nox (defBody s_is_small_letter) (t_is_small_letter K Z ) :=
    (pss_one (ps_ret (pe_chain op_gLe op_gLe pe_str (pv 0) pe_str)))

def t_is_name (K : PySem.W.Frag) (Z : Ads) (v_LONGEST_NAME : V) (v_TAKEN_WORDS : V) : TS :=
    (tSeq (tIfS (tOr (tNot (tB (tCB (gIsi K) (tCons (tVar 0) (tCons (tC (.ty "str")) tNil))))) (tNot (tTest (tChain gLe gLe (tC (.int 1)) (tCB (gLen K) (tCons (tVar 0) tNil)) (tC v_LONGEST_NAME))))) (tRet (tC (.bl false))) tNext)
    (tRet (tAndV (tOp (gNi K) (tVar 0) (tC v_TAKEN_WORDS)) (tCB (rAll K) (tCons (tLc (iStr (tVar 0)) (gName 1) tYes (tCall (sp_is_small_letter K) [] E0 (tCons (tVar 1) tNil)) [1]) tNil)))))
theorem d_is_name {f : Addr} {cdv : Value} {A : Around} {outer : List Env} {s : Shared} {H : Hp} {E : XK} {v_LONGEST_NAME : V} {v_TAKEN_WORDS : V} (C_is_small_letter : Cal P w K mg base CX0 1 "is_small_letter" ["sign"] [] (sp_is_small_letter K)) {u_LONGEST_NAME : Value} (m_LONGEST_NAME : mg "LONGEST_NAME" = some u_LONGEST_NAME) (r_LONGEST_NAME : RelV v_LONGEST_NAME u_LONGEST_NAME) {u_TAKEN_WORDS : Value} (m_TAKEN_WORDS : mg "TAKEN_WORDS" = some u_TAKEN_WORDS) (r_TAKEN_WORDS : RelV v_TAKEN_WORDS u_TAKEN_WORDS) (n_all : mg "all" = none) (n_isinstance : mg "isinstance" = none) (n_len : mg "len" = none) (n_str : mg "str" = none) (hr : Room 1 (A.deeper (envOfC "is_name" (defScope s_is_name) s.heap.objs.size f cdv))) :
  PSs (cxOf CX0 P w K mg base ["thing", "sign"] "is_name" (defScope s_is_name) f cdv A outer s H E).nox (defBody s_is_name) (t_is_name K Z v_LONGEST_NAME v_TAKEN_WORDS) :=
    (pss_cons (ps_if (PW.pt (pw_or (pt_not (pt_val (pe_callB call_gIsi (by rfl) n_isinstance (by decide +kernel) (pa_cons (pv 0) (pa_cons (pe_bltn (v := .ty "str") (by rfl) n_str (by decide +kernel) rfl) pa_nil))))) (pw_or1 (pt_not (pt_chain op_gLe op_gLe pe_int (pe_callB call_gLen (by rfl) n_len (by decide +kernel) (pa_cons (pv 0) pa_nil)) (pe_glob (by rfl) m_LONGEST_NAME r_LONGEST_NAME)))))) (pss_one (ps_ret pe_bl)) pss_nil)
    (pss_one (ps_ret (pe_and (pe_cmpR op_gNi (pv 0) (pe_glob (by rfl) m_TAKEN_WORDS r_TAKEN_WORDS) (by rfl)) (pe_one (pe_callB (cr_all rfl) (by rfl) n_all (by decide +kernel) (pa_cons (pe_lc (own := [("sign", 1)]) (g := gName 1) (tt := tYes) rfl sc_is_name.nd (pi_str (pv 0)) (blkOk_by (own := [("sign", 1)]) (N := ["thing", "sign"]) (sc := defScope s_is_name) (by decide +kernel)) (fun _ _ _ _ _ => pg_name (i := 1) sc_is_name.nd rfl (Or.inl rfl)) (fun _ _ _ _ _ => pts_nil) (fun _ _ _ _ _ => (pe_cal C_is_small_letter (hr.mono (by decide)) (by rfl) pass0 (pa_cons (pv 1) pa_nil)))) pa_nil)))))))

def t_is_names (K : PySem.W.Frag) (Z : Ads)  : TS :=
    (tSeq (tIfS (tOr (tNot (tB (tCB (gIsi K) (tCons (tVar 0) (tCons (tTup (tCons (tC (.ty "list")) (tCons (tC (.ty "tuple")) tNil))) tNil))))) (tTest (tOp gGt (tCB (gLen K) (tCons (tVar 0) tNil)) (tVar 1)))) (tRet (tC (.bl false))) tNext)
    (tRet (tAndV (tCB (rAll K) (tCons (tLc (iOr (iList K (tVar 0)) (iTup K (tVar 0))) (gName 2) tYes (tCall (sp_is_name K) [] E0 (tCons (tVar 2) tNil)) [2]) tNil)) (tOp (gEq K) (tLenSetS K (tVar 0)) (tCB (gLen K) (tCons (tVar 0) tNil))))))
theorem d_is_names {f : Addr} {cdv : Value} {A : Around} {outer : List Env} {s : Shared} {H : Hp} {E : XK}  (C_is_name : Cal P w K mg base CX0 2 "is_name" ["thing"] [] (sp_is_name K)) (n_all : mg "all" = none) (n_isinstance : mg "isinstance" = none) (n_len : mg "len" = none) (n_list : mg "list" = none) (n_set : mg "set" = none) (n_tuple : mg "tuple" = none) (hr : Room 2 (A.deeper (envOfC "is_names" (defScope s_is_names) s.heap.objs.size f cdv))) :
  PSs (cxOf CX0 P w K mg base ["thing", "most", "one"] "is_names" (defScope s_is_names) f cdv A outer s H E).nox (defBody s_is_names) (t_is_names K Z ) :=
    (pss_cons (ps_if (PW.pt (pw_or (pt_not (pt_val (pe_callB call_gIsi (by rfl) n_isinstance (by decide +kernel) (pa_cons (pv 0) (pa_cons (pe_tup (pa_cons (pe_bltn (v := .ty "list") (by rfl) n_list (by decide +kernel) rfl) (pa_cons (pe_bltn (v := .ty "tuple") (by rfl) n_tuple (by decide +kernel) rfl) pa_nil))) pa_nil))))) (pw_or1 (pt_cmpR op_gGt (pe_callB call_gLen (by rfl) n_len (by decide +kernel) (pa_cons (pv 0) pa_nil)) (pv 1) (by rfl))))) (pss_one (ps_ret pe_bl)) pss_nil)
    (pss_one (ps_ret (pe_and (pe_callB (cr_all rfl) (by rfl) n_all (by decide +kernel) (pa_cons (pe_lc (own := [("one", 2)]) (g := gName 2) (tt := tYes) rfl sc_is_names.nd (pi_or (pi_list (pv 0)) (pi_tup (pv 0))) (blkOk_by (own := [("one", 2)]) (N := ["thing", "most", "one"]) (sc := defScope s_is_names) (by decide +kernel)) (fun _ _ _ _ _ => pg_name (i := 2) sc_is_names.nd rfl (Or.inl rfl)) (fun _ _ _ _ _ => pts_nil) (fun _ _ _ _ _ => (pe_cal C_is_name (hr.mono (by decide)) (by rfl) pass0 (pa_cons (pv 2) pa_nil)))) pa_nil)) (pe_one (pe_cmpR (op_gEq hr.units) (pe_lenSetS (by rfl) n_len (by rfl) n_set (pv 0)) (pe_callB call_gLen (by rfl) n_len (by decide +kernel) (pa_cons (pv 0) pa_nil)) (by rfl)))))))

def t_Rule___init__ (K : PySem.W.Frag) (Z : Ads) (E : XK) (v_MOST_BODY : V) (v_MOST_UNLESS : V) : TS :=
    (tSeq (tIfS (tAnd (tTest (tOp rNotN (tVar 1) (tC .non))) (tNot (tB (tCall (sp_is_name K) [] E0 (tCons (tVar 1) tNil))))) (tRaiseO Z.BadRule (fun cls d _ H => E cls d H)) tNext)
    (tSeq (tIfS (tNot (tB (tCall (sp_is_names K) [] E0 (tCons (tVar 2) (tCons (tC v_MOST_BODY) tNil))))) (tRaiseO Z.BadRule (fun cls d _ H => E cls d H)) tNext)
    (tSeq (tIfS (tNot (tB (tCall (sp_is_names K) [] E0 (tCons (tVar 3) (tCons (tC v_MOST_UNLESS) tNil))))) (tRaiseO Z.BadRule (fun cls d _ H => E cls d H)) tNext)
    (tSeq (sFld K (tVar 0) (tVar 1) "head")
    (tSeq (sFld K (tVar 0) (tCB (rTupleS K) (tCons (tVar 2) tNil)) "body")
    (sFld K (tVar 0) (tCB (rTupleS K) (tCons (tVar 3) tNil)) "unless"))))))
theorem d_Rule___init__ {f : Addr} {cdv : Value} {A : Around} {outer : List Env} {s : Shared} {H : Hp} {E : XK} {v_MOST_BODY : V} {v_MOST_UNLESS : V} (C_is_name : Cal P w K mg base CX0 2 "is_name" ["thing"] [] (sp_is_name K)) (C_is_names : Cal P w K mg base CX0 3 "is_names" ["thing", "most"] [] (sp_is_names K)) (X_BadRule : ExC K mg "BadRule" Z.BadRule) {u_MOST_BODY : Value} (m_MOST_BODY : mg "MOST_BODY" = some u_MOST_BODY) (r_MOST_BODY : RelV v_MOST_BODY u_MOST_BODY) {u_MOST_UNLESS : Value} (m_MOST_UNLESS : mg "MOST_UNLESS" = some u_MOST_UNLESS) (r_MOST_UNLESS : RelV v_MOST_UNLESS u_MOST_UNLESS) (n_tuple : mg "tuple" = none) (hr : Room 3 (A.deeper (envOfC "Rule.__init__" (defScope s_Rule___init__) s.heap.objs.size f cdv))) :
  PSs (cxOf (L2.CX P w) P w K mg base ["self", "head", "body", "unless"] "Rule.__init__" (defScope s_Rule___init__) f cdv A outer s H E) (defBody s_Rule___init__) (t_Rule___init__ K Z E v_MOST_BODY v_MOST_UNLESS) :=
    (pss_cons (ps_if (PW.pt (pw_and (pt_cmpR op_notN1 (pv 1) pe_non (by rfl)) (pw_and1 (pt_not (pt_val (pe_cal C_is_name (hr.mono (by decide)) (by rfl) pass0 (pa_cons (pv 1) pa_nil))))))) (pss_one (ps_raise rfl (takes_of rfl rfl rfl rfl) (pmk_own PySem.F.excBase_ValueError X_BadRule.x X_BadRule.g X_BadRule.k X_BadRule.r (by exact rfl)))) pss_nil)
    (pss_cons (ps_if (pt_not (pt_val (pe_cal C_is_names (hr.mono (by decide)) (by rfl) pass0 (pa_cons (pv 2) (pa_cons (pe_glob (by rfl) m_MOST_BODY r_MOST_BODY) pa_nil))))) (pss_one (ps_raise rfl (takes_of rfl rfl rfl rfl) (pmk_own PySem.F.excBase_ValueError X_BadRule.x X_BadRule.g X_BadRule.k X_BadRule.r (by exact rfl)))) pss_nil)
    (pss_cons (ps_if (pt_not (pt_val (pe_cal C_is_names (hr.mono (by decide)) (by rfl) pass0 (pa_cons (pv 3) (pa_cons (pe_glob (by rfl) m_MOST_UNLESS r_MOST_UNLESS) pa_nil))))) (pss_one (ps_raise rfl (takes_of rfl rfl rfl rfl) (pmk_own PySem.F.excBase_ValueError X_BadRule.x X_BadRule.g X_BadRule.k X_BadRule.r (by exact rfl)))) pss_nil)
    (pss_cons (ps_fld (pv 0) (pv 1) rfl)
    (pss_cons (ps_fld (pv 0) (pe_callTy call_tuple1 (by rfl) n_tuple (by decide +kernel) (pa_cons (pv 2) pa_nil)) rfl)
    (pss_one (ps_fld (pv 0) (pe_callTy call_tuple1 (by rfl) n_tuple (by decide +kernel) (pa_cons (pv 3) pa_nil)) rfl)))))))

def t_Rule_told (K : PySem.W.Frag) (Z : Ads)  : TS :=
    (tRet (tTup (tCons (tC (.str "rule")) (tCons (tFld K (tVar 0) "head") (tCons (tFld K (tVar 0) "body") (tCons (tFld K (tVar 0) "unless") tNil))))))
theorem d_Rule_told {f : Addr} {cdv : Value} {A : Around} {outer : List Env} {s : Shared} {H : Hp} {E : XK}   (hr : Room 0 (A.deeper (envOfC "Rule.told" (defScope s_Rule_told) s.heap.objs.size f cdv))) :
  PSs (cxOf CX0 P w K mg base ["self"] "Rule.told" (defScope s_Rule_told) f cdv A outer s H E).nox (defBody s_Rule_told) (t_Rule_told K Z ) :=
    (pss_one (ps_ret (pe_tup (pa_cons pe_str (pa_cons (pe_fld (pv 0) rfl) (pa_cons (pe_fld (pv 0) rfl) (pa_cons (pe_fld (pv 0) rfl) pa_nil)))))))

def t_Rule_text (K : PySem.W.Frag) (Z : Ads)  : TS :=
    (tSeq (tAsg (tM1 (rJoin K) (tC (.str ", ")) (tOp (gAdd K) (tCB (Evl.rListS K) (tCons (tFld K (tVar 0) "body") tNil)) (tLc (iTup K (tFld K (tVar 0) "unless")) (gName 2) tYes (tFs [(tC (.str "not ")), (tFmt (tVar 2))]) [2]))) (gName 1))
    (tSeq (tIfS (tTest (tOp rIsN (tFld K (tVar 0) "head") (tC .non))) (tRet (tIf (tTru K (tVar 1)) (tFs [(tC (.str "never ")), (tFmt (tVar 1))]) (tC (.str "never")))) tNext)
    (tRet (tIf (tTru K (tVar 1)) (tFs [(tFmt (tFld K (tVar 0) "head")), (tC (.str " <- ")), (tFmt (tVar 1))]) (tFld K (tVar 0) "head")))))
theorem d_Rule_text {f : Addr} {cdv : Value} {A : Around} {outer : List Env} {s : Shared} {H : Hp} {E : XK}  (n_list : mg "list" = none) (hr : Room 0 (A.deeper (envOfC "Rule.text" (defScope s_Rule_text) s.heap.objs.size f cdv))) :
  PSs (cxOf CX0 P w K mg base ["self", "grounds", "name"] "Rule.text" (defScope s_Rule_text) f cdv A outer s H E).nox (defBody s_Rule_text) (t_Rule_text K Z ) :=
    (pss_cons (ps_set (i := 1) sc_Rule_text.nd rfl (Or.inl rfl) (pe_joinR pe_str (pe_op op_gAdd (pe_callTy call_list1 (by rfl) n_list (by decide +kernel) (pa_cons (pe_fld (pv 0) rfl) pa_nil)) (pe_lc (own := [("name", 2)]) (g := gName 2) (tt := tYes) rfl sc_Rule_text.nd (pi_tup (pe_fld (pv 0) rfl)) (blkOk_by (own := [("name", 2)]) (N := ["self", "grounds", "name"]) (sc := defScope s_Rule_text) (by decide +kernel)) (fun _ _ _ _ _ => pg_name (i := 2) sc_Rule_text.nd rfl (Or.inl rfl)) (fun _ _ _ _ _ => pts_nil) (fun _ _ _ _ _ => (pe_fs (PJ.cons pe_str (PJ.cons (pe_fmt (pv 2)) PJ.nil))))))))
    (pss_cons (ps_if (pt_cmpR op_isN1 (pe_fld (pv 0) rfl) pe_non (by rfl)) (pss_one (ps_ret (pe_ifExp (pt_truth (pv 1) (by intro _; rfl)) (pe_fs (PJ.cons pe_str (PJ.cons (pe_fmt (pv 1)) PJ.nil))) pe_str))) pss_nil)
    (pss_one (ps_ret (pe_ifExp (pt_truth (pv 1) (by intro _; rfl)) (pe_fs (PJ.cons (pe_fmt (pe_fld (pv 0) rfl)) (PJ.cons pe_str (PJ.cons (pe_fmt (pv 1)) PJ.nil)))) (pe_fld (pv 0) rfl))))))

def t_Rule___str__ (K : PySem.W.Frag) (Z : Ads)  : TS :=
    (tRet (tCB rStrS (tCons (tMeth Z.Rule "text" (sp_Rule_text K Z) [] E0 (tVar 0) tNil) tNil)))
theorem d_Rule___str__ {f : Addr} {cdv : Value} {A : Around} {outer : List Env} {s : Shared} {H : Hp} {E : XK}  (T_Rule_text : Met P w K mg base CX0 1 Z.Rule "text" (sp_Rule_text K Z)) (n_str : mg "str" = none) (hr : Room 1 (A.deeper (envOfC "Rule.__str__" (defScope s_Rule___str__) s.heap.objs.size f cdv))) :
  PSs (cxOf CX0 P w K mg base ["self"] "Rule.__str__" (defScope s_Rule___str__) f cdv A outer s H E).nox (defBody s_Rule___str__) (t_Rule___str__ K Z ) :=
    (pss_one (ps_ret (pe_callTy call_strS (by rfl) n_str (by decide +kernel) (pa_cons (pe_met0 T_Rule_text (hr.mono (by decide)) pass0 (pv 0)) pa_nil))))

def t_Rule___eq__ (K : PySem.W.Frag) (Z : Ads)  : TS :=
    (tRet (tAndV (tCB (gIsi K) (tCons (tVar 1) (tCons (tC (.ref Z.Rule)) tNil))) (tAndV (tOp (gEq K) (tFld K (tVar 0) "head") (tFld K (tVar 1) "head")) (tAndV (tOp (gEq K) (tFld K (tVar 0) "body") (tFld K (tVar 1) "body")) (tOp (gEq K) (tFld K (tVar 0) "unless") (tFld K (tVar 1) "unless"))))))
theorem d_Rule___eq__ {f : Addr} {cdv : Value} {A : Around} {outer : List Env} {s : Shared} {H : Hp} {E : XK}  (c_Rule : mg "Rule" = some (.ref Z.Rule)) (n_isinstance : mg "isinstance" = none) (hr : Room 0 (A.deeper (envOfC "Rule.__eq__" (defScope s_Rule___eq__) s.heap.objs.size f cdv))) :
  PSs (cxOf CX0 P w K mg base ["self", "other"] "Rule.__eq__" (defScope s_Rule___eq__) f cdv A outer s H E).nox (defBody s_Rule___eq__) (t_Rule___eq__ K Z ) :=
    (pss_one (ps_ret (pe_and (pe_callB call_gIsi (by rfl) n_isinstance (by decide +kernel) (pa_cons (pv 1) (pa_cons (pe_glob (by rfl) c_Rule rfl) pa_nil))) (pe_and (pe_cmpR (op_gEq hr.units) (pe_fld (pv 0) rfl) (pe_fld (pv 1) rfl) (by rfl)) (pe_and (pe_cmpR (op_gEq hr.units) (pe_fld (pv 0) rfl) (pe_fld (pv 1) rfl) (by rfl)) (pe_one (pe_cmpR (op_gEq hr.units) (pe_fld (pv 0) rfl) (pe_fld (pv 1) rfl) (by rfl))))))))

def t_words_in (K : PySem.W.Frag) (Z : Ads)  : TS :=
    (tSeq (tAsg (CwR.tReplC (CwR.tReplC (tVar 0) "," " , ") "<-" " <- ") (gName 1))
    (tRet (tLc (iList K (tM1 rSplit (tVar 1) (tC (.str " ")))) (gName 2) (tTru K (tVar 2)) (tVar 2) [2])))
theorem d_words_in {f : Addr} {cdv : Value} {A : Around} {outer : List Env} {s : Shared} {H : Hp} {E : XK}   (hr : Room 0 (A.deeper (envOfC "words_in" (defScope s_words_in) s.heap.objs.size f cdv))) :
  PSsT (cxOf CX0 P w K mg base ["row", "parted", "word"] "words_in" (defScope s_words_in) f cdv A outer s H E).nox (defBody s_words_in) (t_words_in K Z ) :=
    (psst_cons (pst_set (i := 1) sc_words_in.nd rfl (Or.inl rfl) (CwR.pet_replT (CwR.pet_replT (CwR.PET.of (pv 0)))))
    (psst_oneS (PST.of (ps_ret (pe_lc (own := [("word", 2)]) (g := gName 2) (tt := _) rfl sc_words_in.nd (pi_list (pe_splitR (pv 1) pe_str)) (blkOk_by (own := [("word", 2)]) (N := ["row", "parted", "word"]) (sc := defScope s_words_in) (by decide +kernel)) (fun _ _ _ _ _ => pg_name (i := 2) sc_words_in.nd rfl (Or.inl rfl)) (fun _ _ _ _ _ => (pts_one (pt_truth (pv 2) (by intro _; rfl)))) (fun _ _ _ _ _ => (pv 2)))))))

def t_parts_of (K : PySem.W.Frag) (Z : Ads)  : TS :=
    (tSeq (tAsg (tLst (tCons (tLst tNil) tNil)) (gName 1))
    (tSeq (tFor (iList K (tVar 0)) (gName 2) (tIfS (tTest (tOp (gEq K) (tVar 2) (tC (.str ",")))) (tDrop (tBM K "list" rAppend (tVar 1) (tCons (tLst tNil) tNil))) (tDrop (tBM K "list" rAppend (tOp (rIx K) (tVar 1) (tUn (rU fun i => .int (-i)) (tC (.int 1)))) (tCons (tVar 2) tNil)))))
    (tRet (tVar 1))))
theorem d_parts_of {f : Addr} {cdv : Value} {A : Around} {outer : List Env} {s : Shared} {H : Hp} {E : XK}   (hr : Room 0 (A.deeper (envOfC "parts_of" (defScope s_parts_of) s.heap.objs.size f cdv))) :
  PSs (cxOf CX0 P w K mg base ["words", "parts", "word"] "parts_of" (defScope s_parts_of) f cdv A outer s H E).nox (defBody s_parts_of) (t_parts_of K Z ) :=
    (pss_cons (ps_set (i := 1) sc_parts_of.nd rfl (Or.inl rfl) (pe_lst (pa_cons (pe_lst pa_nil) pa_nil)))
    (pss_cons (ps_for PassesOwn.never rfl (pi_list (pv 0)) (pg_name (i := 2) sc_parts_of.nd rfl (Or.inl rfl)) (pss_one (ps_if (pt_cmpR (op_gEq hr.units) (pv 2) pe_str (by rfl)) (pss_one (ps_expr (pe_bm PySem.F.plainAttrs_list PySem.F.slot_list_append PySem.F.type_list_append mt_append (pv 1) (pa_cons (pe_lst pa_nil) pa_nil)))) (pss_one (ps_expr (pe_bm PySem.F.plainAttrs_list PySem.F.slot_list_append PySem.F.type_list_append mt_append (pe_ix ix_seq (pv 1) (pe_un un_neg pe_int) (fun _ _ => rfl)) (pa_cons (pv 2) pa_nil)))))))
    (pss_one (ps_ret (pv 1)))))

def t_rule_with (K : PySem.W.Frag) (Z : Ads)  : TS :=
    (tSeq (tAsg (tLst tNil) (gName 2))
    (tSeq (tAsg (tLst tNil) (gName 3))
    (tSeq (tAsg (tIf (tTru K (tVar 1)) (tCall (sp_parts_of K) [] E0 (tCons (tVar 1) tNil)) (tLst tNil)) (gName 4))
    (tSeq (tFor (iList K (tVar 4)) (gName 5) (tIfS (tTest (tOp (gEq K) (tCB (gLen K) (tCons (tVar 5) tNil)) (tC (.int 1)))) (tDrop (tBM K "list" rAppend (tVar 2) (tCons (tOp (rIx K) (tVar 5) (tC (.int 0))) tNil))) (tIfS (tAnd (tTest (tOp (gEq K) (tCB (gLen K) (tCons (tVar 5) tNil)) (tC (.int 2)))) (tTest (tOp (gEq K) (tOp (rIx K) (tVar 5) (tC (.int 0))) (tC (.str "not"))))) (tDrop (tBM K "list" rAppend (tVar 3) (tCons (tOp (rIx K) (tVar 5) (tC (.int 1))) tNil))) (tRet (tC .non)))))
    (tTryO K (.ref Z.BadRule) (fun _ _ _ _ => False) (fun W => (tRet (tMk Z.Rule 2 1 (sp_Rule___init__ K Z) (g_Rule_2_unless Z) (WE W) (tCons (tVar 0) (tCons (tVar 2) tNil)) (tCons (tVar 3) tNil)))) (fun a cls d => (tRet (tC .non))))))))
theorem d_rule_with {f : Addr} {cdv : Value} {A : Around} {outer : List Env} {s : Shared} {H : Hp} {E : XK}  (C_parts_of : Cal P w K mg base CX0 1 "parts_of" ["words"] [] (sp_parts_of K)) (c_BadRule : mg "BadRule" = some (.ref Z.BadRule)) (M_Rule_2_unless : Ctor P w K mg base (L2.CX P w) 4 "Rule" Z.Rule 2 ["unless"] (g_Rule_2_unless Z) (sp_Rule___init__ K Z)) (n_len : mg "len" = none) (hr : Room 5 (A.deeper (envOfC "rule_with" (defScope s_rule_with) s.heap.objs.size f cdv))) :
  PSs (cxOf CX0 P w K mg base ["head", "words", "body", "unless", "parts", "part"] "rule_with" (defScope s_rule_with) f cdv A outer s H E).nox (defBody s_rule_with) (t_rule_with K Z ) :=
    (pss_cons (ps_set (i := 2) sc_rule_with.nd rfl (Or.inl rfl) (pe_lst pa_nil))
    (pss_cons (ps_set (i := 3) sc_rule_with.nd rfl (Or.inl rfl) (pe_lst pa_nil))
    (pss_cons (ps_set (i := 4) sc_rule_with.nd rfl (Or.inl rfl) (pe_ifExp (pt_truth (pv 1) (by intro _; rfl)) (pe_cal C_parts_of (hr.mono (by decide)) (by rfl) pass0 (pa_cons (pv 1) pa_nil)) (pe_lst pa_nil)))
    (pss_cons (ps_for PassesOwn.never rfl (pi_list (pv 4)) (pg_name (i := 5) sc_rule_with.nd rfl (Or.inl rfl)) (pss_one (ps_if (pt_cmpR (op_gEq hr.units) (pe_callB call_gLen (by rfl) n_len (by decide +kernel) (pa_cons (pv 5) pa_nil)) pe_int (by rfl)) (pss_one (ps_expr (pe_bm PySem.F.plainAttrs_list PySem.F.slot_list_append PySem.F.type_list_append mt_append (pv 2) (pa_cons (pe_ix ix_seq (pv 5) pe_int (fun _ _ => rfl)) pa_nil)))) (pss_one (ps_if (PW.pt (pw_and (pt_cmpR (op_gEq hr.units) (pe_callB call_gLen (by rfl) n_len (by decide +kernel) (pa_cons (pv 5) pa_nil)) pe_int (by rfl)) (pw_and1 (pt_cmpR (op_gEq hr.units) (pe_ix ix_seq (pv 5) pe_int (fun _ _ => rfl)) pe_str (by rfl))))) (pss_one (ps_expr (pe_bm PySem.F.plainAttrs_list PySem.F.slot_list_append PySem.F.type_list_append mt_append (pv 3) (pa_cons (pe_ix ix_seq (pv 5) pe_int (fun _ _ => rfl)) pa_nil)))) (pss_one (ps_ret pe_non)))))))
    (pss_one (ps_try_only rfl rfl ⟨by rfl, by decide, .inl c_BadRule⟩ takesF (fun W q ex tk pno => (pss_one (ps_ret (pe_ctor (ks := ["unless"]) M_Rule_2_unless (hr.mono (by decide)) (by rfl) (fun σ => passAt tk σ) (pa_cons (pv 0) (pa_cons (pv 2) pa_nil)) (pk_cons (pv 3) pk_nil))))) (fun a u cls d q hz hf => (pss_one (ps_ret pe_non)))))))))

def t_rule_in (K : PySem.W.Frag) (Z : Ads)  : TS :=
    (tSeq (tIfS (tNot (tTru K (tVar 0))) (tRet (tC .non)) tNext)
    (tSeq (tIfS (tTest (tOp (gEq K) (tOp (rIx K) (tVar 0) (tC (.int 0))) (tC (.str "never")))) (tRet (tCall (sp_rule_with K Z) [] E0 (tCons (tC .non) (tCons (tSl (gSl K) (tVar 0) (tPart (tC (.int 1))) tNoPart) tNil)))) tNext)
    (tSeq (tIfS (tTest (tOp (gEq K) (tCB (gLen K) (tCons (tVar 0) tNil)) (tC (.int 1)))) (tRet (tCall (sp_rule_with K Z) [] E0 (tCons (tOp (rIx K) (tVar 0) (tC (.int 0))) (tCons (tLst tNil) tNil)))) tNext)
    (tRet (tIf (tAnd (tTest (tOp (gEq K) (tOp (rIx K) (tVar 0) (tC (.int 1))) (tC (.str "<-")))) (tTest (tOp gGt (tCB (gLen K) (tCons (tVar 0) tNil)) (tC (.int 2))))) (tCall (sp_rule_with K Z) [] E0 (tCons (tOp (rIx K) (tVar 0) (tC (.int 0))) (tCons (tSl (gSl K) (tVar 0) (tPart (tC (.int 2))) tNoPart) tNil))) (tC .non))))))
theorem d_rule_in {f : Addr} {cdv : Value} {A : Around} {outer : List Env} {s : Shared} {H : Hp} {E : XK}  (C_rule_with : Cal P w K mg base CX0 6 "rule_with" ["head", "words"] [] (sp_rule_with K Z)) (n_len : mg "len" = none) (hr : Room 6 (A.deeper (envOfC "rule_in" (defScope s_rule_in) s.heap.objs.size f cdv))) :
  PSs (cxOf CX0 P w K mg base ["words"] "rule_in" (defScope s_rule_in) f cdv A outer s H E).nox (defBody s_rule_in) (t_rule_in K Z ) :=
    (pss_cons (ps_if (pt_not (pt_truth (pv 0) (by intro _; rfl))) (pss_one (ps_ret pe_non)) pss_nil)
    (pss_cons (ps_if (pt_cmpR (op_gEq hr.units) (pe_ix ix_seq (pv 0) pe_int (fun _ _ => rfl)) pe_str (by rfl)) (pss_one (ps_ret (pe_cal C_rule_with (hr.mono (by decide)) (by rfl) pass0 (pa_cons pe_non (pa_cons (pe_slice sl_g (pv 0) (po_some pe_int) po_none) pa_nil))))) pss_nil)
    (pss_cons (ps_if (pt_cmpR (op_gEq hr.units) (pe_callB call_gLen (by rfl) n_len (by decide +kernel) (pa_cons (pv 0) pa_nil)) pe_int (by rfl)) (pss_one (ps_ret (pe_cal C_rule_with (hr.mono (by decide)) (by rfl) pass0 (pa_cons (pe_ix ix_seq (pv 0) pe_int (fun _ _ => rfl)) (pa_cons (pe_lst pa_nil) pa_nil))))) pss_nil)
    (pss_one (ps_ret (pe_ifExp (PW.pt (pw_and (pt_cmpR (op_gEq hr.units) (pe_ix ix_seq (pv 0) pe_int (fun _ _ => rfl)) pe_str (by rfl)) (pw_and1 (pt_cmpR op_gGt (pe_callB call_gLen (by rfl) n_len (by decide +kernel) (pa_cons (pv 0) pa_nil)) pe_int (by rfl))))) (pe_cal C_rule_with (hr.mono (by decide)) (by rfl) pass0 (pa_cons (pe_ix ix_seq (pv 0) pe_int (fun _ _ => rfl)) (pa_cons (pe_slice sl_g (pv 0) (po_some pe_int) po_none) pa_nil))) pe_non))))))

def t_read_rule (K : PySem.W.Frag) (Z : Ads)  : TS :=
    (tSeq (tAsg (tIf (tB (tCB (gIsi K) (tCons (tVar 0) (tCons (tC (.ty "str")) tNil)))) (tCall (sp_rule_in K Z) [] E0 (tCons (tCall (sp_words_in K) [] E0 (tCons (tVar 0) tNil)) tNil)) (tC .non)) (gName 1))
    (tSeq (tIfS (tTest (tOp rIsN (tVar 1) (tC .non))) tDeadS tNext)
    (tRet (tVar 1))))
theorem d_read_rule {f : Addr} {cdv : Value} {A : Around} {outer : List Env} {s : Shared} {H : Hp} {E : XK}  (C_rule_in : Cal P w K mg base CX0 7 "rule_in" ["words"] [] (sp_rule_in K Z)) (CT_words_in : CalT P w K mg base CX0 1 "words_in" ["row"] (sp_words_in K)) (n_isinstance : mg "isinstance" = none) (n_str : mg "str" = none) (hr : Room 7 (A.deeper (envOfC "read_rule" (defScope s_read_rule) s.heap.objs.size f cdv))) :
  PSsT (cxOf CX0 P w K mg base ["text", "rule"] "read_rule" (defScope s_read_rule) f cdv A outer s H E).nox (defBody s_read_rule) (t_read_rule K Z ) :=
    (psst_cons (pst_set (i := 1) sc_read_rule.nd rfl (Or.inl rfl) (pet_ifExp (pt_val (pe_callB call_gIsi (by rfl) n_isinstance (by decide +kernel) (pa_cons (pv 0) (pa_cons (pe_bltn (v := .ty "str") (by rfl) n_str (by decide +kernel) rfl) pa_nil)))) (pet_cal C_rule_in (hr.mono (by decide)) (by rfl) pass0 (pat_cons (pet_calT CT_words_in (hr.mono (by decide)) (by rfl) pass0 (pat_cons (CwR.PET.of (pv 0)) pat_nil)) pat_nil)) (CwR.PET.of pe_non)))
    (psst_cons (PST.of (ps_if (pt_cmpR op_isN1 (pv 1) pe_non (by rfl)) (pss_one ps_dead) pss_nil))
    (psst_oneS (PST.of (ps_ret (pv 1))))))

def t__law_begin (K : PySem.W.Frag) (Z : Ads)  : TS :=
    (tSeq (tAsg (tLc (iList K (tSl (gSl K) (tVar 0) tNoPart (tPart (tC (.int 63))))) (gName 2) tYes (tCB rAbs (tCons (tVar 2) tNil)) [2]) (gName 1))
    (tSeq (tIfS (tTest (tOp (gEq K) (tVar 1) (tLst tNil))) (tAsg (tLst (tCons (tC (.int 7)) tNil)) (gName 1)) tNext)
    (tRet (tLst (tCons (tVar 1) (tCons (tC (.int 0)) (tCons (tC (.int 1)) tNil)))))))
theorem d__law_begin {f : Addr} {cdv : Value} {A : Around} {outer : List Env} {s : Shared} {H : Hp} {E : XK}  (n_abs : mg "abs" = none) (hr : Room 0 (A.deeper (envOfC "_law_begin" (defScope s__law_begin) s.heap.objs.size f cdv))) :
  PSs (cxOf CX0 P w K mg base ["script", "cells", "cell"] "_law_begin" (defScope s__law_begin) f cdv A outer s H E).nox (defBody s__law_begin) (t__law_begin K Z ) :=
    (pss_cons (ps_setLc (i := 1) (own := [("cell", 2)]) (g := gName 2) (tt := tYes) rfl sc__law_begin.nd rfl rfl (sw_true rfl rfl rfl (by decide +kernel)) (pi_list (pe_slice sl_g (pv 0) po_none (po_some pe_int))) (blkOk_by (own := [("cell", 2)]) (N := ["script", "cells", "cell"]) (sc := defScope s__law_begin) (by decide +kernel)) (fun _ _ _ _ _ => pg_name (i := 2) sc__law_begin.nd rfl (Or.inl rfl)) (fun _ _ _ _ _ => pts_nil) (fun _ _ _ _ _ => (pe_callB call_abs1 (by rfl) n_abs (by decide +kernel) (pa_cons (pv 2) pa_nil))))
    (pss_cons (ps_if (pt_cmpR (op_gEq hr.units) (pv 1) (pe_lst pa_nil) (by rfl)) (pss_one (ps_set (i := 1) sc__law_begin.nd rfl (Or.inl rfl) (pe_lst (pa_cons pe_int pa_nil)))) pss_nil)
    (pss_one (ps_ret (pe_lst (pa_cons (pv 1) (pa_cons pe_int (pa_cons pe_int pa_nil))))))))

def t__law_take (K : PySem.W.Frag) (Z : Ads)  : TS :=
    (tSeq (tAsg (tOp (rIx K) (tVar 0) (tC (.int 0))) (gName 2))
    (tSeq (tAsg (tOp (rI (fun _ j => 0 < j) fun i j => .int (i % j)) (tOp (rIx K) (tVar 0) (tC (.int 1))) (tCB (gLen K) (tCons (tVar 2) tNil))) (gName 3))
    (tSeq (tAsg (tOp (rIx K) (tVar 2) (tVar 3)) (gName 4))
    (tSeq (tIfS (tTest (tOp gGe (tVar 4) (tOp (rI CPow fun i j => .int (i ^ j.toNat)) (tC (.int 10)) (tC (.int 18))))) (tSeq (tAsg (tOp (rI CDivW fun i j => .int (i / j)) (tVar 4) (tVar 1)) (gSub (tVar 2) (tVar 3) rSetL))
    (tRet (tOp (rI (fun _ j => 0 < j) fun i j => .int (i % j)) (tVar 4) (tVar 1)))) tNext)
    (tSeq (tAsg (tOp (gAdd K) (tOp (rIx K) (tVar 0) (tC (.int 1))) (tC (.int 1))) (gSub (tVar 0) (tC (.int 1)) rSetL))
    (tSeq (tAsg (tOp (rI (fun _ j => 0 < j) fun i j => .int (i % j)) (tOp (gAdd K) (tOp (gAdd K) (tOp gMul (tOp (rIx K) (tVar 0) (tC (.int 2))) (tC (.int 48271))) (tVar 4)) (tC (.int 12345))) (tC (.int 2147483647))) (gSub (tVar 0) (tC (.int 2)) rSetL))
    (tRet (tOp (rI (fun _ j => 0 < j) fun i j => .int (i % j)) (tOp (rI CDivW fun i j => .int (i / j)) (tOp (rI (fun _ j => 0 < j) fun i j => .int (i % j)) (tOp gMul (tOp (rIx K) (tVar 0) (tC (.int 2))) (tOp (rIx K) (tVar 0) (tC (.int 2)))) (tC (.int 2147483629))) (tC (.int 16))) (tVar 1)))))))))
theorem d__law_take {f : Addr} {cdv : Value} {A : Around} {outer : List Env} {s : Shared} {H : Hp} {E : XK}  (n_len : mg "len" = none) (hr : Room 0 (A.deeper (envOfC "_law_take" (defScope s__law_take) s.heap.objs.size f cdv))) :
  PSs (cxOf CX0 P w K mg base ["draw", "size", "cells", "at", "cell"] "_law_take" (defScope s__law_take) f cdv A outer s H E).nox (defBody s__law_take) (t__law_take K Z ) :=
    (pss_cons (ps_set (i := 2) sc__law_take.nd rfl (Or.inl rfl) (pe_ix ix_seq (pv 0) pe_int (fun _ _ => rfl)))
    (pss_cons (ps_set (i := 3) sc__law_take.nd rfl (Or.inl rfl) (pe_op op_mod (pe_ix ix_seq (pv 0) pe_int (fun _ _ => rfl)) (pe_callB call_gLen (by rfl) n_len (by decide +kernel) (pa_cons (pv 2) pa_nil))))
    (pss_cons (ps_set (i := 4) sc__law_take.nd rfl (Or.inl rfl) (pe_ix ix_seq (pv 2) (pv 3) (fun _ _ => rfl)))
    (pss_cons (ps_if (pt_cmpR op_gGe (pv 4) (pe_op op_pow pe_int pe_int) (by rfl)) (pss_cons (ps_asg (pe_op op_fdivW (pv 4) (pv 1)) (pg_sub (pv 2) (pv 3) set_list))
    (pss_one (ps_ret (pe_op op_mod (pv 4) (pv 1))))) pss_nil)
    (pss_cons (ps_asg (pe_op op_gAdd (pe_ix ix_seq (pv 0) pe_int (fun _ _ => rfl)) pe_int) (pg_sub (pv 0) pe_int set_list))
    (pss_cons (ps_asg (pe_op op_mod (pe_op op_gAdd (pe_op op_gAdd (pe_op op_gMul (pe_ix ix_seq (pv 0) pe_int (fun _ _ => rfl)) pe_int) (pv 4)) pe_int) pe_int) (pg_sub (pv 0) pe_int set_list))
    (pss_one (ps_ret (pe_op op_mod (pe_op op_fdivW (pe_op op_mod (pe_op op_gMul (pe_ix ix_seq (pv 0) pe_int (fun _ _ => rfl)) (pe_ix ix_seq (pv 0) pe_int (fun _ _ => rfl))) pe_int) pe_int) (pv 1))))))))))

def t__law_pick (K : PySem.W.Frag) (Z : Ads)  : TS :=
    (tRet (tOp (rIx K) (tVar 1) (tCall (sp__law_take K) [] E0 (tCons (tVar 0) (tCons (tCB (gLen K) (tCons (tVar 1) tNil)) tNil)))))
theorem d__law_pick {f : Addr} {cdv : Value} {A : Around} {outer : List Env} {s : Shared} {H : Hp} {E : XK}  (C__law_take : Cal P w K mg base CX0 1 "_law_take" ["draw", "size"] [] (sp__law_take K)) (n_len : mg "len" = none) (hr : Room 1 (A.deeper (envOfC "_law_pick" (defScope s__law_pick) s.heap.objs.size f cdv))) :
  PSs (cxOf CX0 P w K mg base ["draw", "some"] "_law_pick" (defScope s__law_pick) f cdv A outer s H E).nox (defBody s__law_pick) (t__law_pick K Z ) :=
    (pss_one (ps_ret (pe_ix ix_seq (pv 1) (pe_cal C__law_take (hr.mono (by decide)) (by rfl) pass0 (pa_cons (pv 0) (pa_cons (pe_callB call_gLen (by rfl) n_len (by decide +kernel) (pa_cons (pv 1) pa_nil)) pa_nil))) (fun _ _ => rfl))))

def t__law_word (K : PySem.W.Frag) (Z : Ads)  : TS :=
    (tSeq (tAsg (tLst (tCons (tC (.str "lot")) (tCons (tC (.str "held")) (tCons (tC (.str "back")) (tCons (tC (.str "by")) (tCons (tC (.str "in")) (tCons (tC (.str "all")) (tCons (tC (.str "some")) (tCons (tC (.str "none")) (tCons (tC (.str "rule")) (tCons (tC (.str "told")) (tCons (tC (.str "rank")) (tCons (tC (.str "nots")) (tCons (tC (.str "a")) (tCons (tC (.str "z")) (tCons (tC (.str "maybe")) tNil)))))))))))))))) (gName 1))
    (tSeq (tIfS (tTest (tOp (gEq K) (tCall (sp__law_take K) [] E0 (tCons (tVar 0) (tCons (tC (.int 4)) tNil))) (tC (.int 0)))) (tRet (tCall (sp__law_pick K) [] E0 (tCons (tVar 0) (tCons (tVar 1) tNil)))) tNext)
    (tSeq (tAsg (tC (.str "")) (gName 2))
    (tSeq (tFor (iRng1 (tCons (tOp (gAdd K) (tC (.int 1)) (tCall (sp__law_take K) [] E0 (tCons (tVar 0) (tCons (tC (.int 8)) tNil)))) tNil)) (gName 3) (tAsg (tOp (gAdd K) (tVar 2) (tOp (rIx K) (tC (.str "abcdefghijklmnopqrstuvwxyz")) (tCall (sp__law_take K) [] E0 (tCons (tVar 0) (tCons (tC (.int 26)) tNil))))) (gName 2)))
    (tSeq (tIfS (tTest (tOp (gIn K) (tVar 2) (tLst (tCons (tC (.str "not")) (tCons (tC (.str "never")) (tCons (tC (.str "may")) tNil)))))) (tRet (tSl (gSl K) (tVar 2) tNoPart (tPart (tUn (rU fun i => .int (-i)) (tC (.int 1)))))) tNext)
    (tRet (tVar 2)))))))
theorem d__law_word {f : Addr} {cdv : Value} {A : Around} {outer : List Env} {s : Shared} {H : Hp} {E : XK}  (C__law_pick : Cal P w K mg base CX0 2 "_law_pick" ["draw", "some"] [] (sp__law_pick K)) (C__law_take : Cal P w K mg base CX0 1 "_law_take" ["draw", "size"] [] (sp__law_take K)) (n_range : mg "range" = none) (hr : Room 2 (A.deeper (envOfC "_law_word" (defScope s__law_word) s.heap.objs.size f cdv))) :
  PSs (cxOf CX0 P w K mg base ["draw", "own", "word", "k"] "_law_word" (defScope s__law_word) f cdv A outer s H E).nox (defBody s__law_word) (t__law_word K Z ) :=
    (pss_cons (ps_set (i := 1) sc__law_word.nd rfl (Or.inl rfl) (pe_lst (pa_cons pe_str (pa_cons pe_str (pa_cons pe_str (pa_cons pe_str (pa_cons pe_str (pa_cons pe_str (pa_cons pe_str (pa_cons pe_str (pa_cons pe_str (pa_cons pe_str (pa_cons pe_str (pa_cons pe_str (pa_cons pe_str (pa_cons pe_str (pa_cons pe_str pa_nil)))))))))))))))))
    (pss_cons (ps_if (pt_cmpR (op_gEq hr.units) (pe_cal C__law_take (hr.mono (by decide)) (by rfl) pass0 (pa_cons (pv 0) (pa_cons pe_int pa_nil))) pe_int (by rfl)) (pss_one (ps_ret (pe_cal C__law_pick (hr.mono (by decide)) (by rfl) pass0 (pa_cons (pv 0) (pa_cons (pv 1) pa_nil))))) pss_nil)
    (pss_cons (ps_set (i := 2) sc__law_word.nd rfl (Or.inl rfl) pe_str)
    (pss_cons (ps_for PassesOwn.never rfl (pi_range1 rfl n_range (pa_cons (pe_op op_gAdd pe_int (pe_cal C__law_take (hr.mono (by decide)) (by rfl) pass0 (pa_cons (pv 0) (pa_cons pe_int pa_nil)))) pa_nil)) (pg_name (i := 3) sc__law_word.nd rfl (Or.inl rfl)) (pss_one (ps_set (i := 2) sc__law_word.nd rfl (Or.inl rfl) (pe_op op_gAdd (pv 2) (pe_ix ix_seq pe_str (pe_cal C__law_take (hr.mono (by decide)) (by rfl) pass0 (pa_cons (pv 0) (pa_cons pe_int pa_nil))) (fun _ _ => rfl))))))
    (pss_cons (ps_if (pt_cmpR op_gIn (pv 2) (pe_lst (pa_cons pe_str (pa_cons pe_str (pa_cons pe_str pa_nil)))) (by rfl)) (pss_one (ps_ret (pe_slice sl_g (pv 2) po_none (po_some (pe_un un_neg pe_int))))) pss_nil)
    (pss_one (ps_ret (pv 2))))))))

def t__law_words (K : PySem.W.Frag) (Z : Ads)  : TS :=
    (tSeq (tAsg (tLst tNil) (gName 2))
    (tSeq (tFor (iRng1 (tCons (tVar 1) tNil)) (gName 3) (tSeq (tAsg (tCall (sp__law_word K) [] E0 (tCons (tVar 0) tNil)) (gName 4))
    (tSeq (tIfS (tTest (tOp (gIn K) (tVar 4) (tVar 2))) (tSeq (tAsg (tOp (gAdd K) (tVar 2) (tLst (tCons (tC (.str "not")) (tCons (tC (.str "never")) (tCons (tC (.str "may")) tNil))))) (gName 5))
    (tAsg (tOp (rIx K) (tLc (iStr (tC (.str "abcdefghijklmnopqrstuvwxyz"))) (gName 6) (tTest (tOp (gNi K) (tOp (gAdd K) (tSl (gSl K) (tVar 4) tNoPart (tPart (tC (.int 7)))) (tVar 6)) (tVar 5))) (tOp (gAdd K) (tSl (gSl K) (tVar 4) tNoPart (tPart (tC (.int 7)))) (tVar 6)) [6]) (tC (.int 0))) (gName 4))) tNext)
    (tDrop (tBM K "list" rAppend (tVar 2) (tCons (tVar 4) tNil))))))
    (tRet (tVar 2))))
theorem d__law_words {f : Addr} {cdv : Value} {A : Around} {outer : List Env} {s : Shared} {H : Hp} {E : XK}  (C__law_word : Cal P w K mg base CX0 3 "_law_word" ["draw"] [] (sp__law_word K)) (n_range : mg "range" = none) (hr : Room 3 (A.deeper (envOfC "_law_words" (defScope s__law_words) s.heap.objs.size f cdv))) :
  PSs (cxOf CX0 P w K mg base ["draw", "many", "found", "k", "word", "taken", "sign"] "_law_words" (defScope s__law_words) f cdv A outer s H E).nox (defBody s__law_words) (t__law_words K Z ) :=
    (pss_cons (ps_set (i := 2) sc__law_words.nd rfl (Or.inl rfl) (pe_lst pa_nil))
    (pss_cons (ps_for PassesOwn.never rfl (pi_range1 rfl n_range (pa_cons (pv 1) pa_nil)) (pg_name (i := 3) sc__law_words.nd rfl (Or.inl rfl)) (pss_cons (ps_set (i := 4) sc__law_words.nd rfl (Or.inr rfl) (pe_cal C__law_word (hr.mono (by decide)) (by rfl) pass0 (pa_cons (pv 0) pa_nil)))
    (pss_cons (ps_if (pt_cmpR op_gIn (pv 4) (pv 2) (by rfl)) (pss_cons (ps_set (i := 5) sc__law_words.nd rfl (Or.inr rfl) (pe_op op_gAdd (pv 2) (pe_lst (pa_cons pe_str (pa_cons pe_str (pa_cons pe_str pa_nil))))))
    (pss_one (ps_set (i := 4) sc__law_words.nd rfl (Or.inr rfl) (pe_ix ix_seq (pe_lc (own := [("sign", 6)]) (g := gName 6) (tt := _) rfl sc__law_words.nd (pi_str pe_str) (blkOk_by (own := [("sign", 6)]) (N := ["draw", "many", "found", "k", "word", "taken", "sign"]) (sc := defScope s__law_words) (by decide +kernel)) (fun _ _ _ _ _ => pg_name (i := 6) sc__law_words.nd rfl (Or.inl rfl)) (fun _ _ _ _ _ => (pts_one (pt_cmpR op_gNi (pe_op op_gAdd (pe_slice sl_g (pv 4) po_none (po_some pe_int)) (pv 6)) (pv 5) (by rfl)))) (fun _ _ _ _ _ => (pe_op op_gAdd (pe_slice sl_g (pv 4) po_none (po_some pe_int)) (pv 6)))) pe_int (fun _ _ => rfl))))) pss_nil)
    (pss_one (ps_expr (pe_bm PySem.F.plainAttrs_list PySem.F.slot_list_append PySem.F.type_list_append mt_append (pv 2) (pa_cons (pv 4) pa_nil)))))))
    (pss_one (ps_ret (pv 2)))))

def t__law_parts (K : PySem.W.Frag) (Z : Ads)  : TS :=
    (tSeq (tAsg (tOp (rIx K) (tLst (tCons (tC .non) (tCons (tOp (rIx K) (tVar 1) (tC (.int 0))) (tCons (tOp (rIx K) (tVar 1) (tC (.int 1))) (tCons (tOp (rIx K) (tVar 1) (tUn (rU fun i => .int (-i)) (tC (.int 1)))) tNil))))) (tCall (sp__law_take K) [] E0 (tCons (tVar 0) (tCons (tC (.int 4)) tNil)))) (gName 2))
    (tSeq (tPar 3 4 (tCons (tCall (sp__law_take K) [] E0 (tCons (tVar 0) (tCons (tCB (gLen K) (tCons (tVar 1) tNil)) tNil))) (tCons (tCall (sp__law_take K) [] E0 (tCons (tVar 0) (tCons (tCB (gLen K) (tCons (tVar 1) tNil)) tNil))) tNil)))
    (tSeq (tAsg (tSl (gSl K) (tOp (gAdd K) (tVar 1) (tVar 1)) (tPart (tVar 3)) (tPart (tOp (gAdd K) (tVar 3) (tCB (gLen K) (tCons (tVar 1) tNil))))) (gName 5))
    (tSeq (tAsg (tRevL K (tSl (gSl K) (tOp (gAdd K) (tVar 1) (tVar 1)) (tPart (tVar 4)) (tPart (tOp (gAdd K) (tVar 4) (tCB (gLen K) (tCons (tVar 1) tNil)))))) (gName 6))
    (tRet (tTup (tCons (tVar 2) (tCons (tCB (rTupleS K) (tCons (tSl (gSl K) (tVar 5) tNoPart (tPart (tCall (sp__law_take K) [] E0 (tCons (tVar 0) (tCons (tC (.int 7)) tNil))))) tNil)) (tCons (tCB (rTupleS K) (tCons (tSl (gSl K) (tVar 6) tNoPart (tPart (tCall (sp__law_take K) [] E0 (tCons (tVar 0) (tCons (tC (.int 5)) tNil))))) tNil)) tNil)))))))))
theorem d__law_parts {f : Addr} {cdv : Value} {A : Around} {outer : List Env} {s : Shared} {H : Hp} {E : XK}  (C__law_take : Cal P w K mg base CX0 1 "_law_take" ["draw", "size"] [] (sp__law_take K)) (n_len : mg "len" = none) (n_tuple : mg "tuple" = none) (hr : Room 1 (A.deeper (envOfC "_law_parts" (defScope s__law_parts) s.heap.objs.size f cdv))) :
  PSs (cxOf CX0 P w K mg base ["draw", "words", "head", "first", "second", "turned", "other"] "_law_parts" (defScope s__law_parts) f cdv A outer s H E).nox (defBody s__law_parts) (t__law_parts K Z ) :=
    (pss_cons (ps_set (i := 2) sc__law_parts.nd rfl (Or.inl rfl) (pe_ix ix_seq (pe_lst (pa_cons pe_non (pa_cons (pe_ix ix_seq (pv 1) pe_int (fun _ _ => rfl)) (pa_cons (pe_ix ix_seq (pv 1) pe_int (fun _ _ => rfl)) (pa_cons (pe_ix ix_seq (pv 1) (pe_un un_neg pe_int) (fun _ _ => rfl)) pa_nil))))) (pe_cal C__law_take (hr.mono (by decide)) (by rfl) pass0 (pa_cons (pv 0) (pa_cons pe_int pa_nil))) (fun _ _ => rfl)))
    (pss_cons (ps_par (i := 3) (j := 4) rfl sc__law_parts.nd rfl rfl (by decide) rfl rfl (pa_cons (pe_cal C__law_take (hr.mono (by decide)) (by rfl) pass0 (pa_cons (pv 0) (pa_cons (pe_callB call_gLen (by rfl) n_len (by decide +kernel) (pa_cons (pv 1) pa_nil)) pa_nil))) (pa_cons (pe_cal C__law_take (hr.mono (by decide)) (by rfl) pass0 (pa_cons (pv 0) (pa_cons (pe_callB call_gLen (by rfl) n_len (by decide +kernel) (pa_cons (pv 1) pa_nil)) pa_nil))) pa_nil)) (by rfl))
    (pss_cons (ps_set (i := 5) sc__law_parts.nd rfl (Or.inl rfl) (pe_slice sl_g (pe_op op_gAdd (pv 1) (pv 1)) (po_some (pv 3)) (po_some (pe_op op_gAdd (pv 3) (pe_callB call_gLen (by rfl) n_len (by decide +kernel) (pa_cons (pv 1) pa_nil))))))
    (pss_cons (ps_set (i := 6) sc__law_parts.nd rfl (Or.inl rfl) (pe_revL (pe_slice sl_g (pe_op op_gAdd (pv 1) (pv 1)) (po_some (pv 4)) (po_some (pe_op op_gAdd (pv 4) (pe_callB call_gLen (by rfl) n_len (by decide +kernel) (pa_cons (pv 1) pa_nil)))))))
    (pss_one (ps_ret (pe_tup (pa_cons (pv 2) (pa_cons (pe_callTy call_tuple1 (by rfl) n_tuple (by decide +kernel) (pa_cons (pe_slice sl_g (pv 5) po_none (po_some (pe_cal C__law_take (hr.mono (by decide)) (by rfl) pass0 (pa_cons (pv 0) (pa_cons pe_int pa_nil))))) pa_nil)) (pa_cons (pe_callTy call_tuple1 (by rfl) n_tuple (by decide +kernel) (pa_cons (pe_slice sl_g (pv 6) po_none (po_some (pe_cal C__law_take (hr.mono (by decide)) (by rfl) pass0 (pa_cons (pv 0) (pa_cons pe_int pa_nil))))) pa_nil)) pa_nil))))))))))

def t__law_text (K : PySem.W.Frag) (Z : Ads)  : TS :=
    (tSeq (tAsg (tOp (gAdd K) (tCB (Evl.rListS K) (tCons (tOp (rIx K) (tVar 0) (tC (.int 1))) tNil)) (tLc (iTup K (tOp (rIx K) (tVar 0) (tC (.int 2)))) (gName 2) tYes (tOp (gAdd K) (tC (.str "not ")) (tVar 2)) [2])) (gName 1))
    (tSeq (tIfS (tTest (tOp rIsN (tOp (rIx K) (tVar 0) (tC (.int 0))) (tC .non))) (tRet (tM1 (rJoin K) (tC (.str " ")) (tOp (gAdd K) (tLst (tCons (tC (.str "never")) tNil)) (tSl (gSl K) (tLst (tCons (tM1 (rJoin K) (tC (.str ", ")) (tVar 1)) tNil)) tNoPart (tPart (tCB (gLen K) (tCons (tVar 1) tNil))))))) tNext)
    (tRet (tM1 (rJoin K) (tC (.str " <- ")) (tOp (gAdd K) (tLst (tCons (tOp (rIx K) (tVar 0) (tC (.int 0))) tNil)) (tSl (gSl K) (tLst (tCons (tM1 (rJoin K) (tC (.str ", ")) (tVar 1)) tNil)) tNoPart (tPart (tCB (gLen K) (tCons (tVar 1) tNil)))))))))
theorem d__law_text {f : Addr} {cdv : Value} {A : Around} {outer : List Env} {s : Shared} {H : Hp} {E : XK}  (n_len : mg "len" = none) (n_list : mg "list" = none) (hr : Room 0 (A.deeper (envOfC "_law_text" (defScope s__law_text) s.heap.objs.size f cdv))) :
  PSs (cxOf CX0 P w K mg base ["parts", "some", "name"] "_law_text" (defScope s__law_text) f cdv A outer s H E).nox (defBody s__law_text) (t__law_text K Z ) :=
    (pss_cons (ps_set (i := 1) sc__law_text.nd rfl (Or.inl rfl) (pe_op op_gAdd (pe_callTy call_list1 (by rfl) n_list (by decide +kernel) (pa_cons (pe_ix ix_seq (pv 0) pe_int (fun _ _ => rfl)) pa_nil)) (pe_lc (own := [("name", 2)]) (g := gName 2) (tt := tYes) rfl sc__law_text.nd (pi_tup (pe_ix ix_seq (pv 0) pe_int (fun _ _ => rfl))) (blkOk_by (own := [("name", 2)]) (N := ["parts", "some", "name"]) (sc := defScope s__law_text) (by decide +kernel)) (fun _ _ _ _ _ => pg_name (i := 2) sc__law_text.nd rfl (Or.inl rfl)) (fun _ _ _ _ _ => pts_nil) (fun _ _ _ _ _ => (pe_op op_gAdd pe_str (pv 2))))))
    (pss_cons (ps_if (pt_cmpR op_isN1 (pe_ix ix_seq (pv 0) pe_int (fun _ _ => rfl)) pe_non (by rfl)) (pss_one (ps_ret (pe_joinR pe_str (pe_op op_gAdd (pe_lst (pa_cons pe_str pa_nil)) (pe_slice sl_g (pe_lst (pa_cons (pe_joinR pe_str (pv 1)) pa_nil)) po_none (po_some (pe_callB call_gLen (by rfl) n_len (by decide +kernel) (pa_cons (pv 1) pa_nil)))))))) pss_nil)
    (pss_one (ps_ret (pe_joinR pe_str (pe_op op_gAdd (pe_lst (pa_cons (pe_ix ix_seq (pv 0) pe_int (fun _ _ => rfl)) pa_nil)) (pe_slice sl_g (pe_lst (pa_cons (pe_joinR pe_str (pv 1)) pa_nil)) po_none (po_some (pe_callB call_gLen (by rfl) n_len (by decide +kernel) (pa_cons (pv 1) pa_nil))))))))))

def t_law (K : PySem.W.Frag) (Z : Ads)  : TS :=
    (tSeq (tAsg (tCall (sp__law_begin K) [] E0 (tCons (tVar 0) tNil)) (gName 1))
    (tSeq (tFor (iRng1 (tCons (tC (.int 8)) tNil)) (gName 2) (tSeq (tAsg (tCall (sp__law_parts K) [] E0 (tCons (tVar 1) (tCons (tCall (sp__law_words K) [] E0 (tCons (tVar 1) (tCons (tC (.int 7)) tNil))) tNil))) (gName 3))
    (tSeq (tAsg (tMk Z.Rule 2 1 (sp_Rule___init__ K Z) (g_Rule_2_unless Z) (fun _ => E0) (tCons (tOp (rIx K) (tVar 3) (tC (.int 0))) (tCons (tCB (Evl.rListS K) (tCons (tOp (rIx K) (tVar 3) (tC (.int 1))) tNil)) tNil)) (tCons (tCB (Evl.rListS K) (tCons (tOp (rIx K) (tVar 3) (tC (.int 2))) tNil)) tNil)) (gName 4))
    (tSeq (tAsg (tLst (tCons (tMeth Z.Rule "text" (sp_Rule_text K Z) [] E0 (tVar 4) tNil) (tCons (tCB (cOr rStrS (rStrOwn Z.Rule (sp_Rule___str__ K Z) E0)) (tCons (tVar 4) tNil)) tNil))) (gName 5))
    (tSeq (tIfS (tTest (tOp (gNe K) (tVar 5) (tOp gMul (tLst (tCons (tCall (sp__law_text K) [] E0 (tCons (tVar 3) tNil)) tNil)) (tC (.int 2))))) (tRet (tC (.bl false))) tNext)
    (tSeq (tAsg (tCall (sp_read_rule K Z) [] E0 (tCons (tOp (rIx K) (tVar 5) (tC (.int 0))) tNil)) (gName 6))
    (tIfS (tOr (tNot (tB (tCB (gIsi K) (tCons (tVar 6) (tCons (tC (.ref Z.Rule)) tNil))))) (tOr (tNot (tTest (tOp (rOr (gEq K) (rOwnEq K Z.Rule (sp_Rule___eq__ K Z) E0)) (tVar 6) (tVar 4)))) (tTest (tOp (gNe K) (tMeth Z.Rule "told" (sp_Rule_told K Z) [] E0 (tVar 6) tNil) (tOp (gAdd K) (tTup (tCons (tC (.str "rule")) tNil)) (tVar 3)))))) (tRet (tC (.bl false))) tNext)))))))
    (tRet (tOp (rOr (gEq K) (rOwnEq K Z.Rule (sp_Rule___eq__ K Z) E0)) (tLst (tCons (tCB (cOr rStrS (rStrOwn Z.Rule (sp_Rule___str__ K Z) E0)) (tCons (tMk Z.Rule 1 0 (sp_Rule___init__ K Z) (g_Rule_1 Z) (fun _ => E0) (tCons (tC .non) tNil) tNil) tNil)) (tCons (tCB (cOr rStrS (rStrOwn Z.Rule (sp_Rule___str__ K Z) E0)) (tCons (tMk Z.Rule 1 0 (sp_Rule___init__ K Z) (g_Rule_1 Z) (fun _ => E0) (tCons (tC (.str "a")) tNil) tNil) tNil)) tNil))) (tLst (tCons (tC (.str "never")) (tCons (tC (.str "a")) tNil)))))))
theorem d_law {f : Addr} {cdv : Value} {A : Around} {outer : List Env} {s : Shared} {H : Hp} {E : XK}  (C__law_begin : Cal P w K mg base CX0 1 "_law_begin" ["script"] [] (sp__law_begin K)) (C__law_parts : Cal P w K mg base CX0 2 "_law_parts" ["draw", "words"] [] (sp__law_parts K)) (C__law_text : Cal P w K mg base CX0 1 "_law_text" ["parts"] [] (sp__law_text K)) (C__law_words : Cal P w K mg base CX0 4 "_law_words" ["draw", "many"] [] (sp__law_words K)) (CT_read_rule : CalT P w K mg base CX0 8 "read_rule" ["text"] (sp_read_rule K Z)) (c_Rule : mg "Rule" = some (.ref Z.Rule)) (M_Rule_1 : Ctor P w K mg base (L2.CX P w) 4 "Rule" Z.Rule 1 [] (g_Rule_1 Z) (sp_Rule___init__ K Z)) (M_Rule_2_unless : Ctor P w K mg base (L2.CX P w) 4 "Rule" Z.Rule 2 ["unless"] (g_Rule_2_unless Z) (sp_Rule___init__ K Z)) (EQ : EqC P w K mg base CX0 1 Z.Rule (sp_Rule___eq__ K Z)) (T_Rule_text : Met P w K mg base CX0 1 Z.Rule "text" (sp_Rule_text K Z)) (T_Rule_told : Met P w K mg base CX0 1 Z.Rule "told" (sp_Rule_told K Z)) (n_isinstance : mg "isinstance" = none) (n_list : mg "list" = none) (n_range : mg "range" = none) (n_str : mg "str" = none) (S_Rule : StrC P w K mg base CX0 2 Z.Rule (sp_Rule___str__ K Z)) (hr : Room 8 (A.deeper (envOfC "law" (defScope s_law) s.heap.objs.size f cdv))) :
  PSs (cxOf CX0 P w K mg base ["script", "draw", "turn", "parts", "rule", "found", "again"] "law" (defScope s_law) f cdv A outer s H E).nox (defBody s_law) (t_law K Z ) :=
    (pss_cons (ps_set (i := 1) sc_law.nd rfl (Or.inl rfl) (pe_cal C__law_begin (hr.mono (by decide)) (by rfl) pass0 (pa_cons (pv 0) pa_nil)))
    (pss_cons (ps_for PassesOwn.never rfl (pi_range1 rfl n_range (pa_cons pe_int pa_nil)) (pg_name (i := 2) sc_law.nd rfl (Or.inl rfl)) (pss_cons (ps_set (i := 3) sc_law.nd rfl (Or.inl rfl) (pe_cal C__law_parts (hr.mono (by decide)) (by rfl) pass0 (pa_cons (pv 1) (pa_cons (pe_cal C__law_words (hr.mono (by decide)) (by rfl) pass0 (pa_cons (pv 1) (pa_cons pe_int pa_nil))) pa_nil))))
    (pss_cons (ps_set (i := 4) sc_law.nd rfl (Or.inl rfl) (pe_ctor (ks := ["unless"]) M_Rule_2_unless (hr.mono (by decide)) (by rfl) (fun _ => passesAtL) (pa_cons (pe_ix ix_seq (pv 3) pe_int (fun _ _ => rfl)) (pa_cons (pe_callTy call_list1 (by rfl) n_list (by decide +kernel) (pa_cons (pe_ix ix_seq (pv 3) pe_int (fun _ _ => rfl)) pa_nil)) pa_nil)) (pk_cons (pe_callTy call_list1 (by rfl) n_list (by decide +kernel) (pa_cons (pe_ix ix_seq (pv 3) pe_int (fun _ _ => rfl)) pa_nil)) pk_nil)))
    (pss_cons (ps_set (i := 5) sc_law.nd rfl (Or.inl rfl) (pe_lst (pa_cons (pe_met0 T_Rule_text (hr.mono (by decide)) pass0 (pv 4)) (pa_cons (pe_callTy (callOr call_strS (call_strOwn S_Rule (hr.mono (by decide)) pass0)) (by rfl) n_str (by decide +kernel) (pa_cons (pv 4) pa_nil)) pa_nil))))
    (pss_cons (ps_if (pt_cmpR (op_gNe hr.units) (pv 5) (pe_op op_gMul (pe_lst (pa_cons (pe_cal C__law_text (hr.mono (by decide)) (by rfl) pass0 (pa_cons (pv 3) pa_nil)) pa_nil)) pe_int) (by rfl)) (pss_one (ps_ret pe_bl)) pss_nil)
    (pss_cons (ps_set (i := 6) sc_law.nd rfl (Or.inl rfl) (pe_calT1 CT_read_rule (hr.mono (by decide)) (by rfl) pass0 (pe1_ix ix_seq (pv 5) pe1_int (fun _ _ => rfl))))
    (pss_one (ps_if (PW.pt (pw_or (pt_not (pt_val (pe_callB call_gIsi (by rfl) n_isinstance (by decide +kernel) (pa_cons (pv 6) (pa_cons (pe_glob (by rfl) c_Rule rfl) pa_nil))))) (pw_or (pt_not (pt_cmpR (opOr (op_gEq hr.units) (op_ownEq EQ (hr.mono (by decide)) pass0)) (pv 6) (pv 4) (by rfl))) (pw_or1 (pt_cmpR (op_gNe hr.units) (pe_met0 T_Rule_told (hr.mono (by decide)) pass0 (pv 6)) (pe_op op_gAdd (pe_tup (pa_cons pe_str pa_nil)) (pv 3)) (by rfl)))))) (pss_one (ps_ret pe_bl)) pss_nil))))))))
    (pss_one (ps_ret (pe_cmpR (opOr (op_gEq hr.units) (op_ownEq EQ (hr.mono (by decide)) pass0)) (pe_lst (pa_cons (pe_callTy (callOr call_strS (call_strOwn S_Rule (hr.mono (by decide)) pass0)) (by rfl) n_str (by decide +kernel) (pa_cons (pe_ctor (ks := []) M_Rule_1 (hr.mono (by decide)) (by rfl) (fun _ => passesAtL) (pa_cons pe_non pa_nil) pk_nil) pa_nil)) (pa_cons (pe_callTy (callOr call_strS (call_strOwn S_Rule (hr.mono (by decide)) pass0)) (by rfl) n_str (by decide +kernel) (pa_cons (pe_ctor (ks := []) M_Rule_1 (hr.mono (by decide)) (by rfl) (fun _ => passesAtL) (pa_cons pe_str pa_nil) pk_nil) pa_nil)) pa_nil))) (pe_lst (pa_cons pe_str (pa_cons pe_str pa_nil))) (by rfl))))))

end
end K04

set_option maxHeartbeats 800000
namespace K04
open PySem PySem.Spec PyProof.Rows L2 Evl Gx
local macro_rules | `(tactic| walk_at "get") => `(tactic| first
  | assumption
  | exact upd_same
  | ((with_reducible refine sq_l ?_); walk_at "get")
  | ((with_reducible refine sq_t ?_); walk_at "get")
  | ((with_reducible refine ex_l (by assumption) ?_); walk_at "get")
  | ((with_reducible refine ex_t (by assumption) ?_); walk_at "get")
  | ((with_reducible refine Draw.ex (by assumption) ?_); walk_at "get")
  | ((with_reducible refine Arg.ex (by assumption) ?_); walk_at "get")
  | ((with_reducible refine IsRule.ex (by assumption) ?_); walk_at "get")
  | ((with_reducible refine Thing.ex (by assumption) ?_); walk_at "get")
  | ((with_reducible refine exget (by assumption) ?_); walk_at "get"))
local macro_rules | `(tactic| walk_at "rd1") => `(tactic| first
  | (with_reducible refine c_seq ?_)
  | (with_reducible refine c_next ?_)
  | (with_reducible refine c_drop ?_)
  | (with_reducible refine c_ret ?_)
  | (with_reducible refine c_retN ?_)
  | (with_reducible refine c_ifs ?_)
  | (with_reducible refine c_c ?_)
  | (with_reducible refine c_op ?_)
  | (with_reducible refine c_un ?_)
  | (with_reducible refine c_cb ?_)
  | (with_reducible refine c_nil ?_)
  | (with_reducible refine c_cons ?_)
  | (with_reducible refine c_call ?_)
  | (with_reducible refine c_callK ?_)
  | (with_reducible refine c_test ?_)
  | (with_reducible refine c_tB ?_)
  | (with_reducible refine c_and ?_)
  | (with_reducible refine c_or ?_)
  | (with_reducible refine c_not ?_)
  | (with_reducible refine c_andV ?_)
  | (with_reducible refine c_orV ?_)
  | (with_reducible refine c_notV ?_)
  | (with_reducible refine c_if ?_)
  | (with_reducible refine c_chain ?_)
  | (with_reducible refine c_sl ?_)
  | (with_reducible refine c_nop ?_)
  | (with_reducible refine c_part ?_)
  | (with_reducible refine c_lst ?_)
  | (with_reducible refine c_tup ?_)
  | (with_reducible refine c_bl ?_)
  | (with_reducible refine c_blP ?_)
  | (with_reducible refine c_parti ?_)
  | (with_reducible refine c_t ?_)
  | (with_reducible refine c_f ?_)
  | (with_reducible refine g_add_i ?_)
  | (with_reducible refine g_sub_i ?_)
  | (with_reducible refine g_neg ?_)
  | (with_reducible refine g_eq_i ?_)
  | (with_reducible refine g_eq_st ?_)
  | (with_reducible refine g_eq_b ?_)
  | (with_reducible refine g_ne_i ?_)
  | (with_reducible refine g_ne_st ?_)
  | (with_reducible refine g_ne_b ?_)
  | (with_reducible refine g_lt_i ?_)
  | (with_reducible refine g_le_i ?_)
  | (with_reducible refine g_gt_i ?_)
  | (with_reducible refine g_ge_i ?_)
  | (with_reducible refine g_le_s ?_)
  | (with_reducible refine g_in_s ?_)
  | (with_reducible refine g_ni_s ?_)
  | (with_reducible refine c_brk ?_)
  | (with_reducible refine c_cont ?_)
  | (with_reducible refine c_for ?_)
  | (with_reducible refine c_lcW ?_)
  | (with_reducible refine c_iList ?_)
  | (with_reducible refine c_iTup ?_)
  | (with_reducible refine c_iStr ?_)
  | (with_reducible refine c_iRng1 ?_)
  | (with_reducible refine c_iS ?_)
  | (with_reducible refine c_yes ?_)
  | (with_reducible refine c_sub ?_)
  | (with_reducible refine c_pair ?_)
  | (with_reducible refine c_pnil ?_)
  | (with_reducible refine c_isn ?_)
  | (with_reducible refine c_notn ?_)
  | (with_reducible refine c_sfld ?_)
  | (with_reducible refine c_fld ?_)
  | (with_reducible refine c_raise ?_)
  | (with_reducible refine c_meth0 ?_)
  | (with_reducible refine c_iEnum ?_)
  | (with_reducible refine c_bm ?_)
  | (with_reducible refine c_bm0 ?_)
  | (with_reducible refine c_mk ?_)
  | (with_reducible refine c_try ?_)
  | (with_reducible refine c_iEnumT ?_)
  | (with_reducible refine c_callKS ?_)
  | (with_reducible refine c_tryO ?_)
  | (with_reducible refine c_repl ?_)
  | (with_reducible refine c_fmt ?_)
  | (with_reducible refine c_fs ?_)
  | (with_reducible refine c_jn ?_)
  | (with_reducible refine c_jc ?_)
  | (with_reducible refine c_tru ?_)
  | (with_reducible refine c_m1 ?_)
  | (with_reducible refine c_var0 ?_)
  | (with_reducible refine c_asg0 ?_)
  | (with_reducible refine c_nam0 ?_)
  | (with_reducible refine c_var1 ?_)
  | (with_reducible refine c_asg1 ?_)
  | (with_reducible refine c_nam1 ?_)
  | (with_reducible refine c_var2 ?_)
  | (with_reducible refine c_asg2 ?_)
  | (with_reducible refine c_nam2 ?_)
  | (with_reducible refine c_var3 ?_)
  | (with_reducible refine c_asg3 ?_)
  | (with_reducible refine c_nam3 ?_)
  | (with_reducible refine c_var4 ?_)
  | (with_reducible refine c_asg4 ?_)
  | (with_reducible refine c_nam4 ?_)
  | (with_reducible refine c_var5 ?_)
  | (with_reducible refine c_asg5 ?_)
  | (with_reducible refine c_nam5 ?_)
  | (with_reducible refine c_var6 ?_)
  | (with_reducible refine c_asg6 ?_)
  | (with_reducible refine c_nam6 ?_)
  | (with_reducible refine c_var7 ?_)
  | (with_reducible refine c_asg7 ?_)
  | (with_reducible refine c_nam7 ?_)
  | (with_reducible refine c_var8 ?_)
  | (with_reducible refine c_asg8 ?_)
  | (with_reducible refine c_nam8 ?_)
  | (with_reducible refine c_var9 ?_)
  | (with_reducible refine c_asg9 ?_)
  | (with_reducible refine c_nam9 ?_)
  | (with_reducible refine c_var10 ?_)
  | (with_reducible refine c_asg10 ?_)
  | (with_reducible refine c_nam10 ?_)
  | (with_reducible refine c_var11 ?_)
  | (with_reducible refine c_asg11 ?_)
  | (with_reducible refine c_nam11 ?_)
  | (with_reducible refine c_var12 ?_)
  | (with_reducible refine c_asg12 ?_)
  | (with_reducible refine c_nam12 ?_)
  | (with_reducible refine c_var13 ?_)
  | (with_reducible refine c_asg13 ?_)
  | (with_reducible refine c_nam13 ?_)
  | (with_reducible refine c_var14 ?_)
  | (with_reducible refine c_asg14 ?_)
  | (with_reducible refine c_nam14 ?_)
  | (with_reducible refine c_var15 ?_)
  | (with_reducible refine c_asg15 ?_)
  | (with_reducible refine c_nam15 ?_)
  | (with_reducible refine c_asgG ?_)
  | ((with_reducible refine g_ix_l (xs := ?gxa) (v := ?gxb) ?gx1 ?gx2 ?gx3); (case gx1 => walk_at "get"); (case gx2 => rfl))
  | ((with_reducible refine g_len_l (xs := ?gxa) (.inl ?gx1) ?gx3); (case gx1 => walk_at "get"))
  | ((with_reducible refine g_mod_i ?gx1 ?gx3); (case gx1 => omega)))
local macro_rules | `(tactic| walk_at "rd") => `(tactic| repeat walk_at "rd1")
local macro_rules | `(tactic| walk_at "rs1") => `(tactic| first
  | (with_reducible refine c_next ?_)
  | (with_reducible refine c_drop ?_)
  | (with_reducible refine c_ret ?_)
  | (with_reducible refine c_retN ?_)
  | (with_reducible refine c_ifs ?_)
  | (with_reducible refine c_c ?_)
  | (with_reducible refine c_op ?_)
  | (with_reducible refine c_un ?_)
  | (with_reducible refine c_cb ?_)
  | (with_reducible refine c_nil ?_)
  | (with_reducible refine c_cons ?_)
  | (with_reducible refine c_call ?_)
  | (with_reducible refine c_callK ?_)
  | (with_reducible refine c_test ?_)
  | (with_reducible refine c_tB ?_)
  | (with_reducible refine c_and ?_)
  | (with_reducible refine c_or ?_)
  | (with_reducible refine c_not ?_)
  | (with_reducible refine c_andV ?_)
  | (with_reducible refine c_orV ?_)
  | (with_reducible refine c_notV ?_)
  | (with_reducible refine c_chain ?_)
  | (with_reducible refine c_sl ?_)
  | (with_reducible refine c_nop ?_)
  | (with_reducible refine c_part ?_)
  | (with_reducible refine c_lst ?_)
  | (with_reducible refine c_tup ?_)
  | (with_reducible refine c_bl ?_)
  | (with_reducible refine c_blP ?_)
  | (with_reducible refine c_parti ?_)
  | (with_reducible refine c_t ?_)
  | (with_reducible refine c_f ?_)
  | (with_reducible refine g_add_i ?_)
  | (with_reducible refine g_sub_i ?_)
  | (with_reducible refine g_neg ?_)
  | (with_reducible refine g_eq_i ?_)
  | (with_reducible refine g_eq_st ?_)
  | (with_reducible refine g_eq_b ?_)
  | (with_reducible refine g_ne_i ?_)
  | (with_reducible refine g_ne_st ?_)
  | (with_reducible refine g_ne_b ?_)
  | (with_reducible refine g_lt_i ?_)
  | (with_reducible refine g_le_i ?_)
  | (with_reducible refine g_gt_i ?_)
  | (with_reducible refine g_ge_i ?_)
  | (with_reducible refine g_le_s ?_)
  | (with_reducible refine g_in_s ?_)
  | (with_reducible refine g_ni_s ?_)
  | (with_reducible refine c_brk ?_)
  | (with_reducible refine c_cont ?_)
  | (with_reducible refine c_for ?_)
  | (with_reducible refine c_lcW ?_)
  | (with_reducible refine c_iList ?_)
  | (with_reducible refine c_iTup ?_)
  | (with_reducible refine c_iStr ?_)
  | (with_reducible refine c_iRng1 ?_)
  | (with_reducible refine c_iS ?_)
  | (with_reducible refine c_yes ?_)
  | (with_reducible refine c_sub ?_)
  | (with_reducible refine c_pair ?_)
  | (with_reducible refine c_pnil ?_)
  | (with_reducible refine c_isn ?_)
  | (with_reducible refine c_notn ?_)
  | (with_reducible refine c_sfld ?_)
  | (with_reducible refine c_fld ?_)
  | (with_reducible refine c_raise ?_)
  | (with_reducible refine c_meth0 ?_)
  | (with_reducible refine c_iEnum ?_)
  | (with_reducible refine c_bm ?_)
  | (with_reducible refine c_bm0 ?_)
  | (with_reducible refine c_mk ?_)
  | (with_reducible refine c_try ?_)
  | (with_reducible refine c_iEnumT ?_)
  | (with_reducible refine c_callKS ?_)
  | (with_reducible refine c_tryO ?_)
  | (with_reducible refine c_repl ?_)
  | (with_reducible refine c_fmt ?_)
  | (with_reducible refine c_fs ?_)
  | (with_reducible refine c_jn ?_)
  | (with_reducible refine c_jc ?_)
  | (with_reducible refine c_tru ?_)
  | (with_reducible refine c_m1 ?_)
  | (with_reducible refine c_var0 ?_)
  | (with_reducible refine c_asg0 ?_)
  | (with_reducible refine c_nam0 ?_)
  | (with_reducible refine c_var1 ?_)
  | (with_reducible refine c_asg1 ?_)
  | (with_reducible refine c_nam1 ?_)
  | (with_reducible refine c_var2 ?_)
  | (with_reducible refine c_asg2 ?_)
  | (with_reducible refine c_nam2 ?_)
  | (with_reducible refine c_var3 ?_)
  | (with_reducible refine c_asg3 ?_)
  | (with_reducible refine c_nam3 ?_)
  | (with_reducible refine c_var4 ?_)
  | (with_reducible refine c_asg4 ?_)
  | (with_reducible refine c_nam4 ?_)
  | (with_reducible refine c_var5 ?_)
  | (with_reducible refine c_asg5 ?_)
  | (with_reducible refine c_nam5 ?_)
  | (with_reducible refine c_var6 ?_)
  | (with_reducible refine c_asg6 ?_)
  | (with_reducible refine c_nam6 ?_)
  | (with_reducible refine c_var7 ?_)
  | (with_reducible refine c_asg7 ?_)
  | (with_reducible refine c_nam7 ?_)
  | (with_reducible refine c_var8 ?_)
  | (with_reducible refine c_asg8 ?_)
  | (with_reducible refine c_nam8 ?_)
  | (with_reducible refine c_var9 ?_)
  | (with_reducible refine c_asg9 ?_)
  | (with_reducible refine c_nam9 ?_)
  | (with_reducible refine c_var10 ?_)
  | (with_reducible refine c_asg10 ?_)
  | (with_reducible refine c_nam10 ?_)
  | (with_reducible refine c_var11 ?_)
  | (with_reducible refine c_asg11 ?_)
  | (with_reducible refine c_nam11 ?_)
  | (with_reducible refine c_var12 ?_)
  | (with_reducible refine c_asg12 ?_)
  | (with_reducible refine c_nam12 ?_)
  | (with_reducible refine c_var13 ?_)
  | (with_reducible refine c_asg13 ?_)
  | (with_reducible refine c_nam13 ?_)
  | (with_reducible refine c_var14 ?_)
  | (with_reducible refine c_asg14 ?_)
  | (with_reducible refine c_nam14 ?_)
  | (with_reducible refine c_var15 ?_)
  | (with_reducible refine c_asg15 ?_)
  | (with_reducible refine c_nam15 ?_)
  | (with_reducible refine c_asgG ?_)
  | ((with_reducible refine g_ix_l (xs := ?gxa) (v := ?gxb) ?gx1 ?gx2 ?gx3); (case gx1 => walk_at "get"); (case gx2 => rfl))
  | ((with_reducible refine g_len_l (xs := ?gxa) (.inl ?gx1) ?gx3); (case gx1 => walk_at "get"))
  | ((with_reducible refine g_mod_i ?gx1 ?gx3); (case gx1 => omega)))
local macro_rules | `(tactic| walk_at "rs") => `(tactic| repeat walk_at "rs1")
section
variable {P : Program} {w : World} {K : PySem.W.Frag} {mg : Str → Option Value} {base : Heap} {Z : Ads}
theorem rd_is_small_letter {vs : List V} {H : Hp} {Q : VK} {E : XK} (h : sp_is_small_letter K vs H Q E) : t_is_small_letter K Z { nx := fun _ H' => Q .non H', rt := Q } (start ["sign"] vs) H := by
  obtain ⟨c, rfl, q⟩ := h
  show t_is_small_letter K Z _ [some (.str ⟨#[c]⟩)] H
  unfold t_is_small_letter
  walk_at "rd"
  rw [show (⟨#[c]⟩ : Str).cps.toList = [c] from rfl, lt_a]
  refine c_nd (fun h1 => ?_) (fun h1 => ?_)
  · walk_at "rd"
    rw [show (⟨#[c]⟩ : Str).cps.toList = [c] from rfl, lt_z]
    have e : (!decide (122 < c)) = isLet c := by unfold isLet; rw [Bool.eq_iff_iff]; simp; omega
    rw [e]
    exact q H (Ex.refl H)
  · have e : isLet c = false := by unfold isLet; simp; omega
    have := q H (Ex.refl H)
    rw [e] at this
    exact this
theorem rd_is_name {T : Addr} {vs : List V} {H : Hp} {Q : VK} {E : XK} (hT : ∀ H, SqT K H T (taken.map V.str)) (h : sp_is_name K vs H Q E) : t_is_name K Z (.int 8) (.ref T) { nx := fun _ H' => Q .non H', rt := Q } (start ["thing", "sign"] vs) H := by
  obtain ⟨x, rfl, hx, q⟩ := h
  show t_is_name K Z _ _ _ [some x, none] H
  unfold t_is_name
  walk_at "rd"
  refine g_isi_str hx ?_
  walk_at "rd"
  cases hs : isStr x with
  | false =>
    show if (!false) = true then _ else _
    refine c_2 (fun _ => ?_) (fun h => (by cases h))
    walk_at "rd"
    have e : isNm x = false := by
      cases x with
      | str z => cases hs
      | _ => rfl
    have := q H (Ex.refl H)
    rw [e] at this
    exact this
  | true =>
    obtain ⟨z, rfl⟩ : ∃ z, x = .str z := by
      cases x with
      | str z => exact ⟨z, rfl⟩
      | _ => cases hs
    have hz : z.length ≤ 1000 := hx.1
    have no : ∀ {b : Bool}, nameS z = b → Q (.bl b) H := fun {b} e => by
      have := q H (Ex.refl H)
      rw [show isNm (.str z) = b from e] at this
      exact this
    refine c_2 (fun h => (by cases h)) (fun _ => ?_)
    walk_at "rd"
    refine g_len_s (z := z) (by omega) ?_
    walk_at "rd"
    refine c_d (fun h1 => ?_) (fun h1 => ?_)
    · walk_at "rd"
      refine c_nd (fun h2 => ?_) (fun h2 => ?_)
      · walk_at "rd"
        refine no ?_
        unfold nameS
        rw [decide_eq_false (by omega)]; rfl
      · walk_at "rd"
        refine g_ni_l (.inr (hT H)) rfl (flat_str taken) ?_
        rw [inV_strs]
        walk_at "rd"
        refine c_nd (fun h3 => ?_) (fun h3 => ?_)
        · walk_at "rd"
          refine c_lc walk_str (fun i acc => acc = ((z.cps.toList.take i).map isLet).map V.bl) (σ0 := [some (.str z), none]) rfl (by rw [show z.cps.size = z.length from rfl]; omega) rfl (fun _ _ => trivial) ?_ ?_
          · intro i acc x H2 H3 Q1 Q0 hi hacc e2 hy k1 k0
            obtain ⟨e3, c, hc, rfl⟩ := hy
            subst e3
            walk_at "rd"
            refine ⟨rfl, ?_⟩
            walk_at "rd"
            refine c_issmall (fun H4 e4 => k1 _ _ e4 ?_)
            have hc' : z.cps.toList[i]? = some c := by rw [Array.getElem?_toList]; exact hc
            rw [hacc, List.take_add_one, hc', List.map_append, List.map_append]; rfl
          · intro D H2 xs nD e2 hxs _ hD
            rw [List.take_of_length_le (by rw [len_tl]; exact Nat.le_refl _)] at hxs
            subst hxs
            walk_at "rd"
            refine g_all (sq_l hD) ?_
            rw [all_mapid]
            have := q H2 e2
            rw [show isNm (.str z) = z.cps.toList.all isLet by
              show nameS z = _
              unfold nameS
              rw [decide_eq_true (show 1 ≤ z.length ∧ z.length ≤ 8 by omega), decide_eq_true h3]; simp] at this
            exact this
        · refine no ?_
          unfold nameS
          rw [decide_eq_false (show ¬ z ∉ taken from fun h => h h3)]; simp
    · walk_at "rd"
      refine no ?_
      unfold nameS
      rw [decide_eq_false (by omega)]; rfl
theorem rd_is_names {vs : List V} {H : Hp} {Q : VK} {E : XK} (h : sp_is_names K vs H Q E) : t_is_names K Z { nx := fun _ H' => Q .non H', rt := Q } (start ["thing", "most", "one"] vs) H := by
  obtain ⟨x, m, o, rfl, hx, hm, q⟩ := h
  show t_is_names K Z _ [some x, some (.int (m : Nat)), none] H
  unfold t_is_names
  walk_at "rd"
  refine c_tupE (by simp) (fun p H1 n1 e1 h1 => ?_)
  walk_at "rd"
  refine g_isi_lt h1 (hx.ex e1) ?_
  walk_at "rd"
  cases o with
  | none =>
    refine c_t ?_
    walk_at "rd"
    exact q H1 e1
  | some xs =>
    refine c_f ?_
    have hx1 := hx.ex e1
    obtain ⟨⟨p, rfl, hp⟩, hl, hth⟩ := hx1
    walk_at "rd"
    refine g_len_l hp ?_
    walk_at "rd"
    refine c_d (fun h2 => ?_) (fun h2 => ?_)
    · walk_at "rd"
      have := q H1 e1
      rw [show nmsO (some xs) m = false by rw [nmsO_some]; rw [decide_eq_false (by omega)]; rfl] at this
      exact this
    · walk_at "rd"
      have fin : ∀ D H' ys, H1 D = none → Ex H1 H' → ys = (xs.map isNm).map V.bl → ys.length ≤ xs.length → H' D = some (.lst ys) → 
          tCB (rAll K) (tCons (tC (.ref D)) tNil) [some (.ref p), some (.int (m : Nat)), none] H' (fun x H1 => ∃ c, x = .bl c ∧ if c = true then tOp (gEq K) (tLenSetS K (tVar 0)) (tCB (gLen K) (tCons (tVar 0) tNil)) [some (.ref p), some (.int (m : Nat)), none] H1 Q else Q (.bl false) H1) := by
        intro D H' ys nD e2 hys _ hD
        subst hys
        walk_at "rd"
        refine g_all (sq_l hD) ?_
        rw [all_mapid]
        walk_at "rd"
        cases ha : xs.all isNm with
        | false =>
          refine c_f ?_
          have := q H' (e1.trans e2)
          rw [show nmsO (some xs) m = false by rw [nmsO_some]; rw [ha]; simp] at this
          exact this
        | true =>
          refine c_t ?_
          obtain ⟨ss, rfl, hs⟩ := nms_strs ha
          walk_at "rd"
          have hp' : SqL K H' p (ss.map V.str) ∨ SqT K H' p (ss.map V.str) := hp.elim (fun z => .inl (ex_l e2 z)) (fun z => .inr (ex_t e2 z))
          rw [List.length_map] at hl
          refine ⟨_, rfl, p, ss, rfl, hp', by omega, ?_⟩
          walk_at "rd"
          refine g_len_l hp' ?_
          walk_at "rd"
          have := q H' (e1.trans e2)
          rw [show nmsO (some (ss.map V.str)) m = decide (((metS ss).length : Int) = ((ss.map V.str).length : Int)) by
            rw [nmsO_some, ha, decide_eq_true (by omega), Bool.true_and, Bool.true_and, decide_eq_decide, nodup_strs, ← (metS_len ss.length ss rfl).2, List.length_map]
            omega] at this
          exact this
      have turn : ∀ i acc (y : V) H2 (Q1 : V → Hp → Prop) (Q0 : Hp → Prop), i < xs.length → acc = ((xs.take i).map isNm).map V.bl → Ex H1 H2 → xs[i]? = some y → (∀ z H6, Ex H2 H6 → acc ++ [z] = ((xs.take (i + 1)).map isNm).map V.bl → Q1 z H6) →
          gName 2 y [some (.ref p), some (.int (m : Nat)), none] H2 fun σ2 H4 => wipe σ2 [2] = [some (.ref p), some (.int (m : Nat)), none] ∧ tYes σ2 H4 fun b H5 => if b = true then tCall (sp_is_name K) [] E0 (tCons (tVar 2) tNil) σ2 H5 Q1 else Q0 H5 := by
        intro i acc y H2 Q1 Q0 hi hacc e2 hy k1
        walk_at "rd"
        refine ⟨rfl, ?_⟩
        walk_at "rd"
        refine c_isname ((hth y (List.mem_of_getElem? hy)).ex e2) (fun H4 e4 => k1 _ _ e4 ?_)
        rw [hacc, List.take_add_one, hy, List.map_append, List.map_append]; rfl
      rcases hp with hp | hp
      · refine .inl ?_
        walk_at "rd"
        refine c_iL hp ?_
        exact c_lc walk_list (fun i acc => acc = ((xs.take i).map isNm).map V.bl) (σ0 := [some (.ref p), some (.int (m : Nat)), none]) rfl (by omega) rfl (fun _ e => ex_l e hp) (fun i acc x H2 H3 Q1 Q0 hi ha e2 hy k1 _ => by
          obtain ⟨rfl, hy⟩ := hy
          exact turn i acc x _ Q1 Q0 hi ha e2 hy k1) (fun D H' ys nD e2 hys hl2 hD => fin D H' ys nD e2 (by rw [hys, List.take_length]) hl2 hD)
      · refine .inr ?_
        walk_at "rd"
        refine c_iT hp ?_
        exact c_lc walk_tup (fun i acc => acc = ((xs.take i).map isNm).map V.bl) (σ0 := [some (.ref p), some (.int (m : Nat)), none]) rfl (by omega) rfl (fun _ e => ex_t e hp) (fun i acc x H2 H3 Q1 Q0 hi ha e2 hy k1 _ => by
          obtain ⟨rfl, hy⟩ := hy
          exact turn i acc x _ Q1 Q0 hi ha e2 hy k1) (fun D H' ys nD e2 hys hl2 hD => fin D H' ys nD e2 (by rw [hys, List.take_length]) hl2 hD)
theorem rd_Rule___init__ {vs : List V} {H : Hp} {Q : VK} {E : XK} (R : RuleC K Z.Rule) (h : sp_Rule___init__ K Z vs H Q E) : t_Rule___init__ K Z E (.int 6) (.int 4) { nx := fun _ H' => Q .non H', rt := Q } (start ["self", "head", "body", "unless"] vs) H := by
  obtain ⟨a, dx, h, b, u, ob, ou, rfl, ha, hh, hb, hu, good, bad⟩ := h
  show t_Rule___init__ K Z E _ _ _ [some (.ref a), some h, some b, some u] H
  unfold t_Rule___init__
  walk_at "rd"
  have bad1 : ∀ H', Ex H H' → (decide (h = .non) || isNm h) = false → E (.ref Z.BadRule) none H' := fun H' e g => bad (by unfold goodR; rw [g]; rfl) H' e
  have go : ∀ H1, Ex H H1 → (decide (h = .non) || isNm h) = true → 
      tSeq (tIfS (tNot (tB (tCall (sp_is_names K) [] E0 (tCons (tVar 2) (tCons (tC (.int 6)) tNil))))) (tRaiseO Z.BadRule (fun cls d _ H => E cls d H)) tNext)
    (tSeq (tIfS (tNot (tB (tCall (sp_is_names K) [] E0 (tCons (tVar 3) (tCons (tC (.int 4)) tNil))))) (tRaiseO Z.BadRule (fun cls d _ H => E cls d H)) tNext)
    (tSeq (sFld K (tVar 0) (tVar 1) "head")
    (tSeq (sFld K (tVar 0) (tCB (rTupleS K) (tCons (tVar 2) tNil)) "body")
    (sFld K (tVar 0) (tCB (rTupleS K) (tCons (tVar 3) tNil)) "unless")))) { nx := fun _ H' => Q .non H', rt := Q } [some (.ref a), some h, some b, some u] H1 := by
    intro H1 e1 g1
    walk_at "rd"
    refine ⟨b, 6, ob, rfl, hb.ex e1, by omega, fun H2 e2 => ?_⟩
    walk_at "rd"
    cases g2 : nmsO ob 6 with
    | false =>
      refine c_t ?_
      walk_at "rd"
      exact bad (by unfold goodR; rw [g2]; simp) H2 (e1.trans e2)
    | true =>
      refine c_f ?_
      walk_at "rd"
      refine ⟨u, 4, ou, rfl, hu.ex (e1.trans e2), by omega, fun H3 e3 => ?_⟩
      walk_at "rd"
      cases g3 : nmsO ou 4 with
      | false =>
        refine c_t ?_
        walk_at "rd"
        exact bad (by unfold goodR; rw [g3]; simp) H3 (e1.trans (e2.trans e3))
      | true =>
        refine c_f ?_
        walk_at "rd"
        have t3 := e1.trans (e2.trans e3)
        obtain ⟨bs, rfl⟩ : ∃ bs, ob = some bs := by
          cases ob with
          | none => cases g2
          | some bs => exact ⟨bs, rfl⟩
        obtain ⟨us, rfl⟩ : ∃ us, ou = some us := by
          cases ou with
          | none => cases g3
          | some us => exact ⟨us, rfl⟩
        obtain ⟨⟨pb, rfl, hpb⟩, -, -⟩ := hb.ex t3
        obtain ⟨⟨pu, rfl, hpu⟩, -, -⟩ := hu.ex t3
        have ha3 := t3 _ _ ha
        refine g_sfld ha3 R.cls R.nh (by simp) (fun H4 e4 ha4 => ?_)
        have ha4' : H4 a = some (.ins Z.Rule dx [("head", h)]) := ha4
        walk_at "rd"
        have hpb4 : SqL K H4 pb bs ∨ SqT K H4 pb bs := hpb.elim (fun q => .inl (sqL_exb ha3 e4 q)) (fun q => .inr (sqT_exb ha3 e4 q))
        refine g_tupleS hpb4 (fun r H5 e5 h5 => ?_)
        walk_at "rd"
        have ha5 := e5 _ _ ha4'
        refine g_sfld ha5 R.cls R.nb (by simp) (fun H6 e6 ha6 => ?_)
        have ha6' : H6 a = some (.ins Z.Rule dx [("head", h), ("body", .ref r)]) := ha6
        walk_at "rd"
        have hpu6 : SqL K H6 pu us ∨ SqT K H6 pu us := hpu.elim (fun q => .inl (sqL_exb ha5 e6 (ex_l e5 (sqL_exb ha3 e4 q)))) (fun q => .inr (sqT_exb ha5 e6 (ex_t e5 (sqT_exb ha3 e4 q))))
        refine g_tupleS hpu6 (fun r2 H7 e7 h7 => ?_)
        walk_at "rd"
        have ha7 := e7 _ _ ha6'
        refine g_sfld ha7 R.cls R.nu (by simp) (fun H8 e8 ha8 => ?_)
        have ha8' : H8 a = some (.ins Z.Rule dx [("head", h), ("body", .ref r), ("unless", .ref r2)]) := ha8
        refine good (by unfold goodR; rw [g1, g2, g3]; rfl) H8 (fun p o hp ho => ?_) ⟨dx, r, r2, ha8', sqT_exb ha7 e8 (ex_t e7 (sqT_exb ha5 e6 h5)), sqT_exb ha7 e8 h7, g1, g2, g3⟩
        exact e8 _ _ hp (e7 _ _ (e6 _ _ hp (e5 _ _ (e4 _ _ hp (t3 _ _ ho)))))
  by_cases hn : h = .non
  · subst hn
    rw [decide_eq_true (rfl : V.non = V.non)]
    refine c_f ?_
    exact go H (Ex.refl H) rfl
  · rw [decide_eq_false hn]
    refine c_t ?_
    walk_at "rd"
    refine c_isname hh (fun H1 e1 => ?_)
    walk_at "rd"
    cases g : isNm h with
    | false =>
      refine c_t ?_
      walk_at "rd"
      exact bad1 H1 e1 (by rw [g, decide_eq_false hn]; rfl)
    | true =>
      refine c_f ?_
      exact go H1 e1 (by rw [g]; simp)
theorem rd_Rule_told {vs : List V} {H : Hp} {Q : VK} {E : XK} (R : RuleC K Z.Rule) (h : sp_Rule_told K Z vs H Q E) : t_Rule_told K Z { nx := fun _ H' => Q .non H', rt := Q } (start ["self"] vs) H := by
  obtain ⟨a, h, bd, us, rfl, ⟨dx, pb, pu, ha, hb, hu, -⟩, q⟩ := h
  show t_Rule_told K Z _ [some (.ref a)] H
  unfold t_Rule_told
  walk_at "rd"
  refine g_fld ha R.cls R.nh rfl ?_
  walk_at "rd"
  refine g_fld ha R.cls R.nb rfl ?_
  walk_at "rd"
  refine g_fld ha R.cls R.nu rfl ?_
  walk_at "rd"
  refine c_tupE (by simp) (fun p H1 n1 e1 h1 => ?_)
  exact q p pb pu H1 e1 h1 (ex_t e1 hb) (ex_t e1 hu)
theorem rd_Rule___eq__ {vs : List V} {H : Hp} {Q : VK} {E : XK} (R : RuleC K Z.Rule) (h : sp_Rule___eq__ K Z vs H Q E) : t_Rule___eq__ K Z { nx := fun _ H' => Q .non H', rt := Q } (start ["self", "other"] vs) H := by
  obtain ⟨a, h, y, bd, us, rfl, ⟨dx, pb, pu, ha, hb, hu, g1, g2, g3⟩, q⟩ := h
  show t_Rule___eq__ K Z _ [some (.ref a), some y] H
  unfold t_Rule___eq__
  walk_at "rd"
  rcases q with ⟨n, hn, ht, q⟩ | ⟨b, h', bd', us', rfl, ⟨dx', pb', pu', ha', hb', hu', g1', g2', g3'⟩, q⟩
  · refine .inl ⟨y, _, _, _, false, rfl, .own Z.Rule, ht, R.other n hn, ?_⟩
    walk_at "rd"
    exact q H (Ex.refl H)
  · refine .inl ⟨_, _, _, _, true, rfl, .own Z.Rule, rule_ty R ha', R.self, ?_⟩
    walk_at "rd"
    obtain ⟨xb, rfl, nb, -⟩ := nms_of g2
    obtain ⟨xu, rfl, nu, -⟩ := nms_of g3
    obtain ⟨yb, rfl, nb', -⟩ := nms_of g2'
    obtain ⟨yu, rfl, nu', -⟩ := nms_of g3'
    rw [dec_map, dec_map] at q
    refine g_fld ha R.cls R.nh rfl ?_
    walk_at "rd"
    refine g_fld ha' R.cls R.nh rfl ?_
    refine g_eq_s (scal_nm (nm_cases g1) (nm_cases g1')) ?_
    walk_at "rd"
    have q' := q H (Ex.refl H)
    cases d1 : decide (h = h') with
    | false => rw [d1] at q'; exact c_f q'
    | true =>
      rw [d1, Bool.true_and] at q'
      refine c_t ?_
      walk_at "rd"
      refine g_fld ha R.cls R.nb rfl ?_
      walk_at "rd"
      refine g_fld ha' R.cls R.nb rfl ?_
      refine g_eq_tt hb hb' nb nb' ?_
      walk_at "rd"
      cases d2 : decide (xb = yb) with
      | false => rw [d2] at q'; exact c_f q'
      | true =>
        rw [d2, Bool.true_and] at q'
        refine c_t ?_
        walk_at "rd"
        refine g_fld ha R.cls R.nu rfl ?_
        walk_at "rd"
        refine g_fld ha' R.cls R.nu rfl ?_
        exact g_eq_tt hu hu' nu nu' q'
theorem rd__law_begin {vs : List V} {H : Hp} {Q : VK} {E : XK} (h : sp_begin0 K vs H Q E) : t__law_begin K Z { nx := fun _ H' => Q .non H', rt := Q } (start ["script", "cells", "cell"] vs) H := by
  obtain ⟨a, ns, rfl, hS, hl, q⟩ := h
  show t__law_begin K Z _ [some (.ref a), none, none] H
  unfold t__law_begin
  walk_at "rd"
  refine g_sl_l hS (fun r H1 nr e1 h1 => ?_)
  refine c_iL (sq_l h1) ?_
  refine c_lc walk_list (fun i acc => ∃ ms : List Int, acc = ms.map V.int) (σ0 := [some (.ref a), none, none]) rfl ?_ ⟨[], rfl⟩ (fun H' e => ex_l e (sq_l h1)) ?_ ?_
  · have := cutV_length (ns.map V.int) none (some 63)
    rw [List.length_map] at this
    omega
  · intro i acc x H2 H3 Q1 Q0 hi ⟨ms, hms⟩ e2 ⟨e3, hx⟩ k1 k0
    subst e3
    obtain ⟨n, -, rfl⟩ := List.mem_map.mp (cutV_mem (List.mem_of_getElem? hx))
    walk_at "rd"
    refine ⟨rfl, ?_⟩
    walk_at "rd"
    exact ⟨n, rfl, k1 _ _ (Ex.refl _) ⟨ms ++ [if n < 0 then -n else n], by rw [hms, List.map_append]; rfl⟩⟩
  · intro D H2 xs nD e2 ⟨ms, hms⟩ _ hD
    subst hms
    walk_at "rd"
    refine c_lstE (by simp) (fun p H3 n3 e3 h3 => ?_)
    refine g_eq_e (sq_l (e3 _ _ hD)) (sq_l h3) (ok_int ms) ?_
    walk_at "rd"
    have nDH : H D = none := fresh_back e1 nD
    refine c_d (fun hn => ?_) (fun hn => ?_)
    · walk_at "rd"
      refine c_lstE (by simp) (fun p4 H4 n4 e4 h4 => ?_)
      walk_at "rd"
      refine c_lstE (by simp) (fun p5 H5 n5 e5 h5 => ?_)
      have np4 : H p4 = none := fresh_back (e1.trans (e2.trans e3)) n4
      have np5 : H p5 = none := fresh_back (e1.trans (e2.trans (e3.trans e4))) n5
      exact q p5 p4 H5 [7] np5 np4 (Ne.symm (ne_of_none h4 n5)) (e1.trans (e2.trans (e3.trans (e4.trans e5)))) h5 (e5 _ _ h4) (by simp)
    · walk_at "rd"
      refine c_lstE (by simp) (fun p5 H5 n5 e5 h5 => ?_)
      have np5 : H p5 = none := fresh_back (e1.trans (e2.trans e3)) n5
      exact q p5 D H5 ms np5 nDH (Ne.symm (ne_of_none (e3 _ _ hD) n5)) (e1.trans (e2.trans (e3.trans e5))) h5 (e5 _ _ (e3 _ _ hD)) (fun e => hn (by rw [e]; rfl))
theorem rd__law_take {vs : List V} {H : Hp} {Q : VK} {E : XK} (h : sp_take0 vs H Q E) : t__law_take K Z { nx := fun _ H' => Q .non H', rt := Q } (start ["draw", "size", "cells", "at", "cell"] vs) H := by
  obtain ⟨d, c, size, a, b, ns, rfl, hd, hc, ne, hns, b0, b1, s0, s1, q⟩ := h
  show t__law_take K Z _ [some (.ref d), some (.int size), none, none, none] H
  have hl : 0 < ns.length := List.length_pos_iff.mpr hns
  unfold t__law_take
  walk_at "rd"
  refine g_mod_i (by rw [List.length_map]; omega) ?_
  walk_at "rd"
  have hm0 : 0 ≤ a % ((ns.map V.int).length : Int) := Int.emod_nonneg _ (by rw [List.length_map]; omega)
  have hm1 : a % ((ns.map V.int).length : Int) < ((ns.map V.int).length : Int) := Int.emod_lt_of_pos _ (by rw [List.length_map]; omega)
  obtain ⟨k, v, ek, hk, -, hv⟩ := atI_in hm0 hm1
  obtain ⟨m, hm, rfl⟩ : ∃ m, ns[k]? = some m ∧ V.int m = v := by
    rw [List.getElem?_map] at hk
    cases e : ns[k]? with
    | none => rw [e] at hk; cases hk
    | some m => rw [e] at hk; exact ⟨m, rfl, Option.some.inj hk⟩
  refine g_ix_l (by walk_at "get") hv ?_
  walk_at "rd"
  refine g_pow_i (by refine ⟨by omega, by omega, by decide⟩) ?_
  walk_at "rd"
  have hkl : k < (ns.map V.int).length := by omega
  refine c_d (fun hbig => ?_) (fun hsm => ?_)
  · walk_at "rd"
    have hw : CDivW m size := wide_div (b := 65) s0 (by omega) (by omega) (by omega)
    refine g_fdiv_i hw ?_
    walk_at "rd"
    refine g_set (j := k) (by walk_at "get") (by rw [ek]; exact ixN_in hkl) (fun H1 e1 h1 => ?_)
    walk_at "rd"
    refine q _ H1 a b (ns.set k (m / size)) (Int.emod_nonneg _ (by omega)) (Int.emod_lt_of_pos _ s0) (e1 _ _ ne hd) b0 b1 (by rw [h1, List.map_set]) (by intro e; apply hns; rw [← List.length_eq_zero_iff] at e ⊢; rw [List.length_set] at e; exact e) (fun x o _ h2 h3 => e1 _ _ h2 h3)
  · walk_at "rd"
    refine g_set (j := 1) (by walk_at "get") rfl (fun H1 e1 h1 => ?_)
    walk_at "rd"
    refine g_mul_i (wide_mul (a := 40) (b := 40) (by omega) (by omega) (by omega) (by omega) (by omega)) ?_
    walk_at "rd"
    refine g_set (j := 2) h1 rfl (fun H2 e2 h2 => ?_)
    walk_at "rd"
    have b0' := Int.emod_nonneg (b * 48271 + m + 12345) (b := 2147483647) (by omega)
    have b1' := Int.emod_lt_of_pos (b * 48271 + m + 12345) (b := 2147483647) (by omega)
    refine g_mul_i (wide_mul (a := 40) (b := 40) (by omega) (by omega) (by omega) (by omega) (by omega)) ?_
    walk_at "rd"
    refine g_fdiv_i (wide_div (b := 30) (by omega) (by omega) (by omega) (by omega)) ?_
    walk_at "rd"
    refine q _ H2 (a + 1) _ ns (Int.emod_nonneg _ (by omega)) (Int.emod_lt_of_pos _ s0) h2 b0' b1' (e2 _ _ (Ne.symm ne) (e1 _ _ (Ne.symm ne) hc)) hns (fun x o h3 _ h4 => e2 _ _ h3 (e1 _ _ h3 h4))
theorem rd__law_pick {vs : List V} {H : Hp} {Q : VK} {E : XK} (h : sp__law_pick K vs H Q E) : t__law_pick K Z { nx := fun _ H' => Q .non H', rt := Q } (start ["draw", "some"] vs) H := by
  obtain ⟨d, x, rfl, hD, h⟩ := h
  show t__law_pick K Z _ [some (.ref d), some x] H
  unfold t__law_pick
  rcases h with ⟨p, xs, rfl, hp, h0, h1, q⟩ | ⟨z, rfl, h0, h1, q⟩
  · have hl : 0 < xs.length := List.length_pos_iff.mpr h0
    walk_at "rd"
    refine c_take (by walk_at "get") (by omega) (by omega) (fun n H1 n0 n1 e1 => ?_)
    obtain ⟨k, v, rfl, hk, hm, hv⟩ := atI_in n0 n1
    refine g_ix_l (ex_l e1 hp) hv ?_
    exact q v H1 hm e1
  · walk_at "rd"
    refine g_len_s h1 ?_
    walk_at "rd"
    refine c_take (by walk_at "get") (by omega) (by omega) (fun n H1 n0 n1 e1 => ?_)
    obtain ⟨k, v, rfl, hk, hm, hv⟩ := atI_in (xs := z.cps.toList) n0 (by rw [len_tl]; exact n1)
    refine g_ix_s h1 hv ?_
    exact q v H1 hm e1
theorem rd__law_word {vs : List V} {H : Hp} {Q : VK} {E : XK} (h : sp__law_word K vs H Q E) : t__law_word K Z { nx := fun _ H' => Q .non H', rt := Q } (start ["draw", "own", "word", "k"] vs) H := by
  obtain ⟨d, rfl, hD, q⟩ := h
  show t__law_word K Z _ [some (.ref d), none, none, none] H
  unfold t__law_word
  walk_at "rd"
  refine c_lstE (by simp) (fun p H1 n1 e1 h1 => ?_)
  walk_at "rd"
  refine c_take (by walk_at "get") (by omega) (by omega) (fun n H2 n0 n1 e2 => ?_)
  walk_at "rd"
  refine c_d (fun _ => ?_) (fun _ => ?_)
  · walk_at "rd"
    refine c_pickL (by walk_at "get") (sq_l (e2 _ _ h1)) (by simp) (by simp) (fun v H3 hv e3 => ?_)
    have hv' : v ∈ (["lot", "held", "back", "by", "in", "all", "some", "none", "rule", "told", "rank", "nots", "a", "z", "maybe"] : List Str).map V.str := hv
    obtain ⟨z, hz, rfl⟩ := List.mem_map.mp hv'
    exact q z H3 (own_names z hz) (e1.trans (e2.trans e3))
  · walk_at "rd"
    refine c_take (by walk_at "get") (by omega) (by omega) (fun n H3 n0 n1 e3 => ?_)
    walk_at "rd"
    refine c_iR1 (by omega) (by omega) ?_
    refine for_it walk_range (fun i σ H' => Ex H3 H' ∧ ∃ (z : Str) (y : Option V), σ = [some (.ref d), some (.ref p), some (.str z), y] ∧ z.length = i ∧ ∀ c ∈ z.cps.toList, isLet c = true) ⟨Ex.refl _, "", none, rfl, rfl, by decide +kernel⟩ (fun _ _ _ _ _ => trivial) ?_ ?_
    · rintro i x σ H4 H5 hi ⟨e4, z, y, rfl, hz, hc⟩ ⟨rfl, rfl⟩
      walk_at "rd"
      refine c_take (by walk_at "get") (by omega) (by omega) (fun m H6 m0 m1 e6 => ?_)
      have hl : abcS.cps.toList.length = 26 := by decide +kernel
      obtain ⟨k, c, rfl, hk, hm, hv⟩ := atI_in (xs := abcS.cps.toList) m0 (by rw [hl]; exact m1)
      refine g_ix_s (z := abcS) (by decide +kernel) hv ?_
      refine g_add_s (by rw [hz, len_sgn]; omega) ?_
      walk_at "rd"
      refine ⟨e4.trans e6, _, _, rfl, by rw [len_app, hz, len_sgn], fun c' hc' => ?_⟩
      rw [show (z ++ ⟨#[c]⟩ : Str).cps.toList = z.cps.toList ++ [c] from TL.tl_append z _] at hc'
      rcases List.mem_append.mp hc' with h | h
      · exact hc c' h
      · rw [List.mem_singleton.mp h]; exact (mem_abc c).mp hm
    · rintro σ H4 ⟨e4, z, y, rfl, hz, hc⟩
      walk_at "rd"
      refine c_lstE (by simp) (fun p5 H5 n5 e5 h5 => ?_)
      refine g_in_l (xs := taken.map V.str) (.inl (sq_l h5)) rfl (flat_str taken) ?_
      rw [inV_strs]
      walk_at "rd"
      refine c_d (fun h => ?_) (fun h => ?_)
      · walk_at "rd"
        refine g_sl_s (by omega) ?_
        exact q _ H5 (taken_cut z h) (e1.trans (e2.trans (e3.trans (e4.trans e5))))
      · walk_at "rd"
        exact q _ H5 ((nameS_iff z).mpr ⟨by omega, h, hc⟩) (e1.trans (e2.trans (e3.trans (e4.trans e5))))
theorem rd__law_words {vs : List V} {H : Hp} {Q : VK} {E : XK} (h : sp__law_words K vs H Q E) : t__law_words K Z { nx := fun _ H' => Q .non H', rt := Q } (start ["draw", "many", "found", "k", "word", "taken", "sign"] vs) H := by
  obtain ⟨d, m, rfl, hD, m0, m1, q⟩ := h
  show t__law_words K Z _ [some (.ref d), some (.int m), none, none, none, none, none] H
  unfold t__law_words
  walk_at "rd"
  refine c_lstE (by simp) (fun p H1 n1 e1 h1 => ?_)
  walk_at "rd"
  refine c_iR1 (by omega) (by omega) ?_
  refine for_it walk_range (fun i σ H' => Ex H H' ∧ ∃ (ss : List Str) (y1 y2 y3 y4 : Option V), σ = [some (.ref d), some (.int m), some (.ref p), y1, y2, y3, y4] ∧ H' p = some (.lst (ss.map V.str)) ∧ ss.length = i ∧ ss.Nodup ∧ ∀ z ∈ ss, nameS z = true) ⟨e1, [], none, none, none, none, rfl, h1, rfl, List.nodup_nil, by simp⟩ (fun _ _ _ _ _ => trivial) ?_ ?_
  · rintro i x σ H4 H5 hi ⟨e4, ss, y1, y2, y3, y4, rfl, hp, hl, nd, nm⟩ ⟨rfl, rfl⟩
    walk_at "rd"
    refine c_word (by walk_at "get") (fun z H6 hz e6 => ?_)
    walk_at "rd"
    have hp6 := e6 _ _ hp
    have hz8 := nameS_len hz
    refine g_in_l (xs := ss.map V.str) (.inl (sq_l hp6)) rfl (flat_str ss) ?_
    rw [inV_strs]
    walk_at "rd"
    refine c_d (fun hin => ?_) (fun hin => ?_)
    · walk_at "rd"
      refine c_lstE (by simp) (fun p7 H7 n7 e7 h7 => ?_)
      refine g_add_l (e7 _ _ hp6) h7 (by simp; omega) (fun p8 H8 n8 e8 h8 => ?_)
      have h8' : H8 p8 = some (.lst ((ss ++ taken).map V.str)) := by rw [h8, List.map_append]; rfl
      walk_at "rd"
      refine c_lc walk_str (fun i acc => acc = ((abcS.cps.toList.take i).filter (fun c => decide (cand z c ∉ ss ++ taken))).map (fun c => V.str (cand z c))) (σ0 := [some (.ref d), some (.int m), some (.ref p), some (.int (0 + (i : Nat))), some (.str z), some (.ref p8), none]) rfl (by decide +kernel) rfl (fun _ _ => trivial) ?_ ?_
      · intro i acc x H2 H3 Q1 Q0 hi hacc e2 hy k1 k0
        obtain ⟨e3, c, hc, rfl⟩ := hy
        subst e3
        have hc' : abcS.cps.toList[i]? = some c := by rw [Array.getElem?_toList]; exact hc
        walk_at "rd"
        refine ⟨rfl, ?_⟩
        walk_at "rd"
        refine g_sl_s (by omega) ?_
        walk_at "rd"
        have hcl : (cutS z none (some 7)).length ≤ 8 := by
          rw [← len_tl, show cutS z none (some 7) = cutS z none (some ((7 : Nat) : Int)) from rfl, cutS_take, List.length_take]; omega
        refine g_add_s (by rw [len_sgn]; omega) ?_
        walk_at "rd"
        refine g_ni_l (xs := (ss ++ taken).map V.str) (.inl (sq_l (e2 _ _ h8'))) rfl (flat_str _) ?_
        rw [inV_strs]
        walk_at "rd"
        refine c_nd (fun hn => ?_) (fun hn => ?_)
        · walk_at "rd"
          refine g_sl_s (by omega) ?_
          walk_at "rd"
          refine g_add_s (by rw [len_sgn]; omega) ?_
          refine k1 _ _ (Ex.refl _) ?_
          have hn' : cand z c ∉ ss ++ taken := hn
          rw [hacc, take_snoc hc', List.filter_append, List.map_append, List.filter_cons, if_pos (decide_eq_true hn')]; rfl
        · refine k0 _ (Ex.refl _) ?_
          have hn' : ¬ cand z c ∉ ss ++ taken := fun k => k hn
          rw [hacc, take_snoc hc', List.filter_append, List.map_append, List.filter_cons, if_neg (by rw [decide_eq_true_iff]; exact hn')]
          simp
      · intro D H2 xs nD e2 hxs _ hD2
        rw [List.take_of_length_le (show abcS.cps.toList.length ≤ (Str.ofString "abcdefghijklmnopqrstuvwxyz").cps.size by decide +kernel)] at hxs
        obtain ⟨c0, hc0, hn0⟩ := cand_ex z (L := ss ++ taken) (by rw [List.length_append, show taken.length = 3 from rfl]; omega)
        have hf : c0 ∈ abcS.cps.toList.filter (fun c => decide (cand z c ∉ ss ++ taken)) := List.mem_filter.mpr ⟨hc0, decide_eq_true hn0⟩
        obtain ⟨c, cs, hcs⟩ : ∃ c cs, abcS.cps.toList.filter (fun c => decide (cand z c ∉ ss ++ taken)) = c :: cs := by
          cases hh : abcS.cps.toList.filter (fun c => decide (cand z c ∉ ss ++ taken)) with
          | nil => rw [hh] at hf; cases hf
          | cons c cs => exact ⟨c, cs, rfl⟩
        have hcm : c ∈ abcS.cps.toList.filter (fun c => decide (cand z c ∉ ss ++ taken)) := by rw [hcs]; simp
        obtain ⟨hca, hcn⟩ := List.mem_filter.mp hcm
        have hcn' := of_decide_eq_true hcn
        rw [hcs] at hxs
        walk_at "rd"
        refine g_ix_l (v := .str (cand z c)) (sq_l hD2) (by rw [hxs]; exact atI_nat (j := 0) rfl) ?_
        walk_at "rd"
        have hp9 := e2 _ _ (e8 _ _ (e7 _ _ hp6))
        refine ⟨ty_l hp9, ?_⟩
        walk_at "rd"
        refine g_append hp9 (by rw [List.length_map]; omega) (fun H9 e9 h9 => ?_)
        walk_at "rd"
        refine ⟨ex_exb (e4.trans (e6.trans (e7.trans (e8.trans e2)))) n1 e9, ss ++ [cand z c], _, _, _, _, rfl, by rw [h9, List.map_append]; rfl, by simp [hl], nodup_snoc nd (fun k => hcn' (List.mem_append_left _ k)), ?_⟩
        intro z' hz'
        rcases List.mem_append.mp hz' with k | k
        · exact nm z' k
        · rw [List.mem_singleton.mp k]
          exact cand_name hz ((mem_abc c).mp hca) (fun k => hcn' (List.mem_append_right _ k))
    · walk_at "rd"
      refine ⟨ty_l hp6, ?_⟩
      walk_at "rd"
      refine g_append hp6 (by rw [List.length_map]; omega) (fun H9 e9 h9 => ?_)
      walk_at "rd"
      refine ⟨ex_exb (e4.trans e6) n1 e9, ss ++ [z], _, _, _, _, rfl, by rw [h9, List.map_append]; rfl, by simp [hl], nodup_snoc nd hin, ?_⟩
      intro z' hz'
      rcases List.mem_append.mp hz' with k | k
      · exact nm z' k
      · rw [List.mem_singleton.mp k]; exact hz
  · rintro σ H4 ⟨e4, ss, y1, y2, y3, y4, rfl, hp, hl, nd, nm⟩
    walk_at "rd"
    exact q p ss H4 n1 e4 hp (by omega) nd nm

end
end K04

set_option maxHeartbeats 800000
namespace K04
open PySem PySem.Spec PyProof.Rows L2 Evl Gx
local macro_rules | `(tactic| walk_at "get") => `(tactic| first
  | assumption
  | exact upd_same
  | ((with_reducible refine sq_l ?_); walk_at "get")
  | ((with_reducible refine sq_t ?_); walk_at "get")
  | ((with_reducible refine ex_l (by assumption) ?_); walk_at "get")
  | ((with_reducible refine ex_t (by assumption) ?_); walk_at "get")
  | ((with_reducible refine Draw.ex (by assumption) ?_); walk_at "get")
  | ((with_reducible refine Arg.ex (by assumption) ?_); walk_at "get")
  | ((with_reducible refine IsRule.ex (by assumption) ?_); walk_at "get")
  | ((with_reducible refine Thing.ex (by assumption) ?_); walk_at "get")
  | ((with_reducible refine exget (by assumption) ?_); walk_at "get"))
local macro_rules | `(tactic| walk_at "rd1") => `(tactic| first
  | (with_reducible refine c_seq ?_)
  | (with_reducible refine c_next ?_)
  | (with_reducible refine c_drop ?_)
  | (with_reducible refine c_ret ?_)
  | (with_reducible refine c_retN ?_)
  | (with_reducible refine c_ifs ?_)
  | (with_reducible refine c_c ?_)
  | (with_reducible refine c_op ?_)
  | (with_reducible refine c_un ?_)
  | (with_reducible refine c_cb ?_)
  | (with_reducible refine c_nil ?_)
  | (with_reducible refine c_cons ?_)
  | (with_reducible refine c_call ?_)
  | (with_reducible refine c_callK ?_)
  | (with_reducible refine c_test ?_)
  | (with_reducible refine c_tB ?_)
  | (with_reducible refine c_and ?_)
  | (with_reducible refine c_or ?_)
  | (with_reducible refine c_not ?_)
  | (with_reducible refine c_andV ?_)
  | (with_reducible refine c_orV ?_)
  | (with_reducible refine c_notV ?_)
  | (with_reducible refine c_if ?_)
  | (with_reducible refine c_chain ?_)
  | (with_reducible refine c_sl ?_)
  | (with_reducible refine c_nop ?_)
  | (with_reducible refine c_part ?_)
  | (with_reducible refine c_lst ?_)
  | (with_reducible refine c_tup ?_)
  | (with_reducible refine c_bl ?_)
  | (with_reducible refine c_blP ?_)
  | (with_reducible refine c_parti ?_)
  | (with_reducible refine c_t ?_)
  | (with_reducible refine c_f ?_)
  | (with_reducible refine g_add_i ?_)
  | (with_reducible refine g_sub_i ?_)
  | (with_reducible refine g_neg ?_)
  | (with_reducible refine g_eq_i ?_)
  | (with_reducible refine g_eq_st ?_)
  | (with_reducible refine g_eq_b ?_)
  | (with_reducible refine g_ne_i ?_)
  | (with_reducible refine g_ne_st ?_)
  | (with_reducible refine g_ne_b ?_)
  | (with_reducible refine g_lt_i ?_)
  | (with_reducible refine g_le_i ?_)
  | (with_reducible refine g_gt_i ?_)
  | (with_reducible refine g_ge_i ?_)
  | (with_reducible refine g_le_s ?_)
  | (with_reducible refine g_in_s ?_)
  | (with_reducible refine g_ni_s ?_)
  | (with_reducible refine c_brk ?_)
  | (with_reducible refine c_cont ?_)
  | (with_reducible refine c_for ?_)
  | (with_reducible refine c_lcW ?_)
  | (with_reducible refine c_iList ?_)
  | (with_reducible refine c_iTup ?_)
  | (with_reducible refine c_iStr ?_)
  | (with_reducible refine c_iRng1 ?_)
  | (with_reducible refine c_iS ?_)
  | (with_reducible refine c_yes ?_)
  | (with_reducible refine c_sub ?_)
  | (with_reducible refine c_pair ?_)
  | (with_reducible refine c_pnil ?_)
  | (with_reducible refine c_isn ?_)
  | (with_reducible refine c_notn ?_)
  | (with_reducible refine c_sfld ?_)
  | (with_reducible refine c_fld ?_)
  | (with_reducible refine c_raise ?_)
  | (with_reducible refine c_meth0 ?_)
  | (with_reducible refine c_iEnum ?_)
  | (with_reducible refine c_bm ?_)
  | (with_reducible refine c_bm0 ?_)
  | (with_reducible refine c_mk ?_)
  | (with_reducible refine c_try ?_)
  | (with_reducible refine c_iEnumT ?_)
  | (with_reducible refine c_callKS ?_)
  | (with_reducible refine c_tryO ?_)
  | (with_reducible refine c_repl ?_)
  | (with_reducible refine c_fmt ?_)
  | (with_reducible refine c_fs ?_)
  | (with_reducible refine c_jn ?_)
  | (with_reducible refine c_jc ?_)
  | (with_reducible refine c_tru ?_)
  | (with_reducible refine c_m1 ?_)
  | (with_reducible refine c_var0 ?_)
  | (with_reducible refine c_asg0 ?_)
  | (with_reducible refine c_nam0 ?_)
  | (with_reducible refine c_var1 ?_)
  | (with_reducible refine c_asg1 ?_)
  | (with_reducible refine c_nam1 ?_)
  | (with_reducible refine c_var2 ?_)
  | (with_reducible refine c_asg2 ?_)
  | (with_reducible refine c_nam2 ?_)
  | (with_reducible refine c_var3 ?_)
  | (with_reducible refine c_asg3 ?_)
  | (with_reducible refine c_nam3 ?_)
  | (with_reducible refine c_var4 ?_)
  | (with_reducible refine c_asg4 ?_)
  | (with_reducible refine c_nam4 ?_)
  | (with_reducible refine c_var5 ?_)
  | (with_reducible refine c_asg5 ?_)
  | (with_reducible refine c_nam5 ?_)
  | (with_reducible refine c_var6 ?_)
  | (with_reducible refine c_asg6 ?_)
  | (with_reducible refine c_nam6 ?_)
  | (with_reducible refine c_var7 ?_)
  | (with_reducible refine c_asg7 ?_)
  | (with_reducible refine c_nam7 ?_)
  | (with_reducible refine c_var8 ?_)
  | (with_reducible refine c_asg8 ?_)
  | (with_reducible refine c_nam8 ?_)
  | (with_reducible refine c_var9 ?_)
  | (with_reducible refine c_asg9 ?_)
  | (with_reducible refine c_nam9 ?_)
  | (with_reducible refine c_var10 ?_)
  | (with_reducible refine c_asg10 ?_)
  | (with_reducible refine c_nam10 ?_)
  | (with_reducible refine c_var11 ?_)
  | (with_reducible refine c_asg11 ?_)
  | (with_reducible refine c_nam11 ?_)
  | (with_reducible refine c_var12 ?_)
  | (with_reducible refine c_asg12 ?_)
  | (with_reducible refine c_nam12 ?_)
  | (with_reducible refine c_var13 ?_)
  | (with_reducible refine c_asg13 ?_)
  | (with_reducible refine c_nam13 ?_)
  | (with_reducible refine c_var14 ?_)
  | (with_reducible refine c_asg14 ?_)
  | (with_reducible refine c_nam14 ?_)
  | (with_reducible refine c_var15 ?_)
  | (with_reducible refine c_asg15 ?_)
  | (with_reducible refine c_nam15 ?_)
  | (with_reducible refine c_asgG ?_)
  | ((with_reducible refine g_ix_l (xs := ?gxa) (v := ?gxb) ?gx1 ?gx2 ?gx3); (case gx1 => walk_at "get"); (case gx2 => rfl))
  | ((with_reducible refine g_len_l (xs := ?gxa) (.inl ?gx1) ?gx3); (case gx1 => walk_at "get"))
  | ((with_reducible refine g_mod_i ?gx1 ?gx3); (case gx1 => omega)))
local macro_rules | `(tactic| walk_at "rd") => `(tactic| repeat walk_at "rd1")
local macro_rules | `(tactic| walk_at "rs1") => `(tactic| first
  | (with_reducible refine c_next ?_)
  | (with_reducible refine c_drop ?_)
  | (with_reducible refine c_ret ?_)
  | (with_reducible refine c_retN ?_)
  | (with_reducible refine c_ifs ?_)
  | (with_reducible refine c_c ?_)
  | (with_reducible refine c_op ?_)
  | (with_reducible refine c_un ?_)
  | (with_reducible refine c_cb ?_)
  | (with_reducible refine c_nil ?_)
  | (with_reducible refine c_cons ?_)
  | (with_reducible refine c_call ?_)
  | (with_reducible refine c_callK ?_)
  | (with_reducible refine c_test ?_)
  | (with_reducible refine c_tB ?_)
  | (with_reducible refine c_and ?_)
  | (with_reducible refine c_or ?_)
  | (with_reducible refine c_not ?_)
  | (with_reducible refine c_andV ?_)
  | (with_reducible refine c_orV ?_)
  | (with_reducible refine c_notV ?_)
  | (with_reducible refine c_chain ?_)
  | (with_reducible refine c_sl ?_)
  | (with_reducible refine c_nop ?_)
  | (with_reducible refine c_part ?_)
  | (with_reducible refine c_lst ?_)
  | (with_reducible refine c_tup ?_)
  | (with_reducible refine c_bl ?_)
  | (with_reducible refine c_blP ?_)
  | (with_reducible refine c_parti ?_)
  | (with_reducible refine c_t ?_)
  | (with_reducible refine c_f ?_)
  | (with_reducible refine g_add_i ?_)
  | (with_reducible refine g_sub_i ?_)
  | (with_reducible refine g_neg ?_)
  | (with_reducible refine g_eq_i ?_)
  | (with_reducible refine g_eq_st ?_)
  | (with_reducible refine g_eq_b ?_)
  | (with_reducible refine g_ne_i ?_)
  | (with_reducible refine g_ne_st ?_)
  | (with_reducible refine g_ne_b ?_)
  | (with_reducible refine g_lt_i ?_)
  | (with_reducible refine g_le_i ?_)
  | (with_reducible refine g_gt_i ?_)
  | (with_reducible refine g_ge_i ?_)
  | (with_reducible refine g_le_s ?_)
  | (with_reducible refine g_in_s ?_)
  | (with_reducible refine g_ni_s ?_)
  | (with_reducible refine c_brk ?_)
  | (with_reducible refine c_cont ?_)
  | (with_reducible refine c_for ?_)
  | (with_reducible refine c_lcW ?_)
  | (with_reducible refine c_iList ?_)
  | (with_reducible refine c_iTup ?_)
  | (with_reducible refine c_iStr ?_)
  | (with_reducible refine c_iRng1 ?_)
  | (with_reducible refine c_iS ?_)
  | (with_reducible refine c_yes ?_)
  | (with_reducible refine c_sub ?_)
  | (with_reducible refine c_pair ?_)
  | (with_reducible refine c_pnil ?_)
  | (with_reducible refine c_isn ?_)
  | (with_reducible refine c_notn ?_)
  | (with_reducible refine c_sfld ?_)
  | (with_reducible refine c_fld ?_)
  | (with_reducible refine c_raise ?_)
  | (with_reducible refine c_meth0 ?_)
  | (with_reducible refine c_iEnum ?_)
  | (with_reducible refine c_bm ?_)
  | (with_reducible refine c_bm0 ?_)
  | (with_reducible refine c_mk ?_)
  | (with_reducible refine c_try ?_)
  | (with_reducible refine c_iEnumT ?_)
  | (with_reducible refine c_callKS ?_)
  | (with_reducible refine c_tryO ?_)
  | (with_reducible refine c_repl ?_)
  | (with_reducible refine c_fmt ?_)
  | (with_reducible refine c_fs ?_)
  | (with_reducible refine c_jn ?_)
  | (with_reducible refine c_jc ?_)
  | (with_reducible refine c_tru ?_)
  | (with_reducible refine c_m1 ?_)
  | (with_reducible refine c_var0 ?_)
  | (with_reducible refine c_asg0 ?_)
  | (with_reducible refine c_nam0 ?_)
  | (with_reducible refine c_var1 ?_)
  | (with_reducible refine c_asg1 ?_)
  | (with_reducible refine c_nam1 ?_)
  | (with_reducible refine c_var2 ?_)
  | (with_reducible refine c_asg2 ?_)
  | (with_reducible refine c_nam2 ?_)
  | (with_reducible refine c_var3 ?_)
  | (with_reducible refine c_asg3 ?_)
  | (with_reducible refine c_nam3 ?_)
  | (with_reducible refine c_var4 ?_)
  | (with_reducible refine c_asg4 ?_)
  | (with_reducible refine c_nam4 ?_)
  | (with_reducible refine c_var5 ?_)
  | (with_reducible refine c_asg5 ?_)
  | (with_reducible refine c_nam5 ?_)
  | (with_reducible refine c_var6 ?_)
  | (with_reducible refine c_asg6 ?_)
  | (with_reducible refine c_nam6 ?_)
  | (with_reducible refine c_var7 ?_)
  | (with_reducible refine c_asg7 ?_)
  | (with_reducible refine c_nam7 ?_)
  | (with_reducible refine c_var8 ?_)
  | (with_reducible refine c_asg8 ?_)
  | (with_reducible refine c_nam8 ?_)
  | (with_reducible refine c_var9 ?_)
  | (with_reducible refine c_asg9 ?_)
  | (with_reducible refine c_nam9 ?_)
  | (with_reducible refine c_var10 ?_)
  | (with_reducible refine c_asg10 ?_)
  | (with_reducible refine c_nam10 ?_)
  | (with_reducible refine c_var11 ?_)
  | (with_reducible refine c_asg11 ?_)
  | (with_reducible refine c_nam11 ?_)
  | (with_reducible refine c_var12 ?_)
  | (with_reducible refine c_asg12 ?_)
  | (with_reducible refine c_nam12 ?_)
  | (with_reducible refine c_var13 ?_)
  | (with_reducible refine c_asg13 ?_)
  | (with_reducible refine c_nam13 ?_)
  | (with_reducible refine c_var14 ?_)
  | (with_reducible refine c_asg14 ?_)
  | (with_reducible refine c_nam14 ?_)
  | (with_reducible refine c_var15 ?_)
  | (with_reducible refine c_asg15 ?_)
  | (with_reducible refine c_nam15 ?_)
  | (with_reducible refine c_asgG ?_)
  | ((with_reducible refine g_ix_l (xs := ?gxa) (v := ?gxb) ?gx1 ?gx2 ?gx3); (case gx1 => walk_at "get"); (case gx2 => rfl))
  | ((with_reducible refine g_len_l (xs := ?gxa) (.inl ?gx1) ?gx3); (case gx1 => walk_at "get"))
  | ((with_reducible refine g_mod_i ?gx1 ?gx3); (case gx1 => omega)))
local macro_rules | `(tactic| walk_at "rs") => `(tactic| repeat walk_at "rs1")
section
variable {P : Program} {w : World} {K : PySem.W.Frag} {mg : Str → Option Value} {base : Heap} {Z : Ads}
theorem rd_words_in {vs : List V} {H : Hp} {Q : VK} {E : XK} (h : sp_words_in K vs H Q E) : t_words_in K Z { nx := fun _ H' => Q .non H', rt := Q } (start ["row", "parted", "word"] vs) H := by
  obtain ⟨z, rfl, hl, hw, q⟩ := h
  show t_words_in K Z _ [some (.str z), none, none] H
  unfold t_words_in
  have l1 := TK.replace_len z "," " , "
  have c1 : (("," : Str)).length = 1 := by decide +kernel
  have c2 : ((" , " : Str)).length = 3 := by decide +kernel
  have c3 : ((" <- " : Str)).length = 4 := by decide +kernel
  have l2 := TK.replace_len (Txt.replace z "," " , ") "<-" " <- "
  rw [c2] at l1
  rw [c3] at l2
  walk_at "rd"
  refine ⟨by rw [c2]; omega, ?_⟩
  walk_at "rd"
  refine ⟨by rw [c3]; omega, ?_⟩
  walk_at "rd"
  refine c_m1s ?_
  walk_at "rd"
  refine g_split (by decide +kernel) (by omega) (fun p H1 n1 e1 h1 => ?_)
  have hsl := PyProof.Rows.split_le (Txt.replace (Txt.replace z "," " , ") "<-" " <- ") " "
  have hpart : ∀ w ∈ Txt.split (Txt.replace (Txt.replace z "," " , ") "<-" " <- ") " ", w.length ≤ 100000 := fun w hm => by
    have := PyProof.Rows.part_short hm
    omega
  have hw0 : wordsS z = (Txt.split (Txt.replace (Txt.replace z "," " , ") "<-" " <- ") " ").filter fun w => decide (w ≠ ("" : Str)) := rfl
  generalize Txt.split (Txt.replace (Txt.replace z "," " , ") "<-" " <- ") " " = sp at h1 hsl hpart hw0
  refine c_iL (sq_l h1) ?_
  refine c_lc walk_list (fun i acc => acc = (((sp.take i).filter fun w => decide (w ≠ ("" : Str))).map V.str)) (σ0 := [some (.str z), some (.str (Txt.replace (Txt.replace z "," " , ") "<-" " <- ")), none]) rfl (by rw [List.length_map]; omega) rfl (fun H' e' => sq_l (e' _ _ h1)) ?_ ?_
  · intro i acc x H2 H3 Q1 Q0 hi hacc e2 hy k1 k0
    obtain ⟨rfl, hx⟩ := hy
    rw [List.getElem?_map] at hx
    obtain ⟨w, hw1, rfl⟩ := Option.map_eq_some_iff.mp hx
    walk_at "rd"
    refine ⟨rfl, ?_⟩
    walk_at "rd"
    refine ⟨_, tru_s (hpart w (List.mem_of_getElem? hw1)), ?_⟩
    refine c_nd (fun hn => ?_) (fun hn => ?_)
    · walk_at "rd"
      refine k1 _ _ (Ex.refl _) ?_
      rw [hacc, take_snoc hw1, List.filter_append, List.map_append, List.filter_cons, if_pos (decide_eq_true hn)]; rfl
    · refine k0 _ (Ex.refl _) ?_
      rw [hacc, take_snoc hw1, List.filter_append, List.map_append, List.filter_cons, if_neg (by rw [decide_eq_true_iff]; exact fun k => k hn)]
      simp
  · intro D H2 xs nD e2 hxs _ hD2
    rw [List.length_map, List.take_of_length_le (Nat.le_refl _), ← hw0] at hxs
    exact q D H2 (e1.trans e2) (by rw [hD2, hxs])
theorem PL.ex {H H' : Hp} (e : Ex H H') : ∀ {as : List Addr} {pss : List (List Str)}, PL H as pss → PL H' as pss
  | [], [], _ => trivial
  | _ :: _, _ :: _, h => ⟨e _ _ h.1, PL.ex e h.2⟩
  | [], _ :: _, h => h.elim
  | _ :: _, [], h => h.elim
theorem PL.exb {H H' : Hp} {p : Addr} (e : Exb p H H') : ∀ {as : List Addr} {pss : List (List Str)}, p ∉ as → PL H as pss → PL H' as pss
  | [], [], _, _ => trivial
  | a :: _, _ :: _, n, h => ⟨e _ _ (fun k => n (k ▸ List.mem_cons_self ..)) h.1, PL.exb e (fun k => n (List.mem_cons_of_mem _ k)) h.2⟩
  | [], _ :: _, _, h => h.elim
  | _ :: _, [], _, h => h.elim
theorem PL.len {H : Hp} : ∀ {as : List Addr} {pss : List (List Str)}, PL H as pss → as.length = pss.length
  | [], [], _ => rfl
  | _ :: _, _ :: _, h => by rw [List.length_cons, List.length_cons, PL.len h.2]
  | [], _ :: _, h => h.elim
  | _ :: _, [], h => h.elim
theorem PL.snoc {H : Hp} {a : Addr} {ps : List Str} (ha : H a = some (.lst (ps.map V.str))) : ∀ {as : List Addr} {pss : List (List Str)}, PL H as pss → PL H (as ++ [a]) (pss ++ [ps])
  | [], [], _ => ⟨ha, trivial⟩
  | _ :: _, _ :: _, h => ⟨h.1, PL.snoc ha h.2⟩
  | [], _ :: _, h => h.elim
  | _ :: _, [], h => h.elim
theorem PL.split {H : Hp} {a : Addr} {ps : List Str} : ∀ {as : List Addr} {pss : List (List Str)}, PL H (as ++ [a]) (pss ++ [ps]) → PL H as pss ∧ H a = some (.lst (ps.map V.str))
  | [], [], h => ⟨trivial, h.1⟩
  | _ :: _, _ :: _, h => by obtain ⟨h1, h2⟩ := PL.split h.2; exact ⟨⟨h.1, h1⟩, h2⟩
  | [], [_], h => h.2.elim
  | [], _ :: _ :: _, h => h.2.elim
  | [_], [], h => h.2.elim
  | _ :: _ :: _, [], h => h.2.elim
theorem PL.get {H : Hp} : ∀ {as : List Addr} {pss : List (List Str)} {i : Nat} {a : Addr}, PL H as pss → as[i]? = some a → ∃ ps, pss[i]? = some ps ∧ H a = some (.lst (ps.map V.str))
  | a :: _, ps :: _, 0, b, h, e => by cases e; exact ⟨ps, rfl, h.1⟩
  | _ :: as, _ :: pss, i + 1, b, h, e => PL.get (as := as) (pss := pss) h.2 e
  | [], _, _, _, _, e => by simp at e
  | _ :: _, [], _, _, h, _ => h.elim
theorem partsW_snoc (ws : List Str) (w : Str) : partsW (ws ++ [w]) = addW (partsW ws) w := by unfold partsW; rw [List.foldl_append]; rfl
theorem partsW_ne (ws : List Str) : ∃ pss p, partsW ws = pss ++ [p] := by
  have ne : partsW ws ≠ [] := by
    unfold partsW
    have : ∀ (l : List Str) (a : List (List Str)), a ≠ [] → l.foldl addW a ≠ [] := fun l => by
      induction l with
      | nil => exact fun a h => h
      | cons x r ih => exact fun a _ => ih _ (addW_ne a x)
    exact this ws _ (by simp)
  exact ⟨_, _, (List.dropLast_concat_getLast ne).symm⟩
theorem partsW_len (ws : List Str) : (partsW ws).length ≤ ws.length + 1 := by
  have : ∀ (l : List Str) (a : List (List Str)), a ≠ [] → (l.foldl addW a).length ≤ a.length + l.length := fun l => by
    induction l with
    | nil => exact fun a _ => Nat.le_refl _
    | cons x r ih =>
      intro a ha
      have h1 := ih (addW a x) (addW_ne a x)
      have h2 : (addW a x).length ≤ a.length + 1 := by
        obtain ⟨pss, p, rfl⟩ : ∃ pss p, a = pss ++ [p] := ⟨_, _, (List.dropLast_concat_getLast ha).symm⟩
        by_cases e : x = ","
        · subst e; rw [addW_comma _ (by simp)]; simp
        · rw [addW_word e]; simp
      rw [List.foldl_cons, List.length_cons]
      omega
  have := this ws [[]] (by simp)
  unfold partsW
  simpa [Nat.add_comm] using this
theorem addW_each {n : Nat} : ∀ (ws : List Str), ws.length ≤ n → ∀ p ∈ partsW ws, p.length ≤ n := by
  have : ∀ (l : List Str) (a : List (List Str)) (m : Nat), a ≠ [] → (∀ p ∈ a, p.length ≤ m) → ∀ p ∈ l.foldl addW a, p.length ≤ m + l.length := fun l => by
    induction l with
    | nil => exact fun a m _ h p hp => h p hp
    | cons x r ih =>
      intro a m ha h p hp
      have key := ih (addW a x) (m + 1) (addW_ne a x) (fun q hq => by
        obtain ⟨pss, p, rfl⟩ : ∃ pss p, a = pss ++ [p] := ⟨_, _, (List.dropLast_concat_getLast ha).symm⟩
        by_cases e : x = ","
        · subst e
          rw [addW_comma _ (by simp)] at hq
          rcases List.mem_append.mp hq with k | k
          · have := h q k; omega
          · rw [List.mem_singleton.mp k]; simp
        · rw [addW_word e] at hq
          rcases List.mem_append.mp hq with k | k
          · have := h q (List.mem_append_left _ k); omega
          · rw [List.mem_singleton.mp k, List.length_append]
            have := h p (List.mem_append_right _ (List.mem_singleton.mpr rfl))
            simp; omega) p hp
      rw [List.length_cons]; omega
  intro ws hw p hp
  have := this ws [[]] 0 (by simp) (by simp) p hp
  omega
theorem rd_parts_of {vs : List V} {H : Hp} {Q : VK} {E : XK} (h : sp_parts_of K vs H Q E) : t_parts_of K Z { nx := fun _ H' => Q .non H', rt := Q } (start ["words", "parts", "word"] vs) H := by
  obtain ⟨p, ws, rfl, hp, hw, q⟩ := h
  show t_parts_of K Z _ [some (.ref p), none, none] H
  unfold t_parts_of
  walk_at "rd"
  refine c_lstE (by simp) (fun a0 H1 n1 e1 h1 => ?_)
  walk_at "rd"
  refine c_lstE (by simp) (fun r H2 n2 e2 h2 => ?_)
  walk_at "rd"
  have hp2 := e2 _ _ (e1 _ _ hp)
  have nr : r ≠ a0 := fun k => by rw [k, h1] at n2; cases n2
  have n0r : H r = none := fresh_back e1 n2
  refine c_iL (sq_l hp2) ?_
  refine for_it walk_list (fun i σ H' => ∃ as y, σ = [some (.ref p), some (.ref r), y] ∧ Ex H H' ∧ H' r = some (.lst (as.map V.ref)) ∧ PL H' as (partsW (ws.take i)) ∧ as.Nodup ∧ r ∉ as ∧ (∀ a ∈ as, H a = none))
    ⟨[a0], none, rfl, e1.trans e2, h2, ⟨e2 _ _ h1, trivial⟩, by simp, by simpa using nr, by simpa using n1⟩ (fun _ _ _ _ h => by obtain ⟨_, _, _, e, _⟩ := h; exact sq_l (e _ _ hp)) ?_ ?_
  · rintro i x σ H4 H5 hi ⟨as, y, rfl, e4, hr, hPL, nd, rn, fr⟩ ⟨rfl, hx⟩
    rw [List.getElem?_map] at hx
    obtain ⟨w, hw1, rfl⟩ := Option.map_eq_some_iff.mp hx
    rw [List.length_map] at hi
    have hlen := PL.len hPL
    have hlp := partsW_len (ws.take i)
    rw [List.length_take] at hlp
    have hwl := hw.2
    obtain ⟨pss, pl, hpw⟩ := partsW_ne (ws.take i)
    walk_at "rd"
    refine c_d (fun hc => ?_) (fun hc => ?_)
    · walk_at "rd"
      refine ⟨ty_l hr, ?_⟩
      walk_at "rd"
      refine c_lstE (by simp) (fun a6 H6 n6 e6 h6 => ?_)
      walk_at "rd"
      refine g_append (e6 _ _ hr) (by rw [List.length_map]; omega) (fun H7 e7 h7 => ?_)
      walk_at "rd"
      have n6r : a6 ≠ r := fun k => by rw [k, hr] at n6; cases n6
      refine ⟨as ++ [a6], _, rfl, ex_exb (e4.trans e6) n0r e7, by rw [h7, List.map_append]; rfl, ?_, ?_, ?_, ?_⟩
      · rw [take_snoc hw1, partsW_snoc, hc, addW_comma _ (by rw [hpw]; simp)]
        exact PL.snoc (ps := []) (e7 _ _ n6r h6) (PL.exb e7 rn (PL.ex e6 hPL))
      · refine nodup_snoc nd fun k => ?_
        obtain ⟨j, hj⟩ := List.getElem?_of_mem k
        obtain ⟨ps, -, hps⟩ := PL.get hPL hj
        rw [n6] at hps; cases hps
      · intro k
        rcases List.mem_append.mp k with k | k
        · exact rn k
        · exact n6r (List.mem_singleton.mp k).symm
      · intro a ha
        rcases List.mem_append.mp ha with k | k
        · exact fr a k
        · rw [List.mem_singleton.mp k]; exact fresh_back e4 n6
    · have has : ∃ as' al, as = as' ++ [al] := by
        have : as ≠ [] := fun k => by rw [k, hpw] at hlen; simp at hlen
        exact ⟨_, _, (List.dropLast_concat_getLast this).symm⟩
      obtain ⟨as', al, rfl⟩ := has
      rw [hpw] at hPL
      obtain ⟨hP', hal⟩ := PL.split hPL
      walk_at "rd"
      refine g_ix_l (v := .ref al) (sq_l hr) (by rw [List.map_append]; exact atI_last _ _) ?_
      walk_at "rd"
      refine ⟨ty_l hal, ?_⟩
      walk_at "rd"
      have hpl := addW_each (n := ws.length) (ws.take i) (by rw [List.length_take]; omega) pl (by rw [hpw]; simp)
      refine g_append hal (by rw [List.length_map]; omega) (fun H7 e7 h7 => ?_)
      walk_at "rd"
      have nal : H al = none := fr al (by simp)
      have nr2 : r ≠ al := fun k => rn (by rw [k]; simp)
      refine ⟨as' ++ [al], _, rfl, ex_exb e4 nal e7, e7 _ _ nr2 hr, ?_, nd, rn, fr⟩
      rw [take_snoc hw1, partsW_snoc, hpw, addW_word hc]
      refine PL.snoc (by rw [h7, List.map_append]; rfl) (PL.exb e7 ?_ hP')
      exact fun k => (List.nodup_append.mp nd).2.2 _ k _ (by simp) rfl
  · rintro σ H4 ⟨as, y, rfl, e4, hr, hPL, nd, rn, fr⟩
    rw [List.length_map, List.take_of_length_le (Nat.le_refl _)] at hPL
    walk_at "rd"
    exact q r as H4 e4 n0r fr hr hPL

end
end K04

set_option maxHeartbeats 800000
namespace K04
open PySem PySem.Spec PyProof.Rows L2 Evl Gx
local macro_rules | `(tactic| walk_at "get") => `(tactic| first
  | assumption
  | exact upd_same
  | ((with_reducible refine sq_l ?_); walk_at "get")
  | ((with_reducible refine sq_t ?_); walk_at "get")
  | ((with_reducible refine ex_l (by assumption) ?_); walk_at "get")
  | ((with_reducible refine ex_t (by assumption) ?_); walk_at "get")
  | ((with_reducible refine Draw.ex (by assumption) ?_); walk_at "get")
  | ((with_reducible refine Arg.ex (by assumption) ?_); walk_at "get")
  | ((with_reducible refine IsRule.ex (by assumption) ?_); walk_at "get")
  | ((with_reducible refine Thing.ex (by assumption) ?_); walk_at "get")
  | ((with_reducible refine exget (by assumption) ?_); walk_at "get"))
local macro_rules | `(tactic| walk_at "rd1") => `(tactic| first
  | (with_reducible refine c_seq ?_)
  | (with_reducible refine c_next ?_)
  | (with_reducible refine c_drop ?_)
  | (with_reducible refine c_ret ?_)
  | (with_reducible refine c_retN ?_)
  | (with_reducible refine c_ifs ?_)
  | (with_reducible refine c_c ?_)
  | (with_reducible refine c_op ?_)
  | (with_reducible refine c_un ?_)
  | (with_reducible refine c_cb ?_)
  | (with_reducible refine c_nil ?_)
  | (with_reducible refine c_cons ?_)
  | (with_reducible refine c_call ?_)
  | (with_reducible refine c_callK ?_)
  | (with_reducible refine c_test ?_)
  | (with_reducible refine c_tB ?_)
  | (with_reducible refine c_and ?_)
  | (with_reducible refine c_or ?_)
  | (with_reducible refine c_not ?_)
  | (with_reducible refine c_andV ?_)
  | (with_reducible refine c_orV ?_)
  | (with_reducible refine c_notV ?_)
  | (with_reducible refine c_if ?_)
  | (with_reducible refine c_chain ?_)
  | (with_reducible refine c_sl ?_)
  | (with_reducible refine c_nop ?_)
  | (with_reducible refine c_part ?_)
  | (with_reducible refine c_lst ?_)
  | (with_reducible refine c_tup ?_)
  | (with_reducible refine c_bl ?_)
  | (with_reducible refine c_blP ?_)
  | (with_reducible refine c_parti ?_)
  | (with_reducible refine c_t ?_)
  | (with_reducible refine c_f ?_)
  | (with_reducible refine g_add_i ?_)
  | (with_reducible refine g_sub_i ?_)
  | (with_reducible refine g_neg ?_)
  | (with_reducible refine g_eq_i ?_)
  | (with_reducible refine g_eq_st ?_)
  | (with_reducible refine g_eq_b ?_)
  | (with_reducible refine g_ne_i ?_)
  | (with_reducible refine g_ne_st ?_)
  | (with_reducible refine g_ne_b ?_)
  | (with_reducible refine g_lt_i ?_)
  | (with_reducible refine g_le_i ?_)
  | (with_reducible refine g_gt_i ?_)
  | (with_reducible refine g_ge_i ?_)
  | (with_reducible refine g_le_s ?_)
  | (with_reducible refine g_in_s ?_)
  | (with_reducible refine g_ni_s ?_)
  | (with_reducible refine c_brk ?_)
  | (with_reducible refine c_cont ?_)
  | (with_reducible refine c_for ?_)
  | (with_reducible refine c_lcW ?_)
  | (with_reducible refine c_iList ?_)
  | (with_reducible refine c_iTup ?_)
  | (with_reducible refine c_iStr ?_)
  | (with_reducible refine c_iRng1 ?_)
  | (with_reducible refine c_iS ?_)
  | (with_reducible refine c_yes ?_)
  | (with_reducible refine c_sub ?_)
  | (with_reducible refine c_pair ?_)
  | (with_reducible refine c_pnil ?_)
  | (with_reducible refine c_isn ?_)
  | (with_reducible refine c_notn ?_)
  | (with_reducible refine c_sfld ?_)
  | (with_reducible refine c_fld ?_)
  | (with_reducible refine c_raise ?_)
  | (with_reducible refine c_meth0 ?_)
  | (with_reducible refine c_iEnum ?_)
  | (with_reducible refine c_bm ?_)
  | (with_reducible refine c_bm0 ?_)
  | (with_reducible refine c_mk ?_)
  | (with_reducible refine c_try ?_)
  | (with_reducible refine c_iEnumT ?_)
  | (with_reducible refine c_callKS ?_)
  | (with_reducible refine c_tryO ?_)
  | (with_reducible refine c_repl ?_)
  | (with_reducible refine c_fmt ?_)
  | (with_reducible refine c_fs ?_)
  | (with_reducible refine c_jn ?_)
  | (with_reducible refine c_jc ?_)
  | (with_reducible refine c_tru ?_)
  | (with_reducible refine c_m1 ?_)
  | (with_reducible refine c_var0 ?_)
  | (with_reducible refine c_asg0 ?_)
  | (with_reducible refine c_nam0 ?_)
  | (with_reducible refine c_var1 ?_)
  | (with_reducible refine c_asg1 ?_)
  | (with_reducible refine c_nam1 ?_)
  | (with_reducible refine c_var2 ?_)
  | (with_reducible refine c_asg2 ?_)
  | (with_reducible refine c_nam2 ?_)
  | (with_reducible refine c_var3 ?_)
  | (with_reducible refine c_asg3 ?_)
  | (with_reducible refine c_nam3 ?_)
  | (with_reducible refine c_var4 ?_)
  | (with_reducible refine c_asg4 ?_)
  | (with_reducible refine c_nam4 ?_)
  | (with_reducible refine c_var5 ?_)
  | (with_reducible refine c_asg5 ?_)
  | (with_reducible refine c_nam5 ?_)
  | (with_reducible refine c_var6 ?_)
  | (with_reducible refine c_asg6 ?_)
  | (with_reducible refine c_nam6 ?_)
  | (with_reducible refine c_var7 ?_)
  | (with_reducible refine c_asg7 ?_)
  | (with_reducible refine c_nam7 ?_)
  | (with_reducible refine c_var8 ?_)
  | (with_reducible refine c_asg8 ?_)
  | (with_reducible refine c_nam8 ?_)
  | (with_reducible refine c_var9 ?_)
  | (with_reducible refine c_asg9 ?_)
  | (with_reducible refine c_nam9 ?_)
  | (with_reducible refine c_var10 ?_)
  | (with_reducible refine c_asg10 ?_)
  | (with_reducible refine c_nam10 ?_)
  | (with_reducible refine c_var11 ?_)
  | (with_reducible refine c_asg11 ?_)
  | (with_reducible refine c_nam11 ?_)
  | (with_reducible refine c_var12 ?_)
  | (with_reducible refine c_asg12 ?_)
  | (with_reducible refine c_nam12 ?_)
  | (with_reducible refine c_var13 ?_)
  | (with_reducible refine c_asg13 ?_)
  | (with_reducible refine c_nam13 ?_)
  | (with_reducible refine c_var14 ?_)
  | (with_reducible refine c_asg14 ?_)
  | (with_reducible refine c_nam14 ?_)
  | (with_reducible refine c_var15 ?_)
  | (with_reducible refine c_asg15 ?_)
  | (with_reducible refine c_nam15 ?_)
  | (with_reducible refine c_asgG ?_)
  | ((with_reducible refine g_ix_l (xs := ?gxa) (v := ?gxb) ?gx1 ?gx2 ?gx3); (case gx1 => walk_at "get"); (case gx2 => rfl))
  | ((with_reducible refine g_len_l (xs := ?gxa) (.inl ?gx1) ?gx3); (case gx1 => walk_at "get"))
  | ((with_reducible refine g_mod_i ?gx1 ?gx3); (case gx1 => omega)))
local macro_rules | `(tactic| walk_at "rd") => `(tactic| repeat walk_at "rd1")
local macro_rules | `(tactic| walk_at "rs1") => `(tactic| first
  | (with_reducible refine c_next ?_)
  | (with_reducible refine c_drop ?_)
  | (with_reducible refine c_ret ?_)
  | (with_reducible refine c_retN ?_)
  | (with_reducible refine c_ifs ?_)
  | (with_reducible refine c_c ?_)
  | (with_reducible refine c_op ?_)
  | (with_reducible refine c_un ?_)
  | (with_reducible refine c_cb ?_)
  | (with_reducible refine c_nil ?_)
  | (with_reducible refine c_cons ?_)
  | (with_reducible refine c_call ?_)
  | (with_reducible refine c_callK ?_)
  | (with_reducible refine c_test ?_)
  | (with_reducible refine c_tB ?_)
  | (with_reducible refine c_and ?_)
  | (with_reducible refine c_or ?_)
  | (with_reducible refine c_not ?_)
  | (with_reducible refine c_andV ?_)
  | (with_reducible refine c_orV ?_)
  | (with_reducible refine c_notV ?_)
  | (with_reducible refine c_chain ?_)
  | (with_reducible refine c_sl ?_)
  | (with_reducible refine c_nop ?_)
  | (with_reducible refine c_part ?_)
  | (with_reducible refine c_lst ?_)
  | (with_reducible refine c_tup ?_)
  | (with_reducible refine c_bl ?_)
  | (with_reducible refine c_blP ?_)
  | (with_reducible refine c_parti ?_)
  | (with_reducible refine c_t ?_)
  | (with_reducible refine c_f ?_)
  | (with_reducible refine g_add_i ?_)
  | (with_reducible refine g_sub_i ?_)
  | (with_reducible refine g_neg ?_)
  | (with_reducible refine g_eq_i ?_)
  | (with_reducible refine g_eq_st ?_)
  | (with_reducible refine g_eq_b ?_)
  | (with_reducible refine g_ne_i ?_)
  | (with_reducible refine g_ne_st ?_)
  | (with_reducible refine g_ne_b ?_)
  | (with_reducible refine g_lt_i ?_)
  | (with_reducible refine g_le_i ?_)
  | (with_reducible refine g_gt_i ?_)
  | (with_reducible refine g_ge_i ?_)
  | (with_reducible refine g_le_s ?_)
  | (with_reducible refine g_in_s ?_)
  | (with_reducible refine g_ni_s ?_)
  | (with_reducible refine c_brk ?_)
  | (with_reducible refine c_cont ?_)
  | (with_reducible refine c_for ?_)
  | (with_reducible refine c_lcW ?_)
  | (with_reducible refine c_iList ?_)
  | (with_reducible refine c_iTup ?_)
  | (with_reducible refine c_iStr ?_)
  | (with_reducible refine c_iRng1 ?_)
  | (with_reducible refine c_iS ?_)
  | (with_reducible refine c_yes ?_)
  | (with_reducible refine c_sub ?_)
  | (with_reducible refine c_pair ?_)
  | (with_reducible refine c_pnil ?_)
  | (with_reducible refine c_isn ?_)
  | (with_reducible refine c_notn ?_)
  | (with_reducible refine c_sfld ?_)
  | (with_reducible refine c_fld ?_)
  | (with_reducible refine c_raise ?_)
  | (with_reducible refine c_meth0 ?_)
  | (with_reducible refine c_iEnum ?_)
  | (with_reducible refine c_bm ?_)
  | (with_reducible refine c_bm0 ?_)
  | (with_reducible refine c_mk ?_)
  | (with_reducible refine c_try ?_)
  | (with_reducible refine c_iEnumT ?_)
  | (with_reducible refine c_callKS ?_)
  | (with_reducible refine c_tryO ?_)
  | (with_reducible refine c_repl ?_)
  | (with_reducible refine c_fmt ?_)
  | (with_reducible refine c_fs ?_)
  | (with_reducible refine c_jn ?_)
  | (with_reducible refine c_jc ?_)
  | (with_reducible refine c_tru ?_)
  | (with_reducible refine c_m1 ?_)
  | (with_reducible refine c_var0 ?_)
  | (with_reducible refine c_asg0 ?_)
  | (with_reducible refine c_nam0 ?_)
  | (with_reducible refine c_var1 ?_)
  | (with_reducible refine c_asg1 ?_)
  | (with_reducible refine c_nam1 ?_)
  | (with_reducible refine c_var2 ?_)
  | (with_reducible refine c_asg2 ?_)
  | (with_reducible refine c_nam2 ?_)
  | (with_reducible refine c_var3 ?_)
  | (with_reducible refine c_asg3 ?_)
  | (with_reducible refine c_nam3 ?_)
  | (with_reducible refine c_var4 ?_)
  | (with_reducible refine c_asg4 ?_)
  | (with_reducible refine c_nam4 ?_)
  | (with_reducible refine c_var5 ?_)
  | (with_reducible refine c_asg5 ?_)
  | (with_reducible refine c_nam5 ?_)
  | (with_reducible refine c_var6 ?_)
  | (with_reducible refine c_asg6 ?_)
  | (with_reducible refine c_nam6 ?_)
  | (with_reducible refine c_var7 ?_)
  | (with_reducible refine c_asg7 ?_)
  | (with_reducible refine c_nam7 ?_)
  | (with_reducible refine c_var8 ?_)
  | (with_reducible refine c_asg8 ?_)
  | (with_reducible refine c_nam8 ?_)
  | (with_reducible refine c_var9 ?_)
  | (with_reducible refine c_asg9 ?_)
  | (with_reducible refine c_nam9 ?_)
  | (with_reducible refine c_var10 ?_)
  | (with_reducible refine c_asg10 ?_)
  | (with_reducible refine c_nam10 ?_)
  | (with_reducible refine c_var11 ?_)
  | (with_reducible refine c_asg11 ?_)
  | (with_reducible refine c_nam11 ?_)
  | (with_reducible refine c_var12 ?_)
  | (with_reducible refine c_asg12 ?_)
  | (with_reducible refine c_nam12 ?_)
  | (with_reducible refine c_var13 ?_)
  | (with_reducible refine c_asg13 ?_)
  | (with_reducible refine c_nam13 ?_)
  | (with_reducible refine c_var14 ?_)
  | (with_reducible refine c_asg14 ?_)
  | (with_reducible refine c_nam14 ?_)
  | (with_reducible refine c_var15 ?_)
  | (with_reducible refine c_asg15 ?_)
  | (with_reducible refine c_nam15 ?_)
  | (with_reducible refine c_asgG ?_)
  | ((with_reducible refine g_ix_l (xs := ?gxa) (v := ?gxb) ?gx1 ?gx2 ?gx3); (case gx1 => walk_at "get"); (case gx2 => rfl))
  | ((with_reducible refine g_len_l (xs := ?gxa) (.inl ?gx1) ?gx3); (case gx1 => walk_at "get"))
  | ((with_reducible refine g_mod_i ?gx1 ?gx3); (case gx1 => omega)))
local macro_rules | `(tactic| walk_at "rs") => `(tactic| repeat walk_at "rs1")
section
variable {P : Program} {w : World} {K : PySem.W.Frag} {mg : Str → Option Value} {base : Heap} {Z : Ads}
theorem sIx_n (n d k : Nat) : HT.sIx n d (some (k : Int)) = min k n := HT.sIx_nat ..
theorem cutV_dropN (xs : List V) (k : Nat) : cutV xs (some (k : Int)) none = xs.drop k := cut_drop ..
theorem thing_s {H : Hp} {w : Str} (h : w.length ≤ 1000 ∧ okS w) : Thing H (.str w) := h
theorem WOk.tail {w : Str} {r : List Str} (h : WOk (w :: r)) : WOk r := ⟨fun v hv => h.1 v (.tail _ hv), by have := h.2; rw [List.length_cons] at this; omega⟩
theorem rd_rule_in {vs : List V} {H : Hp} {Q : VK} {E : XK} (h : sp_rule_in K Z vs H Q E) : t_rule_in K Z { nx := fun _ H' => Q .non H', rt := Q } (start ["words"] vs) H := by
  obtain ⟨p, ws, rfl, hp, hw, qs, qn⟩ := h
  show t_rule_in K Z _ [some (.ref p)] H
  unfold t_rule_in
  walk_at "rd"
  cases ws with
  | nil =>
    refine ⟨false, .inl ⟨_, sq_l hp, rfl⟩, ?_⟩
    refine c_t ?_
    walk_at "rd"
    exact qn rfl H (Ex.refl _)
  | cons w r =>
    refine ⟨true, .inl ⟨_, sq_l hp, rfl⟩, ?_⟩
    refine c_f ?_
    walk_at "rd"
    refine g_ix_l (v := .str w) (sq_l hp) atI0 ?_
    walk_at "rd"
    refine c_d (fun hc => ?_) (fun hc => ?_)
    · walk_at "rd"
      refine g_sl_l (sq_l hp) (fun q1 H1 n1 e1 h1 => ?_)
      walk_at "rd"
      have h1' : H1 q1 = some (.lst (r.map V.str)) := by rw [h1]; exact congrArg (fun l => some (HO.lst l)) (cutV_dropN ((w :: r).map V.str) 1)
      have er : ruleW (w :: r) = withW .non r := by show (if w = "never" then _ else _) = _; rw [if_pos hc]
      exact ⟨.non, q1, r, rfl, trivial, h1', hw.tail, fun a b u H' hh e' hr => qs a _ b u H' (by rw [er]; exact hh) (e1.trans e') hr, fun hh H' e' => qn (by rw [er]; exact hh) H' (e1.trans e')⟩
    · walk_at "rd"
      refine c_d (fun hl => ?_) (fun hl => ?_)
      · have hr : r = [] := by cases r with
          | nil => rfl
          | cons a b => simp at hl; omega
        subst hr
        walk_at "rd"
        refine c_lstE (by simp) (fun q1 H1 n1 e1 h1 => ?_)
        have er : ruleW [w] = withW (.str w) [] := by show (if w = "never" then _ else _) = _; rw [if_neg hc]
        exact ⟨.str w, q1, [], rfl, hw.1 w (.head _), h1, hw.tail, fun a b u H' hh e' hr => qs a _ b u H' (by rw [er]; exact hh) (e1.trans e') hr, fun hh H' e' => qn (by rw [er]; exact hh) H' (e1.trans e')⟩
      · obtain ⟨a, r2, rfl⟩ : ∃ a r2, r = a :: r2 := by
          cases r with
          | nil => exact absurd (by simp) hl
          | cons a b => exact ⟨a, b, rfl⟩
        have er : ruleW (w :: a :: r2) = if a = "<-" ∧ r2 ≠ [] then withW (.str w) r2 else none := by show (if w = "never" then _ else _) = _; rw [if_neg hc]
        have no : ∀ H', Ex H H' → ¬ (a = "<-" ∧ r2 ≠ []) → Q .non H' := fun H' e' k => qn (by rw [er, if_neg k]) H' e'
        walk_at "rd"
        refine g_ix_l (v := .str a) (sq_l hp) atI1 ?_
        walk_at "rd"
        refine c_d (fun ha => ?_) (fun ha => ?_)
        · walk_at "rd"
          refine c_d (fun h2 => ?_) (fun h2 => ?_)
          · have hr2 : r2 ≠ [] := fun k => by subst k; simp at h2
            walk_at "rd"
            refine g_ix_l (v := .str w) (sq_l hp) atI0 ?_
            walk_at "rd"
            refine g_sl_l (sq_l hp) (fun q1 H1 n1 e1 h1 => ?_)
            walk_at "rd"
            have h1' : H1 q1 = some (.lst (r2.map V.str)) := by rw [h1]; exact congrArg (fun l => some (HO.lst l)) (cutV_dropN ((w :: a :: r2).map V.str) 2)
            exact ⟨.str w, q1, r2, rfl, hw.1 w (.head _), h1', hw.tail.tail, fun a' b u H' hh e' hr => qs a' _ b u H' (by rw [er, if_pos ⟨ha, hr2⟩]; exact hh) (e1.trans e') hr, fun hh H' e' => qn (by rw [er, if_pos ⟨ha, hr2⟩]; exact hh) H' (e1.trans e')⟩
          · walk_at "rd"
            exact no H (Ex.refl _) fun k => h2 (by
              have : 0 < r2.length := List.length_pos_iff.mpr k.2
              simp; omega)
        · walk_at "rd"
          exact no H (Ex.refl _) fun k => ha k.1
theorem rd_read_rule {vs : List V} {H : Hp} {Q : VK} {E : XK} (h : sp_read_rule K Z vs H Q E) : t_read_rule K Z { nx := fun _ H' => Q .non H', rt := Q } (start ["text", "rule"] vs) H := by
  obtain ⟨z, h, b, u, rfl, hz, hok, hw, hr, q⟩ := h
  show t_read_rule K Z _ [some (.str z), none] H
  unfold t_read_rule
  walk_at "rd"
  refine g_isi_str (x := .str z) ⟨hz, hok⟩ ?_
  walk_at "rd"
  refine c_t ?_
  walk_at "rd"
  refine ⟨z, rfl, hz, Nat.le_trans hw.2 (by omega), fun p H1 e1 h1 => ?_⟩
  walk_at "rd"
  refine ⟨p, _, rfl, h1, hw, fun a h' b' u' H2 e e2 hI => ?_, fun e => by rw [hr] at e; cases e⟩
  rw [hr] at e
  cases e
  walk_at "rd"
  refine c_f ?_
  walk_at "rd"
  exact q a H2 (e1.trans e2) hI
theorem rd_Rule___str__ {vs : List V} {H : Hp} {Q : VK} {E : XK} (h : sp_Rule___str__ K Z vs H Q E) : t_Rule___str__ K Z { nx := fun _ H' => Q .non H', rt := Q } (start ["self"] vs) H := by
  obtain ⟨a, h, bs, us, rfl, hr, q⟩ := h
  show t_Rule___str__ K Z _ [some (.ref a)] H
  unfold t_Rule___str__
  walk_at "rd"
  have hr0 := hr
  obtain ⟨dx, pb, pu, ha, _⟩ := hr0
  refine ⟨a, dx, _, rfl, ha, rfl, ?_⟩
  walk_at "rd"
  refine ⟨a, h, bs, us, rfl, hr, fun H1 e1 => ?_⟩
  exact g_strS (q H1 e1)
theorem strs_flat {ss : List Str} : (ss.map V.str).all flatV = true := flat_str ss
theorem sum_len {n : Nat} : ∀ {l : List Str}, (∀ z ∈ l, z.length ≤ n) → (l.map (·.length)).sum ≤ l.length * n
  | [], _ => by simp
  | x :: l, h => by
    have := sum_len (l := l) fun z hz => h z (.tail _ hz)
    have hx := h x (.head _)
    rw [List.map_cons, List.sum_cons, List.length_cons, Nat.succ_mul]; omega
theorem join_le {n : Nat} {a : Str} {l : List Str} (h : ∀ z ∈ l, z.length ≤ n) : (Txt.join a l).length ≤ l.length * n + l.length * a.length := by
  rw [TL.join_eq]
  exact Nat.le_trans (StrLaws.join_length_le a l) (Nat.add_le_add_right (sum_len h) _)
theorem not_len (u : Str) : (("not " : Str) ++ u).length = 4 + u.length := by rw [len_app]; rw [show ("not " : Str).length = 4 by decide +kernel]
theorem gr_len {bs us : List Str} (hb : Names bs) (hu : Names us) (lb : bs.length ≤ 6) (lu : us.length ≤ 4) : (∀ z ∈ bs ++ us.map (fun u => ("not " : Str) ++ u), z.length ≤ 12) ∧ (bs ++ us.map (fun u => ("not " : Str) ++ u)).length ≤ 10 ∧ (grS bs us).length ≤ 140 := by
  have h1 : ∀ z ∈ bs ++ us.map (fun u => ("not " : Str) ++ u), z.length ≤ 12 := fun z hz => by
    rcases List.mem_append.mp hz with k | k
    · have := nameS_len (hb z k); omega
    · obtain ⟨u, hm, rfl⟩ := List.mem_map.mp k
      rw [not_len]; have := nameS_len (hu u hm); omega
  have h2 : (bs ++ us.map (fun u => ("not " : Str) ++ u)).length ≤ 10 := by rw [List.length_append, List.length_map]; omega
  refine ⟨h1, h2, ?_⟩
  have := join_le (a := ", ") h1
  rw [show (", " : Str).length = 2 by decide +kernel] at this
  unfold grS
  omega
theorem names_of {bs : List Str} {m : Nat} (h : nmsO (some (bs.map V.str)) m = true) : Names bs ∧ bs.length ≤ m ∧ bs.Nodup := by
  rw [nmsO_some, Bool.and_eq_true, Bool.and_eq_true, decide_eq_true_iff, decide_eq_true_iff, List.length_map] at h
  refine ⟨fun z hz => ?_, h.1, nodup_strs.mp h.2.2⟩
  have := List.all_eq_true.mp h.2.1 (.str z) (List.mem_map.mpr ⟨z, hz, rfl⟩)
  simpa [isNm] using this
theorem gr_empty {bs us : List Str} (hb : Names bs) (hu : Names us) : grS bs us = "" ↔ bs ++ us = [] := by
  constructor
  · intro e
    have e2 := tl_grS bs us
    rw [e, show TL.tl ("" : Str) = [] by decide +kernel] at e2
    have h3 := wl_items (items_ok hb hu)
    rw [← e2, wl_nil] at h3
    by_cases z : itemsW bs us = []
    · obtain ⟨z1, z2⟩ := List.append_eq_nil_iff.mp z
      rw [List.map_eq_nil_iff.mp z1, List.map_eq_nil_iff.mp z2]; rfl
    · exact absurd (List.map_eq_nil_iff.mp h3.symm) (joinW_ne z (items_ne bs us))
  · intro e
    obtain ⟨rfl, rfl⟩ := List.append_eq_nil_iff.mp e
    decide +kernel
theorem c_if' {a b : Bool} {X Y : Prop} (e : a = b) (h : if b = true then X else Y) : if a = true then X else Y := by rw [e]; exact h
theorem lE : (Str.empty).length = 0 := rfl
theorem lNot : ("not " : Str).length = 4 := by decide +kernel
theorem lNever : ("never " : Str).length = 6 := by decide +kernel
theorem lArrow : (" <- " : Str).length = 4 := by decide +kernel
local macro_rules | `(tactic| walk_at "js") => `(tactic| first | (refine ⟨_, rfl, sz_of ?hl, ?_⟩; (case hl => (simp only [len_app, lE, lNot, lNever, lArrow]; omega))) | (refine ⟨sz_of ?hl, ?_⟩; (case hl => (simp only [len_app, lE, lNot, lNever, lArrow]; omega))))
theorem rd_Rule_text {vs : List V} {H : Hp} {Q : VK} {E : XK} (R : RuleC K Z.Rule) (h : sp_Rule_text K Z vs H Q E) : t_Rule_text K Z { nx := fun _ H' => Q .non H', rt := Q } (start ["self", "grounds", "name"] vs) H := by
  obtain ⟨a, h, bs, us, rfl, hI, q⟩ := h
  have hI0 := hI
  obtain ⟨dx, pb, pu, ha, hb, hu, hh, nb, nu⟩ := hI0
  obtain ⟨nbs, lbs, -⟩ := names_of nb
  obtain ⟨nus, lus, -⟩ := names_of nu
  obtain ⟨gl1, gl2, gl3⟩ := gr_len nbs nus lbs lus
  show t_Rule_text K Z _ [some (.ref a), none, none] H
  unfold t_Rule_text
  walk_at "rd"
  refine c_m1s ?_
  walk_at "rd"
  refine g_fld ha R.cls R.nb rfl ?_
  walk_at "rd"
  refine g_listS (.inr hb) (fun l1 H1 n1 e1 h1 => ?_)
  walk_at "rd"
  refine g_fld (e1 _ _ ha) R.cls R.nu rfl ?_
  walk_at "rd"
  refine c_iT (ex_t e1 hu) ?_
  refine c_lc walk_tup (fun i acc => acc = ((us.take i).map fun u => V.str (("not " : Str) ++ u))) (σ0 := [some (.ref a), none, none]) rfl (by rw [List.length_map]; omega) rfl (fun H' e' => ex_t (e1.trans e') hu) ?_ ?_
  · intro i acc x H2 H3 Q1 Q0 hi hacc e2 hy k1 k0
    obtain ⟨rfl, hx⟩ := hy
    rw [List.getElem?_map] at hx
    obtain ⟨w, hw1, rfl⟩ := Option.map_eq_some_iff.mp hx
    have lw := nameS_len (nus w (List.mem_of_getElem? hw1))
    walk_at "rd"
    refine ⟨rfl, ?_⟩
    walk_at "rd"
    walk_at "js"
    walk_at "rd"
    refine c_fmtS (by omega) ?_
    walk_at "js"
    walk_at "rd"
    refine k1 _ _ (Ex.refl _) ?_
    rw [hacc, take_snoc hw1, List.map_append]
    congr 1
  · intro D H2 xs nD e2 hxs _ hD2
    rw [List.length_map, List.take_of_length_le (Nat.le_refl _)] at hxs
    have hD2' : H2 D = some (.lst ((us.map fun u => ("not " : Str) ++ u).map V.str)) := by rw [hD2, hxs, List.map_map]; rfl
    refine g_add_l (e2 _ _ h1) hD2' (by simp only [List.length_map]; omega) (fun r H3 n3 e3 h3 => ?_)
    rw [← List.map_append] at h3
    have hs := sum_len gl1
    refine g_join (ys := bs ++ us.map fun u => ("not " : Str) ++ u) (.inl (sq_l h3)) (by rw [show (", " : Str).length = 2 by decide +kernel]; omega) ?_
    walk_at "rd"
    have t3 := e1.trans (e2.trans e3)
    refine g_fld (t3 _ _ ha) R.cls R.nh rfl ?_
    walk_at "rd"
    have q3 := q H3 t3
    have hge := gr_empty nbs nus
    have lh : (headT h).length ≤ 8 := by
      cases h with
      | str z => exact nameS_len (z := z) (by simpa [isNm] using hh)
      | _ => show ("never" : Str).length ≤ 8; decide +kernel
    refine c_d (fun hn => ?_) (fun hn => ?_)
    · subst hn
      walk_at "rd"
      refine ⟨_, tru_s (show (grS bs us).length ≤ 100000 by omega), ?_⟩
      refine c_nd (fun hg => ?_) (fun hg => ?_)
      · walk_at "rd"
        walk_at "js"
        walk_at "rd"
        refine c_fmtS (y := grS bs us) (by omega) ?_
        walk_at "js"
        walk_at "rd"
        unfold ruleText at q3
        rw [if_neg (fun k => hg (hge.mpr k)), if_pos rfl] at q3
        exact q3
      · walk_at "rd"
        unfold ruleText at q3
        rw [if_pos (hge.mp hg)] at q3
        exact q3
    · obtain ⟨z, rfl, nz⟩ : ∃ z, h = .str z ∧ nameS z = true := by
        cases h with
        | str z => exact ⟨z, rfl, by simpa [isNm] using hh⟩
        | non => exact absurd rfl hn
        | _ => simp [isNm] at hh
      have lz := nameS_len nz
      walk_at "rd"
      refine ⟨_, tru_s (show (grS bs us).length ≤ 100000 by omega), ?_⟩
      refine c_nd (fun hg => ?_) (fun hg => ?_)
      · walk_at "rd"
        refine g_fld (t3 _ _ ha) R.cls R.nh rfl ?_
        refine c_fmtS (by omega) ?_
        walk_at "js"
        walk_at "rd"
        walk_at "js"
        walk_at "rd"
        refine c_fmtS (y := grS bs us) (by omega) ?_
        walk_at "js"
        walk_at "rd"
        unfold ruleText at q3
        rw [if_neg (fun k => hg (hge.mpr k)), if_neg hn] at q3
        have e0 : Str.empty ++ z = z := TL.ext_tl (by rw [TL.tl_append]; rfl)
        show Q (.str (Str.empty ++ z ++ " <- " ++ grS bs us)) H3
        rw [e0]
        exact q3
      · walk_at "rd"
        refine g_fld (t3 _ _ ha) R.cls R.nh rfl ?_
        unfold ruleText at q3
        rw [if_pos (hge.mp hg)] at q3
        exact q3

theorem empty_app (z : Str) : Str.empty ++ z = z := TL.ext_tl (by rw [TL.tl_append]; rfl)
theorem join1 (a x : Str) : Txt.join a [x] = x := by rw [TL.join_eq]; rfl
theorem join2 (a x y : Str) : Txt.join a [x, y] = x ++ a ++ y := by rw [TL.join_eq]; rfl
theorem rd__law_text {vs : List V} {H : Hp} {Q : VK} {E : XK} (h : sp__law_text K vs H Q E) : t__law_text K Z { nx := fun _ H' => Q .non H', rt := Q } (start ["parts", "some", "name"] vs) H := by
  obtain ⟨q0, h, b, u, bs, us, rfl, ⟨hq, hb, hu, hg, nbs, nus⟩, q⟩ := h
  have hg0 := hg
  unfold goodR at hg0
  rw [Bool.and_eq_true, Bool.and_eq_true] at hg0
  obtain ⟨hh, nb, nu⟩ := hg0
  obtain ⟨-, lbs, -⟩ := names_of nb
  obtain ⟨-, lus, -⟩ := names_of nu
  obtain ⟨gl1, gl2, gl3⟩ := gr_len nbs nus lbs lus
  show t__law_text K Z _ [some (.ref q0), none, none] H
  unfold t__law_text
  walk_at "rd"
  refine g_ix_t (v := .ref b) (sq_t hq) atI1 ?_
  walk_at "rd"
  refine g_listS (.inr (sq_t hb)) (fun l1 H1 n1 e1 h1 => ?_)
  walk_at "rd"
  refine g_ix_t (v := .ref u) (sq_t (e1 _ _ hq)) atI2 ?_
  refine c_iT (sq_t (e1 _ _ hu)) ?_
  refine c_lc walk_tup (fun i acc => acc = ((us.take i).map fun u => V.str (("not " : Str) ++ u))) (σ0 := [some (.ref q0), none, none]) rfl (by rw [List.length_map]; omega) rfl (fun H' e' => sq_t (e' _ _ (e1 _ _ hu))) ?_ ?_
  · intro i acc x H2 H3 Q1 Q0 hi hacc e2 hy k1 k0
    obtain ⟨rfl, hx⟩ := hy
    rw [List.getElem?_map] at hx
    obtain ⟨w, hw1, rfl⟩ := Option.map_eq_some_iff.mp hx
    have lw := nameS_len (nus w (List.mem_of_getElem? hw1))
    walk_at "rd"
    refine ⟨rfl, ?_⟩
    walk_at "rd"
    refine g_add_s (by rw [lNot]; omega) ?_
    refine k1 _ _ (Ex.refl _) ?_
    rw [hacc, take_snoc hw1, List.map_append]; rfl
  · intro D H2 xs nD e2 hxs _ hD2
    rw [List.length_map, List.take_of_length_le (Nat.le_refl _)] at hxs
    have hD2' : H2 D = some (.lst ((us.map fun u => ("not " : Str) ++ u).map V.str)) := by rw [hD2, hxs, List.map_map]; rfl
    refine g_add_l (e2 _ _ h1) hD2' (by simp only [List.length_map]; omega) (fun r H3 n3 e3 h3 => ?_)
    rw [← List.map_append] at h3
    have t3 := e1.trans (e2.trans e3)
    have hs := sum_len gl1
    have lC : (", " : Str).length = 2 := by decide +kernel
    have lh : (headT h).length ≤ 8 := by
      cases h with
      | str z => exact nameS_len (z := z) (by simpa [isNm] using hh)
      | _ => show ("never" : Str).length ≤ 8; decide +kernel
    -- what is joined behind the head
    have tail : ∀ (sep : Str) (x : V) (hx : Str) (H4 : Hp) (l2 : Addr), sep.length ≤ 4 → hx.length ≤ 8 → Ex H3 H4 → H4 l2 = some (.lst [.str hx]) →
        (∀ H', Ex H4 H' → Q (.str (if bs ++ us = [] then hx else hx ++ sep ++ grS bs us)) H') →
        tSl (gSl K) (tLst (tCons (tM1 (rJoin K) (tC (.str ", ")) (tVar 1)) tNil)) tNoPart (tPart (tCB (gLen K) (tCons (tVar 1) tNil))) [some (.ref q0), some (.ref r), none] H4 (fun y H5 => gAdd K (.ref l2) y H5 fun z H6 => rJoin K (.str sep) [z] H6 Q) := by
      intro sep x hx H4 l2 ls lx e4 h4 fin
      walk_at "rd"
      refine c_m1s ?_
      walk_at "rd"
      refine g_join (ys := bs ++ us.map fun u => ("not " : Str) ++ u) (.inl (sq_l (e4 _ _ h3))) (by rw [lC]; omega) ?_
      walk_at "rd"
      refine c_lstE (by simp) (fun l3 H5 n5 e5 h5 => ?_)
      walk_at "rd"
      refine g_sl_l (sq_l h5) (fun l4 H6 n6 e6 h6 => ?_)
      by_cases em : bs ++ us = []
      · obtain ⟨rfl, rfl⟩ := List.append_eq_nil_iff.mp em
        have h6' : H6 l4 = some (.lst []) := by rw [h6]; rfl
        refine g_add_l (e6 _ _ (e5 _ _ h4)) h6' (by simp) (fun l5 H7 n7 e7 h7 => ?_)
        refine g_join (ys := [hx]) (.inl (sq_l h7)) (by simp; omega) ?_
        rw [join1]
        have := fin H7 (e5.trans (e6.trans e7))
        rw [if_pos (show ([] : List Str) ++ [] = [] from rfl)] at this
        exact this
      · have hne : 1 ≤ (bs ++ us).length := List.length_pos_iff.mpr em
        have h6' : H6 l4 = some (.lst [.str (grS bs us)]) := by
          rw [h6]
          refine congrArg (fun l => some (HO.lst l)) ?_
          unfold cutV
          rw [HT.sIx_none, HT.sIx_nat]
          simp only [List.length_map, List.length_append, List.length_cons, List.length_nil] at hne ⊢
          rw [show min (bs.length + us.length) (0 + 1) = 1 by omega]; rfl
        refine g_add_l (e6 _ _ (e5 _ _ h4)) h6' (by simp) (fun l5 H7 n7 e7 h7 => ?_)
        refine g_join (ys := [hx, grS bs us]) (.inl (sq_l h7)) (by simp; omega) ?_
        rw [join2]
        have := fin H7 (e5.trans (e6.trans e7))
        rw [if_neg em] at this
        exact this
    walk_at "rd"
    refine g_ix_t (v := h) (sq_t (t3 _ _ hq)) atI0 ?_
    walk_at "rd"
    refine c_d (fun hn => ?_) (fun hn => ?_)
    · subst hn
      walk_at "rd"
      refine c_m1s ?_
      walk_at "rd"
      refine c_lstE (by simp) (fun l2 H4 n4 e4 h4 => ?_)
      refine tail _ (.str "never") _ H4 l2 (by decide +kernel) (by decide +kernel) e4 h4 fun H' e' => ?_
      have := q H' (t3.trans (e4.trans e'))
      unfold ruleText at this
      rw [if_pos rfl] at this
      exact this
    · obtain ⟨z, rfl, nz⟩ : ∃ z, h = .str z ∧ nameS z = true := by
        cases h with
        | str z => exact ⟨z, rfl, by simpa [isNm] using hh⟩
        | non => exact absurd rfl hn
        | _ => simp [isNm] at hh
      walk_at "rd"
      refine c_m1s ?_
      walk_at "rd"
      refine g_ix_t (v := .str z) (sq_t (t3 _ _ hq)) atI0 ?_
      walk_at "rd"
      refine c_lstE (by simp) (fun l2 H4 n4 e4 h4 => ?_)
      refine tail _ (.str z) _ H4 l2 (by decide +kernel) (nameS_len nz) e4 h4 fun H' e' => ?_
      have := q H' (t3.trans (e4.trans e'))
      unfold ruleText at this
      rw [if_neg hn] at this
      exact this

end
end K04

set_option maxHeartbeats 800000
namespace K04
open PySem PySem.Spec PyProof.Rows L2 Evl Gx
local macro_rules | `(tactic| walk_at "get") => `(tactic| first
  | assumption
  | exact upd_same
  | ((with_reducible refine sq_l ?_); walk_at "get")
  | ((with_reducible refine sq_t ?_); walk_at "get")
  | ((with_reducible refine ex_l (by assumption) ?_); walk_at "get")
  | ((with_reducible refine ex_t (by assumption) ?_); walk_at "get")
  | ((with_reducible refine Draw.ex (by assumption) ?_); walk_at "get")
  | ((with_reducible refine Arg.ex (by assumption) ?_); walk_at "get")
  | ((with_reducible refine IsRule.ex (by assumption) ?_); walk_at "get")
  | ((with_reducible refine Thing.ex (by assumption) ?_); walk_at "get")
  | ((with_reducible refine exget (by assumption) ?_); walk_at "get"))
local macro_rules | `(tactic| walk_at "rd1") => `(tactic| first
  | (with_reducible refine c_seq ?_)
  | (with_reducible refine c_next ?_)
  | (with_reducible refine c_drop ?_)
  | (with_reducible refine c_ret ?_)
  | (with_reducible refine c_retN ?_)
  | (with_reducible refine c_ifs ?_)
  | (with_reducible refine c_c ?_)
  | (with_reducible refine c_op ?_)
  | (with_reducible refine c_un ?_)
  | (with_reducible refine c_cb ?_)
  | (with_reducible refine c_nil ?_)
  | (with_reducible refine c_cons ?_)
  | (with_reducible refine c_call ?_)
  | (with_reducible refine c_callK ?_)
  | (with_reducible refine c_test ?_)
  | (with_reducible refine c_tB ?_)
  | (with_reducible refine c_and ?_)
  | (with_reducible refine c_or ?_)
  | (with_reducible refine c_not ?_)
  | (with_reducible refine c_andV ?_)
  | (with_reducible refine c_orV ?_)
  | (with_reducible refine c_notV ?_)
  | (with_reducible refine c_if ?_)
  | (with_reducible refine c_chain ?_)
  | (with_reducible refine c_sl ?_)
  | (with_reducible refine c_nop ?_)
  | (with_reducible refine c_part ?_)
  | (with_reducible refine c_lst ?_)
  | (with_reducible refine c_tup ?_)
  | (with_reducible refine c_bl ?_)
  | (with_reducible refine c_blP ?_)
  | (with_reducible refine c_parti ?_)
  | (with_reducible refine c_t ?_)
  | (with_reducible refine c_f ?_)
  | (with_reducible refine g_add_i ?_)
  | (with_reducible refine g_sub_i ?_)
  | (with_reducible refine g_neg ?_)
  | (with_reducible refine g_eq_i ?_)
  | (with_reducible refine g_eq_st ?_)
  | (with_reducible refine g_eq_b ?_)
  | (with_reducible refine g_ne_i ?_)
  | (with_reducible refine g_ne_st ?_)
  | (with_reducible refine g_ne_b ?_)
  | (with_reducible refine g_lt_i ?_)
  | (with_reducible refine g_le_i ?_)
  | (with_reducible refine g_gt_i ?_)
  | (with_reducible refine g_ge_i ?_)
  | (with_reducible refine g_le_s ?_)
  | (with_reducible refine g_in_s ?_)
  | (with_reducible refine g_ni_s ?_)
  | (with_reducible refine c_brk ?_)
  | (with_reducible refine c_cont ?_)
  | (with_reducible refine c_for ?_)
  | (with_reducible refine c_lcW ?_)
  | (with_reducible refine c_iList ?_)
  | (with_reducible refine c_iTup ?_)
  | (with_reducible refine c_iStr ?_)
  | (with_reducible refine c_iRng1 ?_)
  | (with_reducible refine c_iS ?_)
  | (with_reducible refine c_yes ?_)
  | (with_reducible refine c_sub ?_)
  | (with_reducible refine c_pair ?_)
  | (with_reducible refine c_pnil ?_)
  | (with_reducible refine c_isn ?_)
  | (with_reducible refine c_notn ?_)
  | (with_reducible refine c_sfld ?_)
  | (with_reducible refine c_fld ?_)
  | (with_reducible refine c_raise ?_)
  | (with_reducible refine c_meth0 ?_)
  | (with_reducible refine c_iEnum ?_)
  | (with_reducible refine c_bm ?_)
  | (with_reducible refine c_bm0 ?_)
  | (with_reducible refine c_mk ?_)
  | (with_reducible refine c_try ?_)
  | (with_reducible refine c_iEnumT ?_)
  | (with_reducible refine c_callKS ?_)
  | (with_reducible refine c_tryO ?_)
  | (with_reducible refine c_repl ?_)
  | (with_reducible refine c_fmt ?_)
  | (with_reducible refine c_fs ?_)
  | (with_reducible refine c_jn ?_)
  | (with_reducible refine c_jc ?_)
  | (with_reducible refine c_tru ?_)
  | (with_reducible refine c_m1 ?_)
  | (with_reducible refine c_var0 ?_)
  | (with_reducible refine c_asg0 ?_)
  | (with_reducible refine c_nam0 ?_)
  | (with_reducible refine c_var1 ?_)
  | (with_reducible refine c_asg1 ?_)
  | (with_reducible refine c_nam1 ?_)
  | (with_reducible refine c_var2 ?_)
  | (with_reducible refine c_asg2 ?_)
  | (with_reducible refine c_nam2 ?_)
  | (with_reducible refine c_var3 ?_)
  | (with_reducible refine c_asg3 ?_)
  | (with_reducible refine c_nam3 ?_)
  | (with_reducible refine c_var4 ?_)
  | (with_reducible refine c_asg4 ?_)
  | (with_reducible refine c_nam4 ?_)
  | (with_reducible refine c_var5 ?_)
  | (with_reducible refine c_asg5 ?_)
  | (with_reducible refine c_nam5 ?_)
  | (with_reducible refine c_var6 ?_)
  | (with_reducible refine c_asg6 ?_)
  | (with_reducible refine c_nam6 ?_)
  | (with_reducible refine c_var7 ?_)
  | (with_reducible refine c_asg7 ?_)
  | (with_reducible refine c_nam7 ?_)
  | (with_reducible refine c_var8 ?_)
  | (with_reducible refine c_asg8 ?_)
  | (with_reducible refine c_nam8 ?_)
  | (with_reducible refine c_var9 ?_)
  | (with_reducible refine c_asg9 ?_)
  | (with_reducible refine c_nam9 ?_)
  | (with_reducible refine c_var10 ?_)
  | (with_reducible refine c_asg10 ?_)
  | (with_reducible refine c_nam10 ?_)
  | (with_reducible refine c_var11 ?_)
  | (with_reducible refine c_asg11 ?_)
  | (with_reducible refine c_nam11 ?_)
  | (with_reducible refine c_var12 ?_)
  | (with_reducible refine c_asg12 ?_)
  | (with_reducible refine c_nam12 ?_)
  | (with_reducible refine c_var13 ?_)
  | (with_reducible refine c_asg13 ?_)
  | (with_reducible refine c_nam13 ?_)
  | (with_reducible refine c_var14 ?_)
  | (with_reducible refine c_asg14 ?_)
  | (with_reducible refine c_nam14 ?_)
  | (with_reducible refine c_var15 ?_)
  | (with_reducible refine c_asg15 ?_)
  | (with_reducible refine c_nam15 ?_)
  | (with_reducible refine c_asgG ?_)
  | ((with_reducible refine g_ix_l (xs := ?gxa) (v := ?gxb) ?gx1 ?gx2 ?gx3); (case gx1 => walk_at "get"); (case gx2 => rfl))
  | ((with_reducible refine g_len_l (xs := ?gxa) (.inl ?gx1) ?gx3); (case gx1 => walk_at "get"))
  | ((with_reducible refine g_mod_i ?gx1 ?gx3); (case gx1 => omega)))
local macro_rules | `(tactic| walk_at "rd") => `(tactic| repeat walk_at "rd1")
local macro_rules | `(tactic| walk_at "rs1") => `(tactic| first
  | (with_reducible refine c_next ?_)
  | (with_reducible refine c_drop ?_)
  | (with_reducible refine c_ret ?_)
  | (with_reducible refine c_retN ?_)
  | (with_reducible refine c_ifs ?_)
  | (with_reducible refine c_c ?_)
  | (with_reducible refine c_op ?_)
  | (with_reducible refine c_un ?_)
  | (with_reducible refine c_cb ?_)
  | (with_reducible refine c_nil ?_)
  | (with_reducible refine c_cons ?_)
  | (with_reducible refine c_call ?_)
  | (with_reducible refine c_callK ?_)
  | (with_reducible refine c_test ?_)
  | (with_reducible refine c_tB ?_)
  | (with_reducible refine c_and ?_)
  | (with_reducible refine c_or ?_)
  | (with_reducible refine c_not ?_)
  | (with_reducible refine c_andV ?_)
  | (with_reducible refine c_orV ?_)
  | (with_reducible refine c_notV ?_)
  | (with_reducible refine c_chain ?_)
  | (with_reducible refine c_sl ?_)
  | (with_reducible refine c_nop ?_)
  | (with_reducible refine c_part ?_)
  | (with_reducible refine c_lst ?_)
  | (with_reducible refine c_tup ?_)
  | (with_reducible refine c_bl ?_)
  | (with_reducible refine c_blP ?_)
  | (with_reducible refine c_parti ?_)
  | (with_reducible refine c_t ?_)
  | (with_reducible refine c_f ?_)
  | (with_reducible refine g_add_i ?_)
  | (with_reducible refine g_sub_i ?_)
  | (with_reducible refine g_neg ?_)
  | (with_reducible refine g_eq_i ?_)
  | (with_reducible refine g_eq_st ?_)
  | (with_reducible refine g_eq_b ?_)
  | (with_reducible refine g_ne_i ?_)
  | (with_reducible refine g_ne_st ?_)
  | (with_reducible refine g_ne_b ?_)
  | (with_reducible refine g_lt_i ?_)
  | (with_reducible refine g_le_i ?_)
  | (with_reducible refine g_gt_i ?_)
  | (with_reducible refine g_ge_i ?_)
  | (with_reducible refine g_le_s ?_)
  | (with_reducible refine g_in_s ?_)
  | (with_reducible refine g_ni_s ?_)
  | (with_reducible refine c_brk ?_)
  | (with_reducible refine c_cont ?_)
  | (with_reducible refine c_for ?_)
  | (with_reducible refine c_lcW ?_)
  | (with_reducible refine c_iList ?_)
  | (with_reducible refine c_iTup ?_)
  | (with_reducible refine c_iStr ?_)
  | (with_reducible refine c_iRng1 ?_)
  | (with_reducible refine c_iS ?_)
  | (with_reducible refine c_yes ?_)
  | (with_reducible refine c_sub ?_)
  | (with_reducible refine c_pair ?_)
  | (with_reducible refine c_pnil ?_)
  | (with_reducible refine c_isn ?_)
  | (with_reducible refine c_notn ?_)
  | (with_reducible refine c_sfld ?_)
  | (with_reducible refine c_fld ?_)
  | (with_reducible refine c_raise ?_)
  | (with_reducible refine c_meth0 ?_)
  | (with_reducible refine c_iEnum ?_)
  | (with_reducible refine c_bm ?_)
  | (with_reducible refine c_bm0 ?_)
  | (with_reducible refine c_mk ?_)
  | (with_reducible refine c_try ?_)
  | (with_reducible refine c_iEnumT ?_)
  | (with_reducible refine c_callKS ?_)
  | (with_reducible refine c_tryO ?_)
  | (with_reducible refine c_repl ?_)
  | (with_reducible refine c_fmt ?_)
  | (with_reducible refine c_fs ?_)
  | (with_reducible refine c_jn ?_)
  | (with_reducible refine c_jc ?_)
  | (with_reducible refine c_tru ?_)
  | (with_reducible refine c_m1 ?_)
  | (with_reducible refine c_var0 ?_)
  | (with_reducible refine c_asg0 ?_)
  | (with_reducible refine c_nam0 ?_)
  | (with_reducible refine c_var1 ?_)
  | (with_reducible refine c_asg1 ?_)
  | (with_reducible refine c_nam1 ?_)
  | (with_reducible refine c_var2 ?_)
  | (with_reducible refine c_asg2 ?_)
  | (with_reducible refine c_nam2 ?_)
  | (with_reducible refine c_var3 ?_)
  | (with_reducible refine c_asg3 ?_)
  | (with_reducible refine c_nam3 ?_)
  | (with_reducible refine c_var4 ?_)
  | (with_reducible refine c_asg4 ?_)
  | (with_reducible refine c_nam4 ?_)
  | (with_reducible refine c_var5 ?_)
  | (with_reducible refine c_asg5 ?_)
  | (with_reducible refine c_nam5 ?_)
  | (with_reducible refine c_var6 ?_)
  | (with_reducible refine c_asg6 ?_)
  | (with_reducible refine c_nam6 ?_)
  | (with_reducible refine c_var7 ?_)
  | (with_reducible refine c_asg7 ?_)
  | (with_reducible refine c_nam7 ?_)
  | (with_reducible refine c_var8 ?_)
  | (with_reducible refine c_asg8 ?_)
  | (with_reducible refine c_nam8 ?_)
  | (with_reducible refine c_var9 ?_)
  | (with_reducible refine c_asg9 ?_)
  | (with_reducible refine c_nam9 ?_)
  | (with_reducible refine c_var10 ?_)
  | (with_reducible refine c_asg10 ?_)
  | (with_reducible refine c_nam10 ?_)
  | (with_reducible refine c_var11 ?_)
  | (with_reducible refine c_asg11 ?_)
  | (with_reducible refine c_nam11 ?_)
  | (with_reducible refine c_var12 ?_)
  | (with_reducible refine c_asg12 ?_)
  | (with_reducible refine c_nam12 ?_)
  | (with_reducible refine c_var13 ?_)
  | (with_reducible refine c_asg13 ?_)
  | (with_reducible refine c_nam13 ?_)
  | (with_reducible refine c_var14 ?_)
  | (with_reducible refine c_asg14 ?_)
  | (with_reducible refine c_nam14 ?_)
  | (with_reducible refine c_var15 ?_)
  | (with_reducible refine c_asg15 ?_)
  | (with_reducible refine c_nam15 ?_)
  | (with_reducible refine c_asgG ?_)
  | ((with_reducible refine g_ix_l (xs := ?gxa) (v := ?gxb) ?gx1 ?gx2 ?gx3); (case gx1 => walk_at "get"); (case gx2 => rfl))
  | ((with_reducible refine g_len_l (xs := ?gxa) (.inl ?gx1) ?gx3); (case gx1 => walk_at "get"))
  | ((with_reducible refine g_mod_i ?gx1 ?gx3); (case gx1 => omega)))
local macro_rules | `(tactic| walk_at "rs") => `(tactic| repeat walk_at "rs1")
section
variable {P : Program} {w : World} {K : PySem.W.Frag} {mg : Str → Option Value} {base : Heap} {Z : Ads}
def combI (b u : List Str) : Option (List Str × List Str) → Option (List Str × List Str)
  | some r => some (b ++ r.1, u ++ r.2)
  | none => none
theorem combI_nil (o : Option (List Str × List Str)) : combI [] [] o = o := by cases o <;> rfl
theorem readIt_body (b u : List Str) (x : Str) (r : List (List Str)) : combI b u (readIt ([x] :: r)) = combI (b ++ [x]) u (readIt r) := by
  show combI b u ((readIt r).map fun p => (x :: p.1, p.2)) = _
  cases readIt r with
  | none => rfl
  | some q => show some (b ++ x :: q.1, u ++ q.2) = some (b ++ [x] ++ q.1, u ++ q.2); simp
theorem readIt_not (b u : List Str) (n x : Str) (r : List (List Str)) (h : n = "not") : combI b u (readIt ([n, x] :: r)) = combI b (u ++ [x]) (readIt r) := by
  show combI b u (if n = "not" then (readIt r).map (fun p => (p.1, x :: p.2)) else none) = _
  rw [if_pos h]
  cases readIt r with
  | none => rfl
  | some q => show some (b ++ q.1, u ++ x :: q.2) = some (b ++ q.1, u ++ [x] ++ q.2); simp
theorem readIt_none (ps : List Str) (r : List (List Str)) (h1 : ps.length ≠ 1) (h2 : ¬ (ps.length = 2 ∧ ps[0]? = some ("not" : Str))) : readIt (ps :: r) = none := by
  match ps, h1, h2 with
  | [], _, _ => rfl
  | [x], h1, _ => exact absurd rfl h1
  | [n, x], _, h2 => show (if n = "not" then _ else _) = _; rw [if_neg fun e => h2 ⟨rfl, by rw [e]; rfl⟩]
  | _ :: _ :: _ :: _, _, _ => rfl
theorem fold_mem : ∀ (l : List Str) (a : List (List Str)), a ≠ [] → ∀ p ∈ l.foldl addW a, ∀ w ∈ p, w ∈ l ∨ ∃ q ∈ a, w ∈ q
  | [], a, _, p, hp, w, hw => .inr ⟨p, hp, hw⟩
  | x :: r, a, ha, p, hp, w, hw => by
    rcases fold_mem r (addW a x) (addW_ne a x) p hp w hw with h | ⟨q, hq, hwq⟩
    · exact .inl (List.mem_cons_of_mem _ h)
    · obtain ⟨pss, p0, rfl⟩ : ∃ pss p, a = pss ++ [p] := ⟨_, _, (List.dropLast_concat_getLast ha).symm⟩
      by_cases e : x = ","
      · subst e
        rw [addW_comma _ (by simp)] at hq
        rcases List.mem_append.mp hq with k | k
        · exact .inr ⟨q, k, hwq⟩
        · rw [List.mem_singleton.mp k] at hwq; cases hwq
      · rw [addW_word e] at hq
        rcases List.mem_append.mp hq with k | k
        · exact .inr ⟨q, List.mem_append_left _ k, hwq⟩
        · rw [List.mem_singleton.mp k] at hwq
          rcases List.mem_append.mp hwq with m | m
          · exact .inr ⟨p0, by simp, m⟩
          · rw [List.mem_singleton.mp m]; exact .inl (.head _)
theorem partsW_mem {ws : List Str} {p : List Str} (hp : p ∈ partsW ws) {w : Str} (hw : w ∈ p) : w ∈ ws := by
  rcases fold_mem ws [[]] (by simp) p hp w hw with h | ⟨q, hq, k⟩
  · exact h
  · rw [List.mem_singleton.mp hq] at k; cases k
theorem arg_strs {H : Hp} {p : Addr} {ss : List Str} (hp : H p = some (.lst (ss.map V.str))) (hl : ss.length ≤ 1000) (hs : ∀ w ∈ ss, w.length ≤ 1000 ∧ okS w) : Arg K H (.ref p) (some (ss.map V.str)) :=
  ⟨⟨p, rfl, .inl (sq_l hp)⟩, by rw [List.length_map]; exact hl, fun v hv => by obtain ⟨w, hw, rfl⟩ := List.mem_map.mp hv; exact hs w hw⟩
theorem rd_rule_with {vs : List V} {H : Hp} {Q : VK} {E : XK} (kx : PySem.W.exmOne K (.ref Z.BadRule) (.ref Z.BadRule) = some true) (h : sp_rule_with K Z vs H Q E) : t_rule_with K Z { nx := fun _ H' => Q .non H', rt := Q } (start ["head", "words", "body", "unless", "parts", "part"] vs) H := by
  obtain ⟨h, p, ws, rfl, hh, hp, hw, qs, qn⟩ := h
  show t_rule_with K Z _ [some h, some (.ref p), none, none, none, none] H
  unfold t_rule_with
  walk_at "rd"
  refine c_lstE (by simp) (fun p2 H1 n1 e1 h1 => ?_)
  walk_at "rd"
  refine c_lstE (by simp) (fun p3 H2 n2 e2 h2 => ?_)
  have n23 : p3 ≠ p2 := fun k => by rw [k, h1] at n2; cases n2
  have e02 := e1.trans e2
  have hp2 := e02 _ _ hp
  have n30 : H p3 = none := fresh_back e1 n2
  let pss := if ws = [] then [] else partsW ws
  have hpss : ∀ ps ∈ pss, ∀ w ∈ ps, w ∈ ws := fun ps hps w hw' => by
    by_cases e : ws = []
    · rw [show pss = [] from if_pos e] at hps; cases hps
    · rw [show pss = partsW ws from if_neg e] at hps; exact partsW_mem hps hw'
  have hpl : pss.length ≤ 901 := by
    by_cases e : ws = []
    · rw [show pss = [] from if_pos e]; simp
    · rw [show pss = partsW ws from if_neg e]; have := partsW_len ws; have := hw.2; omega
  have none_of : readIt pss = none → withW h ws = none := fun e => by unfold withW; rw [show (if ws = [] then [] else partsW ws) = pss from rfl, e]
  have rest : ∀ H3 qd as, Ex H2 H3 → H2 qd = none → (∀ a ∈ as, H2 a = none) → H3 qd = some (.lst (as.map V.ref)) → PL H3 as pss →
      tSeq (tFor (iList K (tVar 4)) (gName 5) (tIfS (tTest (tOp (gEq K) (tCB (gLen K) (tCons (tVar 5) tNil)) (tC (.int 1)))) (tDrop (tBM K "list" rAppend (tVar 2) (tCons (tOp (rIx K) (tVar 5) (tC (.int 0))) tNil))) (tIfS (tAnd (tTest (tOp (gEq K) (tCB (gLen K) (tCons (tVar 5) tNil)) (tC (.int 2)))) (tTest (tOp (gEq K) (tOp (rIx K) (tVar 5) (tC (.int 0))) (tC (.str "not"))))) (tDrop (tBM K "list" rAppend (tVar 3) (tCons (tOp (rIx K) (tVar 5) (tC (.int 1))) tNil))) (tRet (tC .non)))))
        (tTryO K (.ref Z.BadRule) (fun _ _ _ _ => False) (fun W => (tRet (tMk Z.Rule 2 1 (sp_Rule___init__ K Z) (g_Rule_2_unless Z) (WE W) (tCons (tVar 0) (tCons (tVar 2) tNil)) (tCons (tVar 3) tNil)))) (fun a cls d => (tRet (tC .non))))
        { nx := fun _ H' => Q .non H', rt := Q } [some h, some (.ref p), some (.ref p2), some (.ref p3), some (.ref qd), none] H3 := by
    intro H3 qd as e3 nq na hq hPL
    have hlen := PL.len hPL
    have q2 : qd ≠ p2 := fun k => by rw [k, e2 _ _ h1] at nq; cases nq
    have q3 : qd ≠ p3 := fun k => by rw [k, h2] at nq; cases nq
    have a2 : p2 ∉ as := fun k => by have := na _ k; rw [e2 _ _ h1] at this; cases this
    have a3 : p3 ∉ as := fun k => by have := na _ k; rw [h2] at this; cases this
    walk_at "rd"
    refine c_iL (sq_l hq) ?_
    refine for_it walk_list (fun i σ H' => ∃ bs us y, σ = [some h, some (.ref p), some (.ref p2), some (.ref p3), some (.ref qd), y] ∧ Ex H H' ∧ H' qd = some (.lst (as.map V.ref)) ∧ PL H' as pss ∧ H' p2 = some (.lst (bs.map V.str)) ∧ H' p3 = some (.lst (us.map V.str)) ∧
        bs.length ≤ i ∧ us.length ≤ i ∧ (∀ w ∈ bs, w ∈ ws) ∧ (∀ w ∈ us, w ∈ ws) ∧ readIt pss = combI bs us (readIt (pss.drop i)))
      ⟨[], [], none, rfl, e02.trans e3, hq, hPL, e3 _ _ (e2 _ _ h1), e3 _ _ h2, Nat.le_refl _, Nat.le_refl _, by simp, by simp, by rw [List.drop_zero, combI_nil]⟩ (fun _ _ _ _ hh => by obtain ⟨_, _, _, _, _, k, _⟩ := hh; exact sq_l k) ?_ ?_
    · rintro i x σ H4 H5 hi ⟨bs, us, y, rfl, e4, hq4, hP4, hb4, hu4, lb, lu, mb, mu, hr⟩ ⟨rfl, hx⟩
      rw [List.getElem?_map] at hx
      obtain ⟨a, ha, rfl⟩ := Option.map_eq_some_iff.mp hx
      rw [List.length_map] at hi
      obtain ⟨ps, hps, hap⟩ := PL.get hP4 ha
      have hdrop : pss.drop i = ps :: pss.drop (i + 1) := by
        obtain ⟨hlt, he⟩ := List.getElem?_eq_some_iff.mp hps
        rw [List.drop_eq_getElem_cons hlt, he]
      rw [hdrop] at hr
      have mps := hpss ps (List.mem_of_getElem? hps)
      walk_at "rd"
      refine c_d (fun l1 => ?_) (fun l1 => ?_)
      · obtain ⟨b, rfl⟩ : ∃ b, ps = [b] := by
          match ps, l1 with
          | [b], _ => exact ⟨b, rfl⟩
          | [], l1 => simp at l1
          | _ :: _ :: _, l1 => simp at l1; omega
        walk_at "rd"
        refine ⟨ty_l hb4, ?_⟩
        walk_at "rd"
        refine g_append hb4 (by rw [List.length_map]; omega) (fun H6 e6 h6 => ?_)
        walk_at "rd"
        refine ⟨bs ++ [b], us, _, rfl, ex_exb e4 n1 e6, e6 _ _ q2 hq4, PL.exb e6 a2 hP4, by rw [h6, List.map_append]; rfl, e6 _ _ n23 hu4, by simp; omega, by omega, ?_, mu, by rw [hr, readIt_body]⟩
        intro w hw'
        rcases List.mem_append.mp hw' with k | k
        · exact mb w k
        · rw [List.mem_singleton.mp k]; exact mps b (.head _)
      · have fail : ¬ (ps.length = 2 ∧ ps[0]? = some ("not" : Str)) → ∀ H', Ex H5 H' → Q .non H' := fun k H' e' => by
          refine qn (none_of ?_) H' (e4.trans e')
          rw [hr, readIt_none ps _ (fun z => l1 (by rw [List.length_map, z]; rfl)) k]; rfl
        walk_at "rd"
        refine c_d (fun l2 => ?_) (fun l2 => ?_)
        · obtain ⟨n, u, rfl⟩ : ∃ n u, ps = [n, u] := by
            match ps, l2 with
            | [n, u], _ => exact ⟨n, u, rfl⟩
            | [], l2 => simp at l2; try omega
            | [_], l2 => simp at l2; try omega
            | _ :: _ :: _ :: _, l2 => simp at l2; omega
          walk_at "rd"
          refine c_d (fun hn => ?_) (fun hn => ?_)
          · walk_at "rd"
            refine ⟨ty_l hu4, ?_⟩
            walk_at "rd"
            refine g_append hu4 (by rw [List.length_map]; omega) (fun H6 e6 h6 => ?_)
            walk_at "rd"
            refine ⟨bs, us ++ [u], _, rfl, ex_exb e4 n30 e6, e6 _ _ q3 hq4, PL.exb e6 a3 hP4, e6 _ _ (Ne.symm n23) hb4, by rw [h6, List.map_append]; rfl, by omega, by simp; omega, mb, ?_, by rw [hr, readIt_not _ _ _ _ _ hn]⟩
            intro w hw'
            rcases List.mem_append.mp hw' with k | k
            · exact mu w k
            · rw [List.mem_singleton.mp k]; exact mps u (by simp)
          · walk_at "rd"
            exact fail (fun k => hn (by simpa using k.2)) _ (Ex.refl _)
        · walk_at "rd"
          exact fail (fun k => l2 (by rw [List.length_map, k.1]; rfl)) _ (Ex.refl _)
    · rintro σ H4 ⟨bs, us, y, rfl, e4, hq4, hP4, hb4, hu4, lb, lu, mb, mu, hr⟩
      rw [List.length_map] at lb lu hr
      rw [hlen, List.drop_length] at hr
      have hr' : readIt pss = some (bs, us) := by rw [hr]; show some (bs ++ [], us ++ []) = _; simp
      have hwith : withW h ws = if goodR h (some (bs.map V.str)) (some (us.map V.str)) = true then some (h, bs, us) else none := by
        unfold withW; rw [show (if ws = [] then [] else partsW ws) = pss from rfl, hr']
      walk_at "rd"
      walk_at "rd"
      refine mk_rule (hh.ex e4) (arg_strs hb4 (by omega) fun w k => hw.1 w (mb w k)) (arg_strs hu4 (by omega) fun w k => hw.1 w (mu w k)) (fun g a H' na e r => ?_) (fun g H' e => ⟨true, kx, fun _ a na => ?_, fun z => by cases z⟩)
      · exact qs a bs us H' (by rw [hwith, if_pos g]) (e4.trans e) r
      · show tRet (tC .non) { nx := fun _ H' => Q .non H', rt := Q } _ H'
        walk_at "rd"
        exact qn (by rw [hwith, if_neg (by rw [g]; exact Bool.false_ne_true)]) H' (e4.trans e)
  cases ws with
  | nil =>
    walk_at "rd"
    refine ⟨false, .inl ⟨_, sq_l hp2, rfl⟩, ?_⟩
    refine c_f ?_
    walk_at "rd"
    refine c_lstE (by simp) (fun qd H3 n3 e3 h3 => ?_)
    walk_at "rs"
    exact rest H3 qd [] e3 n3 (by simp) h3 trivial
  | cons w r =>
    walk_at "rd"
    refine ⟨true, .inl ⟨_, sq_l hp2, rfl⟩, ?_⟩
    refine c_t ?_
    walk_at "rd"
    refine ⟨p, w :: r, rfl, hp2, hw, fun qd as H3 e3 nq na hq hPL => ?_⟩
    walk_at "rs"
    exact rest H3 qd as e3 nq na hq hPL

end
end K04

set_option maxHeartbeats 800000
namespace K04
open PySem PySem.Spec PyProof.Rows L2 Evl Gx
local macro_rules | `(tactic| walk_at "get") => `(tactic| first
  | assumption
  | exact upd_same
  | ((with_reducible refine sq_l ?_); walk_at "get")
  | ((with_reducible refine sq_t ?_); walk_at "get")
  | ((with_reducible refine ex_l (by assumption) ?_); walk_at "get")
  | ((with_reducible refine ex_t (by assumption) ?_); walk_at "get")
  | ((with_reducible refine Draw.ex (by assumption) ?_); walk_at "get")
  | ((with_reducible refine Arg.ex (by assumption) ?_); walk_at "get")
  | ((with_reducible refine IsRule.ex (by assumption) ?_); walk_at "get")
  | ((with_reducible refine Thing.ex (by assumption) ?_); walk_at "get")
  | ((with_reducible refine exget (by assumption) ?_); walk_at "get"))
local macro_rules | `(tactic| walk_at "rd1") => `(tactic| first
  | (with_reducible refine c_seq ?_)
  | (with_reducible refine c_next ?_)
  | (with_reducible refine c_drop ?_)
  | (with_reducible refine c_ret ?_)
  | (with_reducible refine c_retN ?_)
  | (with_reducible refine c_ifs ?_)
  | (with_reducible refine c_c ?_)
  | (with_reducible refine c_op ?_)
  | (with_reducible refine c_un ?_)
  | (with_reducible refine c_cb ?_)
  | (with_reducible refine c_nil ?_)
  | (with_reducible refine c_cons ?_)
  | (with_reducible refine c_call ?_)
  | (with_reducible refine c_callK ?_)
  | (with_reducible refine c_test ?_)
  | (with_reducible refine c_tB ?_)
  | (with_reducible refine c_and ?_)
  | (with_reducible refine c_or ?_)
  | (with_reducible refine c_not ?_)
  | (with_reducible refine c_andV ?_)
  | (with_reducible refine c_orV ?_)
  | (with_reducible refine c_notV ?_)
  | (with_reducible refine c_if ?_)
  | (with_reducible refine c_chain ?_)
  | (with_reducible refine c_sl ?_)
  | (with_reducible refine c_nop ?_)
  | (with_reducible refine c_part ?_)
  | (with_reducible refine c_lst ?_)
  | (with_reducible refine c_tup ?_)
  | (with_reducible refine c_bl ?_)
  | (with_reducible refine c_blP ?_)
  | (with_reducible refine c_parti ?_)
  | (with_reducible refine c_t ?_)
  | (with_reducible refine c_f ?_)
  | (with_reducible refine g_add_i ?_)
  | (with_reducible refine g_sub_i ?_)
  | (with_reducible refine g_neg ?_)
  | (with_reducible refine g_eq_i ?_)
  | (with_reducible refine g_eq_st ?_)
  | (with_reducible refine g_eq_b ?_)
  | (with_reducible refine g_ne_i ?_)
  | (with_reducible refine g_ne_st ?_)
  | (with_reducible refine g_ne_b ?_)
  | (with_reducible refine g_lt_i ?_)
  | (with_reducible refine g_le_i ?_)
  | (with_reducible refine g_gt_i ?_)
  | (with_reducible refine g_ge_i ?_)
  | (with_reducible refine g_le_s ?_)
  | (with_reducible refine g_in_s ?_)
  | (with_reducible refine g_ni_s ?_)
  | (with_reducible refine c_brk ?_)
  | (with_reducible refine c_cont ?_)
  | (with_reducible refine c_for ?_)
  | (with_reducible refine c_lcW ?_)
  | (with_reducible refine c_iList ?_)
  | (with_reducible refine c_iTup ?_)
  | (with_reducible refine c_iStr ?_)
  | (with_reducible refine c_iRng1 ?_)
  | (with_reducible refine c_iS ?_)
  | (with_reducible refine c_yes ?_)
  | (with_reducible refine c_sub ?_)
  | (with_reducible refine c_pair ?_)
  | (with_reducible refine c_pnil ?_)
  | (with_reducible refine c_isn ?_)
  | (with_reducible refine c_notn ?_)
  | (with_reducible refine c_sfld ?_)
  | (with_reducible refine c_fld ?_)
  | (with_reducible refine c_raise ?_)
  | (with_reducible refine c_meth0 ?_)
  | (with_reducible refine c_iEnum ?_)
  | (with_reducible refine c_bm ?_)
  | (with_reducible refine c_bm0 ?_)
  | (with_reducible refine c_mk ?_)
  | (with_reducible refine c_try ?_)
  | (with_reducible refine c_iEnumT ?_)
  | (with_reducible refine c_callKS ?_)
  | (with_reducible refine c_tryO ?_)
  | (with_reducible refine c_repl ?_)
  | (with_reducible refine c_fmt ?_)
  | (with_reducible refine c_fs ?_)
  | (with_reducible refine c_jn ?_)
  | (with_reducible refine c_jc ?_)
  | (with_reducible refine c_tru ?_)
  | (with_reducible refine c_m1 ?_)
  | (with_reducible refine c_var0 ?_)
  | (with_reducible refine c_asg0 ?_)
  | (with_reducible refine c_nam0 ?_)
  | (with_reducible refine c_var1 ?_)
  | (with_reducible refine c_asg1 ?_)
  | (with_reducible refine c_nam1 ?_)
  | (with_reducible refine c_var2 ?_)
  | (with_reducible refine c_asg2 ?_)
  | (with_reducible refine c_nam2 ?_)
  | (with_reducible refine c_var3 ?_)
  | (with_reducible refine c_asg3 ?_)
  | (with_reducible refine c_nam3 ?_)
  | (with_reducible refine c_var4 ?_)
  | (with_reducible refine c_asg4 ?_)
  | (with_reducible refine c_nam4 ?_)
  | (with_reducible refine c_var5 ?_)
  | (with_reducible refine c_asg5 ?_)
  | (with_reducible refine c_nam5 ?_)
  | (with_reducible refine c_var6 ?_)
  | (with_reducible refine c_asg6 ?_)
  | (with_reducible refine c_nam6 ?_)
  | (with_reducible refine c_var7 ?_)
  | (with_reducible refine c_asg7 ?_)
  | (with_reducible refine c_nam7 ?_)
  | (with_reducible refine c_var8 ?_)
  | (with_reducible refine c_asg8 ?_)
  | (with_reducible refine c_nam8 ?_)
  | (with_reducible refine c_var9 ?_)
  | (with_reducible refine c_asg9 ?_)
  | (with_reducible refine c_nam9 ?_)
  | (with_reducible refine c_var10 ?_)
  | (with_reducible refine c_asg10 ?_)
  | (with_reducible refine c_nam10 ?_)
  | (with_reducible refine c_var11 ?_)
  | (with_reducible refine c_asg11 ?_)
  | (with_reducible refine c_nam11 ?_)
  | (with_reducible refine c_var12 ?_)
  | (with_reducible refine c_asg12 ?_)
  | (with_reducible refine c_nam12 ?_)
  | (with_reducible refine c_var13 ?_)
  | (with_reducible refine c_asg13 ?_)
  | (with_reducible refine c_nam13 ?_)
  | (with_reducible refine c_var14 ?_)
  | (with_reducible refine c_asg14 ?_)
  | (with_reducible refine c_nam14 ?_)
  | (with_reducible refine c_var15 ?_)
  | (with_reducible refine c_asg15 ?_)
  | (with_reducible refine c_nam15 ?_)
  | (with_reducible refine c_asgG ?_)
  | ((with_reducible refine g_ix_l (xs := ?gxa) (v := ?gxb) ?gx1 ?gx2 ?gx3); (case gx1 => walk_at "get"); (case gx2 => rfl))
  | ((with_reducible refine g_len_l (xs := ?gxa) (.inl ?gx1) ?gx3); (case gx1 => walk_at "get"))
  | ((with_reducible refine g_mod_i ?gx1 ?gx3); (case gx1 => omega)))
local macro_rules | `(tactic| walk_at "rd") => `(tactic| repeat walk_at "rd1")
local macro_rules | `(tactic| walk_at "rs1") => `(tactic| first
  | (with_reducible refine c_next ?_)
  | (with_reducible refine c_drop ?_)
  | (with_reducible refine c_ret ?_)
  | (with_reducible refine c_retN ?_)
  | (with_reducible refine c_ifs ?_)
  | (with_reducible refine c_c ?_)
  | (with_reducible refine c_op ?_)
  | (with_reducible refine c_un ?_)
  | (with_reducible refine c_cb ?_)
  | (with_reducible refine c_nil ?_)
  | (with_reducible refine c_cons ?_)
  | (with_reducible refine c_call ?_)
  | (with_reducible refine c_callK ?_)
  | (with_reducible refine c_test ?_)
  | (with_reducible refine c_tB ?_)
  | (with_reducible refine c_and ?_)
  | (with_reducible refine c_or ?_)
  | (with_reducible refine c_not ?_)
  | (with_reducible refine c_andV ?_)
  | (with_reducible refine c_orV ?_)
  | (with_reducible refine c_notV ?_)
  | (with_reducible refine c_chain ?_)
  | (with_reducible refine c_sl ?_)
  | (with_reducible refine c_nop ?_)
  | (with_reducible refine c_part ?_)
  | (with_reducible refine c_lst ?_)
  | (with_reducible refine c_tup ?_)
  | (with_reducible refine c_bl ?_)
  | (with_reducible refine c_blP ?_)
  | (with_reducible refine c_parti ?_)
  | (with_reducible refine c_t ?_)
  | (with_reducible refine c_f ?_)
  | (with_reducible refine g_add_i ?_)
  | (with_reducible refine g_sub_i ?_)
  | (with_reducible refine g_neg ?_)
  | (with_reducible refine g_eq_i ?_)
  | (with_reducible refine g_eq_st ?_)
  | (with_reducible refine g_eq_b ?_)
  | (with_reducible refine g_ne_i ?_)
  | (with_reducible refine g_ne_st ?_)
  | (with_reducible refine g_ne_b ?_)
  | (with_reducible refine g_lt_i ?_)
  | (with_reducible refine g_le_i ?_)
  | (with_reducible refine g_gt_i ?_)
  | (with_reducible refine g_ge_i ?_)
  | (with_reducible refine g_le_s ?_)
  | (with_reducible refine g_in_s ?_)
  | (with_reducible refine g_ni_s ?_)
  | (with_reducible refine c_brk ?_)
  | (with_reducible refine c_cont ?_)
  | (with_reducible refine c_for ?_)
  | (with_reducible refine c_lcW ?_)
  | (with_reducible refine c_iList ?_)
  | (with_reducible refine c_iTup ?_)
  | (with_reducible refine c_iStr ?_)
  | (with_reducible refine c_iRng1 ?_)
  | (with_reducible refine c_iS ?_)
  | (with_reducible refine c_yes ?_)
  | (with_reducible refine c_sub ?_)
  | (with_reducible refine c_pair ?_)
  | (with_reducible refine c_pnil ?_)
  | (with_reducible refine c_isn ?_)
  | (with_reducible refine c_notn ?_)
  | (with_reducible refine c_sfld ?_)
  | (with_reducible refine c_fld ?_)
  | (with_reducible refine c_raise ?_)
  | (with_reducible refine c_meth0 ?_)
  | (with_reducible refine c_iEnum ?_)
  | (with_reducible refine c_bm ?_)
  | (with_reducible refine c_bm0 ?_)
  | (with_reducible refine c_mk ?_)
  | (with_reducible refine c_try ?_)
  | (with_reducible refine c_iEnumT ?_)
  | (with_reducible refine c_callKS ?_)
  | (with_reducible refine c_tryO ?_)
  | (with_reducible refine c_repl ?_)
  | (with_reducible refine c_fmt ?_)
  | (with_reducible refine c_fs ?_)
  | (with_reducible refine c_jn ?_)
  | (with_reducible refine c_jc ?_)
  | (with_reducible refine c_tru ?_)
  | (with_reducible refine c_m1 ?_)
  | (with_reducible refine c_var0 ?_)
  | (with_reducible refine c_asg0 ?_)
  | (with_reducible refine c_nam0 ?_)
  | (with_reducible refine c_var1 ?_)
  | (with_reducible refine c_asg1 ?_)
  | (with_reducible refine c_nam1 ?_)
  | (with_reducible refine c_var2 ?_)
  | (with_reducible refine c_asg2 ?_)
  | (with_reducible refine c_nam2 ?_)
  | (with_reducible refine c_var3 ?_)
  | (with_reducible refine c_asg3 ?_)
  | (with_reducible refine c_nam3 ?_)
  | (with_reducible refine c_var4 ?_)
  | (with_reducible refine c_asg4 ?_)
  | (with_reducible refine c_nam4 ?_)
  | (with_reducible refine c_var5 ?_)
  | (with_reducible refine c_asg5 ?_)
  | (with_reducible refine c_nam5 ?_)
  | (with_reducible refine c_var6 ?_)
  | (with_reducible refine c_asg6 ?_)
  | (with_reducible refine c_nam6 ?_)
  | (with_reducible refine c_var7 ?_)
  | (with_reducible refine c_asg7 ?_)
  | (with_reducible refine c_nam7 ?_)
  | (with_reducible refine c_var8 ?_)
  | (with_reducible refine c_asg8 ?_)
  | (with_reducible refine c_nam8 ?_)
  | (with_reducible refine c_var9 ?_)
  | (with_reducible refine c_asg9 ?_)
  | (with_reducible refine c_nam9 ?_)
  | (with_reducible refine c_var10 ?_)
  | (with_reducible refine c_asg10 ?_)
  | (with_reducible refine c_nam10 ?_)
  | (with_reducible refine c_var11 ?_)
  | (with_reducible refine c_asg11 ?_)
  | (with_reducible refine c_nam11 ?_)
  | (with_reducible refine c_var12 ?_)
  | (with_reducible refine c_asg12 ?_)
  | (with_reducible refine c_nam12 ?_)
  | (with_reducible refine c_var13 ?_)
  | (with_reducible refine c_asg13 ?_)
  | (with_reducible refine c_nam13 ?_)
  | (with_reducible refine c_var14 ?_)
  | (with_reducible refine c_asg14 ?_)
  | (with_reducible refine c_nam14 ?_)
  | (with_reducible refine c_var15 ?_)
  | (with_reducible refine c_asg15 ?_)
  | (with_reducible refine c_nam15 ?_)
  | (with_reducible refine c_asgG ?_)
  | ((with_reducible refine g_ix_l (xs := ?gxa) (v := ?gxb) ?gx1 ?gx2 ?gx3); (case gx1 => walk_at "get"); (case gx2 => rfl))
  | ((with_reducible refine g_len_l (xs := ?gxa) (.inl ?gx1) ?gx3); (case gx1 => walk_at "get"))
  | ((with_reducible refine g_mod_i ?gx1 ?gx3); (case gx1 => omega)))
local macro_rules | `(tactic| walk_at "rs") => `(tactic| repeat walk_at "rs1")
section
variable {P : Program} {w : World} {K : PySem.W.Frag} {mg : Str → Option Value} {base : Heap} {Z : Ads}
theorem joinL_mem {S : List Nat} {c : Nat} : ∀ {ps : List (List Nat)}, c ∈ TL.joinL S ps → c ∈ S ∨ ∃ p ∈ ps, c ∈ p
  | [], h => by cases h
  | [p], h => .inr ⟨p, .head _, h⟩
  | p :: q :: r, h => by
    rcases List.mem_append.mp (show c ∈ p ++ (S ++ TL.joinL S (q :: r)) from h) with k | k
    · exact .inr ⟨p, .head _, k⟩
    · rcases List.mem_append.mp k with m | m
      · exact .inl m
      · rcases joinL_mem m with n | ⟨x, hx, hc⟩
        · exact .inl n
        · exact .inr ⟨x, .tail _ hx, hc⟩
theorem okS_join {a : Str} {ys : List Str} (ha : okS a) (hy : ∀ y ∈ ys, okS y) : okS (Txt.join a ys) := fun c hc => by
  have h : c ∈ TL.joinL (TL.tl a) (ys.map TL.tl) := by rw [← TL.tl_join, ← TL.join_eq]; exact hc
  rcases joinL_mem h with k | ⟨p, hp, k⟩
  · exact ha c k
  · obtain ⟨y, hy', rfl⟩ := List.mem_map.mp hp; exact hy y hy' c k
theorem okD {z : Str} (h : PyData.strOk z = true) : okS z := (okS_iff z).mp h
theorem head_ok {h : V} (hh : (decide (h = .non) || isNm h) = true) : (headT h).length ≤ 8 ∧ okS (headT h) := by
  rcases nm_cases hh with rfl | ⟨z, rfl, hz⟩
  · exact ⟨by decide +kernel, okD (by decide +kernel)⟩
  · exact ⟨nameS_len hz, nameS_ok hz⟩
theorem text_ok {h : V} {bs us : List Str} (hh : (decide (h = .non) || isNm h) = true) (hb : Names bs) (hu : Names us) (lb : bs.length ≤ 6) (lu : us.length ≤ 4) : (ruleText h bs us).length ≤ 200 ∧ okS (ruleText h bs us) := by
  obtain ⟨l1, o1⟩ := head_ok hh
  obtain ⟨-, -, gl⟩ := gr_len hb hu lb lu
  have og : okS (grS bs us) := okS_join (okD (by decide +kernel)) fun y hy => by
    rcases List.mem_append.mp hy with k | k
    · exact nameS_ok (hb y k)
    · obtain ⟨u, hm, rfl⟩ := List.mem_map.mp k
      exact okS_app (okD (by decide +kernel)) (nameS_ok (hu u hm))
  unfold ruleText
  split
  · exact ⟨by omega, o1⟩
  · split
    · refine ⟨?_, okS_app (okS_app o1 (okD (by decide +kernel))) og⟩
      rw [len_app, len_app, show (" " : Str).length = 1 by decide +kernel]; omega
    · refine ⟨?_, okS_app (okS_app o1 (okD (by decide +kernel))) og⟩
      rw [len_app, len_app, lArrow]; omega
theorem joinW_mem {w : Str} : ∀ {its : List (List Str)}, w ∈ joinW its → w = "," ∨ ∃ it ∈ its, w ∈ it
  | [], h => by cases h
  | [p], h => .inr ⟨p, .head _, h⟩
  | p :: q :: r, h => by
    rcases List.mem_append.mp (show w ∈ p ++ (("," : Str) :: joinW (q :: r)) from h) with k | k
    · exact .inr ⟨p, .head _, k⟩
    · rcases List.mem_cons.mp k with m | m
      · exact .inl m
      · rcases joinW_mem m with n | ⟨x, hx, hc⟩
        · exact .inl n
        · exact .inr ⟨x, .tail _ hx, hc⟩
theorem joinW_len : ∀ its : List (List Str), (∀ it ∈ its, it.length ≤ 2) → (joinW its).length ≤ its.length * 3
  | [], _ => Nat.zero_le _
  | [p], h => by have := h p (.head _); show p.length ≤ 3; omega
  | p :: q :: r, h => by
    have := joinW_len (q :: r) fun it hi => h it (.tail _ hi)
    have h0 := h p (.head _)
    show (p ++ (("," : Str) :: joinW (q :: r))).length ≤ _
    rw [List.length_append, List.length_cons]
    rw [List.length_cons (a := p), Nat.succ_mul]; omega
theorem words_ok {h : V} {bs us : List Str} (hh : (decide (h = .non) || isNm h) = true) (hb : Names bs) (hu : Names us) (lb : bs.length ≤ 6) (lu : us.length ≤ 4) : WOk (wordsOf h bs us) := by
  obtain ⟨l1, o1⟩ := head_ok hh
  have hi : ∀ it ∈ itemsW bs us, it.length ≤ 2 ∧ ∀ w ∈ it, w.length ≤ 1000 ∧ okS w := fun it k => by
    rcases List.mem_append.mp k with k | k
    · obtain ⟨b, hm, rfl⟩ := List.mem_map.mp k
      refine ⟨by simp, fun w hw => ?_⟩
      rw [List.mem_singleton.mp hw]; have := nameS_len (hb b hm); exact ⟨by omega, nameS_ok (hb b hm)⟩
    · obtain ⟨u, hm, rfl⟩ := List.mem_map.mp k
      refine ⟨by simp, fun w hw => ?_⟩
      simp only [List.mem_cons, List.not_mem_nil, or_false] at hw
      rcases hw with rfl | rfl
      · exact ⟨by decide +kernel, okD (by decide +kernel)⟩
      · have := nameS_len (hu _ hm); exact ⟨by omega, nameS_ok (hu _ hm)⟩
  have hj := joinW_len (itemsW bs us) fun it k => (hi it k).1
  have hl : (itemsW bs us).length ≤ 10 := by unfold itemsW; rw [List.length_append, List.length_map, List.length_map]; omega
  have mem : ∀ w ∈ wordsOf h bs us, w.length ≤ 1000 ∧ okS w := fun w hw => by
    rcases List.mem_cons.mp hw with rfl | hw
    · exact ⟨by omega, o1⟩
    · split at hw
      · cases hw
      · rcases List.mem_append.mp hw with k | k
        · split at k
          · cases k
          · rw [List.mem_singleton.mp k]; exact ⟨by decide +kernel, okD (by decide +kernel)⟩
        · rcases joinW_mem k with rfl | ⟨it, hit, hw'⟩
          · exact ⟨by decide +kernel, okD (by decide +kernel)⟩
          · exact (hi it hit).2 w hw'
  refine ⟨mem, ?_⟩
  unfold Gx.wordsOf
  rw [List.length_cons]
  split
  · simp
  · rw [List.length_append]
    split <;> simp <;> omega
theorem rot_eq {ss : List Str} {k : Nat} (hk : k ≤ ss.length) : ((ss ++ ss).drop k).take ss.length = ss.drop k ++ ss.take k := by
  rw [List.drop_append_of_le_length hk, List.take_append, List.length_drop, show ss.length - (ss.length - k) = k by omega, List.take_of_length_le (by rw [List.length_drop]; omega)]
theorem rot_nd {ss : List Str} {k : Nat} (nd : ss.Nodup) : (ss.drop k ++ ss.take k).Nodup := by
  have h : (ss.take k ++ ss.drop k).Nodup := by rw [List.take_append_drop]; exact nd
  exact (List.perm_append_comm.nodup_iff).mp h
theorem cut_rot {ss : List Str} {k : Int} (hl : ss.length = 7) (h0 : 0 ≤ k) (h7 : k < 7) : ∃ ts : List Str, cutV ((ss ++ ss).map V.str) (some k) (some (k + (7 : Nat))) = ts.map V.str ∧ (ss.Nodup → ts.Nodup) ∧ ∀ z ∈ ts, z ∈ ss := by
  obtain ⟨n, rfl⟩ : ∃ n : Nat, k = n := ⟨k.toNat, by omega⟩
  refine ⟨ss.drop n ++ ss.take n, ?_, rot_nd, fun z hz => ?_⟩
  · rw [← rot_eq (by omega), List.map_take, List.map_drop]
    unfold cutV
    rw [show ((n : Int) + (7 : Nat)) = ((n + 7 : Nat) : Int) by push_cast; rfl, HT.sIx_nat, HT.sIx_nat]
    simp only [List.length_map, List.length_append, hl]
    rw [show min n (7 + 7) = n by omega, show min (n + 7) (7 + 7) - n = 7 by omega]
  · rcases List.mem_append.mp hz with h | h
    · exact List.mem_of_mem_drop h
    · exact List.mem_of_mem_take h
theorem cut_to {ts : List Str} {k : Int} {m : Nat} (h0 : 0 ≤ k) (hk : k ≤ m) (nd : ts.Nodup) (nm : Names ts) : ∃ bs : List Str, cutV (ts.map V.str) none (some k) = bs.map V.str ∧ Names bs ∧ nmsO (some (bs.map V.str)) m = true := by
  obtain ⟨n, rfl⟩ : ∃ n : Nat, k = n := ⟨k.toNat, by omega⟩
  refine ⟨ts.take n, ?_, fun z hz => nm z (List.mem_of_mem_take hz), ?_⟩
  · unfold cutV
    rw [HT.sIx_none, HT.sIx_nat, List.drop_zero, Nat.sub_zero, List.length_map, List.map_take]
    by_cases h : n ≤ ts.length
    · rw [Nat.min_eq_left h]
    · rw [Nat.min_eq_right (by omega), List.take_of_length_le (by simp), List.take_of_length_le (by simp; omega)]
  · rw [nmsO_some, decide_eq_true (by rw [List.length_map, List.length_take]; omega), decide_eq_true (nodup_strs.mpr (nd.sublist (List.take_sublist _ _))), show ((ts.take n).map V.str).all isNm = true by
      rw [List.all_map, List.all_eq_true]; exact fun z hz => nm z (List.mem_of_mem_take hz)]
    rfl
theorem rd__law_parts {vs : List V} {H : Hp} {Q : VK} {E : XK} (h : sp__law_parts K vs H Q E) : t__law_parts K Z { nx := fun _ H' => Q .non H', rt := Q } (start ["draw", "words", "head", "first", "second", "turned", "other"] vs) H := by
  obtain ⟨d, p, ss, rfl, hD, hp, hl, nd, nm, q⟩ := h
  obtain ⟨w0, w1, w2, w3, w4, w5, w6, rfl⟩ : ∃ a b c d e f g, ss = [a, b, c, d, e, f, g] := by
    match ss, hl with
    | [a, b, c, d, e, f, g], _ => exact ⟨a, b, c, d, e, f, g, rfl⟩
  show t__law_parts K Z _ [some (.ref d), some (.ref p), none, none, none, none, none] H
  unfold t__law_parts
  walk_at "rd"
  try refine g_ix_l (v := .str w0) (sq_l hp) atI0 ?_
  try walk_at "rd"
  try refine g_ix_l (v := .str w1) (sq_l hp) atI1 ?_
  try walk_at "rd"
  try refine g_ix_l (v := .str w6) (sq_l hp) (atI_last (([w0, w1, w2, w3, w4, w5] : List Str).map V.str) (.str w6)) ?_
  try walk_at "rd"
  refine c_lstE (by simp) (fun l1 H1 n1 e1 h1 => ?_)
  walk_at "rd"
  refine c_take (hD.ex e1) (by omega) (by omega) (fun i H2 i0 i4 e2 => ?_)
  obtain ⟨ki, v, rfl, hkv, hv, hat⟩ := atI_in (xs := [V.non, .str w0, .str w1, .str w6]) i0 (by simpa using i4)
  refine g_ix_l (sq_l (e2 _ _ h1)) hat ?_
  have hh : (decide (v = .non) || isNm v) = true := by
    simp only [List.mem_cons, List.not_mem_nil, or_false] at hv
    rcases hv with rfl | rfl | rfl | rfl
    · rfl
    all_goals (simp [isNm]; exact nm _ (by simp))
  walk_at "rd"
  have t2 := e1.trans e2
  refine c_par ?_
  walk_at "rd"
  refine c_take (size := ((7 : Nat) : Int)) (hD.ex t2) (by decide) (by decide) (fun k1 H3 k10 k11 e3 => ?_)
  walk_at "rd"
  have t3 := t2.trans e3
  refine c_take (size := ((7 : Nat) : Int)) (hD.ex t3) (by decide) (by decide) (fun k2 H4 k20 k21 e4 => ?_)
  walk_at "rd"
  have t4 := t3.trans e4
  refine ⟨_, _, rfl, ?_⟩
  show tSeq _ _ _ [some (.ref d), some (.ref p), some v, some (.int k1), some (.int k2), none, none] H4
  walk_at "rd"
  have hp4 := t4 _ _ hp
  refine g_add_l hp4 hp4 (by simp) (fun l5 H5 n5 e5 h5 => ?_)
  walk_at "rd"
  refine g_sl_l (sq_l h5) (fun l6 H6 n6 e6 h6 => ?_)
  walk_at "rd"
  have t6 := t4.trans (e5.trans e6)
  have hp6 := t6 _ _ hp
  refine g_rev (p := l6) (xs := []) ?_
  walk_at "rd"
  refine g_add_l hp6 hp6 (by simp) (fun l7 H7 n7 e7 h7 => ?_)
  walk_at "rd"
  refine g_sl_l (sq_l h7) (fun l8 H8 n8 e8 h8 => ?_)
  refine ⟨l8, _, rfl, sq_l h8, fun l9 n9 => ?_⟩
  have e9 := Ex.new (o := .lst (cutV (List.map V.str [w0, w1, w2, w3, w4, w5, w6] ++ List.map V.str [w0, w1, w2, w3, w4, w5, w6]) (some k2) (some (k2 + ↑(List.map V.str [w0, w1, w2, w3, w4, w5, w6]).length))).reverse) n9
  have h9 := upd_same (H := H8) (a := l9) (o := .lst (cutV (List.map V.str [w0, w1, w2, w3, w4, w5, w6] ++ List.map V.str [w0, w1, w2, w3, w4, w5, w6]) (some k2) (some (k2 + ↑(List.map V.str [w0, w1, w2, w3, w4, w5, w6]).length))).reverse)
  generalize upd H8 l9 (.lst (cutV (List.map V.str [w0, w1, w2, w3, w4, w5, w6] ++ List.map V.str [w0, w1, w2, w3, w4, w5, w6]) (some k2) (some (k2 + ↑(List.map V.str [w0, w1, w2, w3, w4, w5, w6]).length))).reverse) = H9 at e9 h9 ⊢
  walk_at "rd"
  have t9 := t6.trans (e7.trans (e8.trans e9))
  obtain ⟨ts, hts, nts, mts⟩ := cut_rot (ss := [w0, w1, w2, w3, w4, w5, w6]) rfl k10 k11
  obtain ⟨us, hus, nus, mus⟩ := cut_rot (ss := [w0, w1, w2, w3, w4, w5, w6]) rfl k20 k21
  have h6' : H6 l6 = some (.lst (ts.map V.str)) := by rw [h6, ← List.map_append]; exact congrArg (fun l => some (HO.lst l)) hts
  have h8' : H8 l8 = some (.lst (us.map V.str)) := by rw [h8, ← List.map_append]; exact congrArg (fun l => some (HO.lst l)) hus
  rw [show (cutV (List.map V.str [w0, w1, w2, w3, w4, w5, w6] ++ List.map V.str [w0, w1, w2, w3, w4, w5, w6]) (some k2) (some (k2 + ↑(List.map V.str [w0, w1, w2, w3, w4, w5, w6]).length))) = us.map V.str by rw [← List.map_append]; exact hus, ← List.map_reverse] at h9
  refine c_take (hD.ex t9) (by omega) (by omega) (fun k3 H10 k30 k31 e10 => ?_)
  walk_at "rd"
  refine g_sl_l (sq_l (e10 _ _ (e9 _ _ (e8 _ _ (e7 _ _ h6'))))) (fun l11 H11 n11 e11 h11 => ?_)
  walk_at "rd"
  refine g_tupS (sq_l h11) (fun l12 H12 n12 e12 h12 => ?_)
  walk_at "rd"
  have e912 := e10.trans (e11.trans e12)
  have t12 := t9.trans e912
  refine c_take (hD.ex t12) (by omega) (by omega) (fun k4 H13 k40 k41 e13 => ?_)
  walk_at "rd"
  refine g_sl_l (sq_l (e13 _ _ (e912 _ _ h9))) (fun l14 H14 n14 e14 h14 => ?_)
  walk_at "rd"
  refine g_tupS (sq_l h14) (fun l15 H15 n15 e15 h15 => ?_)
  walk_at "rd"
  refine c_tupE (by simp) (fun l16 H16 n16 e16 h16 => ?_)
  have e1216 := e13.trans (e14.trans (e15.trans e16))
  obtain ⟨bs', hb1, hb2, hb3⟩ := cut_to (ts := ts) (m := 6) k30 (by omega) (nts nd) fun z hz => nm z (mts z hz)
  obtain ⟨us', hu1, hu2, hu3⟩ := cut_to (ts := us.reverse) (m := 4) k40 (by omega) ((List.reverse_perm us).nodup_iff.mpr (nus nd)) fun z hz => nm z (mus z (List.mem_reverse.mp hz))
  rw [hb1] at h12
  rw [hu1] at h15
  exact q l16 v l12 l15 bs' us' H16 (t12.trans e1216) ⟨h16, e1216 _ _ h12, e16 _ _ h15, by unfold goodR; rw [hh, hb3, hu3]; rfl, hb2, hu2⟩

end
end K04

set_option maxHeartbeats 800000
namespace K04
open PySem PySem.Spec PyProof.Rows L2 Evl Gx
local macro_rules | `(tactic| walk_at "get") => `(tactic| first
  | assumption
  | exact upd_same
  | ((with_reducible refine sq_l ?_); walk_at "get")
  | ((with_reducible refine sq_t ?_); walk_at "get")
  | ((with_reducible refine ex_l (by assumption) ?_); walk_at "get")
  | ((with_reducible refine ex_t (by assumption) ?_); walk_at "get")
  | ((with_reducible refine Draw.ex (by assumption) ?_); walk_at "get")
  | ((with_reducible refine Arg.ex (by assumption) ?_); walk_at "get")
  | ((with_reducible refine IsRule.ex (by assumption) ?_); walk_at "get")
  | ((with_reducible refine Thing.ex (by assumption) ?_); walk_at "get")
  | ((with_reducible refine exget (by assumption) ?_); walk_at "get"))
local macro_rules | `(tactic| walk_at "rd1") => `(tactic| first
  | (with_reducible refine c_seq ?_)
  | (with_reducible refine c_next ?_)
  | (with_reducible refine c_drop ?_)
  | (with_reducible refine c_ret ?_)
  | (with_reducible refine c_retN ?_)
  | (with_reducible refine c_ifs ?_)
  | (with_reducible refine c_c ?_)
  | (with_reducible refine c_op ?_)
  | (with_reducible refine c_un ?_)
  | (with_reducible refine c_cb ?_)
  | (with_reducible refine c_nil ?_)
  | (with_reducible refine c_cons ?_)
  | (with_reducible refine c_call ?_)
  | (with_reducible refine c_callK ?_)
  | (with_reducible refine c_test ?_)
  | (with_reducible refine c_tB ?_)
  | (with_reducible refine c_and ?_)
  | (with_reducible refine c_or ?_)
  | (with_reducible refine c_not ?_)
  | (with_reducible refine c_andV ?_)
  | (with_reducible refine c_orV ?_)
  | (with_reducible refine c_notV ?_)
  | (with_reducible refine c_if ?_)
  | (with_reducible refine c_chain ?_)
  | (with_reducible refine c_sl ?_)
  | (with_reducible refine c_nop ?_)
  | (with_reducible refine c_part ?_)
  | (with_reducible refine c_lst ?_)
  | (with_reducible refine c_tup ?_)
  | (with_reducible refine c_bl ?_)
  | (with_reducible refine c_blP ?_)
  | (with_reducible refine c_parti ?_)
  | (with_reducible refine c_t ?_)
  | (with_reducible refine c_f ?_)
  | (with_reducible refine g_add_i ?_)
  | (with_reducible refine g_sub_i ?_)
  | (with_reducible refine g_neg ?_)
  | (with_reducible refine g_eq_i ?_)
  | (with_reducible refine g_eq_st ?_)
  | (with_reducible refine g_eq_b ?_)
  | (with_reducible refine g_ne_i ?_)
  | (with_reducible refine g_ne_st ?_)
  | (with_reducible refine g_ne_b ?_)
  | (with_reducible refine g_lt_i ?_)
  | (with_reducible refine g_le_i ?_)
  | (with_reducible refine g_gt_i ?_)
  | (with_reducible refine g_ge_i ?_)
  | (with_reducible refine g_le_s ?_)
  | (with_reducible refine g_in_s ?_)
  | (with_reducible refine g_ni_s ?_)
  | (with_reducible refine c_brk ?_)
  | (with_reducible refine c_cont ?_)
  | (with_reducible refine c_for ?_)
  | (with_reducible refine c_lcW ?_)
  | (with_reducible refine c_iList ?_)
  | (with_reducible refine c_iTup ?_)
  | (with_reducible refine c_iStr ?_)
  | (with_reducible refine c_iRng1 ?_)
  | (with_reducible refine c_iS ?_)
  | (with_reducible refine c_yes ?_)
  | (with_reducible refine c_sub ?_)
  | (with_reducible refine c_pair ?_)
  | (with_reducible refine c_pnil ?_)
  | (with_reducible refine c_isn ?_)
  | (with_reducible refine c_notn ?_)
  | (with_reducible refine c_sfld ?_)
  | (with_reducible refine c_fld ?_)
  | (with_reducible refine c_raise ?_)
  | (with_reducible refine c_meth0 ?_)
  | (with_reducible refine c_iEnum ?_)
  | (with_reducible refine c_bm ?_)
  | (with_reducible refine c_bm0 ?_)
  | (with_reducible refine c_mk ?_)
  | (with_reducible refine c_try ?_)
  | (with_reducible refine c_iEnumT ?_)
  | (with_reducible refine c_callKS ?_)
  | (with_reducible refine c_tryO ?_)
  | (with_reducible refine c_repl ?_)
  | (with_reducible refine c_fmt ?_)
  | (with_reducible refine c_fs ?_)
  | (with_reducible refine c_jn ?_)
  | (with_reducible refine c_jc ?_)
  | (with_reducible refine c_tru ?_)
  | (with_reducible refine c_m1 ?_)
  | (with_reducible refine c_var0 ?_)
  | (with_reducible refine c_asg0 ?_)
  | (with_reducible refine c_nam0 ?_)
  | (with_reducible refine c_var1 ?_)
  | (with_reducible refine c_asg1 ?_)
  | (with_reducible refine c_nam1 ?_)
  | (with_reducible refine c_var2 ?_)
  | (with_reducible refine c_asg2 ?_)
  | (with_reducible refine c_nam2 ?_)
  | (with_reducible refine c_var3 ?_)
  | (with_reducible refine c_asg3 ?_)
  | (with_reducible refine c_nam3 ?_)
  | (with_reducible refine c_var4 ?_)
  | (with_reducible refine c_asg4 ?_)
  | (with_reducible refine c_nam4 ?_)
  | (with_reducible refine c_var5 ?_)
  | (with_reducible refine c_asg5 ?_)
  | (with_reducible refine c_nam5 ?_)
  | (with_reducible refine c_var6 ?_)
  | (with_reducible refine c_asg6 ?_)
  | (with_reducible refine c_nam6 ?_)
  | (with_reducible refine c_var7 ?_)
  | (with_reducible refine c_asg7 ?_)
  | (with_reducible refine c_nam7 ?_)
  | (with_reducible refine c_var8 ?_)
  | (with_reducible refine c_asg8 ?_)
  | (with_reducible refine c_nam8 ?_)
  | (with_reducible refine c_var9 ?_)
  | (with_reducible refine c_asg9 ?_)
  | (with_reducible refine c_nam9 ?_)
  | (with_reducible refine c_var10 ?_)
  | (with_reducible refine c_asg10 ?_)
  | (with_reducible refine c_nam10 ?_)
  | (with_reducible refine c_var11 ?_)
  | (with_reducible refine c_asg11 ?_)
  | (with_reducible refine c_nam11 ?_)
  | (with_reducible refine c_var12 ?_)
  | (with_reducible refine c_asg12 ?_)
  | (with_reducible refine c_nam12 ?_)
  | (with_reducible refine c_var13 ?_)
  | (with_reducible refine c_asg13 ?_)
  | (with_reducible refine c_nam13 ?_)
  | (with_reducible refine c_var14 ?_)
  | (with_reducible refine c_asg14 ?_)
  | (with_reducible refine c_nam14 ?_)
  | (with_reducible refine c_var15 ?_)
  | (with_reducible refine c_asg15 ?_)
  | (with_reducible refine c_nam15 ?_)
  | (with_reducible refine c_asgG ?_)
  | ((with_reducible refine g_ix_l (xs := ?gxa) (v := ?gxb) ?gx1 ?gx2 ?gx3); (case gx1 => walk_at "get"); (case gx2 => rfl))
  | ((with_reducible refine g_len_l (xs := ?gxa) (.inl ?gx1) ?gx3); (case gx1 => walk_at "get"))
  | ((with_reducible refine g_mod_i ?gx1 ?gx3); (case gx1 => omega)))
local macro_rules | `(tactic| walk_at "rd") => `(tactic| repeat walk_at "rd1")
local macro_rules | `(tactic| walk_at "rs1") => `(tactic| first
  | (with_reducible refine c_next ?_)
  | (with_reducible refine c_drop ?_)
  | (with_reducible refine c_ret ?_)
  | (with_reducible refine c_retN ?_)
  | (with_reducible refine c_ifs ?_)
  | (with_reducible refine c_c ?_)
  | (with_reducible refine c_op ?_)
  | (with_reducible refine c_un ?_)
  | (with_reducible refine c_cb ?_)
  | (with_reducible refine c_nil ?_)
  | (with_reducible refine c_cons ?_)
  | (with_reducible refine c_call ?_)
  | (with_reducible refine c_callK ?_)
  | (with_reducible refine c_test ?_)
  | (with_reducible refine c_tB ?_)
  | (with_reducible refine c_and ?_)
  | (with_reducible refine c_or ?_)
  | (with_reducible refine c_not ?_)
  | (with_reducible refine c_andV ?_)
  | (with_reducible refine c_orV ?_)
  | (with_reducible refine c_notV ?_)
  | (with_reducible refine c_chain ?_)
  | (with_reducible refine c_sl ?_)
  | (with_reducible refine c_nop ?_)
  | (with_reducible refine c_part ?_)
  | (with_reducible refine c_lst ?_)
  | (with_reducible refine c_tup ?_)
  | (with_reducible refine c_bl ?_)
  | (with_reducible refine c_blP ?_)
  | (with_reducible refine c_parti ?_)
  | (with_reducible refine c_t ?_)
  | (with_reducible refine c_f ?_)
  | (with_reducible refine g_add_i ?_)
  | (with_reducible refine g_sub_i ?_)
  | (with_reducible refine g_neg ?_)
  | (with_reducible refine g_eq_i ?_)
  | (with_reducible refine g_eq_st ?_)
  | (with_reducible refine g_eq_b ?_)
  | (with_reducible refine g_ne_i ?_)
  | (with_reducible refine g_ne_st ?_)
  | (with_reducible refine g_ne_b ?_)
  | (with_reducible refine g_lt_i ?_)
  | (with_reducible refine g_le_i ?_)
  | (with_reducible refine g_gt_i ?_)
  | (with_reducible refine g_ge_i ?_)
  | (with_reducible refine g_le_s ?_)
  | (with_reducible refine g_in_s ?_)
  | (with_reducible refine g_ni_s ?_)
  | (with_reducible refine c_brk ?_)
  | (with_reducible refine c_cont ?_)
  | (with_reducible refine c_for ?_)
  | (with_reducible refine c_lcW ?_)
  | (with_reducible refine c_iList ?_)
  | (with_reducible refine c_iTup ?_)
  | (with_reducible refine c_iStr ?_)
  | (with_reducible refine c_iRng1 ?_)
  | (with_reducible refine c_iS ?_)
  | (with_reducible refine c_yes ?_)
  | (with_reducible refine c_sub ?_)
  | (with_reducible refine c_pair ?_)
  | (with_reducible refine c_pnil ?_)
  | (with_reducible refine c_isn ?_)
  | (with_reducible refine c_notn ?_)
  | (with_reducible refine c_sfld ?_)
  | (with_reducible refine c_fld ?_)
  | (with_reducible refine c_raise ?_)
  | (with_reducible refine c_meth0 ?_)
  | (with_reducible refine c_iEnum ?_)
  | (with_reducible refine c_bm ?_)
  | (with_reducible refine c_bm0 ?_)
  | (with_reducible refine c_mk ?_)
  | (with_reducible refine c_try ?_)
  | (with_reducible refine c_iEnumT ?_)
  | (with_reducible refine c_callKS ?_)
  | (with_reducible refine c_tryO ?_)
  | (with_reducible refine c_repl ?_)
  | (with_reducible refine c_fmt ?_)
  | (with_reducible refine c_fs ?_)
  | (with_reducible refine c_jn ?_)
  | (with_reducible refine c_jc ?_)
  | (with_reducible refine c_tru ?_)
  | (with_reducible refine c_m1 ?_)
  | (with_reducible refine c_var0 ?_)
  | (with_reducible refine c_asg0 ?_)
  | (with_reducible refine c_nam0 ?_)
  | (with_reducible refine c_var1 ?_)
  | (with_reducible refine c_asg1 ?_)
  | (with_reducible refine c_nam1 ?_)
  | (with_reducible refine c_var2 ?_)
  | (with_reducible refine c_asg2 ?_)
  | (with_reducible refine c_nam2 ?_)
  | (with_reducible refine c_var3 ?_)
  | (with_reducible refine c_asg3 ?_)
  | (with_reducible refine c_nam3 ?_)
  | (with_reducible refine c_var4 ?_)
  | (with_reducible refine c_asg4 ?_)
  | (with_reducible refine c_nam4 ?_)
  | (with_reducible refine c_var5 ?_)
  | (with_reducible refine c_asg5 ?_)
  | (with_reducible refine c_nam5 ?_)
  | (with_reducible refine c_var6 ?_)
  | (with_reducible refine c_asg6 ?_)
  | (with_reducible refine c_nam6 ?_)
  | (with_reducible refine c_var7 ?_)
  | (with_reducible refine c_asg7 ?_)
  | (with_reducible refine c_nam7 ?_)
  | (with_reducible refine c_var8 ?_)
  | (with_reducible refine c_asg8 ?_)
  | (with_reducible refine c_nam8 ?_)
  | (with_reducible refine c_var9 ?_)
  | (with_reducible refine c_asg9 ?_)
  | (with_reducible refine c_nam9 ?_)
  | (with_reducible refine c_var10 ?_)
  | (with_reducible refine c_asg10 ?_)
  | (with_reducible refine c_nam10 ?_)
  | (with_reducible refine c_var11 ?_)
  | (with_reducible refine c_asg11 ?_)
  | (with_reducible refine c_nam11 ?_)
  | (with_reducible refine c_var12 ?_)
  | (with_reducible refine c_asg12 ?_)
  | (with_reducible refine c_nam12 ?_)
  | (with_reducible refine c_var13 ?_)
  | (with_reducible refine c_asg13 ?_)
  | (with_reducible refine c_nam13 ?_)
  | (with_reducible refine c_var14 ?_)
  | (with_reducible refine c_asg14 ?_)
  | (with_reducible refine c_nam14 ?_)
  | (with_reducible refine c_var15 ?_)
  | (with_reducible refine c_asg15 ?_)
  | (with_reducible refine c_nam15 ?_)
  | (with_reducible refine c_asgG ?_)
  | ((with_reducible refine g_ix_l (xs := ?gxa) (v := ?gxb) ?gx1 ?gx2 ?gx3); (case gx1 => walk_at "get"); (case gx2 => rfl))
  | ((with_reducible refine g_len_l (xs := ?gxa) (.inl ?gx1) ?gx3); (case gx1 => walk_at "get"))
  | ((with_reducible refine g_mod_i ?gx1 ?gx3); (case gx1 => omega)))
local macro_rules | `(tactic| walk_at "rs") => `(tactic| repeat walk_at "rs1")
section
variable {P : Program} {w : World} {K : PySem.W.Frag} {mg : Str → Option Value} {base : Heap} {Z : Ads}
theorem g_ne_txt {H : Hp} {Q : VK} {p q : Addr} {z : Str} (hp : H p = some (.lst [.str z, .str z])) (hq : H q = some (.lst [.str z, .str z])) (hz : okS z) (h : Q (.bl false) H) : gNe K (.ref p) (.ref q) H Q := by
  refine g_ne_same (d := .list [.str z, .str z]) (.lst (sq_l hp) (.cons (.str _) (.cons (.str _) .nil))) (.lst (sq_l hq) (.cons (.str _) (.cons (.str _) .nil))) ?_ (by simp [PyData.depth, PyData.depthAll]) h
  simp only [PyData.canLay0, PyData.canLayAll0]
  rw [(okS_iff z).mpr hz]; rfl
theorem ne_told {H : Hp} {Q : VK} {p q a b c d : Addr} {h : V} {xs ys : List Str} (g : (decide (h = .non) || isNm h) = true) (hp : SqT K H p [.str "rule", h, .ref a, .ref b]) (hq : SqT K H q [.str "rule", h, .ref c, .ref d]) (ha : SqT K H a (xs.map V.str)) (hb : SqT K H b (ys.map V.str)) (hc : SqT K H c (xs.map V.str)) (hd : SqT K H d (ys.map V.str))
    (nx : ∀ z ∈ xs, nameS z = true) (ny : ∀ z ∈ ys, nameS z = true) (k : Q (.bl false) H) : gNe K (.ref p) (.ref q) H Q := by
  obtain ⟨lx, px⟩ := lay_names nx
  obtain ⟨ly, py⟩ := lay_names ny
  obtain ⟨lh, ph⟩ := lay_dV (ok_nm g)
  have dh : Dp K H h (dV h) := dp_flat (ok_flat (ok_nm g))
  refine g_ne_same (d := .tuple [.str "rule", dV h, .tuple ((xs.map V.str).map dV), .tuple ((ys.map V.str).map dV)]) (.tup hp (.cons (.str _) (.cons dh (.cons (dp_names nx ha) (.cons (dp_names ny hb) .nil))))) (.tup hq (.cons (.str _) (.cons dh (.cons (dp_names nx hc) (.cons (dp_names ny hd) .nil))))) ?_ ?_ k
  · simp only [PyData.canLay0, PyData.canLayAll0] at lx ly ⊢
    rw [lx, ly, lh, show PyData.strOk ("rule" : Str) = true by decide +kernel]; rfl
  · show max 0 (max _ (max _ (max _ 0))) + 1 ≤ 64
    rw [px, py, ph]; decide
theorem g_strR {H : Hp} {Q : VK} {a : Addr} {h : V} {bs us : List Str} (r : IsRule K Z H a h (bs.map V.str) (us.map V.str)) (k : ∀ H', Ex H H' → Q (.str (ruleText h bs us)) H') : cOr rStrS (rStrOwn Z.Rule (sp_Rule___str__ K Z) E0) [.ref a] H Q := by
  have r0 := r
  obtain ⟨dx, pb, pu, ha, -⟩ := r0
  exact .inr ⟨a, dx, _, rfl, ha, a, h, bs, us, rfl, r, fun H' e => ⟨⟨_, rfl⟩, k H' e⟩⟩
theorem rd_law {vs : List V} {H : Hp} {Q : VK} {E : XK} (R : RuleC K Z.Rule) (hB : ∀ H, SqT K H Z.dB []) (hU : ∀ H, SqT K H Z.dU []) (h : sp_law K Z vs H Q E) : t_law K Z { nx := fun _ H' => Q .non H', rt := Q } (start ["script", "draw", "turn", "parts", "rule", "found", "again"] vs) H := by
  obtain ⟨s, ns, rfl, hs, hn, q⟩ := h
  show t_law K Z _ [some (.ref s), none, none, none, none, none, none] H
  unfold t_law
  with_reducible refine c_seq ?_
  walk_at "rs"
  refine ⟨s, ns, rfl, hs, hn, fun d H1 hD1 e1 => ?_⟩
  with_reducible refine c_seq ?_
  walk_at "rs"
  refine c_iR1 (by omega) (by omega) ?_
  refine for_it walk_range (fun i σ H' => Ex H1 H' ∧ ∃ y1 y2 y3 y4 y5, σ = [some (.ref s), some (.ref d), y1, y2, y3, y4, y5]) ⟨Ex.refl _, none, none, none, none, none, rfl⟩ (fun _ _ _ _ _ => trivial) ?_ ?_
  · rintro i x σ H2 H2' hi ⟨e2, y1, y2, y3, y4, y5, rfl⟩ ⟨rfl, rfl⟩
    have hD2 := hD1.ex e2
    walk_at "rd"
    refine ⟨d, 7, rfl, hD2, by omega, by omega, fun p ss H3 n3 e3 h3 l3 nd3 nm3 => ?_⟩
    walk_at "rd"
    refine ⟨d, p, ss, rfl, hD2.ex e3, h3, by omega, nd3, nm3, fun q0 h b u bs us H4 e4 hP => ?_⟩
    obtain ⟨hq0, hb0, hu0, hg, nbs, nus⟩ := id hP
    have hg0 := hg
    unfold goodR at hg0
    rw [Bool.and_eq_true, Bool.and_eq_true] at hg0
    obtain ⟨hh, nb, nu⟩ := hg0
    obtain ⟨-, lbs, -⟩ := names_of nb
    obtain ⟨-, lus, -⟩ := names_of nu
    obtain ⟨tl1, tok⟩ := text_ok hh nbs nus lbs lus
    walk_at "rd"
    refine g_ix_t (v := h) (sq_t hq0) atI0 ?_
    walk_at "rd"
    refine g_ix_t (v := .ref b) (sq_t hq0) atI1 ?_
    walk_at "rd"
    refine g_listS (.inr (sq_t hb0)) (fun l5 H5 n5 e5 h5 => ?_)
    walk_at "rd"
    refine g_ix_t (v := .ref u) (sq_t (e5 _ _ hq0)) atI2 ?_
    walk_at "rd"
    refine g_listS (.inr (sq_t (e5 _ _ hu0))) (fun l6 H6 n6 e6 h6 => ?_)
    walk_at "rd"
    have ab : Arg K H6 (.ref l5) (some (bs.map V.str)) := arg_strs (e6 _ _ h5) (by omega) fun w k => ⟨by have := nameS_len (nbs w k); omega, nameS_ok (nbs w k)⟩
    have au : Arg K H6 (.ref l6) (some (us.map V.str)) := arg_strs h6 (by omega) fun w k => ⟨by have := nameS_len (nus w k); omega, nameS_ok (nus w k)⟩
    refine mk_rule (thing_nm hh) ab au (fun g a H7 na e7 r7 => ?_) (fun g => by rw [hg] at g; cases g)
    have r7' : IsRule K Z H7 a h (bs.map V.str) (us.map V.str) := r7
    obtain ⟨dx, pb, pu, hra, -⟩ := id r7'
    walk_at "rd"
    refine ⟨a, dx, _, rfl, hra, rfl, ?_⟩
    walk_at "rd"
    refine ⟨a, h, bs, us, rfl, r7', fun H8 e8 => ?_⟩
    walk_at "rd"
    refine g_strR (r7'.ex e8) (fun H9 e9 => ?_)
    walk_at "rd"
    refine c_lstE (by simp) (fun l10 H10 n10 e10 h10 => ?_)
    walk_at "rd"
    have t410 := e5.trans (e6.trans (e7.trans (e8.trans (e9.trans e10))))
    refine ⟨q0, h, b, u, bs, us, rfl, hP.ex t410, fun H11 e11 => ?_⟩
    walk_at "rd"
    refine c_lstE (by simp) (fun l12 H12 n12 e12 h12 => ?_)
    walk_at "rd"
    refine g_rep h12 (by omega) (by omega) (by simp) (fun l13 H13 n13 e13 h13 => ?_)
    have e1013 := e11.trans (e12.trans e13)
    refine g_ne_txt (e1013 _ _ h10) (by rw [h13]; rfl) tok ?_
    walk_at "rd"
    try refine g_ix_l (v := .str (ruleText h bs us)) (sq_l (e1013 _ _ h10)) atI0 ?_
    try walk_at "rd"
    refine ⟨_, h, bs, us, rfl, by omega, tok, ?_, ?_, fun a2 H14 e14 r14 => ?_⟩
    · rw [words_rule hh nbs nus]; exact words_ok hh nbs nus lbs lus
    · exact read_text hg nbs nus
    have r14a : IsRule K Z H14 a h (bs.map V.str) (us.map V.str) := r7'.ex (e8.trans (e9.trans (e10.trans (e1013.trans e14))))
    obtain ⟨dx2, pb2, pu2, hra2, -⟩ := id r14
    have hP14 : PartsT H14 q0 h b u bs us := hP.ex (t410.trans (e1013.trans e14))
    walk_at "rd"
    refine g_isi (.own _) (rule_ty R hra2) R.self ?_
    walk_at "rd"
    refine c_f ?_
    walk_at "rd"
    refine .inr ⟨a2, dx2, _, .ref Z.Rule, rfl, hra2, rule_ty R (r14a.choose_spec.choose_spec.choose_spec.1), R.first1, ?_⟩
    refine ⟨a2, h, .ref a, _, _, rfl, r14, .inr ⟨a, h, _, _, rfl, r14a, fun H15 e15 => ⟨⟨_, rfl⟩, ?_⟩⟩⟩
    rw [decide_eq_true rfl, decide_eq_true rfl, decide_eq_true rfl]
    walk_at "rd"
    refine c_f ?_
    walk_at "rd"
    refine ⟨a2, dx2, _, rfl, e15 _ _ hra2, rfl, ?_⟩
    walk_at "rd"
    refine ⟨a2, h, _, _, rfl, r14.ex e15, fun tp qb qu H16 e16 h16 hqb hqu => ?_⟩
    walk_at "rd"
    refine c_tupE (by simp) (fun p17 H17 n17 e17 h17 => ?_)
    walk_at "rd"
    have hP17 := hP14.ex (e15.trans (e16.trans e17))
    refine g_add_t (sq_t h17) (sq_t hP17.1) (by simp) (fun p18 H18 e18 h18 => ?_)
    have hP18 := hP17.ex e18
    refine ne_told hh (sq_t (e18 _ _ (e17 _ _ h16))) h18 (ex_t e18 (ex_t e17 hqb)) (ex_t e18 (ex_t e17 hqu)) (sq_t hP18.2.1) (sq_t hP18.2.2.1) nbs nus ?_
    walk_at "rd"
    exact ⟨e2.trans (e3.trans (e4.trans (t410.trans (e1013.trans (e14.trans (e15.trans (e16.trans (e17.trans e18)))))))), _, _, _, _, _, rfl⟩
  · rintro σ H2 ⟨e2, y1, y2, y3, y4, y5, rfl⟩
    walk_at "rd"
    have arg0 : ∀ {H : Hp} {p : Addr}, SqT K H p [] → Arg K H (.ref p) (some []) := fun h => ⟨⟨_, rfl, .inr h⟩, by simp, by simp⟩
    refine mk_rule (h := .non) (ob := some []) (ou := some []) trivial (arg0 (hB _)) (arg0 (hU _)) (fun g a H3 na e3 r3 => ?_) (fun g => by cases g)
    refine g_strR (bs := []) (us := []) r3 (fun H4 e4 => ?_)
    walk_at "rd"
    refine mk_rule (h := .str "a") (ob := some []) (ou := some []) ⟨by decide +kernel, okD (by decide +kernel)⟩ (arg0 (hB _)) (arg0 (hU _)) (fun g a5 H5 na5 e5 r5 => ?_) (fun g => by exact absurd g (by decide +kernel))
    refine g_strR (bs := []) (us := []) r5 (fun H6 e6 => ?_)
    walk_at "rd"
    refine c_lstE (by simp) (fun l7 H7 n7 e7 h7 => ?_)
    walk_at "rd"
    refine c_lstE (by simp) (fun l8 H8 n8 e8 h8 => ?_)
    refine .inl (g_eq_same (d := .list [.str "never", .str "a"]) (.lst (sq_l (e8 _ _ h7)) (.cons (.str _) (.cons (.str _) .nil))) (.lst (sq_l h8) (.cons (.str _) (.cons (.str _) .nil))) (by decide +kernel) (by decide +kernel) ?_)
    exact q H8

end
end K04

namespace K04
open PySem PySem.Spec PyProof.Rows L2 Evl Gx
local macro_rules | `(tactic| walk_at "len") => `(tactic| first | (rintro ⟨_, hh, _⟩; subst hh; rfl) | (rintro ⟨_, _, hh, _⟩; subst hh; rfl) | (rintro ⟨_, _, _, hh, _⟩; subst hh; rfl) | (rintro ⟨_, _, _, _, hh, _⟩; subst hh; rfl) | (rintro ⟨_, _, _, _, _, hh, _⟩; subst hh; rfl) | (rintro ⟨_, _, _, _, _, _, hh, _⟩; subst hh; rfl) | (rintro ⟨_, _, _, _, _, _, _, hh, _⟩; subst hh; rfl) | (rintro ⟨_, _, _, _, _, _, _, _, hh, _⟩; subst hh; rfl))
def Z0 : Ads := ⟨0, 0, 0, 0, 0, 0, 0, 0, 0, 0, 0, 0, 0, 0, 0, 0, 0, 0, 0, 0, 0, 0, 0, 0, 0, 0, 0, 0, 0, 0⟩
theorem kit_self {K : PySem.W.Frag} {t : Value} : PySem.W.kitOne K t t = some true := by
  unfold PySem.W.kitOne
  rw [if_pos (beq_self_eq_true t)]
theorem kit_cr {K : PySem.W.Frag} {t : Value} {C : Addr} {b : Bool} (i : PySem.W.isClsIn K C = true) (ty : PySem.W.typeIn K (.ref C) = some (.type "type")) (s : PySem.W.subIn K t (.ref C) = some b) : PySem.W.kitCls K t (.ref C) = some b := by
  have i' : (PySem.W.clsIn K C).isSome = true := i
  have e : ((PySem.W.clsIn K C).isSome && PySem.W.typeIn K (.ref C) == some (.type "type")) = true := by rw [i', ty]; rfl
  show (if ((PySem.W.clsIn K C).isSome && PySem.W.typeIn K (.ref C) == some (.type "type")) = true then PySem.W.subIn K t (.ref C) else none) = some b
  rw [if_pos e]
  exact s
theorem kit_rr {K : PySem.W.Frag} {t : Value} {C : Addr} {b : Bool} (i : PySem.W.isClsIn K C = true) (ty : PySem.W.typeIn K (.ref C) = some (.type "type")) (s : PySem.W.subIn K t (.ref C) = some b) (n : (t == Value.ref C) = false) : PySem.W.kitOne K t (.ref C) = some b := by
  unfold PySem.W.kitOne
  rw [if_neg (by rw [n]; exact Bool.false_ne_true)]
  exact kit_cr i ty s
theorem kit_tr {K : PySem.W.Frag} {n : String} {C : Addr} {b : Bool} (i : PySem.W.isClsIn K C = true) (ty : PySem.W.typeIn K (.ref C) = some (.type "type")) (s : PySem.W.subIn K (.type n) (.ref C) = some b) : PySem.W.kitOne K (.type n) (.ref C) = some b := kit_rr i ty s (beq_eq_false_iff_ne.mpr fun h => by cases h)
theorem kit_rt {K : PySem.W.Frag} {n : String} {C : Addr} {b : Bool} (m : PySem.W.kitMeta n = true) (s : PySem.W.subIn K (.ref C) (.type n) = some b) : PySem.W.kitOne K (.ref C) (.type n) = some b := by
  unfold PySem.W.kitOne
  rw [if_neg (fun h => by have := beq_iff_eq.mp h; cases this)]
  show (if PySem.W.kitMeta n = true then PySem.W.subIn K (.ref C) (.type n) else none) = some b
  rw [if_pos m]
  exact s
theorem exm_ref {K : PySem.W.Frag} {t : Value} {C : Addr} {b : Bool} (e : PySem.W.subIn K (.ref C) (.type "BaseException") = some true) (i : PySem.W.isClsIn K C = true) (ty : PySem.W.typeIn K (.ref C) = some (.type "type")) (s : PySem.W.subIn K t (.ref C) = some b) : PySem.W.exmOne K t (.ref C) = some b := by
  have e1 : (PySem.W.subIn K (.ref C) (.type "BaseException") == some true) = true := by rw [e]; rfl
  show (if (PySem.W.subIn K (.ref C) (.type "BaseException") == some true) = true then PySem.W.kitCls K t (.ref C) else none) = some b
  rw [if_pos e1]
  exact kit_cr i ty s
section
variable {P : Program} {w : World} {K : PySem.W.Frag} {mg : Str → Option Value} {base : Heap} {Z : Ads}
theorem ok_is_small_letter {Z : Ads} {f : Addr} {fd : FuncData}  (F : Fun K "is_small_letter" "is_small_letter" s_is_small_letter f fd)   : FnOk P w K mg base CX0 1 f fd ["sign"] (sp_is_small_letter K) :=
  F.ok sc_is_small_letter (fun vs H Q E h => by revert h; walk_at "len") (fun cdv A outer s H vs Q E hr h => ⟨_, d_is_small_letter (Z := Z)   hr, rd_is_small_letter  h⟩)
theorem ok_is_name {Z : Ads} {f : Addr} {fd : FuncData}  (F : Fun K "is_name" "is_name" s_is_name f fd) (C_is_small_letter : Cal P w K mg base CX0 1 "is_small_letter" ["sign"] [] (sp_is_small_letter K)) (n_all : mg "all" = none) (n_isinstance : mg "isinstance" = none) (n_len : mg "len" = none) (n_str : mg "str" = none) {t_LN : Tok} (m_LONGEST_NAME : mg "LONGEST_NAME" = some (.int 8 t_LN)) {T : Addr} (m_TAKEN_WORDS : mg "TAKEN_WORDS" = some (.ref T)) (hT : ∀ H, SqT K H T (taken.map V.str))  : FnOk P w K mg base CX0 2 f fd ["thing"] (sp_is_name K) :=
  F.ok sc_is_name (fun vs H Q E h => by revert h; walk_at "len") (fun cdv A outer s H vs Q E hr h => ⟨_, d_is_name (Z := Z) (v_LONGEST_NAME := .int 8) (v_TAKEN_WORDS := .ref T) C_is_small_letter m_LONGEST_NAME ⟨t_LN, rfl⟩ m_TAKEN_WORDS rfl n_all n_isinstance n_len n_str hr, rd_is_name hT h⟩)
theorem ok_is_names {Z : Ads} {f : Addr} {fd : FuncData} {dvs : List V} {kws : List (Str × V)} (F : FunD K "is_names" "is_names" (defArgs s_is_names) (defBody s_is_names) (defScope s_is_names) dvs kws f fd) (C_is_name : Cal P w K mg base CX0 2 "is_name" ["thing"] [] (sp_is_name K)) (n_all : mg "all" = none) (n_isinstance : mg "isinstance" = none) (n_len : mg "len" = none) (n_list : mg "list" = none) (n_set : mg "set" = none) (n_tuple : mg "tuple" = none)  : FnOk P w K mg base CX0 3 f fd ["thing", "most"] (sp_is_names K) :=
  F.ok sc_is_names (fun vs H Q E h => by revert h; walk_at "len") (fun cdv A outer s H vs Q E hr h => ⟨_, PSs.nox (d_is_names (Z := Z)  C_is_name n_all n_isinstance n_len n_list n_set n_tuple hr), rd_is_names  h⟩)
theorem ok_Rule___init__ {Z : Ads} {f : Addr} {fd : FuncData} {dvs : List V} {kws : List (Str × V)} (F : FunD K "__init__" "Rule.__init__" (defArgs s_Rule___init__) (defBody s_Rule___init__) (defScope s_Rule___init__) dvs kws f fd) (C_is_name : Cal P w K mg base CX0 2 "is_name" ["thing"] [] (sp_is_name K)) (C_is_names : Cal P w K mg base CX0 3 "is_names" ["thing", "most"] [] (sp_is_names K)) (X_BadRule : ExC K mg "BadRule" Z.BadRule) (n_tuple : mg "tuple" = none) {t_MB : Tok} (m_MOST_BODY : mg "MOST_BODY" = some (.int 6 t_MB)) {t_MU : Tok} (m_MOST_UNLESS : mg "MOST_UNLESS" = some (.int 4 t_MU)) (R : RuleC K Z.Rule) : FnOk P w K mg base (L2.CX P w) 4 f fd ["self", "head", "body", "unless"] (sp_Rule___init__ K Z) :=
  F.ok sc_Rule___init__ (fun vs H Q E h => by revert h; walk_at "len") (fun cdv A outer s H vs Q E hr h => ⟨_, d_Rule___init__ (Z := Z) (v_MOST_BODY := .int 6) (v_MOST_UNLESS := .int 4) C_is_name C_is_names X_BadRule m_MOST_BODY ⟨t_MB, rfl⟩ m_MOST_UNLESS ⟨t_MU, rfl⟩ n_tuple hr, rd_Rule___init__ R h⟩)
theorem ok_Rule_told {Z : Ads} {f : Addr} {fd : FuncData}  (F : Fun K "told" "Rule.told" s_Rule_told f fd)  (R : RuleC K Z.Rule) : FnOk P w K mg base CX0 1 f fd ["self"] (sp_Rule_told K Z) :=
  F.ok sc_Rule_told (fun vs H Q E h => by revert h; walk_at "len") (fun cdv A outer s H vs Q E hr h => ⟨_, d_Rule_told (Z := Z)   hr, rd_Rule_told R h⟩)
theorem ok_Rule_text {Z : Ads} {f : Addr} {fd : FuncData}  (F : Fun K "text" "Rule.text" s_Rule_text f fd) (n_list : mg "list" = none) (R : RuleC K Z.Rule) : FnOk P w K mg base CX0 1 f fd ["self"] (sp_Rule_text K Z) :=
  F.ok sc_Rule_text (fun vs H Q E h => by revert h; walk_at "len") (fun cdv A outer s H vs Q E hr h => ⟨_, d_Rule_text (Z := Z)  n_list hr, rd_Rule_text R h⟩)
theorem ok_Rule___str__ {Z : Ads} {f : Addr} {fd : FuncData}  (F : Fun K "__str__" "Rule.__str__" s_Rule___str__ f fd) (T_Rule_text : Met P w K mg base CX0 1 Z.Rule "text" (sp_Rule_text K Z)) (n_str : mg "str" = none)  : FnOk P w K mg base CX0 2 f fd ["self"] (sp_Rule___str__ K Z) :=
  F.ok sc_Rule___str__ (fun vs H Q E h => by revert h; walk_at "len") (fun cdv A outer s H vs Q E hr h => ⟨_, d_Rule___str__ (Z := Z)  T_Rule_text n_str hr, rd_Rule___str__  h⟩)
theorem ok_Rule___eq__ {Z : Ads} {f : Addr} {fd : FuncData}  (F : Fun K "__eq__" "Rule.__eq__" s_Rule___eq__ f fd) (c_Rule : mg "Rule" = some (.ref Z.Rule)) (n_isinstance : mg "isinstance" = none) (R : RuleC K Z.Rule) : FnOk P w K mg base CX0 1 f fd ["self", "other"] (sp_Rule___eq__ K Z) :=
  F.ok sc_Rule___eq__ (fun vs H Q E h => by revert h; walk_at "len") (fun cdv A outer s H vs Q E hr h => ⟨_, d_Rule___eq__ (Z := Z)  c_Rule n_isinstance hr, rd_Rule___eq__ R h⟩)
theorem ok_words_in {Z : Ads} {f : Addr} {fd : FuncData}  (F : Fun K "words_in" "words_in" s_words_in f fd)   : FnT P w K mg base CX0 1 f fd ["row"] (sp_words_in K) :=
  okT F sc_words_in (fun vs H Q E h => by revert h; walk_at "len") (fun cdv A outer s H vs Q E hr h => ⟨_, PSsT.nox (d_words_in (Z := Z)   hr), rd_words_in  h⟩)
theorem ok_parts_of {Z : Ads} {f : Addr} {fd : FuncData}  (F : Fun K "parts_of" "parts_of" s_parts_of f fd)   : FnOk P w K mg base CX0 1 f fd ["words"] (sp_parts_of K) :=
  F.ok sc_parts_of (fun vs H Q E h => by revert h; walk_at "len") (fun cdv A outer s H vs Q E hr h => ⟨_, d_parts_of (Z := Z)   hr, rd_parts_of  h⟩)
theorem ok_rule_with {Z : Ads} {f : Addr} {fd : FuncData}  (F : Fun K "rule_with" "rule_with" s_rule_with f fd) (C_parts_of : Cal P w K mg base CX0 1 "parts_of" ["words"] [] (sp_parts_of K)) (c_BadRule : mg "BadRule" = some (.ref Z.BadRule)) (M_Rule_2_unless : Ctor P w K mg base (L2.CX P w) 4 "Rule" Z.Rule 2 ["unless"] (g_Rule_2_unless Z) (sp_Rule___init__ K Z)) (n_len : mg "len" = none) (kx : PySem.W.exmOne K (.ref Z.BadRule) (.ref Z.BadRule) = some true) : FnOk P w K mg base CX0 6 f fd ["head", "words"] (sp_rule_with K Z) :=
  F.ok sc_rule_with (fun vs H Q E h => by revert h; walk_at "len") (fun cdv A outer s H vs Q E hr h => ⟨_, d_rule_with (Z := Z)  C_parts_of c_BadRule M_Rule_2_unless n_len hr, rd_rule_with kx h⟩)
theorem ok_rule_in {Z : Ads} {f : Addr} {fd : FuncData}  (F : Fun K "rule_in" "rule_in" s_rule_in f fd) (C_rule_with : Cal P w K mg base CX0 6 "rule_with" ["head", "words"] [] (sp_rule_with K Z)) (n_len : mg "len" = none)  : FnOk P w K mg base CX0 7 f fd ["words"] (sp_rule_in K Z) :=
  F.ok sc_rule_in (fun vs H Q E h => by revert h; walk_at "len") (fun cdv A outer s H vs Q E hr h => ⟨_, d_rule_in (Z := Z)  C_rule_with n_len hr, rd_rule_in  h⟩)
theorem ok_read_rule {Z : Ads} {f : Addr} {fd : FuncData}  (F : Fun K "read_rule" "read_rule" s_read_rule f fd) (C_rule_in : Cal P w K mg base CX0 7 "rule_in" ["words"] [] (sp_rule_in K Z)) (CT_words_in : CalT P w K mg base CX0 1 "words_in" ["row"] (sp_words_in K)) (n_isinstance : mg "isinstance" = none) (n_str : mg "str" = none)  : FnT P w K mg base CX0 8 f fd ["text"] (sp_read_rule K Z) :=
  okT F sc_read_rule (fun vs H Q E h => by revert h; walk_at "len") (fun cdv A outer s H vs Q E hr h => ⟨_, PSsT.nox (d_read_rule (Z := Z)  C_rule_in CT_words_in n_isinstance n_str hr), rd_read_rule  h⟩)
theorem ok__law_begin {Z : Ads} {f : Addr} {fd : FuncData}  (F : Fun K "_law_begin" "_law_begin" s__law_begin f fd) (n_abs : mg "abs" = none)  : FnOk P w K mg base CX0 1 f fd ["script"] (sp__law_begin K) :=
  begin_view (F.ok sc__law_begin (fun vs H Q E h => by revert h; walk_at "len") (fun cdv A outer s H vs Q E hr h => ⟨_, d__law_begin (Z := Z)  n_abs hr, rd__law_begin  h⟩)) rfl
theorem ok__law_take {Z : Ads} {f : Addr} {fd : FuncData}  (F : Fun K "_law_take" "_law_take" s__law_take f fd) (n_len : mg "len" = none)  : FnOk P w K mg base CX0 1 f fd ["draw", "size"] (sp__law_take K) :=
  take_view (F.ok sc__law_take (fun vs H Q E h => by revert h; walk_at "len") (fun cdv A outer s H vs Q E hr h => ⟨_, d__law_take (Z := Z)  n_len hr, rd__law_take  h⟩)) rfl
theorem ok__law_pick {Z : Ads} {f : Addr} {fd : FuncData}  (F : Fun K "_law_pick" "_law_pick" s__law_pick f fd) (C__law_take : Cal P w K mg base CX0 1 "_law_take" ["draw", "size"] [] (sp__law_take K)) (n_len : mg "len" = none)  : FnOk P w K mg base CX0 2 f fd ["draw", "some"] (sp__law_pick K) :=
  F.ok sc__law_pick (fun vs H Q E h => by revert h; walk_at "len") (fun cdv A outer s H vs Q E hr h => ⟨_, d__law_pick (Z := Z)  C__law_take n_len hr, rd__law_pick  h⟩)
theorem ok__law_word {Z : Ads} {f : Addr} {fd : FuncData}  (F : Fun K "_law_word" "_law_word" s__law_word f fd) (C__law_pick : Cal P w K mg base CX0 2 "_law_pick" ["draw", "some"] [] (sp__law_pick K)) (C__law_take : Cal P w K mg base CX0 1 "_law_take" ["draw", "size"] [] (sp__law_take K)) (n_range : mg "range" = none)  : FnOk P w K mg base CX0 3 f fd ["draw"] (sp__law_word K) :=
  F.ok sc__law_word (fun vs H Q E h => by revert h; walk_at "len") (fun cdv A outer s H vs Q E hr h => ⟨_, d__law_word (Z := Z)  C__law_pick C__law_take n_range hr, rd__law_word  h⟩)
theorem ok__law_words {Z : Ads} {f : Addr} {fd : FuncData}  (F : Fun K "_law_words" "_law_words" s__law_words f fd) (C__law_word : Cal P w K mg base CX0 3 "_law_word" ["draw"] [] (sp__law_word K)) (n_range : mg "range" = none)  : FnOk P w K mg base CX0 4 f fd ["draw", "many"] (sp__law_words K) :=
  F.ok sc__law_words (fun vs H Q E h => by revert h; walk_at "len") (fun cdv A outer s H vs Q E hr h => ⟨_, d__law_words (Z := Z)  C__law_word n_range hr, rd__law_words  h⟩)
theorem ok__law_parts {Z : Ads} {f : Addr} {fd : FuncData}  (F : Fun K "_law_parts" "_law_parts" s__law_parts f fd) (C__law_take : Cal P w K mg base CX0 1 "_law_take" ["draw", "size"] [] (sp__law_take K)) (n_len : mg "len" = none) (n_tuple : mg "tuple" = none)  : FnOk P w K mg base CX0 2 f fd ["draw", "words"] (sp__law_parts K) :=
  F.ok sc__law_parts (fun vs H Q E h => by revert h; walk_at "len") (fun cdv A outer s H vs Q E hr h => ⟨_, d__law_parts (Z := Z)  C__law_take n_len n_tuple hr, rd__law_parts  h⟩)
theorem ok__law_text {Z : Ads} {f : Addr} {fd : FuncData}  (F : Fun K "_law_text" "_law_text" s__law_text f fd) (n_len : mg "len" = none) (n_list : mg "list" = none)  : FnOk P w K mg base CX0 1 f fd ["parts"] (sp__law_text K) :=
  F.ok sc__law_text (fun vs H Q E h => by revert h; walk_at "len") (fun cdv A outer s H vs Q E hr h => ⟨_, d__law_text (Z := Z)  n_len n_list hr, rd__law_text  h⟩)
theorem ok_law {Z : Ads} {f : Addr} {fd : FuncData}  (F : Fun K "law" "law" s_law f fd) (C__law_begin : Cal P w K mg base CX0 1 "_law_begin" ["script"] [] (sp__law_begin K)) (C__law_parts : Cal P w K mg base CX0 2 "_law_parts" ["draw", "words"] [] (sp__law_parts K)) (C__law_text : Cal P w K mg base CX0 1 "_law_text" ["parts"] [] (sp__law_text K)) (C__law_words : Cal P w K mg base CX0 4 "_law_words" ["draw", "many"] [] (sp__law_words K)) (CT_read_rule : CalT P w K mg base CX0 8 "read_rule" ["text"] (sp_read_rule K Z)) (c_Rule : mg "Rule" = some (.ref Z.Rule)) (M_Rule_1 : Ctor P w K mg base (L2.CX P w) 4 "Rule" Z.Rule 1 [] (g_Rule_1 Z) (sp_Rule___init__ K Z)) (M_Rule_2_unless : Ctor P w K mg base (L2.CX P w) 4 "Rule" Z.Rule 2 ["unless"] (g_Rule_2_unless Z) (sp_Rule___init__ K Z)) (EQ : EqC P w K mg base CX0 1 Z.Rule (sp_Rule___eq__ K Z)) (T_Rule_text : Met P w K mg base CX0 1 Z.Rule "text" (sp_Rule_text K Z)) (T_Rule_told : Met P w K mg base CX0 1 Z.Rule "told" (sp_Rule_told K Z)) (n_isinstance : mg "isinstance" = none) (n_list : mg "list" = none) (n_range : mg "range" = none) (n_str : mg "str" = none) (S_Rule : StrC P w K mg base CX0 2 Z.Rule (sp_Rule___str__ K Z)) (R : RuleC K Z.Rule) (hB : ∀ H, SqT K H Z.dB []) (hU : ∀ H, SqT K H Z.dU []) : FnOk P w K mg base CX0 9 f fd ["script"] (sp_law K Z) :=
  F.ok sc_law (fun vs H Q E h => by revert h; walk_at "len") (fun cdv A outer s H vs Q E hr h => ⟨_, d_law (Z := Z)  C__law_begin C__law_parts C__law_text C__law_words CT_read_rule c_Rule M_Rule_1 M_Rule_2_unless EQ T_Rule_text T_Rule_told n_isinstance n_list n_range n_str S_Rule hr, rd_law R hB hU h⟩)
end
theorem all_mk {l : PySem.W.OpenLaw} {w : World} {K : PySem.W.Frag} {h : Heap} {mg : Str → Option Value} {fa : Addr} (X : K.In h) (G : h.Ns mainGlobals mg) (hfa : mg "law" = some (.ref fa))
    {c_BadRule : Addr}
    {c_Rule : Addr}
    {f_is_small_letter : Addr} {od_is_small_letter an_is_small_letter : Option Addr} {sl_is_small_letter : Array (Option Value)} {oc_is_small_letter kV_is_small_letter dc_is_small_letter pm_is_small_letter cd_is_small_letter ct_is_small_letter : Value}
    {f_is_name : Addr} {od_is_name an_is_name : Option Addr} {sl_is_name : Array (Option Value)} {oc_is_name kV_is_name dc_is_name pm_is_name cd_is_name ct_is_name : Value}
    {f_is_names : Addr} {od_is_names an_is_names : Option Addr} {sl_is_names : Array (Option Value)} {oc_is_names kV_is_names dc_is_names pm_is_names cd_is_names ct_is_names : Value}
    {T_is_names : Addr} {to_is_names : Value} {td_is_names : Option Addr} {tn_is_names : Nat} {ts_is_names : Array (Option Value)} {t_MN : Tok}
    {f_Rule___init__ : Addr} {od_Rule___init__ an_Rule___init__ : Option Addr} {sl_Rule___init__ : Array (Option Value)} {oc_Rule___init__ dc_Rule___init__ pm_Rule___init__ cd_Rule___init__ ct_Rule___init__ : Value}
    {T_Rule___init__ : Addr} {to_Rule___init__ : Value} {td_Rule___init__ : Option Addr} {tn_Rule___init__ : Nat} {ts_Rule___init__ : Array (Option Value)} {dB : Addr}
    {D_Rule___init__ : Addr}
    {f_Rule_told : Addr} {od_Rule_told an_Rule_told : Option Addr} {sl_Rule_told : Array (Option Value)} {oc_Rule_told kV_Rule_told dc_Rule_told pm_Rule_told cd_Rule_told ct_Rule_told : Value}
    {f_Rule_text : Addr} {od_Rule_text an_Rule_text : Option Addr} {sl_Rule_text : Array (Option Value)} {oc_Rule_text kV_Rule_text dc_Rule_text pm_Rule_text cd_Rule_text ct_Rule_text : Value}
    {f_Rule___str__ : Addr} {od_Rule___str__ an_Rule___str__ : Option Addr} {sl_Rule___str__ : Array (Option Value)} {oc_Rule___str__ kV_Rule___str__ dc_Rule___str__ pm_Rule___str__ cd_Rule___str__ ct_Rule___str__ : Value}
    {f_Rule___eq__ : Addr} {od_Rule___eq__ an_Rule___eq__ : Option Addr} {sl_Rule___eq__ : Array (Option Value)} {oc_Rule___eq__ kV_Rule___eq__ dc_Rule___eq__ pm_Rule___eq__ cd_Rule___eq__ ct_Rule___eq__ : Value}
    {f_words_in : Addr} {od_words_in an_words_in : Option Addr} {sl_words_in : Array (Option Value)} {oc_words_in kV_words_in dc_words_in pm_words_in cd_words_in ct_words_in : Value}
    {f_parts_of : Addr} {od_parts_of an_parts_of : Option Addr} {sl_parts_of : Array (Option Value)} {oc_parts_of kV_parts_of dc_parts_of pm_parts_of cd_parts_of ct_parts_of : Value}
    {f_rule_with : Addr} {od_rule_with an_rule_with : Option Addr} {sl_rule_with : Array (Option Value)} {oc_rule_with kV_rule_with dc_rule_with pm_rule_with cd_rule_with ct_rule_with : Value}
    {f_rule_in : Addr} {od_rule_in an_rule_in : Option Addr} {sl_rule_in : Array (Option Value)} {oc_rule_in kV_rule_in dc_rule_in pm_rule_in cd_rule_in ct_rule_in : Value}
    {f_read_rule : Addr} {od_read_rule an_read_rule : Option Addr} {sl_read_rule : Array (Option Value)} {oc_read_rule kV_read_rule dc_read_rule pm_read_rule cd_read_rule ct_read_rule : Value}
    {f__law_begin : Addr} {od__law_begin an__law_begin : Option Addr} {sl__law_begin : Array (Option Value)} {oc__law_begin kV__law_begin dc__law_begin pm__law_begin cd__law_begin ct__law_begin : Value}
    {f__law_take : Addr} {od__law_take an__law_take : Option Addr} {sl__law_take : Array (Option Value)} {oc__law_take kV__law_take dc__law_take pm__law_take cd__law_take ct__law_take : Value}
    {f__law_pick : Addr} {od__law_pick an__law_pick : Option Addr} {sl__law_pick : Array (Option Value)} {oc__law_pick kV__law_pick dc__law_pick pm__law_pick cd__law_pick ct__law_pick : Value}
    {f__law_word : Addr} {od__law_word an__law_word : Option Addr} {sl__law_word : Array (Option Value)} {oc__law_word kV__law_word dc__law_word pm__law_word cd__law_word ct__law_word : Value}
    {f__law_words : Addr} {od__law_words an__law_words : Option Addr} {sl__law_words : Array (Option Value)} {oc__law_words kV__law_words dc__law_words pm__law_words cd__law_words ct__law_words : Value}
    {f__law_parts : Addr} {od__law_parts an__law_parts : Option Addr} {sl__law_parts : Array (Option Value)} {oc__law_parts kV__law_parts dc__law_parts pm__law_parts cd__law_parts ct__law_parts : Value}
    {f__law_text : Addr} {od__law_text an__law_text : Option Addr} {sl__law_text : Array (Option Value)} {oc__law_text kV__law_text dc__law_text pm__law_text cd__law_text ct__law_text : Value}
    {f_law : Addr} {od_law an_law : Option Addr} {sl_law : Array (Option Value)} {oc_law kV_law dc_law pm_law cd_law ct_law : Value}
    (a_BadRule : PySem.W.nsIn K mainGlobals "BadRule" = some (some (.ref c_BadRule)))
    (a_Rule : PySem.W.nsIn K mainGlobals "Rule" = some (some (.ref c_Rule)))
    (a_is_small_letter : PySem.W.nsIn K mainGlobals "is_small_letter" = some (some (.ref f_is_small_letter)))
    (l_is_small_letter : K.lookup f_is_small_letter = some ⟨oc_is_small_letter, od_is_small_letter, .func (PySem.W.fnOf "is_small_letter" "is_small_letter" (defArgs s_is_small_letter) (defBody s_is_small_letter) (defScope s_is_small_letter) .none kV_is_small_letter dc_is_small_letter pm_is_small_letter an_is_small_letter cd_is_small_letter ct_is_small_letter), sl_is_small_letter⟩)
    (c_is_small_letter : PySem.W.codeIn K cd_is_small_letter "is_small_letter" = true)
    (k_is_small_letter : PySem.W.keepIn K (.ref f_is_small_letter) = true)
    (a_is_name : PySem.W.nsIn K mainGlobals "is_name" = some (some (.ref f_is_name)))
    (l_is_name : K.lookup f_is_name = some ⟨oc_is_name, od_is_name, .func (PySem.W.fnOf "is_name" "is_name" (defArgs s_is_name) (defBody s_is_name) (defScope s_is_name) .none kV_is_name dc_is_name pm_is_name an_is_name cd_is_name ct_is_name), sl_is_name⟩)
    (c_is_name : PySem.W.codeIn K cd_is_name "is_name" = true)
    (k_is_name : PySem.W.keepIn K (.ref f_is_name) = true)
    (a_is_names : PySem.W.nsIn K mainGlobals "is_names" = some (some (.ref f_is_names)))
    (l_is_names : K.lookup f_is_names = some ⟨oc_is_names, od_is_names, .func (PySem.W.fnOf "is_names" "is_names" (defArgs s_is_names) (defBody s_is_names) (defScope s_is_names) (.ref T_is_names) kV_is_names dc_is_names pm_is_names an_is_names cd_is_names ct_is_names), sl_is_names⟩)
    (c_is_names : PySem.W.codeIn K cd_is_names "is_names" = true)
    (k_is_names : PySem.W.keepIn K (.ref f_is_names) = true)
    (lT_is_names : K.lookup T_is_names = some ⟨to_is_names, td_is_names, .seq #[.int 24 t_MN] tn_is_names, ts_is_names⟩)
    (a_Rule___init__ : PySem.W.findIn K (.ref c_Rule) "__init__" = some (some (.ref f_Rule___init__)))
    (i_Rule___init__ : PySem.W.isFn K (.ref f_Rule___init__) = true)
    (l_Rule___init__ : K.lookup f_Rule___init__ = some ⟨oc_Rule___init__, od_Rule___init__, .func (PySem.W.fnOf "__init__" "Rule.__init__" (defArgs s_Rule___init__) (defBody s_Rule___init__) (defScope s_Rule___init__) (.ref T_Rule___init__) (.ref D_Rule___init__) dc_Rule___init__ pm_Rule___init__ an_Rule___init__ cd_Rule___init__ ct_Rule___init__), sl_Rule___init__⟩)
    (c_Rule___init__ : PySem.W.codeIn K cd_Rule___init__ "Rule.__init__" = true)
    (k_Rule___init__ : PySem.W.keepIn K (.ref f_Rule___init__) = true)
    (lT_Rule___init__ : K.lookup T_Rule___init__ = some ⟨to_Rule___init__, td_Rule___init__, .seq #[.ref dB] tn_Rule___init__, ts_Rule___init__⟩)
    (nD_Rule___init___unless : PySem.W.nsIn K D_Rule___init__ "unless" = some (some (.ref dU)))
    (a_Rule_told : PySem.W.findIn K (.ref c_Rule) "told" = some (some (.ref f_Rule_told)))
    (i_Rule_told : PySem.W.isFn K (.ref f_Rule_told) = true)
    (l_Rule_told : K.lookup f_Rule_told = some ⟨oc_Rule_told, od_Rule_told, .func (PySem.W.fnOf "told" "Rule.told" (defArgs s_Rule_told) (defBody s_Rule_told) (defScope s_Rule_told) .none kV_Rule_told dc_Rule_told pm_Rule_told an_Rule_told cd_Rule_told ct_Rule_told), sl_Rule_told⟩)
    (c_Rule_told : PySem.W.codeIn K cd_Rule_told "Rule.told" = true)
    (k_Rule_told : PySem.W.keepIn K (.ref f_Rule_told) = true)
    (a_Rule_text : PySem.W.findIn K (.ref c_Rule) "text" = some (some (.ref f_Rule_text)))
    (i_Rule_text : PySem.W.isFn K (.ref f_Rule_text) = true)
    (l_Rule_text : K.lookup f_Rule_text = some ⟨oc_Rule_text, od_Rule_text, .func (PySem.W.fnOf "text" "Rule.text" (defArgs s_Rule_text) (defBody s_Rule_text) (defScope s_Rule_text) .none kV_Rule_text dc_Rule_text pm_Rule_text an_Rule_text cd_Rule_text ct_Rule_text), sl_Rule_text⟩)
    (c_Rule_text : PySem.W.codeIn K cd_Rule_text "Rule.text" = true)
    (k_Rule_text : PySem.W.keepIn K (.ref f_Rule_text) = true)
    (a_Rule___str__ : PySem.W.findIn K (.ref c_Rule) "__str__" = some (some (.ref f_Rule___str__)))
    (i_Rule___str__ : PySem.W.isFn K (.ref f_Rule___str__) = true)
    (l_Rule___str__ : K.lookup f_Rule___str__ = some ⟨oc_Rule___str__, od_Rule___str__, .func (PySem.W.fnOf "__str__" "Rule.__str__" (defArgs s_Rule___str__) (defBody s_Rule___str__) (defScope s_Rule___str__) .none kV_Rule___str__ dc_Rule___str__ pm_Rule___str__ an_Rule___str__ cd_Rule___str__ ct_Rule___str__), sl_Rule___str__⟩)
    (c_Rule___str__ : PySem.W.codeIn K cd_Rule___str__ "Rule.__str__" = true)
    (k_Rule___str__ : PySem.W.keepIn K (.ref f_Rule___str__) = true)
    (a_Rule___eq__ : PySem.W.findIn K (.ref c_Rule) "__eq__" = some (some (.ref f_Rule___eq__)))
    (i_Rule___eq__ : PySem.W.isFn K (.ref f_Rule___eq__) = true)
    (l_Rule___eq__ : K.lookup f_Rule___eq__ = some ⟨oc_Rule___eq__, od_Rule___eq__, .func (PySem.W.fnOf "__eq__" "Rule.__eq__" (defArgs s_Rule___eq__) (defBody s_Rule___eq__) (defScope s_Rule___eq__) .none kV_Rule___eq__ dc_Rule___eq__ pm_Rule___eq__ an_Rule___eq__ cd_Rule___eq__ ct_Rule___eq__), sl_Rule___eq__⟩)
    (c_Rule___eq__ : PySem.W.codeIn K cd_Rule___eq__ "Rule.__eq__" = true)
    (k_Rule___eq__ : PySem.W.keepIn K (.ref f_Rule___eq__) = true)
    (a_words_in : PySem.W.nsIn K mainGlobals "words_in" = some (some (.ref f_words_in)))
    (l_words_in : K.lookup f_words_in = some ⟨oc_words_in, od_words_in, .func (PySem.W.fnOf "words_in" "words_in" (defArgs s_words_in) (defBody s_words_in) (defScope s_words_in) .none kV_words_in dc_words_in pm_words_in an_words_in cd_words_in ct_words_in), sl_words_in⟩)
    (c_words_in : PySem.W.codeIn K cd_words_in "words_in" = true)
    (k_words_in : PySem.W.keepIn K (.ref f_words_in) = true)
    (a_parts_of : PySem.W.nsIn K mainGlobals "parts_of" = some (some (.ref f_parts_of)))
    (l_parts_of : K.lookup f_parts_of = some ⟨oc_parts_of, od_parts_of, .func (PySem.W.fnOf "parts_of" "parts_of" (defArgs s_parts_of) (defBody s_parts_of) (defScope s_parts_of) .none kV_parts_of dc_parts_of pm_parts_of an_parts_of cd_parts_of ct_parts_of), sl_parts_of⟩)
    (c_parts_of : PySem.W.codeIn K cd_parts_of "parts_of" = true)
    (k_parts_of : PySem.W.keepIn K (.ref f_parts_of) = true)
    (a_rule_with : PySem.W.nsIn K mainGlobals "rule_with" = some (some (.ref f_rule_with)))
    (l_rule_with : K.lookup f_rule_with = some ⟨oc_rule_with, od_rule_with, .func (PySem.W.fnOf "rule_with" "rule_with" (defArgs s_rule_with) (defBody s_rule_with) (defScope s_rule_with) .none kV_rule_with dc_rule_with pm_rule_with an_rule_with cd_rule_with ct_rule_with), sl_rule_with⟩)
    (c_rule_with : PySem.W.codeIn K cd_rule_with "rule_with" = true)
    (k_rule_with : PySem.W.keepIn K (.ref f_rule_with) = true)
    (a_rule_in : PySem.W.nsIn K mainGlobals "rule_in" = some (some (.ref f_rule_in)))
    (l_rule_in : K.lookup f_rule_in = some ⟨oc_rule_in, od_rule_in, .func (PySem.W.fnOf "rule_in" "rule_in" (defArgs s_rule_in) (defBody s_rule_in) (defScope s_rule_in) .none kV_rule_in dc_rule_in pm_rule_in an_rule_in cd_rule_in ct_rule_in), sl_rule_in⟩)
    (c_rule_in : PySem.W.codeIn K cd_rule_in "rule_in" = true)
    (k_rule_in : PySem.W.keepIn K (.ref f_rule_in) = true)
    (a_read_rule : PySem.W.nsIn K mainGlobals "read_rule" = some (some (.ref f_read_rule)))
    (l_read_rule : K.lookup f_read_rule = some ⟨oc_read_rule, od_read_rule, .func (PySem.W.fnOf "read_rule" "read_rule" (defArgs s_read_rule) (defBody s_read_rule) (defScope s_read_rule) .none kV_read_rule dc_read_rule pm_read_rule an_read_rule cd_read_rule ct_read_rule), sl_read_rule⟩)
    (c_read_rule : PySem.W.codeIn K cd_read_rule "read_rule" = true)
    (k_read_rule : PySem.W.keepIn K (.ref f_read_rule) = true)
    (a__law_begin : PySem.W.nsIn K mainGlobals "_law_begin" = some (some (.ref f__law_begin)))
    (l__law_begin : K.lookup f__law_begin = some ⟨oc__law_begin, od__law_begin, .func (PySem.W.fnOf "_law_begin" "_law_begin" (defArgs s__law_begin) (defBody s__law_begin) (defScope s__law_begin) .none kV__law_begin dc__law_begin pm__law_begin an__law_begin cd__law_begin ct__law_begin), sl__law_begin⟩)
    (c__law_begin : PySem.W.codeIn K cd__law_begin "_law_begin" = true)
    (k__law_begin : PySem.W.keepIn K (.ref f__law_begin) = true)
    (a__law_take : PySem.W.nsIn K mainGlobals "_law_take" = some (some (.ref f__law_take)))
    (l__law_take : K.lookup f__law_take = some ⟨oc__law_take, od__law_take, .func (PySem.W.fnOf "_law_take" "_law_take" (defArgs s__law_take) (defBody s__law_take) (defScope s__law_take) .none kV__law_take dc__law_take pm__law_take an__law_take cd__law_take ct__law_take), sl__law_take⟩)
    (c__law_take : PySem.W.codeIn K cd__law_take "_law_take" = true)
    (k__law_take : PySem.W.keepIn K (.ref f__law_take) = true)
    (a__law_pick : PySem.W.nsIn K mainGlobals "_law_pick" = some (some (.ref f__law_pick)))
    (l__law_pick : K.lookup f__law_pick = some ⟨oc__law_pick, od__law_pick, .func (PySem.W.fnOf "_law_pick" "_law_pick" (defArgs s__law_pick) (defBody s__law_pick) (defScope s__law_pick) .none kV__law_pick dc__law_pick pm__law_pick an__law_pick cd__law_pick ct__law_pick), sl__law_pick⟩)
    (c__law_pick : PySem.W.codeIn K cd__law_pick "_law_pick" = true)
    (k__law_pick : PySem.W.keepIn K (.ref f__law_pick) = true)
    (a__law_word : PySem.W.nsIn K mainGlobals "_law_word" = some (some (.ref f__law_word)))
    (l__law_word : K.lookup f__law_word = some ⟨oc__law_word, od__law_word, .func (PySem.W.fnOf "_law_word" "_law_word" (defArgs s__law_word) (defBody s__law_word) (defScope s__law_word) .none kV__law_word dc__law_word pm__law_word an__law_word cd__law_word ct__law_word), sl__law_word⟩)
    (c__law_word : PySem.W.codeIn K cd__law_word "_law_word" = true)
    (k__law_word : PySem.W.keepIn K (.ref f__law_word) = true)
    (a__law_words : PySem.W.nsIn K mainGlobals "_law_words" = some (some (.ref f__law_words)))
    (l__law_words : K.lookup f__law_words = some ⟨oc__law_words, od__law_words, .func (PySem.W.fnOf "_law_words" "_law_words" (defArgs s__law_words) (defBody s__law_words) (defScope s__law_words) .none kV__law_words dc__law_words pm__law_words an__law_words cd__law_words ct__law_words), sl__law_words⟩)
    (c__law_words : PySem.W.codeIn K cd__law_words "_law_words" = true)
    (k__law_words : PySem.W.keepIn K (.ref f__law_words) = true)
    (a__law_parts : PySem.W.nsIn K mainGlobals "_law_parts" = some (some (.ref f__law_parts)))
    (l__law_parts : K.lookup f__law_parts = some ⟨oc__law_parts, od__law_parts, .func (PySem.W.fnOf "_law_parts" "_law_parts" (defArgs s__law_parts) (defBody s__law_parts) (defScope s__law_parts) .none kV__law_parts dc__law_parts pm__law_parts an__law_parts cd__law_parts ct__law_parts), sl__law_parts⟩)
    (c__law_parts : PySem.W.codeIn K cd__law_parts "_law_parts" = true)
    (k__law_parts : PySem.W.keepIn K (.ref f__law_parts) = true)
    (a__law_text : PySem.W.nsIn K mainGlobals "_law_text" = some (some (.ref f__law_text)))
    (l__law_text : K.lookup f__law_text = some ⟨oc__law_text, od__law_text, .func (PySem.W.fnOf "_law_text" "_law_text" (defArgs s__law_text) (defBody s__law_text) (defScope s__law_text) .none kV__law_text dc__law_text pm__law_text an__law_text cd__law_text ct__law_text), sl__law_text⟩)
    (c__law_text : PySem.W.codeIn K cd__law_text "_law_text" = true)
    (k__law_text : PySem.W.keepIn K (.ref f__law_text) = true)
    (a_law : PySem.W.nsIn K mainGlobals "law" = some (some (.ref f_law)))
    (l_law : K.lookup f_law = some ⟨oc_law, od_law, .func (PySem.W.fnOf "law" "law" (defArgs s_law) (defBody s_law) (defScope s_law) .none kV_law dc_law pm_law an_law cd_law ct_law), sl_law⟩)
    (c_law : PySem.W.codeIn K cd_law "law" = true)
    (k_law : PySem.W.keepIn K (.ref f_law) = true)
    {ed_dB : Option Addr} {en_dB : Nat} {es_dB : Array (Option Value)} {ed_dU : Option Addr} {en_dU : Nat} {es_dU : Array (Option Value)}
    (l_dB : K.lookup dB = some ⟨.type "tuple", ed_dB, .seq #[] en_dB, es_dB⟩)
    (l_dU : K.lookup dU = some ⟨.type "tuple", ed_dU, .seq #[] en_dU, es_dU⟩)
    (z_abs : PySem.W.nsIn K mainGlobals "abs" = some none)
    (z_all : PySem.W.nsIn K mainGlobals "all" = some none)
    (z_isinstance : PySem.W.nsIn K mainGlobals "isinstance" = some none)
    (z_len : PySem.W.nsIn K mainGlobals "len" = some none)
    (z_list : PySem.W.nsIn K mainGlobals "list" = some none)
    (z_range : PySem.W.nsIn K mainGlobals "range" = some none)
    (z_set : PySem.W.nsIn K mainGlobals "set" = some none)
    (z_str : PySem.W.nsIn K mainGlobals "str" = some none)
    (z_tuple : PySem.W.nsIn K mainGlobals "tuple" = some none)
    {t_LN : Tok}
    (a_LONGEST_NAME : PySem.W.nsIn K mainGlobals "LONGEST_NAME" = some (some (.int 8 t_LN)))
    {f_TW : Addr} {dd_TW : Option Addr} {n_TW : Nat} {sl_TW : Array (Option Value)} {t_T1 t_T2 t_T3 : Tok}
    (a_TAKEN_WORDS : PySem.W.nsIn K mainGlobals "TAKEN_WORDS" = some (some (.ref f_TW)))
    (l_TAKEN_WORDS : K.lookup f_TW = some ⟨.type "tuple", dd_TW, .seq #[.str "not" t_T1, .str "never" t_T2, .str "may" t_T3] n_TW, sl_TW⟩)
    {t_MB : Tok}
    (a_MOST_BODY : PySem.W.nsIn K mainGlobals "MOST_BODY" = some (some (.int 6 t_MB)))
    {t_MU : Tok}
    (a_MOST_UNLESS : PySem.W.nsIn K mainGlobals "MOST_UNLESS" = some (some (.int 4 t_MU)))
    (pg : PySem.W.plainGet K c_Rule Str.empty = true)
    (hdi : PySem.W.hasDictIn K c_Rule = true)
    (po : PySem.W.plainOver K c_Rule = true)
    (sa : PySem.W.findIn K (.ref c_Rule) "__setattr__" = some (some (.builtin "object.__setattr__")))
    (mk : PySem.W.makesIn K c_Rule = true)
    (kc : PySem.W.keepIn K (.ref c_Rule) = true)
    (no_head : PySem.W.findIn K (.ref c_Rule) "head" = some none)
    (no_body : PySem.W.findIn K (.ref c_Rule) "body" = some none)
    (no_unless : PySem.W.findIn K (.ref c_Rule) "unless" = some none)
    (r_ha : PySem.W.findIn K (.ref c_Rule) "__class__" = some (some (.builtin "object.__class__")))
    (r_hn : PySem.W.specialIn K (.builtin "object.__class__") "__get__" = some (some (.builtin "getset_descriptor.__get__")))
    (r_ht : PySem.W.takesIn K (.builtin "object.__class__") = some true)
    (r_hm : PySem.W.mroIn K c_Rule (.type "object") = some true)
    (s_r_no_str : PySem.W.subIn K (.ref c_Rule) (.type "str") = some false)
    (s_r_no_tuple : PySem.W.subIn K (.ref c_Rule) (.type "tuple") = some false)
    (s_r_no_list : PySem.W.subIn K (.ref c_Rule) (.type "list") = some false)
    (s_r_o_NoneType : PySem.W.subIn K (.type "NoneType") (.ref c_Rule) = some false)
    (ic_c_Rule : PySem.W.isClsIn K c_Rule = true)
    (ty_c_Rule : PySem.W.typeIn K (.ref c_Rule) = some (.type "type"))
    (s_r_o_bool : PySem.W.subIn K (.type "bool") (.ref c_Rule) = some false)
    (s_r_o_int : PySem.W.subIn K (.type "int") (.ref c_Rule) = some false)
    (s_r_o_str : PySem.W.subIn K (.type "str") (.ref c_Rule) = some false)
    (s_r_o_list : PySem.W.subIn K (.type "list") (.ref c_Rule) = some false)
    (s_r_o_tuple : PySem.W.subIn K (.type "tuple") (.ref c_Rule) = some false)
    (s_r_o_dict : PySem.W.subIn K (.type "dict") (.ref c_Rule) = some false)
    (r_f_NoneType : PySem.W.notFirst K c_Rule (.type "NoneType") = true)
    (r_f_bool : PySem.W.notFirst K c_Rule (.type "bool") = true)
    (r_f_int : PySem.W.notFirst K c_Rule (.type "int") = true)
    (r_f_str : PySem.W.notFirst K c_Rule (.type "str") = true)
    (r_f_list : PySem.W.notFirst K c_Rule (.type "list") = true)
    (r_f_tuple : PySem.W.notFirst K c_Rule (.type "tuple") = true)
    (r_f_dict : PySem.W.notFirst K c_Rule (.type "dict") = true)
    (r_f1 : PySem.W.notFirst K c_Rule (.ref c_Rule) = true)
    (x_BadRule : PySem.W.excIn K c_BadRule [.type "ValueError", .type "Exception", .type "BaseException", .type "object"] "ValueError.__new__" = true)
    (xk_BadRule : PySem.W.keepIn K (.ref c_BadRule) = true)
    (xb_BadRule : PySem.W.subIn K (.ref c_BadRule) (.type "BaseException") = some true)
    (xt_BadRule : PySem.W.typeIn K (.ref c_BadRule) = some (.type "type"))
    (s_kx : PySem.W.subIn K (.ref c_BadRule) (.ref c_BadRule) = some true)
    (ic_c_BadRule : PySem.W.isClsIn K c_BadRule = true)
    (ty_c_BadRule : PySem.W.typeIn K (.ref c_BadRule) = some (.type "type"))
    (be_c_BadRule : PySem.W.subIn K (.ref c_BadRule) (.type "BaseException") = some true)
    : ∃ fd : FuncData, (∀ (s : Shared) (v : Value), BindsTo s fd ⟨[v], []⟩ [("script", v)]) ∧ ∀ base : Heap, K.In base → base.Ns mainGlobals mg → FnOk l.prog w K mg base CX0 9 fa fd ["script"] (sp_law K Z0) := by
  have e := hfa.symm.trans (PySem.W.mg_of X G a_law)
  cases e
  let Z : Ads := ⟨0, 0, 0, c_BadRule, 0, 0, 0, 0, 0, 0, 0, 0, 0, 0, 0, 0, 0, 0, 0, 0, 0, 0, c_Rule, 0, 0, 0, 0, 0, dB, dU⟩
  have r_self : PySem.W.kitOne K (.ref c_Rule) (.ref c_Rule) = some true := kit_self
  have r_no_str : PySem.W.kitOne K (.ref c_Rule) (.type "str") = some false := kit_rt (by decide +kernel) s_r_no_str
  have r_no_tuple : PySem.W.kitOne K (.ref c_Rule) (.type "tuple") = some false := kit_rt (by decide +kernel) s_r_no_tuple
  have r_no_list : PySem.W.kitOne K (.ref c_Rule) (.type "list") = some false := kit_rt (by decide +kernel) s_r_no_list
  have r_o_NoneType : PySem.W.kitOne K (.type "NoneType") (.ref c_Rule) = some false := kit_tr ic_c_Rule ty_c_Rule s_r_o_NoneType
  have r_o_bool : PySem.W.kitOne K (.type "bool") (.ref c_Rule) = some false := kit_tr ic_c_Rule ty_c_Rule s_r_o_bool
  have r_o_int : PySem.W.kitOne K (.type "int") (.ref c_Rule) = some false := kit_tr ic_c_Rule ty_c_Rule s_r_o_int
  have r_o_str : PySem.W.kitOne K (.type "str") (.ref c_Rule) = some false := kit_tr ic_c_Rule ty_c_Rule s_r_o_str
  have r_o_list : PySem.W.kitOne K (.type "list") (.ref c_Rule) = some false := kit_tr ic_c_Rule ty_c_Rule s_r_o_list
  have r_o_tuple : PySem.W.kitOne K (.type "tuple") (.ref c_Rule) = some false := kit_tr ic_c_Rule ty_c_Rule s_r_o_tuple
  have r_o_dict : PySem.W.kitOne K (.type "dict") (.ref c_Rule) = some false := kit_tr ic_c_Rule ty_c_Rule s_r_o_dict
  have kx : PySem.W.exmOne K (.ref c_BadRule) (.ref c_BadRule) = some true := exm_ref be_c_BadRule ic_c_BadRule ty_c_BadRule s_kx
  have oth : ∀ n, n ∈ kinds → PySem.W.kitOne K (.type n) (.ref c_Rule) = some false := by
    intro n hn
    simp only [kinds, List.mem_cons, List.not_mem_nil, or_false] at hn
    rcases hn with rfl | rfl | rfl | rfl | rfl | rfl | rfl
    · exact r_o_NoneType
    · exact r_o_bool
    · exact r_o_int
    · exact r_o_str
    · exact r_o_list
    · exact r_o_tuple
    · exact r_o_dict
  have fst : ∀ n, n ∈ kinds → PySem.W.notFirst K c_Rule (.type n) = true := by
    intro n hn
    simp only [kinds, List.mem_cons, List.not_mem_nil, or_false] at hn
    rcases hn with rfl | rfl | rfl | rfl | rfl | rfl | rfl
    · exact r_f_NoneType
    · exact r_f_bool
    · exact r_f_int
    · exact r_f_str
    · exact r_f_list
    · exact r_f_tuple
    · exact r_f_dict
  have R : RuleC K Z.Rule := ⟨⟨pg, hdi, po, sa⟩, no_head, no_body, no_unless, r_ha, r_hn, r_ht, r_hm, r_self, r_no_str, r_no_tuple, r_no_list, oth, fst, r_f1⟩
  have hB : ∀ H, SqT K H Z.dB [] := fun H => .inr ⟨_, _, _, l_dB, rfl, rfl, by show 0 ≤ sizeLine; exact Nat.zero_le _, .nil⟩
  have hU : ∀ H, SqT K H Z.dU [] := fun H => .inr ⟨_, _, _, l_dU, rfl, rfl, by show 0 ≤ sizeLine; exact Nat.zero_le _, .nil⟩
  have cl_BadRule := PySem.W.mg_of X G a_BadRule
  have cl_Rule := PySem.W.mg_of X G a_Rule
  have X_BadRule : ExC K mg "BadRule" Z.BadRule := ⟨cl_BadRule, x_BadRule, xk_BadRule, xb_BadRule, xt_BadRule⟩
  have F_is_small_letter := fun_mk (st := s_is_small_letter) l_is_small_letter c_is_small_letter k_is_small_letter
  have B_is_small_letter := F_is_small_letter.binds (ps := ["sign"]) fun _ _ _ _ _ _ us hl => match us, hl with | [_], _ => rfl
  have m_is_small_letter := PySem.W.mg_of X G a_is_small_letter
  have F_is_name := fun_mk (st := s_is_name) l_is_name c_is_name k_is_name
  have B_is_name := F_is_name.binds (ps := ["thing"]) fun _ _ _ _ _ _ us hl => match us, hl with | [_], _ => rfl
  have m_is_name := PySem.W.mg_of X G a_is_name
  have F_is_names : FunD K "is_names" "is_names" (defArgs s_is_names) (defBody s_is_names) (defScope s_is_names) [.int 24] [] f_is_names _ := ⟨⟨oc_is_names, od_is_names, .ref T_is_names, kV_is_names, dc_is_names, pm_is_names, an_is_names, cd_is_names, ct_is_names, sl_is_names, rfl, l_is_names, c_is_names, .inr ⟨by simp, _, _, [.int 24 t_MN], _, rfl, lT_is_names, rfl, .cons (⟨_, rfl⟩) (.nil)⟩, .inl rfl⟩, k_is_names⟩
  have m_is_names := PySem.W.mg_of X G a_is_names
  have kd_Rule___init__ : ∀ q, q ∈ ([("unless", .ref dU)] : List (Str × V)) → ∃ u, PySem.W.nsIn K D_Rule___init__ q.1 = some (some u) ∧ RelV q.2 u := by
    intro q hq
    simp only [List.mem_cons, List.not_mem_nil, or_false] at hq
    subst hq
    · exact ⟨_, nD_Rule___init___unless, rfl⟩
  have F_Rule___init__ : FunD K "__init__" "Rule.__init__" (defArgs s_Rule___init__) (defBody s_Rule___init__) (defScope s_Rule___init__) [.ref dB] [("unless", .ref dU)] f_Rule___init__ _ := ⟨⟨oc_Rule___init__, od_Rule___init__, .ref T_Rule___init__, .ref D_Rule___init__, dc_Rule___init__, pm_Rule___init__, an_Rule___init__, cd_Rule___init__, ct_Rule___init__, sl_Rule___init__, rfl, l_Rule___init__, c_Rule___init__, .inr ⟨by simp, _, _, [.ref dB], _, rfl, lT_Rule___init__, rfl, .cons (rfl) (.nil)⟩, .inr ⟨_, rfl, kd_Rule___init__⟩⟩, k_Rule___init__⟩
  have F_Rule_told := fun_mk (st := s_Rule_told) l_Rule_told c_Rule_told k_Rule_told
  have B_Rule_told := F_Rule_told.binds (ps := ["self"]) fun _ _ _ _ _ _ us hl => match us, hl with | [_], _ => rfl
  have F_Rule_text := fun_mk (st := s_Rule_text) l_Rule_text c_Rule_text k_Rule_text
  have B_Rule_text := F_Rule_text.binds (ps := ["self"]) fun _ _ _ _ _ _ us hl => match us, hl with | [_], _ => rfl
  have F_Rule___str__ := fun_mk (st := s_Rule___str__) l_Rule___str__ c_Rule___str__ k_Rule___str__
  have B_Rule___str__ := F_Rule___str__.binds (ps := ["self"]) fun _ _ _ _ _ _ us hl => match us, hl with | [_], _ => rfl
  have F_Rule___eq__ := fun_mk (st := s_Rule___eq__) l_Rule___eq__ c_Rule___eq__ k_Rule___eq__
  have B_Rule___eq__ := F_Rule___eq__.binds (ps := ["self", "other"]) fun _ _ _ _ _ _ us hl => match us, hl with | [_, _], _ => rfl
  have F_words_in := fun_mk (st := s_words_in) l_words_in c_words_in k_words_in
  have B_words_in := F_words_in.binds (ps := ["row"]) fun _ _ _ _ _ _ us hl => match us, hl with | [_], _ => rfl
  have m_words_in := PySem.W.mg_of X G a_words_in
  have F_parts_of := fun_mk (st := s_parts_of) l_parts_of c_parts_of k_parts_of
  have B_parts_of := F_parts_of.binds (ps := ["words"]) fun _ _ _ _ _ _ us hl => match us, hl with | [_], _ => rfl
  have m_parts_of := PySem.W.mg_of X G a_parts_of
  have F_rule_with := fun_mk (st := s_rule_with) l_rule_with c_rule_with k_rule_with
  have B_rule_with := F_rule_with.binds (ps := ["head", "words"]) fun _ _ _ _ _ _ us hl => match us, hl with | [_, _], _ => rfl
  have m_rule_with := PySem.W.mg_of X G a_rule_with
  have F_rule_in := fun_mk (st := s_rule_in) l_rule_in c_rule_in k_rule_in
  have B_rule_in := F_rule_in.binds (ps := ["words"]) fun _ _ _ _ _ _ us hl => match us, hl with | [_], _ => rfl
  have m_rule_in := PySem.W.mg_of X G a_rule_in
  have F_read_rule := fun_mk (st := s_read_rule) l_read_rule c_read_rule k_read_rule
  have B_read_rule := F_read_rule.binds (ps := ["text"]) fun _ _ _ _ _ _ us hl => match us, hl with | [_], _ => rfl
  have m_read_rule := PySem.W.mg_of X G a_read_rule
  have F__law_begin := fun_mk (st := s__law_begin) l__law_begin c__law_begin k__law_begin
  have B__law_begin := F__law_begin.binds (ps := ["script"]) fun _ _ _ _ _ _ us hl => match us, hl with | [_], _ => rfl
  have m__law_begin := PySem.W.mg_of X G a__law_begin
  have F__law_take := fun_mk (st := s__law_take) l__law_take c__law_take k__law_take
  have B__law_take := F__law_take.binds (ps := ["draw", "size"]) fun _ _ _ _ _ _ us hl => match us, hl with | [_, _], _ => rfl
  have m__law_take := PySem.W.mg_of X G a__law_take
  have F__law_pick := fun_mk (st := s__law_pick) l__law_pick c__law_pick k__law_pick
  have B__law_pick := F__law_pick.binds (ps := ["draw", "some"]) fun _ _ _ _ _ _ us hl => match us, hl with | [_, _], _ => rfl
  have m__law_pick := PySem.W.mg_of X G a__law_pick
  have F__law_word := fun_mk (st := s__law_word) l__law_word c__law_word k__law_word
  have B__law_word := F__law_word.binds (ps := ["draw"]) fun _ _ _ _ _ _ us hl => match us, hl with | [_], _ => rfl
  have m__law_word := PySem.W.mg_of X G a__law_word
  have F__law_words := fun_mk (st := s__law_words) l__law_words c__law_words k__law_words
  have B__law_words := F__law_words.binds (ps := ["draw", "many"]) fun _ _ _ _ _ _ us hl => match us, hl with | [_, _], _ => rfl
  have m__law_words := PySem.W.mg_of X G a__law_words
  have F__law_parts := fun_mk (st := s__law_parts) l__law_parts c__law_parts k__law_parts
  have B__law_parts := F__law_parts.binds (ps := ["draw", "words"]) fun _ _ _ _ _ _ us hl => match us, hl with | [_, _], _ => rfl
  have m__law_parts := PySem.W.mg_of X G a__law_parts
  have F__law_text := fun_mk (st := s__law_text) l__law_text c__law_text k__law_text
  have B__law_text := F__law_text.binds (ps := ["parts"]) fun _ _ _ _ _ _ us hl => match us, hl with | [_], _ => rfl
  have m__law_text := PySem.W.mg_of X G a__law_text
  have F_law := fun_mk (st := s_law) l_law c_law k_law
  have n_abs := PySem.W.mg_none_of X G z_abs
  have n_all := PySem.W.mg_none_of X G z_all
  have n_isinstance := PySem.W.mg_none_of X G z_isinstance
  have n_len := PySem.W.mg_none_of X G z_len
  have n_list := PySem.W.mg_none_of X G z_list
  have n_range := PySem.W.mg_none_of X G z_range
  have n_set := PySem.W.mg_none_of X G z_set
  have n_str := PySem.W.mg_none_of X G z_str
  have n_tuple := PySem.W.mg_none_of X G z_tuple
  have m_LONGEST_NAME := PySem.W.mg_of X G a_LONGEST_NAME
  have m_TAKEN_WORDS := PySem.W.mg_of X G a_TAKEN_WORDS
  have m_MOST_BODY := PySem.W.mg_of X G a_MOST_BODY
  have m_MOST_UNLESS := PySem.W.mg_of X G a_MOST_UNLESS
  refine ⟨PySem.W.fnOf "law" "law" (defArgs s_law) (defBody s_law) (defScope s_law) .none kV_law dc_law pm_law an_law cd_law ct_law, fun s v => .of_eq rfl, fun base _ _ => ?_⟩
  have K_is_small_letter : FnOk l.prog w K mg base CX0 1 _ _ ["sign"] (sp_is_small_letter K) := ok_is_small_letter (Z := Z) F_is_small_letter 
  have C_is_small_letter := cal_of F_is_small_letter K_is_small_letter m_is_small_letter B_is_small_letter
  have K_Rule_told : FnOk l.prog w K mg base CX0 1 _ _ ["self"] (sp_Rule_told K Z) := ok_Rule_told (Z := Z) F_Rule_told R
  have T_Rule_told : Met l.prog w K mg base CX0 1 Z.Rule "told" (sp_Rule_told K Z) := ⟨_, _, _, R.cls, ⟨a_Rule_told, i_Rule_told, k_Rule_told⟩, K_Rule_told, B_Rule_told⟩
  have K_Rule_text : FnOk l.prog w K mg base CX0 1 _ _ ["self"] (sp_Rule_text K Z) := ok_Rule_text (Z := Z) F_Rule_text n_list R
  have T_Rule_text : Met l.prog w K mg base CX0 1 Z.Rule "text" (sp_Rule_text K Z) := ⟨_, _, _, R.cls, ⟨a_Rule_text, i_Rule_text, k_Rule_text⟩, K_Rule_text, B_Rule_text⟩
  have K_Rule___eq__ : FnOk l.prog w K mg base CX0 1 _ _ ["self", "other"] (sp_Rule___eq__ K Z) := ok_Rule___eq__ (Z := Z) F_Rule___eq__ cl_Rule n_isinstance R
  have EQ : EqC l.prog w K mg base CX0 1 Z.Rule (sp_Rule___eq__ K Z) := ⟨_, _, _, K_Rule___eq__, a_Rule___eq__, i_Rule___eq__, B_Rule___eq__⟩
  have K_words_in : FnT l.prog w K mg base CX0 1 _ _ ["row"] (sp_words_in K) := ok_words_in (Z := Z) F_words_in 
  have CT_words_in : CalT l.prog w K mg base CX0 1 "words_in" ["row"] (sp_words_in K) := ⟨_, _, K_words_in, m_words_in, F_words_in.kp, B_words_in⟩
  have K_parts_of : FnOk l.prog w K mg base CX0 1 _ _ ["words"] (sp_parts_of K) := ok_parts_of (Z := Z) F_parts_of 
  have C_parts_of := cal_of F_parts_of K_parts_of m_parts_of B_parts_of
  have K__law_begin : FnOk l.prog w K mg base CX0 1 _ _ ["script"] (sp__law_begin K) := ok__law_begin (Z := Z) F__law_begin n_abs
  have C__law_begin := cal_of F__law_begin K__law_begin m__law_begin B__law_begin
  have K__law_take : FnOk l.prog w K mg base CX0 1 _ _ ["draw", "size"] (sp__law_take K) := ok__law_take (Z := Z) F__law_take n_len
  have C__law_take := cal_of F__law_take K__law_take m__law_take B__law_take
  have K__law_text : FnOk l.prog w K mg base CX0 1 _ _ ["parts"] (sp__law_text K) := ok__law_text (Z := Z) F__law_text n_len n_list
  have C__law_text := cal_of F__law_text K__law_text m__law_text B__law_text
  have K_is_name : FnOk l.prog w K mg base CX0 2 _ _ ["thing"] (sp_is_name K) := ok_is_name (Z := Z) F_is_name C_is_small_letter n_all n_isinstance n_len n_str m_LONGEST_NAME m_TAKEN_WORDS (fun H => .inr ⟨_, _, _, l_TAKEN_WORDS, rfl, rfl, by show 3 ≤ sizeLine; decide, .cons ⟨_, rfl⟩ (.cons ⟨_, rfl⟩ (.cons ⟨_, rfl⟩ .nil))⟩)
  have C_is_name := cal_of F_is_name K_is_name m_is_name B_is_name
  have K_Rule___str__ : FnOk l.prog w K mg base CX0 2 _ _ ["self"] (sp_Rule___str__ K Z) := ok_Rule___str__ (Z := Z) F_Rule___str__ T_Rule_text n_str
  have S_Rule : StrC l.prog w K mg base CX0 2 Z.Rule (sp_Rule___str__ K Z) := ⟨_, _, _, K_Rule___str__, a_Rule___str__, i_Rule___str__, B_Rule___str__⟩
  have K__law_pick : FnOk l.prog w K mg base CX0 2 _ _ ["draw", "some"] (sp__law_pick K) := ok__law_pick (Z := Z) F__law_pick C__law_take n_len
  have C__law_pick := cal_of F__law_pick K__law_pick m__law_pick B__law_pick
  have K__law_parts : FnOk l.prog w K mg base CX0 2 _ _ ["draw", "words"] (sp__law_parts K) := ok__law_parts (Z := Z) F__law_parts C__law_take n_len n_tuple
  have C__law_parts := cal_of F__law_parts K__law_parts m__law_parts B__law_parts
  have K_is_names : FnOk l.prog w K mg base CX0 3 _ _ ["thing", "most"] (sp_is_names K) := ok_is_names (Z := Z) F_is_names C_is_name n_all n_isinstance n_len n_list n_set n_tuple
  have C_is_names : Cal l.prog w K mg base CX0 3 "is_names" ["thing", "most"] [] (sp_is_names K) := by
    obtain ⟨ds, r, B⟩ := F_is_names.binds1 (ps := ["thing", "most"]) 2 1 (by simp) rfl (fun T kV doc pm an cdv ct us its h1 h2 => by
      match us, its, h1, h2 with
      | [_, _], [_], _, _ => exact ⟨_, rfl, rfl⟩)
    cases r
    exact ⟨_, _, _, K_is_names, m_is_names, F_is_names.kp, B, .nil⟩
  have K__law_word : FnOk l.prog w K mg base CX0 3 _ _ ["draw"] (sp__law_word K) := ok__law_word (Z := Z) F__law_word C__law_pick C__law_take n_range
  have C__law_word := cal_of F__law_word K__law_word m__law_word B__law_word
  have K_Rule___init__ : FnOk l.prog w K mg base (L2.CX l.prog w) 4 _ _ ["self", "head", "body", "unless"] (sp_Rule___init__ K Z) := ok_Rule___init__ (Z := Z) F_Rule___init__ C_is_name C_is_names X_BadRule n_tuple m_MOST_BODY m_MOST_UNLESS R
  have M_Rule_2_unless : Ctor l.prog w K mg base (L2.CX l.prog w) 4 "Rule" Z.Rule 2 ["unless"] (g_Rule_2_unless Z) (sp_Rule___init__ K Z) := by
    obtain ⟨its, mv, B⟩ := F_Rule___init__.kbinds (ps := ["self", "head", "body", "unless"]) 3 ["unless"] [] (fun {_} vs ds mz zs => vs ++ zs) (by simp) (by simp) (fun q h => by cases h) (@fun vs ds mz zs us its mv ws r1 r2 r3 r4 => r1.append r4) (fun T D doc pm an cdv ct us its mv ws h1 h2 h3 h4 => by
      match us, its, mv, ws, h1, h2, h3, h4 with
      | [_, _, _], [_], [], [_], _, _, _, _ => exact ⟨_, rfl, rfl⟩)
    exact ⟨_, _, _, _, ⟨mk, a_Rule___init__, i_Rule___init__, kc⟩, K_Rule___init__, cl_Rule, B⟩
  have M_Rule_1 : Ctor l.prog w K mg base (L2.CX l.prog w) 4 "Rule" Z.Rule 1 [] (g_Rule_1 Z) (sp_Rule___init__ K Z) := by
    obtain ⟨its, mv, B⟩ := F_Rule___init__.kbinds (ps := ["self", "head", "body", "unless"]) 2 [] [("unless", .ref Z.dU)] (fun {_} vs ds mz zs => vs ++ (ds ++ mz)) (by simp) (by simp) (fun q h => h) (@fun vs ds mz zs us its mv ws r1 r2 r3 r4 => r1.append (r2.append r3)) (fun T D doc pm an cdv ct us its mv ws h1 h2 h3 h4 => by
      match us, its, mv, ws, h1, h2, h3, h4 with
      | [_, _], [_], [_], [], _, _, _, _ => exact ⟨_, rfl, ⟨_, _, _, _, _, _, rfl, rfl, rfl⟩⟩)
    exact ⟨_, _, _, _, ⟨mk, a_Rule___init__, i_Rule___init__, kc⟩, K_Rule___init__, cl_Rule, B⟩
  have K__law_words : FnOk l.prog w K mg base CX0 4 _ _ ["draw", "many"] (sp__law_words K) := ok__law_words (Z := Z) F__law_words C__law_word n_range
  have C__law_words := cal_of F__law_words K__law_words m__law_words B__law_words
  have K_rule_with : FnOk l.prog w K mg base CX0 6 _ _ ["head", "words"] (sp_rule_with K Z) := ok_rule_with (Z := Z) F_rule_with C_parts_of cl_BadRule M_Rule_2_unless n_len kx
  have C_rule_with := cal_of F_rule_with K_rule_with m_rule_with B_rule_with
  have K_rule_in : FnOk l.prog w K mg base CX0 7 _ _ ["words"] (sp_rule_in K Z) := ok_rule_in (Z := Z) F_rule_in C_rule_with n_len
  have C_rule_in := cal_of F_rule_in K_rule_in m_rule_in B_rule_in
  have K_read_rule : FnT l.prog w K mg base CX0 8 _ _ ["text"] (sp_read_rule K Z) := ok_read_rule (Z := Z) F_read_rule C_rule_in CT_words_in n_isinstance n_str
  have CT_read_rule : CalT l.prog w K mg base CX0 8 "read_rule" ["text"] (sp_read_rule K Z) := ⟨_, _, K_read_rule, m_read_rule, F_read_rule.kp, B_read_rule⟩
  have fin : FnOk l.prog w K mg base CX0 9 _ _ ["script"] (sp_law K Z) := ok_law (Z := Z) F_law C__law_begin C__law_parts C__law_text C__law_words CT_read_rule cl_Rule M_Rule_1 M_Rule_2_unless EQ T_Rule_text T_Rule_told n_isinstance n_list n_range n_str S_Rule R hB hU
  exact fin
end K04
open PySem PySem.W PyProof.Rows
set_option maxHeartbeats 0 in
theorem PySem.Challenge.cw_groundlots_k04_texts_of_rules_holds : PySem.Challenge.rw_groundlots_k04_texts_of_rules.Holds := by
  w_on; o_law; k_head; (case hw => w_witness2)
  k_fill
  refine L2.walk_of (l := PySem.Challenge.rw_groundlots_k04_texts_of_rules) (n := 63) (k := 9) (x := "script") (CX := fun _ => L2.CX0) (sp := fun w => K04.sp_law _ K04.Z0) rfl (by decide) rfl ⟨rfl, by decide, by decide⟩ (fun w h Y => PySem.W.kIn_of Y) ?F (fun _ _ a ns hl _ hS => ⟨a, ns, rfl, hS, hl, fun _ => rfl⟩) (fun _ _ _ _ _ h => h)
  case F =>
    intro w mg fa h KX G hmg
    refine' K04.all_mk KX G hmg ?a_BadRule ?a_Rule ?a_is_small_letter ?l_is_small_letter ?c_is_small_letter ?k_is_small_letter ?a_is_name ?l_is_name ?c_is_name ?k_is_name ?a_is_names ?l_is_names ?c_is_names ?k_is_names ?lT_is_names ?a_Rule___init__ ?i_Rule___init__ ?l_Rule___init__ ?c_Rule___init__ ?k_Rule___init__ ?lT_Rule___init__ ?nD_Rule___init___unless ?a_Rule_told ?i_Rule_told ?l_Rule_told ?c_Rule_told ?k_Rule_told ?a_Rule_text ?i_Rule_text ?l_Rule_text ?c_Rule_text ?k_Rule_text ?a_Rule___str__ ?i_Rule___str__ ?l_Rule___str__ ?c_Rule___str__ ?k_Rule___str__ ?a_Rule___eq__ ?i_Rule___eq__ ?l_Rule___eq__ ?c_Rule___eq__ ?k_Rule___eq__ ?a_words_in ?l_words_in ?c_words_in ?k_words_in ?a_parts_of ?l_parts_of ?c_parts_of ?k_parts_of ?a_rule_with ?l_rule_with ?c_rule_with ?k_rule_with ?a_rule_in ?l_rule_in ?c_rule_in ?k_rule_in ?a_read_rule ?l_read_rule ?c_read_rule ?k_read_rule ?a__law_begin ?l__law_begin ?c__law_begin ?k__law_begin ?a__law_take ?l__law_take ?c__law_take ?k__law_take ?a__law_pick ?l__law_pick ?c__law_pick ?k__law_pick ?a__law_word ?l__law_word ?c__law_word ?k__law_word ?a__law_words ?l__law_words ?c__law_words ?k__law_words ?a__law_parts ?l__law_parts ?c__law_parts ?k__law_parts ?a__law_text ?l__law_text ?c__law_text ?k__law_text ?a_law ?l_law ?c_law ?k_law ?l_dB ?l_dU ?z_abs ?z_all ?z_isinstance ?z_len ?z_list ?z_range ?z_set ?z_str ?z_tuple ?a_LONGEST_NAME ?a_TAKEN_WORDS ?l_TAKEN_WORDS ?a_MOST_BODY ?a_MOST_UNLESS ?pg ?hdi ?po ?sa ?mk ?kc ?no_head ?no_body ?no_unless ?r_ha ?r_hn ?r_ht ?r_hm ?s_r_no_str ?s_r_no_tuple ?s_r_no_list ?s_r_o_NoneType ?ic_c_Rule ?ty_c_Rule ?s_r_o_bool ?s_r_o_int ?s_r_o_str ?s_r_o_list ?s_r_o_tuple ?s_r_o_dict ?r_f_NoneType ?r_f_bool ?r_f_int ?r_f_str ?r_f_list ?r_f_tuple ?r_f_dict ?r_f1 ?x_BadRule ?xk_BadRule ?xb_BadRule ?xt_BadRule ?s_kx ?ic_c_BadRule ?ty_c_BadRule ?be_c_BadRule
    (case a_BadRule => k_is)
    (case a_Rule => k_is)
    (case a_is_small_letter => k_is)
    (case l_is_small_letter => k_is)
    (case c_is_small_letter => k_is)
    (case k_is_small_letter => k_is)
    (case a_is_name => k_is)
    (case l_is_name => k_is)
    (case c_is_name => k_is)
    (case k_is_name => k_is)
    (case a_is_names => k_is)
    (case l_is_names => k_is)
    (case c_is_names => k_is)
    (case k_is_names => k_is)
    (case lT_is_names => k_is)
    (case a_Rule___init__ => k_is)
    (case i_Rule___init__ => k_is)
    (case l_Rule___init__ => k_is)
    (case c_Rule___init__ => k_is)
    (case k_Rule___init__ => k_is)
    (case lT_Rule___init__ => k_is)
    (case nD_Rule___init___unless => k_is)
    (case a_Rule_told => k_is)
    (case i_Rule_told => k_is)
    (case l_Rule_told => k_is)
    (case c_Rule_told => k_is)
    (case k_Rule_told => k_is)
    (case a_Rule_text => k_is)
    (case i_Rule_text => k_is)
    (case l_Rule_text => k_is)
    (case c_Rule_text => k_is)
    (case k_Rule_text => k_is)
    (case a_Rule___str__ => k_is)
    (case i_Rule___str__ => k_is)
    (case l_Rule___str__ => k_is)
    (case c_Rule___str__ => k_is)
    (case k_Rule___str__ => k_is)
    (case a_Rule___eq__ => k_is)
    (case i_Rule___eq__ => k_is)
    (case l_Rule___eq__ => k_is)
    (case c_Rule___eq__ => k_is)
    (case k_Rule___eq__ => k_is)
    (case a_words_in => k_is)
    (case l_words_in => k_is)
    (case c_words_in => k_is)
    (case k_words_in => k_is)
    (case a_parts_of => k_is)
    (case l_parts_of => k_is)
    (case c_parts_of => k_is)
    (case k_parts_of => k_is)
    (case a_rule_with => k_is)
    (case l_rule_with => k_is)
    (case c_rule_with => k_is)
    (case k_rule_with => k_is)
    (case a_rule_in => k_is)
    (case l_rule_in => k_is)
    (case c_rule_in => k_is)
    (case k_rule_in => k_is)
    (case a_read_rule => k_is)
    (case l_read_rule => k_is)
    (case c_read_rule => k_is)
    (case k_read_rule => k_is)
    (case a__law_begin => k_is)
    (case l__law_begin => k_is)
    (case c__law_begin => k_is)
    (case k__law_begin => k_is)
    (case a__law_take => k_is)
    (case l__law_take => k_is)
    (case c__law_take => k_is)
    (case k__law_take => k_is)
    (case a__law_pick => k_is)
    (case l__law_pick => k_is)
    (case c__law_pick => k_is)
    (case k__law_pick => k_is)
    (case a__law_word => k_is)
    (case l__law_word => k_is)
    (case c__law_word => k_is)
    (case k__law_word => k_is)
    (case a__law_words => k_is)
    (case l__law_words => k_is)
    (case c__law_words => k_is)
    (case k__law_words => k_is)
    (case a__law_parts => k_is)
    (case l__law_parts => k_is)
    (case c__law_parts => k_is)
    (case k__law_parts => k_is)
    (case a__law_text => k_is)
    (case l__law_text => k_is)
    (case c__law_text => k_is)
    (case k__law_text => k_is)
    (case a_law => k_is)
    (case l_law => k_is)
    (case c_law => k_is)
    (case k_law => k_is)
    (case l_dB => k_is)
    (case l_dU => k_is)
    (case z_abs => k_is)
    (case z_all => k_is)
    (case z_isinstance => k_is)
    (case z_len => k_is)
    (case z_list => k_is)
    (case z_range => k_is)
    (case z_set => k_is)
    (case z_str => k_is)
    (case z_tuple => k_is)
    (case a_LONGEST_NAME => k_is)
    (case a_TAKEN_WORDS => k_is)
    (case l_TAKEN_WORDS => k_is)
    (case a_MOST_BODY => k_is)
    (case a_MOST_UNLESS => k_is)
    (case pg => k_is)
    (case hdi => k_is)
    (case po => k_is)
    (case sa => k_is)
    (case mk => k_is)
    (case kc => k_is)
    (case no_head => k_is)
    (case no_body => k_is)
    (case no_unless => k_is)
    (case r_ha => k_is)
    (case r_hn => k_is)
    (case r_ht => k_is)
    (case r_hm => k_is)
    (case s_r_no_str => first | rfl | k_is)
    (case s_r_no_tuple => first | rfl | k_is)
    (case s_r_no_list => first | rfl | k_is)
    (case s_r_o_NoneType => first | rfl | k_is)
    (case ic_c_Rule => k_is)
    (case ty_c_Rule => k_is)
    (case s_r_o_bool => first | rfl | k_is)
    (case s_r_o_int => first | rfl | k_is)
    (case s_r_o_str => first | rfl | k_is)
    (case s_r_o_list => first | rfl | k_is)
    (case s_r_o_tuple => first | rfl | k_is)
    (case s_r_o_dict => first | rfl | k_is)
    (case r_f_NoneType => k_is)
    (case r_f_bool => k_is)
    (case r_f_int => k_is)
    (case r_f_str => k_is)
    (case r_f_list => k_is)
    (case r_f_tuple => k_is)
    (case r_f_dict => k_is)
    (case r_f1 => k_is)
    (case x_BadRule => k_exc)
    (case xk_BadRule => k_is)
    (case xb_BadRule => k_is)
    (case xt_BadRule => k_is)
    (case s_kx => first | rfl | k_is)
    (case ic_c_BadRule => k_is)
    (case ty_c_BadRule => k_is)
    (case be_c_BadRule => k_is)
