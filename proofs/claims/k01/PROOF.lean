import PyProof.Rows.All
import Wide.All
import OpenK.AllK
import Wide.FinOn
import HandS.ForMost
import HandS.Wide
import HandS.IsInst
import HandS.Evl
import HandS.Flow
import HandS.Walk
import PySem.Challenge.RW_groundlots_k01_names
set_option Elab.async false
set_option linter.all false
set_option maxRecDepth 100000
set_option maxHeartbeats 4000000
/-! my own layer: opaque lists, views, steps -/
namespace Gx
open PySem PySem.Spec PyProof.Rows L2 Evl

/-! ### a list known by a property alone -/
def isL (p : Addr) (G : List V → Prop) : Heap → Prop := fun h => ∃ xs, G xs ∧ xs.length ≤ sizeLine ∧ ∃ (its : List Value) (n : Nat), Vals xs its ∧ h.get? p = some { cls := .type "list", data := .seq its.toArray n }
def oL (p : Addr) (G : List V → Prop) : HO := .ext (isL p G)

/-- the same but for what stands at lists and opaque lists -/
def Shp (A B : Hp) : Prop := ∀ b, A b = B b ∨ (((∃ xs, A b = some (.lst xs)) ∨ ∃ φ, A b = some (.ext φ)) ∧ ((∃ xs, B b = some (.lst xs)) ∨ ∃ φ, B b = some (.ext φ)))
theorem Shp.refl (A : Hp) : Shp A A := fun _ => .inl rfl
theorem Shp.symm {A B : Hp} (s : Shp A B) : Shp B A := fun b => by
  rcases s b with h | ⟨h1, h2⟩
  · exact .inl h.symm
  · exact .inr ⟨h2, h1⟩
theorem Shp.none {A B : Hp} (s : Shp A B) {b : Addr} (h : A b = none) : B b = none := by
  rcases s b with e | ⟨h1, _⟩
  · rw [← e]; exact h
  · rcases h1 with ⟨_, h1⟩ | ⟨_, h1⟩ <;> (rw [h] at h1; cases h1)
theorem Shp.tup {A B : Hp} (s : Shp A B) {b : Addr} {xs : List V} (h : A b = some (.tup xs)) : B b = some (.tup xs) := by
  rcases s b with e | ⟨h1, _⟩
  · rw [← e]; exact h
  · rcases h1 with ⟨_, h1⟩ | ⟨_, h1⟩ <;> (rw [h] at h1; cases h1)
theorem Shp.own {A B : Hp} (s : Shp A B) {b x : Addr} (h : A b = some (.own x)) : B b = some (.own x) := by
  rcases s b with e | ⟨h1, _⟩
  · rw [← e]; exact h
  · rcases h1 with ⟨_, h1⟩ | ⟨_, h1⟩ <;> (rw [h] at h1; cases h1)
theorem Shp.frz {A B : Hp} (s : Shp A B) {b : Addr} {o : Obj} {u : HO} (h : A b = some (.frz o u)) : B b = some (.frz o u) := by
  rcases s b with e | ⟨h1, _⟩
  · rw [← e]; exact h
  · rcases h1 with ⟨_, h1⟩ | ⟨_, h1⟩ <;> (rw [h] at h1; cases h1)
theorem Shp.tbl {A B : Hp} (s : Shp A B) {b : Addr} {ps : Array Value} (h : A b = some (.tbl ps)) : B b = some (.tbl ps) := by
  rcases s b with e | ⟨h1, _⟩
  · rw [← e]; exact h
  · rcases h1 with ⟨_, h1⟩ | ⟨_, h1⟩ <;> (rw [h] at h1; cases h1)
theorem Shp.trans {A B C : Hp} (s : Shp A B) (t : Shp B C) : Shp A C := fun b => by
  rcases s b with e | ⟨h1, h2⟩
  · rw [e]; exact t b
  · rcases t b with e' | ⟨_, h4⟩
    · rw [← e']; exact .inr ⟨h1, h2⟩
    · exact .inr ⟨h1, h4⟩
theorem Shp.upd {A : Hp} {p : Addr} {o : HO} (h : (∃ xs, A p = some (.lst xs)) ∨ ∃ φ, A p = some (.ext φ)) (ho : (∃ xs, o = .lst xs) ∨ ∃ φ, o = .ext φ) : Shp A (upd A p o) := fun b => by
  by_cases e : b = p
  · subst e
    refine .inr ⟨h, ?_⟩
    rcases ho with ⟨xs, rfl⟩ | ⟨φ, rfl⟩
    · exact .inl ⟨xs, upd_same⟩
    · exact .inr ⟨φ, upd_same⟩
  · exact .inl (upd_ne e).symm
section
variable {P : Program} {w : World} {K : PySem.W.Frag} {mg : Str → Option Value} {base : Heap}
theorem Un.shp {fs ex : List Addr} {A A' B B' : Hp} {h h' : Heap} (u : Un fs ex A B h h') (s : Shp A A') (t : Shp B B') : Un fs ex A' B' h h' where
  keep := fun b o e n hf hx => u.keep b o e (s.symm.none n) hf hx
  slot := fun b o e n hf hx => u.slot b o e (s.symm.none n) hf hx
  free := fun b o e n hx => t.none (u.free b o e (s.symm.none n) hx)
  there := u.there
  tups := fun b xs e => t.tup (u.tups b xs (s.symm.tup e))
  frzs := fun b o x e => t.frz (u.frzs b o x (s.symm.frz e))
  tbls := fun b ps e => by
    obtain ⟨m, e2⟩ := u.tbls b ps (s.symm.tbl e)
    exact ⟨m, t.tbl e2⟩
/-- one entry another -/
theorem HOk.swap {A : Hp} {h : Heap} {p : Addr} {o : HO} (x : HOk P w A h) (s : Shp A (upd A p o)) (new : ObjOk P w (upd A p o) h p o) : HOk P w (upd A p o) h := fun b u e => by
  by_cases hb : b = p
  · subst hb; rw [upd_same] at e; cases e; exact new
  · rw [upd_ne hb] at e
    exact (x b u e).stay (fun _ _ _ q => q) (fun c q => s.own q) (fun c xs q => s.tup q)
theorem isL_mono {p : Addr} {G : List V → Prop} : ∀ h1 h2 : Heap, isL p G h1 → (∀ o, h1.get? p = some o → h2.get? p = some o) → isL p G h2 := fun h1 h2 ⟨xs, g, z, its, n, r, e⟩ k => ⟨xs, g, z, its, n, r, k _ e⟩
/-- an opaque list opened -/
theorem HOk.openL {A : Hp} {h : Heap} {p : Addr} {G : List V → Prop} (x : HOk P w A h) (e : A p = some (oL p G)) : ∃ xs, G xs ∧ HOk P w (upd A p (.lst xs)) h ∧ Shp A (upd A p (.lst xs)) := by
  obtain ⟨⟨xs, g, z, its, n, r, q⟩, _, _⟩ := (show ObjOk P w A h p (oL p G) from x p _ e)
  have s : Shp A (upd A p (.lst xs)) := Shp.upd (.inr ⟨_, e⟩) (.inl ⟨xs, rfl⟩)
  exact ⟨xs, g, HOk.swap x s ⟨z, its, n, r, q⟩, s⟩
theorem HOk.shutL {A : Hp} {h : Heap} {p : Addr} {G : List V → Prop} {xs : List V} (x : HOk P w A h) (e : A p = some (.lst xs)) (g : G xs) : HOk P w (upd A p (oL p G)) h ∧ Shp A (upd A p (oL p G)) := by
  obtain ⟨z, its, n, r, q⟩ := (show ObjOk P w A h p (.lst xs) from x p _ e)
  have s : Shp A (upd A p (oL p G)) := Shp.upd (.inl ⟨_, e⟩) (.inr ⟨_, rfl⟩)
  exact ⟨HOk.swap x s ⟨⟨xs, g, z, its, n, r, q⟩, ⟨_, q⟩, isL_mono⟩, s⟩
/-- a promise over another view of the heap -/
theorem FnOk.view {k : Nat} {f : Addr} {fd : FuncData} {ps : List Str} {sp sp' : Sp} (F : FnOk P w K mg base CX0 k f fd ps sp) (len : ∀ vs H Q E, sp' vs H Q E → vs.length = ps.length)
    (h : ∀ vs H Q E, sp' vs H Q E → ∀ hp : Heap, HOk P w H hp → ∃ H0, HOk P w H0 hp ∧ Shp H H0 ∧ sp vs H0 (fun v H1 => ∀ hp' : Heap, HOk P w H1 hp' → ∃ H2, HOk P w H2 hp' ∧ Shp H1 H2 ∧ Q v H2) E) : FnOk P w K mg base CX0 k f fd ps sp' := by
  refine ⟨len, fun A outer s H args us vs Q E hr he hb hv hs => ?_⟩
  obtain ⟨H0, ok0, s0, q0⟩ := h vs H Q E hs s.heap he.hok
  refine codeAny_mono (F.run A outer s H0 args us vs _ E hr ⟨he.frames, he.mod, fun b o e => ⟨(he.bs b o e).1, s0.none (he.bs b o e).2⟩, he.bsz, he.funs, fun b hb => s0.none (he.frf b hb), ok0, he.bare⟩ hb hv q0) fun r s' hq => ?_
  cases r with
  | error e => exact False.elim hq
  | ok fl =>
    cases fl with
    | ret u =>
      obtain ⟨v, H1, os, bare, un, hok, r, q⟩ := hq
      obtain ⟨H2, ok2, s2, q2⟩ := q _ hok
      exact ⟨v, H2, os, bare, Un.shp un s0.symm s2, ok2, r, q2⟩
    | next => exact False.elim hq
    | brk => exact False.elim hq
    | cont => exact False.elim hq
end
end Gx

/-! steps: one lemma a piece of a reading; alternatives of rules by values -/
namespace Gx
open PySem PySem.Spec PyProof.Rows L2 Evl

/-! ### rules joined -/
def rOr (r1 r2 : R2) : R2 := fun x y H Q => r1 x y H Q ∨ r2 x y H Q
def cOr (r1 r2 : List V → Hp → VK → Prop) : List V → Hp → VK → Prop := fun xs H Q => r1 xs H Q ∨ r2 xs H Q
section
variable {X : Cx}
theorem opOr {f : Value → Value → Sem Value} {r1 r2 : R2} (h1 : OpR X f r1) (h2 : OpR X f r2) : OpR X f (rOr r1 r2) := fun pins s σ H x y v u Q I rx ry h => by
  rcases h with h | h
  · exact h1 pins s σ H x y v u Q I rx ry h
  · exact h2 pins s σ H x y v u Q I rx ry h
theorem callOr {f : Value} {r1 r2 : List V → Hp → VK → Prop} (h1 : CallR X f r1) (h2 : CallR X f r2) : CallR X f (cOr r1 r2) := fun pins s σ H xs us Q I r h => by
  rcases h with h | h
  · exact h1 pins s σ H xs us Q I r h
  · exact h2 pins s σ H xs us Q I r h
end
/-- in the form of the list's rule, the list one that is read -/
def gAdd (K : PySem.W.Frag) : R2 := rOr (rI0 fun i j => .int (i + j)) (rOr (fun x y H Q => ∃ i j, x = .str i ∧ y = .str j ∧ i.length + j.length ≤ sizeLine ∧ Q (.str (i ++ j)) H) (rOr rCat (rCatT K)))
theorem op_gAdd {X : Cx} : OpR X (binaryOp .Add) (gAdd X.K) := opOr op_add (opOr op_add_str (opOr op_cat op_catT))
def gMul : R2 := rOr (rI CMulW fun i j => .int (i * j)) rRep
theorem op_gMul {X : Cx} : OpR X (binaryOp .Mult) gMul := opOr op_mulW op_rep
def gEq (K : PySem.W.Frag) : R2 := rOr rEq (rEqD K)
theorem op_gEq {X : Cx} (hu : X.A.units + 64 < cLine) : OpR X (compareOp .Eq) (gEq X.K) := opOr op_eq (op_eqD hu)
def gNe (K : PySem.W.Frag) : R2 := rOr rNe (rNeD K)
theorem op_gNe {X : Cx} (hu : X.A.units + 64 < cLine) : OpR X (compareOp .NotEq) (gNe X.K) := opOr op_ne (op_neD hu)
def gLt : R2 := rOr (rI0 fun i j => .bl (decide (i < j))) (fun x y H Q => ∃ i j, x = .str i ∧ y = .str j ∧ Q (.bl (decide (i.cps.toList < j.cps.toList))) H)
theorem op_gLt {X : Cx} : OpR X (compareOp .Lt) gLt := opOr op_lt op_lt_str
def gLe : R2 := rOr (rI0 fun i j => .bl (decide (i ≤ j))) (fun x y H Q => ∃ i j, x = .str i ∧ y = .str j ∧ Q (.bl (!decide (j.cps.toList < i.cps.toList))) H)
theorem op_gLe {X : Cx} : OpR X (compareOp .LtE) gLe := opOr op_le op_le_str
def gGt : R2 := rOr (rI0 fun i j => .bl (decide (j < i))) (fun x y H Q => ∃ i j, x = .str i ∧ y = .str j ∧ Q (.bl (decide (j.cps.toList < i.cps.toList))) H)
theorem op_gGt {X : Cx} : OpR X (compareOp .Gt) gGt := opOr op_gt op_gt_str
def gGe : R2 := rOr (rI0 fun i j => .bl (decide (j ≤ i))) (fun x y H Q => ∃ i j, x = .str i ∧ y = .str j ∧ Q (.bl (!decide (i.cps.toList < j.cps.toList))) H)
theorem op_gGe {X : Cx} : OpR X (compareOp .GtE) gGe := opOr op_ge op_ge_str
/-- one sign in a text -/
def rSgn (neg : Bool) : R2 := fun x y H Q => ∃ (c : Nat) (z : Str), x = .str ⟨#[c]⟩ ∧ y = .str z ∧ Q (.bl (if neg then !decide (c ∈ z.cps.toList) else decide (c ∈ z.cps.toList))) H
def gIn (K : PySem.W.Frag) : R2 := rOr (rIn K false) (rSgn false)
theorem op_gIn {X : Cx} : OpR X (compareOp .In) (gIn X.K) := opOr op_in_seq op_in_sign
def gNi (K : PySem.W.Frag) : R2 := rOr (rIn K true) (rSgn true)
theorem op_gNi {X : Cx} : OpR X (compareOp .NotIn) (gNi X.K) := opOr op_notIn_seq op_notIn_sign
def gLen (K : PySem.W.Frag) : List V → Hp → VK → Prop := cOr (fun xs H Q => ∃ p ys, xs = [.ref p] ∧ (SqL K H p ys ∨ SqT K H p ys) ∧ Q (.int ys.length) H) (fun xs H Q => ∃ z, xs = [.str z] ∧ z.length ≤ sizeLine ∧ Q (.int z.length) H)
theorem call_gLen {X : Cx} : CallR X (.builtin "len") (gLen X.K) := callOr call_len_seq call_len_str
def gIsi (K : PySem.W.Frag) : List V → Hp → VK → Prop := cOr (rIsi K) (rIsiT K)
theorem call_gIsi {X : Cx} : CallR X (.builtin "isinstance") (gIsi X.K) := callOr call_isi call_isiT
/-- slices of what is read: a list, a tuple, a text -/
def gSl (K : PySem.W.Frag) : V → Option Int → Option Int → Hp → VK → Prop := fun x lo hi H Q => rSlL K x lo hi H Q ∨ rSlT K x lo hi H Q ∨ rSlS x lo hi H Q
theorem sl_g {X : Cx} : SlR X (gSl X.K) := SlR.or sl_list (SlR.or sl_tup sl_str)

/-! ### a def as its callers see it -/
structure Cal (P : Program) (w : World) (K : PySem.W.Frag) (mg : Str → Option Value) (base : Heap) (CX : CXT) (k : Nat) (x : Str) (ps : List Str) (dvs : List V) (sp : Sp) : Prop where
  ex : ∃ (f : Addr) (fd : FuncData) (ds : List Value), FnOk P w K mg base CX k f fd ps sp ∧ mg x = some (.ref f) ∧ PySem.W.keepIn K (.ref f) = true ∧ Binds K fd ps ds ∧ Vals dvs ds
theorem pe_cal {X : Cx} {CX : CXT} {k : Nat} {x : Str} {ps : List Str} {dvs : List V} {sp : Sp} {E : XK} {p pos : Pos} {e : Expr} {es : List Expr} {t : TA} (C : Cal X.prog X.w X.K X.mg X.base CX k x ps dvs sp) (hr : Room k X.A) (hg : Gl X x) (hx : Passes CX X E) (ha : PA X (e :: es) t)
    (hdb : (x == ("__debug__" : Str)) = false := by decide) (he : starEach (e :: es) X.env = (false, eval e X.env) :: starEach es X.env := by rfl) (hpl : (backTo pos (starEach es X.env)).any (·.1) = false := by rfl) :
    PE X (.Call (.Name x p) (e :: es) [] pos) (tCall sp dvs E t) := by
  obtain ⟨f, fd, ds, F, m, kp, b, d⟩ := C.ex
  exact pe_call F hr hg m kp b d hx ha hdb he hpl
theorem pe_cal0 {X : Cx} {CX : CXT} {k : Nat} {x : Str} {ps : List Str} {dvs : List V} {sp : Sp} {E : XK} {p pos : Pos} (C : Cal X.prog X.w X.K X.mg X.base CX k x ps dvs sp) (hr : Room k X.A) (hg : Gl X x) (hx : Passes CX X E)
    (hdb : (x == ("__debug__" : Str)) = false := by decide) : PE X (.Call (.Name x p) [] [] pos) (tCall sp dvs E tNil) := by
  obtain ⟨f, fd, ds, F, m, kp, b, d⟩ := C.ex
  exact pe_call0 F hr hg m kp b d hx hdb
/-- f(k = v, ..), all by keywords -/
theorem pe_callK0 {X : Cx} {CX : CXT} {k : Nat} {f : Addr} {fd : FuncData} {ps ks : List Str} {sp : Sp} {E : XK} {x : Str} {p pos : Pos} {kws : List Keyword} {tk : TA} {g : List Value → List Value → List Value} {gV : List V → List V → List V}
    (F : FnOk X.prog X.w X.K X.mg X.base CX k f fd ps sp) (hr : Room k X.A) (hg : Gl X x) (hm : X.mg x = some (.ref f)) (hk : PySem.W.keepIn X.K (.ref f) = true) (hb : KBinds X.K fd ps ks g gV) (hx : Passes CX X E) (hkw : PK X kws tk)
    (hall : (backToKw pos (keywordEach kws X.env)).all (·.1.isSome) = true := by rfl) (hks : (backToKw pos (keywordEach kws X.env)).filterMap (·.1) = ks := by rfl) (hdb : (x == ("__debug__" : Str)) = false := by decide)
    (hpl : ((backTo pos (starEach [] X.env)).any (·.1) || (backToKw pos (keywordEach kws X.env)).any (·.1.isNone)) = false := by rfl) :
    PE X (.Call (.Name x p) [] kws pos) (tCallK sp gV E tNil tk) := by
  refine ⟨fun pins s σ H Q I h => ?_⟩
  refine wpAny_Call_Name_kw (ld_glob I hg hm ?_ hdb)
  refine PySem.W.callWith_KW0 (h₀ := X.base) I.ok.mod.kin hk hall ?_ hpl
  refine thn (hkw.run pos pins s σ H _ I h) fun ws s2 ⟨zs, H2, I2, rz, q2⟩ => ⟨I2.kIn, ?_⟩
  rw [hks]
  exact run_fnk (us := []) (vs := []) F hr hb hx I2 .nil rz q2
structure CalK (P : Program) (w : World) (K : PySem.W.Frag) (mg : Str → Option Value) (base : Heap) (CX : CXT) (k : Nat) (x : Str) (ps ks : List Str) (gV : List V → List V → List V) (sp : Sp) : Prop where
  ex : ∃ (f : Addr) (fd : FuncData) (g : List Value → List Value → List Value), FnOk P w K mg base CX k f fd ps sp ∧ mg x = some (.ref f) ∧ PySem.W.keepIn K (.ref f) = true ∧ KBinds K fd ps ks g gV
theorem pe_calK0 {X : Cx} {CX : CXT} {k : Nat} {x : Str} {ps ks : List Str} {sp : Sp} {E : XK} {p pos : Pos} {kws : List Keyword} {tk : TA} {gV : List V → List V → List V}
    (C : CalK X.prog X.w X.K X.mg X.base CX k x ps ks gV sp) (hr : Room k X.A) (hg : Gl X x) (hx : Passes CX X E) (hkw : PK X kws tk)
    (hall : (backToKw pos (keywordEach kws X.env)).all (·.1.isSome) = true := by rfl) (hks : (backToKw pos (keywordEach kws X.env)).filterMap (·.1) = ks := by rfl) (hdb : (x == ("__debug__" : Str)) = false := by decide)
    (hpl : ((backTo pos (starEach [] X.env)).any (·.1) || (backToKw pos (keywordEach kws X.env)).any (·.1.isNone)) = false := by rfl) :
    PE X (.Call (.Name x p) [] kws pos) (tCallK sp gV E tNil tk) := by
  obtain ⟨f, fd, g, F, m, kp, b⟩ := C.ex
  exact pe_callK0 F hr hg m kp b hx hkw hall hks hdb hpl

theorem cal_of {P : Program} {w : World} {K : PySem.W.Frag} {mg : Str → Option Value} {base : Heap} {CX : CXT} {x qual : Str} {st : Stmt} {f : Addr} {fd : FuncData} {k : Nat} {ps : List Str} {sp : Sp} (F : Fun K x qual st f fd) (ok : FnOk P w K mg base CX k f fd ps sp) (m : mg x = some (.ref f)) (b : Binds K fd ps []) : Cal P w K mg base CX k x ps [] sp := ⟨f, fd, [], ok, m, F.kp, b, .nil⟩
theorem _root_.L2.Fun.kbindsF {K : PySem.W.Frag} {x qual : Str} {st : Stmt} {f : Addr} {fd : FuncData} {ps ks : List Str} (F : Fun K x qual st f fd)
    (h : ∀ (kV doc pm : Value) (an : Option Addr) (cdv ct : Value) (us ws : List Value), (us ++ ws).length = ps.length → bindArgs (PySem.W.fnOf x qual (defArgs st) (defBody st) (defScope st) .none kV doc pm an cdv ct) ⟨us, ks.zip ws⟩ = pure (ps.zip (us ++ ws))) : KBinds K fd ps ks (fun us ws => us ++ ws) (fun vs zs => vs ++ zs) := by
  obtain ⟨oc, od, kV, doc, pm, an, cdv, ct, osl, rfl, lk, hcd⟩ := F.ex
  exact ⟨fun s us ws _ hl => .of_eq (h kV doc pm an cdv ct us ws hl), fun r1 r2 => r1.append r2⟩
theorem calk_of {P : Program} {w : World} {K : PySem.W.Frag} {mg : Str → Option Value} {base : Heap} {CX : CXT} {x qual : Str} {st : Stmt} {f : Addr} {fd : FuncData} {k : Nat} {ps ks : List Str} {sp : Sp} {g : List Value → List Value → List Value} {gV : List V → List V → List V} (F : Fun K x qual st f fd) (ok : FnOk P w K mg base CX k f fd ps sp) (m : mg x = some (.ref f)) (b : KBinds K fd ps ks g gV) : CalK P w K mg base CX k x ps ks gV sp := ⟨f, fd, g, ok, m, F.kp, b⟩

/-! ### steps -/
section
variable {K : PySem.W.Frag} {σ : L2.St} {H : Hp} {Q : VK} {D : Ends} {ta tb tc te : TE} {x y v : V} {t u : TS} {tt uu : TT} {QB : Bool → Hp → Prop} {A B : Prop} {b c : Bool} {QL : List V → Hp → Prop}
theorem c_seq (h : t { D with nx := u D } σ H) : tSeq t u D σ H := h
theorem c_next (h : D.nx σ H) : tNext D σ H := h
theorem c_brk (h : D.bk σ H) : tBreak D σ H := h
theorem c_cont (h : D.ct σ H) : tCont D σ H := h
theorem c_drop (h : te σ H fun _ H1 => D.nx σ H1) : tDrop te D σ H := h
theorem c_ret (h : te σ H D.rt) : tRet te D σ H := h
theorem c_retN (h : D.rt .non H) : tRetN D σ H := h
theorem c_ifs (h : tt σ H fun b H1 => if b = true then t D σ H1 else u D σ H1) : tIfS tt t u D σ H := h
theorem c_asgG {g : TG} (h : te σ H fun x H1 => g x σ H1 D.nx) : tAsg te g D σ H := h
theorem c_c (h : Q v H) : tC v σ H Q := h
theorem c_op {r : R2} (h : ta σ H fun x H1 => tb σ H1 fun y H2 => r x y H2 Q) : tOp r ta tb σ H Q := h
theorem c_un {r : V → Hp → VK → Prop} (h : ta σ H fun x H1 => r x H1 Q) : tUn r ta σ H Q := h
theorem c_cb {r : List V → Hp → VK → Prop} {ta : TA} (h : ta σ H fun vs H1 => r vs H1 Q) : tCB r ta σ H Q := h
theorem c_nil (h : QL [] H) : tNil σ H QL := h
theorem c_cons {tr : TA} (h : ta σ H fun x H1 => tr σ H1 fun xs H2 => QL (x :: xs) H2) : tCons ta tr σ H QL := h
theorem c_call {sp : Sp} {dvs : List V} {E : XK} {ta : TA} (h : ta σ H fun vs H1 => sp (vs ++ dvs) H1 Q E) : tCall sp dvs E ta σ H Q := h
theorem c_callK {sp : Sp} {gV : List V → List V → List V} {E : XK} {ta tk : TA} (h : ta σ H fun vs H1 => tk σ H1 fun zs H2 => sp (gV vs zs) H2 Q E) : tCallK sp gV E ta tk σ H Q := h
theorem c_test (h : te σ H fun x H' => ∃ k, x = .bl k ∧ QB k H') : tTest te σ H QB := h
theorem c_tB (h : te σ H fun x H' => ∃ k, x = .bl k ∧ QB k H') : tB te σ H QB := h
theorem c_bl (h : QB b H) : ∃ k, V.bl b = .bl k ∧ QB k H := ⟨b, rfl, h⟩
theorem c_and (h : tt σ H fun c H1 => if c = true then uu σ H1 QB else QB false H1) : tAnd tt uu σ H QB := h
theorem c_or (h : tt σ H fun c H1 => if c = true then QB true H1 else uu σ H1 QB) : tOr tt uu σ H QB := h
theorem c_not (h : tt σ H fun c H1 => QB (!c) H1) : tNot tt σ H QB := h
theorem c_andV (h : ta σ H fun x H1 => ∃ c, x = .bl c ∧ if c = true then tb σ H1 Q else Q (.bl false) H1) : tAndV ta tb σ H Q := h
theorem c_orV (h : ta σ H fun x H1 => ∃ c, x = .bl c ∧ if c = true then Q (.bl true) H1 else tb σ H1 Q) : tOrV ta tb σ H Q := h
theorem c_notV (h : ta σ H fun x H1 => ∃ c, x = .bl c ∧ Q (.bl (!c)) H1) : tNotV ta σ H Q := h
theorem c_blP {R : Bool → Prop} (h : R b) : ∃ c, V.bl b = .bl c ∧ R c := ⟨b, rfl, h⟩
theorem c_if (h : tt σ H fun c H1 => if c = true then ta σ H1 Q else tb σ H1 Q) : tIf tt ta tb σ H Q := h
theorem c_chain {r r' : R2} (h : ta σ H fun x H1 => tb σ H1 fun y H2 => r x y H2 fun z H3 => ∃ k, z = .bl k ∧ if k = true then tc σ H3 fun y' H4 => r' y y' H4 Q else Q (.bl false) H3) : tChain r r' ta tb tc σ H Q := h
theorem c_sl {r : V → Option Int → Option Int → Hp → VK → Prop} {tl th : TO} (h : te σ H fun x H1 => tl σ H1 fun l H2 => th σ H2 fun u H3 => r x l u H3 Q) : tSl r te tl th σ H Q := h
theorem c_nop {QO : Option Int → Hp → Prop} (h : QO none H) : tNoPart σ H QO := h
theorem c_part {QO : Option Int → Hp → Prop} (h : te σ H fun x H1 => ∃ i, x = .int i ∧ QO (some i) H1) : tPart te σ H QO := h
theorem c_parti {i : Int} {R : Int → Prop} (h : R i) : ∃ j, V.int i = .int j ∧ R j := ⟨i, rfl, h⟩
def LK (Q : VK) (xs : List V) (H : Hp) : Prop := xs.length ≤ sizeLine ∧ ∀ p, H p = none → Q (.ref p) (upd H p (.lst xs))
def TK (Q : VK) (xs : List V) (H : Hp) : Prop := xs.length ≤ sizeLine ∧ ∀ p, H p = none → Q (.ref p) (upd H p (.tup xs))
theorem c_lst {ta : TA} (h : ta σ H fun xs H1 => LK Q xs H1) : tLst ta σ H Q := h
theorem c_lstE {xs : List V} (hl : xs.length ≤ 100000) (h : ∀ p H', H p = none → Ex H H' → H' p = some (.lst xs) → Q (.ref p) H') : LK Q xs H := ⟨sz_of hl, fun p hp => h p _ hp (Ex.new hp) upd_same⟩
theorem c_tup {ta : TA} (h : ta σ H fun xs H1 => TK Q xs H1) : tTup ta σ H Q := h
theorem c_tupE {xs : List V} (hl : xs.length ≤ 100000) (h : ∀ p H', H p = none → Ex H H' → H' p = some (.tup xs) → Q (.ref p) H') : TK Q xs H := ⟨sz_of hl, fun p hp => h p _ hp (Ex.new hp) upd_same⟩
/-! ways -/
theorem c_t (h : A) : if true = true then A else B := by rw [if_pos rfl]; exact h
theorem c_f (h : B) : if false = true then A else B := by rw [if_neg Bool.false_ne_true]; exact h
theorem c_2 (h1 : b = true → A) (h2 : b = false → B) : if b = true then A else B := by
  cases b with
  | true => exact c_t (h1 rfl)
  | false => exact c_f (h2 rfl)
theorem c_d {p : Prop} [Decidable p] (h1 : p → A) (h2 : ¬p → B) : if decide p = true then A else B := c_2 (fun e => h1 (of_decide_eq_true e)) (fun e => h2 (of_decide_eq_false e))
theorem c_nd {p : Prop} [Decidable p] (h1 : ¬p → A) (h2 : p → B) : if (!decide p) = true then A else B := c_2 (fun e => h1 (by simpa using e)) (fun e => h2 (by simpa using e))
/-! operators by values -/
theorem g_add_i {i j : Int} (h : Q (.int (i + j)) H) : gAdd K (.int i) (.int j) H Q := .inl ⟨i, j, rfl, rfl, h⟩
theorem g_add_s {i j : Str} (hl : i.length + j.length ≤ 100000) (h : Q (.str (i ++ j)) H) : gAdd K (.str i) (.str j) H Q := .inr (.inl ⟨i, j, rfl, rfl, sz_of hl, h⟩)
theorem g_add_l {p q : Addr} {xs ys : List V} (hp : H p = some (.lst xs)) (hq : H q = some (.lst ys)) (hl : xs.length + ys.length ≤ 100000) (h : ∀ r H', H r = none → Ex H H' → H' r = some (.lst (xs ++ ys)) → Q (.ref r) H') : gAdd K (.ref p) (.ref q) H Q :=
  .inr (.inr (.inl ⟨p, q, xs, ys, rfl, rfl, hp, hq, sz_of hl, fun r hr => h r _ hr (Ex.new hr) upd_same⟩))
theorem g_sub_i {i j : Int} (h : Q (.int (i - j)) H) : rI0 (fun i j => .int (i - j)) (.int i) (.int j) H Q := ⟨i, j, rfl, rfl, h⟩
theorem g_mul_i {i j : Int} (hc : CMulW i j) (h : Q (.int (i * j)) H) : gMul (.int i) (.int j) H Q := .inl ⟨i, j, rfl, rfl, hc, h⟩
theorem g_fdiv_i {i j : Int} (hc : CDivW i j) (h : Q (.int (i / j)) H) : rI CDivW (fun i j => .int (i / j)) (.int i) (.int j) H Q := ⟨i, j, rfl, rfl, hc, h⟩
theorem g_mod_i {i j : Int} (hc : 0 < j) (h : Q (.int (i % j)) H) : rI (fun _ j => 0 < j) (fun i j => .int (i % j)) (.int i) (.int j) H Q := ⟨i, j, rfl, rfl, hc, h⟩
theorem g_pow_i {i j : Int} (hc : CPow i j) (h : Q (.int (i ^ j.toNat)) H) : rI CPow (fun i j => .int (i ^ j.toNat)) (.int i) (.int j) H Q := ⟨i, j, rfl, rfl, hc, h⟩
theorem g_eq_s (hs : scal x y = true) (h : Q (.bl (decide (x = y))) H) : gEq K x y H Q := .inl ⟨hs, h⟩
theorem v_int {i j : Int} : decide (V.int i = V.int j) = decide (i = j) := by
  rw [decide_eq_decide]; exact ⟨V.int.inj, fun e => e ▸ rfl⟩
theorem v_str {i j : Str} : decide (V.str i = V.str j) = decide (i = j) := by
  rw [decide_eq_decide]; exact ⟨V.str.inj, fun e => e ▸ rfl⟩
theorem v_bl {i j : Bool} : decide (V.bl i = V.bl j) = decide (i = j) := by
  rw [decide_eq_decide]; exact ⟨V.bl.inj, fun e => e ▸ rfl⟩
theorem g_eq_i {i j : Int} (h : Q (.bl (decide (i = j))) H) : gEq K (.int i) (.int j) H Q := .inl ⟨rfl, by rw [v_int]; exact h⟩
theorem g_eq_st {i j : Str} (h : Q (.bl (decide (i = j))) H) : gEq K (.str i) (.str j) H Q := .inl ⟨rfl, by rw [v_str]; exact h⟩
theorem g_eq_b {i j : Bool} (h : Q (.bl (decide (i = j))) H) : gEq K (.bl i) (.bl j) H Q := .inl ⟨rfl, by rw [v_bl]; exact h⟩
theorem g_ne_i {i j : Int} (h : Q (.bl (!decide (i = j))) H) : gNe K (.int i) (.int j) H Q := .inl ⟨rfl, by rw [v_int]; exact h⟩
theorem g_ne_st {i j : Str} (h : Q (.bl (!decide (i = j))) H) : gNe K (.str i) (.str j) H Q := .inl ⟨rfl, by rw [v_str]; exact h⟩
theorem g_ne_b {i j : Bool} (h : Q (.bl (!decide (i = j))) H) : gNe K (.bl i) (.bl j) H Q := .inl ⟨rfl, by rw [v_bl]; exact h⟩
theorem g_eq_d {d e : PyData} (hd : Dp K H x d) (he : Dp K H y e) (s1 : SeqAt.shaped d = true) (s2 : SeqAt.shaped e = true) (h : Q (.bl (PyData.eqv d e)) H) : gEq K x y H Q := .inr ⟨d, e, hd, he, s1, s2, h⟩
theorem g_ne_d {d e : PyData} (hd : Dp K H x d) (he : Dp K H y e) (s1 : SeqAt.shaped d = true) (s2 : SeqAt.shaped e = true) (h : Q (.bl (!PyData.eqv d e)) H) : gNe K x y H Q := .inr ⟨d, e, hd, he, s1, s2, h⟩
theorem g_lt_i {i j : Int} (h : Q (.bl (decide (i < j))) H) : gLt (.int i) (.int j) H Q := .inl ⟨i, j, rfl, rfl, h⟩
theorem g_le_i {i j : Int} (h : Q (.bl (decide (i ≤ j))) H) : gLe (.int i) (.int j) H Q := .inl ⟨i, j, rfl, rfl, h⟩
theorem g_gt_i {i j : Int} (h : Q (.bl (decide (j < i))) H) : gGt (.int i) (.int j) H Q := .inl ⟨i, j, rfl, rfl, h⟩
theorem g_ge_i {i j : Int} (h : Q (.bl (decide (j ≤ i))) H) : gGe (.int i) (.int j) H Q := .inl ⟨i, j, rfl, rfl, h⟩
theorem g_le_s {i j : Str} (h : Q (.bl (!decide (j.cps.toList < i.cps.toList))) H) : gLe (.str i) (.str j) H Q := .inr ⟨i, j, rfl, rfl, h⟩
theorem g_in_l {p : Addr} {xs : List V} (hp : SqL K H p xs ∨ SqT K H p xs) (hx : flatV x = true) (hf : xs.all flatV = true) (h : Q (.bl (inV x xs)) H) : gIn K x (.ref p) H Q := .inl ⟨p, xs, rfl, hp, hx, hf, h⟩
theorem g_ni_l {p : Addr} {xs : List V} (hp : SqL K H p xs ∨ SqT K H p xs) (hx : flatV x = true) (hf : xs.all flatV = true) (h : Q (.bl (!inV x xs)) H) : gNi K x (.ref p) H Q := .inl ⟨p, xs, rfl, hp, hx, hf, h⟩
theorem g_in_s {c : Nat} {z : Str} (h : Q (.bl (decide (c ∈ z.cps.toList))) H) : gIn K (.str ⟨#[c]⟩) (.str z) H Q := .inr ⟨c, z, rfl, rfl, h⟩
theorem g_ni_s {c : Nat} {z : Str} (h : Q (.bl (!decide (c ∈ z.cps.toList))) H) : gNi K (.str ⟨#[c]⟩) (.str z) H Q := .inr ⟨c, z, rfl, rfl, h⟩
theorem g_len_l {p : Addr} {xs : List V} (hp : SqL K H p xs ∨ SqT K H p xs) (h : Q (.int xs.length) H) : gLen K [.ref p] H Q := .inl ⟨p, xs, rfl, hp, h⟩
theorem g_len_s {z : Str} (hz : z.length ≤ 100000) (h : Q (.int z.length) H) : gLen K [.str z] H Q := .inr ⟨z, rfl, sz_of hz, h⟩
theorem g_ix_l {p : Addr} {xs : List V} {i : Int} (hp : SqL K H p xs) (hi : atI xs i = some v) (h : Q v H) : rIx K (.ref p) (.int i) H Q := .inl ⟨p, xs, i, v, rfl, rfl, hp, hi, h⟩
theorem g_ix_t {p : Addr} {xs : List V} {i : Int} (hp : SqT K H p xs) (hi : atI xs i = some v) (h : Q v H) : rIx K (.ref p) (.int i) H Q := .inr (.inl ⟨p, xs, i, v, rfl, rfl, hp, hi, h⟩)
theorem g_ix_s {z : Str} {i : Int} {c : Nat} (hz : z.length ≤ 100000) (hi : atI z.cps.toList i = some c) (h : Q (.str ⟨#[c]⟩) H) : rIx K (.str z) (.int i) H Q := .inr (.inr ⟨z, i, c, rfl, rfl, sz_of hz, hi, h⟩)
theorem g_sl_l {p : Addr} {xs : List V} {lo hi : Option Int} (hp : SqL K H p xs) (h : ∀ r H', H r = none → Ex H H' → H' r = some (.lst (cutV xs lo hi)) → Q (.ref r) H') : gSl K (.ref p) lo hi H Q :=
  .inl ⟨p, xs, rfl, hp, fun r hr => h r _ hr (Ex.new hr) upd_same⟩
theorem g_sl_s {z : Str} {lo hi : Option Int} (hz : z.length ≤ 100000) (h : Q (.str (cutS z lo hi)) H) : gSl K (.str z) lo hi H Q := .inr (.inr ⟨z, rfl, sz_of hz, h⟩)
theorem g_neg {i : Int} (h : Q (.int (-i)) H) : rU (fun i => .int (-i)) (.int i) H Q := ⟨i, rfl, h⟩
theorem g_isi {t u : Value} {cc : V} {b : Bool} (hc : ClsV cc u) (ht : TyX K H x t) (hk : PySem.W.kitOne K t u = some b) (h : Q (.bl b) H) : gIsi K [x, cc] H Q := .inl ⟨x, cc, t, u, b, rfl, hc, ht, hk, h⟩
theorem g_isiT {tp : Addr} {cs : List V} {t : Value} {us : List Value} {b : Bool} (hp : H tp = some (.tup cs)) (hc : Paired ClsV cs us) (ht : TyX K H x t) (hk : PySem.W.kitAny K t us = some b) (h : Q (.bl b) H) : gIsi K [x, .ref tp] H Q := .inr ⟨x, tp, cs, t, us, b, rfl, hp, hc, ht, hk, h⟩
theorem g_all {p : Addr} {bs : List Bool} (hp : SqL K H p (bs.map V.bl)) (h : Q (.bl (bs.all id)) H) : rAll K [.ref p] H Q := ⟨p, bs, rfl, hp, h⟩
theorem g_any {p : Addr} {bs : List Bool} (hp : SqL K H p (bs.map V.bl)) (h : Q (.bl (bs.any id)) H) : rAny K [.ref p] H Q := ⟨p, bs, rfl, hp, h⟩
/-- len of what is handed on -/
theorem sq_l {p : Addr} {xs : List V} (h : H p = some (.lst xs)) : SqL K H p xs := .inl (.inl h)
theorem sq_t {p : Addr} {xs : List V} (h : H p = some (.tup xs)) : SqT K H p xs := .inl (.inl h)
theorem sq_kt {p : Addr} {xs : List V} {o : Obj} {u : HO} (h : SqL K H p xs) : SqL K H p xs ∨ SqT K H p xs := .inl h

theorem c_var0 {l : L2.St} (h : Q v H) : tVar 0 (some v :: l) H Q := ⟨v, rfl, h⟩
theorem c_asg0 {o : Option V} {l : L2.St} (h : te (o :: l) H fun v H1 => D.nx (some v :: l) H1) : tAsg te (gName 0) D (o :: l) H := h
theorem c_nam0 {o : Option V} {l : L2.St} {QS : L2.St → Hp → Prop} (h : QS (some v :: l) H) : gName 0 v (o :: l) H QS := h
theorem c_var1 {a0 : Option V} {l : L2.St} (h : Q v H) : tVar 1 (a0 :: some v :: l) H Q := ⟨v, rfl, h⟩
theorem c_asg1 {a0 : Option V} {o : Option V} {l : L2.St} (h : te (a0 :: o :: l) H fun v H1 => D.nx (a0 :: some v :: l) H1) : tAsg te (gName 1) D (a0 :: o :: l) H := h
theorem c_nam1 {a0 : Option V} {o : Option V} {l : L2.St} {QS : L2.St → Hp → Prop} (h : QS (a0 :: some v :: l) H) : gName 1 v (a0 :: o :: l) H QS := h
theorem c_var2 {a0 a1 : Option V} {l : L2.St} (h : Q v H) : tVar 2 (a0 :: a1 :: some v :: l) H Q := ⟨v, rfl, h⟩
theorem c_asg2 {a0 a1 : Option V} {o : Option V} {l : L2.St} (h : te (a0 :: a1 :: o :: l) H fun v H1 => D.nx (a0 :: a1 :: some v :: l) H1) : tAsg te (gName 2) D (a0 :: a1 :: o :: l) H := h
theorem c_nam2 {a0 a1 : Option V} {o : Option V} {l : L2.St} {QS : L2.St → Hp → Prop} (h : QS (a0 :: a1 :: some v :: l) H) : gName 2 v (a0 :: a1 :: o :: l) H QS := h
theorem c_var3 {a0 a1 a2 : Option V} {l : L2.St} (h : Q v H) : tVar 3 (a0 :: a1 :: a2 :: some v :: l) H Q := ⟨v, rfl, h⟩
theorem c_asg3 {a0 a1 a2 : Option V} {o : Option V} {l : L2.St} (h : te (a0 :: a1 :: a2 :: o :: l) H fun v H1 => D.nx (a0 :: a1 :: a2 :: some v :: l) H1) : tAsg te (gName 3) D (a0 :: a1 :: a2 :: o :: l) H := h
theorem c_nam3 {a0 a1 a2 : Option V} {o : Option V} {l : L2.St} {QS : L2.St → Hp → Prop} (h : QS (a0 :: a1 :: a2 :: some v :: l) H) : gName 3 v (a0 :: a1 :: a2 :: o :: l) H QS := h
theorem c_var4 {a0 a1 a2 a3 : Option V} {l : L2.St} (h : Q v H) : tVar 4 (a0 :: a1 :: a2 :: a3 :: some v :: l) H Q := ⟨v, rfl, h⟩
theorem c_asg4 {a0 a1 a2 a3 : Option V} {o : Option V} {l : L2.St} (h : te (a0 :: a1 :: a2 :: a3 :: o :: l) H fun v H1 => D.nx (a0 :: a1 :: a2 :: a3 :: some v :: l) H1) : tAsg te (gName 4) D (a0 :: a1 :: a2 :: a3 :: o :: l) H := h
theorem c_nam4 {a0 a1 a2 a3 : Option V} {o : Option V} {l : L2.St} {QS : L2.St → Hp → Prop} (h : QS (a0 :: a1 :: a2 :: a3 :: some v :: l) H) : gName 4 v (a0 :: a1 :: a2 :: a3 :: o :: l) H QS := h
theorem c_var5 {a0 a1 a2 a3 a4 : Option V} {l : L2.St} (h : Q v H) : tVar 5 (a0 :: a1 :: a2 :: a3 :: a4 :: some v :: l) H Q := ⟨v, rfl, h⟩
theorem c_asg5 {a0 a1 a2 a3 a4 : Option V} {o : Option V} {l : L2.St} (h : te (a0 :: a1 :: a2 :: a3 :: a4 :: o :: l) H fun v H1 => D.nx (a0 :: a1 :: a2 :: a3 :: a4 :: some v :: l) H1) : tAsg te (gName 5) D (a0 :: a1 :: a2 :: a3 :: a4 :: o :: l) H := h
theorem c_nam5 {a0 a1 a2 a3 a4 : Option V} {o : Option V} {l : L2.St} {QS : L2.St → Hp → Prop} (h : QS (a0 :: a1 :: a2 :: a3 :: a4 :: some v :: l) H) : gName 5 v (a0 :: a1 :: a2 :: a3 :: a4 :: o :: l) H QS := h
theorem c_var6 {a0 a1 a2 a3 a4 a5 : Option V} {l : L2.St} (h : Q v H) : tVar 6 (a0 :: a1 :: a2 :: a3 :: a4 :: a5 :: some v :: l) H Q := ⟨v, rfl, h⟩
theorem c_asg6 {a0 a1 a2 a3 a4 a5 : Option V} {o : Option V} {l : L2.St} (h : te (a0 :: a1 :: a2 :: a3 :: a4 :: a5 :: o :: l) H fun v H1 => D.nx (a0 :: a1 :: a2 :: a3 :: a4 :: a5 :: some v :: l) H1) : tAsg te (gName 6) D (a0 :: a1 :: a2 :: a3 :: a4 :: a5 :: o :: l) H := h
theorem c_nam6 {a0 a1 a2 a3 a4 a5 : Option V} {o : Option V} {l : L2.St} {QS : L2.St → Hp → Prop} (h : QS (a0 :: a1 :: a2 :: a3 :: a4 :: a5 :: some v :: l) H) : gName 6 v (a0 :: a1 :: a2 :: a3 :: a4 :: a5 :: o :: l) H QS := h
theorem c_var7 {a0 a1 a2 a3 a4 a5 a6 : Option V} {l : L2.St} (h : Q v H) : tVar 7 (a0 :: a1 :: a2 :: a3 :: a4 :: a5 :: a6 :: some v :: l) H Q := ⟨v, rfl, h⟩
theorem c_asg7 {a0 a1 a2 a3 a4 a5 a6 : Option V} {o : Option V} {l : L2.St} (h : te (a0 :: a1 :: a2 :: a3 :: a4 :: a5 :: a6 :: o :: l) H fun v H1 => D.nx (a0 :: a1 :: a2 :: a3 :: a4 :: a5 :: a6 :: some v :: l) H1) : tAsg te (gName 7) D (a0 :: a1 :: a2 :: a3 :: a4 :: a5 :: a6 :: o :: l) H := h
theorem c_nam7 {a0 a1 a2 a3 a4 a5 a6 : Option V} {o : Option V} {l : L2.St} {QS : L2.St → Hp → Prop} (h : QS (a0 :: a1 :: a2 :: a3 :: a4 :: a5 :: a6 :: some v :: l) H) : gName 7 v (a0 :: a1 :: a2 :: a3 :: a4 :: a5 :: a6 :: o :: l) H QS := h
theorem c_var8 {a0 a1 a2 a3 a4 a5 a6 a7 : Option V} {l : L2.St} (h : Q v H) : tVar 8 (a0 :: a1 :: a2 :: a3 :: a4 :: a5 :: a6 :: a7 :: some v :: l) H Q := ⟨v, rfl, h⟩
theorem c_asg8 {a0 a1 a2 a3 a4 a5 a6 a7 : Option V} {o : Option V} {l : L2.St} (h : te (a0 :: a1 :: a2 :: a3 :: a4 :: a5 :: a6 :: a7 :: o :: l) H fun v H1 => D.nx (a0 :: a1 :: a2 :: a3 :: a4 :: a5 :: a6 :: a7 :: some v :: l) H1) : tAsg te (gName 8) D (a0 :: a1 :: a2 :: a3 :: a4 :: a5 :: a6 :: a7 :: o :: l) H := h
theorem c_nam8 {a0 a1 a2 a3 a4 a5 a6 a7 : Option V} {o : Option V} {l : L2.St} {QS : L2.St → Hp → Prop} (h : QS (a0 :: a1 :: a2 :: a3 :: a4 :: a5 :: a6 :: a7 :: some v :: l) H) : gName 8 v (a0 :: a1 :: a2 :: a3 :: a4 :: a5 :: a6 :: a7 :: o :: l) H QS := h
theorem c_var9 {a0 a1 a2 a3 a4 a5 a6 a7 a8 : Option V} {l : L2.St} (h : Q v H) : tVar 9 (a0 :: a1 :: a2 :: a3 :: a4 :: a5 :: a6 :: a7 :: a8 :: some v :: l) H Q := ⟨v, rfl, h⟩
theorem c_asg9 {a0 a1 a2 a3 a4 a5 a6 a7 a8 : Option V} {o : Option V} {l : L2.St} (h : te (a0 :: a1 :: a2 :: a3 :: a4 :: a5 :: a6 :: a7 :: a8 :: o :: l) H fun v H1 => D.nx (a0 :: a1 :: a2 :: a3 :: a4 :: a5 :: a6 :: a7 :: a8 :: some v :: l) H1) : tAsg te (gName 9) D (a0 :: a1 :: a2 :: a3 :: a4 :: a5 :: a6 :: a7 :: a8 :: o :: l) H := h
theorem c_nam9 {a0 a1 a2 a3 a4 a5 a6 a7 a8 : Option V} {o : Option V} {l : L2.St} {QS : L2.St → Hp → Prop} (h : QS (a0 :: a1 :: a2 :: a3 :: a4 :: a5 :: a6 :: a7 :: a8 :: some v :: l) H) : gName 9 v (a0 :: a1 :: a2 :: a3 :: a4 :: a5 :: a6 :: a7 :: a8 :: o :: l) H QS := h
theorem c_var10 {a0 a1 a2 a3 a4 a5 a6 a7 a8 a9 : Option V} {l : L2.St} (h : Q v H) : tVar 10 (a0 :: a1 :: a2 :: a3 :: a4 :: a5 :: a6 :: a7 :: a8 :: a9 :: some v :: l) H Q := ⟨v, rfl, h⟩
theorem c_asg10 {a0 a1 a2 a3 a4 a5 a6 a7 a8 a9 : Option V} {o : Option V} {l : L2.St} (h : te (a0 :: a1 :: a2 :: a3 :: a4 :: a5 :: a6 :: a7 :: a8 :: a9 :: o :: l) H fun v H1 => D.nx (a0 :: a1 :: a2 :: a3 :: a4 :: a5 :: a6 :: a7 :: a8 :: a9 :: some v :: l) H1) : tAsg te (gName 10) D (a0 :: a1 :: a2 :: a3 :: a4 :: a5 :: a6 :: a7 :: a8 :: a9 :: o :: l) H := h
theorem c_nam10 {a0 a1 a2 a3 a4 a5 a6 a7 a8 a9 : Option V} {o : Option V} {l : L2.St} {QS : L2.St → Hp → Prop} (h : QS (a0 :: a1 :: a2 :: a3 :: a4 :: a5 :: a6 :: a7 :: a8 :: a9 :: some v :: l) H) : gName 10 v (a0 :: a1 :: a2 :: a3 :: a4 :: a5 :: a6 :: a7 :: a8 :: a9 :: o :: l) H QS := h
theorem c_var11 {a0 a1 a2 a3 a4 a5 a6 a7 a8 a9 a10 : Option V} {l : L2.St} (h : Q v H) : tVar 11 (a0 :: a1 :: a2 :: a3 :: a4 :: a5 :: a6 :: a7 :: a8 :: a9 :: a10 :: some v :: l) H Q := ⟨v, rfl, h⟩
theorem c_asg11 {a0 a1 a2 a3 a4 a5 a6 a7 a8 a9 a10 : Option V} {o : Option V} {l : L2.St} (h : te (a0 :: a1 :: a2 :: a3 :: a4 :: a5 :: a6 :: a7 :: a8 :: a9 :: a10 :: o :: l) H fun v H1 => D.nx (a0 :: a1 :: a2 :: a3 :: a4 :: a5 :: a6 :: a7 :: a8 :: a9 :: a10 :: some v :: l) H1) : tAsg te (gName 11) D (a0 :: a1 :: a2 :: a3 :: a4 :: a5 :: a6 :: a7 :: a8 :: a9 :: a10 :: o :: l) H := h
theorem c_nam11 {a0 a1 a2 a3 a4 a5 a6 a7 a8 a9 a10 : Option V} {o : Option V} {l : L2.St} {QS : L2.St → Hp → Prop} (h : QS (a0 :: a1 :: a2 :: a3 :: a4 :: a5 :: a6 :: a7 :: a8 :: a9 :: a10 :: some v :: l) H) : gName 11 v (a0 :: a1 :: a2 :: a3 :: a4 :: a5 :: a6 :: a7 :: a8 :: a9 :: a10 :: o :: l) H QS := h
theorem c_var12 {a0 a1 a2 a3 a4 a5 a6 a7 a8 a9 a10 a11 : Option V} {l : L2.St} (h : Q v H) : tVar 12 (a0 :: a1 :: a2 :: a3 :: a4 :: a5 :: a6 :: a7 :: a8 :: a9 :: a10 :: a11 :: some v :: l) H Q := ⟨v, rfl, h⟩
theorem c_asg12 {a0 a1 a2 a3 a4 a5 a6 a7 a8 a9 a10 a11 : Option V} {o : Option V} {l : L2.St} (h : te (a0 :: a1 :: a2 :: a3 :: a4 :: a5 :: a6 :: a7 :: a8 :: a9 :: a10 :: a11 :: o :: l) H fun v H1 => D.nx (a0 :: a1 :: a2 :: a3 :: a4 :: a5 :: a6 :: a7 :: a8 :: a9 :: a10 :: a11 :: some v :: l) H1) : tAsg te (gName 12) D (a0 :: a1 :: a2 :: a3 :: a4 :: a5 :: a6 :: a7 :: a8 :: a9 :: a10 :: a11 :: o :: l) H := h
theorem c_nam12 {a0 a1 a2 a3 a4 a5 a6 a7 a8 a9 a10 a11 : Option V} {o : Option V} {l : L2.St} {QS : L2.St → Hp → Prop} (h : QS (a0 :: a1 :: a2 :: a3 :: a4 :: a5 :: a6 :: a7 :: a8 :: a9 :: a10 :: a11 :: some v :: l) H) : gName 12 v (a0 :: a1 :: a2 :: a3 :: a4 :: a5 :: a6 :: a7 :: a8 :: a9 :: a10 :: a11 :: o :: l) H QS := h
theorem c_var13 {a0 a1 a2 a3 a4 a5 a6 a7 a8 a9 a10 a11 a12 : Option V} {l : L2.St} (h : Q v H) : tVar 13 (a0 :: a1 :: a2 :: a3 :: a4 :: a5 :: a6 :: a7 :: a8 :: a9 :: a10 :: a11 :: a12 :: some v :: l) H Q := ⟨v, rfl, h⟩
theorem c_asg13 {a0 a1 a2 a3 a4 a5 a6 a7 a8 a9 a10 a11 a12 : Option V} {o : Option V} {l : L2.St} (h : te (a0 :: a1 :: a2 :: a3 :: a4 :: a5 :: a6 :: a7 :: a8 :: a9 :: a10 :: a11 :: a12 :: o :: l) H fun v H1 => D.nx (a0 :: a1 :: a2 :: a3 :: a4 :: a5 :: a6 :: a7 :: a8 :: a9 :: a10 :: a11 :: a12 :: some v :: l) H1) : tAsg te (gName 13) D (a0 :: a1 :: a2 :: a3 :: a4 :: a5 :: a6 :: a7 :: a8 :: a9 :: a10 :: a11 :: a12 :: o :: l) H := h
theorem c_nam13 {a0 a1 a2 a3 a4 a5 a6 a7 a8 a9 a10 a11 a12 : Option V} {o : Option V} {l : L2.St} {QS : L2.St → Hp → Prop} (h : QS (a0 :: a1 :: a2 :: a3 :: a4 :: a5 :: a6 :: a7 :: a8 :: a9 :: a10 :: a11 :: a12 :: some v :: l) H) : gName 13 v (a0 :: a1 :: a2 :: a3 :: a4 :: a5 :: a6 :: a7 :: a8 :: a9 :: a10 :: a11 :: a12 :: o :: l) H QS := h
theorem c_var14 {a0 a1 a2 a3 a4 a5 a6 a7 a8 a9 a10 a11 a12 a13 : Option V} {l : L2.St} (h : Q v H) : tVar 14 (a0 :: a1 :: a2 :: a3 :: a4 :: a5 :: a6 :: a7 :: a8 :: a9 :: a10 :: a11 :: a12 :: a13 :: some v :: l) H Q := ⟨v, rfl, h⟩
theorem c_asg14 {a0 a1 a2 a3 a4 a5 a6 a7 a8 a9 a10 a11 a12 a13 : Option V} {o : Option V} {l : L2.St} (h : te (a0 :: a1 :: a2 :: a3 :: a4 :: a5 :: a6 :: a7 :: a8 :: a9 :: a10 :: a11 :: a12 :: a13 :: o :: l) H fun v H1 => D.nx (a0 :: a1 :: a2 :: a3 :: a4 :: a5 :: a6 :: a7 :: a8 :: a9 :: a10 :: a11 :: a12 :: a13 :: some v :: l) H1) : tAsg te (gName 14) D (a0 :: a1 :: a2 :: a3 :: a4 :: a5 :: a6 :: a7 :: a8 :: a9 :: a10 :: a11 :: a12 :: a13 :: o :: l) H := h
theorem c_nam14 {a0 a1 a2 a3 a4 a5 a6 a7 a8 a9 a10 a11 a12 a13 : Option V} {o : Option V} {l : L2.St} {QS : L2.St → Hp → Prop} (h : QS (a0 :: a1 :: a2 :: a3 :: a4 :: a5 :: a6 :: a7 :: a8 :: a9 :: a10 :: a11 :: a12 :: a13 :: some v :: l) H) : gName 14 v (a0 :: a1 :: a2 :: a3 :: a4 :: a5 :: a6 :: a7 :: a8 :: a9 :: a10 :: a11 :: a12 :: a13 :: o :: l) H QS := h
theorem c_var15 {a0 a1 a2 a3 a4 a5 a6 a7 a8 a9 a10 a11 a12 a13 a14 : Option V} {l : L2.St} (h : Q v H) : tVar 15 (a0 :: a1 :: a2 :: a3 :: a4 :: a5 :: a6 :: a7 :: a8 :: a9 :: a10 :: a11 :: a12 :: a13 :: a14 :: some v :: l) H Q := ⟨v, rfl, h⟩
theorem c_asg15 {a0 a1 a2 a3 a4 a5 a6 a7 a8 a9 a10 a11 a12 a13 a14 : Option V} {o : Option V} {l : L2.St} (h : te (a0 :: a1 :: a2 :: a3 :: a4 :: a5 :: a6 :: a7 :: a8 :: a9 :: a10 :: a11 :: a12 :: a13 :: a14 :: o :: l) H fun v H1 => D.nx (a0 :: a1 :: a2 :: a3 :: a4 :: a5 :: a6 :: a7 :: a8 :: a9 :: a10 :: a11 :: a12 :: a13 :: a14 :: some v :: l) H1) : tAsg te (gName 15) D (a0 :: a1 :: a2 :: a3 :: a4 :: a5 :: a6 :: a7 :: a8 :: a9 :: a10 :: a11 :: a12 :: a13 :: a14 :: o :: l) H := h
theorem c_nam15 {a0 a1 a2 a3 a4 a5 a6 a7 a8 a9 a10 a11 a12 a13 a14 : Option V} {o : Option V} {l : L2.St} {QS : L2.St → Hp → Prop} (h : QS (a0 :: a1 :: a2 :: a3 :: a4 :: a5 :: a6 :: a7 :: a8 :: a9 :: a10 :: a11 :: a12 :: a13 :: a14 :: some v :: l) H) : gName 15 v (a0 :: a1 :: a2 :: a3 :: a4 :: a5 :: a6 :: a7 :: a8 :: a9 :: a10 :: a11 :: a12 :: a13 :: a14 :: o :: l) H QS := h
theorem c_var16 {a0 a1 a2 a3 a4 a5 a6 a7 a8 a9 a10 a11 a12 a13 a14 a15 : Option V} {l : L2.St} (h : Q v H) : tVar 16 (a0 :: a1 :: a2 :: a3 :: a4 :: a5 :: a6 :: a7 :: a8 :: a9 :: a10 :: a11 :: a12 :: a13 :: a14 :: a15 :: some v :: l) H Q := ⟨v, rfl, h⟩
theorem c_asg16 {a0 a1 a2 a3 a4 a5 a6 a7 a8 a9 a10 a11 a12 a13 a14 a15 : Option V} {o : Option V} {l : L2.St} (h : te (a0 :: a1 :: a2 :: a3 :: a4 :: a5 :: a6 :: a7 :: a8 :: a9 :: a10 :: a11 :: a12 :: a13 :: a14 :: a15 :: o :: l) H fun v H1 => D.nx (a0 :: a1 :: a2 :: a3 :: a4 :: a5 :: a6 :: a7 :: a8 :: a9 :: a10 :: a11 :: a12 :: a13 :: a14 :: a15 :: some v :: l) H1) : tAsg te (gName 16) D (a0 :: a1 :: a2 :: a3 :: a4 :: a5 :: a6 :: a7 :: a8 :: a9 :: a10 :: a11 :: a12 :: a13 :: a14 :: a15 :: o :: l) H := h
theorem c_nam16 {a0 a1 a2 a3 a4 a5 a6 a7 a8 a9 a10 a11 a12 a13 a14 a15 : Option V} {o : Option V} {l : L2.St} {QS : L2.St → Hp → Prop} (h : QS (a0 :: a1 :: a2 :: a3 :: a4 :: a5 :: a6 :: a7 :: a8 :: a9 :: a10 :: a11 :: a12 :: a13 :: a14 :: a15 :: some v :: l) H) : gName 16 v (a0 :: a1 :: a2 :: a3 :: a4 :: a5 :: a6 :: a7 :: a8 :: a9 :: a10 :: a11 :: a12 :: a13 :: a14 :: a15 :: o :: l) H QS := h
theorem c_var17 {a0 a1 a2 a3 a4 a5 a6 a7 a8 a9 a10 a11 a12 a13 a14 a15 a16 : Option V} {l : L2.St} (h : Q v H) : tVar 17 (a0 :: a1 :: a2 :: a3 :: a4 :: a5 :: a6 :: a7 :: a8 :: a9 :: a10 :: a11 :: a12 :: a13 :: a14 :: a15 :: a16 :: some v :: l) H Q := ⟨v, rfl, h⟩
theorem c_asg17 {a0 a1 a2 a3 a4 a5 a6 a7 a8 a9 a10 a11 a12 a13 a14 a15 a16 : Option V} {o : Option V} {l : L2.St} (h : te (a0 :: a1 :: a2 :: a3 :: a4 :: a5 :: a6 :: a7 :: a8 :: a9 :: a10 :: a11 :: a12 :: a13 :: a14 :: a15 :: a16 :: o :: l) H fun v H1 => D.nx (a0 :: a1 :: a2 :: a3 :: a4 :: a5 :: a6 :: a7 :: a8 :: a9 :: a10 :: a11 :: a12 :: a13 :: a14 :: a15 :: a16 :: some v :: l) H1) : tAsg te (gName 17) D (a0 :: a1 :: a2 :: a3 :: a4 :: a5 :: a6 :: a7 :: a8 :: a9 :: a10 :: a11 :: a12 :: a13 :: a14 :: a15 :: a16 :: o :: l) H := h
theorem c_nam17 {a0 a1 a2 a3 a4 a5 a6 a7 a8 a9 a10 a11 a12 a13 a14 a15 a16 : Option V} {o : Option V} {l : L2.St} {QS : L2.St → Hp → Prop} (h : QS (a0 :: a1 :: a2 :: a3 :: a4 :: a5 :: a6 :: a7 :: a8 :: a9 :: a10 :: a11 :: a12 :: a13 :: a14 :: a15 :: a16 :: some v :: l) H) : gName 17 v (a0 :: a1 :: a2 :: a3 :: a4 :: a5 :: a6 :: a7 :: a8 :: a9 :: a10 :: a11 :: a12 :: a13 :: a14 :: a15 :: a16 :: o :: l) H QS := h
theorem c_var18 {a0 a1 a2 a3 a4 a5 a6 a7 a8 a9 a10 a11 a12 a13 a14 a15 a16 a17 : Option V} {l : L2.St} (h : Q v H) : tVar 18 (a0 :: a1 :: a2 :: a3 :: a4 :: a5 :: a6 :: a7 :: a8 :: a9 :: a10 :: a11 :: a12 :: a13 :: a14 :: a15 :: a16 :: a17 :: some v :: l) H Q := ⟨v, rfl, h⟩
theorem c_asg18 {a0 a1 a2 a3 a4 a5 a6 a7 a8 a9 a10 a11 a12 a13 a14 a15 a16 a17 : Option V} {o : Option V} {l : L2.St} (h : te (a0 :: a1 :: a2 :: a3 :: a4 :: a5 :: a6 :: a7 :: a8 :: a9 :: a10 :: a11 :: a12 :: a13 :: a14 :: a15 :: a16 :: a17 :: o :: l) H fun v H1 => D.nx (a0 :: a1 :: a2 :: a3 :: a4 :: a5 :: a6 :: a7 :: a8 :: a9 :: a10 :: a11 :: a12 :: a13 :: a14 :: a15 :: a16 :: a17 :: some v :: l) H1) : tAsg te (gName 18) D (a0 :: a1 :: a2 :: a3 :: a4 :: a5 :: a6 :: a7 :: a8 :: a9 :: a10 :: a11 :: a12 :: a13 :: a14 :: a15 :: a16 :: a17 :: o :: l) H := h
theorem c_nam18 {a0 a1 a2 a3 a4 a5 a6 a7 a8 a9 a10 a11 a12 a13 a14 a15 a16 a17 : Option V} {o : Option V} {l : L2.St} {QS : L2.St → Hp → Prop} (h : QS (a0 :: a1 :: a2 :: a3 :: a4 :: a5 :: a6 :: a7 :: a8 :: a9 :: a10 :: a11 :: a12 :: a13 :: a14 :: a15 :: a16 :: a17 :: some v :: l) H) : gName 18 v (a0 :: a1 :: a2 :: a3 :: a4 :: a5 :: a6 :: a7 :: a8 :: a9 :: a10 :: a11 :: a12 :: a13 :: a14 :: a15 :: a16 :: a17 :: o :: l) H QS := h
theorem c_var19 {a0 a1 a2 a3 a4 a5 a6 a7 a8 a9 a10 a11 a12 a13 a14 a15 a16 a17 a18 : Option V} {l : L2.St} (h : Q v H) : tVar 19 (a0 :: a1 :: a2 :: a3 :: a4 :: a5 :: a6 :: a7 :: a8 :: a9 :: a10 :: a11 :: a12 :: a13 :: a14 :: a15 :: a16 :: a17 :: a18 :: some v :: l) H Q := ⟨v, rfl, h⟩
theorem c_asg19 {a0 a1 a2 a3 a4 a5 a6 a7 a8 a9 a10 a11 a12 a13 a14 a15 a16 a17 a18 : Option V} {o : Option V} {l : L2.St} (h : te (a0 :: a1 :: a2 :: a3 :: a4 :: a5 :: a6 :: a7 :: a8 :: a9 :: a10 :: a11 :: a12 :: a13 :: a14 :: a15 :: a16 :: a17 :: a18 :: o :: l) H fun v H1 => D.nx (a0 :: a1 :: a2 :: a3 :: a4 :: a5 :: a6 :: a7 :: a8 :: a9 :: a10 :: a11 :: a12 :: a13 :: a14 :: a15 :: a16 :: a17 :: a18 :: some v :: l) H1) : tAsg te (gName 19) D (a0 :: a1 :: a2 :: a3 :: a4 :: a5 :: a6 :: a7 :: a8 :: a9 :: a10 :: a11 :: a12 :: a13 :: a14 :: a15 :: a16 :: a17 :: a18 :: o :: l) H := h
theorem c_nam19 {a0 a1 a2 a3 a4 a5 a6 a7 a8 a9 a10 a11 a12 a13 a14 a15 a16 a17 a18 : Option V} {o : Option V} {l : L2.St} {QS : L2.St → Hp → Prop} (h : QS (a0 :: a1 :: a2 :: a3 :: a4 :: a5 :: a6 :: a7 :: a8 :: a9 :: a10 :: a11 :: a12 :: a13 :: a14 :: a15 :: a16 :: a17 :: a18 :: some v :: l) H) : gName 19 v (a0 :: a1 :: a2 :: a3 :: a4 :: a5 :: a6 :: a7 :: a8 :: a9 :: a10 :: a11 :: a12 :: a13 :: a14 :: a15 :: a16 :: a17 :: a18 :: o :: l) H QS := h
theorem c_var20 {a0 a1 a2 a3 a4 a5 a6 a7 a8 a9 a10 a11 a12 a13 a14 a15 a16 a17 a18 a19 : Option V} {l : L2.St} (h : Q v H) : tVar 20 (a0 :: a1 :: a2 :: a3 :: a4 :: a5 :: a6 :: a7 :: a8 :: a9 :: a10 :: a11 :: a12 :: a13 :: a14 :: a15 :: a16 :: a17 :: a18 :: a19 :: some v :: l) H Q := ⟨v, rfl, h⟩
theorem c_asg20 {a0 a1 a2 a3 a4 a5 a6 a7 a8 a9 a10 a11 a12 a13 a14 a15 a16 a17 a18 a19 : Option V} {o : Option V} {l : L2.St} (h : te (a0 :: a1 :: a2 :: a3 :: a4 :: a5 :: a6 :: a7 :: a8 :: a9 :: a10 :: a11 :: a12 :: a13 :: a14 :: a15 :: a16 :: a17 :: a18 :: a19 :: o :: l) H fun v H1 => D.nx (a0 :: a1 :: a2 :: a3 :: a4 :: a5 :: a6 :: a7 :: a8 :: a9 :: a10 :: a11 :: a12 :: a13 :: a14 :: a15 :: a16 :: a17 :: a18 :: a19 :: some v :: l) H1) : tAsg te (gName 20) D (a0 :: a1 :: a2 :: a3 :: a4 :: a5 :: a6 :: a7 :: a8 :: a9 :: a10 :: a11 :: a12 :: a13 :: a14 :: a15 :: a16 :: a17 :: a18 :: a19 :: o :: l) H := h
theorem c_nam20 {a0 a1 a2 a3 a4 a5 a6 a7 a8 a9 a10 a11 a12 a13 a14 a15 a16 a17 a18 a19 : Option V} {o : Option V} {l : L2.St} {QS : L2.St → Hp → Prop} (h : QS (a0 :: a1 :: a2 :: a3 :: a4 :: a5 :: a6 :: a7 :: a8 :: a9 :: a10 :: a11 :: a12 :: a13 :: a14 :: a15 :: a16 :: a17 :: a18 :: a19 :: some v :: l) H) : gName 20 v (a0 :: a1 :: a2 :: a3 :: a4 :: a5 :: a6 :: a7 :: a8 :: a9 :: a10 :: a11 :: a12 :: a13 :: a14 :: a15 :: a16 :: a17 :: a18 :: a19 :: o :: l) H QS := h
theorem c_var21 {a0 a1 a2 a3 a4 a5 a6 a7 a8 a9 a10 a11 a12 a13 a14 a15 a16 a17 a18 a19 a20 : Option V} {l : L2.St} (h : Q v H) : tVar 21 (a0 :: a1 :: a2 :: a3 :: a4 :: a5 :: a6 :: a7 :: a8 :: a9 :: a10 :: a11 :: a12 :: a13 :: a14 :: a15 :: a16 :: a17 :: a18 :: a19 :: a20 :: some v :: l) H Q := ⟨v, rfl, h⟩
theorem c_asg21 {a0 a1 a2 a3 a4 a5 a6 a7 a8 a9 a10 a11 a12 a13 a14 a15 a16 a17 a18 a19 a20 : Option V} {o : Option V} {l : L2.St} (h : te (a0 :: a1 :: a2 :: a3 :: a4 :: a5 :: a6 :: a7 :: a8 :: a9 :: a10 :: a11 :: a12 :: a13 :: a14 :: a15 :: a16 :: a17 :: a18 :: a19 :: a20 :: o :: l) H fun v H1 => D.nx (a0 :: a1 :: a2 :: a3 :: a4 :: a5 :: a6 :: a7 :: a8 :: a9 :: a10 :: a11 :: a12 :: a13 :: a14 :: a15 :: a16 :: a17 :: a18 :: a19 :: a20 :: some v :: l) H1) : tAsg te (gName 21) D (a0 :: a1 :: a2 :: a3 :: a4 :: a5 :: a6 :: a7 :: a8 :: a9 :: a10 :: a11 :: a12 :: a13 :: a14 :: a15 :: a16 :: a17 :: a18 :: a19 :: a20 :: o :: l) H := h
theorem c_nam21 {a0 a1 a2 a3 a4 a5 a6 a7 a8 a9 a10 a11 a12 a13 a14 a15 a16 a17 a18 a19 a20 : Option V} {o : Option V} {l : L2.St} {QS : L2.St → Hp → Prop} (h : QS (a0 :: a1 :: a2 :: a3 :: a4 :: a5 :: a6 :: a7 :: a8 :: a9 :: a10 :: a11 :: a12 :: a13 :: a14 :: a15 :: a16 :: a17 :: a18 :: a19 :: a20 :: some v :: l) H) : gName 21 v (a0 :: a1 :: a2 :: a3 :: a4 :: a5 :: a6 :: a7 :: a8 :: a9 :: a10 :: a11 :: a12 :: a13 :: a14 :: a15 :: a16 :: a17 :: a18 :: a19 :: a20 :: o :: l) H QS := h
theorem c_var22 {a0 a1 a2 a3 a4 a5 a6 a7 a8 a9 a10 a11 a12 a13 a14 a15 a16 a17 a18 a19 a20 a21 : Option V} {l : L2.St} (h : Q v H) : tVar 22 (a0 :: a1 :: a2 :: a3 :: a4 :: a5 :: a6 :: a7 :: a8 :: a9 :: a10 :: a11 :: a12 :: a13 :: a14 :: a15 :: a16 :: a17 :: a18 :: a19 :: a20 :: a21 :: some v :: l) H Q := ⟨v, rfl, h⟩
theorem c_asg22 {a0 a1 a2 a3 a4 a5 a6 a7 a8 a9 a10 a11 a12 a13 a14 a15 a16 a17 a18 a19 a20 a21 : Option V} {o : Option V} {l : L2.St} (h : te (a0 :: a1 :: a2 :: a3 :: a4 :: a5 :: a6 :: a7 :: a8 :: a9 :: a10 :: a11 :: a12 :: a13 :: a14 :: a15 :: a16 :: a17 :: a18 :: a19 :: a20 :: a21 :: o :: l) H fun v H1 => D.nx (a0 :: a1 :: a2 :: a3 :: a4 :: a5 :: a6 :: a7 :: a8 :: a9 :: a10 :: a11 :: a12 :: a13 :: a14 :: a15 :: a16 :: a17 :: a18 :: a19 :: a20 :: a21 :: some v :: l) H1) : tAsg te (gName 22) D (a0 :: a1 :: a2 :: a3 :: a4 :: a5 :: a6 :: a7 :: a8 :: a9 :: a10 :: a11 :: a12 :: a13 :: a14 :: a15 :: a16 :: a17 :: a18 :: a19 :: a20 :: a21 :: o :: l) H := h
theorem c_nam22 {a0 a1 a2 a3 a4 a5 a6 a7 a8 a9 a10 a11 a12 a13 a14 a15 a16 a17 a18 a19 a20 a21 : Option V} {o : Option V} {l : L2.St} {QS : L2.St → Hp → Prop} (h : QS (a0 :: a1 :: a2 :: a3 :: a4 :: a5 :: a6 :: a7 :: a8 :: a9 :: a10 :: a11 :: a12 :: a13 :: a14 :: a15 :: a16 :: a17 :: a18 :: a19 :: a20 :: a21 :: some v :: l) H) : gName 22 v (a0 :: a1 :: a2 :: a3 :: a4 :: a5 :: a6 :: a7 :: a8 :: a9 :: a10 :: a11 :: a12 :: a13 :: a14 :: a15 :: a16 :: a17 :: a18 :: a19 :: a20 :: a21 :: o :: l) H QS := h
theorem c_var23 {a0 a1 a2 a3 a4 a5 a6 a7 a8 a9 a10 a11 a12 a13 a14 a15 a16 a17 a18 a19 a20 a21 a22 : Option V} {l : L2.St} (h : Q v H) : tVar 23 (a0 :: a1 :: a2 :: a3 :: a4 :: a5 :: a6 :: a7 :: a8 :: a9 :: a10 :: a11 :: a12 :: a13 :: a14 :: a15 :: a16 :: a17 :: a18 :: a19 :: a20 :: a21 :: a22 :: some v :: l) H Q := ⟨v, rfl, h⟩
theorem c_asg23 {a0 a1 a2 a3 a4 a5 a6 a7 a8 a9 a10 a11 a12 a13 a14 a15 a16 a17 a18 a19 a20 a21 a22 : Option V} {o : Option V} {l : L2.St} (h : te (a0 :: a1 :: a2 :: a3 :: a4 :: a5 :: a6 :: a7 :: a8 :: a9 :: a10 :: a11 :: a12 :: a13 :: a14 :: a15 :: a16 :: a17 :: a18 :: a19 :: a20 :: a21 :: a22 :: o :: l) H fun v H1 => D.nx (a0 :: a1 :: a2 :: a3 :: a4 :: a5 :: a6 :: a7 :: a8 :: a9 :: a10 :: a11 :: a12 :: a13 :: a14 :: a15 :: a16 :: a17 :: a18 :: a19 :: a20 :: a21 :: a22 :: some v :: l) H1) : tAsg te (gName 23) D (a0 :: a1 :: a2 :: a3 :: a4 :: a5 :: a6 :: a7 :: a8 :: a9 :: a10 :: a11 :: a12 :: a13 :: a14 :: a15 :: a16 :: a17 :: a18 :: a19 :: a20 :: a21 :: a22 :: o :: l) H := h
theorem c_nam23 {a0 a1 a2 a3 a4 a5 a6 a7 a8 a9 a10 a11 a12 a13 a14 a15 a16 a17 a18 a19 a20 a21 a22 : Option V} {o : Option V} {l : L2.St} {QS : L2.St → Hp → Prop} (h : QS (a0 :: a1 :: a2 :: a3 :: a4 :: a5 :: a6 :: a7 :: a8 :: a9 :: a10 :: a11 :: a12 :: a13 :: a14 :: a15 :: a16 :: a17 :: a18 :: a19 :: a20 :: a21 :: a22 :: some v :: l) H) : gName 23 v (a0 :: a1 :: a2 :: a3 :: a4 :: a5 :: a6 :: a7 :: a8 :: a9 :: a10 :: a11 :: a12 :: a13 :: a14 :: a15 :: a16 :: a17 :: a18 :: a19 :: a20 :: a21 :: a22 :: o :: l) H QS := h
end
end Gx
/-! loops, comprehensions, calls of built-ins by names, the law's draws -/
namespace Gx
open PySem PySem.Spec PyProof.Rows L2 Evl

def rAbs : List V → Hp → VK → Prop := fun xs H Q => ∃ i, xs = [.int i] ∧ Q (.int (if i < 0 then -i else i)) H
theorem call_abs1 {X : Cx} : CallR X (.builtin "abs") rAbs := call_abs
def rTupleS (K : PySem.W.Frag) : List V → Hp → VK → Prop := fun xs H Q => ∃ p ys, xs = [.ref p] ∧ ((SqL K H p ys ∧ ∀ l, H l = none → Q (.ref l) (upd H l (.tup ys))) ∨ (SqT K H p ys ∧ Q (.ref p) H))
theorem call_tuple1 {X : Cx} : CallR X (.type "tuple") (rTupleS X.K) := call_tuple_of
theorem call_list1 {X : Cx} : CallR X (.type "list") (rListS X.K) := call_list_of
def rJoin (K : PySem.W.Frag) : V → List V → Hp → VK → Prop := fun x xs H Q => ∃ a p, ∃ ys : List Str, x = .str a ∧ xs = [.ref p] ∧ (SqL K H p (ys.map V.str) ∨ SqT K H p (ys.map V.str)) ∧
    (ys.map (·.length)).sum + ys.length * a.length ≤ 16777216 ∧ Q (.str (Txt.join a ys)) H
theorem pe_joinR {X : Cx} {o e : Expr} {to te : TE} {apos pos : Pos} (ho : PE X o to) (he : PE X e te) (hs : starEach [e] X.env = [(false, eval e X.env)] := by rfl) (hbase : attributeBase o "join" X.env (eval o X.env) = eval o X.env := by rfl) (hline : (apos.endLine == pos.line) = true := by rfl) :
    PE X (.Call (.Attribute o "join" apos) [e] [] pos) (tM1 (rJoin X.K) to te) := pe_m1 F.slot_str_join F.type_str_join mt_join ho he hs hbase hline

section
variable {K : PySem.W.Frag} {σ : L2.St} {H : Hp} {Q : VK} {D : Ends} {ta tb tc te : TE} {x y v : V} {t u : TS} {tt uu : TT}
theorem c_yes {QB : Bool → Hp → Prop} (h : QB true H) : tYes σ H QB := h
theorem exget {H H' : Hp} {p : Addr} {o : HO} (e : Ex H H') (h : H p = some o) : H' p = some o := e _ _ h
theorem atI_in {α : Type} {xs : List α} {i : Int} (h0 : 0 ≤ i) (h1 : i < xs.length) : ∃ (k : Nat) (v : α), i = (k : Int) ∧ xs[k]? = some v ∧ v ∈ xs ∧ atI xs i = some v := by
  obtain ⟨k, rfl⟩ := Int.eq_ofNat_of_zero_le h0
  have hk : k < xs.length := by omega
  exact ⟨k, xs[k], rfl, List.getElem?_eq_getElem hk, List.getElem_mem hk, atI_nat (List.getElem?_eq_getElem hk)⟩
theorem ixN_in {n k : Nat} (h : k < n) : ixN n (k : Int) = some k := by
  unfold ixN
  rw [if_pos (by omega), if_pos (by omega)]; simp
/-- all but one object as they were -/
def Exb (p : Addr) (H H' : Hp) : Prop := ∀ a o, a ≠ p → H a = some o → H' a = some o
theorem Exb.upd {H : Hp} {p : Addr} {o : HO} : Exb p H (upd H p o) := fun a u ne h => by rw [upd_ne ne]; exact h
theorem exbget {H H' : Hp} {p a : Addr} {o : HO} (e : Exb p H H') (ne : a ≠ p) (h : H a = some o) : H' a = some o := e _ _ ne h
theorem c_sub {to ti : TE} {ts : TSet} {QS : L2.St → Hp → Prop} (h : to σ H fun o H1 => ti σ H1 fun i H2 => ts o i v H2 fun H3 => QS σ H3) : gSub to ti ts v σ H QS := h
theorem g_set {p : Addr} {xs : List V} {i : Int} {j : Nat} {QH : Hp → Prop} (hp : H p = some (.lst xs)) (hj : ixN xs.length i = some j) (h : ∀ H', Exb p H H' → H' p = some (.lst (xs.set j v)) → QH H') : rSetL (.ref p) (.int i) v H QH := ⟨p, xs, i, j, rfl, rfl, hp, hj, h _ Exb.upd upd_same⟩
/-- a written dict, pair by pair -/
def DK (p : Addr) (Q : VK) (ps : List (V × V)) (H2 : Hp) : Prop := H2 p = some (.dK []) ∧ ∃ kvs : List (Key × V), ps = kvs.map (fun kv => (kV kv.1, kv.2)) ∧ kvs.length ≤ 15 ∧ Q (.ref p) (upd H2 p (.dK (mergeK [] kvs)))
theorem c_disp {trs : List (TE × TE)} (h : ∀ p H0, H p = none → Ex H H0 → H0 p = some (.dK []) → tPairs trs σ H0 (DK p Q)) : tDisp trs σ H Q := fun p hp => h p _ hp (Ex.new hp) upd_same
theorem c_pair {tk tv : TE} {r : List (TE × TE)} {QP : List (V × V) → Hp → Prop} (h : tk σ H fun x H1 => tv σ H1 fun y H2 => tPairs r σ H2 fun ps H3 => QP ((x, y) :: ps) H3) : tPairs ((tk, tv) :: r) σ H QP := h
theorem c_pnil {QP : List (V × V) → Hp → Prop} (h : QP [] H) : tPairs [] σ H QP := h
theorem c_dk1s {H0 : Hp} {p : Addr} {z : Str} (n : H0 p = none) (e : Ex H0 H) (hp : H p = some (.dK [])) (h : ∀ H3, Ex H0 H3 → H3 p = some (.dK [(Sum.inr z, v)]) → Q (.ref p) H3) : DK p Q [(.str z, v)] H :=
  ⟨hp, [(Sum.inr z, v)], rfl, by simp, h _ (Ex.mut e n) upd_same⟩
theorem c_for {wi : TI} {g : TG} {tb : TS} (h : wi σ H fun J H1 => ∃ W : Nat → Nat → L2.St → Hp → Prop, (∃ m, W 0 m σ H1) ∧ ∀ i m σ H, W i m σ H →
      (J.stop i H ∧ D.nx σ H) ∨ (J.go i H ∧ ∃ N : L2.St → Hp → Prop, (∀ σ' H', N σ' H' → ∃ m', m' < m ∧ W (i + 1) m' σ' H') ∧ ∀ x H', J.yld i H x H' → g x σ H' fun σ2 H2 => tb { D with nx := N, ct := N, bk := D.nx } σ2 H2)) : tFor wi g tb D σ H := h
theorem c_iList {tl : TE} {R : It → Hp → Prop} (h : tl σ H fun x H1 => ∃ a, x = .ref a ∧ (∃ xs, SqL K H1 a xs) ∧ R (Itl K a) H1) : iList K tl σ H R := h
theorem c_iL {p : Addr} {xs : List V} {R : Addr → Prop} (hp : SqL K H p xs) (h : R p) : ∃ a, V.ref p = .ref a ∧ (∃ xs, SqL K H a xs) ∧ R a := ⟨p, rfl, ⟨xs, hp⟩, h⟩
theorem c_iTup {tl : TE} {R : It → Hp → Prop} (h : tl σ H fun x H1 => ∃ a, x = .ref a ∧ (∃ xs, SqT K H1 a xs) ∧ R (Itt K a) H1) : iTup K tl σ H R := h
theorem c_iT {p : Addr} {xs : List V} {R : Addr → Prop} (hp : SqT K H p xs) (h : R p) : ∃ a, V.ref p = .ref a ∧ (∃ xs, SqT K H a xs) ∧ R a := ⟨p, rfl, ⟨xs, hp⟩, h⟩
theorem c_iStr {te : TE} {R : It → Hp → Prop} (h : te σ H fun v H1 => ∃ x, v = .str x ∧ R (Its x) H1) : iStr te σ H R := h
theorem c_iS {z : Str} {R : Str → Prop} (h : R z) : ∃ x, V.str z = .str x ∧ R x := ⟨z, rfl, h⟩
theorem c_iRng1 {ta : TA} {R : It → Hp → Prop} (h : ta σ H fun vs H1 => ∃ j : Int, vs = [.int j] ∧ -(2 ^ 62) ≤ j ∧ j < 2 ^ 62 ∧ R (Itr 0 j.toNat) H1) : iRng1 ta σ H R := h
theorem c_iR1 {j : Int} {R : Int → Prop} (h1 : -(2 ^ 62) ≤ j) (h2 : j < 2 ^ 62) (h : R j) : ∃ k : Int, [V.int j] = [.int k] ∧ -(2 ^ 62) ≤ k ∧ k < 2 ^ 62 ∧ R k := ⟨j, rfl, h1, h2, h⟩
theorem c_lcW {wi : TI} {g : TG} {vs : List Nat} (h : wi σ H fun J H1 => ∀ D, H1 D = none → ∃ W : Nat → Nat → Hp → Prop, (∃ m, W 0 m (upd H1 D (.lst []))) ∧ ∀ i m H, W i m H →
  (J.stop i H ∧ Q (.ref D) H) ∨ (J.go i H ∧ ∃ Nx : Hp → Prop, (∀ H', Nx H' → ∃ m', m' < m ∧ W (i + 1) m' H') ∧ ∀ x H', J.yld i H x H' → g x (wipe σ vs) H' fun σ2 H2 => wipe σ2 vs = wipe σ vs ∧ tt σ2 H2 fun b H3 =>
    if b = true then te σ2 H3 fun y H4 => ∃ acc, H4 D = some (.lst acc) ∧ acc.length < sizeLine ∧ Nx (upd H4 D (.lst (acc ++ [y]))) else Nx H3)) : tLc wi g tt te vs σ H Q := h
/-- a comprehension by what its list is so far -/
theorem c_lc {J : It} {n : Nat} {G : Hp → Prop} {Y : Nat → Hp → V → Hp → Prop} (w : Walk J n G Y) (R : Nat → List V → Prop) {g : TG} {vs : List Nat} {H1 : Hp} {Qd : Addr → Hp → Prop} {σ0 : L2.St} (hw : wipe σ vs = σ0) (hn : n < 100000) (r0 : R 0 []) (hG : ∀ H', Ex H1 H' → G H')
    (hs : ∀ i acc x H2 H3 (Q1 : V → Hp → Prop) (Q0 : Hp → Prop), i < n → R i acc → Ex H1 H2 → Y i H2 x H3 → (∀ y H6, Ex H2 H6 → R (i + 1) (acc ++ [y]) → Q1 y H6) → (∀ H5, Ex H2 H5 → R (i + 1) acc → Q0 H5) →
      g x σ0 H3 fun σ2 H4 => wipe σ2 vs = σ0 ∧ tt σ2 H4 fun b H5 => if b = true then te σ2 H5 Q1 else Q0 H5)
    (hd : ∀ D H' xs, H1 D = none → Ex H1 H' → R n xs → xs.length ≤ n → H' D = some (.lst xs) → Qd D H') :
    ∀ (D : Addr), H1 D = none → ∃ W : Nat → Nat → Hp → Prop, (∃ m, W 0 m (upd H1 D (.lst []))) ∧ ∀ i m H, W i m H →
      (J.stop i H ∧ Qd D H) ∨ (J.go i H ∧ ∃ Nx : Hp → Prop, (∀ H', Nx H' → ∃ m', m' < m ∧ W (i + 1) m' H') ∧ ∀ x H', J.yld i H x H' → g x (wipe σ vs) H' fun σ2 H2 => wipe σ2 vs = wipe σ vs ∧ tt σ2 H2 fun b H3 =>
        if b = true then te σ2 H3 fun y H4 => ∃ acc, H4 D = some (.lst acc) ∧ acc.length < sizeLine ∧ Nx (upd H4 D (.lst (acc ++ [y]))) else Nx H3) := by
  intro D hD
  subst hw
  refine lc_it w (Qd := Qd D) (fun i H' => Ex H1 H' ∧ ∃ acc, R i acc ∧ acc.length ≤ i ∧ H' D = some (.lst acc)) ⟨Ex.new hD, [], r0, Nat.le_refl _, upd_same⟩ (fun i H' _ h => hG H' h.1) (fun i x H2 H3 hi ⟨e1, acc, ra, la, ea⟩ hy => ?_) (fun H' ⟨e1, acc, ra, la, ea⟩ => hd D H' acc hD e1 ra la ea)
  exact hs i acc x H2 H3 _ _ hi ra e1 hy (fun y H6 e2 r2 => ⟨acc, e2 _ _ ea, sz_lt (by omega), Ex.mut (e1.trans e2) hD, acc ++ [y], r2, by simp; omega, upd_same⟩) (fun H5 e2 r2 => ⟨e1.trans e2, acc, r2, by omega, e2 _ _ ea⟩)
end

/-! ### flat data compared -/
def dV : V → PyData
  | .non => .none
  | .bl b => .bool b
  | .int i => .int i
  | .str x => .str x
  | _ => .none
theorem dp_flat {K : PySem.W.Frag} {H : Hp} {v : V} (h : flatV v = true) : Dp K H v (dV v) := by
  cases v with
  | non => exact .non
  | bl b => exact .bl b
  | int i => exact .int i
  | str x => exact .str x
  | _ => cases h
theorem dpAll_flat {K : PySem.W.Frag} {H : Hp} : ∀ {xs : List V}, xs.all flatV = true → DpAll K H xs (xs.map dV)
  | [], _ => .nil
  | v :: xs, h => by
    rw [List.all_cons, Bool.and_eq_true] at h
    exact .cons (dp_flat h.1) (dpAll_flat h.2)
def okV : V → Bool
  | .non => true
  | .bl _ => true
  | .int _ => true
  | .str x => PyData.strOk x
  | _ => false
theorem ok_flat {v : V} (h : okV v = true) : flatV v = true := by
  cases v with
  | non => rfl
  | bl b => rfl
  | int i => rfl
  | str x => rfl
  | _ => cases h
theorem okAll_flat {xs : List V} (h : xs.all okV = true) : xs.all flatV = true := by
  rw [List.all_eq_true] at h ⊢
  exact fun x hx => ok_flat (h x hx)
theorem lay_dV {v : V} (h : okV v = true) : (dV v).canLay0 = true ∧ (dV v).depth = 0 := by
  cases v with
  | non => exact ⟨rfl, rfl⟩
  | bl b => exact ⟨rfl, rfl⟩
  | int i => exact ⟨rfl, rfl⟩
  | str x => exact ⟨h, rfl⟩
  | _ => cases h
theorem lay_all : ∀ {xs : List V}, xs.all okV = true → PyData.canLayAll0 (xs.map dV) = true ∧ PyData.depthAll (xs.map dV) = 0
  | [], _ => ⟨rfl, rfl⟩
  | v :: xs, h => by
    rw [List.all_cons, Bool.and_eq_true] at h
    obtain ⟨h1, h2⟩ := lay_dV h.1
    obtain ⟨h3, h4⟩ := lay_all h.2
    refine ⟨?_, ?_⟩
    · show ((dV v).canLay0 && PyData.canLayAll0 (xs.map dV)) = true
      rw [h1, h3]; rfl
    · show max (dV v).depth (PyData.depthAll (xs.map dV)) = 0
      rw [h2, h4]; rfl
theorem shaped_dV {v : V} (h : okV v = true) : SeqAt.shaped (dV v) = true := by
  unfold SeqAt.shaped
  obtain ⟨h1, h2⟩ := lay_dV h
  rw [h1, h2]; rfl
theorem shaped_l {xs : List V} (h : xs.all okV = true) : SeqAt.shaped (.list (xs.map dV)) = true := by
  obtain ⟨h1, h2⟩ := lay_all h
  have e1 : (PyData.list (xs.map dV)).canLay0 = true := by simpa [PyData.canLay0] using h1
  have e2 : (PyData.list (xs.map dV)).depth = 1 := by show PyData.depthAll (xs.map dV) + 1 = 1; rw [h2]
  unfold SeqAt.shaped
  rw [e1, e2]; rfl
theorem shaped_t {xs : List V} (h : xs.all okV = true) : SeqAt.shaped (.tuple (xs.map dV)) = true := by
  obtain ⟨h1, h2⟩ := lay_all h
  have e1 : (PyData.tuple (xs.map dV)).canLay0 = true := by simpa [PyData.canLay0] using h1
  have e2 : (PyData.tuple (xs.map dV)).depth = 1 := by show PyData.depthAll (xs.map dV) + 1 = 1; rw [h2]
  unfold SeqAt.shaped
  rw [e1, e2]; rfl
/-- a list beside the empty one -/
theorem g_eq_e {K : PySem.W.Frag} {H : Hp} {Q : VK} {p q : Addr} {xs : List V} (hp : SqL K H p xs) (hq : SqL K H q []) (hf : xs.all okV = true) (h : Q (.bl (decide (xs = []))) H) : gEq K (.ref p) (.ref q) H Q := by
  refine g_eq_d (.lst hp (dpAll_flat (okAll_flat hf))) (.lst hq .nil) (shaped_l hf) (shaped_l (xs := []) rfl) ?_
  cases xs with
  | nil => exact h
  | cons x xs => exact h
theorem g_ne_e {K : PySem.W.Frag} {H : Hp} {Q : VK} {p q : Addr} {xs : List V} (hp : SqL K H p xs) (hq : SqL K H q []) (hf : xs.all okV = true) (h : Q (.bl (!decide (xs = []))) H) : gNe K (.ref p) (.ref q) H Q := by
  refine g_ne_d (.lst hp (dpAll_flat (okAll_flat hf))) (.lst hq .nil) (shaped_l hf) (shaped_l (xs := []) rfl) ?_
  cases xs with
  | nil => exact h
  | cons x xs => exact h
theorem ok_int (ns : List Int) : (ns.map V.int).all okV = true := by rw [List.all_map, List.all_eq_true]; intro _ _; rfl
theorem flat_int (ns : List Int) : (ns.map V.int).all flatV = true := by rw [List.all_map, List.all_eq_true]; intro _ _; rfl
theorem flat_str (ns : List Str) : (ns.map V.str).all flatV = true := by rw [List.all_map, List.all_eq_true]; intro _ _; rfl
theorem cutV_mem {xs : List V} {lo hi : Option Int} {x : V} (h : x ∈ cutV xs lo hi) : x ∈ xs := List.mem_of_mem_drop (List.mem_of_mem_take h)

/-! ### the draws -/
def Gd (c : Addr) (xs : List V) : Prop := ∃ a b : Int, xs = [.ref c, .int a, .int b] ∧ 0 ≤ b ∧ b < 2147483647
def Gc (xs : List V) : Prop := ∃ ns : List Int, xs = ns.map V.int ∧ ns ≠ []
def Draw (H : Hp) (d : Addr) : Prop := ∃ c, H d = some (oL d (Gd c)) ∧ H c = some (oL c Gc) ∧ d ≠ c
theorem Draw.ex {H H' : Hp} {d : Addr} (e : Ex H H') (h : Draw H d) : Draw H' d := by
  obtain ⟨c, h1, h2, h3⟩ := h
  exact ⟨c, e _ _ h1, e _ _ h2, h3⟩
/-- all but two objects as they were -/
def Ex2 (d c : Addr) (H H' : Hp) : Prop := ∀ a o, a ≠ d → a ≠ c → H a = some o → H' a = some o
def sp_take0 : Sp := fun vs H Q _ => ∃ (d c : Addr) (size a b : Int) (ns : List Int), vs = [.ref d, .int size] ∧ H d = some (.lst [.ref c, .int a, .int b]) ∧ H c = some (.lst (ns.map V.int)) ∧ d ≠ c ∧ ns ≠ [] ∧ 0 ≤ b ∧ b < 2147483647 ∧ 0 < size ∧ size < 2 ^ 64 ∧
  ∀ n H1 a' b' ns', 0 ≤ n → n < size → H1 d = some (.lst [.ref c, .int a', .int b']) → 0 ≤ b' → b' < 2147483647 → H1 c = some (.lst (ns'.map V.int)) → ns' ≠ [] → Ex2 d c H H1 → Q (.int n) H1
def sp_take : Sp := fun vs H Q _ => ∃ (d : Addr) (size : Int), vs = [.ref d, .int size] ∧ Draw H d ∧ 0 < size ∧ size < 2 ^ 64 ∧ ∀ n H', 0 ≤ n → n < size → Ex H H' → Q (.int n) H'
theorem take_view {P : Program} {w : World} {K : PySem.W.Frag} {mg : Str → Option Value} {base : Heap} {k : Nat} {f : Addr} {fd : FuncData} {ps : List Str} (F : FnOk P w K mg base CX0 k f fd ps sp_take0) (hl : ps.length = 2) : FnOk P w K mg base CX0 k f fd ps sp_take := by
  refine FnOk.view F (fun vs H Q E ⟨d, size, h, _⟩ => by rw [h, hl]; rfl) (fun vs H Q E ⟨d, size, hv, ⟨c, hd, hc, ne⟩, s0, s1, q⟩ hp ok => ?_)
  obtain ⟨xs, ⟨a, b, rfl, b0, b1⟩, ok1, sh1⟩ := HOk.openL ok hd
  have hc1 : (upd H d (.lst [.ref c, .int a, .int b])) c = some (oL c Gc) := by rw [upd_ne (Ne.symm ne)]; exact hc
  obtain ⟨ys, ⟨ns, rfl, hns⟩, ok2, sh2⟩ := HOk.openL ok1 hc1
  refine ⟨_, ok2, sh1.trans sh2, d, c, size, a, b, ns, hv, by rw [upd_ne ne, upd_same], upd_same, ne, hns, b0, b1, s0, s1, fun n H1 a' b' ns' n0 n1 e1 b0' b1' e2 hns' ex hp' ok' => ?_⟩
  obtain ⟨ok3, sh3⟩ := HOk.shutL (G := Gd c) ok' e1 ⟨a', b', rfl, b0', b1'⟩
  have e2' : (upd H1 d (oL d (Gd c))) c = some (.lst (ns'.map V.int)) := by rw [upd_ne (Ne.symm ne)]; exact e2
  obtain ⟨ok4, sh4⟩ := HOk.shutL (G := Gc) ok3 e2' ⟨ns', rfl, hns'⟩
  refine ⟨_, ok4, sh3.trans sh4, q n _ n0 n1 fun x o ho => ?_⟩
  by_cases h1 : x = c
  · subst h1; rw [hc] at ho; cases ho; exact upd_same
  · rw [upd_ne h1]
    by_cases h2 : x = d
    · subst h2; rw [hd] at ho; cases ho; exact upd_same
    · rw [upd_ne h2]
      refine ex x o h2 h1 ?_
      rw [upd_ne h1, upd_ne h2]; exact ho
def sp_begin0 (K : PySem.W.Frag) : Sp := fun vs H Q _ => ∃ (a : Addr) (ns : List Int), vs = [.ref a] ∧ SqL K H a (ns.map V.int) ∧ ns.length ≤ 63 ∧
  ∀ d c H1 ms, H d = none → H c = none → d ≠ c → Ex H H1 → H1 d = some (.lst [.ref c, .int 0, .int 1]) → H1 c = some (.lst (ms.map V.int)) → ms ≠ [] → Q (.ref d) H1
def sp_begin (K : PySem.W.Frag) : Sp := fun vs H Q _ => ∃ (a : Addr) (ns : List Int), vs = [.ref a] ∧ SqL K H a (ns.map V.int) ∧ ns.length ≤ 63 ∧ ∀ d H1, Draw H1 d → Ex H H1 → Q (.ref d) H1
theorem begin_view {P : Program} {w : World} {K : PySem.W.Frag} {mg : Str → Option Value} {base : Heap} {k : Nat} {f : Addr} {fd : FuncData} {ps : List Str} (F : FnOk P w K mg base CX0 k f fd ps (sp_begin0 K)) (hl : ps.length = 1) : FnOk P w K mg base CX0 k f fd ps (sp_begin K) := by
  refine FnOk.view F (fun vs H Q E ⟨d, ns, h, _⟩ => by rw [h, hl]; rfl) (fun vs H Q E ⟨p, ns, hv, hs, hn, q⟩ hp ok => ?_)
  refine ⟨H, ok, Shp.refl H, p, ns, hv, hs, hn, fun d c H1 ms nd nc ne ex e1 e2 hm hp' ok' => ?_⟩
  obtain ⟨ok3, sh3⟩ := HOk.shutL (G := Gd c) ok' e1 ⟨0, 1, rfl, by omega, by omega⟩
  have e2' : (upd H1 d (oL d (Gd c))) c = some (.lst (ms.map V.int)) := by rw [upd_ne (Ne.symm ne)]; exact e2
  obtain ⟨ok4, sh4⟩ := HOk.shutL (G := Gc) ok3 e2' ⟨ms, rfl, hm⟩
  refine ⟨_, ok4, sh3.trans sh4, q d _ ⟨c, by rw [upd_ne ne, upd_same], upd_same, ne⟩ (Ex.mut (Ex.mut ex nd) nc)⟩
end Gx

/-! names, texts, things: the mathematics and the promises that the laws share -/
namespace Gx
open PySem PySem.Spec PyProof.Rows L2 Evl

/-! ### texts -/
def okS (z : Str) : Prop := ∀ c ∈ z.cps.toList, c < 1114112
theorem okS_iff (z : Str) : PyData.strOk z = true ↔ okS z := by
  unfold PyData.strOk okS
  rw [← Array.all_toList, List.all_eq_true]
  constructor
  · intro h c hc; exact of_decide_eq_true (h c hc)
  · intro h c hc; exact decide_eq_true (h c hc)
theorem okS_app {a b : Str} (ha : okS a) (hb : okS b) : okS (a ++ b) := fun c hc => by
  rw [show (a ++ b).cps.toList = a.cps.toList ++ b.cps.toList from TL.tl_append a b] at hc
  rcases List.mem_append.mp hc with h | h
  · exact ha c h
  · exact hb c h
theorem len_tl (z : Str) : z.cps.toList.length = z.length := Array.length_toList
theorem len_app (a b : Str) : (a ++ b).length = a.length + b.length := by
  rw [← len_tl, ← len_tl, ← len_tl, show (a ++ b).cps.toList = a.cps.toList ++ b.cps.toList from TL.tl_append a b, List.length_append]
theorem joinL_flat : ∀ ps : List (List Nat), TL.joinL [] ps = ps.flatten
  | [] => rfl
  | [p] => by show p = [p].flatten; simp
  | p :: q :: r => by
    show p ++ ([] ++ TL.joinL [] (q :: r)) = (p :: q :: r).flatten
    rw [joinL_flat (q :: r), List.nil_append]; rfl
theorem join_flat (ys : List Str) : (Txt.join ("" : Str) ys).cps.toList = (ys.map fun y => y.cps.toList).flatten := by
  have h := TL.tl_join ("" : Str) ys
  rw [show TL.tl ("" : Str) = [] by decide +kernel, joinL_flat] at h
  rw [TL.join_eq]
  exact h
theorem okS_cut {z : Str} {lo hi : Option Int} (h : okS z) : okS (cutS z lo hi) := fun c hc => h c (List.mem_of_mem_drop (List.mem_of_mem_take hc))
theorem okS_sgn {z : Str} {c : Nat} (h : okS z) (hc : c ∈ z.cps.toList) : okS ⟨#[c]⟩ := fun d hd => by
  have e : d = c := by simpa using hd
  rw [e]; exact h c hc
theorem len_sgn (c : Nat) : (⟨#[c]⟩ : Str).length = 1 := rfl
def isLet (c : Nat) : Bool := decide (97 ≤ c ∧ c ≤ 122)
def abcS : Str := "abcdefghijklmnopqrstuvwxyz"
theorem mem_abc (c : Nat) : c ∈ abcS.cps.toList ↔ isLet c = true := by
  have e : abcS.cps.toList = [97, 98, 99, 100, 101, 102, 103, 104, 105, 106, 107, 108, 109, 110, 111, 112, 113, 114, 115, 116, 117, 118, 119, 120, 121, 122] := by decide +kernel
  rw [e]
  unfold isLet
  simp only [List.mem_cons, List.not_mem_nil, or_false, decide_eq_true_eq]
  omega
def taken : List Str := ["not", "never", "may"]
def nameS (z : Str) : Bool := decide (1 ≤ z.length ∧ z.length ≤ 8) && decide (z ∉ taken) && z.cps.toList.all isLet
theorem nameS_iff (z : Str) : nameS z = true ↔ (1 ≤ z.length ∧ z.length ≤ 8) ∧ z ∉ taken ∧ ∀ c ∈ z.cps.toList, isLet c = true := by
  unfold nameS
  rw [Bool.and_eq_true, Bool.and_eq_true, decide_eq_true_iff, decide_eq_true_iff, List.all_eq_true, and_assoc]
theorem okS_let {z : Str} (h : ∀ c ∈ z.cps.toList, isLet c = true) : okS z := fun c hc => by
  have := of_decide_eq_true (h c hc)
  omega
theorem nameS_ok {z : Str} (h : nameS z = true) : okS z := okS_let ((nameS_iff z).mp h).2.2
theorem nameS_len {z : Str} (h : nameS z = true) : z.length ≤ 8 := ((nameS_iff z).mp h).1.2
def isNm : V → Bool
  | .str z => nameS z
  | _ => false
theorem inV_strs (z : Str) (ys : List Str) : inV (.str z) (ys.map V.str) = decide (z ∈ ys) := by
  unfold inV
  rw [Bool.eq_iff_iff, List.any_eq_true, decide_eq_true_iff]
  constructor
  · rintro ⟨x, hx, e⟩
    obtain ⟨y, hy, rfl⟩ := List.mem_map.mp hx
    have : y = z := eq_of_beq (show (y == z) = true from e)
    rw [← this]; exact hy
  · intro h
    exact ⟨.str z, List.mem_map.mpr ⟨z, h, rfl⟩, show (z == z) = true from beq_self_eq_true z⟩

/-! ### things of any kind -/
def Thing (H : Hp) : V → Prop
  | .non => True
  | .bl _ => True
  | .int _ => True
  | .str z => z.length ≤ 1000 ∧ okS z
  | .ref a => (∃ xs, H a = some (.lst xs)) ∨ (∃ xs, H a = some (.tup xs)) ∨ ∃ kvs, H a = some (.dK kvs)
  | _ => False
theorem Thing.ex {H H' : Hp} {x : V} (e : Ex H H') (h : Thing H x) : Thing H' x := by
  cases x with
  | ref a =>
    rcases h with ⟨xs, h⟩ | ⟨xs, h⟩ | ⟨xs, h⟩
    · exact .inl ⟨xs, e _ _ h⟩
    · exact .inr (.inl ⟨xs, e _ _ h⟩)
    · exact .inr (.inr ⟨xs, e _ _ h⟩)
  | _ => exact h
def kinds : List String := ["NoneType", "bool", "int", "str", "list", "tuple", "dict"]
def subK (n m : String) : Bool := n == m || (n == "bool" && m == "int")
theorem kit_kinds {K : PySem.W.Frag} {n m : String} (hn : n ∈ kinds) (hm : m ∈ kinds) : PySem.W.kitOne K (.type n) (.type m) = some (subK n m) := by
  refine kit_ty ?_
  have h : ∀ n ∈ kinds, ∀ m ∈ kinds, kitB n m = some (subK n m) := by decide +kernel
  exact h n hn m hm
/-- the kind of a value that is no object -/
def kindV : V → String
  | .non => "NoneType"
  | .bl _ => "bool"
  | .int _ => "int"
  | .str _ => "str"
  | _ => "list"
def isStr : V → Bool
  | .str _ => true
  | _ => false
def isBl : V → Bool
  | .bl _ => true
  | _ => false
theorem thing_ty {K : PySem.W.Frag} {H : Hp} {x : V} (h : Thing H x) : ∃ n, n ∈ kinds ∧ TyX K H x (.type n) ∧ (n == "str") = isStr x ∧ (n == "bool") = isBl x := by
  cases x with
  | non => exact ⟨"NoneType", by decide, .base .non, show ("NoneType" == "str") = false by decide, show ("NoneType" == "bool") = false by decide⟩
  | bl b => exact ⟨"bool", by decide, .base (.bl b), show ("bool" == "str") = false by decide, show ("bool" == "bool") = true by decide⟩
  | int i => exact ⟨"int", by decide, .base (.int i), show ("int" == "str") = false by decide, show ("int" == "bool") = false by decide⟩
  | str z => exact ⟨"str", by decide, .base (.str z), show ("str" == "str") = true by decide, show ("str" == "bool") = false by decide⟩
  | ref a =>
    rcases h with ⟨xs, h⟩ | ⟨xs, h⟩ | ⟨xs, h⟩
    · exact ⟨"list", by decide, .base (.lst h), show ("list" == "str") = false by decide, show ("list" == "bool") = false by decide⟩
    · exact ⟨"tuple", by decide, .base (.tup h), show ("tuple" == "str") = false by decide, show ("tuple" == "bool") = false by decide⟩
    · exact ⟨"dict", by decide, .base (.dK h), show ("dict" == "str") = false by decide, show ("dict" == "bool") = false by decide⟩
  | _ => exact h.elim
theorem g_isi_str {K : PySem.W.Frag} {H : Hp} {Q : VK} {x : V} (h : Thing H x) (q : Q (.bl (isStr x)) H) : gIsi K [x, .ty "str"] H Q := by
  obtain ⟨n, hn, ht, e, _⟩ := thing_ty (K := K) h
  refine .inl ⟨x, _, _, _, _, rfl, .ty "str", ht, kit_kinds hn (by decide), ?_⟩
  rw [show subK n "str" = isStr x by unfold subK; rw [e]; cases isStr x <;> simp]
  exact q
theorem g_isi_bl {K : PySem.W.Frag} {H : Hp} {Q : VK} {x : V} (h : Thing H x) (q : Q (.bl (isBl x)) H) : gIsi K [x, .ty "bool"] H Q := by
  obtain ⟨n, hn, ht, _, e⟩ := thing_ty (K := K) h
  refine .inl ⟨x, _, _, _, _, rfl, .ty "bool", ht, kit_kinds hn (by decide), ?_⟩
  rw [show subK n "bool" = isBl x by unfold subK; rw [e]; cases isBl x <;> simp]
  exact q
/-! ### promises -/
def sp_is_small_letter (K : PySem.W.Frag) : Sp := fun vs H Q _ => ∃ c : Nat, vs = [.str ⟨#[c]⟩] ∧ ∀ H', Ex H H' → Q (.bl (isLet c)) H'
def sp_is_name (K : PySem.W.Frag) : Sp := fun vs H Q _ => ∃ x : V, vs = [x] ∧ Thing H x ∧ ∀ H', Ex H H' → Q (.bl (isNm x)) H'
def sp__law_begin (K : PySem.W.Frag) : Sp := sp_begin K
def sp__law_take (K : PySem.W.Frag) : Sp := sp_take
def sp__law_pick (K : PySem.W.Frag) : Sp := fun vs H Q _ => ∃ (d : Addr) (x : V), vs = [.ref d, x] ∧ Draw H d ∧
  ((∃ p xs, x = .ref p ∧ SqL K H p xs ∧ xs ≠ [] ∧ xs.length ≤ 100000 ∧ ∀ v H', v ∈ xs → Ex H H' → Q v H') ∨ (∃ z : Str, x = .str z ∧ 0 < z.length ∧ z.length ≤ 100000 ∧ ∀ c H', c ∈ z.cps.toList → Ex H H' → Q (.str ⟨#[c]⟩) H'))
def sp__law_word (K : PySem.W.Frag) : Sp := fun vs H Q _ => ∃ d : Addr, vs = [.ref d] ∧ Draw H d ∧ ∀ z H', nameS z = true → Ex H H' → Q (.str z) H'
section
variable {K : PySem.W.Frag} {H : Hp} {Q : VK} {E : XK} {d : Addr}
theorem c_take {size : Int} (hd : Draw H d) (h0 : 0 < size) (h1 : size < 2 ^ 64) (h : ∀ n H', 0 ≤ n → n < size → Ex H H' → Q (.int n) H') : sp__law_take K ([.ref d, .int size] ++ []) H Q E := ⟨d, size, rfl, hd, h0, h1, h⟩
theorem c_pickL {p : Addr} {xs : List V} (hd : Draw H d) (hp : SqL K H p xs) (h0 : xs ≠ []) (h1 : xs.length ≤ 100000) (h : ∀ v H', v ∈ xs → Ex H H' → Q v H') : sp__law_pick K ([.ref d, .ref p] ++ []) H Q E := ⟨d, .ref p, rfl, hd, .inl ⟨p, xs, rfl, hp, h0, h1, h⟩⟩
theorem c_pickS {z : Str} (hd : Draw H d) (h0 : 0 < z.length) (h1 : z.length ≤ 100000) (h : ∀ c H', c ∈ z.cps.toList → Ex H H' → Q (.str ⟨#[c]⟩) H') : sp__law_pick K ([.ref d, .str z] ++ []) H Q E := ⟨d, .str z, rfl, hd, .inr ⟨z, rfl, h0, h1, h⟩⟩
theorem c_word (hd : Draw H d) (h : ∀ z H', nameS z = true → Ex H H' → Q (.str z) H') : sp__law_word K ([.ref d] ++ []) H Q E := ⟨d, rfl, hd, h⟩
theorem c_isname {x : V} (hx : Thing H x) (h : ∀ H', Ex H H' → Q (.bl (isNm x)) H') : sp_is_name K ([x] ++ []) H Q E := ⟨x, rfl, hx, h⟩
theorem c_issmall {c : Nat} (h : ∀ H', Ex H H' → Q (.bl (isLet c)) H') : sp_is_small_letter K ([.str ⟨#[c]⟩] ++ []) H Q E := ⟨c, rfl, h⟩
end
end Gx

namespace K01
open PySem PySem.Spec PyProof.Rows L2 Evl Gx
def topS (i : Nat) : Stmt := PySem.Challenge.pw_groundlots_k01_names.main.body.getD i (.Pass ⟨0, 0, 0, 0⟩)
abbrev s_is_small_letter : Stmt := topS 4
theorem sc_is_small_letter : FnScope ["sign"] ["sign"] (defScope s_is_small_letter) := ⟨rfl, rfl, rfl, by decide +kernel, rfl, by decide +kernel, by decide +kernel⟩
abbrev s_is_name : Stmt := topS 3
theorem sc_is_name : FnScope ["thing", "sign"] ["thing"] (defScope s_is_name) := ⟨rfl, rfl, rfl, by decide +kernel, rfl, by decide +kernel, by decide +kernel⟩
abbrev s__law_begin : Stmt := topS 6
theorem sc__law_begin : FnScope ["script", "cells", "cell"] ["script"] (defScope s__law_begin) := ⟨rfl, rfl, rfl, by decide +kernel, rfl, by decide +kernel, by decide +kernel⟩
abbrev s__law_take : Stmt := topS 7
theorem sc__law_take : FnScope ["draw", "size", "cells", "at", "cell"] ["draw", "size"] (defScope s__law_take) := ⟨rfl, rfl, rfl, by decide +kernel, rfl, by decide +kernel, by decide +kernel⟩
abbrev s__law_pick : Stmt := topS 8
theorem sc__law_pick : FnScope ["draw", "some"] ["draw", "some"] (defScope s__law_pick) := ⟨rfl, rfl, rfl, by decide +kernel, rfl, by decide +kernel, by decide +kernel⟩
abbrev s__law_word : Stmt := topS 9
theorem sc__law_word : FnScope ["draw", "own", "word", "k"] ["draw"] (defScope s__law_word) := ⟨rfl, rfl, rfl, by decide +kernel, rfl, by decide +kernel, by decide +kernel⟩
abbrev s__law_thing : Stmt := topS 11
theorem sc__law_thing : FnScope ["draw", "way", "word", "kept", "at", "k"] ["draw"] (defScope s__law_thing) := ⟨rfl, rfl, rfl, by decide +kernel, rfl, by decide +kernel, by decide +kernel⟩
abbrev s__law_due : Stmt := topS 12
theorem sc__law_due : FnScope ["some_one", "odd", "sign"] ["some_one"] (defScope s__law_due) := ⟨rfl, rfl, rfl, by decide +kernel, rfl, by decide +kernel, by decide +kernel⟩
abbrev s_law : Stmt := topS 13
theorem sc_law : FnScope ["script", "draw", "turn", "some_one", "found"] ["script"] (defScope s_law) := ⟨rfl, rfl, rfl, by decide +kernel, rfl, by decide +kernel, by decide +kernel⟩
end K01

namespace K01
open PySem PySem.Spec PyProof.Rows L2 Evl Gx
def sp__law_thing (K : PySem.W.Frag) : Sp := fun vs H Q _ => ∃ d : Addr, vs = [.ref d] ∧ Draw H d ∧ ∀ x H', Thing H' x → Ex H H' → Q x H'
def sp__law_due (K : PySem.W.Frag) : Sp := fun vs H Q _ => ∃ x : V, vs = [x] ∧ Thing H x ∧ ∀ H', Ex H H' → Q (.bl (isNm x)) H'
def sp_law (K : PySem.W.Frag) : Sp := fun vs H Q _ => ∃ (a : Addr) (ns : List Int), vs = [.ref a] ∧ SqL K H a (ns.map V.int) ∧ ns.length ≤ 63 ∧ ∀ H', Q (.bl true) H'

end K01

namespace K01
open PySem PySem.Spec PyProof.Rows L2 Evl Gx
section
variable {P : Program} {w : World} {K : PySem.W.Frag} {mg : Str → Option Value} {base : Heap}
def t_is_small_letter (K : PySem.W.Frag)  : TS :=
    (tRet (tChain gLe gLe (tC (.str "a")) (tVar 0) (tC (.str "z"))))
theorem d_is_small_letter {f : Addr} {cdv : Value} {A : Around} {outer : List Env} {s : Shared} {H : Hp} {E : XK}   (hr : Room 0 (A.deeper (envOfC "is_small_letter" (defScope s_is_small_letter) s.heap.objs.size f cdv))) :
  PSs (cxOf CX0 P w K mg base ["sign"] "is_small_letter" (defScope s_is_small_letter) f cdv A outer s H E).nox (defBody s_is_small_letter) (t_is_small_letter K ) :=
    (pss_one (ps_ret (pe_chain op_gLe op_gLe pe_str (pv 0) pe_str)))

def t_is_name (K : PySem.W.Frag) (v_LONGEST_NAME : V) (v_TAKEN_WORDS : V) : TS :=
    (tSeq (tIfS (tOr (tNot (tB (tCB (gIsi K) (tCons (tVar 0) (tCons (tC (.ty "str")) tNil))))) (tNot (tTest (tChain gLe gLe (tC (.int 1)) (tCB (gLen K) (tCons (tVar 0) tNil)) (tC v_LONGEST_NAME))))) (tRet (tC (.bl false))) tNext)
    (tRet (tAndV (tOp (gNi K) (tVar 0) (tC v_TAKEN_WORDS)) (tCB (rAll K) (tCons (tLc (iStr (tVar 0)) (gName 1) tYes (tCall (sp_is_small_letter K) [] E0 (tCons (tVar 1) tNil)) [1]) tNil)))))
theorem d_is_name {f : Addr} {cdv : Value} {A : Around} {outer : List Env} {s : Shared} {H : Hp} {E : XK} {v_LONGEST_NAME : V} {v_TAKEN_WORDS : V} (C_is_small_letter : Cal P w K mg base CX0 1 "is_small_letter" ["sign"] [] (sp_is_small_letter K)) {u_LONGEST_NAME : Value} (m_LONGEST_NAME : mg "LONGEST_NAME" = some u_LONGEST_NAME) (r_LONGEST_NAME : RelV v_LONGEST_NAME u_LONGEST_NAME) {u_TAKEN_WORDS : Value} (m_TAKEN_WORDS : mg "TAKEN_WORDS" = some u_TAKEN_WORDS) (r_TAKEN_WORDS : RelV v_TAKEN_WORDS u_TAKEN_WORDS) (n_all : mg "all" = none) (n_isinstance : mg "isinstance" = none) (n_len : mg "len" = none) (n_str : mg "str" = none) (hr : Room 1 (A.deeper (envOfC "is_name" (defScope s_is_name) s.heap.objs.size f cdv))) :
  PSs (cxOf CX0 P w K mg base ["thing", "sign"] "is_name" (defScope s_is_name) f cdv A outer s H E).nox (defBody s_is_name) (t_is_name K v_LONGEST_NAME v_TAKEN_WORDS) :=
    (pss_cons (ps_if (PW.pt (pw_or (pt_not (pt_val (pe_callB call_gIsi (by rfl) n_isinstance (by decide +kernel) (pa_cons (pv 0) (pa_cons (pe_bltn (v := .ty "str") (by rfl) n_str (by decide +kernel) rfl) pa_nil))))) (pw_or1 (pt_not (pt_chain op_gLe op_gLe pe_int (pe_callB call_gLen (by rfl) n_len (by decide +kernel) (pa_cons (pv 0) pa_nil)) (pe_glob (by rfl) m_LONGEST_NAME r_LONGEST_NAME)))))) (pss_one (ps_ret pe_bl)) pss_nil)
    (pss_one (ps_ret (pe_and (pe_cmpR op_gNi (pv 0) (pe_glob (by rfl) m_TAKEN_WORDS r_TAKEN_WORDS) (by rfl)) (pe_one (pe_callB (cr_all rfl) (by rfl) n_all (by decide +kernel) (pa_cons (pe_lc (own := [("sign", 1)]) (g := gName 1) (tt := tYes) rfl sc_is_name.nd (pi_str (pv 0)) (blkOk_by (own := [("sign", 1)]) (N := ["thing", "sign"]) (sc := defScope s_is_name) (by decide +kernel)) (fun _ _ _ _ _ => pg_name (i := 1) sc_is_name.nd rfl (Or.inl rfl)) (fun _ _ _ _ _ => pts_nil) (fun _ _ _ _ _ => (pe_cal C_is_small_letter (hr.mono (by decide)) (by rfl) pass0 (pa_cons (pv 1) pa_nil)))) pa_nil)))))))

def t__law_begin (K : PySem.W.Frag)  : TS :=
    (tSeq (tAsg (tLc (iList K (tSl (gSl K) (tVar 0) tNoPart (tPart (tC (.int 63))))) (gName 2) tYes (tCB rAbs (tCons (tVar 2) tNil)) [2]) (gName 1))
    (tSeq (tIfS (tTest (tOp (gEq K) (tVar 1) (tLst tNil))) (tAsg (tLst (tCons (tC (.int 7)) tNil)) (gName 1)) tNext)
    (tRet (tLst (tCons (tVar 1) (tCons (tC (.int 0)) (tCons (tC (.int 1)) tNil)))))))
theorem d__law_begin {f : Addr} {cdv : Value} {A : Around} {outer : List Env} {s : Shared} {H : Hp} {E : XK}  (n_abs : mg "abs" = none) (hr : Room 0 (A.deeper (envOfC "_law_begin" (defScope s__law_begin) s.heap.objs.size f cdv))) :
  PSs (cxOf CX0 P w K mg base ["script", "cells", "cell"] "_law_begin" (defScope s__law_begin) f cdv A outer s H E).nox (defBody s__law_begin) (t__law_begin K ) :=
    (pss_cons (ps_setLc (i := 1) (own := [("cell", 2)]) (g := gName 2) (tt := tYes) rfl sc__law_begin.nd rfl rfl (sw_true rfl rfl rfl (by decide +kernel)) (pi_list (pe_slice sl_g (pv 0) po_none (po_some pe_int))) (blkOk_by (own := [("cell", 2)]) (N := ["script", "cells", "cell"]) (sc := defScope s__law_begin) (by decide +kernel)) (fun _ _ _ _ _ => pg_name (i := 2) sc__law_begin.nd rfl (Or.inl rfl)) (fun _ _ _ _ _ => pts_nil) (fun _ _ _ _ _ => (pe_callB call_abs1 (by rfl) n_abs (by decide +kernel) (pa_cons (pv 2) pa_nil))))
    (pss_cons (ps_if (pt_cmpR (op_gEq hr.units) (pv 1) (pe_lst pa_nil) (by rfl)) (pss_one (ps_set (i := 1) sc__law_begin.nd rfl (Or.inl rfl) (pe_lst (pa_cons pe_int pa_nil)))) pss_nil)
    (pss_one (ps_ret (pe_lst (pa_cons (pv 1) (pa_cons pe_int (pa_cons pe_int pa_nil))))))))

def t__law_take (K : PySem.W.Frag)  : TS :=
    (tSeq (tAsg (tOp (rIx K) (tVar 0) (tC (.int 0))) (gName 2))
    (tSeq (tAsg (tOp (rI (fun _ j => 0 < j) fun i j => .int (i % j)) (tOp (rIx K) (tVar 0) (tC (.int 1))) (tCB (gLen K) (tCons (tVar 2) tNil))) (gName 3))
    (tSeq (tAsg (tOp (rIx K) (tVar 2) (tVar 3)) (gName 4))
    (tSeq (tIfS (tTest (tOp gGe (tVar 4) (tOp (rI CPow fun i j => .int (i ^ j.toNat)) (tC (.int 10)) (tC (.int 18))))) (tSeq (tAsg (tOp (rI CDivW fun i j => .int (i / j)) (tVar 4) (tVar 1)) (gSub (tVar 2) (tVar 3) rSetL))
    (tRet (tOp (rI (fun _ j => 0 < j) fun i j => .int (i % j)) (tVar 4) (tVar 1)))) tNext)
    (tSeq (tAsg (tOp (gAdd K) (tOp (rIx K) (tVar 0) (tC (.int 1))) (tC (.int 1))) (gSub (tVar 0) (tC (.int 1)) rSetL))
    (tSeq (tAsg (tOp (rI (fun _ j => 0 < j) fun i j => .int (i % j)) (tOp (gAdd K) (tOp (gAdd K) (tOp gMul (tOp (rIx K) (tVar 0) (tC (.int 2))) (tC (.int 48271))) (tVar 4)) (tC (.int 12345))) (tC (.int 2147483647))) (gSub (tVar 0) (tC (.int 2)) rSetL))
    (tRet (tOp (rI (fun _ j => 0 < j) fun i j => .int (i % j)) (tOp (rI CDivW fun i j => .int (i / j)) (tOp (rI (fun _ j => 0 < j) fun i j => .int (i % j)) (tOp gMul (tOp (rIx K) (tVar 0) (tC (.int 2))) (tOp (rIx K) (tVar 0) (tC (.int 2)))) (tC (.int 2147483629))) (tC (.int 16))) (tVar 1)))))))))
theorem d__law_take {f : Addr} {cdv : Value} {A : Around} {outer : List Env} {s : Shared} {H : Hp} {E : XK}  (n_len : mg "len" = none) (hr : Room 0 (A.deeper (envOfC "_law_take" (defScope s__law_take) s.heap.objs.size f cdv))) :
  PSs (cxOf CX0 P w K mg base ["draw", "size", "cells", "at", "cell"] "_law_take" (defScope s__law_take) f cdv A outer s H E).nox (defBody s__law_take) (t__law_take K ) :=
    (pss_cons (ps_set (i := 2) sc__law_take.nd rfl (Or.inl rfl) (pe_ix ix_seq (pv 0) pe_int (fun _ _ => rfl)))
    (pss_cons (ps_set (i := 3) sc__law_take.nd rfl (Or.inl rfl) (pe_op op_mod (pe_ix ix_seq (pv 0) pe_int (fun _ _ => rfl)) (pe_callB call_gLen (by rfl) n_len (by decide +kernel) (pa_cons (pv 2) pa_nil))))
    (pss_cons (ps_set (i := 4) sc__law_take.nd rfl (Or.inl rfl) (pe_ix ix_seq (pv 2) (pv 3) (fun _ _ => rfl)))
    (pss_cons (ps_if (pt_cmpR op_gGe (pv 4) (pe_op op_pow pe_int pe_int) (by rfl)) (pss_cons (ps_asg (pe_op op_fdivW (pv 4) (pv 1)) (pg_sub (pv 2) (pv 3) set_list))
    (pss_one (ps_ret (pe_op op_mod (pv 4) (pv 1))))) pss_nil)
    (pss_cons (ps_asg (pe_op op_gAdd (pe_ix ix_seq (pv 0) pe_int (fun _ _ => rfl)) pe_int) (pg_sub (pv 0) pe_int set_list))
    (pss_cons (ps_asg (pe_op op_mod (pe_op op_gAdd (pe_op op_gAdd (pe_op op_gMul (pe_ix ix_seq (pv 0) pe_int (fun _ _ => rfl)) pe_int) (pv 4)) pe_int) pe_int) (pg_sub (pv 0) pe_int set_list))
    (pss_one (ps_ret (pe_op op_mod (pe_op op_fdivW (pe_op op_mod (pe_op op_gMul (pe_ix ix_seq (pv 0) pe_int (fun _ _ => rfl)) (pe_ix ix_seq (pv 0) pe_int (fun _ _ => rfl))) pe_int) pe_int) (pv 1))))))))))

def t__law_pick (K : PySem.W.Frag)  : TS :=
    (tRet (tOp (rIx K) (tVar 1) (tCall (sp__law_take K) [] E0 (tCons (tVar 0) (tCons (tCB (gLen K) (tCons (tVar 1) tNil)) tNil)))))
theorem d__law_pick {f : Addr} {cdv : Value} {A : Around} {outer : List Env} {s : Shared} {H : Hp} {E : XK}  (C__law_take : Cal P w K mg base CX0 1 "_law_take" ["draw", "size"] [] (sp__law_take K)) (n_len : mg "len" = none) (hr : Room 1 (A.deeper (envOfC "_law_pick" (defScope s__law_pick) s.heap.objs.size f cdv))) :
  PSs (cxOf CX0 P w K mg base ["draw", "some"] "_law_pick" (defScope s__law_pick) f cdv A outer s H E).nox (defBody s__law_pick) (t__law_pick K ) :=
    (pss_one (ps_ret (pe_ix ix_seq (pv 1) (pe_cal C__law_take (hr.mono (by decide)) (by rfl) pass0 (pa_cons (pv 0) (pa_cons (pe_callB call_gLen (by rfl) n_len (by decide +kernel) (pa_cons (pv 1) pa_nil)) pa_nil))) (fun _ _ => rfl))))

def t__law_word (K : PySem.W.Frag)  : TS :=
    (tSeq (tAsg (tLst (tCons (tC (.str "lot")) (tCons (tC (.str "held")) (tCons (tC (.str "back")) (tCons (tC (.str "by")) (tCons (tC (.str "in")) (tCons (tC (.str "all")) (tCons (tC (.str "some")) (tCons (tC (.str "none")) (tCons (tC (.str "rule")) (tCons (tC (.str "told")) (tCons (tC (.str "rank")) (tCons (tC (.str "nots")) (tCons (tC (.str "a")) (tCons (tC (.str "z")) (tCons (tC (.str "maybe")) tNil)))))))))))))))) (gName 1))
    (tSeq (tIfS (tTest (tOp (gEq K) (tCall (sp__law_take K) [] E0 (tCons (tVar 0) (tCons (tC (.int 4)) tNil))) (tC (.int 0)))) (tRet (tCall (sp__law_pick K) [] E0 (tCons (tVar 0) (tCons (tVar 1) tNil)))) tNext)
    (tSeq (tAsg (tC (.str "")) (gName 2))
    (tSeq (tFor (iRng1 (tCons (tOp (gAdd K) (tC (.int 1)) (tCall (sp__law_take K) [] E0 (tCons (tVar 0) (tCons (tC (.int 8)) tNil)))) tNil)) (gName 3) (tAsg (tOp (gAdd K) (tVar 2) (tOp (rIx K) (tC (.str "abcdefghijklmnopqrstuvwxyz")) (tCall (sp__law_take K) [] E0 (tCons (tVar 0) (tCons (tC (.int 26)) tNil))))) (gName 2)))
    (tSeq (tIfS (tTest (tOp (gIn K) (tVar 2) (tLst (tCons (tC (.str "not")) (tCons (tC (.str "never")) (tCons (tC (.str "may")) tNil)))))) (tRet (tSl (gSl K) (tVar 2) tNoPart (tPart (tUn (rU fun i => .int (-i)) (tC (.int 1)))))) tNext)
    (tRet (tVar 2)))))))
theorem d__law_word {f : Addr} {cdv : Value} {A : Around} {outer : List Env} {s : Shared} {H : Hp} {E : XK}  (C__law_pick : Cal P w K mg base CX0 2 "_law_pick" ["draw", "some"] [] (sp__law_pick K)) (C__law_take : Cal P w K mg base CX0 1 "_law_take" ["draw", "size"] [] (sp__law_take K)) (n_range : mg "range" = none) (hr : Room 2 (A.deeper (envOfC "_law_word" (defScope s__law_word) s.heap.objs.size f cdv))) :
  PSs (cxOf CX0 P w K mg base ["draw", "own", "word", "k"] "_law_word" (defScope s__law_word) f cdv A outer s H E).nox (defBody s__law_word) (t__law_word K ) :=
    (pss_cons (ps_set (i := 1) sc__law_word.nd rfl (Or.inl rfl) (pe_lst (pa_cons pe_str (pa_cons pe_str (pa_cons pe_str (pa_cons pe_str (pa_cons pe_str (pa_cons pe_str (pa_cons pe_str (pa_cons pe_str (pa_cons pe_str (pa_cons pe_str (pa_cons pe_str (pa_cons pe_str (pa_cons pe_str (pa_cons pe_str (pa_cons pe_str pa_nil)))))))))))))))))
    (pss_cons (ps_if (pt_cmpR (op_gEq hr.units) (pe_cal C__law_take (hr.mono (by decide)) (by rfl) pass0 (pa_cons (pv 0) (pa_cons pe_int pa_nil))) pe_int (by rfl)) (pss_one (ps_ret (pe_cal C__law_pick (hr.mono (by decide)) (by rfl) pass0 (pa_cons (pv 0) (pa_cons (pv 1) pa_nil))))) pss_nil)
    (pss_cons (ps_set (i := 2) sc__law_word.nd rfl (Or.inl rfl) pe_str)
    (pss_cons (ps_for PassesOwn.never rfl (pi_range1 rfl n_range (pa_cons (pe_op op_gAdd pe_int (pe_cal C__law_take (hr.mono (by decide)) (by rfl) pass0 (pa_cons (pv 0) (pa_cons pe_int pa_nil)))) pa_nil)) (pg_name (i := 3) sc__law_word.nd rfl (Or.inl rfl)) (pss_one (ps_set (i := 2) sc__law_word.nd rfl (Or.inl rfl) (pe_op op_gAdd (pv 2) (pe_ix ix_seq pe_str (pe_cal C__law_take (hr.mono (by decide)) (by rfl) pass0 (pa_cons (pv 0) (pa_cons pe_int pa_nil))) (fun _ _ => rfl))))))
    (pss_cons (ps_if (pt_cmpR op_gIn (pv 2) (pe_lst (pa_cons pe_str (pa_cons pe_str (pa_cons pe_str pa_nil)))) (by rfl)) (pss_one (ps_ret (pe_slice sl_g (pv 2) po_none (po_some (pe_un un_neg pe_int))))) pss_nil)
    (pss_one (ps_ret (pv 2))))))))

def t__law_thing (K : PySem.W.Frag)  : TS :=
    (tSeq (tAsg (tCall (sp__law_take K) [] E0 (tCons (tVar 0) (tCons (tC (.int 6)) tNil))) (gName 1))
    (tSeq (tAsg (tCall (sp__law_word K) [] E0 (tCons (tVar 0) tNil)) (gName 2))
    (tSeq (tIfS (tTest (tOp (gEq K) (tVar 1) (tC (.int 1)))) (tRet (tM1 (rJoin K) (tC (.str "")) (tLc (iRng1 (tCons (tCall (sp__law_take K) [] E0 (tCons (tVar 0) (tCons (tC (.int 11)) tNil))) tNil)) (gName 5) tYes (tCall (sp__law_pick K) [] E0 (tCons (tVar 0) (tCons (tC (.str "abcdefghijklmnopqrstuvwxyz")) tNil))) [5]))) tNext)
    (tSeq (tIfS (tTest (tOp (gEq K) (tVar 1) (tC (.int 2)))) (tSeq (tAsg (tCall (sp__law_pick K) [] E0 (tCons (tVar 0) (tCons (tLst (tCons (tC (.str "not")) (tCons (tC (.str "never")) (tCons (tC (.str "may")) tNil)))) tNil))) (gName 3))
    (tRet (tOp (rIx K) (tLst (tCons (tVar 3) (tCons (tSl (gSl K) (tVar 3) tNoPart (tPart (tUn (rU fun i => .int (-i)) (tC (.int 1))))) (tCons (tOp (gAdd K) (tVar 3) (tOp (rIx K) (tVar 3) (tC (.int 0)))) (tCons (tOp (gAdd K) (tOp (rIx K) (tVar 3) (tC (.int 0))) (tVar 3)) tNil))))) (tCall (sp__law_take K) [] E0 (tCons (tVar 0) (tCons (tC (.int 4)) tNil)))))) tNext)
    (tSeq (tIfS (tTest (tOp (gEq K) (tVar 1) (tC (.int 3)))) (tSeq (tAsg (tCall (sp__law_take K) [] E0 (tCons (tVar 0) (tCons (tOp (gAdd K) (tCB (gLen K) (tCons (tVar 2) tNil)) (tC (.int 1))) tNil))) (gName 4))
    (tRet (tOp (gAdd K) (tOp (gAdd K) (tSl (gSl K) (tVar 2) tNoPart (tPart (tVar 4))) (tCall (sp__law_pick K) [] E0 (tCons (tVar 0) (tCons (tC (.str "ABZ019_ -,.<\n\t'")) tNil)))) (tSl (gSl K) (tVar 2) (tPart (tVar 4)) tNoPart)))) tNext)
    (tSeq (tIfS (tTest (tOp (gEq K) (tVar 1) (tC (.int 4)))) (tRet (tCall (sp__law_pick K) [] E0 (tCons (tVar 0) (tCons (tLst (tCons (tC (.int 0)) (tCons (tC (.int 7)) (tCons (tC (.bl true)) (tCons (tC (.bl false)) (tCons (tC .non) (tCons (tLst (tCons (tVar 2) tNil)) (tCons (tTup (tCons (tVar 2) tNil)) (tCons (tDisp (((tVar 2), (tC (.int 1))) :: [])) (tCons (tLst tNil) (tCons (tTup tNil) tNil))))))))))) tNil)))) tNext)
    (tRet (tVar 2))))))))
theorem d__law_thing {f : Addr} {cdv : Value} {A : Around} {outer : List Env} {s : Shared} {H : Hp} {E : XK}  (C__law_pick : Cal P w K mg base CX0 2 "_law_pick" ["draw", "some"] [] (sp__law_pick K)) (C__law_take : Cal P w K mg base CX0 1 "_law_take" ["draw", "size"] [] (sp__law_take K)) (C__law_word : Cal P w K mg base CX0 3 "_law_word" ["draw"] [] (sp__law_word K)) (n_len : mg "len" = none) (n_range : mg "range" = none) (hr : Room 3 (A.deeper (envOfC "_law_thing" (defScope s__law_thing) s.heap.objs.size f cdv))) :
  PSs (cxOf CX0 P w K mg base ["draw", "way", "word", "kept", "at", "k"] "_law_thing" (defScope s__law_thing) f cdv A outer s H E).nox (defBody s__law_thing) (t__law_thing K ) :=
    (pss_cons (ps_set (i := 1) sc__law_thing.nd rfl (Or.inl rfl) (pe_cal C__law_take (hr.mono (by decide)) (by rfl) pass0 (pa_cons (pv 0) (pa_cons pe_int pa_nil))))
    (pss_cons (ps_set (i := 2) sc__law_thing.nd rfl (Or.inl rfl) (pe_cal C__law_word (hr.mono (by decide)) (by rfl) pass0 (pa_cons (pv 0) pa_nil)))
    (pss_cons (ps_if (pt_cmpR (op_gEq hr.units) (pv 1) pe_int (by rfl)) (pss_one (ps_ret (pe_joinR pe_str (pe_lc (own := [("k", 5)]) (g := gName 5) (tt := tYes) rfl sc__law_thing.nd (pi_range1 rfl n_range (pa_cons (pe_cal C__law_take (hr.mono (by decide)) (by rfl) pass0 (pa_cons (pv 0) (pa_cons pe_int pa_nil))) pa_nil)) (blkOk_by (own := [("k", 5)]) (N := ["draw", "way", "word", "kept", "at", "k"]) (sc := defScope s__law_thing) (by decide +kernel)) (fun _ _ _ _ _ => pg_name (i := 5) sc__law_thing.nd rfl (Or.inl rfl)) (fun _ _ _ _ _ => pts_nil) (fun _ _ _ _ _ => (pe_cal C__law_pick (hr.mono (by decide)) (by rfl) pass0 (pa_cons (pv 0) (pa_cons pe_str pa_nil)))))))) pss_nil)
    (pss_cons (ps_if (pt_cmpR (op_gEq hr.units) (pv 1) pe_int (by rfl)) (pss_cons (ps_set (i := 3) sc__law_thing.nd rfl (Or.inl rfl) (pe_cal C__law_pick (hr.mono (by decide)) (by rfl) pass0 (pa_cons (pv 0) (pa_cons (pe_lst (pa_cons pe_str (pa_cons pe_str (pa_cons pe_str pa_nil)))) pa_nil))))
    (pss_one (ps_ret (pe_ix ix_seq (pe_lst (pa_cons (pv 3) (pa_cons (pe_slice sl_g (pv 3) po_none (po_some (pe_un un_neg pe_int))) (pa_cons (pe_op op_gAdd (pv 3) (pe_ix ix_seq (pv 3) pe_int (fun _ _ => rfl))) (pa_cons (pe_op op_gAdd (pe_ix ix_seq (pv 3) pe_int (fun _ _ => rfl)) (pv 3)) pa_nil))))) (pe_cal C__law_take (hr.mono (by decide)) (by rfl) pass0 (pa_cons (pv 0) (pa_cons pe_int pa_nil))) (fun _ _ => rfl))))) pss_nil)
    (pss_cons (ps_if (pt_cmpR (op_gEq hr.units) (pv 1) pe_int (by rfl)) (pss_cons (ps_set (i := 4) sc__law_thing.nd rfl (Or.inl rfl) (pe_cal C__law_take (hr.mono (by decide)) (by rfl) pass0 (pa_cons (pv 0) (pa_cons (pe_op op_gAdd (pe_callB call_gLen (by rfl) n_len (by decide +kernel) (pa_cons (pv 2) pa_nil)) pe_int) pa_nil))))
    (pss_one (ps_ret (pe_op op_gAdd (pe_op op_gAdd (pe_slice sl_g (pv 2) po_none (po_some (pv 4))) (pe_cal C__law_pick (hr.mono (by decide)) (by rfl) pass0 (pa_cons (pv 0) (pa_cons pe_str pa_nil)))) (pe_slice sl_g (pv 2) (po_some (pv 4)) po_none))))) pss_nil)
    (pss_cons (ps_if (pt_cmpR (op_gEq hr.units) (pv 1) pe_int (by rfl)) (pss_one (ps_ret (pe_cal C__law_pick (hr.mono (by decide)) (by rfl) pass0 (pa_cons (pv 0) (pa_cons (pe_lst (pa_cons pe_int (pa_cons pe_int (pa_cons pe_bl (pa_cons pe_bl (pa_cons pe_non (pa_cons (pe_lst (pa_cons (pv 2) pa_nil)) (pa_cons (pe_tup (pa_cons (pv 2) pa_nil)) (pa_cons (pe_disp (pps_cons (pv 2) pe_int pps_nil) (by rfl) (by rfl) (fun z => by cases z) (by decide)) (pa_cons (pe_lst pa_nil) (pa_cons (pe_tup pa_nil) pa_nil))))))))))) pa_nil))))) pss_nil)
    (pss_one (ps_ret (pv 2)))))))))

def t__law_due (K : PySem.W.Frag)  : TS :=
    (tSeq (tIfS (tOr (tNot (tB (tCB (gIsi K) (tCons (tVar 0) (tCons (tC (.ty "str")) tNil))))) (tTest (tOp (gIn K) (tVar 0) (tLst (tCons (tC (.str "not")) (tCons (tC (.str "never")) (tCons (tC (.str "may")) tNil))))))) (tRet (tC (.bl false))) tNext)
    (tSeq (tAsg (tLc (iStr (tVar 0)) (gName 2) (tTest (tOp (gNi K) (tVar 2) (tC (.str "abcdefghijklmnopqrstuvwxyz")))) (tVar 2) [2]) (gName 1))
    (tRet (tAndV (tOp (gEq K) (tVar 1) (tLst tNil)) (tChain gLt gLt (tC (.int 0)) (tCB (gLen K) (tCons (tVar 0) tNil)) (tC (.int 9)))))))
theorem d__law_due {f : Addr} {cdv : Value} {A : Around} {outer : List Env} {s : Shared} {H : Hp} {E : XK}  (n_isinstance : mg "isinstance" = none) (n_len : mg "len" = none) (n_str : mg "str" = none) (hr : Room 0 (A.deeper (envOfC "_law_due" (defScope s__law_due) s.heap.objs.size f cdv))) :
  PSs (cxOf CX0 P w K mg base ["some_one", "odd", "sign"] "_law_due" (defScope s__law_due) f cdv A outer s H E).nox (defBody s__law_due) (t__law_due K ) :=
    (pss_cons (ps_if (PW.pt (pw_or (pt_not (pt_val (pe_callB call_gIsi (by rfl) n_isinstance (by decide +kernel) (pa_cons (pv 0) (pa_cons (pe_bltn (v := .ty "str") (by rfl) n_str (by decide +kernel) rfl) pa_nil))))) (pw_or1 (pt_cmpR op_gIn (pv 0) (pe_lst (pa_cons pe_str (pa_cons pe_str (pa_cons pe_str pa_nil)))) (by rfl))))) (pss_one (ps_ret pe_bl)) pss_nil)
    (pss_cons (ps_setLc (i := 1) (own := [("sign", 2)]) (g := gName 2) (tt := _) rfl sc__law_due.nd rfl rfl (sw_true rfl rfl rfl (by decide +kernel)) (pi_str (pv 0)) (blkOk_by (own := [("sign", 2)]) (N := ["some_one", "odd", "sign"]) (sc := defScope s__law_due) (by decide +kernel)) (fun _ _ _ _ _ => pg_name (i := 2) sc__law_due.nd rfl (Or.inl rfl)) (fun _ _ _ _ _ => (pts_one (pt_cmpR op_gNi (pv 2) pe_str (by rfl)))) (fun _ _ _ _ _ => (pv 2)))
    (pss_one (ps_ret (pe_and (pe_cmpR (op_gEq hr.units) (pv 1) (pe_lst pa_nil) (by rfl)) (pe_one (pe_chain op_gLt op_gLt pe_int (pe_callB call_gLen (by rfl) n_len (by decide +kernel) (pa_cons (pv 0) pa_nil)) pe_int)))))))

def t_law (K : PySem.W.Frag)  : TS :=
    (tSeq (tAsg (tCall (sp__law_begin K) [] E0 (tCons (tVar 0) tNil)) (gName 1))
    (tSeq (tFor (iRng1 (tCons (tC (.int 12)) tNil)) (gName 2) (tSeq (tAsg (tCall (sp__law_thing K) [] E0 (tCons (tVar 1) tNil)) (gName 3))
    (tFor (iList K (tLst (tCons (tCall (sp_is_name K) [] E0 (tCons (tVar 3) tNil)) (tCons (tCallK (sp_is_name K) (fun vs zs => vs ++ zs) E0 tNil (tCons (tVar 3) tNil)) tNil)))) (gName 4) (tIfS (tOr (tNot (tB (tCB (gIsi K) (tCons (tVar 4) (tCons (tC (.ty "bool")) tNil))))) (tTest (tOp (gNe K) (tVar 4) (tCall (sp__law_due K) [] E0 (tCons (tVar 3) tNil))))) (tRet (tC (.bl false))) tNext))))
    (tRet (tC (.bl true)))))
theorem d_law {f : Addr} {cdv : Value} {A : Around} {outer : List Env} {s : Shared} {H : Hp} {E : XK}  (C__law_begin : Cal P w K mg base CX0 1 "_law_begin" ["script"] [] (sp__law_begin K)) (C__law_due : Cal P w K mg base CX0 1 "_law_due" ["some_one"] [] (sp__law_due K)) (C__law_thing : Cal P w K mg base CX0 4 "_law_thing" ["draw"] [] (sp__law_thing K)) (C_is_name : Cal P w K mg base CX0 2 "is_name" ["thing"] [] (sp_is_name K)) (C_is_name_k_thing : CalK P w K mg base CX0 2 "is_name" ["thing"] ["thing"] (fun vs zs => vs ++ zs) (sp_is_name K)) (n_bool : mg "bool" = none) (n_isinstance : mg "isinstance" = none) (n_range : mg "range" = none) (hr : Room 4 (A.deeper (envOfC "law" (defScope s_law) s.heap.objs.size f cdv))) :
  PSs (cxOf CX0 P w K mg base ["script", "draw", "turn", "some_one", "found"] "law" (defScope s_law) f cdv A outer s H E).nox (defBody s_law) (t_law K ) :=
    (pss_cons (ps_set (i := 1) sc_law.nd rfl (Or.inl rfl) (pe_cal C__law_begin (hr.mono (by decide)) (by rfl) pass0 (pa_cons (pv 0) pa_nil)))
    (pss_cons (ps_for PassesOwn.never rfl (pi_range1 rfl n_range (pa_cons pe_int pa_nil)) (pg_name (i := 2) sc_law.nd rfl (Or.inl rfl)) (pss_cons (ps_set (i := 3) sc_law.nd rfl (Or.inl rfl) (pe_cal C__law_thing (hr.mono (by decide)) (by rfl) pass0 (pa_cons (pv 1) pa_nil)))
    (pss_one (ps_for PassesOwn.never rfl (pi_list (pe_lst (pa_cons (pe_cal C_is_name (hr.mono (by decide)) (by rfl) pass0 (pa_cons (pv 3) pa_nil)) (pa_cons (pe_calK0 C_is_name_k_thing (hr.mono (by decide)) (by rfl) pass0 (pk_cons (pv 3) pk_nil)) pa_nil)))) (pg_name (i := 4) sc_law.nd rfl (Or.inl rfl)) (pss_one (ps_if (PW.pt (pw_or (pt_not (pt_val (pe_callB call_gIsi (by rfl) n_isinstance (by decide +kernel) (pa_cons (pv 4) (pa_cons (pe_bltn (v := .ty "bool") (by rfl) n_bool (by decide +kernel) rfl) pa_nil))))) (pw_or1 (pt_cmpR (op_gNe hr.units) (pv 4) (pe_cal C__law_due (hr.mono (by decide)) (by rfl) pass0 (pa_cons (pv 3) pa_nil)) (by rfl))))) (pss_one (ps_ret pe_bl)) pss_nil))))))
    (pss_one (ps_ret pe_bl))))

end
end K01

namespace K01
open PySem PySem.Spec PyProof.Rows L2 Evl Gx
local macro_rules | `(tactic| walk_at "get") => `(tactic| first
  | assumption
  | exact upd_same
  | ((with_reducible refine sq_l ?_); walk_at "get")
  | ((with_reducible refine sq_t ?_); walk_at "get")
  | ((with_reducible refine ex_l (by assumption) ?_); walk_at "get")
  | ((with_reducible refine ex_t (by assumption) ?_); walk_at "get")
  | ((with_reducible refine Draw.ex (by assumption) ?_); walk_at "get")
  | ((with_reducible refine Thing.ex (by assumption) ?_); walk_at "get")
  | ((with_reducible refine exget (by assumption) ?_); walk_at "get"))
local macro_rules | `(tactic| walk_at "rd1") => `(tactic| first
  | (with_reducible refine c_seq ?_)
  | (with_reducible refine c_next ?_)
  | (with_reducible refine c_drop ?_)
  | (with_reducible refine c_ret ?_)
  | (with_reducible refine c_retN ?_)
  | (with_reducible refine c_ifs ?_)
  | (with_reducible refine c_c ?_)
  | (with_reducible refine c_op ?_)
  | (with_reducible refine c_un ?_)
  | (with_reducible refine c_cb ?_)
  | (with_reducible refine c_nil ?_)
  | (with_reducible refine c_cons ?_)
  | (with_reducible refine c_call ?_)
  | (with_reducible refine c_callK ?_)
  | (with_reducible refine c_test ?_)
  | (with_reducible refine c_tB ?_)
  | (with_reducible refine c_and ?_)
  | (with_reducible refine c_or ?_)
  | (with_reducible refine c_not ?_)
  | (with_reducible refine c_andV ?_)
  | (with_reducible refine c_orV ?_)
  | (with_reducible refine c_notV ?_)
  | (with_reducible refine c_if ?_)
  | (with_reducible refine c_chain ?_)
  | (with_reducible refine c_sl ?_)
  | (with_reducible refine c_nop ?_)
  | (with_reducible refine c_part ?_)
  | (with_reducible refine c_lst ?_)
  | (with_reducible refine c_tup ?_)
  | (with_reducible refine c_bl ?_)
  | (with_reducible refine c_blP ?_)
  | (with_reducible refine c_parti ?_)
  | (with_reducible refine c_t ?_)
  | (with_reducible refine c_f ?_)
  | (with_reducible refine g_add_i ?_)
  | (with_reducible refine g_sub_i ?_)
  | (with_reducible refine g_neg ?_)
  | (with_reducible refine g_eq_i ?_)
  | (with_reducible refine g_eq_st ?_)
  | (with_reducible refine g_eq_b ?_)
  | (with_reducible refine g_ne_i ?_)
  | (with_reducible refine g_ne_st ?_)
  | (with_reducible refine g_ne_b ?_)
  | (with_reducible refine g_lt_i ?_)
  | (with_reducible refine g_le_i ?_)
  | (with_reducible refine g_gt_i ?_)
  | (with_reducible refine g_ge_i ?_)
  | (with_reducible refine g_le_s ?_)
  | (with_reducible refine g_in_s ?_)
  | (with_reducible refine g_ni_s ?_)
  | (with_reducible refine c_brk ?_)
  | (with_reducible refine c_cont ?_)
  | (with_reducible refine c_for ?_)
  | (with_reducible refine c_lcW ?_)
  | (with_reducible refine c_iList ?_)
  | (with_reducible refine c_iTup ?_)
  | (with_reducible refine c_iStr ?_)
  | (with_reducible refine c_iRng1 ?_)
  | (with_reducible refine c_iS ?_)
  | (with_reducible refine c_yes ?_)
  | (with_reducible refine c_sub ?_)
  | (with_reducible refine c_pair ?_)
  | (with_reducible refine c_pnil ?_)
  | (with_reducible refine c_var0 ?_)
  | (with_reducible refine c_asg0 ?_)
  | (with_reducible refine c_nam0 ?_)
  | (with_reducible refine c_var1 ?_)
  | (with_reducible refine c_asg1 ?_)
  | (with_reducible refine c_nam1 ?_)
  | (with_reducible refine c_var2 ?_)
  | (with_reducible refine c_asg2 ?_)
  | (with_reducible refine c_nam2 ?_)
  | (with_reducible refine c_var3 ?_)
  | (with_reducible refine c_asg3 ?_)
  | (with_reducible refine c_nam3 ?_)
  | (with_reducible refine c_var4 ?_)
  | (with_reducible refine c_asg4 ?_)
  | (with_reducible refine c_nam4 ?_)
  | (with_reducible refine c_var5 ?_)
  | (with_reducible refine c_asg5 ?_)
  | (with_reducible refine c_nam5 ?_)
  | (with_reducible refine c_var6 ?_)
  | (with_reducible refine c_asg6 ?_)
  | (with_reducible refine c_nam6 ?_)
  | (with_reducible refine c_var7 ?_)
  | (with_reducible refine c_asg7 ?_)
  | (with_reducible refine c_nam7 ?_)
  | (with_reducible refine c_var8 ?_)
  | (with_reducible refine c_asg8 ?_)
  | (with_reducible refine c_nam8 ?_)
  | (with_reducible refine c_var9 ?_)
  | (with_reducible refine c_asg9 ?_)
  | (with_reducible refine c_nam9 ?_)
  | (with_reducible refine c_var10 ?_)
  | (with_reducible refine c_asg10 ?_)
  | (with_reducible refine c_nam10 ?_)
  | (with_reducible refine c_var11 ?_)
  | (with_reducible refine c_asg11 ?_)
  | (with_reducible refine c_nam11 ?_)
  | (with_reducible refine c_var12 ?_)
  | (with_reducible refine c_asg12 ?_)
  | (with_reducible refine c_nam12 ?_)
  | (with_reducible refine c_var13 ?_)
  | (with_reducible refine c_asg13 ?_)
  | (with_reducible refine c_nam13 ?_)
  | (with_reducible refine c_var14 ?_)
  | (with_reducible refine c_asg14 ?_)
  | (with_reducible refine c_nam14 ?_)
  | (with_reducible refine c_var15 ?_)
  | (with_reducible refine c_asg15 ?_)
  | (with_reducible refine c_nam15 ?_)
  | (with_reducible refine c_asgG ?_)
  | ((with_reducible refine g_ix_l (xs := ?gxa) (v := ?gxb) ?gx1 ?gx2 ?gx3); (case gx1 => walk_at "get"); (case gx2 => rfl))
  | ((with_reducible refine g_len_l (xs := ?gxa) (.inl ?gx1) ?gx3); (case gx1 => walk_at "get"))
  | ((with_reducible refine g_mod_i ?gx1 ?gx3); (case gx1 => omega)))
local macro_rules | `(tactic| walk_at "rd") => `(tactic| repeat walk_at "rd1")
section
variable {P : Program} {w : World} {K : PySem.W.Frag} {mg : Str → Option Value} {base : Heap}
theorem rd__law_take {vs : List V} {H : Hp} {Q : VK} {E : XK} (h : sp_take0 vs H Q E) : t__law_take K { nx := fun _ H' => Q .non H', rt := Q } (start ["draw", "size", "cells", "at", "cell"] vs) H := by
  obtain ⟨d, c, size, a, b, ns, rfl, hd, hc, ne, hns, b0, b1, s0, s1, q⟩ := h
  show t__law_take K _ [some (.ref d), some (.int size), none, none, none] H
  have hl : 0 < ns.length := List.length_pos_iff.mpr hns
  unfold t__law_take
  walk_at "rd"
  refine g_mod_i (by rw [List.length_map]; omega) ?_
  walk_at "rd"
  have hm0 : 0 ≤ a % ((ns.map V.int).length : Int) := Int.emod_nonneg _ (by rw [List.length_map]; omega)
  have hm1 : a % ((ns.map V.int).length : Int) < ((ns.map V.int).length : Int) := Int.emod_lt_of_pos _ (by rw [List.length_map]; omega)
  obtain ⟨k, v, ek, hk, -, hv⟩ := atI_in hm0 hm1
  obtain ⟨m, hm, rfl⟩ : ∃ m, ns[k]? = some m ∧ V.int m = v := by
    rw [List.getElem?_map] at hk
    cases e : ns[k]? with
    | none => rw [e] at hk; cases hk
    | some m => rw [e] at hk; exact ⟨m, rfl, Option.some.inj hk⟩
  refine g_ix_l (by walk_at "get") hv ?_
  walk_at "rd"
  refine g_pow_i (by refine ⟨by omega, by omega, by decide⟩) ?_
  walk_at "rd"
  have hkl : k < (ns.map V.int).length := by omega
  refine c_d (fun hbig => ?_) (fun hsm => ?_)
  · walk_at "rd"
    have hw : CDivW m size := wide_div (b := 65) s0 (by omega) (by omega) (by omega)
    refine g_fdiv_i hw ?_
    walk_at "rd"
    refine g_set (j := k) (by walk_at "get") (by rw [ek]; exact ixN_in hkl) (fun H1 e1 h1 => ?_)
    walk_at "rd"
    refine q _ H1 a b (ns.set k (m / size)) (Int.emod_nonneg _ (by omega)) (Int.emod_lt_of_pos _ s0) (e1 _ _ ne hd) b0 b1 (by rw [h1, List.map_set]) (by intro e; apply hns; rw [← List.length_eq_zero_iff] at e ⊢; rw [List.length_set] at e; exact e) (fun x o _ h2 h3 => e1 _ _ h2 h3)
  · walk_at "rd"
    refine g_set (j := 1) (by walk_at "get") rfl (fun H1 e1 h1 => ?_)
    walk_at "rd"
    refine g_mul_i (wide_mul (a := 40) (b := 40) (by omega) (by omega) (by omega) (by omega) (by omega)) ?_
    walk_at "rd"
    refine g_set (j := 2) h1 rfl (fun H2 e2 h2 => ?_)
    walk_at "rd"
    have b0' := Int.emod_nonneg (b * 48271 + m + 12345) (b := 2147483647) (by omega)
    have b1' := Int.emod_lt_of_pos (b * 48271 + m + 12345) (b := 2147483647) (by omega)
    refine g_mul_i (wide_mul (a := 40) (b := 40) (by omega) (by omega) (by omega) (by omega) (by omega)) ?_
    walk_at "rd"
    refine g_fdiv_i (wide_div (b := 30) (by omega) (by omega) (by omega) (by omega)) ?_
    walk_at "rd"
    refine q _ H2 (a + 1) _ ns (Int.emod_nonneg _ (by omega)) (Int.emod_lt_of_pos _ s0) h2 b0' b1' (e2 _ _ (Ne.symm ne) (e1 _ _ (Ne.symm ne) hc)) hns (fun x o h3 _ h4 => e2 _ _ h3 (e1 _ _ h3 h4))
theorem rd__law_begin {vs : List V} {H : Hp} {Q : VK} {E : XK} (h : sp_begin0 K vs H Q E) : t__law_begin K { nx := fun _ H' => Q .non H', rt := Q } (start ["script", "cells", "cell"] vs) H := by
  obtain ⟨a, ns, rfl, hS, hl, q⟩ := h
  show t__law_begin K _ [some (.ref a), none, none] H
  unfold t__law_begin
  walk_at "rd"
  refine g_sl_l hS (fun r H1 nr e1 h1 => ?_)
  refine c_iL (sq_l h1) ?_
  refine c_lc walk_list (fun i acc => ∃ ms : List Int, acc = ms.map V.int) (σ0 := [some (.ref a), none, none]) rfl ?_ ⟨[], rfl⟩ (fun H' e => ex_l e (sq_l h1)) ?_ ?_
  · have := cutV_length (ns.map V.int) none (some 63)
    rw [List.length_map] at this
    omega
  · intro i acc x H2 H3 Q1 Q0 hi ⟨ms, hms⟩ e2 ⟨e3, hx⟩ k1 k0
    subst e3
    obtain ⟨n, -, rfl⟩ := List.mem_map.mp (cutV_mem (List.mem_of_getElem? hx))
    walk_at "rd"
    refine ⟨rfl, ?_⟩
    walk_at "rd"
    exact ⟨n, rfl, k1 _ _ (Ex.refl _) ⟨ms ++ [if n < 0 then -n else n], by rw [hms, List.map_append]; rfl⟩⟩
  · intro D H2 xs nD e2 ⟨ms, hms⟩ _ hD
    subst hms
    walk_at "rd"
    refine c_lstE (by simp) (fun p H3 n3 e3 h3 => ?_)
    refine g_eq_e (sq_l (e3 _ _ hD)) (sq_l h3) (ok_int ms) ?_
    walk_at "rd"
    have nDH : H D = none := fresh_back e1 nD
    refine c_d (fun hn => ?_) (fun hn => ?_)
    · walk_at "rd"
      refine c_lstE (by simp) (fun p4 H4 n4 e4 h4 => ?_)
      walk_at "rd"
      refine c_lstE (by simp) (fun p5 H5 n5 e5 h5 => ?_)
      have np4 : H p4 = none := fresh_back (e1.trans (e2.trans e3)) n4
      have np5 : H p5 = none := fresh_back (e1.trans (e2.trans (e3.trans e4))) n5
      exact q p5 p4 H5 [7] np5 np4 (Ne.symm (ne_of_none h4 n5)) (e1.trans (e2.trans (e3.trans (e4.trans e5)))) h5 (e5 _ _ h4) (by simp)
    · walk_at "rd"
      refine c_lstE (by simp) (fun p5 H5 n5 e5 h5 => ?_)
      have np5 : H p5 = none := fresh_back (e1.trans (e2.trans e3)) n5
      exact q p5 D H5 ms np5 nDH (Ne.symm (ne_of_none (e3 _ _ hD) n5)) (e1.trans (e2.trans (e3.trans e5))) h5 (e5 _ _ (e3 _ _ hD)) (fun e => hn (by rw [e]; rfl))
theorem rd__law_pick {vs : List V} {H : Hp} {Q : VK} {E : XK} (h : sp__law_pick K vs H Q E) : t__law_pick K { nx := fun _ H' => Q .non H', rt := Q } (start ["draw", "some"] vs) H := by
  obtain ⟨d, x, rfl, hD, h⟩ := h
  show t__law_pick K _ [some (.ref d), some x] H
  unfold t__law_pick
  rcases h with ⟨p, xs, rfl, hp, h0, h1, q⟩ | ⟨z, rfl, h0, h1, q⟩
  · have hl : 0 < xs.length := List.length_pos_iff.mpr h0
    walk_at "rd"
    refine c_take (by walk_at "get") (by omega) (by omega) (fun n H1 n0 n1 e1 => ?_)
    obtain ⟨k, v, rfl, hk, hm, hv⟩ := atI_in n0 n1
    refine g_ix_l (ex_l e1 hp) hv ?_
    exact q v H1 hm e1
  · walk_at "rd"
    refine g_len_s h1 ?_
    walk_at "rd"
    refine c_take (by walk_at "get") (by omega) (by omega) (fun n H1 n0 n1 e1 => ?_)
    obtain ⟨k, v, rfl, hk, hm, hv⟩ := atI_in (xs := z.cps.toList) n0 (by rw [len_tl]; exact n1)
    refine g_ix_s h1 hv ?_
    exact q v H1 hm e1
theorem lt_a (c : Nat) : decide ([c] < ("a" : Str).cps.toList) = decide (c < 97) := by
  have e : ("a" : Str).cps.toList = [97] := by decide +kernel
  rw [e, decide_eq_decide]
  simp [List.cons_lt_cons_iff]
theorem lt_z (c : Nat) : decide (("z" : Str).cps.toList < [c]) = decide (122 < c) := by
  have e : ("z" : Str).cps.toList = [122] := by decide +kernel
  rw [e, decide_eq_decide]
  simp [List.cons_lt_cons_iff]
theorem rd_is_small_letter {vs : List V} {H : Hp} {Q : VK} {E : XK} (h : sp_is_small_letter K vs H Q E) : t_is_small_letter K { nx := fun _ H' => Q .non H', rt := Q } (start ["sign"] vs) H := by
  obtain ⟨c, rfl, q⟩ := h
  show t_is_small_letter K _ [some (.str ⟨#[c]⟩)] H
  unfold t_is_small_letter
  walk_at "rd"
  rw [show (⟨#[c]⟩ : Str).cps.toList = [c] from rfl, lt_a]
  refine c_nd (fun h1 => ?_) (fun h1 => ?_)
  · walk_at "rd"
    rw [show (⟨#[c]⟩ : Str).cps.toList = [c] from rfl, lt_z]
    have e : (!decide (122 < c)) = isLet c := by unfold isLet; rw [Bool.eq_iff_iff]; simp; omega
    rw [e]
    exact q H (Ex.refl H)
  · have e : isLet c = false := by unfold isLet; simp; omega
    have := q H (Ex.refl H)
    rw [e] at this
    exact this
theorem all_mapid {α : Type} (f : α → Bool) (l : List α) : (l.map f).all id = l.all f := by
  rw [List.all_map]; rfl
theorem rd_is_name {T : Addr} {vs : List V} {H : Hp} {Q : VK} {E : XK} (hT : ∀ H, SqT K H T (taken.map V.str)) (h : sp_is_name K vs H Q E) : t_is_name K (.int 8) (.ref T) { nx := fun _ H' => Q .non H', rt := Q } (start ["thing", "sign"] vs) H := by
  obtain ⟨x, rfl, hx, q⟩ := h
  show t_is_name K _ _ _ [some x, none] H
  unfold t_is_name
  walk_at "rd"
  refine g_isi_str hx ?_
  walk_at "rd"
  cases hs : isStr x with
  | false =>
    show if (!false) = true then _ else _
    refine c_2 (fun _ => ?_) (fun h => (by cases h))
    walk_at "rd"
    have e : isNm x = false := by
      cases x with
      | str z => cases hs
      | _ => rfl
    have := q H (Ex.refl H)
    rw [e] at this
    exact this
  | true =>
    obtain ⟨z, rfl⟩ : ∃ z, x = .str z := by
      cases x with
      | str z => exact ⟨z, rfl⟩
      | _ => cases hs
    have hz : z.length ≤ 1000 := hx.1
    have no : ∀ {b : Bool}, nameS z = b → Q (.bl b) H := fun {b} e => by
      have := q H (Ex.refl H)
      rw [show isNm (.str z) = b from e] at this
      exact this
    refine c_2 (fun h => (by cases h)) (fun _ => ?_)
    walk_at "rd"
    refine g_len_s (z := z) (by omega) ?_
    walk_at "rd"
    refine c_d (fun h1 => ?_) (fun h1 => ?_)
    · walk_at "rd"
      refine c_nd (fun h2 => ?_) (fun h2 => ?_)
      · walk_at "rd"
        refine no ?_
        unfold nameS
        rw [decide_eq_false (by omega)]; rfl
      · walk_at "rd"
        refine g_ni_l (.inr (hT H)) rfl (flat_str taken) ?_
        rw [inV_strs]
        walk_at "rd"
        refine c_nd (fun h3 => ?_) (fun h3 => ?_)
        · walk_at "rd"
          refine c_lc walk_str (fun i acc => acc = ((z.cps.toList.take i).map isLet).map V.bl) (σ0 := [some (.str z), none]) rfl (by rw [show z.cps.size = z.length from rfl]; omega) rfl (fun _ _ => trivial) ?_ ?_
          · intro i acc x H2 H3 Q1 Q0 hi hacc e2 hy k1 k0
            obtain ⟨e3, c, hc, rfl⟩ := hy
            subst e3
            walk_at "rd"
            refine ⟨rfl, ?_⟩
            walk_at "rd"
            refine c_issmall (fun H4 e4 => k1 _ _ e4 ?_)
            have hc' : z.cps.toList[i]? = some c := by rw [Array.getElem?_toList]; exact hc
            rw [hacc, List.take_add_one, hc', List.map_append, List.map_append]; rfl
          · intro D H2 xs nD e2 hxs _ hD
            rw [List.take_of_length_le (by rw [len_tl]; exact Nat.le_refl _)] at hxs
            subst hxs
            walk_at "rd"
            refine g_all (sq_l hD) ?_
            rw [all_mapid]
            have := q H2 e2
            rw [show isNm (.str z) = z.cps.toList.all isLet by
              show nameS z = _
              unfold nameS
              rw [decide_eq_true (show 1 ≤ z.length ∧ z.length ≤ 8 by omega), decide_eq_true h3]; simp] at this
            exact this
        · refine no ?_
          unfold nameS
          rw [decide_eq_false (show ¬ z ∉ taken from fun h => h h3)]; simp
    · walk_at "rd"
      refine no ?_
      unfold nameS
      rw [decide_eq_false (by omega)]; rfl
theorem own_names : ∀ z ∈ (["lot", "held", "back", "by", "in", "all", "some", "none", "rule", "told", "rank", "nots", "a", "z", "maybe"] : List Str), nameS z = true := by decide +kernel
theorem taken_cut : ∀ z ∈ taken, nameS (cutS z none (some (-1))) = true := by decide +kernel
theorem rd__law_word {vs : List V} {H : Hp} {Q : VK} {E : XK} (h : sp__law_word K vs H Q E) : t__law_word K { nx := fun _ H' => Q .non H', rt := Q } (start ["draw", "own", "word", "k"] vs) H := by
  obtain ⟨d, rfl, hD, q⟩ := h
  show t__law_word K _ [some (.ref d), none, none, none] H
  unfold t__law_word
  walk_at "rd"
  refine c_lstE (by simp) (fun p H1 n1 e1 h1 => ?_)
  walk_at "rd"
  refine c_take (by walk_at "get") (by omega) (by omega) (fun n H2 n0 n1 e2 => ?_)
  walk_at "rd"
  refine c_d (fun _ => ?_) (fun _ => ?_)
  · walk_at "rd"
    refine c_pickL (by walk_at "get") (sq_l (e2 _ _ h1)) (by simp) (by simp) (fun v H3 hv e3 => ?_)
    have hv' : v ∈ (["lot", "held", "back", "by", "in", "all", "some", "none", "rule", "told", "rank", "nots", "a", "z", "maybe"] : List Str).map V.str := hv
    obtain ⟨z, hz, rfl⟩ := List.mem_map.mp hv'
    exact q z H3 (own_names z hz) (e1.trans (e2.trans e3))
  · walk_at "rd"
    refine c_take (by walk_at "get") (by omega) (by omega) (fun n H3 n0 n1 e3 => ?_)
    walk_at "rd"
    refine c_iR1 (by omega) (by omega) ?_
    refine for_it walk_range (fun i σ H' => Ex H3 H' ∧ ∃ (z : Str) (y : Option V), σ = [some (.ref d), some (.ref p), some (.str z), y] ∧ z.length = i ∧ ∀ c ∈ z.cps.toList, isLet c = true) ⟨Ex.refl _, "", none, rfl, rfl, by decide +kernel⟩ (fun _ _ _ _ _ => trivial) ?_ ?_
    · rintro i x σ H4 H5 hi ⟨e4, z, y, rfl, hz, hc⟩ ⟨rfl, rfl⟩
      walk_at "rd"
      refine c_take (by walk_at "get") (by omega) (by omega) (fun m H6 m0 m1 e6 => ?_)
      have hl : abcS.cps.toList.length = 26 := by decide +kernel
      obtain ⟨k, c, rfl, hk, hm, hv⟩ := atI_in (xs := abcS.cps.toList) m0 (by rw [hl]; exact m1)
      refine g_ix_s (z := abcS) (by decide +kernel) hv ?_
      refine g_add_s (by rw [hz, len_sgn]; omega) ?_
      walk_at "rd"
      refine ⟨e4.trans e6, _, _, rfl, by rw [len_app, hz, len_sgn], fun c' hc' => ?_⟩
      rw [show (z ++ ⟨#[c]⟩ : Str).cps.toList = z.cps.toList ++ [c] from TL.tl_append z _] at hc'
      rcases List.mem_append.mp hc' with h | h
      · exact hc c' h
      · rw [List.mem_singleton.mp h]; exact (mem_abc c).mp hm
    · rintro σ H4 ⟨e4, z, y, rfl, hz, hc⟩
      walk_at "rd"
      refine c_lstE (by simp) (fun p5 H5 n5 e5 h5 => ?_)
      refine g_in_l (xs := taken.map V.str) (.inl (sq_l h5)) rfl (flat_str taken) ?_
      rw [inV_strs]
      walk_at "rd"
      refine c_d (fun h => ?_) (fun h => ?_)
      · walk_at "rd"
        refine g_sl_s (by omega) ?_
        exact q _ H5 (taken_cut z h) (e1.trans (e2.trans (e3.trans (e4.trans e5))))
      · walk_at "rd"
        exact q _ H5 ((nameS_iff z).mpr ⟨by omega, h, hc⟩) (e1.trans (e2.trans (e3.trans (e4.trans e5))))
theorem thing_s {H : Hp} {z : Str} (h1 : z.length ≤ 1000) (h2 : okS z) : Thing H (.str z) := ⟨h1, h2⟩
theorem cut_len {z : Str} {lo hi : Option Int} (h : z.length ≤ 1000) : (cutS z lo hi).length ≤ 1000 := Nat.le_trans (cutS_length z lo hi) h
theorem okS_c (z : Str) (h : PyData.strOk z = true) : okS z := (okS_iff z).mp h
theorem first_of {z : Str} (h : z ∈ taken) : ∃ c, atI z.cps.toList 0 = some c ∧ c ∈ z.cps.toList := by
  have : ∀ z ∈ taken, 0 < z.cps.toList.length := by decide +kernel
  obtain ⟨k, v, e, h1, h2, h3⟩ := atI_in (xs := z.cps.toList) (i := 0) (by omega) (by have := this z h; omega)
  exact ⟨v, h3, h2⟩
theorem rd__law_thing {vs : List V} {H : Hp} {Q : VK} {E : XK} (h : sp__law_thing K vs H Q E) : t__law_thing K { nx := fun _ H' => Q .non H', rt := Q } (start ["draw", "way", "word", "kept", "at", "k"] vs) H := by
  obtain ⟨d, rfl, hD, q⟩ := h
  show t__law_thing K _ [some (.ref d), none, none, none, none, none] H
  unfold t__law_thing
  walk_at "rd"
  refine c_take (by walk_at "get") (by omega) (by omega) (fun way H1 w0 w1 e1 => ?_)
  walk_at "rd"
  refine c_word (by walk_at "get") (fun word H2 hw e2 => ?_)
  have hwl := nameS_len hw
  have hwo := nameS_ok hw
  walk_at "rd"
  refine c_d (fun _ => ?_) (fun _ => ?_)
  · walk_at "rd"
    refine ⟨⟨_, rfl⟩, ?_⟩
    walk_at "rd"
    refine c_take (by walk_at "get") (by omega) (by omega) (fun n H3 n0 n1 e3 => ?_)
    walk_at "rd"
    refine c_iR1 (by omega) (by omega) ?_
    refine c_lc walk_range (fun i acc => ∃ ys : List Str, acc = ys.map V.str ∧ ys.length = i ∧ ∀ y ∈ ys, ∃ c, y = ⟨#[c]⟩ ∧ isLet c = true) (σ0 := [some (.ref d), some (.int way), some (.str word), none, none, none]) rfl (by omega) ⟨[], rfl, rfl, by simp⟩ (fun _ _ => trivial) ?_ ?_
    · intro i acc x H4 H5 Q1 Q0 hi ⟨ys, hys, hl, hc⟩ e4 ⟨e5, ex⟩ k1 k0
      subst e5
      walk_at "rd"
      refine ⟨rfl, ?_⟩
      walk_at "rd"
      refine c_pickS (z := abcS) (by walk_at "get") (by decide +kernel) (by decide +kernel) (fun c H6 hm e6 => ?_)
      refine k1 _ _ e6 ⟨ys ++ [⟨#[c]⟩], by rw [hys, List.map_append]; rfl, by simp [hl], fun y hy => ?_⟩
      rcases List.mem_append.mp hy with h | h
      · exact hc y h
      · exact ⟨c, List.mem_singleton.mp h, (mem_abc c).mp hm⟩
    · intro D H4 xs nD e4 ⟨ys, hys, hl, hc⟩ _ hD
      subst hys
      have hsum : (ys.map (·.length)).sum = ys.length := by
        rename_i hlen
        clear hl hD nD hlen
        induction ys with
        | nil => rfl
        | cons y ys ih =>
          obtain ⟨c, rfl, -⟩ := hc y (List.mem_cons_self ..)
          rw [List.map_cons, List.sum_cons, ih (fun y hy => hc y (List.mem_cons_of_mem _ hy)), List.length_cons, len_sgn]; omega
      have hjl : ∀ ys : List Str, (∀ y ∈ ys, ∃ c, y = ⟨#[c]⟩ ∧ isLet c = true) → (Txt.join ("" : Str) ys).cps.toList.length = ys.length ∧ ∀ c ∈ (Txt.join ("" : Str) ys).cps.toList, isLet c = true := by
        intro ys
        rw [join_flat]
        induction ys with
        | nil => intro _; exact ⟨rfl, by simp⟩
        | cons y ys ih =>
          intro hc
          obtain ⟨c, rfl, hl⟩ := hc y (List.mem_cons_self ..)
          obtain ⟨i1, i2⟩ := ih (fun y hy => hc y (List.mem_cons_of_mem _ hy))
          rw [List.map_cons, List.flatten_cons]
          refine ⟨by rw [List.length_append, i1, show (⟨#[c]⟩ : Str).cps.toList.length = 1 from rfl]; simp only [List.length_cons]; omega, fun c' hc' => ?_⟩
          rcases List.mem_append.mp hc' with h | h
          · rw [List.mem_singleton.mp (show c' ∈ [c] from h)]; exact hl
          · exact i2 c' h
      refine ⟨"", D, ys, rfl, rfl, .inl (sq_l hD), by rw [hsum, show ("" : Str).length = 0 by decide +kernel]; omega, ?_⟩
      obtain ⟨j1, j2⟩ := hjl ys hc
      refine q _ _ (thing_s ?_ (okS_let j2)) (e1.trans (e2.trans (e3.trans e4)))
      rw [← len_tl, j1]; omega
  · walk_at "rd"
    refine c_d (fun _ => ?_) (fun _ => ?_)
    · walk_at "rd"
      refine c_lstE (by simp) (fun p H3 n3 e3 h3 => ?_)
      walk_at "rd"
      refine c_pickL (by walk_at "get") (sq_l h3) (by simp) (by simp) (fun v H4 hv e4 => ?_)
      obtain ⟨z, hz, rfl⟩ := List.mem_map.mp (show v ∈ taken.map V.str from hv)
      obtain ⟨c, hc1, hc2⟩ := first_of hz
      have hzl : z.length ≤ 5 := by
        have : ∀ z ∈ taken, z.length ≤ 5 := by decide +kernel
        exact this z hz
      have hzo : okS z := by
        have : ∀ z ∈ taken, PyData.strOk z = true := by decide +kernel
        exact okS_c z (this z hz)
      have hco : okS ⟨#[c]⟩ := okS_sgn hzo hc2
      walk_at "rd"
      refine g_sl_s (by omega) ?_
      walk_at "rd"
      refine g_ix_s (by omega) hc1 ?_
      refine g_add_s (by rw [len_sgn]; omega) ?_
      walk_at "rd"
      refine g_ix_s (by omega) hc1 ?_
      walk_at "rd"
      refine g_add_s (by rw [len_sgn]; omega) ?_
      walk_at "rd"
      refine c_lstE (by simp) (fun p5 H5 n5 e5 h5 => ?_)
      walk_at "rd"
      refine c_take (by walk_at "get") (by omega) (by omega) (fun n H6 n0 n1 e6 => ?_)
      obtain ⟨k, v, rfl, hk, hm, hv⟩ := atI_in (xs := [V.str z, V.str (cutS z none (some (-1))), V.str (z ++ ⟨#[c]⟩), V.str (⟨#[c]⟩ ++ z)]) n0 n1
      refine g_ix_l (sq_l (e6 _ _ h5)) hv ?_
      refine q _ _ ?_ (e1.trans (e2.trans (e3.trans (e4.trans (e5.trans e6)))))
      simp only [List.mem_cons, List.not_mem_nil, or_false] at hm
      rcases hm with rfl | rfl | rfl | rfl
      · exact thing_s (by omega) hzo
      · exact thing_s (cut_len (by omega)) (okS_cut hzo)
      · exact thing_s (by rw [len_app, len_sgn]; omega) (okS_app hzo hco)
      · exact thing_s (by rw [len_app, len_sgn]; omega) (okS_app hco hzo)
    · walk_at "rd"
      refine c_d (fun _ => ?_) (fun _ => ?_)
      · walk_at "rd"
        refine g_len_s (by omega) ?_
        walk_at "rd"
        refine c_take (by walk_at "get") (by omega) (by omega) (fun n H3 n0 n1 e3 => ?_)
        walk_at "rd"
        refine g_sl_s (by omega) ?_
        walk_at "rd"
        refine c_pickS (by walk_at "get") (by decide +kernel) (by decide +kernel) (fun c H4 hm e4 => ?_)
        have hco : okS ⟨#[c]⟩ := okS_sgn (okS_c _ (by decide +kernel)) hm
        have hl1 := cutS_length word none (some n)
        have hl2 := cutS_length word (some n) none
        refine g_add_s (by rw [len_sgn]; omega) ?_
        walk_at "rd"
        refine g_sl_s (by omega) ?_
        refine g_add_s (by rw [len_app, len_sgn]; omega) ?_
        exact q _ _ (thing_s (by rw [len_app, len_app, len_sgn]; omega) (okS_app (okS_app (okS_cut hwo) hco) (okS_cut hwo))) (e1.trans (e2.trans (e3.trans e4)))
      · walk_at "rd"
        refine c_d (fun _ => ?_) (fun _ => ?_)
        · walk_at "rd"
          refine c_lstE (by simp) (fun p3 H3 n3 e3 h3 => ?_)
          walk_at "rd"
          refine c_tupE (by simp) (fun p4 H4 n4 e4 h4 => ?_)
          walk_at "rd"
          refine c_disp (fun p5 H5 n5 e5 h5 => ?_)
          walk_at "rd"
          refine c_dk1s n5 e5 h5 (fun H6 e6 h6 => ?_)
          walk_at "rd"
          refine c_lstE (by simp) (fun p7 H7 n7 e7 h7 => ?_)
          walk_at "rd"
          refine c_tupE (by simp) (fun p8 H8 n8 e8 h8 => ?_)
          walk_at "rd"
          refine c_lstE (by simp) (fun p9 H9 n9 e9 h9 => ?_)
          walk_at "rd"
          refine c_pickL (by walk_at "get") (sq_l h9) (by simp) (by simp) (fun v H10 hv e10 => ?_)
          have t89 := e8.trans (e9.trans e10)
          have t79 := e7.trans t89
          have t69 := e6.trans t79
          have t49 := e4.trans t69
          refine q _ _ ?_ (e1.trans (e2.trans (e3.trans t49)))
          simp only [List.mem_cons, List.not_mem_nil, or_false] at hv
          rcases hv with rfl | rfl | rfl | rfl | rfl | rfl | rfl | rfl | rfl | rfl
          · exact trivial
          · exact trivial
          · exact trivial
          · exact trivial
          · exact trivial
          · exact .inl ⟨_, t49 _ _ h3⟩
          · exact .inr (.inl ⟨_, t69 _ _ h4⟩)
          · exact .inr (.inr ⟨_, t79 _ _ h6⟩)
          · exact .inl ⟨_, t89 _ _ h7⟩
          · exact .inr (.inl ⟨_, (e9.trans e10) _ _ h8⟩)
        · walk_at "rd"
          exact q _ _ (thing_s (by omega) hwo) (e1.trans e2)
theorem thing_bl {H : Hp} {b : Bool} : Thing H (.bl b) := trivial
theorem rd__law_due {vs : List V} {H : Hp} {Q : VK} {E : XK} (h : sp__law_due K vs H Q E) : t__law_due K { nx := fun _ H' => Q .non H', rt := Q } (start ["some_one", "odd", "sign"] vs) H := by
  obtain ⟨x, rfl, hx, q⟩ := h
  show t__law_due K _ [some x, none, none] H
  unfold t__law_due
  walk_at "rd"
  refine g_isi_str hx ?_
  walk_at "rd"
  cases hs : isStr x with
  | false =>
    refine c_2 (fun _ => ?_) (fun h => (by cases h))
    walk_at "rd"
    have e : isNm x = false := by
      cases x with
      | str z => cases hs
      | _ => rfl
    have := q H (Ex.refl H)
    rw [e] at this
    exact this
  | true =>
    obtain ⟨z, rfl⟩ : ∃ z, x = .str z := by
      cases x with
      | str z => exact ⟨z, rfl⟩
      | _ => cases hs
    have hz : z.length ≤ 1000 := hx.1
    have ho : okS z := hx.2
    have no : ∀ {b : Bool} {H'}, Ex H H' → nameS z = b → Q (.bl b) H' := fun {b H'} e1 e => by
      have := q H' e1
      rw [show isNm (.str z) = b from e] at this
      exact this
    refine c_2 (fun h => (by cases h)) (fun _ => ?_)
    walk_at "rd"
    refine c_lstE (by simp) (fun p H1 n1 e1 h1 => ?_)
    refine g_in_l (xs := taken.map V.str) (.inl (sq_l h1)) rfl (flat_str taken) ?_
    rw [inV_strs]
    walk_at "rd"
    refine c_d (fun h => ?_) (fun h => ?_)
    · walk_at "rd"
      refine no e1 ?_
      unfold nameS
      rw [decide_eq_false (show ¬ z ∉ taken from fun k => k h)]; simp
    · walk_at "rd"
      refine c_lc walk_str (fun i acc => acc = ((z.cps.toList.take i).filter (fun c => !isLet c)).map (fun c => V.str ⟨#[c]⟩)) (σ0 := [some (.str z), none, none]) rfl (by rw [show z.cps.size = z.length from rfl]; omega) rfl (fun _ _ => trivial) ?_ ?_
      · intro i acc x H2 H3 Q1 Q0 hi hacc e2 hy k1 k0
        obtain ⟨e3, c, hc, rfl⟩ := hy
        subst e3
        have hc' : z.cps.toList[i]? = some c := by rw [Array.getElem?_toList]; exact hc
        walk_at "rd"
        refine ⟨rfl, ?_⟩
        walk_at "rd"
        have e : decide (c ∈ (Str.ofString "abcdefghijklmnopqrstuvwxyz").cps.toList) = isLet c := by
          rw [Bool.eq_iff_iff, decide_eq_true_iff]; exact mem_abc c
        rw [e]
        cases hl : isLet c with
        | true =>
          walk_at "rd"
          refine c_f (k0 _ (Ex.refl _) ?_)
          rw [hacc, List.take_add_one, hc', List.filter_append, List.map_append]
          simp [hl]
        | false =>
          refine c_t ?_
          walk_at "rd"
          refine k1 _ _ (Ex.refl _) ?_
          rw [hacc, List.take_add_one, hc', List.filter_append, List.map_append]
          simp [hl]
      · intro D H2 xs nD e2 hxs _ hD
        rw [List.take_of_length_le (by rw [len_tl]; exact Nat.le_refl _)] at hxs
        subst hxs
        walk_at "rd"
        refine c_lstE (by simp) (fun p5 H5 n5 e5 h5 => ?_)
        refine g_eq_e (sq_l (e5 _ _ hD)) (sq_l h5) ?_ ?_
        · rw [List.all_map, List.all_eq_true]
          intro c hc
          exact (okS_iff _).mpr (okS_sgn ho (List.mem_filter.mp hc |>.1))
        · have e : decide ((z.cps.toList.filter (fun c => !isLet c)).map (fun c => V.str ⟨#[c]⟩) = []) = z.cps.toList.all isLet := by
            rw [Bool.eq_iff_iff, decide_eq_true_iff, List.map_eq_nil_iff, List.filter_eq_nil_iff, List.all_eq_true]
            constructor
            · intro h c hc; have := h c hc; simpa using this
            · intro h c hc; rw [h c hc]; simp
          rw [e]
          have t5 := e1.trans (e2.trans e5)
          walk_at "rd"
          cases hl : z.cps.toList.all isLet with
          | false =>
            refine c_f ?_
            refine no t5 ?_
            unfold nameS
            rw [hl]; simp
          | true =>
            refine c_t ?_
            walk_at "rd"
            refine g_len_s (z := z) (by omega) ?_
            walk_at "rd"
            refine c_d (fun h9 => ?_) (fun h9 => ?_)
            · walk_at "rd"
              refine no t5 ?_
              unfold nameS
              rw [hl, decide_eq_true h, Bool.and_true, Bool.and_true, decide_eq_decide]
              omega
            · refine no t5 ?_
              unfold nameS
              rw [decide_eq_false (by omega)]; rfl
theorem rd_law {vs : List V} {H : Hp} {Q : VK} {E : XK} (h : sp_law K vs H Q E) : t_law K { nx := fun _ H' => Q .non H', rt := Q } (start ["script", "draw", "turn", "some_one", "found"] vs) H := by
  obtain ⟨a, ns, rfl, hS, hl, q⟩ := h
  show t_law K _ [some (.ref a), none, none, none, none] H
  unfold t_law
  walk_at "rd"
  refine ⟨a, ns, rfl, hS, hl, fun d H1 hD e1 => ?_⟩
  walk_at "rd"
  refine c_iR1 (by omega) (by omega) ?_
  refine for_it walk_range (fun i σ H' => Ex H1 H' ∧ ∃ (y1 y2 y3 : Option V), σ = [some (.ref a), some (.ref d), y1, y2, y3]) ⟨Ex.refl _, _, _, _, rfl⟩ (fun _ _ _ _ _ => trivial) ?_ ?_
  · rintro i x σ H2 H3 hi ⟨e2, y1, y2, y3, rfl⟩ ⟨rfl, rfl⟩
    walk_at "rd"
    refine ⟨d, rfl, by walk_at "get", fun x H4 hx e4 => ?_⟩
    walk_at "rd"
    refine c_isname (by walk_at "get") (fun H5 e5 => ?_)
    walk_at "rd"
    refine ⟨x, rfl, by walk_at "get", fun H6 e6 => ?_⟩
    walk_at "rd"
    refine c_lstE (by simp) (fun p7 H7 n7 e7 h7 => ?_)
    refine c_iL (sq_l h7) ?_
    refine for_it walk_list (fun i σ H' => Ex H7 H' ∧ ∃ (yt y : Option V), σ = [some (.ref a), some (.ref d), yt, some x, y]) ⟨Ex.refl _, _, _, rfl⟩ (fun _ _ _ _ h => ex_l h.1 (sq_l h7)) ?_ ?_
    · rintro j y σ H8 H9 hj ⟨e8, yt, y8, rfl⟩ ⟨rfl, hy⟩
      have ey : y = .bl (isNm x) := by
        have := List.mem_of_getElem? hy
        simpa using this
      subst ey
      walk_at "rd"
      refine g_isi_bl thing_bl ?_
      walk_at "rd"
      refine c_f ?_
      walk_at "rd"
      refine ⟨x, rfl, by walk_at "get", fun H10 e10 => ?_⟩
      walk_at "rd"
      refine c_nd (fun h => absurd rfl h) (fun _ => ?_)
      walk_at "rd"
      exact ⟨e8.trans e10, _, _, rfl⟩
    · rintro σ H8 ⟨e8, yt, y8, rfl⟩
      exact ⟨e2.trans (e4.trans (e5.trans (e6.trans (e7.trans e8)))), _, _, _, rfl⟩
  · rintro σ H2 ⟨e2, y1, y2, y3, rfl⟩
    walk_at "rd"
    exact q _

end
end K01

namespace K01
open PySem PySem.Spec PyProof.Rows L2 Evl Gx
local macro_rules | `(tactic| walk_at "len") => `(tactic| first | (rintro ⟨_, hh, _⟩; subst hh; rfl) | (rintro ⟨_, _, hh, _⟩; subst hh; rfl) | (rintro ⟨_, _, _, hh, _⟩; subst hh; rfl) | (rintro ⟨_, _, _, _, hh, _⟩; subst hh; rfl) | (rintro ⟨_, _, _, _, _, hh, _⟩; subst hh; rfl) | (rintro ⟨_, _, _, _, _, _, hh, _⟩; subst hh; rfl) | (rintro ⟨_, _, _, _, _, _, _, hh, _⟩; subst hh; rfl) | (rintro ⟨_, _, _, _, _, _, _, _, hh, _⟩; subst hh; rfl))
section
variable {P : Program} {w : World} {K : PySem.W.Frag} {mg : Str → Option Value} {base : Heap}
theorem ok_is_small_letter {f : Addr} {fd : FuncData} (F : Fun K "is_small_letter" "is_small_letter" s_is_small_letter f fd)  : FnOk P w K mg base CX0 1 f fd ["sign"] (sp_is_small_letter K) :=
  F.ok sc_is_small_letter (fun vs H Q E h => by revert h; walk_at "len") (fun cdv A outer s H vs Q E hr h => ⟨_, d_is_small_letter  hr, rd_is_small_letter h⟩)
theorem ok__law_begin {f : Addr} {fd : FuncData} (F : Fun K "_law_begin" "_law_begin" s__law_begin f fd) (n_abs : mg "abs" = none) : FnOk P w K mg base CX0 1 f fd ["script"] (sp__law_begin K) :=
  begin_view (F.ok sc__law_begin (fun vs H Q E h => by revert h; walk_at "len") (fun cdv A outer s H vs Q E hr h => ⟨_, d__law_begin n_abs hr, rd__law_begin h⟩)) rfl
theorem ok__law_take {f : Addr} {fd : FuncData} (F : Fun K "_law_take" "_law_take" s__law_take f fd) (n_len : mg "len" = none) : FnOk P w K mg base CX0 1 f fd ["draw", "size"] (sp__law_take K) :=
  take_view (F.ok sc__law_take (fun vs H Q E h => by revert h; walk_at "len") (fun cdv A outer s H vs Q E hr h => ⟨_, d__law_take n_len hr, rd__law_take h⟩)) rfl
theorem ok__law_pick {f : Addr} {fd : FuncData} (F : Fun K "_law_pick" "_law_pick" s__law_pick f fd) (C__law_take : Cal P w K mg base CX0 1 "_law_take" ["draw", "size"] [] (sp__law_take K)) (n_len : mg "len" = none) : FnOk P w K mg base CX0 2 f fd ["draw", "some"] (sp__law_pick K) :=
  F.ok sc__law_pick (fun vs H Q E h => by revert h; walk_at "len") (fun cdv A outer s H vs Q E hr h => ⟨_, d__law_pick C__law_take n_len hr, rd__law_pick h⟩)
theorem ok__law_word {f : Addr} {fd : FuncData} (F : Fun K "_law_word" "_law_word" s__law_word f fd) (C__law_pick : Cal P w K mg base CX0 2 "_law_pick" ["draw", "some"] [] (sp__law_pick K)) (C__law_take : Cal P w K mg base CX0 1 "_law_take" ["draw", "size"] [] (sp__law_take K)) (n_range : mg "range" = none) : FnOk P w K mg base CX0 3 f fd ["draw"] (sp__law_word K) :=
  F.ok sc__law_word (fun vs H Q E h => by revert h; walk_at "len") (fun cdv A outer s H vs Q E hr h => ⟨_, d__law_word C__law_pick C__law_take n_range hr, rd__law_word h⟩)
theorem ok__law_thing {f : Addr} {fd : FuncData} (F : Fun K "_law_thing" "_law_thing" s__law_thing f fd) (C__law_pick : Cal P w K mg base CX0 2 "_law_pick" ["draw", "some"] [] (sp__law_pick K)) (C__law_take : Cal P w K mg base CX0 1 "_law_take" ["draw", "size"] [] (sp__law_take K)) (C__law_word : Cal P w K mg base CX0 3 "_law_word" ["draw"] [] (sp__law_word K)) (n_len : mg "len" = none) (n_range : mg "range" = none) : FnOk P w K mg base CX0 4 f fd ["draw"] (sp__law_thing K) :=
  F.ok sc__law_thing (fun vs H Q E h => by revert h; walk_at "len") (fun cdv A outer s H vs Q E hr h => ⟨_, d__law_thing C__law_pick C__law_take C__law_word n_len n_range hr, rd__law_thing h⟩)
theorem ok__law_due {f : Addr} {fd : FuncData} (F : Fun K "_law_due" "_law_due" s__law_due f fd) (n_isinstance : mg "isinstance" = none) (n_len : mg "len" = none) (n_str : mg "str" = none) : FnOk P w K mg base CX0 1 f fd ["some_one"] (sp__law_due K) :=
  F.ok sc__law_due (fun vs H Q E h => by revert h; walk_at "len") (fun cdv A outer s H vs Q E hr h => ⟨_, d__law_due n_isinstance n_len n_str hr, rd__law_due h⟩)
theorem ok_law {f : Addr} {fd : FuncData} (F : Fun K "law" "law" s_law f fd) (C__law_begin : Cal P w K mg base CX0 1 "_law_begin" ["script"] [] (sp__law_begin K)) (C__law_due : Cal P w K mg base CX0 1 "_law_due" ["some_one"] [] (sp__law_due K)) (C__law_thing : Cal P w K mg base CX0 4 "_law_thing" ["draw"] [] (sp__law_thing K)) (C_is_name : Cal P w K mg base CX0 2 "is_name" ["thing"] [] (sp_is_name K)) (C_is_name_k_thing : CalK P w K mg base CX0 2 "is_name" ["thing"] ["thing"] (fun vs zs => vs ++ zs) (sp_is_name K)) (n_bool : mg "bool" = none) (n_isinstance : mg "isinstance" = none) (n_range : mg "range" = none) : FnOk P w K mg base CX0 5 f fd ["script"] (sp_law K) :=
  F.ok sc_law (fun vs H Q E h => by revert h; walk_at "len") (fun cdv A outer s H vs Q E hr h => ⟨_, d_law C__law_begin C__law_due C__law_thing C_is_name C_is_name_k_thing n_bool n_isinstance n_range hr, rd_law h⟩)
theorem ok_is_name {f : Addr} {fd : FuncData} (F : Fun K "is_name" "is_name" s_is_name f fd) (C : Cal P w K mg base CX0 1 "is_small_letter" ["sign"] [] (sp_is_small_letter K)) {t : Tok} {T : Addr} (m1 : mg "LONGEST_NAME" = some (.int 8 t)) (m2 : mg "TAKEN_WORDS" = some (.ref T)) (hT : ∀ H, SqT K H T (taken.map V.str))
    (n1 : mg "all" = none) (n2 : mg "isinstance" = none) (n3 : mg "len" = none) (n4 : mg "str" = none) : FnOk P w K mg base CX0 2 f fd ["thing"] (sp_is_name K) :=
  F.ok sc_is_name (fun vs H Q E h => by revert h; walk_at "len") (fun cdv A outer s H vs Q E hr h => ⟨_, d_is_name (v_LONGEST_NAME := .int 8) (v_TAKEN_WORDS := .ref T) C m1 ⟨t, rfl⟩ m2 rfl n1 n2 n3 n4 hr, rd_is_name hT h⟩)

end
theorem all_mk {l : PySem.W.OpenLaw} {w : World} {K : PySem.W.Frag} {h : Heap} {mg : Str → Option Value} {fa : Addr} (X : K.In h) (G : h.Ns mainGlobals mg) (hfa : mg "law" = some (.ref fa))
    {f_is_small_letter : Addr} {od_is_small_letter an_is_small_letter : Option Addr} {sl_is_small_letter : Array (Option Value)} {oc_is_small_letter kV_is_small_letter dc_is_small_letter pm_is_small_letter cd_is_small_letter ct_is_small_letter : Value}
    {f_is_name : Addr} {od_is_name an_is_name : Option Addr} {sl_is_name : Array (Option Value)} {oc_is_name kV_is_name dc_is_name pm_is_name cd_is_name ct_is_name : Value}
    {f__law_begin : Addr} {od__law_begin an__law_begin : Option Addr} {sl__law_begin : Array (Option Value)} {oc__law_begin kV__law_begin dc__law_begin pm__law_begin cd__law_begin ct__law_begin : Value}
    {f__law_take : Addr} {od__law_take an__law_take : Option Addr} {sl__law_take : Array (Option Value)} {oc__law_take kV__law_take dc__law_take pm__law_take cd__law_take ct__law_take : Value}
    {f__law_pick : Addr} {od__law_pick an__law_pick : Option Addr} {sl__law_pick : Array (Option Value)} {oc__law_pick kV__law_pick dc__law_pick pm__law_pick cd__law_pick ct__law_pick : Value}
    {f__law_word : Addr} {od__law_word an__law_word : Option Addr} {sl__law_word : Array (Option Value)} {oc__law_word kV__law_word dc__law_word pm__law_word cd__law_word ct__law_word : Value}
    {f__law_thing : Addr} {od__law_thing an__law_thing : Option Addr} {sl__law_thing : Array (Option Value)} {oc__law_thing kV__law_thing dc__law_thing pm__law_thing cd__law_thing ct__law_thing : Value}
    {f__law_due : Addr} {od__law_due an__law_due : Option Addr} {sl__law_due : Array (Option Value)} {oc__law_due kV__law_due dc__law_due pm__law_due cd__law_due ct__law_due : Value}
    {f_law : Addr} {od_law an_law : Option Addr} {sl_law : Array (Option Value)} {oc_law kV_law dc_law pm_law cd_law ct_law : Value}
    (a_is_small_letter : PySem.W.nsIn K mainGlobals "is_small_letter" = some (some (.ref f_is_small_letter))) (l_is_small_letter : K.lookup f_is_small_letter = some ⟨oc_is_small_letter, od_is_small_letter, .func (PySem.W.fnOf "is_small_letter" "is_small_letter" (defArgs s_is_small_letter) (defBody s_is_small_letter) (defScope s_is_small_letter) .none kV_is_small_letter dc_is_small_letter pm_is_small_letter an_is_small_letter cd_is_small_letter ct_is_small_letter), sl_is_small_letter⟩) (c_is_small_letter : PySem.W.codeIn K cd_is_small_letter "is_small_letter" = true) (k_is_small_letter : PySem.W.keepIn K (.ref f_is_small_letter) = true)
    (a_is_name : PySem.W.nsIn K mainGlobals "is_name" = some (some (.ref f_is_name))) (l_is_name : K.lookup f_is_name = some ⟨oc_is_name, od_is_name, .func (PySem.W.fnOf "is_name" "is_name" (defArgs s_is_name) (defBody s_is_name) (defScope s_is_name) .none kV_is_name dc_is_name pm_is_name an_is_name cd_is_name ct_is_name), sl_is_name⟩) (c_is_name : PySem.W.codeIn K cd_is_name "is_name" = true) (k_is_name : PySem.W.keepIn K (.ref f_is_name) = true)
    (a__law_begin : PySem.W.nsIn K mainGlobals "_law_begin" = some (some (.ref f__law_begin))) (l__law_begin : K.lookup f__law_begin = some ⟨oc__law_begin, od__law_begin, .func (PySem.W.fnOf "_law_begin" "_law_begin" (defArgs s__law_begin) (defBody s__law_begin) (defScope s__law_begin) .none kV__law_begin dc__law_begin pm__law_begin an__law_begin cd__law_begin ct__law_begin), sl__law_begin⟩) (c__law_begin : PySem.W.codeIn K cd__law_begin "_law_begin" = true) (k__law_begin : PySem.W.keepIn K (.ref f__law_begin) = true)
    (a__law_take : PySem.W.nsIn K mainGlobals "_law_take" = some (some (.ref f__law_take))) (l__law_take : K.lookup f__law_take = some ⟨oc__law_take, od__law_take, .func (PySem.W.fnOf "_law_take" "_law_take" (defArgs s__law_take) (defBody s__law_take) (defScope s__law_take) .none kV__law_take dc__law_take pm__law_take an__law_take cd__law_take ct__law_take), sl__law_take⟩) (c__law_take : PySem.W.codeIn K cd__law_take "_law_take" = true) (k__law_take : PySem.W.keepIn K (.ref f__law_take) = true)
    (a__law_pick : PySem.W.nsIn K mainGlobals "_law_pick" = some (some (.ref f__law_pick))) (l__law_pick : K.lookup f__law_pick = some ⟨oc__law_pick, od__law_pick, .func (PySem.W.fnOf "_law_pick" "_law_pick" (defArgs s__law_pick) (defBody s__law_pick) (defScope s__law_pick) .none kV__law_pick dc__law_pick pm__law_pick an__law_pick cd__law_pick ct__law_pick), sl__law_pick⟩) (c__law_pick : PySem.W.codeIn K cd__law_pick "_law_pick" = true) (k__law_pick : PySem.W.keepIn K (.ref f__law_pick) = true)
    (a__law_word : PySem.W.nsIn K mainGlobals "_law_word" = some (some (.ref f__law_word))) (l__law_word : K.lookup f__law_word = some ⟨oc__law_word, od__law_word, .func (PySem.W.fnOf "_law_word" "_law_word" (defArgs s__law_word) (defBody s__law_word) (defScope s__law_word) .none kV__law_word dc__law_word pm__law_word an__law_word cd__law_word ct__law_word), sl__law_word⟩) (c__law_word : PySem.W.codeIn K cd__law_word "_law_word" = true) (k__law_word : PySem.W.keepIn K (.ref f__law_word) = true)
    (a__law_thing : PySem.W.nsIn K mainGlobals "_law_thing" = some (some (.ref f__law_thing))) (l__law_thing : K.lookup f__law_thing = some ⟨oc__law_thing, od__law_thing, .func (PySem.W.fnOf "_law_thing" "_law_thing" (defArgs s__law_thing) (defBody s__law_thing) (defScope s__law_thing) .none kV__law_thing dc__law_thing pm__law_thing an__law_thing cd__law_thing ct__law_thing), sl__law_thing⟩) (c__law_thing : PySem.W.codeIn K cd__law_thing "_law_thing" = true) (k__law_thing : PySem.W.keepIn K (.ref f__law_thing) = true)
    (a__law_due : PySem.W.nsIn K mainGlobals "_law_due" = some (some (.ref f__law_due))) (l__law_due : K.lookup f__law_due = some ⟨oc__law_due, od__law_due, .func (PySem.W.fnOf "_law_due" "_law_due" (defArgs s__law_due) (defBody s__law_due) (defScope s__law_due) .none kV__law_due dc__law_due pm__law_due an__law_due cd__law_due ct__law_due), sl__law_due⟩) (c__law_due : PySem.W.codeIn K cd__law_due "_law_due" = true) (k__law_due : PySem.W.keepIn K (.ref f__law_due) = true)
    (a_law : PySem.W.nsIn K mainGlobals "law" = some (some (.ref f_law))) (l_law : K.lookup f_law = some ⟨oc_law, od_law, .func (PySem.W.fnOf "law" "law" (defArgs s_law) (defBody s_law) (defScope s_law) .none kV_law dc_law pm_law an_law cd_law ct_law), sl_law⟩) (c_law : PySem.W.codeIn K cd_law "law" = true) (k_law : PySem.W.keepIn K (.ref f_law) = true)
    (z_abs : PySem.W.nsIn K mainGlobals "abs" = some none)
    (z_all : PySem.W.nsIn K mainGlobals "all" = some none)
    (z_bool : PySem.W.nsIn K mainGlobals "bool" = some none)
    (z_isinstance : PySem.W.nsIn K mainGlobals "isinstance" = some none)
    (z_len : PySem.W.nsIn K mainGlobals "len" = some none)
    (z_range : PySem.W.nsIn K mainGlobals "range" = some none)
    (z_str : PySem.W.nsIn K mainGlobals "str" = some none)
    {t_LN : Tok} (a_LONGEST_NAME : PySem.W.nsIn K mainGlobals "LONGEST_NAME" = some (some (.int 8 t_LN)))
    {f_T : Addr} {dd_T : Option Addr} {n_T : Nat} {sl_T : Array (Option Value)} {t_T1 t_T2 t_T3 : Tok} (a_TAKEN_WORDS : PySem.W.nsIn K mainGlobals "TAKEN_WORDS" = some (some (.ref f_T))) (l_TAKEN_WORDS : K.lookup f_T = some ⟨.type "tuple", dd_T, .seq #[.str "not" t_T1, .str "never" t_T2, .str "may" t_T3] n_T, sl_T⟩)
    : ∃ fd : FuncData, (∀ (s : Shared) (v : Value), BindsTo s fd ⟨[v], []⟩ [("script", v)]) ∧ ∀ base : Heap, K.In base → base.Ns mainGlobals mg → FnOk l.prog w K mg base CX0 5 fa fd ["script"] (sp_law K) := by
  have e := hfa.symm.trans (PySem.W.mg_of X G a_law)
  cases e
  have F_is_small_letter := fun_mk (st := s_is_small_letter) l_is_small_letter c_is_small_letter k_is_small_letter
  have B_is_small_letter := F_is_small_letter.binds (ps := ["sign"]) fun _ _ _ _ _ _ us hl => match us, hl with | [_], _ => rfl
  have m_is_small_letter := PySem.W.mg_of X G a_is_small_letter
  have F_is_name := fun_mk (st := s_is_name) l_is_name c_is_name k_is_name
  have B_is_name := F_is_name.binds (ps := ["thing"]) fun _ _ _ _ _ _ us hl => match us, hl with | [_], _ => rfl
  have m_is_name := PySem.W.mg_of X G a_is_name
  have F__law_begin := fun_mk (st := s__law_begin) l__law_begin c__law_begin k__law_begin
  have B__law_begin := F__law_begin.binds (ps := ["script"]) fun _ _ _ _ _ _ us hl => match us, hl with | [_], _ => rfl
  have m__law_begin := PySem.W.mg_of X G a__law_begin
  have F__law_take := fun_mk (st := s__law_take) l__law_take c__law_take k__law_take
  have B__law_take := F__law_take.binds (ps := ["draw", "size"]) fun _ _ _ _ _ _ us hl => match us, hl with | [_, _], _ => rfl
  have m__law_take := PySem.W.mg_of X G a__law_take
  have F__law_pick := fun_mk (st := s__law_pick) l__law_pick c__law_pick k__law_pick
  have B__law_pick := F__law_pick.binds (ps := ["draw", "some"]) fun _ _ _ _ _ _ us hl => match us, hl with | [_, _], _ => rfl
  have m__law_pick := PySem.W.mg_of X G a__law_pick
  have F__law_word := fun_mk (st := s__law_word) l__law_word c__law_word k__law_word
  have B__law_word := F__law_word.binds (ps := ["draw"]) fun _ _ _ _ _ _ us hl => match us, hl with | [_], _ => rfl
  have m__law_word := PySem.W.mg_of X G a__law_word
  have F__law_thing := fun_mk (st := s__law_thing) l__law_thing c__law_thing k__law_thing
  have B__law_thing := F__law_thing.binds (ps := ["draw"]) fun _ _ _ _ _ _ us hl => match us, hl with | [_], _ => rfl
  have m__law_thing := PySem.W.mg_of X G a__law_thing
  have F__law_due := fun_mk (st := s__law_due) l__law_due c__law_due k__law_due
  have B__law_due := F__law_due.binds (ps := ["some_one"]) fun _ _ _ _ _ _ us hl => match us, hl with | [_], _ => rfl
  have m__law_due := PySem.W.mg_of X G a__law_due
  have F_law := fun_mk (st := s_law) l_law c_law k_law
  have n_abs := PySem.W.mg_none_of X G z_abs
  have n_all := PySem.W.mg_none_of X G z_all
  have n_bool := PySem.W.mg_none_of X G z_bool
  have n_isinstance := PySem.W.mg_none_of X G z_isinstance
  have n_len := PySem.W.mg_none_of X G z_len
  have n_range := PySem.W.mg_none_of X G z_range
  have n_str := PySem.W.mg_none_of X G z_str
  refine ⟨PySem.W.fnOf "law" "law" (defArgs s_law) (defBody s_law) (defScope s_law) .none kV_law dc_law pm_law an_law cd_law ct_law, fun s v => .of_eq rfl, fun base _ _ => ?_⟩
  have K_is_small_letter : FnOk l.prog w K mg base CX0 1 _ _ ["sign"] (sp_is_small_letter K) := (ok_is_small_letter F_is_small_letter )
  have C_is_small_letter := cal_of F_is_small_letter K_is_small_letter m_is_small_letter B_is_small_letter
  have K__law_begin : FnOk l.prog w K mg base CX0 1 _ _ ["script"] (sp__law_begin K) := (ok__law_begin F__law_begin n_abs)
  have C__law_begin := cal_of F__law_begin K__law_begin m__law_begin B__law_begin
  have K__law_take : FnOk l.prog w K mg base CX0 1 _ _ ["draw", "size"] (sp__law_take K) := (ok__law_take F__law_take n_len)
  have C__law_take := cal_of F__law_take K__law_take m__law_take B__law_take
  have K__law_due : FnOk l.prog w K mg base CX0 1 _ _ ["some_one"] (sp__law_due K) := (ok__law_due F__law_due n_isinstance n_len n_str)
  have C__law_due := cal_of F__law_due K__law_due m__law_due B__law_due
  have K_is_name : FnOk l.prog w K mg base CX0 2 _ _ ["thing"] (sp_is_name K) := (ok_is_name F_is_name C_is_small_letter (PySem.W.mg_of X G a_LONGEST_NAME) (PySem.W.mg_of X G a_TAKEN_WORDS) (fun H => .inr ⟨_, _, _, l_TAKEN_WORDS, rfl, rfl, by show 3 ≤ sizeLine; decide, .cons ⟨_, rfl⟩ (.cons ⟨_, rfl⟩ (.cons ⟨_, rfl⟩ .nil))⟩) n_all n_isinstance n_len n_str)
  have C_is_name := cal_of F_is_name K_is_name m_is_name B_is_name
  have C_is_name_k_thing := calk_of F_is_name K_is_name m_is_name (F_is_name.kbindsF (ks := ["thing"]) fun _ _ _ _ _ _ us ws hl => match us, ws, hl with | [], [_], _ => rfl | [_], [], _ => rfl)
  have K__law_pick : FnOk l.prog w K mg base CX0 2 _ _ ["draw", "some"] (sp__law_pick K) := (ok__law_pick F__law_pick C__law_take n_len)
  have C__law_pick := cal_of F__law_pick K__law_pick m__law_pick B__law_pick
  have K__law_word : FnOk l.prog w K mg base CX0 3 _ _ ["draw"] (sp__law_word K) := (ok__law_word F__law_word C__law_pick C__law_take n_range)
  have C__law_word := cal_of F__law_word K__law_word m__law_word B__law_word
  have K__law_thing : FnOk l.prog w K mg base CX0 4 _ _ ["draw"] (sp__law_thing K) := (ok__law_thing F__law_thing C__law_pick C__law_take C__law_word n_len n_range)
  have C__law_thing := cal_of F__law_thing K__law_thing m__law_thing B__law_thing
  exact ok_law F_law C__law_begin C__law_due C__law_thing C_is_name C_is_name_k_thing n_bool n_isinstance n_range
end K01
open PySem PySem.W PyProof.Rows
set_option maxHeartbeats 0 in
theorem PySem.Challenge.cw_groundlots_k01_names_holds : PySem.Challenge.rw_groundlots_k01_names.Holds := by
  w_on; o_law; k_head; (case hw => w_witness2)
  k_fill
  refine L2.walk_of (l := PySem.Challenge.rw_groundlots_k01_names) (n := 63) (k := 5) (x := "script") (CX := fun _ => L2.CX0) (sp := fun w => K01.sp_law _) rfl (by decide) rfl ⟨rfl, by decide, by decide⟩ (fun w h Y => PySem.W.kIn_of Y) ?F (fun _ _ a ns hl _ hS => ⟨a, ns, rfl, hS, hl, fun _ => rfl⟩) (fun _ _ _ _ _ h => h)
  case F =>
    intro w mg fa h KX G hmg
    refine' K01.all_mk KX G hmg ?a_is_small_letter ?l_is_small_letter ?c_is_small_letter ?k_is_small_letter ?a_is_name ?l_is_name ?c_is_name ?k_is_name ?a__law_begin ?l__law_begin ?c__law_begin ?k__law_begin ?a__law_take ?l__law_take ?c__law_take ?k__law_take ?a__law_pick ?l__law_pick ?c__law_pick ?k__law_pick ?a__law_word ?l__law_word ?c__law_word ?k__law_word ?a__law_thing ?l__law_thing ?c__law_thing ?k__law_thing ?a__law_due ?l__law_due ?c__law_due ?k__law_due ?a_law ?l_law ?c_law ?k_law ?z_abs ?z_all ?z_bool ?z_isinstance ?z_len ?z_range ?z_str ?a_LONGEST_NAME ?a_TAKEN_WORDS ?l_TAKEN_WORDS
    (case a_is_small_letter => k_is); (case l_is_small_letter => k_is); (case c_is_small_letter => k_is); (case k_is_small_letter => k_is); (case a_is_name => k_is); (case l_is_name => k_is); (case c_is_name => k_is); (case k_is_name => k_is); (case a__law_begin => k_is); (case l__law_begin => k_is); (case c__law_begin => k_is); (case k__law_begin => k_is); (case a__law_take => k_is); (case l__law_take => k_is); (case c__law_take => k_is); (case k__law_take => k_is); (case a__law_pick => k_is); (case l__law_pick => k_is); (case c__law_pick => k_is); (case k__law_pick => k_is); (case a__law_word => k_is); (case l__law_word => k_is); (case c__law_word => k_is); (case k__law_word => k_is); (case a__law_thing => k_is); (case l__law_thing => k_is); (case c__law_thing => k_is); (case k__law_thing => k_is); (case a__law_due => k_is); (case l__law_due => k_is); (case c__law_due => k_is); (case k__law_due => k_is); (case a_law => k_is); (case l_law => k_is); (case c_law => k_is); (case k_law => k_is); (case z_abs => k_is); (case z_all => k_is); (case z_bool => k_is); (case z_isinstance => k_is); (case z_len => k_is); (case z_range => k_is); (case z_str => k_is); (case a_LONGEST_NAME => k_is); (case a_TAKEN_WORDS => k_is); (case l_TAKEN_WORDS => k_is)
