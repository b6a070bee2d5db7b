import PyProof.Rows.All
import Wide.All
import OpenK.AllK
import Wide.FinOn
import PyProof.EqAt
import PyProof.EqKinds
import PyProof.TupleCall
import HandS.ForMost
import HandS.Defaults
import HandS.IsInst
import HandS.Gcd
import HandS.Wide
import HandS.Style
import HandS.TupAny
import HandS.Deep
import PyProof.SeqIndex
import PyProof.InstNe
import KE.KIndexOf
import HandS.Zip
import HandS.StrMore
import KE.KStateDown
import HandS.Head0
import HandS.Head1
import HandS.Head2
import HandS.Head3
import HandS.HeadHook1
import HandS.HeadHook2
import HandS.ForExc
import HandS.TryMany
import HandS.ExcInit
import HandS.ExcField
import HandS.ExcIs
import HandS.ExcValue
import HandS.HotCalls
import HandS.ExcInitHot
import HandS.Comp
import HandS.Dict
import PyProof.CallFns
import PySem.Challenge.RW_endlots_k00_errors
set_option Elab.async false
set_option maxRecDepth 100000
set_option maxHeartbeats 4000000
set_option linter.all false
/-! Eld: calls under known guards (so that repr may be spoken of), and what else the laws of Endlots want. -/
namespace Eld
open PySem PySem.Spec PyProof.Rows L2

/-! ## a def that keeps a promise where nothing is being shown (repr) -/
structure FnG (P : Program) (w : World) (K : PySem.W.Frag) (mg : Str → Option Value) (base : Heap) (CX : CXT) (k : Nat) (f : Addr) (fd : FuncData) (ps : List Str) (sp : Sp) : Prop where
  len : ∀ vs H Q E, sp vs H Q E → vs.length = ps.length
  run : ∀ (B : Around) (up : List Env) (z : Shared) (H : Hp) (ar : Args) (us : List Value) (vs : List V) (Q : VK) (E : XK),
    B.guards = some [] → Room k B → Env0 P w K mg base B up z H → BindsTo z fd ar (ps.zip us) → Vals vs us → sp vs H Q E → codeAny (model P w) B (.call (.ref f) ar) (CR CX up P w H z Q E) z
section
variable {P : Program} {w : World} {K : PySem.W.Frag} {mg : Str → Option Value} {base : Heap} {CX : CXT} {f : Addr} {fd : FuncData} {ps : List Str} {sp : Sp}
theorem FnG.of {k : Nat} (F : FnOk P w K mg base CX k f fd ps sp) : FnG P w K mg base CX k f fd ps sp :=
  ⟨F.len, fun B up z H ar us vs Q E _ r => F.run B up z H ar us vs Q E r⟩
theorem FnG.lift {j k : Nat} (F : FnG P w K mg base CX j f fd ps sp) (h : j ≤ k) : FnG P w K mg base CX k f fd ps sp :=
  ⟨F.len, fun B up z H ar us vs Q E g r => F.run B up z H ar us vs Q E g (r.mono h)⟩
end
theorem deeper_guards {B : Around} {env : Env} (h : B.guards = some []) : (B.deeper env).guards = some [] := by
  first
    | exact h
    | (simpa [Around.deeper, Around.under, Code.guards, Code.isGuard, pushGuards] using h)
theorem in1_guards {B : Around} (h : B.guards = some []) : B.in1.guards = some [] := by
  first
    | exact h
    | (simpa [Around.in1] using h)
theorem make_guards {B : Around} {C : Addr} {us : List Value} {kw : List (Str × Value)} (h : B.guards = some []) : (B.under (.builtin "type.__call__" ⟨.ref C :: us, kw⟩)).guards = some [] := by
  first
    | exact h
    | (simpa [Around.under, Code.guards, Code.isGuard, pushGuards, guardIds] using h)

section
variable {P : Program} {w : World} {K : PySem.W.Frag} {mg : Str → Option Value} {base : Heap} {CX : CXT}
/-- the rule for a def -/
theorem fnG_of {k : Nat} {f : Addr} {nm ql : Str} {pa : Arguments} {bd : List Stmt} {sc : Scope} {dV kV doc pm cdv ct oc : Value} {an od : Option Addr} {osl : Array (Option Value)} {N ps : List Str} {sp : Sp}
    (lk : K.lookup f = some ⟨oc, od, .func (PySem.W.fnOf nm ql pa bd sc dV kV doc pm an cdv ct), osl⟩) (cd : PySem.W.codeIn K cdv ql = true) (S : FnScope N ps sc) (ln : ∀ vs H Q E, sp vs H Q E → vs.length = ps.length)
    (bo : ∀ (B : Around) (up : List Env) (z : Shared) (H : Hp) (vs : List V) (Q : VK) (E : XK), (B.deeper (envOfC ql sc z.heap.objs.size f cdv)).guards = some [] → Room k (B.deeper (envOfC ql sc z.heap.objs.size f cdv)) → sp vs H Q E →
      ∃ t, PSs (cxOf CX P w K mg base N ql sc f cdv B up z H E) bd t ∧ t { nx := fun _ G => Q .non G, rt := Q } (start N vs) H) :
    FnG P w K mg base CX (k + 1) f (PySem.W.fnOf nm ql pa bd sc dV kV doc pm an cdv ct) ps sp := by
  constructor
  · exact ln
  intro B up z H ar us vs Q E gd rm e0 bt rv hs
  have len := ln vs H Q E hs
  have there : ∀ b o, base.get? b = some o → z.heap.get? b = some o := fun b o e => (e0.bs b o e).1
  have inK : K.In z.heap := e0.mod.kin.keeps there
  have nolim : z.heap.NoLimit := e0.mod.nolimit.keeps there
  have kinds : ∀ y ∈ ps.zip us, sc.names.lookup y.1 = some .local ∨ (sc.names.lookup y.1 = some .cell ∧ ((cellsFrom (z.heap.objs.size + 1) sc.names []).lookup y.1).isSome = true) := by
    rintro ⟨n, v⟩ hy
    have hn : n ∈ ps := (List.of_mem_zip hy).1
    exact (S.par n hn).imp id fun q => ⟨q, PySem.W.cellsFrom_some _ _ _ (.inl q)⟩
  refine codeAny_call_function rm.depth (inK _ _ lk) rfl S.co S.gen rfl (PySem.W.codeRec_of inK cd) (bt _ _ _ _ ?_)
  refine wpAny_newFunctionEnv_cells S.kind kinds ?_
  rintro env rfl z1 ic
  refine ⟨nolim.keeps ic.toInCall.keep, codeAny_func ?_⟩
  obtain ⟨t, pt, ht⟩ := bo B up z H vs Q E (deeper_guards gd) (rm.deeper _) hs
  have I0 : Inv (cxOf CX P w K mg base N ql sc f cdv B up z H E) [] (start N vs) H z1 := inv_start S rm.hd e0 len rv ic
  refine wpAny_mono (pt.run [] z1 (start N vs) H _ I0 ht) ?_ (fun e z2 q => q)
  rintro fl z2 q
  cases fl with
  | next =>
    obtain ⟨τ, G, J, q⟩ := q
    exact ⟨V.non, G, J.os, J.bare, J.base, J.hok, rfl, q⟩
  | ret u =>
    obtain ⟨v, τ, G, J, rv', q⟩ := q
    exact ⟨v, G, J.os, J.bare, J.base, J.hok, rv', q⟩
  | brk => exact q.choose_spec.choose_spec.2.elim
  | cont => exact q.choose_spec.choose_spec.2.elim
theorem okG {x ql : Str} {st : Stmt} {f : Addr} {fd : FuncData} {N ps : List Str} {k : Nat} {sp : Sp} (F : Fun K x ql st f fd) (S : FnScope N ps (defScope st)) (ln : ∀ vs H Q E, sp vs H Q E → vs.length = ps.length)
    (bo : ∀ (cdv : Value) (B : Around) (up : List Env) (z : Shared) (H : Hp) (vs : List V) (Q : VK) (E : XK), (B.deeper (envOfC ql (defScope st) z.heap.objs.size f cdv)).guards = some [] → Room k (B.deeper (envOfC ql (defScope st) z.heap.objs.size f cdv)) → sp vs H Q E →
      ∃ t, PSs (cxOf CX0 P w K mg base N ql (defScope st) f cdv B up z H E).nox (defBody st) t ∧ t { nx := fun _ G => Q .non G, rt := Q } (start N vs) H) : FnG P w K mg base CX0 (k + 1) f fd ps sp := by
  obtain ⟨oc, od, kV, doc, pm, an, cdv, ct, osl, rfl, lk, cd⟩ := F.ex
  refine fnG_of lk cd S ln ?_
  intro B up z H vs Q E gd rm hs
  obtain ⟨t, h, q⟩ := bo cdv B up z H vs Q E gd rm hs
  exact ⟨t, h.nox, q⟩
end

/-! ## calls: the value called, values by place and by name -/
/-- called with the values xs by place and ys by the names ks -/
def CallV (X : Cx) (fv : Value) (ks : List Str) (r : List V → List V → Hp → VK → Prop) : Prop :=
  ∀ (pins : List (Addr × Obj)) (s : Shared) (σ : L2.St) (H : Hp) (xs ys : List V) (us ws : List Value) (Q : VK), Inv X pins σ H s → Vals xs us → Vals ys ws → r xs ys H Q →
    wpAny (model X.prog X.w) X.A (call fv us (ks.zip ws)) (EP X pins σ Q) X.xe s
section
variable {X : Cx} {CX : CXT} {k n : Nat} {f C : Addr} {fd : FuncData} {ps ks : List Str} {sp : Sp} {E : XK} {g : List Value → List Value → List Value} {gV : List V → List V → List V}
def rFn (n m : Nat) (gV : List V → List V → List V) (sp : Sp) (E : XK) : List V → List V → Hp → VK → Prop := fun xs ys H Q => xs.length = n ∧ ys.length = m ∧ sp (gV xs ys) H Q E
theorem callV_fn (F : FnG X.prog X.w X.K X.mg X.base CX k f fd ps sp) (hb : KBn X.K fd ps n ks g gV) (hx : Passes CX X E) (hG : X.A.guards = some []) (hr : Room k X.A) : CallV X (.ref f) ks (rFn n ks.length gV sp E) := by
  rintro pins s σ H xs ys us ws Q I rx ry ⟨l1, l2, h⟩
  have e1 : us.length = n := rx.length ▸ l1
  have e2 : ws.length = ks.length := ry.length ▸ l2
  refine wpAny_call (codeAny_mono (F.run X.A X.stack s H ⟨us, ks.zip ws⟩ (g us ws) (gV xs ys) Q E hG hr I.env0 (hb.to s us ws I.kIn e1 e2) (hb.rel rx ry) h) ?_)
  intro res s' hq
  match res, hq with
  | .error e, hq => exact hx pins σ H s e s' I hq
  | .ok (.ret u), hq => exact I.after hq
def rMk (C : Addr) (n m : Nat) (gV : List V → List V → List V) (sp : Sp) (E : XK) : List V → List V → Hp → VK → Prop := fun xs ys H Q => xs.length = n ∧ ys.length = m ∧
  ∀ x dx, H x = none → H dx = none → dx ≠ x → sp (gV (.ref x :: xs) ys) (upd (upd H dx (.own x)) x (.ins C dx [])) (fun v G => v = .non ∧ Q (.ref x) G) E
theorem callV_mk (M : Mk X.K C f) (F : FnG X.prog X.w X.K X.mg X.base CX k f fd ps sp) (hb : KBn X.K fd ps (n + 1) ks g gV) (hx : Passes CX X E) (hG : X.A.guards = some []) (hr : Room (k + 1) X.A) : CallV X (.ref C) ks (rMk C n ks.length gV sp E) := by
  rintro pins s σ H xs ys us ws Q I rx ry ⟨l1, l2, h⟩
  have e1 : (Value.ref (s.heap.objs.size + 1) :: us).length = n + 1 := by
    rw [List.length_cons, ← rx.length, l1]
  have e2 : ws.length = ks.length := ry.length ▸ l2
  have hs := h (s.heap.objs.size + 1) s.heap.objs.size (I.hok.fresh (Nat.le_succ _)) (I.hok.fresh (Nat.le_refl _)) (Nat.ne_of_lt (Nat.lt_succ_self _))
  have J := Inv.made (C := C) I
  have rx' : Vals (V.ref (s.heap.objs.size + 1) :: xs) (Value.ref (s.heap.objs.size + 1) :: us) := .cons rfl rx
  refine wpAny_call (make_map (f := f) I.kIn M.makes M.init (beq_iff_eq.mp M.fn) (codeAny_mono (F.run _ X.stack _ _ ⟨Value.ref (s.heap.objs.size + 1) :: us, ks.zip ws⟩ _ _ _ E (make_guards hG) (hr.make C us (ks.zip ws))
    (J.env0.make C us (ks.zip ws)) (hb.to _ _ ws J.kIn e1 e2) (hb.rel rx' ry) hs) ?_))
  intro res s' hq
  match res, hq with
  | .error e, hq => exact hx pins σ _ _ e s' J hq
  | .ok (.ret u), hq =>
    obtain ⟨v, G, I', rv, ev, q⟩ := J.after hq
    subst ev
    exact ⟨rv, ⟨V.ref (s.heap.objs.size + 1), G, I', rfl, q⟩⟩
end
/-- the reading of a call -/
def tCl (r : List V → List V → Hp → VK → Prop) (t tk : TA) : TE := fun σ H Q => t σ H fun xs H1 => tk σ H1 fun ys H2 => r xs ys H2 Q
section
variable {X : Cx} {ks : List Str} {fv : Value} {r : List V → List V → Hp → VK → Prop} {x m : Str} {p pos apos : Pos} {e o : Expr} {es : List Expr} {kws : List Keyword} {ta : TE} {t tk : TA}
/-- f(e, ..) -/
theorem pn_pos (c : CallV X fv [] r) (hg : Gl X x) (hm : X.mg x = some fv) (hk : PySem.W.keepIn X.K fv = true) (ha : PA X (e :: es) t) (hd : (x == ("__debug__" : Str)) = false := by decide)
    (he : starEach (e :: es) X.env = (false, eval e X.env) :: starEach es X.env := by rfl) (hp : (backTo pos (starEach es X.env)).any (·.1) = false := by rfl) : PE X (.Call (.Name x p) (e :: es) [] pos) (tCl r t tNil) := by
  constructor
  intro pins s σ H Q I h
  exact wpAny_Call_Name_kw (ld_glob I hg hm (PySem.W.callWith_K (h₀ := X.base) I.ok.mod.kin hk (thn (ha.run pos pins s σ H _ I h) fun us s1 ⟨xs, H1, I1, rx, q⟩ => ⟨I1.kIn, c pins s1 σ H1 xs [] us [] Q I1 rx .nil q⟩) he hp) hd)
/-- f() -/
theorem pn_none (c : CallV X fv [] r) (hg : Gl X x) (hm : X.mg x = some fv) (hk : PySem.W.keepIn X.K fv = true) (hd : (x == ("__debug__" : Str)) = false := by decide) : PE X (.Call (.Name x p) [] [] pos) (tCl r tNil tNil) := by
  constructor
  intro pins s σ H Q I h
  exact wpAny_Call_Name_kw (ld_glob I hg hm (PySem.W.callWith_K0 I.kIn hk (c pins s σ H [] [] [] [] Q I .nil .nil h)) hd)
/-- f(e, .., k = v, ..) -/
theorem pn_kw (c : CallV X fv ks r) (hg : Gl X x) (hm : X.mg x = some fv) (hk : PySem.W.keepIn X.K fv = true) (ha : PA X (e :: es) t) (hkw : PK X kws tk) (hall : (backToKw pos (keywordEach kws X.env)).all (·.1.isSome) = true := by rfl)
    (hks : (backToKw pos (keywordEach kws X.env)).filterMap (·.1) = ks := by rfl) (hd : (x == ("__debug__" : Str)) = false := by decide) (he : starEach (e :: es) X.env = (false, eval e X.env) :: starEach es X.env := by rfl)
    (hp : ((backTo pos (starEach (e :: es) X.env)).any (·.1) || (backToKw pos (keywordEach kws X.env)).any (·.1.isNone)) = false := by rfl) : PE X (.Call (.Name x p) (e :: es) kws pos) (tCl r t tk) := by
  constructor
  intro pins s σ H Q I h
  subst hks
  exact wpAny_Call_Name_kw (ld_glob I hg hm (PySem.W.callWith_KW (h₀ := X.base) I.ok.mod.kin hk hall (thn (ha.run pos pins s σ H _ I h) fun us s1 ⟨xs, H1, I1, rx, q⟩ =>
    thn (hkw.run pos pins s1 σ H1 _ I1 q) fun ws s2 ⟨ys, H2, I2, ry, q2⟩ => ⟨I2.kIn, c pins s2 σ H2 xs ys us ws Q I2 rx ry q2⟩) hp he) hd)
/-- f(k = v, ..) -/
theorem pn_kw0 (c : CallV X fv ks r) (hg : Gl X x) (hm : X.mg x = some fv) (hk : PySem.W.keepIn X.K fv = true) (hkw : PK X kws tk) (hall : (backToKw pos (keywordEach kws X.env)).all (·.1.isSome) = true := by rfl)
    (hks : (backToKw pos (keywordEach kws X.env)).filterMap (·.1) = ks := by rfl) (hd : (x == ("__debug__" : Str)) = false := by decide)
    (hp : ((backTo pos (starEach [] X.env)).any (·.1) || (backToKw pos (keywordEach kws X.env)).any (·.1.isNone)) = false := by rfl) : PE X (.Call (.Name x p) [] kws pos) (tCl r tNil tk) := by
  constructor
  intro pins s σ H Q I h
  subst hks
  exact wpAny_Call_Name_kw (ld_glob I hg hm (PySem.W.callWith_KW0 (h₀ := X.base) I.ok.mod.kin hk hall (thn (hkw.run pos pins s σ H _ I h) fun ws s2 ⟨ys, H2, I2, ry, q2⟩ => ⟨I2.kIn, c pins s2 σ H2 [] ys [] ws Q I2 .nil ry q2⟩) hp) hd)
/-- o.m(..): o is an instance of the class at C -/
def tMt (C : Addr) (m : Str) (r : List V → List V → Hp → VK → Prop) (ta : TE) (t tk : TA) : TE := fun σ H Q => ta σ H fun x H1 => ∃ a dx fs, x = .ref a ∧ H1 a = some (.ins C dx fs) ∧ List.lookup m fs = none ∧
  t σ H1 fun xs H2 => tk σ H2 fun ys H3 => r (.ref a :: xs) ys H3 Q
variable {C f : Addr} {pl : Sem Bool}
theorem pm_pos (c : CallV X (.ref f) [] r) (hc : Cls X.K C) (hm : Meth X.K C m f) (ho : PE X o ta) (ha : PA X (e :: es) t) (he : starEach (e :: es) X.env = (false, eval e X.env) :: starEach es X.env := by rfl) (hp : (backTo pos (starEach es X.env)).any (·.1) = false := by rfl)
    (ht : eval (.Call (.Attribute o m apos) (e :: es) [] pos) X.env = (do
      let ov ← eval o X.env
      standAt apos.atName
      let (f, first) ← holding [ov] (getMethod ov m pl)
      callWith pos f first (backTo pos (starEach (e :: es) X.env)) (backToKw pos (keywordEach [] X.env))) := by rfl) : PE X (.Call (.Attribute o m apos) (e :: es) [] pos) (tMt C m r ta t tNil) := by
  constructor
  intro pins s σ H Q I h
  refine PySem.W.methodCall_KW (pl := pl) (thn (ho.run pins s σ H _ I h) ?_) ht
  rintro u s1 ⟨y, H1, I1, ry, a, dx, fs, rfl, ea, l, q⟩
  obtain rfl : u = Value.ref a := ry
  exact getmeth_ok I1 ea hc hm l (PySem.W.callWith_K (first := [.ref a]) (h₀ := X.base) I.ok.mod.kin hm.kp (thn (ha.run pos pins s1 σ H1 _ I1 q) fun us s2 ⟨xs, H2, I2, rx, q2⟩ => ⟨I2.kIn, c pins s2 σ H2 _ [] (.ref a :: us) [] Q I2 (.cons (show RelV (V.ref a) (Value.ref a) from rfl) rx) .nil q2⟩) he hp)
theorem pm_none (c : CallV X (.ref f) [] r) (hc : Cls X.K C) (hm : Meth X.K C m f) (ho : PE X o ta)
    (ht : eval (.Call (.Attribute o m apos) [] [] pos) X.env = (do
      let ov ← eval o X.env
      standAt apos.atName
      let (f, first) ← holding [ov] (getMethod ov m pl)
      callWith pos f first (backTo pos (starEach [] X.env)) (backToKw pos (keywordEach [] X.env))) := by rfl) : PE X (.Call (.Attribute o m apos) [] [] pos) (tMt C m r ta tNil tNil) := by
  constructor
  intro pins s σ H Q I h
  refine PySem.W.methodCall_KW (pl := pl) (thn (ho.run pins s σ H _ I h) ?_) ht
  rintro u s1 ⟨y, H1, I1, ry, a, dx, fs, rfl, ea, l, q⟩
  obtain rfl : u = Value.ref a := ry
  exact getmeth_ok I1 ea hc hm l (PySem.W.callWith_K0 (first := [.ref a]) I1.kIn hm.kp (c pins s1 σ H1 _ [] [.ref a] [] Q I1 (.cons (show RelV (V.ref a) (Value.ref a) from rfl) .nil) .nil q))
theorem pm_kw0 (c : CallV X (.ref f) ks r) (hc : Cls X.K C) (hm : Meth X.K C m f) (ho : PE X o ta) (hkw : PK X kws tk) (hall : (backToKw pos (keywordEach kws X.env)).all (·.1.isSome) = true := by rfl)
    (hks : (backToKw pos (keywordEach kws X.env)).filterMap (·.1) = ks := by rfl)
    (hp : ((backTo pos (starEach [] X.env)).any (·.1) || (backToKw pos (keywordEach kws X.env)).any (·.1.isNone)) = false := by rfl)
    (ht : eval (.Call (.Attribute o m apos) [] kws pos) X.env = (do
      let ov ← eval o X.env
      standAt apos.atName
      let (f, first) ← holding [ov] (getMethod ov m pl)
      callWith pos f first (backTo pos (starEach [] X.env)) (backToKw pos (keywordEach kws X.env))) := by rfl) : PE X (.Call (.Attribute o m apos) [] kws pos) (tMt C m r ta tNil tk) := by
  constructor
  intro pins s σ H Q I h
  subst hks
  refine PySem.W.methodCall_KW (pl := pl) (thn (ho.run pins s σ H _ I h) ?_) ht
  rintro u s1 ⟨y, H1, I1, ry, a, dx, fs, rfl, ea, l, q⟩
  obtain rfl : u = Value.ref a := ry
  exact getmeth_ok I1 ea hc hm l (PySem.W.callWith_KW0 (first := [.ref a]) (h₀ := X.base) I.ok.mod.kin hm.kp hall (thn (hkw.run pos pins s1 σ H1 _ I1 q) fun ws s2 ⟨ys, H2, I2, ry', q2⟩ => ⟨I2.kIn, c pins s2 σ H2 _ ys [.ref a] ws Q I2 (.cons (show RelV (V.ref a) (Value.ref a) from rfl) .nil) ry' q2⟩) hp)
end
end Eld
set_option Elab.async false
set_option maxRecDepth 100000
set_option maxHeartbeats 4000000
set_option linter.all false
namespace Eld
open PySem PySem.Spec PyProof.Rows L2
section
variable {P : Program} {w : World} {K : PySem.W.Frag} {mg mb : Str → Option Value} {CX : CXT} {k : Nat} {fa a : Addr} {fd : FuncData} {x : Str} {sp : Sp} {z : Shared} {vs : List Value} {ns : List Int}
/-- what is wanted of a law's call -/
def LawR (z : Shared) (r : Result) (z' : Shared) : Prop := r = .ok (.ret (.bool true)) ∧ OldK z.heap z'.heap ∧ z'.os = z.os ∧ AllBare z'.gens
/-- from an abstract heap G in which at most the script is told -/
theorem law_fromG (G : Hp) (only : Only G) (here : ∀ b, G b ≠ none → b = a) (notK : G a ≠ none → K.lookup a = none) (seen : SqL K G a (ns.map V.int)) (ok : HOk P w G z.heap)
    (inK : K.In z.heap) (gl : z.heap.Ns mainGlobals mg) (bn : z.heap.Ns builtinsNs mb) (bb : ∀ y : Str, y ≠ "__name__" → mb y = bootBuiltins y) (nolim : z.heap.NoLimit) (gens : z.gens = #[])
    (ha : z.heap.get? a = some { cls := .type "list", data := .seq vs.toArray }) (rm : Room k callerA) (F : ∀ base : Heap, K.In base → base.Ns mainGlobals mg → FnG P w K mg base CX k fa fd [x] sp)
    (bt : ∀ (s : Shared) (u : Value), BindsTo s fd ⟨[u], []⟩ [(x, u)]) (want : sp [.ref a] G (fun v _ => v = .bl true) fun _ _ _ => False) (noErr : ∀ e z', CX [] G z (fun _ _ _ => False) e z' → False) :
    codeAny (model P w) callerA (.call (.ref fa) ⟨[.ref a], []⟩) (LawR z) z := by
  have out : ∀ {b : Addr} {o : Obj}, z.heap.get? b = some o → b ≠ a → G b = none := fun {b o} _ ne => by
    cases q : G b with
    | none => rfl
    | some u => exact absurd (here b (by rw [q]; exact Option.some_ne_none u)) ne
  have off : ∀ {b : Addr} {m : Str → Option Value}, z.heap.Ns b m → (hidT z.heap G).Ns b m := by
    rintro b m ⟨o, es, ep, e, d, r⟩
    have ne : b ≠ a := by
      rintro rfl
      have e' := ha.symm.trans e
      cases e'
      cases d
    exact ⟨o, es, ep, hidT_get e (out e ne), d, r⟩
  have kb : K.In (hidT z.heap G) := by
    intro b o e
    have e1 := inK b o e
    refine hidT_get e1 ?_
    by_cases q : G b = none
    · exact q
    · have eb := here b q
      subst eb
      rw [notK q] at e
      cases e
  obtain ⟨mc, l1, l2⟩ := nolim
  have md : Mod K mg (hidT z.heap G) := ⟨kb, off gl, ⟨mb, off bn, bb⟩, ⟨mc, off l1, l2⟩⟩
  have env : Env0 P w K mg (hidT z.heap G) callerA [] z G :=
    { frames := rfl, mod := md, bs := fun b o e => of_hidT e, bsz := Nat.le_of_eq (hidT_size _ _), funs := trivial, frf := fun b hb => (List.not_mem_nil hb).elim, hok := ok, bare := .of_eq gens }
  refine codeAny_mono ((F _ kb (off gl)).run callerA [] z G ⟨[.ref a], []⟩ [.ref a] [.ref a] _ _ rfl rm env (bt z (.ref a)) (.cons rfl .nil) want) ?_
  intro r z' q
  match r, q with
  | .error e, q => exact (noErr e z' q).elim
  | .ok (.ret u), ⟨v, G', os, bare, un, ok', rv, q⟩ =>
    cases (show v = .bl true from q)
    cases (show u = Value.bool true from rv)
    refine ⟨rfl, OldK.of_keep ?_, os, bare⟩
    intro b o e
    rcases only b with n | ⟨ob, xs, n⟩
    · exact un.keep b o e n (fun h => (List.not_mem_nil h).elim) (fun h => (List.not_mem_nil h).elim)
    · have e1 := (ok b _ n).1
      have e2 := (ok' b _ (un.frzs b ob _ n)).1
      exact e2.trans (e1.symm.trans e)
theorem law_callG (inK : K.In z.heap) (gl : z.heap.Ns mainGlobals mg) (bn : z.heap.Ns builtinsNs mb) (bb : ∀ y : Str, y ≠ "__name__" → mb y = bootBuiltins y) (nolim : z.heap.NoLimit) (gens : z.gens = #[])
    (ha : z.heap.get? a = some { cls := .type "list", data := .seq vs.toArray }) (hi : IntsAre vs ns) (hl : ns.length ≤ sizeLine) (rm : Room k callerA)
    (F : ∀ base : Heap, K.In base → base.Ns mainGlobals mg → FnG P w K mg base CX k fa fd [x] sp) (bt : ∀ (s : Shared) (u : Value), BindsTo s fd ⟨[u], []⟩ [(x, u)])
    (want : ∀ G : Hp, Only G → SqL K G a (ns.map V.int) → sp [.ref a] G (fun v _ => v = .bl true) fun _ _ _ => False) (noErr : ∀ G e z', CX [] G z (fun _ _ _ => False) e z' → False) :
    codeAny (model P w) callerA (.call (.ref fa) ⟨[.ref a], []⟩) (LawR z) z := by
  have rv := vals_ints hi
  have small : (ns.map V.int).length ≤ sizeLine := by rw [List.length_map]; exact hl
  cases hk : K.lookup a with
  | none =>
    let ob : Obj := { cls := .type "list", data := .seq vs.toArray }
    let G : Hp := fun b => if b = a then some (.frz ob (.lst (ns.map V.int))) else none
    have ga : G a = some (.frz ob (.lst (ns.map V.int))) := if_pos rfl
    have gn : ∀ b, b ≠ a → G b = none := fun b h => if_neg h
    have only : Only G := fun b => (Classical.em (b = a)).elim (fun h => .inr ⟨ob, _, h ▸ ga⟩) fun h => .inl (gn b h)
    have seen : SqL K G a (ns.map V.int) := .inl (.inr ⟨ob, ga⟩)
    refine law_fromG G only (fun b h => Classical.byContradiction fun n => h (gn b n)) (fun _ => hk) seen ?_ inK gl bn bb nolim gens ha rm F bt (want G only seen) (noErr G)
    intro b u e
    by_cases h : b = a
    · subst h
      rw [ga] at e
      cases e
      exact ⟨ha, small, vs, _, rv, ha⟩
    · rw [gn b h] at e
      cases e
  | some o =>
    have e := inK a o hk
    rw [ha] at e
    cases e
    have seen : SqL K (fun _ => none) a (ns.map V.int) := .inr ⟨_, vs.toArray, _, hk, rfl, rfl, rfl, by rw [List.size_toArray, hi.length]; exact hl, by simpa using rv⟩
    exact law_fromG (fun _ => none) (fun _ => .inl rfl) (fun _ h => absurd rfl h) (fun h => absurd rfl h) seen (fun _ _ e => by cases e) inK gl bn bb nolim gens ha rm F bt (want _ (fun _ => .inl rfl) seen) (noErr _)
end
/-- the goal that the head leaves -/
theorem walk_G {l : PySem.W.OpenLaw} {n k : Nat} {q : Program} {loose : List Str} {XP : (Str → Option Value) → Heap → Prop} {YP : World → Heap → Prop} {d : DefRec} {K : Params → PySem.W.Frag} {sp : PySem.W.Frag → Sp} {x : Str}
    (hn : l.most = some n) (n2 : n ≤ sizeLine) (hd : d.params.defaults = []) (rm : Room k callerA) (hY : ∀ (w : World) (h : Heap), YP w h → (K w.params).In h)
    (F : ∀ (w : World) (mg : Str → Option Value) (fa : Addr) (h : Heap), (K w.params).In h → h.Ns mainGlobals mg → mg d.name = some (.ref fa) →
      ∃ fd : FuncData, (∀ (s : Shared) (u : Value), BindsTo s fd ⟨[u], []⟩ [(x, u)]) ∧ ∀ base : Heap, (K w.params).In base → base.Ns mainGlobals mg → FnG l.prog w (K w.params) mg base CX0 k fa fd [x] (sp (K w.params)))
    (want : ∀ (w : World) (G : Hp) (a : Addr) (ns : List Int), ns.length ≤ n → SqL (K w.params) G a (ns.map V.int) → sp (K w.params) [.ref a] G (fun v _ => v = .bl true) fun _ _ _ => False) :
    PySem.W.WalkO q loose XP YP l.row.toRowW d [] (fun f vs => PySem.call f vs) := by
  refine Att.attach_call hn hd ?_
  intro w s₀ s₁ mg mb fa o pm cd doc a vs ns G Y ho hdt hcd hmg hobj hints hlen hg
  obtain ⟨fd, hb, hF⟩ := F w mg fa _ (hY w _ Y) G.T.g hmg
  exact law_callG (CX := CX0) (hY w _ Y) G.T.g G.T.b G.T.builtins G.T.nolimit hg hobj hints (Nat.le_trans hlen n2) rm hF hb (fun G _ h => want w G a ns hlen h) fun _ _ _ h => h.elim
end Eld
set_option Elab.async false
set_option maxRecDepth 100000
set_option maxHeartbeats 4000000
set_option linter.all false
namespace Eld
open PySem PySem.Spec PyProof.Rows L2
section
variable {X : Cx}
/-! ### repr of lists and tuples of data -/
def rReprD (K : PySem.W.Frag) : List V → Hp → VK → Prop := fun xs H Q => ∃ a d, xs = [.ref a] ∧ Dp K H (.ref a) d ∧ d.showable = true ∧ d.hasDict = false ∧ d.depth ≤ 60 ∧ d.shown.length ≤ sizeLine ∧ Q (.str d.shown) H
theorem call_reprD (hG : X.A.guards = some []) (hu : X.A.units + 64 < cLine) : CallR X (.builtin "repr") (rReprD X.K) := by
  rintro pins s σ H xs us Q I r ⟨a, d, rfl, dp, sh, nd, dd, sz, q⟩
  obtain ⟨u, rfl, ru⟩ := vals1 r
  obtain ⟨as, rd⟩ := Dp.reads I d _ u dp ru
  cases ru
  exact repr_of_reads' rd sh (PyData.noDict_hsm nd) hG (by omega) (fun _ _ e => e) (fun h' u tk hk => ⟨.str d.shown, H, I.kept hk, ⟨_, rfl⟩, q⟩) sz
/-! ### t.index(x), t a tuple of data -/
def rTupIx (K : PySem.W.Frag) : V → List V → Hp → VK → Prop := fun x xs H Q => ∃ (a : Addr) (y : V) (d z : PyData) (ds : List PyData) (j : Nat), x = .ref a ∧ xs = [y] ∧ Dp K H (.ref a) (.tuple ds) ∧ Dp K H y d ∧
  SeqAt.shaped (.tuple ds) = true ∧ SeqAt.shaped d = true ∧ ds[j]? = some z ∧ PyData.eqv z d = true ∧ (∀ (m : Nat) (z' : PyData), m < j → ds[m]? = some z' → PyData.eqv z' d = false) ∧ Q (.int (j : Nat)) H
theorem mt_tupIx (hu : X.A.units + 65 < cLine) : MtR X "tuple.index" (rTupIx X.K) := by
  rintro pins s σ H x xs v us Q I rx rxs ⟨a, y, d, z, ds, j, rfl, rfl, hl, hy, sl, sd, hz, hit, hno, q⟩
  cases rx
  obtain ⟨uy, rfl, ry⟩ := vals1 rxs
  obtain ⟨bs, r1⟩ := Dp.reads I d y uy hy ry
  have lay : PyData.canLayAll0 ds = true := by
    have := SeqAt.canLay_of_shaped sl
    simpa only [PyData.canLay0] using this
  have room : X.A.units + 1 + min (PyData.depthAll ds) d.depth < cLine := by
    have h1 : d.depth ≤ 64 := by
      have h := sd
      simp only [SeqAt.shaped, Bool.and_eq_true, decide_eq_true_eq] at h
      exact h.2
    have h2 : min (PyData.depthAll ds) d.depth ≤ d.depth := Nat.min_le_right _ _
    omega
  cases hl with
  | tup hs ha =>
    obtain ⟨its, rv, ⟨⟨cls, dd, data, sls⟩, ho, hc, n, hdt⟩, hlen⟩ := I.tuple hs
    simp only at hc hdt
    subst hc hdt
    obtain ⟨as, h4⟩ := Dp.readsAll I ds _ its ha rv
    have hn : its.length = ds.length := SeqAt.ReadsAll.length ds its as h4
    have hmap : its.map (SeqAt.readOf s.heap) = ds := SeqAt.readsAll_map ds its as lay h4
    have hjd : j < ds.length := (List.getElem?_eq_some_iff.mp hz).1
    have at_ : ∀ (m : Nat) (hm : m < its.toArray.size) (z' : PyData), ds[m]? = some z' → SeqAt.readOf s.heap its.toArray[m] = z' := by
      intro m hm z' hz'
      have hml : m < its.length := by simpa using hm
      rw [← hmap, List.getElem?_map, List.getElem?_eq_getElem hml] at hz'
      simpa using hz'
    refine call_meets F.slot_tuple_index ⟨_, ho, rfl⟩ F.entry_tuple_index (F.args_tuple_index_2 _ _)
      (SeqAt.tuple_index2_found a its.toArray n dd sls uy (fun m => if hm : m < its.toArray.size then PyData.eqv (SeqAt.readOf s.heap its.toArray[m]) d else false) j (by simpa [hn] using hjd) (Nat.zero_le _) (by simpa [hn] using hjd) ?_ ?_) ⟨ho, fun m hm => ?_, ?_⟩
    · have hj' : j < its.toArray.size := by simpa [hn] using hjd
      rw [dif_pos hj', at_ j hj' z hz]
      exact hit
    · intro m hm _ hmj
      have hmd : m < ds.length := Nat.lt_trans hmj hjd
      rw [dif_pos hm, at_ m hm _ (List.getElem?_eq_getElem hmd)]
      exact hno m _ hmj (List.getElem?_eq_getElem hmd)
    · rw [dif_pos hm]
      exact SeqAt.items_eqAt (vs := its.toArray) (show ReadsAll s.heap its.toArray.toList ds as from h4) r1 lay (SeqAt.canLay_of_shaped sd) room _ (Array.getElem_mem hm)
    · exact ⟨.int (j : Nat), H, I.tok _, ⟨_, rfl⟩, q⟩
end
/-! ### ==, != and len of an own class -/
section
variable {X : Cx} {CX : CXT} {k : Nat} {f C : Addr} {fd : FuncData} {ps : List Str} {sp : Sp} {E : XK}
def rOwnC (K : PySem.W.Frag) (C : Addr) (sp : Sp) (E : XK) : R2 := fun x y H Q => ∃ a dx fs t, x = .ref a ∧ H a = some (.ins C dx fs) ∧ TyX K H y t ∧ PySem.W.notFirst K C t = true ∧ sp [x, y] H Q E
theorem run_own {B : Around} {pins : List (Addr × Obj)} {s : Shared} {σ : L2.St} {H : Hp} {a : Addr} {y : V} {u : Value} {Q : VK} (F : FnG X.prog X.w X.K X.mg X.base CX k f fd ps sp) (hb : Binds X.K fd ps []) (hx : Passes CX X E)
    (hf : B.frames = X.A.frames) (hG : B.guards = some []) (hr : Room k B) (I : Inv X pins σ H s) (ry : RelV y u) (h : sp [.ref a, y] H Q E) : wpAny (model X.prog X.w) B (call (.ref f) [.ref a, u]) (EP X pins σ Q) X.xe s := by
  have e0 := I.env0
  have e1 : Env0 X.prog X.w X.K X.mg X.base B X.stack s H := ⟨hf.trans e0.frames, e0.mod, e0.bs, e0.bsz, e0.funs, e0.frf, e0.hok, e0.bare⟩
  have rv : Vals [V.ref a, y] [Value.ref a, u] := .cons rfl (.cons ry .nil)
  have ln : ([Value.ref a, u] ++ ([] : List Value)).length = ps.length := F.len _ _ _ _ h
  refine wpAny_call (codeAny_mono (F.run B X.stack s H ⟨[.ref a, u], []⟩ ([.ref a, u] ++ []) [.ref a, y] Q E hG hr e1 (hb s [.ref a, u] I.kIn ln) rv h) ?_)
  intro res s' hq
  match res, hq with
  | .error e, hq => exact hx pins σ H s e s' I hq
  | .ok (.ret w), hq => exact I.after hq
theorem op_ownEq (F : FnG X.prog X.w X.K X.mg X.base CX k f fd ps sp) (hb : Binds X.K fd ps []) (hx : Passes CX X E) (hs : PySem.W.findIn X.K (.ref C) "__eq__" = some (some (.ref f))) (hf : PySem.W.isFn X.K (.ref f) = true)
    (hG : X.A.guards = some []) (hr : Room k X.A) : OpR X (compareOp .Eq) (rOwnC X.K C sp E) := by
  rintro pins s σ H x y v u Q I rx ry ⟨a, dx, fs, t, rfl, ea, ty, nf, h⟩
  cases rx
  obtain ⟨mA, J, _⟩ := ins_get I.hok ea
  obtain ⟨od, J, _⟩ := J.look
  obtain ⟨G, Z, p, _⟩ := kit_of I ry ty
  obtain ⟨m, hF⟩ := I.fr
  show wpAny (model X.prog X.w) X.A (richCompare .Eq (.ref a) u) (EP X pins σ Q) X.xe s
  refine PySem.W.cmp_K (op := .Eq) hr.units0 hF I.ok.mod.kin J (Z.ty _ _ I.kIn p) nf hs hf (thn (run_own F hb hx rfl hG hr I ry h) ?_)
  rintro w s' ⟨z, H', I', rz, q⟩
  cases z with
  | non => cases rz; exact ⟨.non, H', I', rfl, q⟩
  | bl b => cases rz; exact ⟨.bl b, H', I', rfl, q⟩
  | int i => obtain ⟨t, rfl⟩ := rz; exact ⟨.int i, H', I', ⟨t, rfl⟩, q⟩
  | str i => obtain ⟨t, rfl⟩ := rz; exact ⟨.str i, H', I', ⟨t, rfl⟩, q⟩
  | byt i => obtain ⟨t, rfl⟩ := rz; exact ⟨.byt i, H', I', ⟨t, rfl⟩, q⟩
  | flt i => obtain ⟨t, rfl⟩ := rz; exact ⟨.flt i, H', I', ⟨t, rfl⟩, q⟩
  | ref i => cases rz; exact ⟨.ref i, H', I', rfl, q⟩
  | ty i => cases rz; exact ⟨.ty i, H', I', rfl, q⟩
/-- len(x), x of an own class -/
def rOwnLen (C : Addr) (sp : Sp) (E : XK) : List V → Hp → VK → Prop := fun xs H Q => ∃ a dx fs, xs = [.ref a] ∧ H a = some (.ins C dx fs) ∧ sp [.ref a] H (fun v G => ∃ n : Int, v = .int n ∧ 0 ≤ n ∧ n < 2 ^ 63 ∧ Q (.int n) G) E
theorem call_ownLen (F : FnG X.prog X.w X.K X.mg X.base CX k f fd ps sp) (hb : Binds X.K fd ps []) (hx : Passes CX X E) (hs : PySem.W.findIn X.K (.ref C) "__len__" = some (some (.ref f))) (hf : PySem.W.isFn X.K (.ref f) = true)
    (hG : X.A.guards = some []) (hr : Room (k + 1) X.A) : CallR X (.builtin "len") (rOwnLen C sp E) := by
  rintro pins s σ H xs us Q I r ⟨a, dx, fs, rfl, ea, h⟩
  obtain ⟨u, rfl, ru⟩ := vals1 r
  cases ru
  obtain ⟨mA, J, _⟩ := ins_get I.hok ea
  obtain ⟨od, J, _⟩ := J.look
  obtain ⟨m, hF⟩ := I.fr
  have e0 := I.env0
  have e1 : Env0 X.prog X.w X.K X.mg X.base X.A.in1 X.stack s H := e0.in1
  have rv : Vals [V.ref a] [Value.ref a] := .cons rfl .nil
  have ln : ([Value.ref a] ++ ([] : List Value)).length = ps.length := F.len _ _ _ _ h
  refine PySem.W.len_K hF I.ok.mod.kin J hs hf (wpAny_call (codeAny_mono (F.run X.A.in1 X.stack s H ⟨[.ref a], []⟩ ([.ref a] ++ []) [.ref a] _ E (in1_guards hG) hr.in1 e1 (hb s [.ref a] I.kIn ln) rv h) ?_))
  intro res s' hq
  match res, hq with
  | .error e, hq => exact hx pins σ H s e s' I hq
  | .ok (.ret w), hq =>
    obtain ⟨v, G, I', rv', n, rfl, h0, h1, q⟩ := I.after hq
    obtain ⟨t, rfl⟩ := rv'
    exact ⟨⟨h0, h1⟩, .int n, G, I'.tok _, ⟨_, rfl⟩, q⟩
/-- x != y, x of an own class with == alone -/
def rOwnNe (K : PySem.W.Frag) (C : Addr) (sp : Sp) (E : XK) : R2 := fun x y H Q => ∃ a dx fs t, x = .ref a ∧ H a = some (.ins C dx fs) ∧ TyX K H y t ∧ PySem.W.notFirst K C t = true ∧ sp [x, y] H (fun v G => ∃ b : Bool, v = .bl b ∧ Q (.bl (!b)) G) E
theorem slot_ne_bind (v : Value) : bindSpecial (.builtin "object.__ne__") v = pure (.builtin "object.__ne__", [v]) := by
  exact PySem.F.cmp_object.ne.bind v
theorem op_ownNe (F : FnG X.prog X.w X.K X.mg X.base CX k f fd ps sp) (hb : Binds X.K fd ps []) (hx : Passes CX X E) (hs : PySem.W.findIn X.K (.ref C) "__eq__" = some (some (.ref f))) (hf : PySem.W.isFn X.K (.ref f) = true)
    (hn : PySem.W.findIn X.K (.ref C) "__ne__" = some (some (.builtin "object.__ne__"))) (ho : PySem.W.subIn X.K (.ref C) (.type "object") = some true)
    (hG : X.A.guards = some []) (hr : Room (k + 1) X.A) : OpR X (compareOp .NotEq) (rOwnNe X.K C sp E) := by
  rintro pins s σ H x y v u Q I rx ry ⟨a, dx, fs, t, rfl, ea, ty, nf, h⟩
  cases rx
  obtain ⟨mA, J, _⟩ := ins_get I.hok ea
  obtain ⟨od, J, _⟩ := J.look
  obtain ⟨G, Z, p, _⟩ := kit_of I ry ty
  have inK := I.kIn
  have tl := Z.ty (model X.prog X.w) _ I.kIn p
  -- what == tells, turned
  have back : wpAny (model X.prog X.w) X.A.in1 (call (.ref f) [.ref a, u]) (fun r s' => ∃ b : Bool, r = .bool b ∧ EP X pins σ Q (.bool (!b)) s') X.xe s := by
    refine thn (run_own F hb hx rfl (in1_guards hG) hr.in1 I ry h) ?_
    rintro w s' ⟨z, H', I', rz, b, rfl, q⟩
    cases rz
    exact ⟨b, rfl, .bl (!b), H', I', rfl, q⟩
  have body : wpAny (model X.prog X.w) X.A.in1 (Builtin.«object.__ne__» ⟨[.ref a, u], []⟩) (fun fin s' => ∃ b : Bool, fin = .done (.ret (.bool b)) ∧ EP X pins σ Q (.bool b) s') X.xe s := by
    unfold Builtin.«object.__ne__»
    have hu : X.A.in1.units < cLine := hr.in1.units0
    repeat (first
      | with_reducible refine wpAny_cRoomFor hu ?_
      | (refine wpAny_bind (m := callSpecialIfBound? (.ref a) (Str.ofString "__eq__") [u]) (PySem.W.ifBound_K inK J hs hf (wpAny_mono back (fun r s' hr => by
          obtain ⟨b, rfl, q⟩ := hr
          repeat (first | exact ⟨_, rfl, q⟩ | exact wpAny_pure ⟨_, rfl, q⟩ | exact wpAny_truthy_bool ⟨_, rfl, q⟩ | (refine wpAny_bind (m := truthy (.bool _)) (wpAny_truthy_bool ?_)) | wp_step)) fun _ _ e => e)))
      | wp_step)
  have callNe : wpAny (model X.prog X.w) X.A (call (.builtin "object.__ne__") [.ref a, u]) (fun r s' => ∃ b : Bool, r = .bool b ∧ EP X pins σ Q (.bool b) s') X.xe s := by
    refine wpAny_call (codeAny_call_builtin PySem.F.cmp_object.ne.plain PySem.F.cmpEntry_ne (PySem.W.check_slot PySem.F.cmpKind_ne PySem.F.cmpSplit_ne (J.type.andThen (PySem.W.looks_subIn inK ho)) (PySem.F.cmpArgs_ne _ _) (wpAny_mono body ?_ fun _ _ e => e)))
    rintro fin s' ⟨b, rfl, q⟩
    exact ⟨b, rfl, q⟩
  have bound : wpAny (model X.prog X.w) X.A (callSpecialIfBound? (.ref a) (Str.ofString "__ne__") [u]) (fun r s' => ∃ b : Bool, r = some (.bool b) ∧ EP X pins σ Q (.bool b) s') X.xe s := by
    simp only [callSpecialIfBound?, bindSpecialIfBound?]
    refine wpAny_holding (wpAny_bind (wpAny_bind (wpAny_bind (J.type.here ((PySem.W.looks_findIn inK hn).here ?_)))))
    have fin : wpAny (model X.prog X.w) X.A (call (.builtin "object.__ne__") ([.ref a] ++ [u]) >>= fun v => pure (some v)) (fun r s' => ∃ b : Bool, r = some (.bool b) ∧ EP X pins σ Q (.bool b) s') X.xe s :=
      wpAny_bind (wpAny_mono callNe (fun r s' ⟨b, e, q⟩ => wpAny_pure ⟨b, by rw [e], q⟩) fun _ _ e => e)
    refine wpAny_bind (wpAny_askSetting (wpAny_ite ?_))
    split
    · refine wpAny_bind ?_
      rw [slot_ne_bind]
      exact wpAny_pure (wpAny_pure (by exact fin))
    · refine wpAny_tryCatch (wpAny_bind ?_)
      rw [slot_ne_bind]
      exact wpAny_pure (wpAny_pure (by exact fin))
  have one : wpAny (model X.prog X.w) X.A (tryCompare (.ref a) (Str.ofString "__ne__") u) (fun r s' => ∃ b : Bool, r = some (.bool b) ∧ EP X pins σ Q (.bool b) s') X.xe s := by
    unfold tryCompare
    exact wpAny_bind (wpAny_mono bound (fun r s' ⟨b, e, q⟩ => by subst e; exact wpAny_pure ⟨b, rfl, q⟩) fun _ _ e => e)
  show wpAny (model X.prog X.w) X.A (richCompare .NotEq (.ref a) u) (EP X pins σ Q) X.xe s
  unfold richCompare
  simp only [oneThing_ref]
  refine wpAny_holding (wpAny_bind (wpAny_cRoomFor hr.units0 ?_))
  refine wpAny_bind (J.type.here (wpAny_bind (tl.here ?_)))
  split
  · rename_i q
    have e : PySem.W.subIn X.K t (.ref C) = some false := by
      rcases Bool.or_eq_true_iff.mp nf with e | e
      · rw [beq_iff_eq.mp e] at q
        simp at q
      · exact beq_iff_eq.mp e
    refine wpAny_bind ((PySem.W.looks_subIn inK e).here ?_)
    simp only [Bool.false_eq_true, if_false]
    refine wpAny_bind (wpAny_mono one ?_ fun _ _ e => e)
    rintro r s' ⟨b, rfl, hq⟩
    exact wpAny_pure hq
  · refine wpAny_bind (wpAny_pure ?_)
    simp only [Bool.false_eq_true, if_false]
    refine wpAny_bind (wpAny_mono one ?_ fun _ _ e => e)
    rintro r s' ⟨b, rfl, hq⟩
    exact wpAny_pure hq
end
end Eld
set_option Elab.async false
set_option maxRecDepth 100000
set_option maxHeartbeats 4000000
set_option linter.all false
namespace Eld
open PySem PySem.Spec PyProof.Rows L2
/-! ## defs, methods and classes by name, and how they are called -/
section
variable (P : Program) (w : World) (K : PySem.W.Frag) (mg : Str → Option Value) (base : Heap)
/-- the def x, called with n values by place and the names ks -/
def DefD (k : Nat) (x : Str) (n : Nat) (ks : List Str) (gV : List V → List V → List V) (sp : Sp) : Prop :=
  ∃ (f : Addr) (fd : FuncData) (ps : List Str) (g : List Value → List Value → List Value), mg x = some (.ref f) ∧ PySem.W.keepIn K (.ref f) = true ∧ FnG P w K mg base CX0 k f fd ps sp ∧ KBn K fd ps n ks g gV
/-- the method m of the class at C; n counts self -/
def MetD (k : Nat) (C : Addr) (m : Str) (n : Nat) (ks : List Str) (gV : List V → List V → List V) (sp : Sp) : Prop :=
  ∃ (f : Addr) (fd : FuncData) (ps : List Str) (g : List Value → List Value → List Value), Cls K C ∧ Meth K C m f ∧ FnG P w K mg base CX0 k f fd ps sp ∧ KBn K fd ps n ks g gV
/-- the class x at C, made with n values by place and the names ks -/
def MakD (k : Nat) (x : Str) (C : Addr) (n : Nat) (ks : List Str) (gV : List V → List V → List V) (sp : Sp) : Prop :=
  ∃ (f : Addr) (fd : FuncData) (ps : List Str) (g : List Value → List Value → List Value), mg x = some (.ref C) ∧ Mk K C f ∧ FnG P w K mg base CX0 k f fd ps sp ∧ KBn K fd ps (n + 1) ks g gV
end
abbrev byPlace : List V → List V → List V := fun xs _ => xs
theorem kbn_place {K : PySem.W.Frag} {fd : FuncData} {ps : List Str} (b : Binds K fd ps []) (n : Nat) (h : n = ps.length) : KBn K fd ps n [] (fun us _ => us) byPlace := by
  refine ⟨fun s us ws X l1 l2 => ?_, fun r _ => r⟩
  have ew : ws = [] := List.eq_nil_of_length_eq_zero l2
  subst ew
  have := b s us X (by rw [List.append_nil, l1, h])
  simpa using this
/-- by names: h as in Fun.binds, «fun _ _ _ _ _ _ us ws h1 h2 => match us, ws, h1, h2 with | [_], [_], _, _ => rfl» -/
theorem Fun_kbn {K : PySem.W.Frag} {x ql : Str} {st : Stmt} {f : Addr} {fd : FuncData} {ps : List Str} (F : Fun K x ql st f fd) (n : Nat) (ks : List Str) (g : List Value → List Value → List Value) (gV : List V → List V → List V)
    (rel : ∀ {vs : List V} {us : List Value} {zs : List V} {ws : List Value}, Vals vs us → Vals zs ws → Vals (gV vs zs) (g us ws))
    (h : ∀ (kV doc pm : Value) (an : Option Addr) (cdv ct : Value) (us ws : List Value), us.length = n → ws.length = ks.length →
      bindArgs (PySem.W.fnOf x ql (defArgs st) (defBody st) (defScope st) .none kV doc pm an cdv ct) ⟨us, ks.zip ws⟩ = pure (ps.zip (g us ws))) : KBn K fd ps n ks g gV := by
  obtain ⟨oc, od, kV, doc, pm, an, cdv, ct, osl, rfl, lk, hcd⟩ := F.ex
  exact ⟨fun s us ws X l1 l2 => BindsTo.of_eq (h kV doc pm an cdv ct us ws l1 l2), rel⟩
section
variable {X : Cx} {ks : List Str} {k j n : Nat} {gV : List V → List V → List V} {sp : Sp} {x m : Str} {C : Addr} {p pos apos : Pos} {e o : Expr} {es : List Expr} {kws : List Keyword} {ta : TE} {t tk : TA}
theorem DefD.callV (d : DefD X.prog X.w X.K X.mg X.base k x n ks gV sp) (hG : X.A.guards = some []) (hr : Room j X.A) (hk : k ≤ j) : ∃ f, X.mg x = some (.ref f) ∧ PySem.W.keepIn X.K (.ref f) = true ∧ CallV X (.ref f) ks (rFn n ks.length gV sp E0) := by
  obtain ⟨f, fd, ps, g, hm, kp, F, b⟩ := d
  exact ⟨f, hm, kp, callV_fn F b pass0 hG (hr.mono hk)⟩
theorem MetD.callV (d : MetD X.prog X.w X.K X.mg X.base k C m n ks gV sp) (hG : X.A.guards = some []) (hr : Room j X.A) (hk : k ≤ j) : ∃ f, Cls X.K C ∧ Meth X.K C m f ∧ CallV X (.ref f) ks (rFn n ks.length gV sp E0) := by
  obtain ⟨f, fd, ps, g, hc, hm, F, b⟩ := d
  exact ⟨f, hc, hm, callV_fn F b pass0 hG (hr.mono hk)⟩
theorem MakD.callV (d : MakD X.prog X.w X.K X.mg X.base k x C n ks gV sp) (hG : X.A.guards = some []) (hr : Room j X.A) (hk : k + 1 ≤ j) : X.mg x = some (.ref C) ∧ PySem.W.keepIn X.K (.ref C) = true ∧ CallV X (.ref C) ks (rMk C n ks.length gV sp E0) := by
  obtain ⟨f, fd, ps, g, hm, M, F, b⟩ := d
  exact ⟨hm, M.kp, callV_mk M F b pass0 hG (hr.mono hk)⟩

theorem pd_pos (d : DefD X.prog X.w X.K X.mg X.base k x n [] gV sp) (hG : X.A.guards = some []) (hr : Room j X.A) (hk : k ≤ j) (hg : Gl X x) (ha : PA X (e :: es) t) (hd : (x == ("__debug__" : Str)) = false := by decide)
    (he : starEach (e :: es) X.env = (false, eval e X.env) :: starEach es X.env := by rfl) (hp : (backTo pos (starEach es X.env)).any (·.1) = false := by rfl) : PE X (.Call (.Name x p) (e :: es) [] pos) (tCl (rFn n 0 gV sp E0) t tNil) := by
  obtain ⟨f, hm, kp, c⟩ := d.callV hG hr hk
  exact pn_pos c hg hm kp ha hd he hp
theorem pd_none (d : DefD X.prog X.w X.K X.mg X.base k x n [] gV sp) (hG : X.A.guards = some []) (hr : Room j X.A) (hk : k ≤ j) (hg : Gl X x) (hd : (x == ("__debug__" : Str)) = false := by decide) :
    PE X (.Call (.Name x p) [] [] pos) (tCl (rFn n 0 gV sp E0) tNil tNil) := by
  obtain ⟨f, hm, kp, c⟩ := d.callV hG hr hk
  exact pn_none c hg hm kp hd
theorem pd_kw0 (d : DefD X.prog X.w X.K X.mg X.base k x n ks gV sp) (hG : X.A.guards = some []) (hr : Room j X.A) (hk : k ≤ j) (hg : Gl X x) (hkw : PK X kws tk) (hall : (backToKw pos (keywordEach kws X.env)).all (·.1.isSome) = true := by rfl)
    (hks : (backToKw pos (keywordEach kws X.env)).filterMap (·.1) = ks := by rfl) (hd : (x == ("__debug__" : Str)) = false := by decide)
    (hp : ((backTo pos (starEach [] X.env)).any (·.1) || (backToKw pos (keywordEach kws X.env)).any (·.1.isNone)) = false := by rfl) : PE X (.Call (.Name x p) [] kws pos) (tCl (rFn n ks.length gV sp E0) tNil tk) := by
  obtain ⟨f, hm, kp, c⟩ := d.callV hG hr hk
  exact pn_kw0 c hg hm kp hkw hall hks hd hp
theorem pd_kw (d : DefD X.prog X.w X.K X.mg X.base k x n ks gV sp) (hG : X.A.guards = some []) (hr : Room j X.A) (hk : k ≤ j) (hg : Gl X x) (ha : PA X (e :: es) t) (hkw : PK X kws tk) (hall : (backToKw pos (keywordEach kws X.env)).all (·.1.isSome) = true := by rfl)
    (hks : (backToKw pos (keywordEach kws X.env)).filterMap (·.1) = ks := by rfl) (hd : (x == ("__debug__" : Str)) = false := by decide) (he : starEach (e :: es) X.env = (false, eval e X.env) :: starEach es X.env := by rfl)
    (hp : ((backTo pos (starEach (e :: es) X.env)).any (·.1) || (backToKw pos (keywordEach kws X.env)).any (·.1.isNone)) = false := by rfl) : PE X (.Call (.Name x p) (e :: es) kws pos) (tCl (rFn n ks.length gV sp E0) t tk) := by
  obtain ⟨f, hm, kp, c⟩ := d.callV hG hr hk
  exact pn_kw c hg hm kp ha hkw hall hks hd he hp
theorem pk_pos (d : MakD X.prog X.w X.K X.mg X.base k x C n [] gV sp) (hG : X.A.guards = some []) (hr : Room j X.A) (hk : k + 1 ≤ j) (hg : Gl X x) (ha : PA X (e :: es) t) (hd : (x == ("__debug__" : Str)) = false := by decide)
    (he : starEach (e :: es) X.env = (false, eval e X.env) :: starEach es X.env := by rfl) (hp : (backTo pos (starEach es X.env)).any (·.1) = false := by rfl) : PE X (.Call (.Name x p) (e :: es) [] pos) (tCl (rMk C n 0 gV sp E0) t tNil) := by
  obtain ⟨hm, kp, c⟩ := d.callV hG hr hk
  exact pn_pos c hg hm kp ha hd he hp
theorem pk_kw0 (d : MakD X.prog X.w X.K X.mg X.base k x C n ks gV sp) (hG : X.A.guards = some []) (hr : Room j X.A) (hk : k + 1 ≤ j) (hg : Gl X x) (hkw : PK X kws tk) (hall : (backToKw pos (keywordEach kws X.env)).all (·.1.isSome) = true := by rfl)
    (hks : (backToKw pos (keywordEach kws X.env)).filterMap (·.1) = ks := by rfl) (hd : (x == ("__debug__" : Str)) = false := by decide)
    (hp : ((backTo pos (starEach [] X.env)).any (·.1) || (backToKw pos (keywordEach kws X.env)).any (·.1.isNone)) = false := by rfl) : PE X (.Call (.Name x p) [] kws pos) (tCl (rMk C n ks.length gV sp E0) tNil tk) := by
  obtain ⟨hm, kp, c⟩ := d.callV hG hr hk
  exact pn_kw0 c hg hm kp hkw hall hks hd hp
variable {pl : Sem Bool}
theorem pq_pos (d : MetD X.prog X.w X.K X.mg X.base k C m n [] gV sp) (hG : X.A.guards = some []) (hr : Room j X.A) (hk : k ≤ j) (ho : PE X o ta) (ha : PA X (e :: es) t) (he : starEach (e :: es) X.env = (false, eval e X.env) :: starEach es X.env := by rfl)
    (hp : (backTo pos (starEach es X.env)).any (·.1) = false := by rfl) (ht : eval (.Call (.Attribute o m apos) (e :: es) [] pos) X.env = (do
      let ov ← eval o X.env
      standAt apos.atName
      let (f, first) ← holding [ov] (getMethod ov m pl)
      callWith pos f first (backTo pos (starEach (e :: es) X.env)) (backToKw pos (keywordEach [] X.env))) := by rfl) : PE X (.Call (.Attribute o m apos) (e :: es) [] pos) (tMt C m (rFn n 0 gV sp E0) ta t tNil) := by
  obtain ⟨f, hc, hm, c⟩ := d.callV hG hr hk
  exact pm_pos c hc hm ho ha he hp ht
theorem pq_none (d : MetD X.prog X.w X.K X.mg X.base k C m n [] gV sp) (hG : X.A.guards = some []) (hr : Room j X.A) (hk : k ≤ j) (ho : PE X o ta) (ht : eval (.Call (.Attribute o m apos) [] [] pos) X.env = (do
      let ov ← eval o X.env
      standAt apos.atName
      let (f, first) ← holding [ov] (getMethod ov m pl)
      callWith pos f first (backTo pos (starEach [] X.env)) (backToKw pos (keywordEach [] X.env))) := by rfl) : PE X (.Call (.Attribute o m apos) [] [] pos) (tMt C m (rFn n 0 gV sp E0) ta tNil tNil) := by
  obtain ⟨f, hc, hm, c⟩ := d.callV hG hr hk
  exact pm_none c hc hm ho ht
theorem pq_kw0 (d : MetD X.prog X.w X.K X.mg X.base k C m n ks gV sp) (hG : X.A.guards = some []) (hr : Room j X.A) (hk : k ≤ j) (ho : PE X o ta) (hkw : PK X kws tk) (hall : (backToKw pos (keywordEach kws X.env)).all (·.1.isSome) = true := by rfl)
    (hks : (backToKw pos (keywordEach kws X.env)).filterMap (·.1) = ks := by rfl)
    (hp : ((backTo pos (starEach [] X.env)).any (·.1) || (backToKw pos (keywordEach kws X.env)).any (·.1.isNone)) = false := by rfl) (ht : eval (.Call (.Attribute o m apos) [] kws pos) X.env = (do
      let ov ← eval o X.env
      standAt apos.atName
      let (f, first) ← holding [ov] (getMethod ov m pl)
      callWith pos f first (backTo pos (starEach [] X.env)) (backToKw pos (keywordEach kws X.env))) := by rfl) : PE X (.Call (.Attribute o m apos) [] kws pos) (tMt C m (rFn n ks.length gV sp E0) ta tNil tk) := by
  obtain ⟨f, hc, hm, c⟩ := d.callV hG hr hk
  exact pm_kw0 c hc hm ho hkw hall hks hp ht
end

/-! ## built-ins, their readings by name -/
section
variable {X : Cx}
def rInt1 : List V → Hp → VK → Prop := fun xs H Q => (∃ i, xs = [.int i] ∧ Q (.int i) H) ∨ ∃ k, xs = [.bl k] ∧ Q (.int (if k then 1 else 0)) H
theorem c_int : CallR X (.type "int") rInt1 := call_int1
def rAbs : List V → Hp → VK → Prop := fun xs H Q => ∃ i, xs = [.int i] ∧ Q (.int (if i < 0 then -i else i)) H
theorem c_abs : CallR X (.builtin "abs") rAbs := call_abs
def rMax2 : List V → Hp → VK → Prop := fun xs H Q => ∃ i j, xs = [.int i, .int j] ∧ Q (.int (if j > i then j else i)) H
theorem c_max2 (hc : X.calm = true) : CallR X (.builtin "max") rMax2 := call_max2 hc
def rMin2 : List V → Hp → VK → Prop := fun xs H Q => ∃ i j, xs = [.int i, .int j] ∧ Q (.int (if j < i then j else i)) H
theorem c_min2 (hc : X.calm = true) : CallR X (.builtin "min") rMin2 := call_min2 hc
def rBool1 : List V → Hp → VK → Prop := fun xs H Q => (∃ i, xs = [.int i] ∧ Q (.bl (i != 0)) H) ∨ ∃ k, xs = [.bl k] ∧ Q (.bl k) H
theorem c_bool : CallR X (.type "bool") rBool1 := call_bool1
def rStrI : List V → Hp → VK → Prop := fun xs H Q => ∃ i, xs = [.int i] ∧ i.natAbs.log2 < 1920 ∧ Q (.str (toString i)) H
theorem c_str : CallR X (.type "str") rStrI := call_str_int
def rLen (K : PySem.W.Frag) : List V → Hp → VK → Prop := fun xs H Q => ∃ x n, xs = [x] ∧ LenV K x H n ∧ Q (.int n) H
theorem c_len : CallR X (.builtin "len") (rLen X.K) := call_len
def rListOf (K : PySem.W.Frag) : List V → Hp → VK → Prop := fun xs H Q => ∃ p ys, xs = [.ref p] ∧ (SqL K H p ys ∨ SqT K H p ys) ∧ ∀ l, H l = none → Q (.ref l) (upd H l (.lst ys))
theorem c_list : CallR X (.type "list") (rListOf X.K) := call_list_of
def rTupleOf (K : PySem.W.Frag) : List V → Hp → VK → Prop := fun xs H Q => ∃ p ys, xs = [.ref p] ∧ ((SqL K H p ys ∧ ∀ l, H l = none → Q (.ref l) (upd H l (.tup ys))) ∨ (SqT K H p ys ∧ Q (.ref p) H))
theorem c_tuple : CallR X (.type "tuple") (rTupleOf X.K) := call_tuple_of
def rIntS : List V → Hp → VK → Prop := fun xs H Q => ∃ a n, xs = [.str a] ∧ PySem.intText? a = some n ∧ a.length ≤ 640 ∧ Q (.int n) H
theorem c_intS : CallR X (.type "int") rIntS := call_int_str
end

theorem pe_cls {X : Cx} {x : Str} {pos : Pos} {C : Addr} (hg : Gl X x) (hm : X.mg x = some (.ref C)) (hd : (x == ("__debug__" : Str)) = false := by decide) : PE X (.Name x pos) (tC (.ref C)) := pe_glob hg hm rfl hd
/-! ## readings, step by step -/
section
variable {σ : L2.St} {H : Hp} {Q : VK} {D : Ends} {K : PySem.W.Frag} {E : XK}
theorem r_seq {t : TS} {u : TS} (h : t { D with nx := u D } σ H) : tSeq t u D σ H := h
theorem r_asgN {te : TE} {i : Nat} (h : te σ H fun x H1 => D.nx (σ.set i (some x)) H1) : tAsg te (gName i) D σ H := h
theorem r_asg {te : TE} {g : TG} (h : te σ H fun x H1 => g x σ H1 D.nx) : tAsg te g D σ H := h
theorem r_gname {i : Nat} {v : V} {q : L2.St → Hp → Prop} (h : q (σ.set i (some v)) H) : gName i v σ H q := h
theorem r_gsub {to ti : TE} {t : TSet} {x : V} {q : L2.St → Hp → Prop} (h : to σ H fun o H1 => ti σ H1 fun i H2 => t o i x H2 fun H3 => q σ H3) : gSub to ti t x σ H q := h
theorem r_var {i : Nat} {v : V} (e : σ[i]? = some (some v)) (h : Q v H) : tVar i σ H Q := ⟨v, e, h⟩
theorem r_c {v : V} (h : Q v H) : tC v σ H Q := h
theorem r_op {r : R2} {ta tb : TE} (h : ta σ H fun x H1 => tb σ H1 fun y H2 => r x y H2 Q) : tOp r ta tb σ H Q := h
theorem r_un {r : V → Hp → VK → Prop} {ta : TE} (h : ta σ H fun x H1 => r x H1 Q) : tUn r ta σ H Q := h
theorem r_u {g : Int → V} {i : Int} (h : Q (g i) H) : rU g (.int i) H Q := ⟨i, rfl, h⟩
theorem r_i0 {g : Int → Int → V} {i j : Int} (h : Q (g i j) H) : rI0 g (.int i) (.int j) H Q := ⟨i, j, rfl, rfl, h⟩
theorem r_i {C : Int → Int → Prop} {g : Int → Int → V} {i j : Int} (hc : C i j) (h : Q (g i j) H) : rI C g (.int i) (.int j) H Q := ⟨i, j, rfl, rfl, hc, h⟩
theorem r_eqI {i j : Int} (h : Q (.bl (decide (V.int i = V.int j))) H) : rEq (.int i) (.int j) H Q := ⟨rfl, h⟩
theorem r_neI {i j : Int} (h : Q (.bl (!decide (V.int i = V.int j))) H) : rNe (.int i) (.int j) H Q := ⟨rfl, h⟩
theorem r_eqB {i j : Bool} (h : Q (.bl (decide (V.bl i = V.bl j))) H) : rEq (.bl i) (.bl j) H Q := ⟨rfl, h⟩
theorem r_neB {i j : Bool} (h : Q (.bl (!decide (V.bl i = V.bl j))) H) : rNe (.bl i) (.bl j) H Q := ⟨rfl, h⟩
theorem r_eqS {i j : Str} (h : Q (.bl (decide (V.str i = V.str j))) H) : rEq (.str i) (.str j) H Q := ⟨rfl, h⟩
theorem r_neS {i j : Str} (h : Q (.bl (!decide (V.str i = V.str j))) H) : rNe (.str i) (.str j) H Q := ⟨rfl, h⟩
theorem r_cb {r : List V → Hp → VK → Prop} {t : TA} (h : t σ H fun xs H1 => r xs H1 Q) : tCB r t σ H Q := h
theorem r_cl {r : List V → List V → Hp → VK → Prop} {t tk : TA} (h : t σ H fun xs H1 => tk σ H1 fun ys H2 => r xs ys H2 Q) : tCl r t tk σ H Q := h
theorem r_fn {n m : Nat} {gV : List V → List V → List V} {sp : Sp} {xs ys : List V} (h1 : xs.length = n) (h2 : ys.length = m) (h : sp (gV xs ys) H Q E) : rFn n m gV sp E xs ys H Q := ⟨h1, h2, h⟩
theorem r_mk {C : Addr} {n m : Nat} {gV : List V → List V → List V} {sp : Sp} {xs ys : List V} (h1 : xs.length = n) (h2 : ys.length = m)
    (h : ∀ x dx, H x = none → H dx = none → dx ≠ x → sp (gV (.ref x :: xs) ys) (upd (upd H dx (.own x)) x (.ins C dx [])) (fun v G => v = .non ∧ Q (.ref x) G) E) : rMk C n m gV sp E xs ys H Q := ⟨h1, h2, h⟩
theorem r_mt {C : Addr} {m : Str} {r : List V → List V → Hp → VK → Prop} {ta : TE} {t tk : TA} (h : ta σ H fun x H1 => ∃ a dx fs, x = .ref a ∧ H1 a = some (.ins C dx fs) ∧ List.lookup m fs = none ∧ t σ H1 fun xs H2 => tk σ H2 fun ys H3 => r (.ref a :: xs) ys H3 Q) : tMt C m r ta t tk σ H Q := h
theorem r_cons {ta : TE} {tr : TA} {q : List V → Hp → Prop} (h : ta σ H fun x H1 => tr σ H1 fun xs H2 => q (x :: xs) H2) : tCons ta tr σ H q := h
theorem r_nil {q : List V → Hp → Prop} (h : q [] H) : tNil σ H q := h
theorem r_test {t : TE} {q : Bool → Hp → Prop} (h : t σ H fun x H1 => ∃ k, x = .bl k ∧ q k H1) : tTest t σ H q := h
theorem r_tb {t : TE} {q : Bool → Hp → Prop} (h : t σ H fun x H1 => ∃ k, x = .bl k ∧ q k H1) : tB t σ H q := h
theorem r_bl {b : Bool} {q : Bool → Prop} (h : q b) : ∃ k, V.bl b = V.bl k ∧ q k := ⟨b, rfl, h⟩
theorem r_and {t u : TT} {q : Bool → Hp → Prop} (h : t σ H fun c H1 => if c = true then u σ H1 q else q false H1) : tAnd t u σ H q := h
theorem r_or {t u : TT} {q : Bool → Hp → Prop} (h : t σ H fun c H1 => if c = true then q true H1 else u σ H1 q) : tOr t u σ H q := h
theorem r_not {t : TT} {q : Bool → Hp → Prop} (h : t σ H fun c H1 => q (!c) H1) : tNot t σ H q := h
theorem r_andV {ta tb : TE} (h : ta σ H fun x H1 => ∃ c, x = .bl c ∧ if c = true then tb σ H1 Q else Q (.bl false) H1) : tAndV ta tb σ H Q := h
theorem r_orV {ta tb : TE} (h : ta σ H fun x H1 => ∃ c, x = .bl c ∧ if c = true then Q (.bl true) H1 else tb σ H1 Q) : tOrV ta tb σ H Q := h
theorem r_notV {ta : TE} (h : ta σ H fun x H1 => ∃ c, x = .bl c ∧ Q (.bl (!c)) H1) : tNotV ta σ H Q := h
theorem r_ifX {c : TT} {ta tb : TE} (h : c σ H fun k H1 => if k = true then ta σ H1 Q else tb σ H1 Q) : tIf c ta tb σ H Q := h
theorem r_ifs {c : TT} {t u : TS} (h : c σ H fun b H1 => if b = true then t D σ H1 else u D σ H1) : tIfS c t u D σ H := h
theorem r_chain {r r' : R2} {ta tb tc : TE} (h : ta σ H fun x H1 => tb σ H1 fun y H2 => r x y H2 fun z H3 => ∃ k, z = .bl k ∧ (if k = true then tc σ H3 fun w' H4 => r' y w' H4 Q else Q (.bl false) H3)) : tChain r r' ta tb tc σ H Q := h
theorem r_ret {te : TE} (h : te σ H D.rt) : tRet te D σ H := h
theorem r_next (h : D.nx σ H) : tNext D σ H := h
theorem r_drop {te : TE} (h : te σ H fun _ H1 => D.nx σ H1) : tDrop te D σ H := h
theorem r_ixL {p : Addr} {xs : List V} {i : Int} {v : V} (h : SqL K H p xs) (e : atI xs i = some v) (q : Q v H) : rIxL K (.ref p) (.int i) H Q := ⟨p, xs, i, v, rfl, rfl, h, e, q⟩
theorem r_ixT {p : Addr} {xs : List V} {i : Int} {v : V} (h : SqT K H p xs) (e : atI xs i = some v) (q : Q v H) : rIxT K (.ref p) (.int i) H Q := ⟨p, xs, i, v, rfl, rfl, h, e, q⟩
theorem r_setL {p : Addr} {xs : List V} {k : Int} {j : Nat} {v : V} {q : Hp → Prop} (h : H p = some (.lst xs)) (e : ixN xs.length k = some j) (hq : q (upd H p (.lst (xs.set j v)))) : rSetL (.ref p) (.int k) v H q := ⟨p, xs, k, j, rfl, rfl, h, e, hq⟩
theorem r_int1 {i : Int} (h : Q (.int i) H) : rInt1 [.int i] H Q := .inl ⟨i, rfl, h⟩
theorem r_abs {i : Int} (h : Q (.int (if i < 0 then -i else i)) H) : rAbs [.int i] H Q := ⟨i, rfl, h⟩
theorem r_max2 {i j : Int} (h : Q (.int (if j > i then j else i)) H) : rMax2 [.int i, .int j] H Q := ⟨i, j, rfl, h⟩
theorem r_min2 {i j : Int} (h : Q (.int (if j < i then j else i)) H) : rMin2 [.int i, .int j] H Q := ⟨i, j, rfl, h⟩
theorem r_boolB {k : Bool} (h : Q (.bl k) H) : rBool1 [.bl k] H Q := .inr ⟨k, rfl, h⟩
theorem r_strI {i : Int} (hi : i.natAbs.log2 < 1920) (h : Q (.str (toString i)) H) : rStrI [.int i] H Q := ⟨i, rfl, hi, h⟩
theorem r_lenL {p : Addr} {xs : List V} (hs : SqL K H p xs) (h : Q (.int (xs.length : Nat)) H) : rLen K [.ref p] H Q := ⟨.ref p, xs.length, rfl, .inl ⟨xs, hs, rfl⟩, h⟩
theorem r_lenT {p : Addr} {xs : List V} (hs : SqT K H p xs) (h : Q (.int (xs.length : Nat)) H) : rLen K [.ref p] H Q := ⟨.ref p, xs.length, rfl, .inr ⟨xs, hs, rfl⟩, h⟩
theorem r_lenS {y : Str} (hy : y.length ≤ sizeLine) (h : Q (.int (y.length : Nat)) H) : rLen K [.str y] H Q := ⟨.str y, y.length, rfl, ⟨hy, rfl⟩, h⟩
theorem r_listL {p : Addr} {ys : List V} (hs : SqL K H p ys) (h : ∀ l, H l = none → Q (.ref l) (upd H l (.lst ys))) : rListOf K [.ref p] H Q := ⟨p, ys, rfl, .inl hs, h⟩
theorem r_listT {p : Addr} {ys : List V} (hs : SqT K H p ys) (h : ∀ l, H l = none → Q (.ref l) (upd H l (.lst ys))) : rListOf K [.ref p] H Q := ⟨p, ys, rfl, .inr hs, h⟩
theorem r_tupleL {p : Addr} {ys : List V} (hs : SqL K H p ys) (h : ∀ l, H l = none → Q (.ref l) (upd H l (.tup ys))) : rTupleOf K [.ref p] H Q := ⟨p, ys, rfl, .inl ⟨hs, h⟩⟩
theorem r_tupleT {p : Addr} {ys : List V} (hs : SqT K H p ys) (h : Q (.ref p) H) : rTupleOf K [.ref p] H Q := ⟨p, ys, rfl, .inr ⟨hs, h⟩⟩
theorem r_isiB {x : V} {t T : String} {b : Bool} (ty : TyX K H x (.type t)) (hk : kitB t T = some b) (h : Q (.bl b) H) : rIsi K [x, .ty T] H Q := ⟨x, .ty T, .type t, .type T, b, rfl, .ty T, ty, kit_ty hk, h⟩
theorem r_isiO {x : V} {t : Value} {C : Addr} {b : Bool} (ty : TyX K H x t) (hk : PySem.W.kitOne K t (.ref C) = some b) (h : Q (.bl b) H) : rIsi K [x, .ref C] H Q := ⟨x, .ref C, t, .ref C, b, rfl, .own C, ty, hk, h⟩
theorem r_tup {t : TA} (h : t σ H fun xs H1 => xs.length ≤ sizeLine ∧ ∀ p, H1 p = none → Q (.ref p) (upd H1 p (.tup xs))) : tTup t σ H Q := h
theorem r_lst {t : TA} (h : t σ H fun xs H1 => xs.length ≤ sizeLine ∧ ∀ p, H1 p = none → Q (.ref p) (upd H1 p (.lst xs))) : tLst t σ H Q := h
theorem r_rng1 {t : TA} {R : It → Hp → Prop} (h : t σ H fun vs H1 => ∃ j : Int, vs = [.int j] ∧ -(2 ^ 62) ≤ j ∧ j < 2 ^ 62 ∧ R (Itr 0 j.toNat) H1) : iRng1 t σ H R := h
theorem r_rng2 {t : TA} {R : It → Hp → Prop} (h : t σ H fun vs H1 => ∃ i j : Int, vs = [.int i, .int j] ∧ (-(2 ^ 62) ≤ i ∧ i < 2 ^ 62 ∧ -(2 ^ 62) ≤ j ∧ j < 2 ^ 62) ∧ R (Itr i (j - i).toNat) H1) : iRng2 t σ H R := h
theorem r_sfld {ta tv : TE} {f : Str} (h : tv σ H fun y H1 => ta σ H1 fun x H2 => ∃ a C dx fs, x = .ref a ∧ H2 a = some (.ins C dx fs) ∧ Cls K C ∧ NoAttr K C f ∧ fs.length < 1000 ∧ D.nx σ (upd H2 a (.ins C dx (putF f y fs)))) : sFld K ta tv f D σ H := h
theorem r_m0 {r : V → List V → Hp → VK → Prop} {to : TE} (h : to σ H fun x H1 => (∃ a, x = .str a) ∧ r x [] H1 Q) : tM0 r to σ H Q := h
theorem r_m1 {r : V → List V → Hp → VK → Prop} {to te : TE} (h : to σ H fun x H1 => (∃ a, x = .str a) ∧ te σ H1 fun y H2 => r x [y] H2 Q) : tM1 r to te σ H Q := h
theorem r_fld {ta : TE} {f : Str} (h : tFld K ta f σ H Q) : tFld K ta f σ H Q := h
end
end Eld
set_option Elab.async false
set_option maxRecDepth 100000
set_option maxHeartbeats 4000000
set_option linter.all false
namespace Eld
open PySem PySem.Spec PyProof.Rows L2
section
variable {X : Cx}
/-! ### a tuple of which it is known that it has no dict -/
/-- a tuple that was made of a list here: it has no dict, so its methods may be asked -/
def BareT (H : Hp) (a : Addr) (ys : List V) : Prop := ∃ o : Obj, H a = some (.frz o (.tup ys)) ∧ o.dict = none
theorem BareT.sq {K : PySem.W.Frag} {H : Hp} {a : Addr} {ys : List V} (h : BareT H a ys) : SqT K H a ys := by
  obtain ⟨o, e, _⟩ := h
  exact .inl (.inr ⟨o, e⟩)
/-- tuple(l) of a list, the new tuple being known as one without a dict -/
def rTupleB (K : PySem.W.Frag) : List V → Hp → VK → Prop := fun xs H Q => ∃ p ys, xs = [.ref p] ∧ SqL K H p ys ∧ ∀ l (o : Obj), H l = none → o.dict = none → Q (.ref l) (upd H l (.frz o (.tup ys)))
theorem call_tupleB : CallR X (.type "tuple") (rTupleB X.K) := by
  intro pins s σ H xs us Q I r h
  obtain ⟨p, ys, rfl, hq, q⟩ := h
  obtain ⟨u, rfl, rx⟩ := vals1 r
  cases rx
  obtain ⟨its, r', pl, hz⟩ := I.list hq
  have hlen := r'.length
  refine call_tuple_list pl.isList (fun h' kp => ?_) (by simp only [List.size_toArray] <;> omega)
  have I1 : Inv X pins σ H { s with heap := h' } := I.kept (t' := s.toks) kp
  have I2 : Inv X pins σ (upd H h'.objs.size (.frz { cls := .type "tuple", data := .seq its.toArray } (.tup ys))) { s with heap := h'.push { cls := .type "tuple", data := .seq its.toArray } } :=
    I1.laid (t' := s.toks) (fun b o e => Heap.get?_push_of_some _ e) (Nat.le_refl _) (show ObjOk X.prog X.w _ _ _ (.frz _ (.tup ys)) from ⟨Heap.get?_push_size _ rfl, hz, its, r', IsTup.new _ _⟩)
  exact ⟨.ref h'.objs.size, _, I2, rfl, q _ _ (I1.hok.fresh (Nat.le_refl _)) rfl⟩
/-- o.m(e, ..) of such a tuple -/
def tTM (r : V → List V → Hp → VK → Prop) (to : TE) (t : TA) : TE := fun σ H Q => to σ H fun x H1 => (∃ a ys, x = .ref a ∧ BareT H1 a ys) ∧ t σ H1 fun xs H2 => r x xs H2 Q
variable {o e : Expr} {es : List Expr} {to : TE} {t : TA} {name : Str} {apos cpos : Pos} {id : String} {r : V → List V → Hp → VK → Prop}
theorem pe_tm (pa : PlainAttrs "tuple") (slot : Slot "tuple" name id) (hty : typeOf (.builtin id) = pure (.type "method_descriptor")) (hm : MtR X id r) (ho : PE X o to) (ha : PA X (e :: es) t)
    (hbase : attributeBase o name X.env (eval o X.env) = eval o X.env := by rfl)
    (hfew : ((backTo cpos (starEach (e :: es) X.env)).all (fun x => !x.1) && (backToKw cpos (keywordEach [] X.env)).all (fun x => x.1.isSome)
      && decide ((e :: es).length + ([] : List Keyword).length + (if ([] : List Keyword).isEmpty then 0 else 1) < 30)) = true := by rfl)
    (hline : (apos.endLine == cpos.line) = true := by rfl) (hs : starEach (e :: es) X.env = (false, eval e X.env) :: starEach es X.env := by rfl) (hplain : (backTo cpos (starEach es X.env)).any (·.1) = false := by rfl) :
    PE X (.Call (.Attribute o name apos) (e :: es) [] cpos) (tTM r to t) := by
  refine ⟨fun pins s σ H Q I h => ?_⟩
  refine wpAny_Call_method_late hbase hfew hline rfl (thn (ho.run pins s σ H _ I h) fun v s1 ⟨x, H1, I1, r1, ty, q1⟩ => ?_)
  obtain ⟨a, ys, rfl, ob, hob, hd⟩ := ty
  cases r1
  obtain ⟨g1, _, its, _, ob', g2, c2, _⟩ := (show ObjOk X.prog X.w H1 s1.heap a (.frz ob (.tup ys)) from I1.hok a _ hob)
  have h1 : s1.TypeIs (.ref a) "tuple" := ⟨ob', g2, c2⟩
  have h2 : ∀ b, Value.ref a = .ref b → ∃ ob, s1.heap.get? b = some ob ∧ ob.dict = none := fun b e => by cases e; exact ⟨ob, g1, hd⟩
  refine ⟨"tuple", id, pa, slot, hty, h1, h2, ?_⟩
  have hA := ha.run cpos pins s1 σ H1 _ I1 q1
  rw [hs] at hA ⊢
  refine Calls.callWith_builtin (by show (false || (backTo cpos (starEach es X.env)).any (·.1)) = false; rw [hplain] <;> rfl) (Calls.evalArgs_plain ?_)
  exact thn hA fun us s2 ⟨vs, H2, I2, r2, q2⟩ => hm pins s2 σ H2 (.ref a) vs (.ref a) us Q I2 rfl r2 q2
end
end Eld
set_option Elab.async false
set_option maxRecDepth 100000
set_option maxHeartbeats 4000000
set_option linter.all false
namespace Eld
open PySem PySem.Spec PyProof.Rows L2
/-! ## data with empty dicts in it -/
mutual
inductive Dx (K : PySem.W.Frag) (H : Hp) : V → PyData → Prop
  | non : Dx K H .non .none
  | bl (b : Bool) : Dx K H (.bl b) (.bool b)
  | int (i : Int) : Dx K H (.int i) (.int i)
  | str (x : Str) : Dx K H (.str x) (.str x)
  | lst {a : Addr} {xs : List V} {ds : List PyData} (h : H a = some (.lst xs)) (r : DxAll K H xs ds) : Dx K H (.ref a) (.list ds)
  | tup {a : Addr} {xs : List V} {ds : List PyData} (h : H a = some (.tup xs)) (r : DxAll K H xs ds) : Dx K H (.ref a) (.tuple ds)
  | emp {a : Addr} (h : H a = some (.dK [])) : Dx K H (.ref a) (.dict [])
inductive DxAll (K : PySem.W.Frag) (H : Hp) : List V → List PyData → Prop
  | nil : DxAll K H [] []
  | cons {v : V} {vs : List V} {d : PyData} {ds : List PyData} (h : Dx K H v d) (r : DxAll K H vs ds) : DxAll K H (v :: vs) (d :: ds)
end
section
variable {K : PySem.W.Frag} {H H' : Hp}
mutual
theorem Dx.same (s : Same H H') : ∀ (d : PyData) (v : V), Dx K H v d → Dx K H' v d
  | .none, _, h => by cases h; exact .non
  | .bool b, _, h => by cases h; exact .bl b
  | .int i, _, h => by cases h; exact .int i
  | .str x, _, h => by cases h; exact .str x
  | .list ds, _, h => by
    cases h with
    | lst e r => exact .lst (s _ _ e) (DxAll.same s ds _ r)
  | .tuple ds, _, h => by
    cases h with
    | tup e r => exact .tup (s _ _ e) (DxAll.same s ds _ r)
  | .dict _, _, h => by
    cases h with
    | emp e => exact .emp (s _ _ e)
theorem DxAll.same (s : Same H H') : ∀ (ds : List PyData) (vs : List V), DxAll K H vs ds → DxAll K H' vs ds
  | [], _, h => by cases h; exact .nil
  | d :: ds, _, h => by
    cases h with
    | cons h r => exact .cons (Dx.same s d _ h) (DxAll.same s ds _ r)
end
/-- the type's name -/
def tyD : PyData → String
  | .none => "NoneType"
  | .bool _ => "bool"
  | .int _ => "int"
  | .str _ => "str"
  | .list _ => "list"
  | .tuple _ => "tuple"
  | .dict _ => "dict"
theorem Dx.ty : ∀ {v : V} {d : PyData}, Dx K H v d → TyX K H v (.type (tyD d))
  | _, _, .non => .base .non
  | _, _, .bl b => .base (.bl b)
  | _, _, .int i => .base (.int i)
  | _, _, .str x => .base (.str x)
  | _, _, .lst h _ => .base (.lst h)
  | _, _, .tup h _ => .base (.tup h)
  | _, _, .emp h => .base (.dK h)
mutual
/-- no dict in it: plain data -/
theorem Dx.plain : ∀ (d : PyData) (v : V), Dx K H v d → d.hasDict = false → Dp K H v d
  | .none, _, h, _ => by cases h; exact .non
  | .bool b, _, h, _ => by cases h; exact .bl b
  | .int i, _, h, _ => by cases h; exact .int i
  | .str x, _, h, _ => by cases h; exact .str x
  | .list ds, _, h, n => by
    cases h with
    | lst e r => exact .lst (SqL.of e) (DxAll.plain ds _ r (by simpa [PyData.hasDict] using n))
  | .tuple ds, _, h, n => by
    cases h with
    | tup e r => exact .tup (SqT.of e) (DxAll.plain ds _ r (by simpa [PyData.hasDict] using n))
  | .dict _, _, h, n => by simp [PyData.hasDict] at n
theorem DxAll.plain : ∀ (ds : List PyData) (vs : List V), DxAll K H vs ds → PyData.hasDictAll ds = false → DpAll K H vs ds
  | [], _, h, _ => by cases h; exact .nil
  | d :: ds, _, h, n => by
    simp only [PyData.hasDictAll, Bool.or_eq_false_iff] at n
    cases h with
    | cons h r => exact .cons (Dx.plain d _ h n.1) (DxAll.plain ds _ r n.2)
end
theorem DxAll.length : ∀ {vs : List V} {ds : List PyData}, DxAll K H vs ds → vs.length = ds.length
  | _, _, .nil => rfl
  | _, _, .cons _ r => by rw [List.length_cons, List.length_cons, DxAll.length r]
theorem DxAll.at_ : ∀ {vs : List V} {ds : List PyData} {i : Nat} {v : V}, DxAll K H vs ds → vs[i]? = some v → ∃ d, ds[i]? = some d ∧ Dx K H v d
  | _, _, _, _, .nil, e => by simp at e
  | _, _, 0, _, .cons h _, e => by cases e; exact ⟨_, rfl, h⟩
  | _, _, i + 1, _, .cons _ r, e => DxAll.at_ (i := i) r (by simpa using e)
end
section
variable {X : Cx} {pins : List (Addr × Obj)} {σ : L2.St} {H : Hp} {s : Shared}
/-- the table of modules is there ahead of all -/
def ModsD (base : Heap) : Prop := ∃ o : Obj, base.get? sysModules = some o
theorem not_mods (I : Inv X pins σ H s) (m : ModsD X.base) {a : Addr} {o : HO} (e : H a = some o) : a ≠ sysModules := by
  rintro rfl
  obtain ⟨o', k⟩ := m
  rw [(I.bs _ _ k).2] at e
  cases e
mutual
theorem Dx.reads (I : Inv X pins σ H s) (m : ModsD X.base) : ∀ (d : PyData) (v : V) (u : Value), Dx X.K H v d → RelV v u → ∃ as, Reads s.heap u d as ∧ sysModules ∉ as
  | .none, _, _, h, r => by
    cases h
    cases r
    exact ⟨_, .none, by simp⟩
  | .bool b, _, _, h, r => by
    cases h
    cases r
    exact ⟨_, .bool b, by simp⟩
  | .int i, _, _, h, r => by
    cases h
    obtain ⟨t, rfl⟩ := r
    exact ⟨_, .int i t, by simp⟩
  | .str x, _, _, h, r => by
    cases h
    obtain ⟨t, rfl⟩ := r
    exact ⟨_, .str x t, by simp⟩
  | .list ds, _, _, h, r => by
    cases h with
    | lst e ra =>
      cases r
      obtain ⟨its, rv, ⟨o, n, ho, hc, _, hd⟩, _⟩ := I.list (SqL.of e)
      obtain ⟨as, hr, hn⟩ := DxAll.reads I m ds _ its ra rv
      refine ⟨_, .list ho hc hd hr, ?_⟩
      simp only [List.mem_cons, not_or]
      exact ⟨fun z => not_mods I m e z.symm, hn⟩
  | .tuple ds, _, _, h, r => by
    cases h with
    | tup e ra =>
      cases r
      obtain ⟨its, rv, ⟨o, ho, hc, n, hd⟩, _⟩ := I.tuple (SqT.of e)
      obtain ⟨as, hr, hn⟩ := DxAll.reads I m ds _ its ra rv
      exact ⟨_, .tuple ho hc hd hr, hn⟩
  | .dict _, _, _, h, r => by
    cases h with
    | @emp a e =>
      cases r
      obtain ⟨_, ns, vs, kv, o, es, ep, ho, ex, hd, _, pr, _⟩ := (show ObjOk X.prog X.w H s.heap a (.dK []) from I.hok a _ e)
      cases kv
      have el : es.toList = [] := by
        cases h2 : es.toList with
        | nil => rfl
        | cons z zs => rw [h2] at pr; cases pr
      refine ⟨_, .dict (as := []) (bs := []) ho ex.1 hd (by rw [el]; exact .nil) (by rw [el]; exact .nil), ?_⟩
      simp only [List.nil_append, List.append_nil, List.mem_singleton]
      intro z
      rw [z] at ns
      simp at ns
theorem DxAll.reads (I : Inv X pins σ H s) (m : ModsD X.base) : ∀ (ds : List PyData) (vs : List V) (us : List Value), DxAll X.K H vs ds → Vals vs us → ∃ as, ReadsAll s.heap us ds as ∧ sysModules ∉ as
  | [], _, _, h, r => by
    cases h
    cases r
    exact ⟨_, .nil, by simp⟩
  | d :: ds, _, _, h, r => by
    cases h with
    | cons h1 h2 =>
      cases r with
      | cons r1 r2 =>
        obtain ⟨as, q1, n1⟩ := Dx.reads I m d _ _ h1 r1
        obtain ⟨bs, q2, n2⟩ := DxAll.reads I m ds _ _ h2 r2
        refine ⟨_, .cons q1 q2, ?_⟩
        simp only [List.mem_append, not_or]
        exact ⟨n1, n2⟩
end
def rReprX (K : PySem.W.Frag) : List V → Hp → VK → Prop := fun xs H Q => ∃ a d, xs = [.ref a] ∧ Dx K H (.ref a) d ∧ d.showable = true ∧ d.depth ≤ 60 ∧ d.shown.length ≤ sizeLine ∧ Q (.str d.shown) H
theorem call_reprX (m : ModsD X.base) (hG : X.A.guards = some []) (hu : X.A.units + 64 < cLine) : CallR X (.builtin "repr") (rReprX X.K) := by
  rintro pins s σ H xs us Q I r ⟨a, d, rfl, dx, sh, dd, sz, q⟩
  obtain ⟨u, rfl, ru⟩ := vals1 r
  obtain ⟨as, rd, nm⟩ := Dx.reads I m d _ u dx ru
  cases ru
  exact repr_of_reads' rd sh (fun _ => nm) hG (by omega) (fun _ _ e => e) (fun h' u tk hk => ⟨.str d.shown, H, I.kept hk, ⟨_, rfl⟩, q⟩) sz
end
end Eld
set_option Elab.async false
set_option maxRecDepth 100000
set_option maxHeartbeats 4000000
set_option linter.all false
namespace Eld
open PySem PySem.Spec PyProof.Rows L2
section
variable {P : Program} {w : World} {K : PySem.W.Frag} {mg mb : Str → Option Value} {CX : CXT} {k : Nat} {fa a : Addr} {fd : FuncData} {x : Str} {sp : Sp} {z : Shared} {vs : List Value} {ns : List Int}
/-- from an abstract heap G in which at most the script is told -/
theorem law_fromM (G : Hp) (only : Only G) (here : ∀ b, G b ≠ none → b = a) (notK : G a ≠ none → K.lookup a = none) (seen : SqL K G a (ns.map V.int)) (ok : HOk P w G z.heap)
    (inK : K.In z.heap) (gl : z.heap.Ns mainGlobals mg) (bn : z.heap.Ns builtinsNs mb) (bb : ∀ y : Str, y ≠ "__name__" → mb y = bootBuiltins y) (nolim : z.heap.NoLimit) (gens : z.gens = #[])
    (ha : z.heap.get? a = some { cls := .type "list", data := .seq vs.toArray }) (rm : Room k callerA) (hmod : ∃ mm, z.heap.Ns sysModules mm) (F : ∀ base : Heap, K.In base → base.Ns mainGlobals mg → ModsD base → FnG P w K mg base CX k fa fd [x] sp)
    (bt : ∀ (s : Shared) (u : Value), BindsTo s fd ⟨[u], []⟩ [(x, u)]) (want : sp [.ref a] G (fun v _ => v = .bl true) fun _ _ _ => False) (noErr : ∀ e z', CX [] G z (fun _ _ _ => False) e z' → False) :
    codeAny (model P w) callerA (.call (.ref fa) ⟨[.ref a], []⟩) (LawR z) z := by
  have out : ∀ {b : Addr} {o : Obj}, z.heap.get? b = some o → b ≠ a → G b = none := fun {b o} _ ne => by
    cases q : G b with
    | none => rfl
    | some u => exact absurd (here b (by rw [q]; exact Option.some_ne_none u)) ne
  have off : ∀ {b : Addr} {m : Str → Option Value}, z.heap.Ns b m → (hidT z.heap G).Ns b m := by
    rintro b m ⟨o, es, ep, e, d, r⟩
    have ne : b ≠ a := by
      rintro rfl
      have e' := ha.symm.trans e
      cases e'
      cases d
    exact ⟨o, es, ep, hidT_get e (out e ne), d, r⟩
  have kb : K.In (hidT z.heap G) := by
    intro b o e
    have e1 := inK b o e
    refine hidT_get e1 ?_
    by_cases q : G b = none
    · exact q
    · have eb := here b q
      subst eb
      rw [notK q] at e
      cases e
  obtain ⟨mc, l1, l2⟩ := nolim
  have hmB : ModsD (hidT z.heap G) := by
    obtain ⟨mm, hm⟩ := hmod
    obtain ⟨o, es, ep, e, _⟩ := off hm
    exact ⟨o, e⟩
  have md : Mod K mg (hidT z.heap G) := ⟨kb, off gl, ⟨mb, off bn, bb⟩, ⟨mc, off l1, l2⟩⟩
  have env : Env0 P w K mg (hidT z.heap G) callerA [] z G :=
    { frames := rfl, mod := md, bs := fun b o e => of_hidT e, bsz := Nat.le_of_eq (hidT_size _ _), funs := trivial, frf := fun b hb => (List.not_mem_nil hb).elim, hok := ok, bare := .of_eq gens }
  refine codeAny_mono ((F _ kb (off gl) hmB).run callerA [] z G ⟨[.ref a], []⟩ [.ref a] [.ref a] _ _ rfl rm env (bt z (.ref a)) (.cons rfl .nil) want) ?_
  intro r z' q
  match r, q with
  | .error e, q => exact (noErr e z' q).elim
  | .ok (.ret u), ⟨v, G', os, bare, un, ok', rv, q⟩ =>
    cases (show v = .bl true from q)
    cases (show u = Value.bool true from rv)
    refine ⟨rfl, OldK.of_keep ?_, os, bare⟩
    intro b o e
    rcases only b with n | ⟨ob, xs, n⟩
    · exact un.keep b o e n (fun h => (List.not_mem_nil h).elim) (fun h => (List.not_mem_nil h).elim)
    · have e1 := (ok b _ n).1
      have e2 := (ok' b _ (un.frzs b ob _ n)).1
      exact e2.trans (e1.symm.trans e)
theorem law_callM (inK : K.In z.heap) (gl : z.heap.Ns mainGlobals mg) (bn : z.heap.Ns builtinsNs mb) (bb : ∀ y : Str, y ≠ "__name__" → mb y = bootBuiltins y) (nolim : z.heap.NoLimit) (gens : z.gens = #[])
    (ha : z.heap.get? a = some { cls := .type "list", data := .seq vs.toArray }) (hi : IntsAre vs ns) (hl : ns.length ≤ sizeLine) (rm : Room k callerA)
    (hmod : ∃ mm, z.heap.Ns sysModules mm) (F : ∀ base : Heap, K.In base → base.Ns mainGlobals mg → ModsD base → FnG P w K mg base CX k fa fd [x] sp) (bt : ∀ (s : Shared) (u : Value), BindsTo s fd ⟨[u], []⟩ [(x, u)])
    (want : ∀ G : Hp, Only G → SqL K G a (ns.map V.int) → sp [.ref a] G (fun v _ => v = .bl true) fun _ _ _ => False) (noErr : ∀ G e z', CX [] G z (fun _ _ _ => False) e z' → False) :
    codeAny (model P w) callerA (.call (.ref fa) ⟨[.ref a], []⟩) (LawR z) z := by
  have rv := vals_ints hi
  have small : (ns.map V.int).length ≤ sizeLine := by rw [List.length_map]; exact hl
  cases hk : K.lookup a with
  | none =>
    let ob : Obj := { cls := .type "list", data := .seq vs.toArray }
    let G : Hp := fun b => if b = a then some (.frz ob (.lst (ns.map V.int))) else none
    have ga : G a = some (.frz ob (.lst (ns.map V.int))) := if_pos rfl
    have gn : ∀ b, b ≠ a → G b = none := fun b h => if_neg h
    have only : Only G := fun b => (Classical.em (b = a)).elim (fun h => .inr ⟨ob, _, h ▸ ga⟩) fun h => .inl (gn b h)
    have seen : SqL K G a (ns.map V.int) := .inl (.inr ⟨ob, ga⟩)
    refine law_fromM G only (fun b h => Classical.byContradiction fun n => h (gn b n)) (fun _ => hk) seen ?_ inK gl bn bb nolim gens ha rm hmod F bt (want G only seen) (noErr G)
    intro b u e
    by_cases h : b = a
    · subst h
      rw [ga] at e
      cases e
      exact ⟨ha, small, vs, _, rv, ha⟩
    · rw [gn b h] at e
      cases e
  | some o =>
    have e := inK a o hk
    rw [ha] at e
    cases e
    have seen : SqL K (fun _ => none) a (ns.map V.int) := .inr ⟨_, vs.toArray, _, hk, rfl, rfl, rfl, by rw [List.size_toArray, hi.length]; exact hl, by simpa using rv⟩
    exact law_fromM (fun _ => none) (fun _ => .inl rfl) (fun _ h => absurd rfl h) (fun h => absurd rfl h) seen (fun _ _ e => by cases e) inK gl bn bb nolim gens ha rm hmod F bt (want _ (fun _ => .inl rfl) seen) (noErr _)
end
/-- the goal that the head leaves -/
theorem walk_M {l : PySem.W.OpenLaw} {n k : Nat} {q : Program} {loose : List Str} {XP : (Str → Option Value) → Heap → Prop} {YP : World → Heap → Prop} {d : DefRec} {K : Params → PySem.W.Frag} {sp : PySem.W.Frag → Sp} {x : Str}
    (hn : l.most = some n) (n2 : n ≤ sizeLine) (hd : d.params.defaults = []) (rm : Room k callerA) (hi : importsNone q = true) (hY : ∀ (w : World) (h : Heap), YP w h → (K w.params).In h)
    (F : ∀ (w : World) (mg : Str → Option Value) (fa : Addr) (h : Heap), (K w.params).In h → h.Ns mainGlobals mg → mg d.name = some (.ref fa) →
      ∃ fd : FuncData, (∀ (s : Shared) (u : Value), BindsTo s fd ⟨[u], []⟩ [(x, u)]) ∧ ∀ base : Heap, (K w.params).In base → base.Ns mainGlobals mg → ModsD base → FnG l.prog w (K w.params) mg base CX0 k fa fd [x] (sp (K w.params)))
    (want : ∀ (w : World) (G : Hp) (a : Addr) (ns : List Int), ns.length ≤ n → SqL (K w.params) G a (ns.map V.int) → sp (K w.params) [.ref a] G (fun v _ => v = .bl true) fun _ _ _ => False) :
    PySem.W.WalkO q loose XP YP l.row.toRowW d [] (fun f vs => PySem.call f vs) := by
  refine Att.attach_call hn hd ?_
  intro w s₀ s₁ mg mb fa o pm cd doc a vs ns G Y ho hdt hcd hmg hobj hints hlen hg
  obtain ⟨fd, hb, hF⟩ := F w mg fa _ (hY w _ Y) G.T.g hmg
  exact law_callM (CX := CX0) (hY w _ Y) G.T.g G.T.b G.T.builtins G.T.nolimit hg hobj hints (Nat.le_trans hlen n2) rm (let ⟨mm, hm, _⟩ := (G.T.seer hi).mods; ⟨mm, hm⟩) hF hb (fun G _ h => want w G a ns hlen h) fun _ _ _ h => h.elim
end Eld
set_option Elab.async false
set_option maxRecDepth 100000
set_option maxHeartbeats 4000000
set_option linter.all false
namespace Eld
open PySem PySem.Spec PyProof.Rows L2
/-! ## the head by one kernel run, what the top has written as a list of truths about a part of the heap -/
def obsX (fb : PySem.W.Frag → Bool) (fn : List He.DefD) (K : PySem.W.Frag) : He.AlD := (fb K && fn.all fun d => d.ok K, fn.map fun d => He.fnW K d.at_)
def SaysX (fb : PySem.W.Frag → Bool) (fn : List He.DefD) (K : PySem.W.Frag) : Prop := obsX fb fn K = He.valD fn
def obsXG (as : List Addr) (fb : PySem.W.Frag → Bool) (fn : List He.DefD) (g : Addr → Option Obj) : He.AlD := obsX fb fn (He.frG g as)
def hookX (as : List Addr) (fb : PySem.W.Frag → Bool) (fn : List He.DefD) : PySem.W.Hook where
  α := He.AlD
  obs := fun s => obsXG as fb fn s.heap.get?
  val := fun _ => He.valD fn
  says := fun _ h => ∃ K : PySem.W.Frag, K.In h ∧ SaysX fb fn K
  of := fun _ _ e => ⟨_, He.frG_in, e⟩
  keeps := fun _ _ _ ⟨K, hK, c⟩ k => ⟨K, PySem.W.Frag.In.keeps hK k, c⟩
def obX (as : List Addr) (fb : PySem.W.Frag → Bool) (fn : List He.DefD) (s : PySem.W.SharedT) : He.AlD := obsXG as fb fn (HandSHeadRun.getT s)
theorem obX_eq {as : List Addr} {fb : PySem.W.Frag → Bool} {fn : List He.DefD} (s : PySem.W.SharedT) : obX as fb fn s = (hookX as fb fn).obs s.abs := by
  have e : HandSHeadRun.getT s = s.abs.heap.get? := funext (HandSHeadRun.getT_eq s)
  show obsXG as fb fn (HandSHeadRun.getT s) = obsXG as fb fn s.abs.heap.get?
  rw [e]
/-- one kernel run -/
def RunX (r : PySem.W.OpenRow) (q : Program) (as : List Addr) (fb : PySem.W.Frag → Bool) (fn : List He.DefD) (M : Nat) (loose : List Str) (w : World) : Prop := HandSHeadRun.RunEqI r q (hookX as fb fn) (obX as fb fn) M loose w
/-- two runs that look at different things are one run that looks at both -/
theorem RunX.join {r : PySem.W.OpenRow} {q : Program} {as : List Addr} {fb fb' : PySem.W.Frag → Bool} {fn fn' : List He.DefD} {M : Nat} {loose : List Str} {w : World} (h : RunX r q as fb fn M loose w) (h' : RunX r q as fb' fn' M loose w) :
    RunX r q as (fun K => fb K && fb' K) (fn ++ fn') M loose w := by
  unfold RunX HandSHeadRun.RunEqI at *
  obtain ⟨x, hx, e⟩ := Option.map_eq_some_iff.mp h
  obtain ⟨x', hx', e'⟩ := Option.map_eq_some_iff.mp h'
  rw [hx] at hx'
  cases hx'
  rw [hx, Option.map_some]
  have a1 := congrArg (fun z => z.1) e
  have a2 := congrArg (fun z => z.2.1) e
  have a3 : obX as fb fn x.2 = He.valD fn := congrArg (fun z => z.2.2) e
  have b3 : obX as fb' fn' x.2 = He.valD fn' := congrArg (fun z => z.2.2) e'
  have c3 : obX as (fun K => fb K && fb' K) (fn ++ fn') x.2 = He.valD (fn ++ fn') := by
    have u1 : (fb (He.frG (HandSHeadRun.getT x.2) as) && fn.all fun d => d.ok (He.frG (HandSHeadRun.getT x.2) as)) = true := congrArg (fun z : He.AlD => z.1) a3
    have u2 : fn.map (fun d => He.fnW (He.frG (HandSHeadRun.getT x.2) as) d.at_) = fn.map He.DefD.val := congrArg (fun z : He.AlD => z.2) a3
    have v1 : (fb' (He.frG (HandSHeadRun.getT x.2) as) && fn'.all fun d => d.ok (He.frG (HandSHeadRun.getT x.2) as)) = true := congrArg (fun z : He.AlD => z.1) b3
    have v2 : fn'.map (fun d => He.fnW (He.frG (HandSHeadRun.getT x.2) as) d.at_) = fn'.map He.DefD.val := congrArg (fun z : He.AlD => z.2) b3
    obtain ⟨u3, u4⟩ := He.ba u1
    obtain ⟨v3, v4⟩ := He.ba v1
    show (((fb _ && fb' _) && (fn ++ fn').all _, (fn ++ fn').map _) : He.AlD) = (true, (fn ++ fn').map He.DefD.val)
    refine Prod.ext ?_ ?_
    · show ((fb _ && fb' _) && (fn ++ fn').all _) = true
      rw [List.all_append, u3, v3, u4, v4]
      rfl
    · show (fn ++ fn').map _ = _
      rw [List.map_append, List.map_append, u2, v2]
  exact congrArg some (Prod.ext a1 (Prod.ext a2 c3))
section
variable {fb : PySem.W.Frag → Bool} {fn : List He.DefD} {K : PySem.W.Frag}
theorem SaysX.said (c : SaysX fb fn K) : fb K = true := (He.ba (show (fb K && fn.all fun d => d.ok K) = true from congrArg (fun z : He.AlD => z.1) c)).1
theorem SaysX.def_ (c : SaysX fb fn K) (i : Nat) {d : He.DefD} (h : fn[i]? = some d := by rfl) : ∃ fd, FunD K d.name d.qual d.params d.body d.scope (d.dvs K) (d.kws K) (He.fAd K d.at_) fd := by
  have c2 := (He.ba (show (fb K && fn.all fun d => d.ok K) = true from congrArg (fun z : He.AlD => z.1) c)).2
  have e : fn.map (fun d => He.fnW K d.at_) = fn.map He.DefD.val := congrArg (fun z : He.AlD => z.2) c
  have e2 : (fn.map fun d => He.fnW K d.at_)[i]? = (fn.map He.DefD.val)[i]? := by rw [e]
  rw [List.getElem?_map, List.getElem?_map, h] at e2
  exact He.DefD.funD (Option.some.inj e2) (List.all_eq_true.mp c2 d (List.mem_of_getElem? h))
/-- without defaults -/
theorem SaysX.def0 (c : SaysX fb fn K) (i : Nat) {d : He.DefD} (h : fn[i]? = some d := by rfl) (h0 : d.dfl = [] := by rfl) :
    ∃ (oc : Value) (od : Option Addr) (kV doc pm : Value) (an : Option Addr) (cdv ct : Value) (osl : Array (Option Value)), K.lookup (He.fAd K d.at_) = some ⟨oc, od, .func (PySem.W.fnOf d.name d.qual d.params d.body d.scope .none kV doc pm an cdv ct), osl⟩ ∧ PySem.W.codeIn K cdv d.qual = true ∧ PySem.W.keepIn K (.ref (He.fAd K d.at_)) = true := by
  obtain ⟨fd, ⟨oc, od, dV, kV, doc, pm, an, cdv, ct, osl, rfl, l, cd, df, _⟩, kp⟩ := c.def_ i h
  have e : d.dvs K = [] := by unfold He.DefD.dvs; rw [h0]; rfl
  rw [e] at df
  rcases df with ⟨_, rfl⟩ | ⟨n, _⟩
  · exact ⟨oc, od, kV, doc, pm, an, cdv, ct, osl, l, cd, kp⟩
  · exact absurd rfl n
/-- with one default, an int -/
theorem SaysX.def1 (c : SaysX fb fn K) (i : Nat) {d : He.DefD} {m : Int} (h : fn[i]? = some d := by rfl) (h0 : d.dfl = [.int m] := by rfl) :
    ∃ (oc : Value) (od : Option Addr) (T : Addr) (kV doc pm : Value) (an : Option Addr) (cdv ct : Value) (osl : Array (Option Value)) (ocd : Value) (odd : Option Addr) (sld : Array (Option Value)) (tk : Tok) (md : Nat), K.lookup (He.fAd K d.at_) = some ⟨oc, od, .func (PySem.W.fnOf d.name d.qual d.params d.body d.scope (.ref T) kV doc pm an cdv ct), osl⟩ ∧
      PySem.W.codeIn K cdv d.qual = true ∧ PySem.W.keepIn K (.ref (He.fAd K d.at_)) = true ∧ K.lookup T = some ⟨ocd, odd, .seq #[.int m tk] md, sld⟩ := by
  obtain ⟨fd, ⟨oc, od, dV, kV, doc, pm, an, cdv, ct, osl, rfl, l, cd, df, _⟩, kp⟩ := c.def_ i h
  have e : d.dvs K = [.int m] := by unfold He.DefD.dvs; rw [h0]; rfl
  rw [e] at df
  rcases df with ⟨n, _⟩ | ⟨_, T, o, its, n, rfl, lT, eo, rv⟩
  · cases n
  · obtain ⟨c1, d1, dt, s1⟩ := o
    cases eo
    cases rv with
    | cons r rr =>
      cases rr
      obtain ⟨t, rfl⟩ := r
      exact ⟨oc, od, T, kV, doc, pm, an, cdv, ct, osl, c1, d1, s1, t, n, l, cd, kp, lT⟩
end
/-- the i-th truth of the j-th list -/
theorem truth {ls : List (List Bool)} (h : (ls.all fun l => l.all id) = true) (i j : Nat) {l : List Bool} {b : Bool} (e1 : ls[i]? = some l := by rfl) (e2 : l[j]? = some b := by rfl) : b = true :=
  List.all_eq_true.mp (List.all_eq_true.mp h l (List.mem_of_getElem? e1)) b (List.mem_of_getElem? e2)
/-- the token of a name that is an int -/
def tkOf (K : PySem.W.Frag) (x : Str) : Nat := match PySem.W.nsIn K mainGlobals x with
  | some (some (.int _ t)) => t
  | _ => 0
/-- a class of errors under the class cE -/
def excB (K : PySem.W.Frag) (C : Addr) (bm : List Value) : Bool := match K.lookup C with
  | some ⟨.type "type", _, .cls cd, sl⟩ => (match cd.mro, sl.toList with
    | .ref C' :: b, [_, _, _, _, some (.builtin n), _] => C' == C && n == "ValueError.__new__" && !cd.hasDel && cd.hasDict && decide (b = bm)
    | _, _ => false)
  | _ => false
theorem excB_ok {K : PySem.W.Frag} {C : Addr} {bm : List Value} (q : excB K C bm = true) : ∃ nm q N bs sn sub ab col dd k0 k1 k2 k3 k5, K.lookup C = some (excClassObj nm q C N bs bm true sn sub ab col dd k0 k1 k2 k3 k5 "ValueError.__new__") := by
  unfold excB at q
  split at q
  · rename_i dd cd sl ho
    split at q
    · rename_i C' b k0 k1 k2 k3 n k5 hm hs
      simp only [Bool.and_eq_true, beq_iff_eq, Bool.not_eq_true', decide_eq_true_eq] at q
      obtain ⟨⟨⟨⟨rfl, rfl⟩, hdel⟩, hd⟩, rfl⟩ := q
      obtain ⟨nm, bs, mro, ns, qn, hd', sn, sub, ab, col, del⟩ := cd
      dsimp only at hm hdel hd
      subst hm hdel hd
      have hsl : sl = #[k0, k1, k2, k3, some (.builtin "ValueError.__new__"), k5] := by
        obtain ⟨l⟩ := sl
        simp only at hs
        rw [hs]
      subst hsl
      exact ⟨nm, qn, ns, bs, sn, sub, ab, col, dd, k0, k1, k2, k3, k5, ho⟩
    · cases q
  · cases q
/-- the goal that this head leaves -/
theorem walk_MX {l : PySem.W.OpenLaw} {n k : Nat} {q : Program} {loose : List Str} {XP : (Str → Option Value) → Heap → Prop} {YP : World → Heap → Prop} {d : DefRec} {x : Str}
    (hn : l.most = some n) (n2 : n ≤ sizeLine) (hd : d.params.defaults = []) (rm : Room k callerA) (hi : importsNone q = true)
    (F : ∀ (w : World) (mg : Str → Option Value) (fa : Addr) (h : Heap), YP w h → h.Ns mainGlobals mg → mg d.name = some (.ref fa) →
      ∃ (K : PySem.W.Frag) (fd : FuncData) (sp : Sp), K.In h ∧ (∀ (s : Shared) (u : Value), BindsTo s fd ⟨[u], []⟩ [(x, u)]) ∧
        (∀ (G : Hp) (a : Addr) (ns : List Int), ns.length ≤ n → SqL K G a (ns.map V.int) → sp [.ref a] G (fun v _ => v = .bl true) fun _ _ _ => False) ∧
        ∀ base : Heap, K.In base → base.Ns mainGlobals mg → ModsD base → FnG l.prog w K mg base CX0 k fa fd [x] sp) :
    PySem.W.WalkO q loose XP YP l.row.toRowW d [] (fun f vs => PySem.call f vs) := by
  refine Att.attach_call hn hd ?_
  intro w s₀ s₁ mg mb fa o pm cd doc a vs ns G Y ho hdt hcd hmg hobj hints hlen hg
  obtain ⟨K, fd, sp, KX, hb, want, hF⟩ := F w mg fa _ Y G.T.g hmg
  exact law_callM (CX := CX0) KX G.T.g G.T.b G.T.builtins G.T.nolimit hg hobj hints (Nat.le_trans hlen n2) rm (let ⟨mm, hm, _⟩ := (G.T.seer hi).mods; ⟨mm, hm⟩) hF hb (fun G _ h => want G a ns hlen h) fun _ _ _ h => h.elim
end Eld
set_option Elab.async false
set_option maxRecDepth 100000
set_option maxHeartbeats 4000000
set_option linter.all false
namespace Eld
open PySem PySem.Spec PyProof.Rows L2
abbrev bmE (cE : Addr) : List Value := [.ref cE, .type "ValueError", .type "Exception", .type "BaseException", .type "object"]
def ndB (c : Addr) (l : List Addr) : Bool := ((List.range 40).all fun i => (((List.range 40).all fun j => (l.getD i 0 == l.getD j 0) == (i == j)) && !(c == l.getD i 0)))
def htop (i : Nat) : Stmt := PySem.Challenge.pw_endlots_k00_errors.main.body.getD i (.Pass ⟨0, 0, 0, 0⟩)
def has : List Addr := [2, 3, 43, 45, 46, 48, 49, 50, 57, 58, 59, 60, 63, 70, 72, 73, 75, 76, 77, 78, 79, 82, 89, 91, 92, 94, 95, 96, 97, 98, 101, 108, 110, 111, 113, 114, 115, 116, 117, 120, 127, 129, 130, 132, 133, 134, 135, 136, 139, 146, 148, 149, 151, 152, 153, 154, 155, 158, 165, 167, 168, 170, 171, 172, 173, 174, 177, 184, 186, 187, 189, 190, 191, 192, 193, 196, 203, 205, 206, 208, 209, 210, 211, 212, 215, 222, 224, 225, 227, 228, 229, 230, 231, 234, 241, 243, 244, 246, 247, 248, 249, 250, 253, 260, 262, 263, 265, 266, 267, 268, 269, 272, 279, 281, 282, 284, 285, 286, 287, 288, 291, 298, 300, 301, 303, 304, 305, 306, 307, 310, 317, 319, 320, 322, 323, 324, 325, 326, 329, 336, 338, 339, 341, 342, 343, 344, 345, 348, 355, 357, 358, 360, 361, 362, 363, 364, 367, 374, 376, 377, 379, 380, 381, 382, 383, 386, 393, 395, 396, 398, 399, 400, 401, 402, 405, 412, 414, 415, 417, 418, 419, 420, 421, 424, 431, 433, 434, 436, 437, 438, 439, 440, 443, 450, 452, 453, 455, 456, 457, 458, 459, 462, 469, 471, 472, 474, 475, 476, 477, 478, 481, 488, 490, 491, 493, 494, 495, 496, 497, 500, 507, 509, 510, 512, 513, 514, 515, 516, 519, 526, 528, 529, 531, 532, 533, 534, 535, 538, 545, 547, 548, 550, 551, 552, 553, 554, 557, 564, 566, 567, 569, 570, 571, 572, 573, 576, 583, 585, 586, 588, 589, 590, 591, 592, 595, 602, 604, 605, 607, 608, 609, 610, 611, 614, 621, 623, 624, 626, 627, 628, 629, 630, 633, 640, 642, 643, 645, 646, 647, 648, 649, 652, 659, 661, 662, 664, 665, 666, 667, 668, 671, 678, 680, 681, 683, 684, 685, 686, 687, 690, 697, 699, 700, 702, 703, 704, 705, 706, 709, 716, 718, 719, 721, 722, 723, 724, 725, 728, 735, 737, 738, 740, 741, 742, 743, 744, 747, 754, 756, 757, 759, 760, 761, 762, 763, 766, 773, 774, 775, 778, 785, 786, 787, 790, 797, 798, 799, 802, 804, 805, 807, 808, 809, 811, 812, 814, 815, 816, 818, 819, 821, 822, 823, 825, 826, 828, 829, 837, 838, 840, 841, 843, 844, 845, 847, 848, 850, 851, 852, 854, 855, 857, 858, 859, 861, 862, 864, 865, 866, 868, 869, 871, 872, 873, 875, 876, 878, 879, 880, 882, 883, 885, 886, 887, 889, 890, 892, 893, 894, 896, 897, 899, 900, 901, 903, 904, 906, 907, 908, 910, 911, 913, 914, 915, 917, 918, 920, 921, 922, 923, 924, 925, 926, 929, 931, 932, 934, 935, 936, 938, 939, 941, 942, 950, 952, 953, 955, 956, 957, 959, 960, 962, 963, 964, 966, 967, 969, 970, 971, 973, 974, 976, 977, 978, 980, 981, 983, 984, 985, 988, 989, 990, 991, 992, 993, 994, 997, 1000, 1001, 1002, 1005, 1006, 1007, 1010, 1011, 1012, 1014, 1015, 1017, 1018, 1019, 1021, 1022, 1024, 1025, 1026, 1028, 1029, 1031, 1032, 1033, 1035, 1036, 1038, 1039, 1040, 1042, 1043, 1045, 1046, 1047, 1049, 1050, 1052, 1053, 1054, 1056, 1057, 1059, 1060, 1061, 1063, 1064, 1066, 1067, 1068, 1071, 1072, 1073, 1075, 1076, 1078, 1079, 1080, 1082, 1083, 1085, 1086, 1087, 1089, 1090, 1092, 1093, 1094, 1096, 1097, 1099, 1100, 1101, 1104, 1105]
def hd0 : He.DefD := ⟨("is_integer", none), "is_integer", "is_integer", defArgs (htop 45), defBody (htop 45), defScope (htop 45), [], []⟩
def hd1 : He.DefD := ⟨("is_list", none), "is_list", "is_list", defArgs (htop 46), defBody (htop 46), defScope (htop 46), [], []⟩
def hd2 : He.DefD := ⟨("is_from", none), "is_from", "is_from", defArgs (htop 47), defBody (htop 47), defScope (htop 47), [], []⟩
def hd3 : He.DefD := ⟨("Space", some "__init__"), "__init__", "Space.__init__", defArgs (inClass (htop 56) 0), defBody (inClass (htop 56) 0), defScope (inClass (htop 56) 0), [], []⟩
def hd4 : He.DefD := ⟨("Space", some "__eq__"), "__eq__", "Space.__eq__", defArgs (inClass (htop 56) 2), defBody (inClass (htop 56) 2), defScope (inClass (htop 56) 2), [], []⟩
def hd5 : He.DefD := ⟨("Ratio", some "__eq__"), "__eq__", "Ratio.__eq__", defArgs (inClass (htop 50) 1), defBody (inClass (htop 50) 1), defScope (inClass (htop 50) 1), [], []⟩
def hd6 : He.DefD := ⟨("is_number", none), "is_number", "is_number", defArgs (htop 51), defBody (htop 51), defScope (htop 51), [], []⟩
def hd7 : He.DefD := ⟨("as_ratio", none), "as_ratio", "as_ratio", defArgs (htop 52), defBody (htop 52), defScope (htop 52), [], []⟩
def hd8 : He.DefD := ⟨("all_values", none), "all_values", "all_values", defArgs (htop 57), defBody (htop 57), defScope (htop 57), [], []⟩
def hd9 : He.DefD := ⟨("is_sizes", none), "is_sizes", "is_sizes", defArgs (htop 58), defBody (htop 58), defScope (htop 58), [], []⟩
def hd10 : He.DefD := ⟨("_law_cell", none), "_law_cell", "_law_cell", defArgs (htop 61), defBody (htop 61), defScope (htop 61), [], []⟩
def hd11 : He.DefD := ⟨("_law_box", none), "_law_box", "_law_box", defArgs (htop 62), defBody (htop 62), defScope (htop 62), [], []⟩
def hd12 : He.DefD := ⟨("_law_take", none), "_law_take", "_law_take", defArgs (htop 63), defBody (htop 63), defScope (htop 63), [], []⟩
def hd13 : He.DefD := ⟨("_law_by_place", none), "_law_by_place", "_law_by_place", defArgs (htop 64), defBody (htop 64), defScope (htop 64), [], []⟩
def hd14 : He.DefD := ⟨("_law_by_name", none), "_law_by_name", "_law_by_name", defArgs (htop 65), defBody (htop 65), defScope (htop 65), [], []⟩
def hd15 : He.DefD := ⟨("_law_pairs", none), "_law_pairs", "_law_pairs", defArgs (htop 66), defBody (htop 66), defScope (htop 66), [], []⟩
def hd16 : He.DefD := ⟨("_law_sorts", none), "_law_sorts", "_law_sorts", defArgs (htop 67), defBody (htop 67), defScope (htop 67), [], []⟩
def hd17 : He.DefD := ⟨("_law_kept", none), "_law_kept", "_law_kept", defArgs (htop 68), defBody (htop 68), defScope (htop 68), [], []⟩
def hd18 : He.DefD := ⟨("_law_is", none), "_law_is", "_law_is", defArgs (htop 69), defBody (htop 69), defScope (htop 69), [], []⟩
def hd19 : He.DefD := ⟨("_law_thing", none), "_law_thing", "_law_thing", defArgs (htop 70), defBody (htop 70), defScope (htop 70), [], []⟩
def hd20 : He.DefD := ⟨("_law_all_right", none), "_law_all_right", "_law_all_right", defArgs (htop 71), defBody (htop 71), defScope (htop 71), [], []⟩
def hd21 : He.DefD := ⟨("_law_raised", none), "_law_raised", "_law_raised", defArgs (htop 72), defBody (htop 72), defScope (htop 72), [], []⟩
def hd22 : He.DefD := ⟨("_law_caught", none), "_law_caught", "_law_caught", defArgs (htop 73), defBody (htop 73), defScope (htop 73), [], []⟩
def hd23 : He.DefD := ⟨("law", none), "law", "law", defArgs (htop 74), defBody (htop 74), defScope (htop 74), [], []⟩
def hd24 : He.DefD := ⟨("Ratio", some "__init__"), "__init__", "Ratio.__init__", defArgs (inClass (htop 50) 0), defBody (inClass (htop 50) 0), defScope (inClass (htop 50) 0), [.int 1], []⟩
def hd25 : He.DefD := ⟨("InvalidNumber", some "__init__"), "__init__", "InvalidNumber.__init__", defArgs (inClass (htop 4) 0), defBody (inClass (htop 4) 0), defScope (inClass (htop 4) 0), [], []⟩
def hd26 : He.DefD := ⟨("InvalidSizes", some "__init__"), "__init__", "InvalidSizes.__init__", defArgs (inClass (htop 5) 0), defBody (inClass (htop 5) 0), defScope (inClass (htop 5) 0), [], []⟩
def hd27 : He.DefD := ⟨("InvalidStore", some "__init__"), "__init__", "InvalidStore.__init__", defArgs (inClass (htop 6) 0), defBody (inClass (htop 6) 0), defScope (inClass (htop 6) 0), [], []⟩
def hd28 : He.DefD := ⟨("InvalidValues", some "__init__"), "__init__", "InvalidValues.__init__", defArgs (inClass (htop 7) 0), defBody (inClass (htop 7) 0), defScope (inClass (htop 7) 0), [], []⟩
def hd29 : He.DefD := ⟨("InvalidLine", some "__init__"), "__init__", "InvalidLine.__init__", defArgs (inClass (htop 8) 0), defBody (inClass (htop 8) 0), defScope (inClass (htop 8) 0), [], []⟩
def hd30 : He.DefD := ⟨("InvalidSpace", some "__init__"), "__init__", "InvalidSpace.__init__", defArgs (inClass (htop 9) 0), defBody (inClass (htop 9) 0), defScope (inClass (htop 9) 0), [], []⟩
def hd31 : He.DefD := ⟨("InvalidOutcome", some "__init__"), "__init__", "InvalidOutcome.__init__", defArgs (inClass (htop 10) 0), defBody (inClass (htop 10) 0), defScope (inClass (htop 10) 0), [], []⟩
def hd32 : He.DefD := ⟨("InvalidWeights", some "__init__"), "__init__", "InvalidWeights.__init__", defArgs (inClass (htop 11) 0), defBody (inClass (htop 11) 0), defScope (inClass (htop 11) 0), [], []⟩
def hd33 : He.DefD := ⟨("InvalidLot", some "__init__"), "__init__", "InvalidLot.__init__", defArgs (inClass (htop 12) 0), defBody (inClass (htop 12) 0), defScope (inClass (htop 12) 0), [], []⟩
def hd34 : He.DefD := ⟨("InvalidLots", some "__init__"), "__init__", "InvalidLots.__init__", defArgs (inClass (htop 13) 0), defBody (inClass (htop 13) 0), defScope (inClass (htop 13) 0), [], []⟩
def hd35 : He.DefD := ⟨("InvalidPayoff", some "__init__"), "__init__", "InvalidPayoff.__init__", defArgs (inClass (htop 14) 0), defBody (inClass (htop 14) 0), defScope (inClass (htop 14) 0), [], []⟩
def hd36 : He.DefD := ⟨("InvalidText", some "__init__"), "__init__", "InvalidText.__init__", defArgs (inClass (htop 15) 0), defBody (inClass (htop 15) 0), defScope (inClass (htop 15) 0), [], []⟩
def hd37 : He.DefD := ⟨("InvalidSurrounding", some "__init__"), "__init__", "InvalidSurrounding.__init__", defArgs (inClass (htop 16) 0), defBody (inClass (htop 16) 0), defScope (inClass (htop 16) 0), [], []⟩
def hd38 : He.DefD := ⟨("InvalidPath", some "__init__"), "__init__", "InvalidPath.__init__", defArgs (inClass (htop 17) 0), defBody (inClass (htop 17) 0), defScope (inClass (htop 17) 0), [], []⟩
def hd39 : He.DefD := ⟨("InvalidPart", some "__init__"), "__init__", "InvalidPart.__init__", defArgs (inClass (htop 18) 0), defBody (inClass (htop 18) 0), defScope (inClass (htop 18) 0), [], []⟩
def hd40 : He.DefD := ⟨("InvalidSides", some "__init__"), "__init__", "InvalidSides.__init__", defArgs (inClass (htop 19) 0), defBody (inClass (htop 19) 0), defScope (inClass (htop 19) 0), [], []⟩
def hd41 : He.DefD := ⟨("InvalidDraws", some "__init__"), "__init__", "InvalidDraws.__init__", defArgs (inClass (htop 20) 0), defBody (inClass (htop 20) 0), defScope (inClass (htop 20) 0), [], []⟩
def hd42 : He.DefD := ⟨("InvalidShare", some "__init__"), "__init__", "InvalidShare.__init__", defArgs (inClass (htop 21) 0), defBody (inClass (htop 21) 0), defScope (inClass (htop 21) 0), [], []⟩
def hd43 : He.DefD := ⟨("InvalidSteps", some "__init__"), "__init__", "InvalidSteps.__init__", defArgs (inClass (htop 22) 0), defBody (inClass (htop 22) 0), defScope (inClass (htop 22) 0), [], []⟩
def hd44 : He.DefD := ⟨("InvalidRow", some "__init__"), "__init__", "InvalidRow.__init__", defArgs (inClass (htop 23) 0), defBody (inClass (htop 23) 0), defScope (inClass (htop 23) 0), [], []⟩
def hd45 : He.DefD := ⟨("InvalidPick", some "__init__"), "__init__", "InvalidPick.__init__", defArgs (inClass (htop 24) 0), defBody (inClass (htop 24) 0), defScope (inClass (htop 24) 0), [], []⟩
def hd46 : He.DefD := ⟨("InvalidDice", some "__init__"), "__init__", "InvalidDice.__init__", defArgs (inClass (htop 25) 0), defBody (inClass (htop 25) 0), defScope (inClass (htop 25) 0), [], []⟩
def hd47 : He.DefD := ⟨("InvalidBlend", some "__init__"), "__init__", "InvalidBlend.__init__", defArgs (inClass (htop 26) 0), defBody (inClass (htop 26) 0), defScope (inClass (htop 26) 0), [], []⟩
def hd48 : He.DefD := ⟨("InvalidLimits", some "__init__"), "__init__", "InvalidLimits.__init__", defArgs (inClass (htop 27) 0), defBody (inClass (htop 27) 0), defScope (inClass (htop 27) 0), [], []⟩
def hd49 : He.DefD := ⟨("InvalidPairs", some "__init__"), "__init__", "InvalidPairs.__init__", defArgs (inClass (htop 28) 0), defBody (inClass (htop 28) 0), defScope (inClass (htop 28) 0), [], []⟩
def hd50 : He.DefD := ⟨("InvalidSet", some "__init__"), "__init__", "InvalidSet.__init__", defArgs (inClass (htop 29) 0), defBody (inClass (htop 29) 0), defScope (inClass (htop 29) 0), [], []⟩
def hd51 : He.DefD := ⟨("InvalidName", some "__init__"), "__init__", "InvalidName.__init__", defArgs (inClass (htop 30) 0), defBody (inClass (htop 30) 0), defScope (inClass (htop 30) 0), [], []⟩
def hd52 : He.DefD := ⟨("InvalidOther", some "__init__"), "__init__", "InvalidOther.__init__", defArgs (inClass (htop 31) 0), defBody (inClass (htop 31) 0), defScope (inClass (htop 31) 0), [], []⟩
def hd53 : He.DefD := ⟨("TooMany", some "__init__"), "__init__", "TooMany.__init__", defArgs (inClass (htop 32) 0), defBody (inClass (htop 32) 0), defScope (inClass (htop 32) 0), [], []⟩
def hd54 : He.DefD := ⟨("Outside", some "__init__"), "__init__", "Outside.__init__", defArgs (inClass (htop 33) 0), defBody (inClass (htop 33) 0), defScope (inClass (htop 33) 0), [], []⟩
def hd55 : He.DefD := ⟨("MayGoOn", some "__init__"), "__init__", "MayGoOn.__init__", defArgs (inClass (htop 34) 0), defBody (inClass (htop 34) 0), defScope (inClass (htop 34) 0), [], []⟩
def hd56 : He.DefD := ⟨("NoThing", some "__init__"), "__init__", "NoThing.__init__", defArgs (inClass (htop 35) 0), defBody (inClass (htop 35) 0), defScope (inClass (htop 35) 0), [], []⟩
def hd57 : He.DefD := ⟨("NotBrought", some "__init__"), "__init__", "NotBrought.__init__", defArgs (inClass (htop 36) 0), defBody (inClass (htop 36) 0), defScope (inClass (htop 36) 0), [], []⟩
def hd58 : He.DefD := ⟨("MayStay", some "__init__"), "__init__", "MayStay.__init__", defArgs (inClass (htop 37) 0), defBody (inClass (htop 37) 0), defScope (inClass (htop 37) 0), [], []⟩
def hd59 : He.DefD := ⟨("TwoLots", some "__init__"), "__init__", "TwoLots.__init__", defArgs (inClass (htop 38) 0), defBody (inClass (htop 38) 0), defScope (inClass (htop 38) 0), [], []⟩
def hd60 : He.DefD := ⟨("NotKept", some "__init__"), "__init__", "NotKept.__init__", defArgs (inClass (htop 39) 0), defBody (inClass (htop 39) 0), defScope (inClass (htop 39) 0), [], []⟩
def hd61 : He.DefD := ⟨("NoCommon", some "__init__"), "__init__", "NoCommon.__init__", defArgs (inClass (htop 40) 0), defBody (inClass (htop 40) 0), defScope (inClass (htop 40) 0), [], []⟩
def ht0 (K : PySem.W.Frag) : List Bool := [decide (PySem.W.nsIn K mainGlobals "Space" = some (some (.ref (He.ga K "Space")))),
  decide (PySem.W.nsIn K mainGlobals "Ratio" = some (some (.ref (He.ga K "Ratio")))),
  decide (PySem.W.nsIn K mainGlobals "EndError" = some (some (.ref (He.ga K "EndError")))),
  decide (PySem.W.nsIn K mainGlobals "gcd" = some (some (.builtin "math.gcd"))),
  decide (PySem.W.nsIn K mainGlobals "is_integer" = some (some (.ref (He.fAd K ("is_integer", none))))),
  decide (PySem.W.nsIn K mainGlobals "is_list" = some (some (.ref (He.fAd K ("is_list", none))))),
  decide (PySem.W.nsIn K mainGlobals "is_from" = some (some (.ref (He.fAd K ("is_from", none))))),
  decide (PySem.W.findIn K (.ref (He.ga K "Space")) "__init__" = some (some (.ref (He.fAd K ("Space", some "__init__"))))),
  decide (PySem.W.isFn K (.ref (He.fAd K ("Space", some "__init__"))) = true),
  decide (PySem.W.findIn K (.ref (He.ga K "Space")) "__eq__" = some (some (.ref (He.fAd K ("Space", some "__eq__"))))),
  decide (PySem.W.isFn K (.ref (He.fAd K ("Space", some "__eq__"))) = true),
  decide (PySem.W.findIn K (.ref (He.ga K "Ratio")) "__eq__" = some (some (.ref (He.fAd K ("Ratio", some "__eq__"))))),
  decide (PySem.W.isFn K (.ref (He.fAd K ("Ratio", some "__eq__"))) = true),
  decide (PySem.W.nsIn K mainGlobals "is_number" = some (some (.ref (He.fAd K ("is_number", none))))),
  decide (PySem.W.nsIn K mainGlobals "as_ratio" = some (some (.ref (He.fAd K ("as_ratio", none))))),
  decide (PySem.W.nsIn K mainGlobals "all_values" = some (some (.ref (He.fAd K ("all_values", none))))),
  decide (PySem.W.nsIn K mainGlobals "is_sizes" = some (some (.ref (He.fAd K ("is_sizes", none))))),
  decide (PySem.W.nsIn K mainGlobals "_law_cell" = some (some (.ref (He.fAd K ("_law_cell", none))))),
  decide (PySem.W.nsIn K mainGlobals "_law_box" = some (some (.ref (He.fAd K ("_law_box", none))))),
  decide (PySem.W.nsIn K mainGlobals "_law_take" = some (some (.ref (He.fAd K ("_law_take", none))))),
  decide (PySem.W.nsIn K mainGlobals "_law_by_place" = some (some (.ref (He.fAd K ("_law_by_place", none))))),
  decide (PySem.W.nsIn K mainGlobals "_law_by_name" = some (some (.ref (He.fAd K ("_law_by_name", none))))),
  decide (PySem.W.nsIn K mainGlobals "_law_pairs" = some (some (.ref (He.fAd K ("_law_pairs", none))))),
  decide (PySem.W.nsIn K mainGlobals "_law_sorts" = some (some (.ref (He.fAd K ("_law_sorts", none))))),
  decide (PySem.W.nsIn K mainGlobals "_law_kept" = some (some (.ref (He.fAd K ("_law_kept", none))))),
  decide (PySem.W.nsIn K mainGlobals "_law_is" = some (some (.ref (He.fAd K ("_law_is", none))))),
  decide (PySem.W.nsIn K mainGlobals "_law_thing" = some (some (.ref (He.fAd K ("_law_thing", none))))),
  decide (PySem.W.nsIn K mainGlobals "_law_all_right" = some (some (.ref (He.fAd K ("_law_all_right", none))))),
  decide (PySem.W.nsIn K mainGlobals "_law_raised" = some (some (.ref (He.fAd K ("_law_raised", none))))),
  decide (PySem.W.nsIn K mainGlobals "_law_caught" = some (some (.ref (He.fAd K ("_law_caught", none)))))]
def ht1 (K : PySem.W.Frag) : List Bool := [decide (PySem.W.nsIn K mainGlobals "law" = some (some (.ref (He.fAd K ("law", none))))),
  decide (PySem.W.findIn K (.ref (He.ga K "Ratio")) "__init__" = some (some (.ref (He.fAd K ("Ratio", some "__init__"))))),
  decide (PySem.W.isFn K (.ref (He.fAd K ("Ratio", some "__init__"))) = true),
  decide (PySem.W.plainGet K (He.ga K "Space") Str.empty = true),
  decide (PySem.W.hasDictIn K (He.ga K "Space") = true),
  decide (PySem.W.plainOver K (He.ga K "Space") = true),
  decide (PySem.W.findIn K (.ref (He.ga K "Space")) "__setattr__" = some (some (.builtin "object.__setattr__"))),
  decide (PySem.W.makesIn K (He.ga K "Space") = true),
  decide (PySem.W.keepIn K (.ref (He.ga K "Space")) = true),
  decide (PySem.W.findIn K (.ref (He.ga K "Space")) "__class__" = some (some (.builtin "object.__class__"))),
  decide (PySem.W.mroIn K (He.ga K "Space") (.type "object") = some true),
  decide (PySem.W.subIn K (.ref (He.ga K "Space")) (.type "object") = some true),
  decide (PySem.W.findIn K (.ref (He.ga K "Space")) "__ne__" = some (some (.builtin "object.__ne__"))),
  decide (PySem.W.plainGet K (He.ga K "Ratio") Str.empty = true),
  decide (PySem.W.hasDictIn K (He.ga K "Ratio") = true),
  decide (PySem.W.plainOver K (He.ga K "Ratio") = true),
  decide (PySem.W.findIn K (.ref (He.ga K "Ratio")) "__setattr__" = some (some (.builtin "object.__setattr__"))),
  decide (PySem.W.makesIn K (He.ga K "Ratio") = true),
  decide (PySem.W.keepIn K (.ref (He.ga K "Ratio")) = true),
  decide (PySem.W.findIn K (.ref (He.ga K "Ratio")) "__class__" = some (some (.builtin "object.__class__"))),
  decide (PySem.W.mroIn K (He.ga K "Ratio") (.type "object") = some true),
  decide (PySem.W.subIn K (.ref (He.ga K "Ratio")) (.type "object") = some true),
  decide (PySem.W.findIn K (.ref (He.ga K "Ratio")) "__ne__" = some (some (.builtin "object.__ne__"))),
  decide (PySem.W.specialIn K (.builtin "object.__class__") "__get__" = some (some (.builtin "getset_descriptor.__get__"))),
  decide (PySem.W.takesIn K (.builtin "object.__class__") = some true),
  decide (PySem.W.findIn K (.ref (He.ga K "Space")) "sizes" = some none),
  decide (PySem.W.findIn K (.ref (He.ga K "Space")) "_stores" = some none),
  decide (PySem.W.findIn K (.ref (He.ga K "Space")) "never" = some none),
  decide (PySem.W.findIn K (.ref (He.ga K "Ratio")) "top" = some none),
  decide (PySem.W.findIn K (.ref (He.ga K "Ratio")) "bottom" = some none)]
def ht2 (K : PySem.W.Frag) : List Bool := [decide (PySem.W.kitOne K (.type "NoneType") (.ref (He.ga K "Space")) = some false),
  decide (PySem.W.kitOne K (.type "list") (.ref (He.ga K "Space")) = some false),
  decide (PySem.W.kitOne K (.type "tuple") (.ref (He.ga K "Space")) = some false),
  decide (PySem.W.kitOne K (.type "str") (.ref (He.ga K "Space")) = some false),
  decide (PySem.W.kitOne K (.type "int") (.ref (He.ga K "Space")) = some false),
  decide (PySem.W.kitOne K (.type "bool") (.ref (He.ga K "Space")) = some false),
  decide (PySem.W.nsIn K mainGlobals "isinstance" = some none),
  decide (PySem.W.nsIn K mainGlobals "int" = some none),
  decide (PySem.W.nsIn K mainGlobals "bool" = some none),
  decide (PySem.W.nsIn K mainGlobals "list" = some none),
  decide (PySem.W.nsIn K mainGlobals "tuple" = some none),
  decide (PySem.W.nsIn K mainGlobals "dict" = some none),
  decide (PySem.W.nsIn K mainGlobals "len" = some none),
  decide (PySem.W.nsIn K mainGlobals "abs" = some none),
  decide (PySem.W.nsIn K mainGlobals "max" = some none),
  decide (PySem.W.nsIn K mainGlobals "min" = some none),
  decide (PySem.W.nsIn K mainGlobals "sum" = some none),
  decide (PySem.W.nsIn K mainGlobals "repr" = some none),
  decide (PySem.W.nsIn K mainGlobals "all" = some none),
  decide (PySem.W.nsIn K mainGlobals "range" = some none),
  decide (PySem.W.nsIn K mainGlobals "ValueError" = some none),
  decide (PySem.W.nsIn K mainGlobals "MOST_NAMES" = some (some (.int 3 (tkOf K "MOST_NAMES")))),
  decide (PySem.W.nsIn K mainGlobals "MOST_STORES" = some (some (.int 8 (tkOf K "MOST_STORES")))),
  decide (PySem.W.isClsIn K (He.ga K "EndError") = true),
  decide (PySem.W.typeIn K (.ref (He.ga K "EndError")) = some (.type "type")),
  decide (PySem.W.subIn K (.ref (He.ga K "EndError")) (.type "BaseException") = some true),
  decide (PySem.W.nsIn K mainGlobals "InvalidNumber" = some (some (.ref (He.ga K "InvalidNumber")))),
  excB K (He.ga K "InvalidNumber") [.ref (He.ga K "EndError"), .type "ValueError", .type "Exception", .type "BaseException", .type "object"],
  decide (PySem.W.findIn K (.ref (He.ga K "InvalidNumber")) "__setattr__" = some (some (.builtin "object.__setattr__"))),
  decide (PySem.W.findIn K (.ref (He.ga K "InvalidNumber")) "__getattribute__" = some (some (.builtin "BaseException.__getattribute__")))]
def ht3 (K : PySem.W.Frag) : List Bool := [decide (PySem.W.findIn K (.ref (He.ga K "InvalidNumber")) "__getattr__" = some none),
  decide (PySem.W.findIn K (.ref (He.ga K "InvalidNumber")) "__class__" = some (some (.builtin "object.__class__"))),
  decide (PySem.W.keepIn K (.ref (He.ga K "InvalidNumber")) = true),
  decide (PySem.W.findIn K (.ref (He.ga K "InvalidNumber")) "given" = some none),
  decide (PySem.W.findIn K (.ref (He.ga K "InvalidNumber")) "__init__" = some (some (.ref (He.fAd K ("InvalidNumber", some "__init__"))))),
  decide (PySem.W.typeIn K (.ref (He.fAd K ("InvalidNumber", some "__init__"))) = some (.type "function")),
  decide (PySem.W.nsIn K mainGlobals "InvalidSizes" = some (some (.ref (He.ga K "InvalidSizes")))),
  excB K (He.ga K "InvalidSizes") [.ref (He.ga K "EndError"), .type "ValueError", .type "Exception", .type "BaseException", .type "object"],
  decide (PySem.W.findIn K (.ref (He.ga K "InvalidSizes")) "__setattr__" = some (some (.builtin "object.__setattr__"))),
  decide (PySem.W.findIn K (.ref (He.ga K "InvalidSizes")) "__getattribute__" = some (some (.builtin "BaseException.__getattribute__"))),
  decide (PySem.W.findIn K (.ref (He.ga K "InvalidSizes")) "__getattr__" = some none),
  decide (PySem.W.findIn K (.ref (He.ga K "InvalidSizes")) "__class__" = some (some (.builtin "object.__class__"))),
  decide (PySem.W.keepIn K (.ref (He.ga K "InvalidSizes")) = true),
  decide (PySem.W.findIn K (.ref (He.ga K "InvalidSizes")) "given" = some none),
  decide (PySem.W.findIn K (.ref (He.ga K "InvalidSizes")) "__init__" = some (some (.ref (He.fAd K ("InvalidSizes", some "__init__"))))),
  decide (PySem.W.typeIn K (.ref (He.fAd K ("InvalidSizes", some "__init__"))) = some (.type "function")),
  decide (PySem.W.nsIn K mainGlobals "InvalidStore" = some (some (.ref (He.ga K "InvalidStore")))),
  excB K (He.ga K "InvalidStore") [.ref (He.ga K "EndError"), .type "ValueError", .type "Exception", .type "BaseException", .type "object"],
  decide (PySem.W.findIn K (.ref (He.ga K "InvalidStore")) "__setattr__" = some (some (.builtin "object.__setattr__"))),
  decide (PySem.W.findIn K (.ref (He.ga K "InvalidStore")) "__getattribute__" = some (some (.builtin "BaseException.__getattribute__"))),
  decide (PySem.W.findIn K (.ref (He.ga K "InvalidStore")) "__getattr__" = some none),
  decide (PySem.W.findIn K (.ref (He.ga K "InvalidStore")) "__class__" = some (some (.builtin "object.__class__"))),
  decide (PySem.W.keepIn K (.ref (He.ga K "InvalidStore")) = true),
  decide (PySem.W.findIn K (.ref (He.ga K "InvalidStore")) "given" = some none),
  decide (PySem.W.findIn K (.ref (He.ga K "InvalidStore")) "__init__" = some (some (.ref (He.fAd K ("InvalidStore", some "__init__"))))),
  decide (PySem.W.typeIn K (.ref (He.fAd K ("InvalidStore", some "__init__"))) = some (.type "function")),
  decide (PySem.W.nsIn K mainGlobals "InvalidValues" = some (some (.ref (He.ga K "InvalidValues")))),
  excB K (He.ga K "InvalidValues") [.ref (He.ga K "EndError"), .type "ValueError", .type "Exception", .type "BaseException", .type "object"],
  decide (PySem.W.findIn K (.ref (He.ga K "InvalidValues")) "__setattr__" = some (some (.builtin "object.__setattr__"))),
  decide (PySem.W.findIn K (.ref (He.ga K "InvalidValues")) "__getattribute__" = some (some (.builtin "BaseException.__getattribute__")))]
def ht4 (K : PySem.W.Frag) : List Bool := [decide (PySem.W.findIn K (.ref (He.ga K "InvalidValues")) "__getattr__" = some none),
  decide (PySem.W.findIn K (.ref (He.ga K "InvalidValues")) "__class__" = some (some (.builtin "object.__class__"))),
  decide (PySem.W.keepIn K (.ref (He.ga K "InvalidValues")) = true),
  decide (PySem.W.findIn K (.ref (He.ga K "InvalidValues")) "given" = some none),
  decide (PySem.W.findIn K (.ref (He.ga K "InvalidValues")) "__init__" = some (some (.ref (He.fAd K ("InvalidValues", some "__init__"))))),
  decide (PySem.W.typeIn K (.ref (He.fAd K ("InvalidValues", some "__init__"))) = some (.type "function")),
  decide (PySem.W.nsIn K mainGlobals "InvalidLine" = some (some (.ref (He.ga K "InvalidLine")))),
  excB K (He.ga K "InvalidLine") [.ref (He.ga K "EndError"), .type "ValueError", .type "Exception", .type "BaseException", .type "object"],
  decide (PySem.W.findIn K (.ref (He.ga K "InvalidLine")) "__setattr__" = some (some (.builtin "object.__setattr__"))),
  decide (PySem.W.findIn K (.ref (He.ga K "InvalidLine")) "__getattribute__" = some (some (.builtin "BaseException.__getattribute__"))),
  decide (PySem.W.findIn K (.ref (He.ga K "InvalidLine")) "__getattr__" = some none),
  decide (PySem.W.findIn K (.ref (He.ga K "InvalidLine")) "__class__" = some (some (.builtin "object.__class__"))),
  decide (PySem.W.keepIn K (.ref (He.ga K "InvalidLine")) = true),
  decide (PySem.W.findIn K (.ref (He.ga K "InvalidLine")) "given" = some none),
  decide (PySem.W.findIn K (.ref (He.ga K "InvalidLine")) "__init__" = some (some (.ref (He.fAd K ("InvalidLine", some "__init__"))))),
  decide (PySem.W.typeIn K (.ref (He.fAd K ("InvalidLine", some "__init__"))) = some (.type "function")),
  decide (PySem.W.nsIn K mainGlobals "InvalidSpace" = some (some (.ref (He.ga K "InvalidSpace")))),
  excB K (He.ga K "InvalidSpace") [.ref (He.ga K "EndError"), .type "ValueError", .type "Exception", .type "BaseException", .type "object"],
  decide (PySem.W.findIn K (.ref (He.ga K "InvalidSpace")) "__setattr__" = some (some (.builtin "object.__setattr__"))),
  decide (PySem.W.findIn K (.ref (He.ga K "InvalidSpace")) "__getattribute__" = some (some (.builtin "BaseException.__getattribute__"))),
  decide (PySem.W.findIn K (.ref (He.ga K "InvalidSpace")) "__getattr__" = some none),
  decide (PySem.W.findIn K (.ref (He.ga K "InvalidSpace")) "__class__" = some (some (.builtin "object.__class__"))),
  decide (PySem.W.keepIn K (.ref (He.ga K "InvalidSpace")) = true),
  decide (PySem.W.findIn K (.ref (He.ga K "InvalidSpace")) "given" = some none),
  decide (PySem.W.findIn K (.ref (He.ga K "InvalidSpace")) "__init__" = some (some (.ref (He.fAd K ("InvalidSpace", some "__init__"))))),
  decide (PySem.W.typeIn K (.ref (He.fAd K ("InvalidSpace", some "__init__"))) = some (.type "function")),
  decide (PySem.W.nsIn K mainGlobals "InvalidOutcome" = some (some (.ref (He.ga K "InvalidOutcome")))),
  excB K (He.ga K "InvalidOutcome") [.ref (He.ga K "EndError"), .type "ValueError", .type "Exception", .type "BaseException", .type "object"],
  decide (PySem.W.findIn K (.ref (He.ga K "InvalidOutcome")) "__setattr__" = some (some (.builtin "object.__setattr__"))),
  decide (PySem.W.findIn K (.ref (He.ga K "InvalidOutcome")) "__getattribute__" = some (some (.builtin "BaseException.__getattribute__")))]
def ht5 (K : PySem.W.Frag) : List Bool := [decide (PySem.W.findIn K (.ref (He.ga K "InvalidOutcome")) "__getattr__" = some none),
  decide (PySem.W.findIn K (.ref (He.ga K "InvalidOutcome")) "__class__" = some (some (.builtin "object.__class__"))),
  decide (PySem.W.keepIn K (.ref (He.ga K "InvalidOutcome")) = true),
  decide (PySem.W.findIn K (.ref (He.ga K "InvalidOutcome")) "given" = some none),
  decide (PySem.W.findIn K (.ref (He.ga K "InvalidOutcome")) "__init__" = some (some (.ref (He.fAd K ("InvalidOutcome", some "__init__"))))),
  decide (PySem.W.typeIn K (.ref (He.fAd K ("InvalidOutcome", some "__init__"))) = some (.type "function")),
  decide (PySem.W.nsIn K mainGlobals "InvalidWeights" = some (some (.ref (He.ga K "InvalidWeights")))),
  excB K (He.ga K "InvalidWeights") [.ref (He.ga K "EndError"), .type "ValueError", .type "Exception", .type "BaseException", .type "object"],
  decide (PySem.W.findIn K (.ref (He.ga K "InvalidWeights")) "__setattr__" = some (some (.builtin "object.__setattr__"))),
  decide (PySem.W.findIn K (.ref (He.ga K "InvalidWeights")) "__getattribute__" = some (some (.builtin "BaseException.__getattribute__"))),
  decide (PySem.W.findIn K (.ref (He.ga K "InvalidWeights")) "__getattr__" = some none),
  decide (PySem.W.findIn K (.ref (He.ga K "InvalidWeights")) "__class__" = some (some (.builtin "object.__class__"))),
  decide (PySem.W.keepIn K (.ref (He.ga K "InvalidWeights")) = true),
  decide (PySem.W.findIn K (.ref (He.ga K "InvalidWeights")) "given" = some none),
  decide (PySem.W.findIn K (.ref (He.ga K "InvalidWeights")) "__init__" = some (some (.ref (He.fAd K ("InvalidWeights", some "__init__"))))),
  decide (PySem.W.typeIn K (.ref (He.fAd K ("InvalidWeights", some "__init__"))) = some (.type "function")),
  decide (PySem.W.nsIn K mainGlobals "InvalidLot" = some (some (.ref (He.ga K "InvalidLot")))),
  excB K (He.ga K "InvalidLot") [.ref (He.ga K "EndError"), .type "ValueError", .type "Exception", .type "BaseException", .type "object"],
  decide (PySem.W.findIn K (.ref (He.ga K "InvalidLot")) "__setattr__" = some (some (.builtin "object.__setattr__"))),
  decide (PySem.W.findIn K (.ref (He.ga K "InvalidLot")) "__getattribute__" = some (some (.builtin "BaseException.__getattribute__"))),
  decide (PySem.W.findIn K (.ref (He.ga K "InvalidLot")) "__getattr__" = some none),
  decide (PySem.W.findIn K (.ref (He.ga K "InvalidLot")) "__class__" = some (some (.builtin "object.__class__"))),
  decide (PySem.W.keepIn K (.ref (He.ga K "InvalidLot")) = true),
  decide (PySem.W.findIn K (.ref (He.ga K "InvalidLot")) "given" = some none),
  decide (PySem.W.findIn K (.ref (He.ga K "InvalidLot")) "__init__" = some (some (.ref (He.fAd K ("InvalidLot", some "__init__"))))),
  decide (PySem.W.typeIn K (.ref (He.fAd K ("InvalidLot", some "__init__"))) = some (.type "function")),
  decide (PySem.W.nsIn K mainGlobals "InvalidLots" = some (some (.ref (He.ga K "InvalidLots")))),
  excB K (He.ga K "InvalidLots") [.ref (He.ga K "EndError"), .type "ValueError", .type "Exception", .type "BaseException", .type "object"],
  decide (PySem.W.findIn K (.ref (He.ga K "InvalidLots")) "__setattr__" = some (some (.builtin "object.__setattr__"))),
  decide (PySem.W.findIn K (.ref (He.ga K "InvalidLots")) "__getattribute__" = some (some (.builtin "BaseException.__getattribute__")))]
def ht6 (K : PySem.W.Frag) : List Bool := [decide (PySem.W.findIn K (.ref (He.ga K "InvalidLots")) "__getattr__" = some none),
  decide (PySem.W.findIn K (.ref (He.ga K "InvalidLots")) "__class__" = some (some (.builtin "object.__class__"))),
  decide (PySem.W.keepIn K (.ref (He.ga K "InvalidLots")) = true),
  decide (PySem.W.findIn K (.ref (He.ga K "InvalidLots")) "given" = some none),
  decide (PySem.W.findIn K (.ref (He.ga K "InvalidLots")) "__init__" = some (some (.ref (He.fAd K ("InvalidLots", some "__init__"))))),
  decide (PySem.W.typeIn K (.ref (He.fAd K ("InvalidLots", some "__init__"))) = some (.type "function")),
  decide (PySem.W.nsIn K mainGlobals "InvalidPayoff" = some (some (.ref (He.ga K "InvalidPayoff")))),
  excB K (He.ga K "InvalidPayoff") [.ref (He.ga K "EndError"), .type "ValueError", .type "Exception", .type "BaseException", .type "object"],
  decide (PySem.W.findIn K (.ref (He.ga K "InvalidPayoff")) "__setattr__" = some (some (.builtin "object.__setattr__"))),
  decide (PySem.W.findIn K (.ref (He.ga K "InvalidPayoff")) "__getattribute__" = some (some (.builtin "BaseException.__getattribute__"))),
  decide (PySem.W.findIn K (.ref (He.ga K "InvalidPayoff")) "__getattr__" = some none),
  decide (PySem.W.findIn K (.ref (He.ga K "InvalidPayoff")) "__class__" = some (some (.builtin "object.__class__"))),
  decide (PySem.W.keepIn K (.ref (He.ga K "InvalidPayoff")) = true),
  decide (PySem.W.findIn K (.ref (He.ga K "InvalidPayoff")) "given" = some none),
  decide (PySem.W.findIn K (.ref (He.ga K "InvalidPayoff")) "__init__" = some (some (.ref (He.fAd K ("InvalidPayoff", some "__init__"))))),
  decide (PySem.W.typeIn K (.ref (He.fAd K ("InvalidPayoff", some "__init__"))) = some (.type "function")),
  decide (PySem.W.nsIn K mainGlobals "InvalidText" = some (some (.ref (He.ga K "InvalidText")))),
  excB K (He.ga K "InvalidText") [.ref (He.ga K "EndError"), .type "ValueError", .type "Exception", .type "BaseException", .type "object"],
  decide (PySem.W.findIn K (.ref (He.ga K "InvalidText")) "__setattr__" = some (some (.builtin "object.__setattr__"))),
  decide (PySem.W.findIn K (.ref (He.ga K "InvalidText")) "__getattribute__" = some (some (.builtin "BaseException.__getattribute__"))),
  decide (PySem.W.findIn K (.ref (He.ga K "InvalidText")) "__getattr__" = some none),
  decide (PySem.W.findIn K (.ref (He.ga K "InvalidText")) "__class__" = some (some (.builtin "object.__class__"))),
  decide (PySem.W.keepIn K (.ref (He.ga K "InvalidText")) = true),
  decide (PySem.W.findIn K (.ref (He.ga K "InvalidText")) "given" = some none),
  decide (PySem.W.findIn K (.ref (He.ga K "InvalidText")) "__init__" = some (some (.ref (He.fAd K ("InvalidText", some "__init__"))))),
  decide (PySem.W.typeIn K (.ref (He.fAd K ("InvalidText", some "__init__"))) = some (.type "function")),
  decide (PySem.W.nsIn K mainGlobals "InvalidSurrounding" = some (some (.ref (He.ga K "InvalidSurrounding")))),
  excB K (He.ga K "InvalidSurrounding") [.ref (He.ga K "EndError"), .type "ValueError", .type "Exception", .type "BaseException", .type "object"],
  decide (PySem.W.findIn K (.ref (He.ga K "InvalidSurrounding")) "__setattr__" = some (some (.builtin "object.__setattr__"))),
  decide (PySem.W.findIn K (.ref (He.ga K "InvalidSurrounding")) "__getattribute__" = some (some (.builtin "BaseException.__getattribute__")))]
def ht7 (K : PySem.W.Frag) : List Bool := [decide (PySem.W.findIn K (.ref (He.ga K "InvalidSurrounding")) "__getattr__" = some none),
  decide (PySem.W.findIn K (.ref (He.ga K "InvalidSurrounding")) "__class__" = some (some (.builtin "object.__class__"))),
  decide (PySem.W.keepIn K (.ref (He.ga K "InvalidSurrounding")) = true),
  decide (PySem.W.findIn K (.ref (He.ga K "InvalidSurrounding")) "given" = some none),
  decide (PySem.W.findIn K (.ref (He.ga K "InvalidSurrounding")) "__init__" = some (some (.ref (He.fAd K ("InvalidSurrounding", some "__init__"))))),
  decide (PySem.W.typeIn K (.ref (He.fAd K ("InvalidSurrounding", some "__init__"))) = some (.type "function")),
  decide (PySem.W.nsIn K mainGlobals "InvalidPath" = some (some (.ref (He.ga K "InvalidPath")))),
  excB K (He.ga K "InvalidPath") [.ref (He.ga K "EndError"), .type "ValueError", .type "Exception", .type "BaseException", .type "object"],
  decide (PySem.W.findIn K (.ref (He.ga K "InvalidPath")) "__setattr__" = some (some (.builtin "object.__setattr__"))),
  decide (PySem.W.findIn K (.ref (He.ga K "InvalidPath")) "__getattribute__" = some (some (.builtin "BaseException.__getattribute__"))),
  decide (PySem.W.findIn K (.ref (He.ga K "InvalidPath")) "__getattr__" = some none),
  decide (PySem.W.findIn K (.ref (He.ga K "InvalidPath")) "__class__" = some (some (.builtin "object.__class__"))),
  decide (PySem.W.keepIn K (.ref (He.ga K "InvalidPath")) = true),
  decide (PySem.W.findIn K (.ref (He.ga K "InvalidPath")) "given" = some none),
  decide (PySem.W.findIn K (.ref (He.ga K "InvalidPath")) "__init__" = some (some (.ref (He.fAd K ("InvalidPath", some "__init__"))))),
  decide (PySem.W.typeIn K (.ref (He.fAd K ("InvalidPath", some "__init__"))) = some (.type "function")),
  decide (PySem.W.nsIn K mainGlobals "InvalidPart" = some (some (.ref (He.ga K "InvalidPart")))),
  excB K (He.ga K "InvalidPart") [.ref (He.ga K "EndError"), .type "ValueError", .type "Exception", .type "BaseException", .type "object"],
  decide (PySem.W.findIn K (.ref (He.ga K "InvalidPart")) "__setattr__" = some (some (.builtin "object.__setattr__"))),
  decide (PySem.W.findIn K (.ref (He.ga K "InvalidPart")) "__getattribute__" = some (some (.builtin "BaseException.__getattribute__"))),
  decide (PySem.W.findIn K (.ref (He.ga K "InvalidPart")) "__getattr__" = some none),
  decide (PySem.W.findIn K (.ref (He.ga K "InvalidPart")) "__class__" = some (some (.builtin "object.__class__"))),
  decide (PySem.W.keepIn K (.ref (He.ga K "InvalidPart")) = true),
  decide (PySem.W.findIn K (.ref (He.ga K "InvalidPart")) "given" = some none),
  decide (PySem.W.findIn K (.ref (He.ga K "InvalidPart")) "__init__" = some (some (.ref (He.fAd K ("InvalidPart", some "__init__"))))),
  decide (PySem.W.typeIn K (.ref (He.fAd K ("InvalidPart", some "__init__"))) = some (.type "function")),
  decide (PySem.W.nsIn K mainGlobals "InvalidSides" = some (some (.ref (He.ga K "InvalidSides")))),
  excB K (He.ga K "InvalidSides") [.ref (He.ga K "EndError"), .type "ValueError", .type "Exception", .type "BaseException", .type "object"],
  decide (PySem.W.findIn K (.ref (He.ga K "InvalidSides")) "__setattr__" = some (some (.builtin "object.__setattr__"))),
  decide (PySem.W.findIn K (.ref (He.ga K "InvalidSides")) "__getattribute__" = some (some (.builtin "BaseException.__getattribute__")))]
def ht8 (K : PySem.W.Frag) : List Bool := [decide (PySem.W.findIn K (.ref (He.ga K "InvalidSides")) "__getattr__" = some none),
  decide (PySem.W.findIn K (.ref (He.ga K "InvalidSides")) "__class__" = some (some (.builtin "object.__class__"))),
  decide (PySem.W.keepIn K (.ref (He.ga K "InvalidSides")) = true),
  decide (PySem.W.findIn K (.ref (He.ga K "InvalidSides")) "given" = some none),
  decide (PySem.W.findIn K (.ref (He.ga K "InvalidSides")) "__init__" = some (some (.ref (He.fAd K ("InvalidSides", some "__init__"))))),
  decide (PySem.W.typeIn K (.ref (He.fAd K ("InvalidSides", some "__init__"))) = some (.type "function")),
  decide (PySem.W.nsIn K mainGlobals "InvalidDraws" = some (some (.ref (He.ga K "InvalidDraws")))),
  excB K (He.ga K "InvalidDraws") [.ref (He.ga K "EndError"), .type "ValueError", .type "Exception", .type "BaseException", .type "object"],
  decide (PySem.W.findIn K (.ref (He.ga K "InvalidDraws")) "__setattr__" = some (some (.builtin "object.__setattr__"))),
  decide (PySem.W.findIn K (.ref (He.ga K "InvalidDraws")) "__getattribute__" = some (some (.builtin "BaseException.__getattribute__"))),
  decide (PySem.W.findIn K (.ref (He.ga K "InvalidDraws")) "__getattr__" = some none),
  decide (PySem.W.findIn K (.ref (He.ga K "InvalidDraws")) "__class__" = some (some (.builtin "object.__class__"))),
  decide (PySem.W.keepIn K (.ref (He.ga K "InvalidDraws")) = true),
  decide (PySem.W.findIn K (.ref (He.ga K "InvalidDraws")) "given" = some none),
  decide (PySem.W.findIn K (.ref (He.ga K "InvalidDraws")) "__init__" = some (some (.ref (He.fAd K ("InvalidDraws", some "__init__"))))),
  decide (PySem.W.typeIn K (.ref (He.fAd K ("InvalidDraws", some "__init__"))) = some (.type "function")),
  decide (PySem.W.nsIn K mainGlobals "InvalidShare" = some (some (.ref (He.ga K "InvalidShare")))),
  excB K (He.ga K "InvalidShare") [.ref (He.ga K "EndError"), .type "ValueError", .type "Exception", .type "BaseException", .type "object"],
  decide (PySem.W.findIn K (.ref (He.ga K "InvalidShare")) "__setattr__" = some (some (.builtin "object.__setattr__"))),
  decide (PySem.W.findIn K (.ref (He.ga K "InvalidShare")) "__getattribute__" = some (some (.builtin "BaseException.__getattribute__"))),
  decide (PySem.W.findIn K (.ref (He.ga K "InvalidShare")) "__getattr__" = some none),
  decide (PySem.W.findIn K (.ref (He.ga K "InvalidShare")) "__class__" = some (some (.builtin "object.__class__"))),
  decide (PySem.W.keepIn K (.ref (He.ga K "InvalidShare")) = true),
  decide (PySem.W.findIn K (.ref (He.ga K "InvalidShare")) "given" = some none),
  decide (PySem.W.findIn K (.ref (He.ga K "InvalidShare")) "__init__" = some (some (.ref (He.fAd K ("InvalidShare", some "__init__"))))),
  decide (PySem.W.typeIn K (.ref (He.fAd K ("InvalidShare", some "__init__"))) = some (.type "function")),
  decide (PySem.W.nsIn K mainGlobals "InvalidSteps" = some (some (.ref (He.ga K "InvalidSteps")))),
  excB K (He.ga K "InvalidSteps") [.ref (He.ga K "EndError"), .type "ValueError", .type "Exception", .type "BaseException", .type "object"],
  decide (PySem.W.findIn K (.ref (He.ga K "InvalidSteps")) "__setattr__" = some (some (.builtin "object.__setattr__"))),
  decide (PySem.W.findIn K (.ref (He.ga K "InvalidSteps")) "__getattribute__" = some (some (.builtin "BaseException.__getattribute__")))]
def ht9 (K : PySem.W.Frag) : List Bool := [decide (PySem.W.findIn K (.ref (He.ga K "InvalidSteps")) "__getattr__" = some none),
  decide (PySem.W.findIn K (.ref (He.ga K "InvalidSteps")) "__class__" = some (some (.builtin "object.__class__"))),
  decide (PySem.W.keepIn K (.ref (He.ga K "InvalidSteps")) = true),
  decide (PySem.W.findIn K (.ref (He.ga K "InvalidSteps")) "given" = some none),
  decide (PySem.W.findIn K (.ref (He.ga K "InvalidSteps")) "__init__" = some (some (.ref (He.fAd K ("InvalidSteps", some "__init__"))))),
  decide (PySem.W.typeIn K (.ref (He.fAd K ("InvalidSteps", some "__init__"))) = some (.type "function")),
  decide (PySem.W.nsIn K mainGlobals "InvalidRow" = some (some (.ref (He.ga K "InvalidRow")))),
  excB K (He.ga K "InvalidRow") [.ref (He.ga K "EndError"), .type "ValueError", .type "Exception", .type "BaseException", .type "object"],
  decide (PySem.W.findIn K (.ref (He.ga K "InvalidRow")) "__setattr__" = some (some (.builtin "object.__setattr__"))),
  decide (PySem.W.findIn K (.ref (He.ga K "InvalidRow")) "__getattribute__" = some (some (.builtin "BaseException.__getattribute__"))),
  decide (PySem.W.findIn K (.ref (He.ga K "InvalidRow")) "__getattr__" = some none),
  decide (PySem.W.findIn K (.ref (He.ga K "InvalidRow")) "__class__" = some (some (.builtin "object.__class__"))),
  decide (PySem.W.keepIn K (.ref (He.ga K "InvalidRow")) = true),
  decide (PySem.W.findIn K (.ref (He.ga K "InvalidRow")) "given" = some none),
  decide (PySem.W.findIn K (.ref (He.ga K "InvalidRow")) "__init__" = some (some (.ref (He.fAd K ("InvalidRow", some "__init__"))))),
  decide (PySem.W.typeIn K (.ref (He.fAd K ("InvalidRow", some "__init__"))) = some (.type "function")),
  decide (PySem.W.nsIn K mainGlobals "InvalidPick" = some (some (.ref (He.ga K "InvalidPick")))),
  excB K (He.ga K "InvalidPick") [.ref (He.ga K "EndError"), .type "ValueError", .type "Exception", .type "BaseException", .type "object"],
  decide (PySem.W.findIn K (.ref (He.ga K "InvalidPick")) "__setattr__" = some (some (.builtin "object.__setattr__"))),
  decide (PySem.W.findIn K (.ref (He.ga K "InvalidPick")) "__getattribute__" = some (some (.builtin "BaseException.__getattribute__"))),
  decide (PySem.W.findIn K (.ref (He.ga K "InvalidPick")) "__getattr__" = some none),
  decide (PySem.W.findIn K (.ref (He.ga K "InvalidPick")) "__class__" = some (some (.builtin "object.__class__"))),
  decide (PySem.W.keepIn K (.ref (He.ga K "InvalidPick")) = true),
  decide (PySem.W.findIn K (.ref (He.ga K "InvalidPick")) "given" = some none),
  decide (PySem.W.findIn K (.ref (He.ga K "InvalidPick")) "__init__" = some (some (.ref (He.fAd K ("InvalidPick", some "__init__"))))),
  decide (PySem.W.typeIn K (.ref (He.fAd K ("InvalidPick", some "__init__"))) = some (.type "function")),
  decide (PySem.W.nsIn K mainGlobals "InvalidDice" = some (some (.ref (He.ga K "InvalidDice")))),
  excB K (He.ga K "InvalidDice") [.ref (He.ga K "EndError"), .type "ValueError", .type "Exception", .type "BaseException", .type "object"],
  decide (PySem.W.findIn K (.ref (He.ga K "InvalidDice")) "__setattr__" = some (some (.builtin "object.__setattr__"))),
  decide (PySem.W.findIn K (.ref (He.ga K "InvalidDice")) "__getattribute__" = some (some (.builtin "BaseException.__getattribute__")))]
def ht10 (K : PySem.W.Frag) : List Bool := [decide (PySem.W.findIn K (.ref (He.ga K "InvalidDice")) "__getattr__" = some none),
  decide (PySem.W.findIn K (.ref (He.ga K "InvalidDice")) "__class__" = some (some (.builtin "object.__class__"))),
  decide (PySem.W.keepIn K (.ref (He.ga K "InvalidDice")) = true),
  decide (PySem.W.findIn K (.ref (He.ga K "InvalidDice")) "given" = some none),
  decide (PySem.W.findIn K (.ref (He.ga K "InvalidDice")) "__init__" = some (some (.ref (He.fAd K ("InvalidDice", some "__init__"))))),
  decide (PySem.W.typeIn K (.ref (He.fAd K ("InvalidDice", some "__init__"))) = some (.type "function")),
  decide (PySem.W.nsIn K mainGlobals "InvalidBlend" = some (some (.ref (He.ga K "InvalidBlend")))),
  excB K (He.ga K "InvalidBlend") [.ref (He.ga K "EndError"), .type "ValueError", .type "Exception", .type "BaseException", .type "object"],
  decide (PySem.W.findIn K (.ref (He.ga K "InvalidBlend")) "__setattr__" = some (some (.builtin "object.__setattr__"))),
  decide (PySem.W.findIn K (.ref (He.ga K "InvalidBlend")) "__getattribute__" = some (some (.builtin "BaseException.__getattribute__"))),
  decide (PySem.W.findIn K (.ref (He.ga K "InvalidBlend")) "__getattr__" = some none),
  decide (PySem.W.findIn K (.ref (He.ga K "InvalidBlend")) "__class__" = some (some (.builtin "object.__class__"))),
  decide (PySem.W.keepIn K (.ref (He.ga K "InvalidBlend")) = true),
  decide (PySem.W.findIn K (.ref (He.ga K "InvalidBlend")) "given" = some none),
  decide (PySem.W.findIn K (.ref (He.ga K "InvalidBlend")) "__init__" = some (some (.ref (He.fAd K ("InvalidBlend", some "__init__"))))),
  decide (PySem.W.typeIn K (.ref (He.fAd K ("InvalidBlend", some "__init__"))) = some (.type "function")),
  decide (PySem.W.nsIn K mainGlobals "InvalidLimits" = some (some (.ref (He.ga K "InvalidLimits")))),
  excB K (He.ga K "InvalidLimits") [.ref (He.ga K "EndError"), .type "ValueError", .type "Exception", .type "BaseException", .type "object"],
  decide (PySem.W.findIn K (.ref (He.ga K "InvalidLimits")) "__setattr__" = some (some (.builtin "object.__setattr__"))),
  decide (PySem.W.findIn K (.ref (He.ga K "InvalidLimits")) "__getattribute__" = some (some (.builtin "BaseException.__getattribute__"))),
  decide (PySem.W.findIn K (.ref (He.ga K "InvalidLimits")) "__getattr__" = some none),
  decide (PySem.W.findIn K (.ref (He.ga K "InvalidLimits")) "__class__" = some (some (.builtin "object.__class__"))),
  decide (PySem.W.keepIn K (.ref (He.ga K "InvalidLimits")) = true),
  decide (PySem.W.findIn K (.ref (He.ga K "InvalidLimits")) "given" = some none),
  decide (PySem.W.findIn K (.ref (He.ga K "InvalidLimits")) "__init__" = some (some (.ref (He.fAd K ("InvalidLimits", some "__init__"))))),
  decide (PySem.W.typeIn K (.ref (He.fAd K ("InvalidLimits", some "__init__"))) = some (.type "function")),
  decide (PySem.W.nsIn K mainGlobals "InvalidPairs" = some (some (.ref (He.ga K "InvalidPairs")))),
  excB K (He.ga K "InvalidPairs") [.ref (He.ga K "EndError"), .type "ValueError", .type "Exception", .type "BaseException", .type "object"],
  decide (PySem.W.findIn K (.ref (He.ga K "InvalidPairs")) "__setattr__" = some (some (.builtin "object.__setattr__"))),
  decide (PySem.W.findIn K (.ref (He.ga K "InvalidPairs")) "__getattribute__" = some (some (.builtin "BaseException.__getattribute__")))]
def ht11 (K : PySem.W.Frag) : List Bool := [decide (PySem.W.findIn K (.ref (He.ga K "InvalidPairs")) "__getattr__" = some none),
  decide (PySem.W.findIn K (.ref (He.ga K "InvalidPairs")) "__class__" = some (some (.builtin "object.__class__"))),
  decide (PySem.W.keepIn K (.ref (He.ga K "InvalidPairs")) = true),
  decide (PySem.W.findIn K (.ref (He.ga K "InvalidPairs")) "given" = some none),
  decide (PySem.W.findIn K (.ref (He.ga K "InvalidPairs")) "__init__" = some (some (.ref (He.fAd K ("InvalidPairs", some "__init__"))))),
  decide (PySem.W.typeIn K (.ref (He.fAd K ("InvalidPairs", some "__init__"))) = some (.type "function")),
  decide (PySem.W.nsIn K mainGlobals "InvalidSet" = some (some (.ref (He.ga K "InvalidSet")))),
  excB K (He.ga K "InvalidSet") [.ref (He.ga K "EndError"), .type "ValueError", .type "Exception", .type "BaseException", .type "object"],
  decide (PySem.W.findIn K (.ref (He.ga K "InvalidSet")) "__setattr__" = some (some (.builtin "object.__setattr__"))),
  decide (PySem.W.findIn K (.ref (He.ga K "InvalidSet")) "__getattribute__" = some (some (.builtin "BaseException.__getattribute__"))),
  decide (PySem.W.findIn K (.ref (He.ga K "InvalidSet")) "__getattr__" = some none),
  decide (PySem.W.findIn K (.ref (He.ga K "InvalidSet")) "__class__" = some (some (.builtin "object.__class__"))),
  decide (PySem.W.keepIn K (.ref (He.ga K "InvalidSet")) = true),
  decide (PySem.W.findIn K (.ref (He.ga K "InvalidSet")) "given" = some none),
  decide (PySem.W.findIn K (.ref (He.ga K "InvalidSet")) "__init__" = some (some (.ref (He.fAd K ("InvalidSet", some "__init__"))))),
  decide (PySem.W.typeIn K (.ref (He.fAd K ("InvalidSet", some "__init__"))) = some (.type "function")),
  decide (PySem.W.nsIn K mainGlobals "InvalidName" = some (some (.ref (He.ga K "InvalidName")))),
  excB K (He.ga K "InvalidName") [.ref (He.ga K "EndError"), .type "ValueError", .type "Exception", .type "BaseException", .type "object"],
  decide (PySem.W.findIn K (.ref (He.ga K "InvalidName")) "__setattr__" = some (some (.builtin "object.__setattr__"))),
  decide (PySem.W.findIn K (.ref (He.ga K "InvalidName")) "__getattribute__" = some (some (.builtin "BaseException.__getattribute__"))),
  decide (PySem.W.findIn K (.ref (He.ga K "InvalidName")) "__getattr__" = some none),
  decide (PySem.W.findIn K (.ref (He.ga K "InvalidName")) "__class__" = some (some (.builtin "object.__class__"))),
  decide (PySem.W.keepIn K (.ref (He.ga K "InvalidName")) = true),
  decide (PySem.W.findIn K (.ref (He.ga K "InvalidName")) "given" = some none),
  decide (PySem.W.findIn K (.ref (He.ga K "InvalidName")) "__init__" = some (some (.ref (He.fAd K ("InvalidName", some "__init__"))))),
  decide (PySem.W.typeIn K (.ref (He.fAd K ("InvalidName", some "__init__"))) = some (.type "function")),
  decide (PySem.W.nsIn K mainGlobals "InvalidOther" = some (some (.ref (He.ga K "InvalidOther")))),
  excB K (He.ga K "InvalidOther") [.ref (He.ga K "EndError"), .type "ValueError", .type "Exception", .type "BaseException", .type "object"],
  decide (PySem.W.findIn K (.ref (He.ga K "InvalidOther")) "__setattr__" = some (some (.builtin "object.__setattr__"))),
  decide (PySem.W.findIn K (.ref (He.ga K "InvalidOther")) "__getattribute__" = some (some (.builtin "BaseException.__getattribute__")))]
def ht12 (K : PySem.W.Frag) : List Bool := [decide (PySem.W.findIn K (.ref (He.ga K "InvalidOther")) "__getattr__" = some none),
  decide (PySem.W.findIn K (.ref (He.ga K "InvalidOther")) "__class__" = some (some (.builtin "object.__class__"))),
  decide (PySem.W.keepIn K (.ref (He.ga K "InvalidOther")) = true),
  decide (PySem.W.findIn K (.ref (He.ga K "InvalidOther")) "given" = some none),
  decide (PySem.W.findIn K (.ref (He.ga K "InvalidOther")) "__init__" = some (some (.ref (He.fAd K ("InvalidOther", some "__init__"))))),
  decide (PySem.W.typeIn K (.ref (He.fAd K ("InvalidOther", some "__init__"))) = some (.type "function")),
  decide (PySem.W.nsIn K mainGlobals "TooMany" = some (some (.ref (He.ga K "TooMany")))),
  excB K (He.ga K "TooMany") [.ref (He.ga K "EndError"), .type "ValueError", .type "Exception", .type "BaseException", .type "object"],
  decide (PySem.W.findIn K (.ref (He.ga K "TooMany")) "__setattr__" = some (some (.builtin "object.__setattr__"))),
  decide (PySem.W.findIn K (.ref (He.ga K "TooMany")) "__getattribute__" = some (some (.builtin "BaseException.__getattribute__"))),
  decide (PySem.W.findIn K (.ref (He.ga K "TooMany")) "__getattr__" = some none),
  decide (PySem.W.findIn K (.ref (He.ga K "TooMany")) "__class__" = some (some (.builtin "object.__class__"))),
  decide (PySem.W.keepIn K (.ref (He.ga K "TooMany")) = true),
  decide (PySem.W.findIn K (.ref (He.ga K "TooMany")) "count" = some none),
  decide (PySem.W.findIn K (.ref (He.ga K "TooMany")) "__init__" = some (some (.ref (He.fAd K ("TooMany", some "__init__"))))),
  decide (PySem.W.typeIn K (.ref (He.fAd K ("TooMany", some "__init__"))) = some (.type "function")),
  decide (PySem.W.nsIn K mainGlobals "Outside" = some (some (.ref (He.ga K "Outside")))),
  excB K (He.ga K "Outside") [.ref (He.ga K "EndError"), .type "ValueError", .type "Exception", .type "BaseException", .type "object"],
  decide (PySem.W.findIn K (.ref (He.ga K "Outside")) "__setattr__" = some (some (.builtin "object.__setattr__"))),
  decide (PySem.W.findIn K (.ref (He.ga K "Outside")) "__getattribute__" = some (some (.builtin "BaseException.__getattribute__"))),
  decide (PySem.W.findIn K (.ref (He.ga K "Outside")) "__getattr__" = some none),
  decide (PySem.W.findIn K (.ref (He.ga K "Outside")) "__class__" = some (some (.builtin "object.__class__"))),
  decide (PySem.W.keepIn K (.ref (He.ga K "Outside")) = true),
  decide (PySem.W.findIn K (.ref (He.ga K "Outside")) "payoff" = some none),
  decide (PySem.W.findIn K (.ref (He.ga K "Outside")) "__init__" = some (some (.ref (He.fAd K ("Outside", some "__init__"))))),
  decide (PySem.W.typeIn K (.ref (He.fAd K ("Outside", some "__init__"))) = some (.type "function")),
  decide (PySem.W.nsIn K mainGlobals "MayGoOn" = some (some (.ref (He.ga K "MayGoOn")))),
  excB K (He.ga K "MayGoOn") [.ref (He.ga K "EndError"), .type "ValueError", .type "Exception", .type "BaseException", .type "object"],
  decide (PySem.W.findIn K (.ref (He.ga K "MayGoOn")) "__setattr__" = some (some (.builtin "object.__setattr__"))),
  decide (PySem.W.findIn K (.ref (He.ga K "MayGoOn")) "__getattribute__" = some (some (.builtin "BaseException.__getattribute__")))]
def ht13 (K : PySem.W.Frag) : List Bool := [decide (PySem.W.findIn K (.ref (He.ga K "MayGoOn")) "__getattr__" = some none),
  decide (PySem.W.findIn K (.ref (He.ga K "MayGoOn")) "__class__" = some (some (.builtin "object.__class__"))),
  decide (PySem.W.keepIn K (.ref (He.ga K "MayGoOn")) = true),
  decide (PySem.W.findIn K (.ref (He.ga K "MayGoOn")) "store" = some none),
  decide (PySem.W.findIn K (.ref (He.ga K "MayGoOn")) "__init__" = some (some (.ref (He.fAd K ("MayGoOn", some "__init__"))))),
  decide (PySem.W.typeIn K (.ref (He.fAd K ("MayGoOn", some "__init__"))) = some (.type "function")),
  decide (PySem.W.nsIn K mainGlobals "NoThing" = some (some (.ref (He.ga K "NoThing")))),
  excB K (He.ga K "NoThing") [.ref (He.ga K "EndError"), .type "ValueError", .type "Exception", .type "BaseException", .type "object"],
  decide (PySem.W.findIn K (.ref (He.ga K "NoThing")) "__setattr__" = some (some (.builtin "object.__setattr__"))),
  decide (PySem.W.findIn K (.ref (He.ga K "NoThing")) "__getattribute__" = some (some (.builtin "BaseException.__getattribute__"))),
  decide (PySem.W.findIn K (.ref (He.ga K "NoThing")) "__getattr__" = some none),
  decide (PySem.W.findIn K (.ref (He.ga K "NoThing")) "__class__" = some (some (.builtin "object.__class__"))),
  decide (PySem.W.keepIn K (.ref (He.ga K "NoThing")) = true),
  decide (PySem.W.findIn K (.ref (He.ga K "NoThing")) "name" = some none),
  decide (PySem.W.findIn K (.ref (He.ga K "NoThing")) "__init__" = some (some (.ref (He.fAd K ("NoThing", some "__init__"))))),
  decide (PySem.W.typeIn K (.ref (He.fAd K ("NoThing", some "__init__"))) = some (.type "function")),
  decide (PySem.W.nsIn K mainGlobals "NotBrought" = some (some (.ref (He.ga K "NotBrought")))),
  excB K (He.ga K "NotBrought") [.ref (He.ga K "EndError"), .type "ValueError", .type "Exception", .type "BaseException", .type "object"],
  decide (PySem.W.findIn K (.ref (He.ga K "NotBrought")) "__setattr__" = some (some (.builtin "object.__setattr__"))),
  decide (PySem.W.findIn K (.ref (He.ga K "NotBrought")) "__getattribute__" = some (some (.builtin "BaseException.__getattribute__"))),
  decide (PySem.W.findIn K (.ref (He.ga K "NotBrought")) "__getattr__" = some none),
  decide (PySem.W.findIn K (.ref (He.ga K "NotBrought")) "__class__" = some (some (.builtin "object.__class__"))),
  decide (PySem.W.keepIn K (.ref (He.ga K "NotBrought")) = true),
  decide (PySem.W.findIn K (.ref (He.ga K "NotBrought")) "payoff" = some none),
  decide (PySem.W.findIn K (.ref (He.ga K "NotBrought")) "table" = some none),
  decide (PySem.W.findIn K (.ref (He.ga K "NotBrought")) "__init__" = some (some (.ref (He.fAd K ("NotBrought", some "__init__"))))),
  decide (PySem.W.typeIn K (.ref (He.fAd K ("NotBrought", some "__init__"))) = some (.type "function")),
  decide (PySem.W.nsIn K mainGlobals "MayStay" = some (some (.ref (He.ga K "MayStay")))),
  excB K (He.ga K "MayStay") [.ref (He.ga K "EndError"), .type "ValueError", .type "Exception", .type "BaseException", .type "object"],
  decide (PySem.W.findIn K (.ref (He.ga K "MayStay")) "__setattr__" = some (some (.builtin "object.__setattr__")))]
def ht14 (K : PySem.W.Frag) : List Bool := [decide (PySem.W.findIn K (.ref (He.ga K "MayStay")) "__getattribute__" = some (some (.builtin "BaseException.__getattribute__"))),
  decide (PySem.W.findIn K (.ref (He.ga K "MayStay")) "__getattr__" = some none),
  decide (PySem.W.findIn K (.ref (He.ga K "MayStay")) "__class__" = some (some (.builtin "object.__class__"))),
  decide (PySem.W.keepIn K (.ref (He.ga K "MayStay")) = true),
  decide (PySem.W.findIn K (.ref (He.ga K "MayStay")) "way" = some none),
  decide (PySem.W.findIn K (.ref (He.ga K "MayStay")) "rows" = some none),
  decide (PySem.W.findIn K (.ref (He.ga K "MayStay")) "__init__" = some (some (.ref (He.fAd K ("MayStay", some "__init__"))))),
  decide (PySem.W.typeIn K (.ref (He.fAd K ("MayStay", some "__init__"))) = some (.type "function")),
  decide (PySem.W.nsIn K mainGlobals "TwoLots" = some (some (.ref (He.ga K "TwoLots")))),
  excB K (He.ga K "TwoLots") [.ref (He.ga K "EndError"), .type "ValueError", .type "Exception", .type "BaseException", .type "object"],
  decide (PySem.W.findIn K (.ref (He.ga K "TwoLots")) "__setattr__" = some (some (.builtin "object.__setattr__"))),
  decide (PySem.W.findIn K (.ref (He.ga K "TwoLots")) "__getattribute__" = some (some (.builtin "BaseException.__getattribute__"))),
  decide (PySem.W.findIn K (.ref (He.ga K "TwoLots")) "__getattr__" = some none),
  decide (PySem.W.findIn K (.ref (He.ga K "TwoLots")) "__class__" = some (some (.builtin "object.__class__"))),
  decide (PySem.W.keepIn K (.ref (He.ga K "TwoLots")) = true),
  decide (PySem.W.findIn K (.ref (He.ga K "TwoLots")) "one" = some none),
  decide (PySem.W.findIn K (.ref (He.ga K "TwoLots")) "other" = some none),
  decide (PySem.W.findIn K (.ref (He.ga K "TwoLots")) "__init__" = some (some (.ref (He.fAd K ("TwoLots", some "__init__"))))),
  decide (PySem.W.typeIn K (.ref (He.fAd K ("TwoLots", some "__init__"))) = some (.type "function")),
  decide (PySem.W.nsIn K mainGlobals "NotKept" = some (some (.ref (He.ga K "NotKept")))),
  excB K (He.ga K "NotKept") [.ref (He.ga K "EndError"), .type "ValueError", .type "Exception", .type "BaseException", .type "object"],
  decide (PySem.W.findIn K (.ref (He.ga K "NotKept")) "__setattr__" = some (some (.builtin "object.__setattr__"))),
  decide (PySem.W.findIn K (.ref (He.ga K "NotKept")) "__getattribute__" = some (some (.builtin "BaseException.__getattribute__"))),
  decide (PySem.W.findIn K (.ref (He.ga K "NotKept")) "__getattr__" = some none),
  decide (PySem.W.findIn K (.ref (He.ga K "NotKept")) "__class__" = some (some (.builtin "object.__class__"))),
  decide (PySem.W.keepIn K (.ref (He.ga K "NotKept")) = true),
  decide (PySem.W.findIn K (.ref (He.ga K "NotKept")) "fees" = some none),
  decide (PySem.W.findIn K (.ref (He.ga K "NotKept")) "table" = some none),
  decide (PySem.W.findIn K (.ref (He.ga K "NotKept")) "__init__" = some (some (.ref (He.fAd K ("NotKept", some "__init__"))))),
  decide (PySem.W.typeIn K (.ref (He.fAd K ("NotKept", some "__init__"))) = some (.type "function"))]
def ht15 (K : PySem.W.Frag) : List Bool := [decide (PySem.W.nsIn K mainGlobals "NoCommon" = some (some (.ref (He.ga K "NoCommon")))),
  excB K (He.ga K "NoCommon") [.ref (He.ga K "EndError"), .type "ValueError", .type "Exception", .type "BaseException", .type "object"],
  decide (PySem.W.findIn K (.ref (He.ga K "NoCommon")) "__setattr__" = some (some (.builtin "object.__setattr__"))),
  decide (PySem.W.findIn K (.ref (He.ga K "NoCommon")) "__getattribute__" = some (some (.builtin "BaseException.__getattribute__"))),
  decide (PySem.W.findIn K (.ref (He.ga K "NoCommon")) "__getattr__" = some none),
  decide (PySem.W.findIn K (.ref (He.ga K "NoCommon")) "__class__" = some (some (.builtin "object.__class__"))),
  decide (PySem.W.keepIn K (.ref (He.ga K "NoCommon")) = true),
  decide (PySem.W.findIn K (.ref (He.ga K "NoCommon")) "payoffs" = some none),
  decide (PySem.W.findIn K (.ref (He.ga K "NoCommon")) "tables" = some none),
  decide (PySem.W.findIn K (.ref (He.ga K "NoCommon")) "__init__" = some (some (.ref (He.fAd K ("NoCommon", some "__init__"))))),
  decide (PySem.W.typeIn K (.ref (He.fAd K ("NoCommon", some "__init__"))) = some (.type "function")),
  decide (PySem.W.nsIn K mainGlobals "ByZero" = some (some (.ref (He.ga K "ByZero")))),
  excB K (He.ga K "ByZero") [.ref (He.ga K "EndError"), .type "ValueError", .type "Exception", .type "BaseException", .type "object"],
  decide (PySem.W.findIn K (.ref (He.ga K "ByZero")) "__setattr__" = some (some (.builtin "object.__setattr__"))),
  decide (PySem.W.findIn K (.ref (He.ga K "ByZero")) "__getattribute__" = some (some (.builtin "BaseException.__getattribute__"))),
  decide (PySem.W.findIn K (.ref (He.ga K "ByZero")) "__getattr__" = some none),
  decide (PySem.W.findIn K (.ref (He.ga K "ByZero")) "__class__" = some (some (.builtin "object.__class__"))),
  decide (PySem.W.keepIn K (.ref (He.ga K "ByZero")) = true),
  decide (PySem.W.excIn K (He.ga K "ByZero") [.type "ValueError", .type "Exception", .type "BaseException", .type "object"] "ValueError.__new__" = true),
  decide (PySem.W.nsIn K mainGlobals "NothingToUndo" = some (some (.ref (He.ga K "NothingToUndo")))),
  excB K (He.ga K "NothingToUndo") [.ref (He.ga K "EndError"), .type "ValueError", .type "Exception", .type "BaseException", .type "object"],
  decide (PySem.W.findIn K (.ref (He.ga K "NothingToUndo")) "__setattr__" = some (some (.builtin "object.__setattr__"))),
  decide (PySem.W.findIn K (.ref (He.ga K "NothingToUndo")) "__getattribute__" = some (some (.builtin "BaseException.__getattribute__"))),
  decide (PySem.W.findIn K (.ref (He.ga K "NothingToUndo")) "__getattr__" = some none),
  decide (PySem.W.findIn K (.ref (He.ga K "NothingToUndo")) "__class__" = some (some (.builtin "object.__class__"))),
  decide (PySem.W.keepIn K (.ref (He.ga K "NothingToUndo")) = true),
  decide (PySem.W.excIn K (He.ga K "NothingToUndo") [.type "ValueError", .type "Exception", .type "BaseException", .type "object"] "ValueError.__new__" = true),
  decide (PySem.W.nsIn K mainGlobals "NothingToRedo" = some (some (.ref (He.ga K "NothingToRedo")))),
  excB K (He.ga K "NothingToRedo") [.ref (He.ga K "EndError"), .type "ValueError", .type "Exception", .type "BaseException", .type "object"],
  decide (PySem.W.findIn K (.ref (He.ga K "NothingToRedo")) "__setattr__" = some (some (.builtin "object.__setattr__")))]
def ht16 (K : PySem.W.Frag) : List Bool := [decide (PySem.W.findIn K (.ref (He.ga K "NothingToRedo")) "__getattribute__" = some (some (.builtin "BaseException.__getattribute__"))),
  decide (PySem.W.findIn K (.ref (He.ga K "NothingToRedo")) "__getattr__" = some none),
  decide (PySem.W.findIn K (.ref (He.ga K "NothingToRedo")) "__class__" = some (some (.builtin "object.__class__"))),
  decide (PySem.W.keepIn K (.ref (He.ga K "NothingToRedo")) = true),
  decide (PySem.W.excIn K (He.ga K "NothingToRedo") [.type "ValueError", .type "Exception", .type "BaseException", .type "object"] "ValueError.__new__" = true),
  decide (ndB (He.ga K "EndError") [(He.ga K "InvalidNumber"), (He.ga K "InvalidSizes"), (He.ga K "InvalidStore"), (He.ga K "InvalidValues"), (He.ga K "InvalidLine"), (He.ga K "InvalidSpace"), (He.ga K "InvalidOutcome"), (He.ga K "InvalidWeights"), (He.ga K "InvalidLot"), (He.ga K "InvalidLots"), (He.ga K "InvalidPayoff"), (He.ga K "InvalidText"), (He.ga K "InvalidSurrounding"), (He.ga K "InvalidPath"), (He.ga K "InvalidPart"), (He.ga K "InvalidSides"), (He.ga K "InvalidDraws"), (He.ga K "InvalidShare"), (He.ga K "InvalidSteps"), (He.ga K "InvalidRow"), (He.ga K "InvalidPick"), (He.ga K "InvalidDice"), (He.ga K "InvalidBlend"), (He.ga K "InvalidLimits"), (He.ga K "InvalidPairs"), (He.ga K "InvalidSet"), (He.ga K "InvalidName"), (He.ga K "InvalidOther"), (He.ga K "TooMany"), (He.ga K "Outside"), (He.ga K "MayGoOn"), (He.ga K "NoThing"), (He.ga K "NotBrought"), (He.ga K "MayStay"), (He.ga K "TwoLots"), (He.ga K "NotKept"), (He.ga K "NoCommon"), (He.ga K "ByZero"), (He.ga K "NothingToUndo"), (He.ga K "NothingToRedo")] = true)]
def hnm0 : List PySem.Str := ["_wall", "__name__", "EndError", "InvalidNumber", "InvalidSizes", "InvalidStore", "InvalidValues", "InvalidLine", "InvalidSpace", "InvalidOutcome", "InvalidWeights", "InvalidLot", "InvalidLots", "InvalidPayoff", "InvalidText", "InvalidSurrounding", "InvalidPath", "InvalidPart", "InvalidSides", "InvalidDraws", "InvalidShare", "InvalidSteps", "InvalidRow", "InvalidPick", "InvalidDice", "InvalidBlend", "InvalidLimits", "InvalidPairs", "InvalidSet", "InvalidName"]
def hnm1 : List PySem.Str := ["InvalidOther", "TooMany", "Outside", "MayGoOn", "NoThing", "NotBrought", "MayStay", "TwoLots", "NotKept", "NoCommon", "ByZero", "NothingToUndo", "NothingToRedo", "is_integer", "is_list", "is_from", "is_index", "Ratio", "is_number", "as_ratio", "MOST_NAMES", "MOST_STORES", "Space", "all_values", "is_sizes", "is_values", "_law_cell", "_law_box", "_law_take", "_law_by_place"]
def hnm2 : List PySem.Str := ["_law_by_name", "_law_pairs", "_law_sorts", "_law_kept", "_law_is", "_law_thing", "_law_all_right", "_law_raised", "_law_caught"]
def hnames : List PySem.Str := hnm0 ++ hnm1 ++ hnm2
abbrev hR : PySem.W.OpenRow := PySem.W.OpenLaw.row PySem.Challenge.rw_endlots_k00_errors
abbrev hq : Program := PySem.W.view hR.prog [0, 74]
def htr0 (K : PySem.W.Frag) : List (List Bool) := [ht0 K, ht1 K, ht2 K, ht3 K]
def hfb0 (K : PySem.W.Frag) : Bool := (htr0 K).all fun l => l.all id
def hfn0 : List He.DefD := [hd0, hd1, hd2, hd3, hd4, hd5, hd6, hd7, hd8, hd9, hd10, hd11, hd12, hd13, hd14, hd15, hd16, hd17, hd18, hd19, hd20, hd21, hd22, hd23, hd24, hd25, hd26, hd27, hd28, hd29, hd30]
theorem hrun0 (w : World) : RunX hR hq has hfb0 hfn0 20000 hnames w := by
  unfold RunX HandSHeadRun.RunEqI
  kernel_rfl
def htr1 (K : PySem.W.Frag) : List (List Bool) := [ht4 K, ht5 K, ht6 K, ht7 K]
def hfb1 (K : PySem.W.Frag) : Bool := (htr1 K).all fun l => l.all id
def hfn1 : List He.DefD := [hd31, hd32, hd33, hd34, hd35, hd36, hd37, hd38, hd39, hd40, hd41, hd42, hd43, hd44, hd45, hd46, hd47, hd48, hd49, hd50, hd51, hd52, hd53, hd54, hd55, hd56, hd57, hd58, hd59, hd60, hd61]
theorem hrun1 (w : World) : RunX hR hq has hfb1 hfn1 20000 hnames w := by
  unfold RunX HandSHeadRun.RunEqI
  kernel_rfl
def htr2 (K : PySem.W.Frag) : List (List Bool) := [ht8 K, ht9 K, ht10 K, ht11 K]
def hfb2 (K : PySem.W.Frag) : Bool := (htr2 K).all fun l => l.all id
def hfn2 : List He.DefD := []
theorem hrun2 (w : World) : RunX hR hq has hfb2 hfn2 20000 hnames w := by
  unfold RunX HandSHeadRun.RunEqI
  kernel_rfl
def htr3 (K : PySem.W.Frag) : List (List Bool) := [ht12 K, ht13 K, ht14 K, ht15 K]
def hfb3 (K : PySem.W.Frag) : Bool := (htr3 K).all fun l => l.all id
def hfn3 : List He.DefD := []
theorem hrun3 (w : World) : RunX hR hq has hfb3 hfn3 20000 hnames w := by
  unfold RunX HandSHeadRun.RunEqI
  kernel_rfl
def htr4 (K : PySem.W.Frag) : List (List Bool) := [ht16 K]
def hfb4 (K : PySem.W.Frag) : Bool := (htr4 K).all fun l => l.all id
def hfn4 : List He.DefD := []
theorem hrun4 (w : World) : RunX hR hq has hfb4 hfn4 20000 hnames w := by
  unfold RunX HandSHeadRun.RunEqI
  kernel_rfl
def hfb (K : PySem.W.Frag) : Bool := ((((hfb0 K && hfb1 K) && hfb2 K) && hfb3 K) && hfb4 K)
def hfn : List He.DefD := ((((hfn0 ++ hfn1) ++ hfn2) ++ hfn3) ++ hfn4)
theorem hrun (w : World) : RunX hR hq has hfb hfn 20000 hnames w := (((((hrun0 w).join (hrun1 w)).join (hrun2 w)).join (hrun3 w)).join (hrun4 w))
end Eld
set_option Elab.async false
set_option maxRecDepth 100000
set_option maxHeartbeats 4000000
set_option linter.all false
namespace Eld
open PySem PySem.Spec PyProof.Rows L2
/-! ## try with several clauses, each with a name for the exception or without one -/
abbrev Suit := Addr → Value → Option Addr → TS
/-- the clauses' names cleared on the way out -/
def clr (o : Option Nat) (D : Ends) : Ends := match o with
  | none => D
  | some i => { nx := fun τ G => D.nx (τ.set i none) G, rt := D.rt, bk := fun τ G => D.bk (τ.set i none) G, ct := fun τ G => D.ct (τ.set i none) G }
def nam (o : Option Nat) (e : Addr) (τ : L2.St) : L2.St := match o with
  | none => τ
  | some i => τ.set i (some (.ref e))
/-- what the clauses wish of an exception, one after another -/
def wMix (K : PySem.W.Frag) (Wo : WX) (D : Ends) : List (Value × Option Nat × Suit) → WX
  | [] => Wo
  | (c, o, ts) :: r => fun cls d τ G => ∃ b, PySem.W.exmOne K cls c = some b ∧ (b = true → ∀ e, G e = none → ts e cls d (clr o D) (nam o e τ) G) ∧ (b = false → wMix K Wo D r cls d τ G)
inductive HdsM (X : Cx) : List ExceptHandler → List (Value × Option Nat × Suit) → Prop
  | nil : HdsM X [] []
  | bare {x : Str} {c : Value} {ts : Suit} {b0 : Stmt} {su : List Stmt} {p1 p2 : Pos} {hs : List ExceptHandler} {l : List (Value × Option Nat × Suit)} (hc : Names X x c)
      (h : ∀ (e : Addr) (oe : Obj) (cls : Value) (d : Option Addr) (pn : List (Addr × Obj)), Zc cls d oe → (∃ vs, oe.data = .fields vs) → PSs (X.suite e ((e, oe) :: pn)) (b0 :: su) (ts e cls d)) (r : HdsM X hs l) :
      HdsM X (.ExceptHandler (some (.Name x p1)) none (b0 :: su) p2 :: hs) ((c, none, ts) :: l)
  | named {x n : Str} {c : Value} {i : Nat} {ts : Suit} {b0 : Stmt} {su : List Stmt} {p1 p2 : Pos} {hs : List ExceptHandler} {l : List (Value × Option Nat × Suit)} (hN : X.N.Nodup) (hi : X.N[i]? = some n) (hl : X.env.kindOf n = some .local) (hc : Names X x c)
      (h : ∀ (e : Addr) (oe : Obj) (cls : Value) (d : Option Addr) (pn : List (Addr × Obj)), Zc cls d oe → (∃ vs, oe.data = .fields vs) → PSs (X.suite e ((e, oe) :: pn)) (b0 :: su) (ts e cls d)) (r : HdsM X hs l) :
      HdsM X (.ExceptHandler (some (.Name x p1)) (some n) (b0 :: su) p2 :: hs) ((c, some i, ts) :: l)
section
variable {X : Cx} {body : List Stmt} {h0 : ExceptHandler} {hds : List ExceptHandler} {l : List (Value × Option Nat × Suit)} {pos : Pos} {tb : WX → TS} {Wo : WX}
theorem ps_try_mix (st : X.stack = X.env :: X.outer) (fr : X.env.frame = some X.env.locals) (tk : Takes X Wo)
    (bo : ∀ (W : WX) (pn : List (Addr × Obj)) (xe : Value → Shared → Prop), Takes (X.tr pn xe) W → PassesOwn (model X.prog X.w) X.A X.env xe → PSs (X.tr pn xe) body (tb W))
    (hh : HdsM X (h0 :: hds) l) : PS X (.Try body (h0 :: hds) [] [] pos) (fun D σ H => tb (wMix X.K Wo D l) D σ H) := by
  constructor
  intro pins s σ H D I q
  have ok := I.ok
  have frs_ : X.A.frames = some (X.env :: X.outer) := st ▸ ok.frames
  let out : Value → Shared → Prop := fun u t => wpAny (model X.prog X.w) X.A (noteFrame u X.env) (fun _ t2 => wpAny (model X.prog X.w) X.A (setFlight u none) (fun _ t3 => wpAny (model X.prog X.w) X.A (handleBy u X.env (h0 :: hds)) (SP X pins D) X.xe t3) X.xe t2) X.xe t
  have tko : Takes (X.tr (X.pn ++ pins) out) (wMix X.K Wo D l) := by
    rintro u t ⟨e, BB, s0, pins', τ, G, cls, d, rfl, J0, nb, up, sky, na, os, ag, w⟩
    have J : Inv X pins τ G s0 := J0.ofTry ok
    have sk2 : Sky BB (X.env :: X.outer) e (Zc cls d) X.env.locals t.heap := st ▸ sky
    refine Sky.land Zc.steady frs_ fr sk2 ?_
    intro g3 f3 u3
    have J3 : Inv X pins τ G { t with heap := g3 } := J.landed nb f3.1 (up.trans u3) os ag
    obtain ⟨o3, v3, e3, z3, d3⟩ := f3.there
    have off : e ∉ frs (X.env :: X.outer) := by
      intro hm
      obtain ⟨_, o', e', hnf⟩ := f3.2.2.1.mem hm
      rw [e3] at e'
      cases e'
      exact hnf _ d3
    have nL : e ≠ X.env.locals := by
      intro z
      exact off (List.mem_filterMap.mpr ⟨X.env, List.mem_cons_self, z ▸ fr⟩)
    have nF : e ∉ X.fs := by
      intro hm
      obtain ⟨a1, a2, a3⟩ := List.mem_filterMap.mp hm
      exact off (List.mem_filterMap.mpr ⟨a1, List.mem_cons_of_mem _ a2, a3⟩)
    have S3 := J3.suite e3 d3 na nL nF
    have all : ∀ (hs' : List ExceptHandler) (l' : List (Value × Option Nat × Suit)), HdsM X hs' l' → wMix X.K Wo D l' cls d τ G → wpAny (model X.prog X.w) X.A (handleBy (.ref e) X.env hs') (SP X pins D) X.xe { t with heap := g3 } := by
      intro hs' l' hk
      have LT : PySem.W.Looks (model X.prog X.w) g3 (typeOf (.ref e)) cls := fun A Q E s k q => wpAny_typeOf_ref (k _ _ e3) (by rw [z3.1]; exact q)
      have ask : ∀ {x : Str} {c : Value} {p1 : Pos}, Names X x c → ∀ {Q E : Value → Shared → Prop}, Q c { t with heap := g3 } → wpAny (model X.prog X.w) (X.A.mark (some (.ref e))) (eval (.Name x p1) X.env) Q E { t with heap := g3 } := by
        rintro x c p1 ⟨hg, hdbg, hm | ⟨hm, hv, hnn⟩⟩ Q E q
        · exact ld_glob (X := X.suite e ((e, o3) :: (X.pn ++ pins))) S3 hg hm q hdbg
        · exact ld_blt (X := X.suite e ((e, o3) :: (X.pn ++ pins))) S3 hg hm hv q hnn hdbg
      induction hk with
      | nil =>
        intro w
        refine wpAny_handleBy_nil ?_
        obtain ⟨_, _, _, oe, vs, T, _, _, he, _, hd, h1, _⟩ := id f3
        unfold PySem.passOn
        refine wpAny_bind (wpAny_field he hd h1 ?_)
        rw [if_neg (show ¬ ((Value.ref T == Value.none) = true) by simp)]
        have last : wpAny (model X.prog X.w) X.A (setFlight (.ref e) X.env.frame) (fun _ t4 => wpAny (model X.prog X.w) X.A (throw (.ref e) : Sem Flow) (SP X pins D) X.xe t4) X.xe { t with heap := g3 } := by
          rw [fr]
          refine HandSPX.setFlight_upZ f3 ?_
          intro g4 f4 u4
          refine wpAny_throw (tk _ _ ?_)
          exact ⟨e, BB, s0, pins, τ, G, cls, d, rfl, J, nb, (up.trans u3).trans u4, .inr (.inr (st ▸ f4)), na, os, ag, w⟩
        first | exact wpAny_bind (wpAny_pure (wpAny_bind last)) | exact wpAny_bind last
      | @bare x c ts b0 su p1 p2 hs2 l2 hc hsu r ih =>
        rintro ⟨b, hb1, yes, no⟩
        have LM := PySem.W.exm_one (M := model X.prog X.w) (J3.kIn) LT hb1
        refine wpAny_handleBy_cons (codeAny_handlers_test (ask hc (LM.here ?_))) (by intro q; cases q)
        cases b with
        | false => exact ih (no rfl)
        | true =>
          refine codeAny_handlers_suite (HandSPX.lands_againZ f3 ?_)
          intro g4 f4 u4
          have J4 : Inv X pins τ G { t with heap := g4 } := J.landed nb f4.1 ((up.trans u3).trans u4) os ag
          obtain ⟨o4, v4, e4, z4, d4⟩ := f4.there
          have S4 := J4.suite e4 d4 na nL nF
          refine wpAny_mono ((hsu e o4 cls d (X.pn ++ pins) z4 ⟨_, d4⟩).run [] _ _ G _ S4 (yes rfl e na)) ?_ (fun _ _ z => False.elim z)
          intro fl t6 hq
          cases fl with
          | next => exact let ⟨τ6, G6, S6, q6⟩ := hq; ⟨τ6, G6, S6.unsuite ok, q6⟩
          | brk => exact let ⟨τ6, G6, S6, q6⟩ := hq; ⟨τ6, G6, S6.unsuite ok, q6⟩
          | cont => exact let ⟨τ6, G6, S6, q6⟩ := hq; ⟨τ6, G6, S6.unsuite ok, q6⟩
          | ret u => exact let ⟨x6, τ6, G6, S6, r6, q6⟩ := hq; ⟨x6, τ6, G6, S6.unsuite ok, r6, q6⟩
      | @named x n c i ts b0 su p1 p2 hs2 l2 hN hi hl hc hsu r ih =>
        rintro ⟨b, hb1, yes, no⟩
        have LM := PySem.W.exm_one (M := model X.prog X.w) (J3.kIn) LT hb1
        refine wpAny_handleBy_cons (codeAny_handlers_test (ask hc (LM.here ?_))) (by intro q; cases q)
        cases b with
        | false => exact ih (no rfl)
        | true =>
          refine codeAny_handlers_suite_as (HandSPX.lands_againZ f3 ?_)
          intro g4 f4 u4
          have J4 : Inv X pins τ G { t with heap := g4 } := J.landed nb f4.1 ((up.trans u3).trans u4) os ag
          obtain ⟨o4, v4, e4, z4, d4⟩ := f4.there
          have S4 := J4.suite e4 d4 na nL nF
          refine store_ok (X := X.suite e ((e, o4) :: (X.pn ++ pins))) (v := .ref e) S4 hN hi (.inl hl) rfl ?_ (.inr hl)
          intro t5 S5
          refine wpAny_mono ((hsu e o4 cls d (X.pn ++ pins) z4 ⟨_, d4⟩).run [] t5 _ G _ S5 (yes rfl e na)) ?_ (fun _ _ z => False.elim z)
          intro fl t6 hq
          have gone : ∀ {τ6 : L2.St} {G6 : Hp} {Q : Shared → Prop}, Inv (X.suite e ((e, o4) :: (X.pn ++ pins))) [] τ6 G6 t6 → (∀ t7, Inv X pins (τ6.set i none) G6 t7 → Q t7) →
              wpAny (model X.prog X.w) X.A (do bindName X.env n .none; unbindBehindTheSuite X.env n p2) (fun _ t7 => Q t7) X.xe t6 := by
            intro τ6 G6 Q S6 hq
            exact gone_ok (S6.unsuite ok) hN hi hl hq
          cases fl with
          | next =>
            obtain ⟨_, _, S6, q6⟩ := hq
            exact gone S6 fun t7 J7 => ⟨_, _, J7, q6⟩
          | brk =>
            obtain ⟨_, _, S6, q6⟩ := hq
            exact gone S6 fun t7 J7 => ⟨_, _, J7, q6⟩
          | cont =>
            obtain ⟨_, _, S6, q6⟩ := hq
            exact gone S6 fun t7 J7 => ⟨_, _, J7, q6⟩
          | ret u =>
            obtain ⟨_, _, _, S6, r6, q6⟩ := hq
            exact gone S6 fun t7 J7 => ⟨_, _, _, J7, r6, q6⟩
    exact all _ _ hh w
  refine wpAny_Try_except (wpAny_mono ((bo _ (X.pn ++ pins) out tko PassesOwn.looking).run [] s σ H D (I.toTry _) q) ?_ (fun _ _ h => h))
  intro fl t1 hq
  cases fl with
  | next => exact let ⟨τ, G, J, q⟩ := hq; wpAny_execs_nil ⟨τ, G, J.ofTry ok, q⟩
  | brk => exact let ⟨τ, G, J, q⟩ := hq; ⟨τ, G, J.ofTry ok, q⟩
  | cont => exact let ⟨τ, G, J, q⟩ := hq; ⟨τ, G, J.ofTry ok, q⟩
  | ret u => exact let ⟨x, τ, G, J, r, q⟩ := hq; ⟨x, τ, G, J.ofTry ok, r, q⟩
end
end Eld
set_option Elab.async false
set_option maxRecDepth 100000
set_option maxHeartbeats 4000000
set_option linter.all false
namespace Eld
open PySem L2
/-! ## what k02's parts say for any row: readings, walks, heaps, the box of draws -/
theorem r_yes {σ : L2.St} {H : Hp} {q : Bool → Hp → Prop} (h : q true H) : tYes σ H q := h
theorem iteNT {A B : Prop} (h : B) : if (!true) = true then A else B := by
  rw [if_neg (by decide)]
  exact h
theorem iteNF {A B : Prop} (h : A) : if (!false) = true then A else B := by
  rw [if_pos (by decide)]
  exact h
theorem pe_ty {X : Cx} {x : Str} {pos : Pos} (T : String) (hg : Gl X x) (hm : X.mg x = none) (hv : bootBuiltins x = some (.type T)) (hn : x ≠ "__name__" := by decide) (hd : (x == ("__debug__" : Str)) = false := by decide) : PE X (.Name x pos) (tC (.ty T)) := pe_bltn hg hm hv rfl hn hd
theorem pe_gc {X : Cx} {x : Str} {v : V} {pos : Pos} (hg : Gl X x) (h : ∃ u, X.mg x = some u ∧ RelV v u) (hd : (x == ("__debug__" : Str)) = false := by decide) : PE X (.Name x pos) (tC v) := by
  obtain ⟨u, hm, r⟩ := h
  exact pe_glob hg hm r hd
/-! ## walks of anything: an invariant over the turn and the heap -/
section
variable {K : PySem.W.Frag} {a : Addr} {xs : List V} {H0 : Hp} {Stop : Hp → Prop} {Turn : (Hp → Prop) → V → Hp → Prop}
theorem it_list (Pv : Nat → Hp → Prop) (h0 : Pv 0 H0) (hl : ∀ i H, i ≤ xs.length → Pv i H → SqL K H a xs) (hs : ∀ i x H, xs[i]? = some x → Pv i H → Turn (Pv (i + 1)) x H) (hd : ∀ H, Pv xs.length H → Stop H) :
    ∃ W : Nat → Nat → Hp → Prop, (∃ m, W 0 m H0) ∧ ∀ i m H, W i m H → ((Itl K a).stop i H ∧ Stop H) ∨ ((Itl K a).go i H ∧ ∃ Nx : Hp → Prop, (∀ H', Nx H' → ∃ m', m' < m ∧ W (i + 1) m' H') ∧ ∀ x H', (Itl K a).yld i H x H' → Turn Nx x H') := by
  refine ⟨fun i m H => m + i = xs.length ∧ Pv i H, ⟨xs.length, rfl, h0⟩, ?_⟩
  rintro i m H ⟨e, p⟩
  have q := hl i H (by omega) p
  cases m with
  | zero =>
    have e' : i = xs.length := by omega
    subst e'
    exact .inl ⟨⟨xs, q, Nat.le_refl _⟩, hd H p⟩
  | succ m =>
    have lt : i < xs.length := by omega
    refine .inr ⟨⟨xs, xs[i], q, List.getElem?_eq_getElem lt⟩, Pv (i + 1), fun H' p' => ⟨m, Nat.lt_succ_self _, by omega, p'⟩, ?_⟩
    rintro x H' ⟨rfl, y⟩
    exact hs i x _ (y xs q) p
theorem it_tup (Pv : Nat → Hp → Prop) (h0 : Pv 0 H0) (hl : ∀ i H, i ≤ xs.length → Pv i H → SqT K H a xs) (hs : ∀ i x H, xs[i]? = some x → Pv i H → Turn (Pv (i + 1)) x H) (hd : ∀ H, Pv xs.length H → Stop H) :
    ∃ W : Nat → Nat → Hp → Prop, (∃ m, W 0 m H0) ∧ ∀ i m H, W i m H → ((Itt K a).stop i H ∧ Stop H) ∨ ((Itt K a).go i H ∧ ∃ Nx : Hp → Prop, (∀ H', Nx H' → ∃ m', m' < m ∧ W (i + 1) m' H') ∧ ∀ x H', (Itt K a).yld i H x H' → Turn Nx x H') := by
  refine ⟨fun i m H => m + i = xs.length ∧ Pv i H, ⟨xs.length, rfl, h0⟩, ?_⟩
  rintro i m H ⟨e, p⟩
  have q := hl i H (by omega) p
  cases m with
  | zero =>
    have e' : i = xs.length := by omega
    subst e'
    exact .inl ⟨⟨xs, q, Nat.le_refl _⟩, hd H p⟩
  | succ m =>
    have lt : i < xs.length := by omega
    refine .inr ⟨⟨xs, xs[i], q, List.getElem?_eq_getElem lt⟩, Pv (i + 1), fun H' p' => ⟨m, Nat.lt_succ_self _, by omega, p'⟩, ?_⟩
    rintro x H' ⟨rfl, y⟩
    exact hs i x _ (y xs q) p
theorem it_range {lo : Int} {n : Nat} (Pv : Nat → Hp → Prop) (h0 : Pv 0 H0) (hs : ∀ i H, i < n → Pv i H → Turn (Pv (i + 1)) (.int (lo + i)) H) (hd : ∀ H, Pv n H → Stop H) :
    ∃ W : Nat → Nat → Hp → Prop, (∃ m, W 0 m H0) ∧ ∀ i m H, W i m H → ((Itr lo n).stop i H ∧ Stop H) ∨ ((Itr lo n).go i H ∧ ∃ Nx : Hp → Prop, (∀ H', Nx H' → ∃ m', m' < m ∧ W (i + 1) m' H') ∧ ∀ x H', (Itr lo n).yld i H x H' → Turn Nx x H') := by
  refine ⟨fun i m H => m + i = n ∧ Pv i H, ⟨n, rfl, h0⟩, ?_⟩
  rintro i m H ⟨e, p⟩
  cases m with
  | zero =>
    have e' : i = n := by omega
    subst e'
    exact .inl ⟨Nat.le_refl _, hd H p⟩
  | succ m =>
    refine .inr ⟨by show i < n; omega, Pv (i + 1), fun H' p' => ⟨m, Nat.lt_succ_self _, by omega, p'⟩, ?_⟩
    rintro x H' ⟨rfl, rfl⟩
    exact hs i _ (by omega) p
end
theorem Same.upd_new {H : Hp} {p : Addr} {o : HO} (h : H p = none) : Same H (upd H p o) := fun b u e => by rw [upd_ne (ne_of_none e h)]; exact e
/-- a list D that is made while all of G stands -/
theorem Same.over {G H : Hp} {D : Addr} {o : HO} (s : Same G H) (d : G D = none) : Same G (upd H D o) := fun b u e => by
  rw [upd_ne (ne_of_none e d)]
  exact s b u e
/-- the box of draws at b: a great number, its flag, its rest, how many draws so far (at most n) -/
def BoxAt (H : Hp) (b : Addr) (n : Nat) : Prop := ∃ (g m c : Int) (t : Bool), H b = some (.lst [.int g, .bl t, .int m, .int c]) ∧ 0 ≤ g ∧ 0 ≤ m ∧ m < 2147483648 ∧ 0 ≤ c ∧ c ≤ n
def But (b : Addr) (H H' : Hp) : Prop := ∀ a o, a ≠ b → H a = some o → H' a = some o
theorem SqL.same {K : PySem.W.Frag} {H H' : Hp} {a : Addr} {xs : List V} (h : SqL K H a xs) (s : Same H H') : SqL K H' a xs := by
  rcases h with (e | ⟨o, e⟩) | q
  · exact .inl (.inl (s _ _ e))
  · exact .inl (.inr ⟨o, s _ _ e⟩)
  · exact .inr q
theorem BoxAt.mono {H : Hp} {b : Addr} {n m : Nat} (h : BoxAt H b n) (l : n ≤ m) : BoxAt H b m := by
  obtain ⟨g, m', c, t, h1, h2, h3, h4, h5, h6⟩ := h
  exact ⟨g, m', c, t, h1, h2, h3, h4, h5, by omega⟩
theorem BoxAt.same {H H' : Hp} {b : Addr} {n : Nat} (h : BoxAt H b n) (s : Same H H') : BoxAt H' b n := by
  obtain ⟨g, m', c, t, h1, r⟩ := h
  exact ⟨g, m', c, t, s _ _ h1, r⟩
/-- a list of this length stands apart from a box -/
theorem BoxAt.ne {H : Hp} {b a : Addr} {n : Nat} {o : HO} (h : BoxAt H b n) (e : H a = some o) (d : ∀ g m c t, o ≠ .lst [.int g, .bl t, .int m, .int c]) : a ≠ b := by
  obtain ⟨g, m', c, t, h1, r⟩ := h
  exact ne_of e h1 (d _ _ _ _)
theorem But.of {b : Addr} {H H' : Hp} (s : Same H H') : But b H H' := fun a o _ e => s a o e
theorem But.refl {b : Addr} (H : Hp) : But b H H := fun _ _ _ e => e
theorem But.trans {b : Addr} {H H' H'' : Hp} (s : But b H H') (t : But b H' H'') : But b H H'' := fun a o n e => t a o n (s a o n e)
theorem if_both {c : Bool} {ta tb : TE} {σ : L2.St} {H : Hp} {Q : VK} (R : VK → Prop) (hA : c = true → ∀ Q, R Q → ta σ H Q) (hB : c = false → ∀ Q, R Q → tb σ H Q) (h : R Q) : if c = true then ta σ H Q else tb σ H Q := by
  cases c with
  | true => exact hA rfl Q h
  | false => exact hB rfl Q h
theorem r_for {wi : TI} {g : TG} {tb : TS} {D : Ends} {σ : L2.St} {H : Hp} (h : wi σ H fun J H1 => ∃ W : Nat → Nat → L2.St → Hp → Prop, (∃ m, W 0 m σ H1) ∧ ∀ i m σ H, W i m σ H →
    (J.stop i H ∧ D.nx σ H) ∨ (J.go i H ∧ ∃ N : L2.St → Hp → Prop, (∀ σ' H', N σ' H' → ∃ m', m' < m ∧ W (i + 1) m' σ' H') ∧ ∀ x H', J.yld i H x H' → g x σ H' fun σ2 H2 => tb { D with nx := N, ct := N, bk := D.nx } σ2 H2)) : tFor wi g tb D σ H := h
theorem r_lc {wi : TI} {g : TG} {tt : TT} {te : TE} {vs : List Nat} {σ : L2.St} {H : Hp} {Q : VK} (h : wi σ H fun J H1 => ∀ D, H1 D = none → ∃ W : Nat → Nat → Hp → Prop, (∃ m, W 0 m (upd H1 D (.lst []))) ∧ ∀ i m H, W i m H →
    (J.stop i H ∧ Q (.ref D) H) ∨ (J.go i H ∧ ∃ Nx : Hp → Prop, (∀ H', Nx H' → ∃ m', m' < m ∧ W (i + 1) m' H') ∧ ∀ x H', J.yld i H x H' → g x (wipe σ vs) H' fun σ2 H2 => wipe σ2 vs = wipe σ vs ∧ tt σ2 H2 fun b H3 =>
      if b = true then te σ2 H3 fun y H4 => ∃ acc, H4 D = some (.lst acc) ∧ acc.length < sizeLine ∧ Nx (upd H4 D (.lst (acc ++ [y]))) else Nx H3)) : tLc wi g tt te vs σ H Q := h
theorem r_il {K : PySem.W.Frag} {tl : TE} {σ : L2.St} {H : Hp} {R : It → Hp → Prop} (h : tl σ H fun x H1 => ∃ a, x = .ref a ∧ (∃ xs, SqL K H1 a xs) ∧ R (Itl K a) H1) : iList K tl σ H R := h
theorem r_par {i j : Nat} {ta : TA} {D : Ends} {σ : L2.St} {H : Hp} (h : ta σ H fun vs H1 => ∃ v w, vs = [v, w] ∧ D.nx ((σ.set i (some v)).set j (some w)) H1) : tPar i j ta D σ H := h
end Eld
set_option Elab.async false
set_option maxRecDepth 100000
set_option maxHeartbeats 4000000
set_option linter.all false
namespace Eld
open PySem PySem.Spec PyProof.Rows L2
/-! ## defs that may raise, and their calls, the wish of an exception hanging on the slots -/
section
variable {P : Program} {w : World} {K : PySem.W.Frag} {mg : Str → Option Value} {base : Heap}
theorem okGX {x ql : Str} {st : Stmt} {f : Addr} {fd : FuncData} {N ps : List Str} {k : Nat} {sp : Sp} (F : Fun K x ql st f fd) (S : FnScope N ps (defScope st)) (ln : ∀ vs H Q E, sp vs H Q E → vs.length = ps.length)
    (bo : ∀ (cdv : Value) (B : Around) (up : List Env) (z : Shared) (H : Hp) (vs : List V) (Q : VK) (E : XK), (B.deeper (envOfC ql (defScope st) z.heap.objs.size f cdv)).guards = some [] → Room k (B.deeper (envOfC ql (defScope st) z.heap.objs.size f cdv)) → sp vs H Q E →
      ∃ t, PSs (cxOf (L2.CX P w) P w K mg base N ql (defScope st) f cdv B up z H E) (defBody st) t ∧ t { nx := fun _ G => Q .non G, rt := Q } (start N vs) H) : FnG P w K mg base (L2.CX P w) (k + 1) f fd ps sp := by
  obtain ⟨oc, od, kV, doc, pm, an, cdv, ct, osl, rfl, lk, cd⟩ := F.ex
  refine fnG_of lk cd S ln ?_
  intro B up z H vs Q E gd rm hs
  exact bo cdv B up z H vs Q E gd rm hs
end
/-- called with the values xs by place and ys by the names ks -/
def CallVS (X : Cx) (fv : Value) (ks : List Str) (r : L2.St → List V → List V → Hp → VK → Prop) : Prop :=
  ∀ (pins : List (Addr × Obj)) (s : Shared) (σ : L2.St) (H : Hp) (xs ys : List V) (us ws : List Value) (Q : VK), Inv X pins σ H s → Vals xs us → Vals ys ws → r σ xs ys H Q →
    wpAny (model X.prog X.w) X.A (call fv us (ks.zip ws)) (EP X pins σ Q) X.xe s
section
variable {X : Cx} {CX : CXT} {k n : Nat} {f C : Addr} {fd : FuncData} {ps ks : List Str} {sp : Sp} {E : L2.St → XK} {g : List Value → List Value → List Value} {gV : List V → List V → List V}
def rFnS (n m : Nat) (gV : List V → List V → List V) (sp : Sp) (E : L2.St → XK) : L2.St → List V → List V → Hp → VK → Prop := fun σ xs ys H Q => xs.length = n ∧ ys.length = m ∧ sp (gV xs ys) H Q (E σ)
theorem callVS_fn (F : FnG X.prog X.w X.K X.mg X.base CX k f fd ps sp) (hb : KBn X.K fd ps n ks g gV) (hx : ∀ σ, PassesAt CX X σ (E σ)) (hG : X.A.guards = some []) (hr : Room k X.A) : CallVS X (.ref f) ks (rFnS n ks.length gV sp E) := by
  rintro pins s σ H xs ys us ws Q I rx ry ⟨l1, l2, h⟩
  have e1 : us.length = n := rx.length ▸ l1
  have e2 : ws.length = ks.length := ry.length ▸ l2
  refine wpAny_call (codeAny_mono (F.run X.A X.stack s H ⟨us, ks.zip ws⟩ (g us ws) (gV xs ys) Q (E σ) hG hr I.env0 (hb.to s us ws I.kIn e1 e2) (hb.rel rx ry) h) ?_)
  intro res s' hq
  match res, hq with
  | .error e, hq => exact hx σ pins H s e s' I hq
  | .ok (.ret u), hq => exact I.after hq
def rMkS (C : Addr) (n m : Nat) (gV : List V → List V → List V) (sp : Sp) (E : L2.St → XK) : L2.St → List V → List V → Hp → VK → Prop := fun σ xs ys H Q => xs.length = n ∧ ys.length = m ∧
  ∀ x dx, H x = none → H dx = none → dx ≠ x → sp (gV (.ref x :: xs) ys) (upd (upd H dx (.own x)) x (.ins C dx [])) (fun v G => v = .non ∧ Q (.ref x) G) (E σ)
theorem callVS_mk (M : Mk X.K C f) (F : FnG X.prog X.w X.K X.mg X.base CX k f fd ps sp) (hb : KBn X.K fd ps (n + 1) ks g gV) (hx : ∀ σ, PassesAt CX X σ (E σ)) (hG : X.A.guards = some []) (hr : Room (k + 1) X.A) : CallVS X (.ref C) ks (rMkS C n ks.length gV sp E) := by
  rintro pins s σ H xs ys us ws Q I rx ry ⟨l1, l2, h⟩
  have e1 : (Value.ref (s.heap.objs.size + 1) :: us).length = n + 1 := by
    rw [List.length_cons, ← rx.length, l1]
  have e2 : ws.length = ks.length := ry.length ▸ l2
  have hs := h (s.heap.objs.size + 1) s.heap.objs.size (I.hok.fresh (Nat.le_succ _)) (I.hok.fresh (Nat.le_refl _)) (Nat.ne_of_lt (Nat.lt_succ_self _))
  have J := Inv.made (C := C) I
  have rx' : Vals (V.ref (s.heap.objs.size + 1) :: xs) (Value.ref (s.heap.objs.size + 1) :: us) := .cons rfl rx
  refine wpAny_call (make_map (f := f) I.kIn M.makes M.init (beq_iff_eq.mp M.fn) (codeAny_mono (F.run _ X.stack _ _ ⟨Value.ref (s.heap.objs.size + 1) :: us, ks.zip ws⟩ _ _ _ (E σ) (make_guards hG) (hr.make C us (ks.zip ws))
    (J.env0.make C us (ks.zip ws)) (hb.to _ _ ws J.kIn e1 e2) (hb.rel rx' ry) hs) ?_))
  intro res s' hq
  match res, hq with
  | .error e, hq => exact hx σ pins _ _ e s' J hq
  | .ok (.ret u), hq =>
    obtain ⟨v, G, I', rv, ev, q⟩ := J.after hq
    subst ev
    exact ⟨rv, ⟨V.ref (s.heap.objs.size + 1), G, I', rfl, q⟩⟩
end
/-- the reading of a call -/
def tClS (r : L2.St → List V → List V → Hp → VK → Prop) (t tk : TA) : TE := fun σ H Q => t σ H fun xs H1 => tk σ H1 fun ys H2 => r σ xs ys H2 Q
section
variable {X : Cx} {ks : List Str} {fv : Value} {r : L2.St → List V → List V → Hp → VK → Prop} {x m : Str} {p pos apos : Pos} {e o : Expr} {es : List Expr} {kws : List Keyword} {ta : TE} {t tk : TA}
/-- f(e, ..) -/
theorem pn_posS (c : CallVS X fv [] r) (hg : Gl X x) (hm : X.mg x = some fv) (hk : PySem.W.keepIn X.K fv = true) (ha : PA X (e :: es) t) (hd : (x == ("__debug__" : Str)) = false := by decide)
    (he : starEach (e :: es) X.env = (false, eval e X.env) :: starEach es X.env := by rfl) (hp : (backTo pos (starEach es X.env)).any (·.1) = false := by rfl) : PE X (.Call (.Name x p) (e :: es) [] pos) (tClS r t tNil) := by
  constructor
  intro pins s σ H Q I h
  exact wpAny_Call_Name_kw (ld_glob I hg hm (PySem.W.callWith_K (h₀ := X.base) I.ok.mod.kin hk (thn (ha.run pos pins s σ H _ I h) fun us s1 ⟨xs, H1, I1, rx, q⟩ => ⟨I1.kIn, c pins s1 σ H1 xs [] us [] Q I1 rx .nil q⟩) he hp) hd)
/-- f() -/
theorem pn_noneS (c : CallVS X fv [] r) (hg : Gl X x) (hm : X.mg x = some fv) (hk : PySem.W.keepIn X.K fv = true) (hd : (x == ("__debug__" : Str)) = false := by decide) : PE X (.Call (.Name x p) [] [] pos) (tClS r tNil tNil) := by
  constructor
  intro pins s σ H Q I h
  exact wpAny_Call_Name_kw (ld_glob I hg hm (PySem.W.callWith_K0 I.kIn hk (c pins s σ H [] [] [] [] Q I .nil .nil h)) hd)
/-- f(e, .., k = v, ..) -/
theorem pn_kwS (c : CallVS X fv ks r) (hg : Gl X x) (hm : X.mg x = some fv) (hk : PySem.W.keepIn X.K fv = true) (ha : PA X (e :: es) t) (hkw : PK X kws tk) (hall : (backToKw pos (keywordEach kws X.env)).all (·.1.isSome) = true := by rfl)
    (hks : (backToKw pos (keywordEach kws X.env)).filterMap (·.1) = ks := by rfl) (hd : (x == ("__debug__" : Str)) = false := by decide) (he : starEach (e :: es) X.env = (false, eval e X.env) :: starEach es X.env := by rfl)
    (hp : ((backTo pos (starEach (e :: es) X.env)).any (·.1) || (backToKw pos (keywordEach kws X.env)).any (·.1.isNone)) = false := by rfl) : PE X (.Call (.Name x p) (e :: es) kws pos) (tClS r t tk) := by
  constructor
  intro pins s σ H Q I h
  subst hks
  exact wpAny_Call_Name_kw (ld_glob I hg hm (PySem.W.callWith_KW (h₀ := X.base) I.ok.mod.kin hk hall (thn (ha.run pos pins s σ H _ I h) fun us s1 ⟨xs, H1, I1, rx, q⟩ =>
    thn (hkw.run pos pins s1 σ H1 _ I1 q) fun ws s2 ⟨ys, H2, I2, ry, q2⟩ => ⟨I2.kIn, c pins s2 σ H2 xs ys us ws Q I2 rx ry q2⟩) hp he) hd)
/-- f(k = v, ..) -/
theorem pn_kw0S (c : CallVS X fv ks r) (hg : Gl X x) (hm : X.mg x = some fv) (hk : PySem.W.keepIn X.K fv = true) (hkw : PK X kws tk) (hall : (backToKw pos (keywordEach kws X.env)).all (·.1.isSome) = true := by rfl)
    (hks : (backToKw pos (keywordEach kws X.env)).filterMap (·.1) = ks := by rfl) (hd : (x == ("__debug__" : Str)) = false := by decide)
    (hp : ((backTo pos (starEach [] X.env)).any (·.1) || (backToKw pos (keywordEach kws X.env)).any (·.1.isNone)) = false := by rfl) : PE X (.Call (.Name x p) [] kws pos) (tClS r tNil tk) := by
  constructor
  intro pins s σ H Q I h
  subst hks
  exact wpAny_Call_Name_kw (ld_glob I hg hm (PySem.W.callWith_KW0 (h₀ := X.base) I.ok.mod.kin hk hall (thn (hkw.run pos pins s σ H _ I h) fun ws s2 ⟨ys, H2, I2, ry, q2⟩ => ⟨I2.kIn, c pins s2 σ H2 [] ys [] ws Q I2 .nil ry q2⟩) hp) hd)
/-- o.m(..): o is an instance of the class at C -/
def tMtS (C : Addr) (m : Str) (r : L2.St → List V → List V → Hp → VK → Prop) (ta : TE) (t tk : TA) : TE := fun σ H Q => ta σ H fun x H1 => ∃ a dx fs, x = .ref a ∧ H1 a = some (.ins C dx fs) ∧ List.lookup m fs = none ∧
  t σ H1 fun xs H2 => tk σ H2 fun ys H3 => r σ (.ref a :: xs) ys H3 Q
variable {C f : Addr} {pl : Sem Bool}
theorem pm_posS (c : CallVS X (.ref f) [] r) (hc : Cls X.K C) (hm : Meth X.K C m f) (ho : PE X o ta) (ha : PA X (e :: es) t) (he : starEach (e :: es) X.env = (false, eval e X.env) :: starEach es X.env := by rfl) (hp : (backTo pos (starEach es X.env)).any (·.1) = false := by rfl)
    (ht : eval (.Call (.Attribute o m apos) (e :: es) [] pos) X.env = (do
      let ov ← eval o X.env
      standAt apos.atName
      let (f, first) ← holding [ov] (getMethod ov m pl)
      callWith pos f first (backTo pos (starEach (e :: es) X.env)) (backToKw pos (keywordEach [] X.env))) := by rfl) : PE X (.Call (.Attribute o m apos) (e :: es) [] pos) (tMtS C m r ta t tNil) := by
  constructor
  intro pins s σ H Q I h
  refine PySem.W.methodCall_KW (pl := pl) (thn (ho.run pins s σ H _ I h) ?_) ht
  rintro u s1 ⟨y, H1, I1, ry, a, dx, fs, rfl, ea, l, q⟩
  obtain rfl : u = Value.ref a := ry
  exact getmeth_ok I1 ea hc hm l (PySem.W.callWith_K (first := [.ref a]) (h₀ := X.base) I.ok.mod.kin hm.kp (thn (ha.run pos pins s1 σ H1 _ I1 q) fun us s2 ⟨xs, H2, I2, rx, q2⟩ => ⟨I2.kIn, c pins s2 σ H2 _ [] (.ref a :: us) [] Q I2 (.cons (show RelV (V.ref a) (Value.ref a) from rfl) rx) .nil q2⟩) he hp)
theorem pm_noneS (c : CallVS X (.ref f) [] r) (hc : Cls X.K C) (hm : Meth X.K C m f) (ho : PE X o ta)
    (ht : eval (.Call (.Attribute o m apos) [] [] pos) X.env = (do
      let ov ← eval o X.env
      standAt apos.atName
      let (f, first) ← holding [ov] (getMethod ov m pl)
      callWith pos f first (backTo pos (starEach [] X.env)) (backToKw pos (keywordEach [] X.env))) := by rfl) : PE X (.Call (.Attribute o m apos) [] [] pos) (tMtS C m r ta tNil tNil) := by
  constructor
  intro pins s σ H Q I h
  refine PySem.W.methodCall_KW (pl := pl) (thn (ho.run pins s σ H _ I h) ?_) ht
  rintro u s1 ⟨y, H1, I1, ry, a, dx, fs, rfl, ea, l, q⟩
  obtain rfl : u = Value.ref a := ry
  exact getmeth_ok I1 ea hc hm l (PySem.W.callWith_K0 (first := [.ref a]) I1.kIn hm.kp (c pins s1 σ H1 _ [] [.ref a] [] Q I1 (.cons (show RelV (V.ref a) (Value.ref a) from rfl) .nil) .nil q))
theorem pm_kw0S (c : CallVS X (.ref f) ks r) (hc : Cls X.K C) (hm : Meth X.K C m f) (ho : PE X o ta) (hkw : PK X kws tk) (hall : (backToKw pos (keywordEach kws X.env)).all (·.1.isSome) = true := by rfl)
    (hks : (backToKw pos (keywordEach kws X.env)).filterMap (·.1) = ks := by rfl)
    (hp : ((backTo pos (starEach [] X.env)).any (·.1) || (backToKw pos (keywordEach kws X.env)).any (·.1.isNone)) = false := by rfl)
    (ht : eval (.Call (.Attribute o m apos) [] kws pos) X.env = (do
      let ov ← eval o X.env
      standAt apos.atName
      let (f, first) ← holding [ov] (getMethod ov m pl)
      callWith pos f first (backTo pos (starEach [] X.env)) (backToKw pos (keywordEach kws X.env))) := by rfl) : PE X (.Call (.Attribute o m apos) [] kws pos) (tMtS C m r ta tNil tk) := by
  constructor
  intro pins s σ H Q I h
  subst hks
  refine PySem.W.methodCall_KW (pl := pl) (thn (ho.run pins s σ H _ I h) ?_) ht
  rintro u s1 ⟨y, H1, I1, ry, a, dx, fs, rfl, ea, l, q⟩
  obtain rfl : u = Value.ref a := ry
  exact getmeth_ok I1 ea hc hm l (PySem.W.callWith_KW0 (first := [.ref a]) (h₀ := X.base) I.ok.mod.kin hm.kp hall (thn (hkw.run pos pins s1 σ H1 _ I1 q) fun ws s2 ⟨ys, H2, I2, ry', q2⟩ => ⟨I2.kIn, c pins s2 σ H2 _ ys [.ref a] ws Q I2 (.cons (show RelV (V.ref a) (Value.ref a) from rfl) .nil) ry' q2⟩) hp)
end
end Eld
set_option Elab.async false
set_option maxRecDepth 100000
set_option maxHeartbeats 4000000
set_option linter.all false
namespace Eld
open PySem PySem.Spec PyProof.Rows L2
/-! ## the package's errors with the one attribute given -/
def gv (v : V) : List (Str × V) := [("given", v)]
def spErr (C : Addr) : Sp := fun vs H Q _ => ∃ a v, vs = [.ref a, v] ∧ H a = some (exo a C none) ∧ ∀ dx, H dx = none → dx ≠ a → Q .non (upd (upd H dx (exd dx (gv v))) a (exo a C (some dx)))
section
variable (P : Program) (w : World) (K : PySem.W.Frag) (mg : Str → Option Value) (base : Heap)
/-- the error class x at C -/
def ErrD (x : Str) (C : Addr) : Prop := ∃ (f : Addr) (fd : FuncData), mg x = some (.ref C) ∧ OexC K C ∧ PySem.W.findIn K (.ref C) "__init__" = some (some (.ref f)) ∧ PySem.W.typeIn K (.ref f) = some (.type "function") ∧
  PySem.W.findIn K (.ref C) "given" = some none ∧ FnOk P w K mg base CX0 1 f fd ["self", "given"] (spErr C) ∧ Binds K fd ["self", "given"] []
end
section
variable {X : Cx} {x : Str} {C : Addr} {W : WX} {e : Expr} {es : List Expr} {ta : TA} {p pos pos2 : Pos}
/-- raise x(e) -/
theorem ps_err (d : ErrD X.prog X.w X.K X.mg X.base x C) (hc : X.calm = true) (tk : Takes X W) (hr : Room 2 X.A) (hg : Gl X x) (ha : PA X (e :: es) ta)
    (hd : (x == ("__debug__" : Str)) = false := by decide) (he : starEach (e :: es) X.env = (false, eval e X.env) :: starEach es X.env := by rfl) (hp : (backTo pos (starEach es X.env)).any (·.1) = false := by rfl) :
    PS X (.Raise (some (.Call (.Name x p) (e :: es) [] pos)) none pos2) (fun _ σ H => tMkO C (spErr C) [] ta σ H fun cls d G => W cls d σ G) := by
  obtain ⟨f, fd, gm, T, iC, tI, _, F, b⟩ := d
  exact ps_raise hc tk (pmk_oex (CX := CX0) (ds := []) (dvs := []) T iC tI F hr b .nil pass0 hg gm ha hd he hp)
end
theorem exo_exd {a d C : Addr} {o : Option Addr} : True := trivial
theorem err_done {H1 : Hp} {C : Addr} {v : V} {Qx : XK} (h : ∀ d G, H1 d = none → Same H1 G → G d = some (.xd (gv v)) → Qx (.ref C) (some d) G) :
    ([v] : List V).length ≤ 1000 ∧ ∀ a, H1 a = none → spErr C (.ref a :: ([v] ++ [])) (upd H1 a (exo a C none)) (fun u H2 => u = .non ∧ ∃ (d : Addr) (fs : List (Str × V)), H2 a = some (exo a C (some d)) ∧ H2 d = some (exd d fs) ∧ H1 d = none ∧ Qx (.ref C) (some d) (upd (del H2 a) d (.xd fs))) fun _ _ _ => False := by
  refine ⟨by show 1 ≤ 1000; decide, fun a ha => ⟨a, v, rfl, upd_same, fun dx hdx hne => ⟨rfl, dx, gv v, upd_same, ?_, ?_, ?_⟩⟩⟩
  · rw [upd_ne hne]
    exact upd_same
  · rw [upd_ne hne] at hdx
    exact hdx
  · rw [upd_ne hne] at hdx
    refine h dx _ hdx (fun b o e => ?_) upd_same
    rw [upd_ne (ne_of_none e hdx), del_ne (ne_of_none e ha), upd_ne (ne_of_none e ha), upd_ne (ne_of_none e hdx), upd_ne (ne_of_none e ha)]
    exact e
end Eld
set_option Elab.async false
set_option maxRecDepth 100000
set_option maxHeartbeats 4000000
set_option linter.all false
namespace Eld
open PySem PySem.Spec PyProof.Rows L2
/-- an own exception without fields of its own, at C -/
structure Exc0 (K : PySem.W.Frag) (C : Addr) : Prop where
  q : PySem.W.excIn K C [.type "ValueError", .type "Exception", .type "BaseException", .type "object"] "ValueError.__new__" = true
  kC : PySem.W.keepIn K (.ref C) = true
  exC : PySem.W.subIn K (.ref C) (.type "BaseException") = some true
  tyC : PySem.W.typeIn K (.ref C) = some (.type "type")
section
variable {X : Cx} {C : Addr} {x : Str} {p pos pos2 : Pos} {W : WX}
/-- x() -/
theorem pmk_own0 (T : Exc0 X.K C) (gC : X.mg x = some (.ref C)) (hg : Gl X x) (hdb : (x == ("__debug__" : Str)) = false := by decide) : PMk X (.Call (.Name x p) [] [] pos) (fun _ H Q => Q (.ref C) none H) := by
  intro pins s σ H Q I h
  refine wpAny_Call_Name_kw (ld_glob I hg gC ?_ hdb)
  refine PySem.W.callWith_K0 I.kIn T.kC ?_
  obtain ⟨bm, N, nm, qn, bs, hdct, sn, sub, ab, col, dd, k0, k1, k2, k3, k5, mN, hC, hN, hni, TT⟩ := exc_obj I.kIn T.q
  refine wpAny_call_exc_subT PySem.F.excBase_ValueError TT hC hN hni (fun h' e hm => ?_) (by show 0 ≤ sizeLine; rw [sizeLine_eq]; omega)
  exact mk_of I hm (raises_own T.exC T.tyC) h (I.hok.gone hm.new)
/-- raise x() -/
theorem ps_err0 (T : Exc0 X.K C) (gC : X.mg x = some (.ref C)) (hc : X.calm = true) (tk : Takes X W) (hg : Gl X x) (hdb : (x == ("__debug__" : Str)) = false := by decide) :
    PS X (.Raise (some (.Call (.Name x p) [] [] pos)) none pos2) (fun _ σ H => W (.ref C) none σ H) := ps_raise hc tk (pmk_own0 T gC hg hdb)
end
end Eld
set_option Elab.async false
set_option maxRecDepth 100000
set_option maxHeartbeats 4000000
set_option linter.all false
namespace Eld
open PySem PySem.Spec PyProof.Rows L2
/-! ## defs, methods and classes by name that may raise -/
section
variable (P : Program) (w : World) (K : PySem.W.Frag) (mg : Str → Option Value) (base : Heap)
def DefX (k : Nat) (x : Str) (n : Nat) (ks : List Str) (gV : List V → List V → List V) (sp : Sp) : Prop :=
  ∃ (f : Addr) (fd : FuncData) (ps : List Str) (g : List Value → List Value → List Value), mg x = some (.ref f) ∧ PySem.W.keepIn K (.ref f) = true ∧ FnG P w K mg base (L2.CX P w) k f fd ps sp ∧ KBn K fd ps n ks g gV
def MetX (k : Nat) (C : Addr) (m : Str) (n : Nat) (ks : List Str) (gV : List V → List V → List V) (sp : Sp) : Prop :=
  ∃ (f : Addr) (fd : FuncData) (ps : List Str) (g : List Value → List Value → List Value), Cls K C ∧ Meth K C m f ∧ FnG P w K mg base (L2.CX P w) k f fd ps sp ∧ KBn K fd ps n ks g gV
def MakX (k : Nat) (x : Str) (C : Addr) (n : Nat) (ks : List Str) (gV : List V → List V → List V) (sp : Sp) : Prop :=
  ∃ (f : Addr) (fd : FuncData) (ps : List Str) (g : List Value → List Value → List Value), mg x = some (.ref C) ∧ Mk K C f ∧ FnG P w K mg base (L2.CX P w) k f fd ps sp ∧ KBn K fd ps (n + 1) ks g gV
end
section
variable {X : Cx} {W : WX} {ks : List Str} {k j n : Nat} {gV : List V → List V → List V} {sp : Sp} {x m : Str} {C : Addr} {p pos apos : Pos} {e o : Expr} {es : List Expr} {ta : TE} {t : TA} {pl : Sem Bool}
theorem pdX_pos (d : DefX X.prog X.w X.K X.mg X.base k x n [] gV sp) (tk : Takes X W) (hG : X.A.guards = some []) (hr : Room j X.A) (hk : k ≤ j) (hg : Gl X x) (ha : PA X (e :: es) t) (hd : (x == ("__debug__" : Str)) = false := by decide)
    (he : starEach (e :: es) X.env = (false, eval e X.env) :: starEach es X.env := by rfl) (hp : (backTo pos (starEach es X.env)).any (·.1) = false := by rfl) : PE X (.Call (.Name x p) (e :: es) [] pos) (tClS (rFnS n 0 gV sp (WE W)) t tNil) := by
  obtain ⟨f, fd, ps, g, hm, kp, F, b⟩ := d
  exact pn_posS (callVS_fn F b (fun σ => passAt tk σ) hG (hr.mono hk)) hg hm kp ha hd he hp
theorem pkX_pos (d : MakX X.prog X.w X.K X.mg X.base k x C n [] gV sp) (tk : Takes X W) (hG : X.A.guards = some []) (hr : Room j X.A) (hk : k + 1 ≤ j) (hg : Gl X x) (ha : PA X (e :: es) t) (hd : (x == ("__debug__" : Str)) = false := by decide)
    (he : starEach (e :: es) X.env = (false, eval e X.env) :: starEach es X.env := by rfl) (hp : (backTo pos (starEach es X.env)).any (·.1) = false := by rfl) : PE X (.Call (.Name x p) (e :: es) [] pos) (tClS (rMkS C n 0 gV sp (WE W)) t tNil) := by
  obtain ⟨f, fd, ps, g, hm, M, F, b⟩ := d
  exact pn_posS (callVS_mk M F b (fun σ => passAt tk σ) hG (hr.mono hk)) hg hm M.kp ha hd he hp
theorem pqX_pos (d : MetX X.prog X.w X.K X.mg X.base k C m n [] gV sp) (tk : Takes X W) (hG : X.A.guards = some []) (hr : Room j X.A) (hk : k ≤ j) (ho : PE X o ta) (ha : PA X (e :: es) t) (he : starEach (e :: es) X.env = (false, eval e X.env) :: starEach es X.env := by rfl)
    (hp : (backTo pos (starEach es X.env)).any (·.1) = false := by rfl) (ht : eval (.Call (.Attribute o m apos) (e :: es) [] pos) X.env = (do
      let ov ← eval o X.env
      standAt apos.atName
      let (f, first) ← holding [ov] (getMethod ov m pl)
      callWith pos f first (backTo pos (starEach (e :: es) X.env)) (backToKw pos (keywordEach [] X.env))) := by rfl) : PE X (.Call (.Attribute o m apos) (e :: es) [] pos) (tMtS C m (rFnS n 0 gV sp (WE W)) ta t tNil) := by
  obtain ⟨f, fd, ps, g, hc, hm, F, b⟩ := d
  exact pm_posS (callVS_fn F b (fun σ => passAt tk σ) hG (hr.mono hk)) hc hm ho ha he hp ht
end
section
variable {σ : L2.St} {H : Hp} {Q : VK} {E : L2.St → XK}
theorem r_clS {r : L2.St → List V → List V → Hp → VK → Prop} {t tk : TA} (h : t σ H fun xs H1 => tk σ H1 fun ys H2 => r σ xs ys H2 Q) : tClS r t tk σ H Q := h
theorem r_fnS {n m : Nat} {gV : List V → List V → List V} {sp : Sp} {xs ys : List V} (h1 : xs.length = n) (h2 : ys.length = m) (h : sp (gV xs ys) H Q (E σ)) : rFnS n m gV sp E σ xs ys H Q := ⟨h1, h2, h⟩
theorem r_mkS {C : Addr} {n m : Nat} {gV : List V → List V → List V} {sp : Sp} {xs ys : List V} (h1 : xs.length = n) (h2 : ys.length = m)
    (h : ∀ x dx, H x = none → H dx = none → dx ≠ x → sp (gV (.ref x :: xs) ys) (upd (upd H dx (.own x)) x (.ins C dx [])) (fun v G => v = .non ∧ Q (.ref x) G) (E σ)) : rMkS C n m gV sp E σ xs ys H Q := ⟨h1, h2, h⟩
theorem r_mtS {C : Addr} {m : Str} {r : L2.St → List V → List V → Hp → VK → Prop} {ta : TE} {t tk : TA} (h : ta σ H fun x H1 => ∃ a dx fs, x = .ref a ∧ H1 a = some (.ins C dx fs) ∧ List.lookup m fs = none ∧ t σ H1 fun xs H2 => tk σ H2 fun ys H3 => r σ (.ref a :: xs) ys H3 Q) : tMtS C m r ta t tk σ H Q := h
end
end Eld
set_option Elab.async false
set_option maxRecDepth 100000
set_option maxHeartbeats 4000000
set_option linter.all false
namespace Eld
open PySem PySem.Spec PySem.HandSPX
/-! ## exceptions of own classes as values: made by place and by keyword, their fields, isinstance on them -/
section
variable {M : Model} {prog : Program} {w : World} {A : Around} {E : Value → Shared → Prop} {R : Result → Shared → Prop} {hp : Heap} {gs : Array GenState} {dr : Drawn} {tk : Nat} {os : OsState}
variable {nm q : Str} {C N : Addr} {bs bm bmB : List Value} {hdct : Bool} {sn : List Str} {sub : List Value} {ab : Bool} {col : Option Bool} {dd : Option Addr} {k0 k1 k2 k3 k5 : Option Value} {B newId initId : String} {us : List Value} {kw : List (Str × Value)}
theorem kw_check (F : ExcBaseFacts B newId initId bmB) (tails : ∀ T : String, bm.contains (.type T) = bmB.contains (.type T)) {Q : Unit → Shared → Prop} (cl : hp.get? C = some (excClassObj nm q C N bs bm hdct sn sub ab col dd k0 k1 k2 k3 k5 newId)) (fin : Q () ⟨hp, gs, dr, tk, os⟩) :
    wpAny M A (checkBuiltinCall newId ⟨.ref C :: us, kw⟩) Q E ⟨hp, gs, dr, tk, os⟩ := by
  have inB : (Value.ref C :: bm).contains (.type B) = true := by
    rw [List.contains_cons, tails, F.hasB]
    exact Bool.or_true _
  have stars := F.noStar
  simp only [checkBuiltinCall, F.newKind, F.newSplit, F.newRow]
  cases kw with
  | nil =>
    repeat (first
      | refine wpAny_loadPart_at cl ?_
      | (refine wpAny_isSubtype_exc cl ?_
         rw [inB])
      | refine wpAny_staticBase_exc cl ?_
      | refine wpAny_madeBy_exc cl ?_
      | simp only [bne_self_eq_false, Bool.false_eq_true, if_false]
      | wp_step)
    exact fin
  | cons kv kws =>
    repeat (first
      | refine wpAny_loadPart_at cl ?_
      | (refine wpAny_isSubtype_exc cl ?_
         rw [inB])
      | refine wpAny_staticBase_exc cl ?_
      | refine wpAny_madeBy_exc cl ?_
      | simp only [bne_self_eq_false, Bool.false_eq_true, if_false]
      | wp_step)
    exact fin
theorem kw_new (F : ExcBaseFacts B newId initId bmB) (tails : ∀ T : String, bm.contains (.type T) = bmB.contains (.type T)) (cl : hp.get? C = some (excClassObj nm q C N bs bm hdct sn sub ab col dd k0 k1 k2 k3 k5 newId)) (few : us.length ≤ sizeLine)
    (fin : R (.ok (.ret (.ref (hp.objs.size + 1)))) ⟨(hp.push (PySem.W.kdv_tup us)).push (excO C hp.objs.size), gs, dr, tk, os⟩) : codeAny (model prog w) A (.builtin newId ⟨.ref C :: us, kw⟩) R ⟨hp, gs, dr, tk, os⟩ := by
  have oth : ∀ T : String, (Value.ref C :: bm).contains (.type T) = bmB.contains (.type T) := fun T => by
    rw [List.contains_cons, tails]
    rfl
  have inB := (oth B).trans F.hasB
  have inA := (oth "AttributeError").trans F.noAttr
  have inN := (oth "NameError").trans F.noName
  have ends := F.ends
  refine codeAny_builtinAt F.entry ?_
  unfold Builtin.«BaseException.__new__»
  refine wpAt_bind ?_
  show wpAt _ _ _ (stack >>= _) _ _ _
  refine wpAt_bind (wpAt_stack fun p below => wpAt_of_wpAny ?_)
  wp_walk
  refine wpAt_of_wpAny ?_
  rw [F.owner]
  repeat (first
    | with_reducible refine wpAny_madeHere_exc F.canon cl ?_
    | with_reducible refine wpAny_loadPart_at cl ?_
    | (with_reducible refine wpAny_isSubtype_exc cl ?_
       first
         | rw [inB]
         | rw [inA]
         | rw [inN])
    | wp_step)
  show R _ _
  rw [Heap.size_push]
  exact fin
theorem kw_type (F : ExcBaseFacts B newId initId bmB) (tails : ∀ T : String, bm.contains (.type T) = bmB.contains (.type T)) (cl : hp.get? C = some (excClassObj nm q C N bs bm hdct sn sub ab col dd k0 k1 k2 k3 k5 newId)) (few : us.length ≤ sizeLine) {fI : Addr} {Q : Fin → Shared → Prop}
    (ini : W.Looks (model prog w) hp (typeLookup (.ref C) "__init__") (some (.ref fI))) (bnd : ∀ x, W.Looks (model prog w) hp (bindSpecial (.ref fI) x) (.ref fI, [x]))
    (run : codeAny (model prog w) A (.call (.ref fI) ⟨.ref (hp.objs.size + 1) :: us, kw⟩) (fun r z => match r with
      | .ok (.ret v) => v = .none ∧ Q (.done (.ret (.ref (hp.objs.size + 1)))) z
      | .ok _ => False
      | .error x => E x z) ⟨(hp.push (PySem.W.kdv_tup us)).push (excO C hp.objs.size), gs, dr, tk, os⟩) :
    wpAny (model prog w) A (Builtin.«type.__call__» ⟨.ref C :: us, kw⟩) Q E ⟨hp, gs, dr, tk, os⟩ := by
  repeat (first
    | with_reducible refine wpAny_loadPart_at cl ?_
    | with_reducible refine wpAny_madeBy_exc cl ?_
    | wp_step)
  refine codeAny_call_builtin_code (Code.quiet_builtin _ F.quiet) (kw_check F tails cl ?_)
  refine kw_new F tails cl few ?_
  show wpAny _ _ _ _ _ _
  have more : ∀ b o, hp.get? b = some o → ((hp.push (PySem.W.kdv_tup us)).push (excO C hp.objs.size)).get? b = some o := fun b o e => Heap.get?_push_of_some _ (Heap.get?_push_of_some _ e)
  have cl1 := more _ _ cl
  have got : ((hp.push (PySem.W.kdv_tup us)).push (excO C hp.objs.size)).get? (hp.objs.size + 1) = some (excO C hp.objs.size) := by heap_get
  have own : (Value.ref C :: bm).contains (.ref C) = true := by simp
  have ini1 := ini.keeps more
  have bnd1 := (bnd (.ref (hp.objs.size + 1))).keeps more
  unfold isInstance
  repeat (first
    | with_reducible refine wpAny_loadPart_at got ?_
    | (with_reducible refine wpAny_isSubtype_exc cl1 ?_
       rw [own])
    | wp_step)
  show wpAny _ _ (typeLookup (.ref C) _) _ _ _
  refine ini1.at ?_
  refine wpAny_holding (wpAny_bind (bnd1.at ?_))
  refine wpAny_bind (wpAny_call (codeAny_mono run fun r z h => ?_))
  rcases r with x | (v | _ | _ | _) <;> first | exact h | exact h.elim | skip
  obtain ⟨rfl, h⟩ := h
  first
    | exact wpAny_pure (wpAny_pure h)
    | (wp_walk
       exact h)
theorem kw_call (F : ExcBaseFacts B newId initId bmB) (tails : ∀ T : String, bm.contains (.type T) = bmB.contains (.type T)) (cl : hp.get? C = some (excClassObj nm q C N bs bm hdct sn sub ab col dd k0 k1 k2 k3 k5 newId)) (few : us.length ≤ sizeLine) {fI : Addr}
    (ini : W.Looks (model prog w) hp (typeLookup (.ref C) "__init__") (some (.ref fI))) (bnd : ∀ x, W.Looks (model prog w) hp (bindSpecial (.ref fI) x) (.ref fI, [x]))
    (run : codeAny (model prog w) (A.under (.builtin "type.__call__" ⟨.ref C :: us, kw⟩)) (.call (.ref fI) ⟨.ref (hp.objs.size + 1) :: us, kw⟩) (W.InitBack (hp.objs.size + 1) R) ⟨(hp.push (PySem.W.kdv_tup us)).push (excO C hp.objs.size), gs, dr, tk, os⟩) :
    codeAny (model prog w) A (.call (.ref C) ⟨us, kw⟩) R ⟨hp, gs, dr, tk, os⟩ := by
  have t1 := tc_lookup
  have t2 := tc_bind (.ref C)
  have ty : (⟨hp, gs, dr, tk, os⟩ : Shared).TypeIs (.ref C) "type" := ⟨_, cl, rfl⟩
  refine codeAny_of_tree ?_
  show wpAny _ _ (callAny (.ref C) _) _ _ _
  repeat (any_goals (first
    | assumption
    | with_reducible refine wpAny_loadPart_at cl ?_
    | wp_step))
  refine ⟨rfl, ?_⟩
  refine codeAny_call_builtin_at (Code.quiet_builtin _ (by decide +kernel)) entry_typeCall (wpAny_check_type_call_sub cl (kw_type F tails cl few ini bnd ?_))
  refine codeAny_mono run fun r z h => ?_
  rcases r with x | (v | _ | _ | _) <;> exact h
end
end Eld
set_option Elab.async false
set_option maxRecDepth 100000
set_option maxHeartbeats 4000000
set_option linter.all false
namespace Eld
open PySem PySem.Spec PyProof.Rows L2
/-! ## exceptions of own classes as values: what is tracked of them -/
/-- at e: an exception of the class at C with its dict, new or caught, its context None -/
def Ex (e C : Addr) (d : Option Addr) : HO := .ext fun h => ∃ (o : Obj) (fv : Array Value), h.get? e = some o ∧ L2N.Zn (.ref C) d o ∧ o.data = .fields fv
def IsEx (H : Hp) (a C : Addr) (d : Option Addr) : Prop := H a = some (exo a C d) ∨ H a = some (Ex a C d)
def IsXd (H : Hp) (d : Addr) (fs : List (Str × V)) : Prop := H d = some (exd d fs) ∨ H d = some (.xd fs)
/-- an exception with fields -/
def XV (H : Hp) (a C : Addr) (fs : List (Str × V)) : Prop := ∃ d, IsEx H a C (some d) ∧ IsXd H d fs
/-- one of either kind -/
def XA (H : Hp) (a C : Addr) : Prop := IsEx H a C none ∨ ∃ fs, XV H a C fs
theorem IsEx.same {H G : Hp} {a C : Addr} {d : Option Addr} (s : Same H G) (h : IsEx H a C d) : IsEx G a C d := h.imp (s _ _) (s _ _)
theorem XV.same {H G : Hp} {a C : Addr} {fs : List (Str × V)} (s : Same H G) : XV H a C fs → XV G a C fs
  | ⟨d, h1, h2⟩ => ⟨d, h1.same s, h2.imp (s _ _) (s _ _)⟩
theorem XA.same {H G : Hp} {a C : Addr} (s : Same H G) : XA H a C → XA G a C
  | .inl h => .inl (h.same s)
  | .inr ⟨fs, h⟩ => .inr ⟨fs, h.same s⟩
section
variable {P : Program} {w : World} {H : Hp} {h : Heap} {a C d : Addr} {dd : Option Addr} {fs : List (Str × V)}
theorem IsEx.at_ (ok : HOk P w H h) (x : IsEx H a C dd) : ∃ (o : Obj) (fv : Array Value), h.get? a = some o ∧ L2N.Zn (.ref C) dd o ∧ o.data = .fields fv := by
  rcases x with x | x
  · obtain ⟨t, e⟩ := exo_at ok x
    exact ⟨_, _, e, ⟨rfl, rfl, fun vs q => by cases q; rfl⟩, rfl⟩
  · have z : ObjOk P w H h a (.ext fun h => ∃ (o : Obj) (fv : Array Value), h.get? a = some o ∧ L2N.Zn (.ref C) dd o ∧ o.data = .fields fv) := ok a _ x
    exact z.1
theorem IsXd.at_ (ok : HOk P w H h) (x : IsXd H d fs) : ∃ mA, h.Ns1 d mA ∧ ∀ f, RelO (fs.lookup f) (mA f) := by
  rcases x with x | x
  · exact exd_at ok x
  · exact (show ObjOk P w H h d (.xd fs) from ok d _ x)
theorem ex_ok {o : Obj} {fv : Array Value} (e : h.get? a = some o) (z : L2N.Zn (.ref C) dd o) (f : o.data = .fields fv) : ObjOk P w H h a (Ex a C dd) :=
  ⟨⟨o, fv, e, z, f⟩, ⟨o, e⟩, fun h1 h2 x k => by
    obtain ⟨o', fv', e', r⟩ := x
    exact ⟨o', fv', k _ e', r⟩⟩
/-- as an instance, for the library's rules -/
theorem XA.inst (ok : HOk P w H h) (x : XA H a C) : ∃ o od, PySem.W.InstAt h a o C od := by
  rcases x with x | ⟨fs, d, x, y⟩
  · obtain ⟨o, fv, e, z, f⟩ := x.at_ ok
    refine ⟨o, none, e, z.1, ?_, ?_⟩
    · unfold PySem.W.notCls
      rw [f]
    · rw [z.2.1]
      exact True.intro
  · obtain ⟨o, fv, e, z, f⟩ := x.at_ ok
    obtain ⟨mA, ⟨od, es, ep, eo, r⟩, _⟩ := y.at_ ok
    refine ⟨o, some od, e, z.1, ?_, ?_⟩
    · unfold PySem.W.notCls
      rw [f]
    · rw [z.2.1]
      exact eo
end
/-! ### made -/
/-- an __init__ that stores its values: which fields of which values -/
def spStore (C : Addr) (n : Nat) (fsOf : List V → List (Str × V)) : Sp := fun vs H Q _ => ∃ a xs, vs = .ref a :: xs ∧ xs.length = n ∧ H a = some (exo a C none) ∧
  ∀ dx G, H dx = none → dx ≠ a → G a = some (exo a C (some dx)) → G dx = some (exd dx (fsOf xs)) → (∀ b, b ≠ a → b ≠ dx → G b = H b) → Q .non G
/-- the class x at C, called with n values by place and values by the names ks -/
def MakE (P : Program) (w : World) (K : PySem.W.Frag) (mg : Str → Option Value) (base : Heap) (k : Nat) (x : Str) (C : Addr) (n : Nat) (ks : List Str) (gV : List V → List V → List V) (fsOf : List V → List (Str × V)) : Prop :=
  ∃ (f : Addr) (fd : FuncData) (ps : List Str) (g : List Value → List Value → List Value) (gW : List V → List V → List V) (m : Nat), mg x = some (.ref C) ∧ OexC K C ∧ PySem.W.findIn K (.ref C) "__init__" = some (some (.ref f)) ∧ PySem.W.typeIn K (.ref f) = some (.type "function") ∧
    FnG P w K mg base CX0 k f fd ps (spStore C m fsOf) ∧ KBn K fd ps (n + 1) ks g gW ∧ ∀ a xs ys, xs.length = n → ys.length = ks.length → gW (.ref a :: xs) ys = .ref a :: gV xs ys ∧ (gV xs ys).length = m
def rMkE (C : Addr) (n m : Nat) (gV : List V → List V → List V) (fsOf : List V → List (Str × V)) : List V → List V → Hp → VK → Prop := fun xs ys H Q => xs.length = n ∧ ys.length = m ∧
  ∀ a dx G, H a = none → H dx = none → dx ≠ a → G a = some (exo a C (some dx)) → G dx = some (exd dx (fsOf (gV xs ys))) → (∀ b, b ≠ a → b ≠ dx → G b = H b) → Q (.ref a) G
section
variable {X : Cx} {k n : Nat} {C : Addr} {x : Str} {ks : List Str} {gV : List V → List V → List V} {fsOf : List V → List (Str × V)}
theorem callV_exc (d : MakE X.prog X.w X.K X.mg X.base k x C n ks gV fsOf) (hn : n ≤ 1000) (hG : X.A.guards = some []) (hr : Room (k + 1) X.A) : CallV X (.ref C) ks (rMkE C n ks.length gV fsOf) := by
  obtain ⟨f, fd, ps, g, gW, m, gm, T, iC, tI, F, hb, hv⟩ := d
  rintro pins s σ H xs ys us ws Q I rx ry ⟨l1, l2, want⟩
  obtain ⟨nm, q, N, bs, bm, sn, sub, ab, col, dd, k0, k1, k2, k3, k5, hC, hbm⟩ := T.cls
  obtain ⟨hp, gg, dr, tk, os⟩ := s
  have big : hp.objs.size ≤ hp.objs.size + 1 := Nat.le_succ _
  have free : H (hp.objs.size + 1) = none := I.hok.fresh big
  have more : ∀ b o, hp.get? b = some o → ((hp.push (PySem.W.kdv_tup us)).push (PySem.HandSPX.excO C hp.objs.size)).get? b = some o := fun b o e => Heap.get?_push_of_some _ (Heap.get?_push_of_some _ e)
  have got : ((hp.push (PySem.W.kdv_tup us)).push (PySem.HandSPX.excO C hp.objs.size)).get? (hp.objs.size + 1) = some (PySem.HandSPX.excO C hp.objs.size) := by heap_get
  have J : Inv X pins σ (upd H (hp.objs.size + 1) (exo (hp.objs.size + 1) C none)) ⟨(hp.push (PySem.W.kdv_tup us)).push (PySem.HandSPX.excO C hp.objs.size), gg, dr, tk, os⟩ := I.laid (t' := tk) more big (exo_ok got)
  have rx' : Vals (V.ref (hp.objs.size + 1) :: xs) (Value.ref (hp.objs.size + 1) :: us) := .cons rfl rx
  obtain ⟨e1, e2⟩ := hv (hp.objs.size + 1) xs ys l1 l2
  have e3 : (Value.ref (hp.objs.size + 1) :: us).length = n + 1 := by rw [List.length_cons, ← rx.length, l1]
  have e4 : ws.length = ks.length := ry.length ▸ l2
  have few : us.length ≤ sizeLine := by
    rw [← rx.length, l1, sizeLine_eq]
    omega
  have pr : spStore C m fsOf (gW (V.ref (hp.objs.size + 1) :: xs) ys) (upd H (hp.objs.size + 1) (exo (hp.objs.size + 1) C none)) (fun v G => v = .non ∧ Q (.ref (hp.objs.size + 1)) G) (fun _ _ _ => False) := by
    refine ⟨hp.objs.size + 1, gV xs ys, e1, e2, upd_same, fun dx G n1 n2 g1 g2 g3 => ⟨rfl, ?_⟩⟩
    rw [upd_ne n2] at n1
    refine want _ dx G free n1 n2 g1 g2 fun b b1 b2 => ?_
    rw [g3 b b1 b2, upd_ne b1]
  refine wpAny_call (kw_call PySem.F.excBase_ValueError (fun Y => PySem.HandSPX.refsVE_contains Y bm hbm) (I.kIn _ _ hC) few (PySem.W.looks_findIn I.kIn iC) (fun self => PySem.W.bind_fn I.kIn self tI)
    (codeAny_mono (F.run _ X.stack _ _ ⟨Value.ref (hp.objs.size + 1) :: us, ks.zip ws⟩ _ _ _ (fun _ _ _ => False) (make_guards hG) (hr.make C us (ks.zip ws)) (J.env0.make C us (ks.zip ws)) (hb.to _ _ ws J.kIn e3 e4) (hb.rel rx' ry) pr) ?_))
  intro res s' hq
  match res, hq with
  | .error e, hq => exact pass0 pins σ _ _ e s' J hq
  | .ok (.ret u), hq =>
    obtain ⟨v, G, I', rv, ev, qq⟩ := J.after hq
    subst ev
    exact ⟨rv, ⟨V.ref (hp.objs.size + 1), G, I', rfl, qq⟩⟩
end
end Eld
set_option Elab.async false
set_option maxRecDepth 100000
set_option maxHeartbeats 4000000
set_option linter.all false
namespace PySem.W
open PySem PySem.Spec PySem.Calls PyProof.Rows
section
variable {prog : Program} {w : World} {A : Around} {E : Value → Shared → Prop} {s : Shared} {K : Frag} {x D : Addr} {ox : Obj} {od : Option Obj}
theorem eld_found {a g : Value} {n : Str} (hc : (clsIn K D).isSome = true) (h1 : findIn K (.ref D) n = some (some a)) (h2 : specialIn K a "__get__" = some (some g)) (h3 : takesIn K a = some true) : findObj K D od n = some (.bind g a) := by
  obtain ⟨cd, e⟩ := Option.isSome_iff_exists.mp hc
  unfold findObj
  simp [e, h1, h2, h3]
theorem eld_class {Q : Option Value → Shared → Prop} (T : L2.ExcC K D) (X : K.In s.heap) (J : InstAt s.heap x ox D od) (fin : Q (some (.ref D)) { s with toks := s.toks + 1 }) : wpAny (model prog w) A (getAttr? (.ref x) "__class__") Q E s := by
  have known : (clsIn K D).isSome = true := by
    obtain ⟨cd, e, _⟩ := any_some T.hd
    rw [e]
    rfl
  have fo := eld_found (od := od) known T.ha T.hn T.ht
  obtain ⟨hh, gg, dr, tk, os⟩ := s
  have lTy := J.type (M := model prog w)
  have lGa := looks_findIn (M := model prog w) X T.hg
  have lGt := looks_findIn (M := model prog w) X T.hk
  have lFo := looks_find (M := model prog w) X J fo
  have lBase : Looks (model prog w) hh (isInstance (.ref x) (.type "BaseException")) true := lTy.andThen (looks_subIn X T.hs)
  have not1 : (Value.builtin "BaseException.__getattribute__" == Value.builtin "object.__getattribute__") = false := by decide +kernel
  have not2 : (onTheHeap (Value.ref D) && Value.builtin "BaseException.__getattribute__" == Value.builtin "object.__getattribute__") = false := by
    rw [not1]
    rfl
  have not3 : (false && onTheHeap (Value.builtin "BaseException.__getattribute__")) = false := rfl
  unfold getAttr? getAttrBy? getAttrBy
  refine wpAny_bind (wpAny_mkText (wpAny_bind (wpAny_attempt (wpAny_holding (wpAny_bind (lTy.at (wpAny_bind (lGa.at ?_))))))))
  show wpAny _ _ (if (onTheHeap (Value.ref D) && Value.builtin "BaseException.__getattribute__" == Value.builtin "object.__getattribute__") = true then _ else _) _ _ _
  rw [not2, if_neg Bool.false_ne_true]
  unfold getAttrByItsOwn hookBefore
  refine wpAny_bind ?_
  rw [if_pos (show onTheHeap (Value.ref D) = true from rfl)]
  refine lGt.at ?_
  refine wpAny_bind (wpAny_attempt (wpAny_holding ?_))
  unfold callGetattribute
  rw [not3, if_neg Bool.false_ne_true]
  unfold boundAndCalled
  rw [PySem.F.excAttr_ValueError.ga.bind (.ref x)]
  refine wpAny_bind (wpAny_pure ?_)
  show wpAny _ _ (call (.builtin "BaseException.__getattribute__") [.ref x, .str "__class__" tk]) _ _ _
  refine wpAny_call (codeAny_call_builtin PySem.F.excAttr_ValueError.ga.plain PySem.F.entry_bexc_ga ?_)
  refine @check_slot (model prog w) _ _ ⟨hh, gg, dr, tk + 1, os⟩ "BaseException.__getattribute__" "BaseException" "__getattribute__" (.ref x) [.str "__class__" tk] [] _ (by decide +kernel) (by decide +kernel) lBase (PySem.F.args_bexc_ga (.ref x) (.str "__class__" tk)) ?_
  unfold Builtin.«object.__getattribute__»
  refine wpAny_bind (wpAny_of_eq (a := ((Value.ref x : Value), [Value.str "__class__" tk])) (by first | rfl | (simp only [slotArgs]; rfl)) ?_)
  refine wpAny_bind (wpAny_pure (wpAny_bind (lTy.at (wpAny_bind (lFo.at ?_)))))
  show wpAny _ _ (holding [Value.builtin "object.__class__"] (call (.builtin "getset_descriptor.__get__") [.builtin "object.__class__", .ref x, .ref D]) >>= ret) _ _ _
  refine wpAny_bind (wpAny_holding (wpAny_call (class_get (s := ⟨hh, gg, dr, tk + 1, os⟩) (ox := ox) (od := od) X J T.hm ?_)))
  refine wpAny_pure ?_
  show wpAny _ _ (handedOut (.ref D)) _ _ _
  rw [handedOut_of (v := .ref D) rfl]
  first
    | exact wpAny_pure (wpAny_pure fin)
    | exact wpAny_pure fin
    | exact wpAny_pure (wpAny_bind (wpAny_pure (wpAny_pure fin)))
theorem eld_kit (T : L2.ExcC K D) (own : kitCls K (.ref D) (.ref D) = some true) : KitX K (.ref x) (.ref D) (fun h => ∃ ox od, InstAt h x ox D od) where
  ty := fun M h _ ⟨_, _, J⟩ => J.type
  it := fun M h X _ => (kit_cls (M := M) X own).2.1
  ne := fun h tp dd its n sl X at_ => by
    obtain ⟨cd, e, _⟩ := any_some T.hd
    refine Bool.eq_false_iff.mpr fun q => ?_
    obtain rfl : D = tp := Value.ref.inj (beq_iff_eq.mp q)
    unfold clsIn at e
    split at e
    · rename_i o1 o2 o3 o4 lk
      have z := (X _ _ lk).symm.trans at_
      cases z
    · cases e
  ca := fun X ⟨_, _, J⟩ k => eld_class T X J k
end
end PySem.W
namespace Eld
open PySem PySem.Spec PyProof.Rows L2
/-- e.f, e an exception of an own class -/
def tXv (K : PySem.W.Frag) (n : Str) (te : TE) : TE := fun σ H Q => te σ H fun x H1 => ∃ a C fs v, x = .ref a ∧ XV H1 a C fs ∧ XfC K C ∧ PySem.W.findIn K (.ref C) n = some none ∧ fs.lookup n = some v ∧ Q v H1
theorem pe_xv {X : Cx} {e : Expr} {te : TE} {pos : Pos} {n : Str} (he : PE X e te) (hb : attributeBase e n X.env (eval e X.env) = eval e X.env := by rfl) : PE X (.Attribute e n pos) (tXv X.K n te) := by
  refine ⟨fun pins s σ H Q I h => ?_⟩
  refine attr_of hb (thn (he.run pins s σ H _ I h) fun u s1 hh => ?_)
  obtain ⟨x, H1, I1, rx, a, C, fs, v, rfl, ⟨d, x1, x2⟩, T, no, l, q⟩ := hh
  obtain rfl : u = Value.ref a := rx
  obtain ⟨o, fv, e1, z, f⟩ := x1.at_ I1.hok
  obtain ⟨mA, ns, rel⟩ := x2.at_ I1.hok
  obtain ⟨od, ho, hl⟩ := lookIn_ns ns
  obtain ⟨u, hu, ru⟩ := RelO.some_of (v := v) (o := mA n) (by rw [← l]; exact rel n)
  have J : PySem.W.InstAt s1.heap a o C (some od) := by
    refine ⟨e1, z.1, ?_, ?_⟩
    · unfold PySem.W.notCls
      rw [f]
    · rw [z.2.1]
      exact ho
  exact HandSPX.exc_get I1.kIn J T.ga T.gg T.exC (PySem.W.findObj_own T.hdC no rfl (by rw [hl, hu])) (handed_of ru) ⟨v, H1, I1.tok _, ru, q⟩
/-- isinstance(e, c) -/
def rIsx (K : PySem.W.Frag) : List V → Hp → VK → Prop := fun xs H Q => ∃ (a C : Addr) (c : V) (u : Value) (b : Bool), xs = [.ref a, c] ∧ XA H a C ∧ ExcC K C ∧ PySem.W.kitCls K (.ref C) (.ref C) = some true ∧ ClsV c u ∧ PySem.W.kitOne K (.ref C) u = some b ∧ Q (.bl b) H
theorem call_isx {X : Cx} : CallR X (.builtin "isinstance") (rIsx X.K) := by
  intro pins s σ H xs us Q I r h
  obtain ⟨a, C, c, u, b, rfl, xa, T, own, k, e, q⟩ := h
  obtain ⟨u1, u2, rfl, r1, r2⟩ := vals2 r
  have e2 := k.eq r2
  subst e2
  obtain rfl : u1 = Value.ref a := r1
  exact PySem.W.kia_one (PySem.W.eld_kit T own) I.kIn (xa.inst I.hok) e (fun z => nomatch z) fun tk => ⟨.bl b, H, I.tok tk, rfl, q⟩
/-- x(), x an own class without fields -/
theorem callV_exc0 {X : Cx} {C : Addr} (T : Exc0 X.K C) : CallV X (.ref C) [] (fun xs ys H Q => xs = [] ∧ ys = [] ∧ ∀ a, H a = none → Q (.ref a) (upd H a (Ex a C none))) := by
  rintro pins s σ H xs ys us ws Q I rx ry ⟨rfl, rfl, h⟩
  cases rx
  cases ry
  show wpAny _ _ (call (.ref C) []) _ _ _
  obtain ⟨bm, N, nm, qn, bs, hdct, sn, sub, ab, col, dd, k0, k1, k2, k3, k5, mN, hC, hN, hni, TT⟩ := exc_obj I.kIn T.q
  refine wpAny_call_exc_subT PySem.F.excBase_ValueError TT hC hN hni (fun h' a hm => ?_) (by show 0 ≤ sizeLine; rw [sizeLine_eq]; omega)
  have hn : H a = none := I.hok.gone hm.new
  obtain ⟨t, ht, _, _⟩ := hm.there
  exact ⟨.ref a, upd H a (Ex a C none), I.laidN hm.keeps hm.new hn (ex_ok ht ⟨rfl, rfl, fun vs e => by cases e; rfl⟩ rfl), rfl, h a hn⟩
/-- what gives a new exception with fields makes one -/
theorem pmk_val {X : Cx} {e : Expr} {te : TE} (hx : X.ex = []) (he : PE X e te) :
    L2N.PMk X e (fun σ H Q => te σ H fun x H1 => ∃ a C d fs, x = .ref a ∧ H1 a = some (exo a C (some d)) ∧ H1 d = some (exd d fs) ∧ X.H_0 a = none ∧ OexC X.K C ∧ Q (.ref C) (some d) (delH H1 a)) := by
  intro pins s σ H Q I h
  refine wpAny_mono (he.run pins s σ H _ I h) (fun u s1 hu => ?_) fun _ _ x => x
  obtain ⟨v, H1, I1, r1, a, C, d, fs, rfl, ha, hd, h0, T, q⟩ := hu
  cases r1
  obtain ⟨t, ho⟩ := exo_at I1.hok ha
  obtain ⟨G, gs, ga, J⟩ := I1.untrack (φ := _) ha (fr0_none h0) hx
  exact ⟨a, _, _, { s1 with heap := G }, delH H1 a, .ref C, some d, rfl, J, gs, ga, ho, ⟨rfl, rfl, fun vs e => by cases e; rfl⟩, rfl, rfl, delH_same, rfl, I1.bare, raises_own T.exC T.tyC, q⟩
end Eld
set_option Elab.async false
set_option maxRecDepth 100000
set_option maxHeartbeats 4000000
set_option linter.all false
namespace Eld
open PySem PySem.Spec PyProof.Rows L2
/-! ## defs that keep their promise within an except suite, too, where what is handled is tracked -/
abbrev RoomA := L2H.RoomH
def HotOk (A : Around) (H : Hp) : Prop := A.handled = none ∨ ∃ x C d, A.handled = some (.ref x) ∧ IsEx H x C d
theorem HotOk.same {A : Around} {H G : Hp} (h : HotOk A H) (s : Same H G) : HotOk A G := h.imp id fun ⟨x, C, d, e, r⟩ => ⟨x, C, d, e, r.same s⟩
theorem HotOk.cold {A : Around} {H : Hp} {k : Nat} (r : Room k A) : HotOk A H := .inl r.hd
structure FnA (P : Program) (w : World) (K : PySem.W.Frag) (mg : Str → Option Value) (base : Heap) (k : Nat) (f : Addr) (fd : FuncData) (ps : List Str) (sp : Sp) : Prop where
  len : ∀ vs H Q E, sp vs H Q E → vs.length = ps.length
  run : ∀ (B : Around) (up : List Env) (z : Shared) (H : Hp) (ar : Args) (us : List Value) (vs : List V) (Q : VK) (E : XK),
    B.guards = some [] → RoomA k B → HotOk B H → Env0 P w K mg base B up z H → BindsTo z fd ar (ps.zip us) → Vals vs us → sp vs H Q E → codeAny (model P w) B (.call (.ref f) ar) (CR CX0 up P w H z Q E) z
section
variable {P : Program} {w : World} {K : PySem.W.Frag} {mg : Str → Option Value} {base : Heap}
def cxA (P : Program) (w : World) (K : PySem.W.Frag) (mg : Str → Option Value) (base : Heap) (N : List Str) (ql : Str) (sc : Scope) (f : Addr) (cd : Value) (B : Around) (up : List Env) (z : Shared) (H : Hp) : Cx :=
  { cxOf CX0 P w K mg base N ql sc f cd B up z H (fun _ _ _ => False) with calm := false, xe := fun _ _ => False }
theorem FnA.cold {k : Nat} {f : Addr} {fd : FuncData} {ps : List Str} {sp : Sp} (F : FnA P w K mg base k f fd ps sp) : FnG P w K mg base CX0 k f fd ps sp :=
  ⟨F.len, fun B up z H ar us vs Q E g r e b v h => F.run B up z H ar us vs Q E g (L2H.roomH_of r) (.cold r) e b v h⟩
/-- without a look at what is handled -/
def cool (A : Around) : Around := { A with handled := none }
theorem start_any {N ps : List Str} {ql : Str} {sc : Scope} {f : Addr} {cd : Value} {B : Around} {up : List Env} {z z1 : Shared} {H : Hp} {us : List Value} {vs : List V} (S : FnScope N ps sc) (e0 : Env0 P w K mg base B up z H) (hl : vs.length = ps.length) (r : Vals vs us)
    (x : InCallC z z.heap.objs.size (bindL (envOfC ql sc z.heap.objs.size f cd).kindOf (ps.zip us) fun _ => none) (cellsFrom (z.heap.objs.size + 1) sc.names []) (bindC (envOfC ql sc z.heap.objs.size f cd).kindOf (ps.zip us) fun _ => none) z1) :
    Inv (cxA P w K mg base N ql sc f cd B up z H) [] (start N vs) H z1 := by
  have e1 : Env0 P w K mg base (cool B) up z H := ⟨e0.frames, e0.mod, e0.bs, e0.bsz, e0.funs, e0.frf, e0.hok, e0.bare⟩
  have I : Inv (cxOf CX0 P w K mg base N ql sc f cd (cool B) up z H (fun _ _ _ => False)) [] (start N vs) H z1 := inv_start S rfl e1 hl r x
  have o := I.ok
  exact ⟨⟨o.mod, o.kind, o.glob, o.blt, o.above, o.inj, o.has, o.cab, (fun q => Bool.noConfusion (show false = true from q)), Around.frames_deeper e0.frames, o.stk, o.exf, o.bs, o.bsz, o.noex, o.exfs, o.funs, o.frf⟩,
    I.os, I.bare, I.base, I.loc, I.cell, I.free, I.freeC, I.pin, I.hok, I.len⟩
theorem okA {x ql : Str} {st : Stmt} {f : Addr} {fd : FuncData} {N ps : List Str} {k : Nat} {sp : Sp} (F : Fun K x ql st f fd) (S : FnScope N ps (defScope st)) (ln : ∀ vs H Q E, sp vs H Q E → vs.length = ps.length)
    (bo : ∀ (cdv : Value) (B : Around) (up : List Env) (z : Shared) (H : Hp) (vs : List V) (Q : VK) (E : XK), (B.deeper (envOfC ql (defScope st) z.heap.objs.size f cdv)).guards = some [] → RoomA k (B.deeper (envOfC ql (defScope st) z.heap.objs.size f cdv)) →
      HotOk (B.deeper (envOfC ql (defScope st) z.heap.objs.size f cdv)) H → sp vs H Q E → ∃ t, PSs (cxA P w K mg base N ql (defScope st) f cdv B up z H) (defBody st) t ∧ t { nx := fun _ G => Q .non G, rt := Q } (start N vs) H) : FnA P w K mg base (k + 1) f fd ps sp := by
  obtain ⟨oc, od, kV, doc, pm, an, cdv, ct, osl, rfl, lk, cd⟩ := F.ex
  refine ⟨ln, ?_⟩
  intro B up z H ar us vs Q E gd rm hot e0 bt rv hs
  have len := ln vs H Q E hs
  have there : ∀ b o, base.get? b = some o → z.heap.get? b = some o := fun b o e => (e0.bs b o e).1
  have inK : K.In z.heap := e0.mod.kin.keeps there
  have nolim : z.heap.NoLimit := e0.mod.nolimit.keeps there
  have kinds : ∀ y ∈ ps.zip us, (defScope st).names.lookup y.1 = some .local ∨ ((defScope st).names.lookup y.1 = some .cell ∧ ((cellsFrom (z.heap.objs.size + 1) (defScope st).names []).lookup y.1).isSome = true) := by
    rintro ⟨n, v⟩ hy
    have hn : n ∈ ps := (List.of_mem_zip hy).1
    exact (S.par n hn).imp id fun q => ⟨q, PySem.W.cellsFrom_some _ _ _ (.inl q)⟩
  refine codeAny_call_function rm.depth (inK _ _ lk) rfl S.co S.gen rfl (PySem.W.codeRec_of inK cd) (bt _ _ _ _ ?_)
  refine wpAny_newFunctionEnv_cells S.kind kinds ?_
  rintro env rfl z1 ic
  refine ⟨nolim.keeps ic.toInCall.keep, codeAny_func ?_⟩
  obtain ⟨t, pt, ht⟩ := bo cdv B up z H vs Q E (deeper_guards gd) (rm.deeper _) hot hs
  have I0 := start_any (f := f) (cd := cdv) S e0 len rv ic
  refine wpAny_mono (pt.run [] z1 (start N vs) H _ I0 ht) ?_ (fun e z2 q => q.elim)
  rintro fl z2 q
  cases fl with
  | next =>
    obtain ⟨τ, G, J, q⟩ := q
    exact ⟨V.non, G, J.os, J.bare, J.base, J.hok, rfl, q⟩
  | ret u =>
    obtain ⟨v, τ, G, J, rv', q⟩ := q
    exact ⟨v, G, J.os, J.bare, J.base, J.hok, rv', q⟩
  | brk => exact q.choose_spec.choose_spec.2.elim
  | cont => exact q.choose_spec.choose_spec.2.elim
end
/-! ### calls -/
section
variable {X : Cx} {k n : Nat} {f : Addr} {fd : FuncData} {ps ks : List Str} {sp : Sp} {g : List Value → List Value → List Value} {gV : List V → List V → List V} {W : WX}
def rFnA (A : Around) (n m : Nat) (gV : List V → List V → List V) (sp : Sp) : List V → List V → Hp → VK → Prop := fun xs ys H Q => xs.length = n ∧ ys.length = m ∧ HotOk A H ∧ sp (gV xs ys) H Q (fun _ _ _ => False)
theorem callV_fnA (F : FnA X.prog X.w X.K X.mg X.base k f fd ps sp) (hb : KBn X.K fd ps n ks g gV) (hG : X.A.guards = some []) (hr : RoomA k X.A) : CallV X (.ref f) ks (rFnA X.A n ks.length gV sp) := by
  rintro pins s σ H xs ys us ws Q I rx ry ⟨l1, l2, hot, h⟩
  have e1 : us.length = n := rx.length ▸ l1
  have e2 : ws.length = ks.length := ry.length ▸ l2
  refine wpAny_call (codeAny_mono (F.run X.A X.stack s H ⟨us, ks.zip ws⟩ (g us ws) (gV xs ys) Q _ hG hr hot I.env0 (hb.to s us ws I.kIn e1 e2) (hb.rel rx ry) h) ?_)
  intro res s' hq
  match res, hq with
  | .error e, hq => exact pass0 pins σ H s e s' I hq
  | .ok (.ret u), hq => exact I.after hq
def DefA (P : Program) (w : World) (K : PySem.W.Frag) (mg : Str → Option Value) (base : Heap) (k : Nat) (x : Str) (n : Nat) (sp : Sp) : Prop :=
  ∃ (f : Addr) (fd : FuncData) (ps : List Str) (g : List Value → List Value → List Value), mg x = some (.ref f) ∧ PySem.W.keepIn K (.ref f) = true ∧ FnA P w K mg base k f fd ps sp ∧ KBn K fd ps n [] g byPlace
variable {x : Str} {j : Nat} {p pos : Pos} {e : Expr} {es : List Expr} {t : TA}
theorem DefA.cold {P : Program} {w : World} {K : PySem.W.Frag} {mg : Str → Option Value} {base : Heap} (d : DefA P w K mg base k x n sp) : DefD P w K mg base k x n [] byPlace sp := by
  obtain ⟨f, fd, ps, g, hm, kp, F, b⟩ := d
  exact ⟨f, fd, ps, g, hm, kp, F.cold, b⟩
theorem pa_pos (d : DefA X.prog X.w X.K X.mg X.base k x n sp) (hG : X.A.guards = some []) (hr : RoomA j X.A) (hk : k ≤ j) (hg : Gl X x) (ha : PA X (e :: es) t) (hd : (x == ("__debug__" : Str)) = false := by decide)
    (he : starEach (e :: es) X.env = (false, eval e X.env) :: starEach es X.env := by rfl) (hp : (backTo pos (starEach es X.env)).any (·.1) = false := by rfl) : PE X (.Call (.Name x p) (e :: es) [] pos) (tCl (rFnA X.A n 0 byPlace sp) t tNil) := by
  obtain ⟨f, fd, ps, g, hm, kp, F, b⟩ := d
  exact pn_pos (callV_fnA F b hG (hr.mono hk)) hg hm kp ha hd he hp
end
theorem r_fnA {A : Around} {n m : Nat} {gV : List V → List V → List V} {sp : Sp} {xs ys : List V} {H : Hp} {Q : VK} (h1 : xs.length = n) (h2 : ys.length = m) (hot : HotOk A H) (h : sp (gV xs ys) H Q (fun _ _ _ => False)) : rFnA A n m gV sp xs ys H Q := ⟨h1, h2, hot, h⟩
end Eld
set_option Elab.async false
set_option maxRecDepth 100000
set_option maxHeartbeats 4000000
set_option linter.all false
namespace Eld
open PySem PySem.Spec PyProof.Rows L2
/-! ## [elt for i in range(n) if ..], also where an exception is handled that is tracked -/
theorem range_end {prog : Program} {w : World} {A : Around} {E : Value → Shared → Prop} {s : Shared} {H : Hp} {it : Addr} {x left step : Int} {Q : Option Value → Shared → Prop} (ok : HOk prog w H s.heap) (hot : HotOk A H) (at_ : IsRangeIter s.heap it x left step) (done : left ≤ 0)
    (q : ∀ h', (∀ b o, b ≠ it → s.heap.get? b = some o → h'.get? b = some o) → Q none { s with heap := h' }) : wpAny (model prog w) A (pyNext (.ref it)) Q E s := by
  rcases hot with cold | ⟨a, C, d, hh, ex⟩
  · exact wpAny_pyNext_range_end cold at_ done fun h' eb => q h' fun b o ne e => eb b o ne e
  · obtain ⟨o, fv, e, z, f⟩ := ex.at_ ok
    exact HotX.pyNext_range_end_hot ⟨hh, o, fv, e, f, z.2.2 fv f⟩ at_ done fun h' keep => q h' fun b o _ e => keep b o e
/-- the reading: Pv holds ahead of each turn -/
def tLcA (A : Around) (ta : TA) (g : TG) (tt : TT) (te : TE) (vs : List Nat) : TE := fun σ H Q => ta σ H fun ws H1 => ∃ n : Nat, ws = [.int n] ∧ (n : Int) < 2 ^ 62 ∧ ∀ D, H1 D = none → ∃ Pv : Nat → Hp → Prop, Pv 0 (upd H1 D (.lst [])) ∧
  (∀ i G, i < n → Pv i G → g (.int i) (wipe σ vs) G fun σ2 G2 => wipe σ2 vs = wipe σ vs ∧ tt σ2 G2 fun b G3 =>
    if b = true then te σ2 G3 fun y G4 => ∃ acc, G4 D = some (.lst acc) ∧ acc.length < sizeLine ∧ Pv (i + 1) (upd G4 D (.lst (acc ++ [y]))) else Pv (i + 1) G3) ∧ ∀ G, Pv n G → HotOk A G ∧ Q (.ref D) G
section
variable {X : Cx}
theorem pe_lcA {elt tg arg : Expr} {ifs : List Expr} {scope : Scope} {own : List (Str × Nat)} {pos p1 p2 : Pos} {ta : TA} {g : TG} {tt : TT} {te : TE} (hN : X.N.Nodup) (hgr : Gl X "range") (hmr : X.mg "range" = none) (ha : PA X [arg] ta) (ok : BlkOk X.N X.env.scope scope own)
    (hg : ∀ (s : Shared) (H : Hp) (C : Addr) (cl : List (Str × Addr)) (fp : List Addr), PG (X.blk s H scope (compEnvC scope cl C X.env) fp) tg g) (ht : ∀ (s : Shared) (H : Hp) (C : Addr) (cl : List (Str × Addr)) (fp : List Addr), PTs (X.blk s H scope (compEnvC scope cl C X.env) fp) ifs tt)
    (he : ∀ (s : Shared) (H : Hp) (C : Addr) (cl : List (Str × Addr)) (fp : List Addr), PE (X.blk s H scope (compEnvC scope cl C X.env) fp) elt te) (hs : ∀ x, foldedSetIterable (.Call (.Name "range" p1) [arg] [] p2) X.env x = pure x := by intro _; rfl)
    (st : starEach [arg] X.env = [(false, eval arg X.env)] := by rfl) : PE X (.ListComp elt [⟨tg, .Call (.Name "range" p1) [arg] [] p2, ifs, 0⟩] scope pos) (tLcA X.A ta g tt te (own.map (·.2))) := by
  refine ⟨fun pins s σ H Q I h => ?_⟩
  rw [eval_ListComp]
  have frees : ∀ y ∈ scope.names, y.2 = .free → ∃ c, X.env.cells.lookup y.1 = some c := fun y hy e => (ok.free y hy e).elim (fun k => I.ok.has _ (.inl k)) fun k => I.ok.has _ (.inr k)
  refine wpAny_comprehension_free (use := none) rfl hs (closure_ok frees) ok.kind (fun y hy e => by rw [ok.uniq y hy, e]) ?_
  refine Call_ (ld_blt I hgr hmr boot_range (PyProof.Rows.callWith_type1 (thn (ha.run p2 pins s σ H _ I h) fun us s1 ⟨ws, H1, I1, r1, n, ew, small, q⟩ => ?_) st rfl))
  subst ew
  cases r1 with
  | cons r rr =>
    cases rr
    obtain ⟨t, rfl⟩ := r
    refine call_range_1 ?_
    refine wpAny_pyIter_range (IsRange.new ..) (small_one (by decide) (by decide) (by omega) small) ?_
    -- the range, its iterator, the new list: all young
    generalize hz : (s1.heap.push { cls := .type "range", data := .fields #[.int 0 s1.toks, .int n t, .int 1 (s1.toks + 1)] }).push { cls := .type "range_iterator", data := .fields #[rawInt 0, rawInt (Builtin.Range.rangeSize 0 n 1), rawInt 1] } = z
    generalize hi : (s1.heap.push { cls := .type "range", data := .fields #[.int 0 s1.toks, .int n t, .int 1 (s1.toks + 1)] }).objs.size = it
    have keepZ : ∀ b o, s1.heap.get? b = some o → z.get? b = some o := fun b o e => by
      rw [← hz]
      exact Heap.get?_push_of_some _ (Heap.get?_push_of_some _ e)
    have old : s1.heap.objs.size ≤ it := by
      rw [← hi, Heap.size_push]
      exact Nat.le_succ _
    have itZ : IsRangeIter z it (0 : Nat) (n : Int) 1 := by
      have e1 : Builtin.Range.rangeSize 0 n 1 = n := by
        rw [rangeSize_one]
        split <;> omega
      show z.get? it = _
      rw [← hz, ← hi, e1]
      exact Heap.get?_push_size _ rfl
    have I2 : Inv X pins σ H1 { s1 with heap := z, toks := s1.toks + 1 + 1 } := I1.kept keepZ
    have fpIt : FpOk X pins H1 it := I1.fpOk old (I1.hok.fresh old)
    refine wpAny_newObj_type (newEnv_comp ?_) (by show 0 ≤ sizeLine; decide)
    generalize hD : z.objs.size = D
    have freeD : H1 D = none := I2.hok.fresh (Nat.le_of_eq hD)
    obtain ⟨Pv, start0, turn, done⟩ := q D freeD
    have itD : it ≠ D := by
      rw [← hD]
      exact Nat.ne_of_lt (Heap.lt_size itZ)
    generalize hs3 : ({ s1 with heap := z.push { cls := .type "list", data := .seq ([] : List Value).toArray }, toks := s1.toks + 1 + 1 } : Shared) = s3
    have heap3 : s3.heap = z.push { cls := .type "list", data := .seq ([] : List Value).toArray } := by rw [← hs3]
    have I3 : Inv X pins σ (upd H1 D (.lst [])) s3 := by
      rw [← hs3]
      refine I2.laid (t' := s1.toks + 1 + 1) (fun b o e => Heap.get?_push_of_some _ e) (Nat.le_of_eq hD) ⟨Nat.zero_le _, [], 0, .nil, ?_⟩
      rw [← hD]
      exact Heap.get?_push_size _ rfl
    have it3 : IsRangeIter s3.heap it (0 : Nat) (n : Int) 1 := by
      rw [heap3]
      exact Heap.get?_push_of_some _ itZ
    have fp3 : ∀ b ∈ [it], FpOk X pins (upd H1 D (.lst [])) b ∧ b < s3.heap.objs.size := fun b hb => by
      obtain rfl : b = it := by simpa using hb
      exact ⟨⟨by rw [upd_ne itD]; exact fpIt.1, fpIt.2⟩, Heap.lt_size it3⟩
    have I4 := block_start I3 ok hN fp3
    have pg := hg s3 (upd H1 D (.lst [])) s3.heap.objs.size (cellsFrom (s3.heap.objs.size + 1) scope.names (cloFrom X.env.cells scope.names [])) [it]
    have pt := ht s3 (upd H1 D (.lst [])) s3.heap.objs.size (cellsFrom (s3.heap.objs.size + 1) scope.names (cloFrom X.env.cells scope.names [])) [it]
    have pe := he s3 (upd H1 D (.lst [])) s3.heap.objs.size (cellsFrom (s3.heap.objs.size + 1) scope.names (cloFrom X.env.cells scope.names [])) [it]
    show codeAny _ _ (.compStart (.ListComp elt [⟨tg, .Call (.Name "range" p1) [arg] [] p2, ifs, 0⟩] scope pos) 0 (.ref it) (.ref D) (compEnvC scope (cellsFrom (s3.heap.objs.size + 1) scope.names (cloFrom X.env.cells scope.names [])) s3.heap.objs.size X.env)) (compPost (model X.prog X.w) X.A X.xe none (EP X pins σ Q) (.ref D) s3.heap.objs.size)
      { s3 with heap := pushCells (s3.heap.push { cls := .type "dict", data := .dict #[] }) scope.names }
    generalize hce : compEnvC scope (cellsFrom (s3.heap.objs.size + 1) scope.names (cloFrom X.env.cells scope.names [])) s3.heap.objs.size X.env = ce at I4 pg pt pe ⊢
    have cL : ce.locals = s3.heap.objs.size := by
      subst hce
      rfl
    generalize hH3 : upd H1 D (.lst []) = H3 at I3 I4 pg pt pe start0 fp3
    generalize hs4 : ({ s3 with heap := pushCells (s3.heap.push { cls := .type "dict", data := .dict #[] }) scope.names } : Shared) = s4 at I4 ⊢
    have it4 : IsRangeIter s4.heap it (0 : Nat) (n : Int) 1 := by
      rw [← hs4]
      exact pushCells_keeps _ _ _ _ (Heap.get?_push_of_some _ it3)
    have young : ∀ {τ : L2.St} {G : Hp} {y : Shared}, Inv (X.blk s3 H3 scope ce [it]) [] τ G y → G it = none → FpOk (X.blk s3 H3 scope ce [it]) [] G it := fun {τ G y} J e =>
      have m : it ∈ (X.blk s3 H3 scope ce [it]).ex := List.mem_singleton.mpr rfl
      ⟨e, (J.ok.exf it m).1, J.ok.exfs it m, .inl m, fun x c l => (J.ok.exf it m).2 x c l, fun p hp => absurd (show p ∈ ([] : List (Addr × Obj)) ++ [] from hp) (by simp)⟩
    have loop : codeAny (model X.prog X.w) X.A (.compLoop (.ListComp elt [⟨tg, .Call (.Name "range" p1) [arg] [] p2, ifs, 0⟩] scope pos) 0 (.ref it) (.ref D) ce) (compPost (model X.prog X.w) X.A X.xe none (EP X pins σ Q) (.ref D) s3.heap.objs.size) s4 := by
      refine compLoop_any (fun m y => ∃ i G, m + i = n ∧ Inv (X.blk s3 H3 scope ce [it]) [] (wipe σ (own.map (·.2))) G y ∧ IsRangeIter y.heap it (i : Nat) ((n : Int) - (i : Nat)) 1 ∧ G it = none ∧ Pv i G) ?_ n ⟨0, H3, by omega, I4, by simpa using it4, (fp3 it (by simp)).1.1, start0⟩
      rintro m s5 ⟨i, H5, em, I5, at5, n5, p5⟩
      by_cases lt : i < n
      · have f5 := young I5 n5
        obtain ⟨f0, f1, f2, f3, f4, f6⟩ := f5
        refine wpAny_pyNext_range_item at5 (by omega) fun h6 at6 sb => ?_
        have I6 : Inv (X.blk s3 H3 scope ce [it]) [] (wipe σ (own.map (·.2))) H5 { s5 with heap := h6, toks := s5.toks + 1 } := I5.turned (fun b o hb e => (sb.2 b hb).trans e) f0 f1 f3 f4 f6
        have at6' : IsRangeIter h6 it ((i + 1 : Nat) : Int) ((n : Int) - ((i + 1 : Nat) : Int)) 1 := by
          have e1 : ((i : Nat) : Int) + 1 = ((i + 1 : Nat) : Int) := by omega
          have e2 : (n : Int) - ((i : Nat) : Int) - 1 = (n : Int) - ((i + 1 : Nat) : Int) := by omega
          show IsRangeIter h6 it ((i + 1 : Nat) : Int) ((n : Int) - ((i + 1 : Nat) : Int)) 1
          rw [← e2, ← e1]
          exact at6
        refine go_of (s := { s5 with heap := h6, toks := s5.toks + 1 }) (n := "range_iterator") at6' rfl rfl (by decide) ?_
        have I7 := I6.pins_of (pins' := [(it, _)]) fun p hp => by
          obtain rfl : p = (it, _) := by simpa using hp
          exact ⟨at6', n5, f1, f2, fun v e => by cases e⟩
        refine thnF (pg.run _ _ _ H5 (.int i) _ _ I7 ⟨s5.toks, rfl⟩ (turn i H5 lt p5)) fun _ s8 ⟨σ8, H8, I8, hw8, q8⟩ => ?_
        refine thnF (pt.run _ s8 σ8 H8 _ I8 q8) fun b s9 ⟨H9, I9, q9⟩ => ?_
        have fin : ∀ {y : Shared} {G : Hp}, Inv (X.blk s3 H3 scope ce [it]) [(it, _)] σ8 G y → Pv (i + 1) G → ∃ m', m' < m ∧ ∃ i G, m' + i = n ∧ Inv (X.blk s3 H3 scope ce [it]) [] (wipe σ (own.map (·.2))) G y ∧ IsRangeIter y.heap it (i : Nat) ((n : Int) - (i : Nat)) 1 ∧ G it = none ∧ Pv i G := fun {y G} J nx => by
          have pinned := J.pin (it, _) (List.mem_append_right _ (List.mem_singleton.mpr rfl))
          have len : (wipe σ (own.map (·.2))).length = σ8.length := by rw [← hw8, wipe_length]
          refine ⟨m - 1, by omega, i + 1, G, by omega, ?_, pinned.1, pinned.2.1, nx⟩
          have J' : Inv (X.blk s3 H3 scope ce [it]) [] σ8 G y := ⟨J.ok, J.os, J.bare, J.base, J.loc, J.cell, J.free, J.freeC, fun p hp => absurd (show p ∈ ([] : List (Addr × Obj)) ++ [] from hp) (by simp), J.hok, J.len⟩
          refine J'.weak len fun j v e => ?_
          rw [← hw8] at e
          exact (wipe_some e).1
        cases b with
        | false =>
          rw [if_neg (by decide)] at q9 ⊢
          exact fin I9 q9
        | true =>
          rw [if_pos rfl] at q9 ⊢
          refine thnF (pe.run _ s9 σ8 H9 _ I9 q9) fun v s10 ⟨y, H10, I10, r10, acc, hD, few, nx⟩ => ?_
          exact app_ok (X := X.blk s3 H3 scope ce [it]) I10 hD few r10 fun s11 I11 => fin I11 nx
      · have ei : i = n := by omega
        subst ei
        obtain ⟨hot, qq⟩ := done H5 p5
        obtain ⟨f0, f1, f2, f3, f4, f6⟩ := young I5 n5
        refine range_end I5.hok (show HotOk X.A H5 from hot) at5 (by omega) fun h6 keep => ?_
        have I6 : Inv (X.blk s3 H3 scope ce [it]) [] (wipe σ (own.map (·.2))) H5 { s5 with heap := h6 } := I5.turned (t' := s5.toks) (fun b o hb e => keep b o hb e) f0 f1 f3 f4 f6
        have back : Inv X pins σ H5 { s5 with heap := h6 } := I3.call' (ch := [it]) I6.os I6.base I6.hok I6.bare fun b hb => by
          have f := (fp3 b hb).1
          exact ⟨f.2.2.2.1, f.2.1, f.2.2.2.2.1, f.2.2.2.2.2⟩
        have nC : H5 s3.heap.objs.size = none := by
          rw [← cL]
          exact I6.free
        obtain ⟨mm, hn, _⟩ := I6.loc
        have hn : h6.Ns ce.locals mm := hn
        rw [cL] at hn
        obtain ⟨c0, c1, c2, c3, c4, c5⟩ := I3.fpOk (Nat.le_refl _) nC
        exact ⟨mm, hn, fun h7 sb => ⟨.ref D, H5, back.turned (t' := s5.toks) (fun b o hb e => (sb.2 b hb).trans e) c0 c1 c3 c4 c5, rfl, qq⟩⟩
    exact codeAny_compStart_list loop (wpAny_pyIter_rangeiter it4 loop)
end
end Eld
set_option Elab.async false
set_option maxRecDepth 100000
set_option maxHeartbeats 4000000
set_option linter.all false
namespace Eld
open PySem PySem.Spec PyProof.Rows L2
/-! ## try, where what is caught is a value that may be passed on; clauses of four classes -/
inductive Knd where
  | bare (c : Value) (ts : TS)
  | tup (c1 c2 c3 c4 : Value) (ts : TS)
  | trk (c : Value) (i : Nat) (ts : Addr → TS)
def wX (K : PySem.W.Frag) (Wo : WX) (D : Ends) : List Knd → WX
  | [] => Wo
  | .bare c ts :: r => fun cls d τ G => ∃ b, PySem.W.exmOne K cls c = some b ∧ (b = true → ts D τ G) ∧ (b = false → wX K Wo D r cls d τ G)
  | .tup c1 c2 c3 c4 ts :: r => fun cls d τ G => ∃ b, PySem.W.exmAny K cls [c1, c2, c3, c4] = some b ∧ (b = true → ts D τ G) ∧ (b = false → wX K Wo D r cls d τ G)
  | .trk c i ts :: r => fun cls d τ G => ∃ b, PySem.W.exmOne K cls c = some b ∧ (b = true → ∀ e, G e = none → ∃ C, cls = .ref C ∧ ts e (clr (some i) D) (nam (some i) e τ) (upd G e (Ex e C d))) ∧ (b = false → wX K Wo D r cls d τ G)
inductive HdsX (X : Cx) : List ExceptHandler → List Knd → Prop
  | nil : HdsX X [] []
  | bare {x : Str} {c : Value} {ts : TS} {b0 : Stmt} {su : List Stmt} {p1 p2 : Pos} {hs : List ExceptHandler} {l : List Knd} (hc : Names X x c) (h : ∀ (e : Addr) (pn : List (Addr × Obj)), PSs (X.suite e pn) (b0 :: su) ts) (r : HdsX X hs l) :
      HdsX X (.ExceptHandler (some (.Name x p1)) none (b0 :: su) p2 :: hs) (.bare c ts :: l)
  | tup {x1 x2 x3 x4 : Str} {c1 c2 c3 c4 : Value} {ts : TS} {b0 : Stmt} {su : List Stmt} {q1 q2 q3 q4 p1 p2 : Pos} {kk : Nat} {hs : List ExceptHandler} {l : List Knd} (h1 : Names X x1 c1) (h2 : Names X x2 c2) (h3 : Names X x3 c3) (h4 : Names X x4 c4)
      (h : ∀ (e : Addr) (pn : List (Addr × Obj)), PSs (X.suite e pn) (b0 :: su) ts) (r : HdsX X hs l) : HdsX X (.ExceptHandler (some (.Tuple [.Name x1 q1, .Name x2 q2, .Name x3 q3, .Name x4 q4] kk p1)) none (b0 :: su) p2 :: hs) (.tup c1 c2 c3 c4 ts :: l)
  | trk {x n : Str} {c : Value} {i : Nat} {ts : Addr → TS} {b0 : Stmt} {su : List Stmt} {p1 p2 : Pos} {hs : List ExceptHandler} {l : List Knd} (hN : X.N.Nodup) (hi : X.N[i]? = some n) (hl : X.env.kindOf n = some .local) (hc : Names X x c)
      (h : ∀ (e : Addr) (pn : List (Addr × Obj)), PSs (X.suite e pn) (b0 :: su) (ts e)) (r : HdsX X hs l) : HdsX X (.ExceptHandler (some (.Name x p1)) (some n) (b0 :: su) p2 :: hs) (.trk c i ts :: l)
theorem flying_more {B h h' : Heap} {l : List Env} {e : Addr} {Z : Obj → Prop} (f : HandSPX.FlyingZ B l e Z h) (k : ∀ b o, h.get? b = some o → h'.get? b = some o) : HandSPX.FlyingZ B l e Z h' := by
  obtain ⟨k1, k2, k3, oe, vs, T, oT, ts, e1, z, d1, v1, n1, ne, e2, d2, t3⟩ := f
  exact ⟨fun b o q => k b o (k1 b o q), k2, Heap.FunFrames.of_keeps (fun b o q _ => ⟨o, k b o q, rfl⟩) k3, oe, vs, T, oT, ts, k _ _ e1, z, d1, v1, n1, ne, k _ _ e2, d2, t3⟩
section
variable {X : Cx} {pins : List (Addr × Obj)} {σ : L2.St} {H : Hp} {s : Shared}
theorem inSuite (I : Inv X pins σ H s) (e : Addr) : Inv (X.suite e (X.pn ++ pins)) [] σ H s :=
  ⟨I.ok.suite _ _, I.os, I.bare, I.base, I.loc, I.cell, I.free, I.freeC, fun p hp => I.pin p (by rw [List.append_nil] at hp; exact hp), I.hok, I.len⟩
theorem outSuite {e : Addr} {pn' : List (Addr × Obj)} (I : Inv (X.suite e (X.pn ++ pins)) pn' σ H s) (ok : X.Ok) : Inv X pins σ H s :=
  ⟨ok, I.os, I.bare, I.base, I.loc, I.cell, I.free, I.freeC, fun p hp => I.pin p (List.mem_append_left _ hp), I.hok, I.len⟩
/-- an object of this frame that was not tracked is tracked from now on -/
theorem trackE {e C : Addr} {d : Option Addr} {o : Obj} {fv : Array Value} (I : Inv X pins σ H s) (at_ : s.heap.get? e = some o) (z : L2N.Zn (.ref C) d o) (f : o.data = .fields fv) (na : H e = none) (nL : e ≠ X.env.locals) (young : X.s_0.heap.get? e = none) (np : ∀ p ∈ X.pn ++ pins, p.1 ≠ e) :
    Inv X pins σ (upd H e (Ex e C d)) s := by
  have cell : ∀ x c, X.env.cells.lookup x = some c → c ≠ e := fun x c l q => by
    obtain ⟨v, o', e', d'⟩ := I.cell x c l
    rw [q, at_] at e'
    cases e'
    rw [f] at d'
    cases d'
  refine ⟨I.ok, I.os, I.bare, ⟨I.base.keep, I.base.slot, fun b o' q n x => ?_, I.base.there, fun b xs q => ?_, fun b o' u q => ?_, fun b ps q => ?_⟩, I.loc, I.cell, ?_, fun x c l => ?_, fun p hp => ?_, ?_, I.len⟩
  · rw [upd_ne (fun q' => by rw [q', young] at q; cases q)]
    exact I.base.free b o' q n x
  · rw [upd_ne (ne_of_none (I.base.tups b xs q) na)]
    exact I.base.tups b xs q
  · rw [upd_ne (ne_of_none (I.base.frzs b o' u q) na)]
    exact I.base.frzs b o' u q
  · obtain ⟨m, q'⟩ := I.base.tbls b ps q
    exact ⟨m, by rw [upd_ne (ne_of_none q' na)]; exact q'⟩
  · rw [upd_ne (Ne.symm nL)]
    exact I.free
  · rw [upd_ne (cell x c l)]
    exact I.freeC x c l
  · obtain ⟨a1, a2, a3⟩ := I.pin p hp
    exact ⟨a1, by rw [upd_ne (np p hp)]; exact a2, a3⟩
  · exact I.hok.laidN (fun _ _ q => q) na (ex_ok at_ z f)
end
section
variable {X : Cx} {body : List Stmt} {h0 : ExceptHandler} {hds : List ExceptHandler} {l : List Knd} {pos : Pos} {tb : WX → TS} {Wo : WX}
theorem ps_try_x (hex : X.ex = []) (st : X.stack = X.env :: X.outer) (fr : X.env.frame = some X.env.locals) (tk : L2N.Takes X Wo)
    (bo : ∀ (W : WX) (pn : List (Addr × Obj)) (xe : Value → Shared → Prop), L2N.Takes (X.tr pn xe) W → PassesOwn (model X.prog X.w) X.A X.env xe → PSs (X.tr pn xe) body (tb W))
    (hh : HdsX X (h0 :: hds) l) : PS X (.Try body (h0 :: hds) [] [] pos) (fun D σ H => tb (wX X.K Wo D l) D σ H) := by
  constructor
  intro pins s σ H D I q
  have ok := I.ok
  have frs_ : X.A.frames = some (X.env :: X.outer) := st ▸ ok.frames
  let out : Value → Shared → Prop := fun u t => wpAny (model X.prog X.w) X.A (noteFrame u X.env) (fun _ t2 => wpAny (model X.prog X.w) X.A (setFlight u none) (fun _ t3 => wpAny (model X.prog X.w) X.A (handleBy u X.env (h0 :: hds)) (SP X pins D) X.xe t3) X.xe t2) X.xe t
  have tko : L2N.Takes (X.tr (X.pn ++ pins) out) (wX X.K Wo D l) := by
    rintro u t ⟨e, BB, s0, pins', τ, G, cls, d, rfl, J0, nb, up, sky, na, os, ag, w⟩
    have J : Inv X pins τ G s0 := J0.ofTry ok
    have sk2 : Sky BB (X.env :: X.outer) e (L2N.Zn cls d) X.env.locals t.heap := st ▸ sky
    refine L2N.Sky.land L2N.Zn.steady frs_ fr sk2 ?_
    intro g3 f3 u3
    have offB : BB.get? e = none := f3.2.1
    have notF : ∀ {g : Heap} {o : Obj} {v : Array Value}, HandSPX.FlyingZ BB (X.env :: X.outer) e (L2N.Zn cls d) g → g.get? e = some o → o.data = .fields v → e ∉ frs (X.env :: X.outer) := by
      intro g o v fg eg dg hm
      obtain ⟨_, o', e', hnf⟩ := fg.2.2.1.mem hm
      rw [eg] at e'
      cases e'
      exact hnf _ dg
    obtain ⟨o3, v3, e3, z3, d3⟩ := f3.there
    have off := notF f3 e3 d3
    have nL : e ≠ X.env.locals := by
      intro z
      exact off (List.mem_filterMap.mpr ⟨X.env, List.mem_cons_self, z ▸ fr⟩)
    have goneI : s0.heap.get? e = none := by
      cases q0 : s0.heap.get? e with
      | none => rfl
      | some o =>
        have z := nb e o q0 (st ▸ off)
        rw [offB] at z
        cases z
    have young : X.s_0.heap.get? e = none := by
      cases q0 : X.s_0.heap.get? e with
      | none => rfl
      | some o =>
        obtain ⟨o', z⟩ := J.base.there e o q0 (by rw [hex]; simp)
        rw [goneI] at z
        cases z
    have np : ∀ p ∈ X.pn ++ pins, p.1 ≠ e := fun p hp z => by
      have k := (J.pin p hp).1
      rw [z, goneI] at k
      cases k
    have all : ∀ (hs' : List ExceptHandler) (l' : List Knd), HdsX X hs' l' → ∀ g, HandSPX.FlyingZ BB (X.env :: X.outer) e (L2N.Zn cls d) g → t.heap.UpToSlots g → wX X.K Wo D l' cls d τ G →
        wpAny (model X.prog X.w) X.A (handleBy (.ref e) X.env hs') (SP X pins D) X.xe { t with heap := g } := by
      intro hs' l' hk
      induction hk with
      | nil =>
        intro g fg ug w
        refine wpAny_handleBy_nil ?_
        obtain ⟨_, _, _, oe, vs, T, _, _, he, _, hd, h1, _⟩ := id fg
        unfold PySem.passOn
        refine wpAny_bind (wpAny_field he hd h1 ?_)
        rw [if_neg (show ¬ ((Value.ref T == Value.none) = true) by simp)]
        have last : wpAny (model X.prog X.w) X.A (setFlight (.ref e) X.env.frame) (fun _ t4 => wpAny (model X.prog X.w) X.A (throw (.ref e) : Sem Flow) (SP X pins D) X.xe t4) X.xe { t with heap := g } := by
          rw [fr]
          refine HandSPX.setFlight_upZ fg ?_
          intro g4 f4 u4
          refine wpAny_throw (tk _ _ ?_)
          exact ⟨e, BB, s0, pins, τ, G, cls, d, rfl, J, nb, (up.trans ug).trans u4, .inr (.inr (st ▸ f4)), na, os, ag, w⟩
        first | exact wpAny_bind (wpAny_pure (wpAny_bind last)) | exact wpAny_bind last
      | @bare x c ts b0 su p1 p2 hs2 l2 hc hsu r ih =>
        rintro g fg ug ⟨b, hb1, yes, no⟩
        have Jg : Inv X pins τ G { t with heap := g } := J.landed nb fg.1 (up.trans ug) os ag
        obtain ⟨o4, v4, e4, z4, d4⟩ := fg.there
        have LT : PySem.W.Looks (model X.prog X.w) g (typeOf (.ref e)) cls := fun A Q E s k q => wpAny_typeOf_ref (k _ _ e4) (by rw [z4.1]; exact q)
        have LM := PySem.W.exm_one (M := model X.prog X.w) Jg.kIn LT hb1
        refine wpAny_handleBy_cons (codeAny_handlers_test ?_) (by intro q; cases q)
        have next : ∀ {Q E : Value → Shared → Prop}, Q c { t with heap := g } → wpAny (model X.prog X.w) (X.A.mark (some (.ref e))) (eval (.Name x p1) X.env) Q E { t with heap := g } := by
          intro Q E q
          obtain ⟨hg, hdbg, hm | ⟨hm, hv, hnn⟩⟩ := hc
          · exact ld_glob (X := X.suite e (X.pn ++ pins)) (inSuite Jg e) hg hm q hdbg
          · exact ld_blt (X := X.suite e (X.pn ++ pins)) (inSuite Jg e) hg hm hv q hnn hdbg
        refine next (LM.here ?_)
        cases b with
        | false => exact ih g fg ug (no rfl)
        | true =>
          refine codeAny_handlers_suite (HandSPX.lands_againZ fg ?_)
          intro g5 f5 u5
          have J5 : Inv X pins τ G { t with heap := g5 } := J.landed nb f5.1 ((up.trans ug).trans u5) os ag
          refine wpAny_mono ((hsu e (X.pn ++ pins)).run [] _ _ G _ (inSuite J5 e) (yes rfl)) ?_ (fun _ _ z => False.elim z)
          intro fl t6 hq
          cases fl with
          | next => exact let ⟨τ6, G6, S6, q6⟩ := hq; ⟨τ6, G6, (outSuite S6 ok), q6⟩
          | brk => exact let ⟨τ6, G6, S6, q6⟩ := hq; ⟨τ6, G6, (outSuite S6 ok), q6⟩
          | cont => exact let ⟨τ6, G6, S6, q6⟩ := hq; ⟨τ6, G6, (outSuite S6 ok), q6⟩
          | ret u => exact let ⟨x6, τ6, G6, S6, r6, q6⟩ := hq; ⟨x6, τ6, G6, (outSuite S6 ok), r6, q6⟩
      | @tup x1 x2 x3 x4 c1 c2 c3 c4 ts b0 su q1 q2 q3 q4 p1 p2 kk hs2 l2 h1 h2 h3 h4 hsu r ih =>
        rintro g fg ug ⟨b, hb1, yes, no⟩
        have Jg : Inv X pins τ G { t with heap := g } := J.landed nb fg.1 (up.trans ug) os ag
        have more : ∀ b o, g.get? b = some o → (g.push { cls := .type "tuple", data := .seq [c1, c2, c3, c4].toArray }).get? b = some o := fun _ _ z => Heap.get?_push_of_some _ z
        have fp := flying_more fg more
        have ugp := ug.trans (Heap.UpToSlots.of_keeps more)
        have Jp : Inv X pins τ G { t with heap := g.push { cls := .type "tuple", data := .seq [c1, c2, c3, c4].toArray } } := J.landed nb fp.1 (up.trans ugp) os ag
        obtain ⟨o4, v4, e4, z4, d4⟩ := fp.there
        have LT : PySem.W.Looks (model X.prog X.w) (g.push { cls := .type "tuple", data := .seq [c1, c2, c3, c4].toArray }) (typeOf (.ref e)) cls := fun A Q E s k q => wpAny_typeOf_ref (k _ _ e4) (by rw [z4.1]; exact q)
        have LM := PySem.W.exm_tup4 (M := model X.prog X.w) Jp.kIn LT (Heap.get?_push_size g rfl) hb1
        refine wpAny_handleBy_cons (codeAny_handlers_test ?_) (by intro q; cases q)
        have next : ∀ {x : Str} {c : Value} {p1 : Pos}, Names X x c → ∀ {Q E : Value → Shared → Prop}, Q c { t with heap := g } → wpAny (model X.prog X.w) (X.A.mark (some (.ref e))) (eval (.Name x p1) X.env) Q E { t with heap := g } := by
          rintro x c p1 ⟨hg, hdbg, hm | ⟨hm, hv, hnn⟩⟩ Q E q
          · exact ld_glob (X := X.suite e (X.pn ++ pins)) (inSuite Jg e) hg hm q hdbg
          · exact ld_blt (X := X.suite e (X.pn ++ pins)) (inSuite Jg e) hg hm hv q hnn hdbg
        refine wpAny_Tuple ?_
        refine wpAny_items_cons (next h1 ?_)
        refine wpAny_items_cons (next h2 ?_)
        refine wpAny_items_cons (next h3 ?_)
        refine wpAny_items_cons (next h4 ?_)
        refine wpAny_items_nil ⟨by size_fits, ?_⟩
        refine LM.here ?_
        cases b with
        | false => exact ih _ fp ugp (no rfl)
        | true =>
          refine codeAny_handlers_suite (HandSPX.lands_againZ fp ?_)
          intro g5 f5 u5
          have J5 : Inv X pins τ G { t with heap := g5 } := J.landed nb f5.1 ((up.trans ugp).trans u5) os ag
          refine wpAny_mono ((hsu e (X.pn ++ pins)).run [] _ _ G _ (inSuite J5 e) (yes rfl)) ?_ (fun _ _ z => False.elim z)
          intro fl t6 hq
          cases fl with
          | next => exact let ⟨τ6, G6, S6, q6⟩ := hq; ⟨τ6, G6, (outSuite S6 ok), q6⟩
          | brk => exact let ⟨τ6, G6, S6, q6⟩ := hq; ⟨τ6, G6, (outSuite S6 ok), q6⟩
          | cont => exact let ⟨τ6, G6, S6, q6⟩ := hq; ⟨τ6, G6, (outSuite S6 ok), q6⟩
          | ret u => exact let ⟨x6, τ6, G6, S6, r6, q6⟩ := hq; ⟨x6, τ6, G6, (outSuite S6 ok), r6, q6⟩
      | @trk x n c i ts b0 su p1 p2 hs2 l2 hN hi hl hc hsu r ih =>
        rintro g fg ug ⟨b, hb1, yes, no⟩
        have Jg : Inv X pins τ G { t with heap := g } := J.landed nb fg.1 (up.trans ug) os ag
        obtain ⟨o4, v4, e4, z4, d4⟩ := fg.there
        have LT : PySem.W.Looks (model X.prog X.w) g (typeOf (.ref e)) cls := fun A Q E s k q => wpAny_typeOf_ref (k _ _ e4) (by rw [z4.1]; exact q)
        have LM := PySem.W.exm_one (M := model X.prog X.w) Jg.kIn LT hb1
        refine wpAny_handleBy_cons (codeAny_handlers_test ?_) (by intro q; cases q)
        have next : ∀ {Q E : Value → Shared → Prop}, Q c { t with heap := g } → wpAny (model X.prog X.w) (X.A.mark (some (.ref e))) (eval (.Name x p1) X.env) Q E { t with heap := g } := by
          intro Q E q
          obtain ⟨hg, hdbg, hm | ⟨hm, hv, hnn⟩⟩ := hc
          · exact ld_glob (X := X.suite e (X.pn ++ pins)) (inSuite Jg e) hg hm q hdbg
          · exact ld_blt (X := X.suite e (X.pn ++ pins)) (inSuite Jg e) hg hm hv q hnn hdbg
        refine next (LM.here ?_)
        cases b with
        | false => exact ih g fg ug (no rfl)
        | true =>
          refine codeAny_handlers_suite_as (HandSPX.lands_againZ fg ?_)
          intro g5 f5 u5
          have J5 : Inv X pins τ G { t with heap := g5 } := J.landed nb f5.1 ((up.trans ug).trans u5) os ag
          obtain ⟨o5, v5, e5, z5, d5⟩ := f5.there
          obtain ⟨C, ec, want⟩ := yes rfl e na
          subst ec
          have K5 := trackE J5 e5 z5 d5 na nL young np
          refine store_ok (X := X.suite e (X.pn ++ pins)) (v := .ref e) (inSuite K5 e) hN hi (.inl hl) rfl ?_ (.inr hl)
          intro t5 S5
          refine wpAny_mono ((hsu e (X.pn ++ pins)).run [] t5 _ _ _ S5 want) ?_ (fun _ _ z => False.elim z)
          intro fl t6 hq
          have gone : ∀ {τ6 : L2.St} {G6 : Hp} {Q : Shared → Prop}, Inv (X.suite e (X.pn ++ pins)) [] τ6 G6 t6 → (∀ t7, Inv X pins (τ6.set i none) G6 t7 → Q t7) →
              wpAny (model X.prog X.w) X.A (do bindName X.env n .none; unbindBehindTheSuite X.env n p2) (fun _ t7 => Q t7) X.xe t6 := by
            intro τ6 G6 Q S6 hq
            exact gone_ok (outSuite S6 ok) hN hi hl hq
          cases fl with
          | next =>
            obtain ⟨_, _, S6, q6⟩ := hq
            exact gone S6 fun t7 J7 => ⟨_, _, J7, q6⟩
          | brk =>
            obtain ⟨_, _, S6, q6⟩ := hq
            exact gone S6 fun t7 J7 => ⟨_, _, J7, q6⟩
          | cont =>
            obtain ⟨_, _, S6, q6⟩ := hq
            exact gone S6 fun t7 J7 => ⟨_, _, J7, q6⟩
          | ret u =>
            obtain ⟨_, _, _, S6, r6, q6⟩ := hq
            exact gone S6 fun t7 J7 => ⟨_, _, _, J7, r6, q6⟩
    exact all _ _ hh _ f3 u3 w
  refine wpAny_Try_except (wpAny_mono ((bo _ (X.pn ++ pins) out tko PassesOwn.looking).run [] s σ H D (I.toTry _) q) ?_ (fun _ _ h => h))
  intro fl t1 hq
  cases fl with
  | next => exact let ⟨τ, G, J, q⟩ := hq; wpAny_execs_nil ⟨τ, G, J.ofTry ok, q⟩
  | brk => exact let ⟨τ, G, J, q⟩ := hq; ⟨τ, G, J.ofTry ok, q⟩
  | cont => exact let ⟨τ, G, J, q⟩ := hq; ⟨τ, G, J.ofTry ok, q⟩
  | ret u => exact let ⟨x, τ, G, J, r, q⟩ := hq; ⟨x, τ, G, J.ofTry ok, r, q⟩
end
end Eld
set_option Elab.async false
set_option maxRecDepth 100000
set_option maxHeartbeats 4000000
set_option linter.all false
namespace Eld
open PySem PySem.Spec PyProof.Rows L2
/-! ## data with empty dicts and dicts of one text in it -/
mutual
inductive Dy (K : PySem.W.Frag) (H : Hp) : V → PyData → Prop
  | non : Dy K H .non .none
  | bl (b : Bool) : Dy K H (.bl b) (.bool b)
  | int (i : Int) : Dy K H (.int i) (.int i)
  | str (x : Str) : Dy K H (.str x) (.str x)
  | lst {a : Addr} {xs : List V} {ds : List PyData} (h : H a = some (.lst xs)) (r : DyAll K H xs ds) : Dy K H (.ref a) (.list ds)
  | tup {a : Addr} {xs : List V} {ds : List PyData} (h : H a = some (.tup xs)) (r : DyAll K H xs ds) : Dy K H (.ref a) (.tuple ds)
  | emp {a : Addr} (h : H a = some (.dK [])) : Dy K H (.ref a) (.dict [])
  | one {a : Addr} {x : Str} {v : V} {d : PyData} (h : H a = some (.dK [(.inr x, v)])) (r : Dy K H v d) : Dy K H (.ref a) (.dict [(.str x, d)])
inductive DyAll (K : PySem.W.Frag) (H : Hp) : List V → List PyData → Prop
  | nil : DyAll K H [] []
  | cons {v : V} {vs : List V} {d : PyData} {ds : List PyData} (h : Dy K H v d) (r : DyAll K H vs ds) : DyAll K H (v :: vs) (d :: ds)
end
section
variable {K : PySem.W.Frag} {H H' : Hp}
mutual
theorem Dy.same (s : Same H H') : ∀ (d : PyData) (v : V), Dy K H v d → Dy K H' v d
  | .none, _, h => by cases h; exact .non
  | .bool b, _, h => by cases h; exact .bl b
  | .int i, _, h => by cases h; exact .int i
  | .str x, _, h => by cases h; exact .str x
  | .list ds, _, h => by
    cases h with
    | lst e r => exact .lst (s _ _ e) (DyAll.same s ds _ r)
  | .tuple ds, _, h => by
    cases h with
    | tup e r => exact .tup (s _ _ e) (DyAll.same s ds _ r)
  | .dict [], _, h => by
    cases h with
    | emp e => exact .emp (s _ _ e)
  | .dict [(.str x, d)], _, h => by
    cases h with
    | one e r => exact .one (s _ _ e) (Dy.same s d _ r)
  | .dict (_ :: _ :: _), _, h => by cases h
  | .dict [(.none, _)], _, h => by cases h
  | .dict [(.bool _, _)], _, h => by cases h
  | .dict [(.int _, _)], _, h => by cases h
  | .dict [(.list _, _)], _, h => by cases h
  | .dict [(.tuple _, _)], _, h => by cases h
  | .dict [(.dict _, _)], _, h => by cases h
theorem DyAll.same (s : Same H H') : ∀ (ds : List PyData) (vs : List V), DyAll K H vs ds → DyAll K H' vs ds
  | [], _, h => by cases h; exact .nil
  | d :: ds, _, h => by
    cases h with
    | cons h r => exact .cons (Dy.same s d _ h) (DyAll.same s ds _ r)
end
theorem DyAll.length : ∀ {vs : List V} {ds : List PyData}, DyAll K H vs ds → vs.length = ds.length
  | _, _, .nil => rfl
  | _, _, .cons _ r => by rw [List.length_cons, List.length_cons, DyAll.length r]
theorem DyAll.at_ : ∀ {vs : List V} {ds : List PyData} {i : Nat} {v : V}, DyAll K H vs ds → vs[i]? = some v → ∃ d, ds[i]? = some d ∧ Dy K H v d
  | _, _, _, _, .nil, e => by simp at e
  | _, _, 0, _, .cons h _, e => by cases e; exact ⟨_, rfl, h⟩
  | _, _, i + 1, _, .cons _ r, e => DyAll.at_ (i := i) r (by simpa using e)
end
section
variable {X : Cx} {pins : List (Addr × Obj)} {σ : L2.St} {H : Hp} {s : Shared}
mutual
theorem Dy.reads (I : Inv X pins σ H s) (m : ModsD X.base) : ∀ (d : PyData) (v : V) (u : Value), Dy X.K H v d → RelV v u → ∃ as, Reads s.heap u d as ∧ sysModules ∉ as
  | .none, _, _, h, r => by
    cases h
    cases r
    exact ⟨_, .none, by simp⟩
  | .bool b, _, _, h, r => by
    cases h
    cases r
    exact ⟨_, .bool b, by simp⟩
  | .int i, _, _, h, r => by
    cases h
    obtain ⟨t, rfl⟩ := r
    exact ⟨_, .int i t, by simp⟩
  | .str x, _, _, h, r => by
    cases h
    obtain ⟨t, rfl⟩ := r
    exact ⟨_, .str x t, by simp⟩
  | .list ds, _, _, h, r => by
    cases h with
    | lst e ra =>
      cases r
      obtain ⟨its, rv, ⟨o, n, ho, hc, _, hd⟩, _⟩ := I.list (SqL.of e)
      obtain ⟨as, hr, hn⟩ := DyAll.reads I m ds _ its ra rv
      refine ⟨_, .list ho hc hd hr, ?_⟩
      simp only [List.mem_cons, not_or]
      exact ⟨fun z => not_mods I m e z.symm, hn⟩
  | .tuple ds, _, _, h, r => by
    cases h with
    | tup e ra =>
      cases r
      obtain ⟨its, rv, ⟨o, ho, hc, n, hd⟩, _⟩ := I.tuple (SqT.of e)
      obtain ⟨as, hr, hn⟩ := DyAll.reads I m ds _ its ra rv
      exact ⟨_, .tuple ho hc hd hr, hn⟩
  | .dict (_ :: _ :: _), _, _, h, _ => by cases h
  | .dict [(.none, _)], _, _, h, _ => by cases h
  | .dict [(.bool _, _)], _, _, h, _ => by cases h
  | .dict [(.int _, _)], _, _, h, _ => by cases h
  | .dict [(.list _, _)], _, _, h, _ => by cases h
  | .dict [(.tuple _, _)], _, _, h, _ => by cases h
  | .dict [(.dict _, _)], _, _, h, _ => by cases h
  | .dict [(.str x, d)], _, _, h, r => by
    cases h with
    | @one a _ v _ e rd =>
      cases r
      obtain ⟨_, ns, vs, kv, o, es, ep, ho, ex, hd, _, pr, _⟩ := (show ObjOk X.prog X.w H s.heap a (.dK [(.inr x, v)]) from I.hok a _ e)
      cases kv with
      | @cons _ q _ _ p0 pt =>
        cases pt
        obtain ⟨q1, q2⟩ := q
        obtain ⟨k0, r0⟩ := p0
        obtain ⟨as, rd', nm⟩ := Dy.reads I m d v q2 rd r0
        have k0 : Sum.inr x = q1 := k0
        subst k0
        cases hl : es.toList with
        | nil =>
          rw [hl] at pr
          cases pr
        | cons en rest =>
          rw [hl] at pr
          cases pr with
          | cons is_ val tl =>
            cases tl
            obtain ⟨t, ek⟩ := Value.isStrOf_shape (x := x) (v := en.key) (show keyIs (.inr x) en.key = true from is_)
            refine ⟨_, .dict (as := [] ++ []) (bs := as ++ []) ho ex.1 hd (by rw [hl]; exact .cons (by show Reads s.heap en.key (.str x) []; rw [ek]; exact .str x t) .nil) (by rw [hl]; exact .cons (by show Reads s.heap en.val d as; rw [show en.val = q2 from val]; exact rd') .nil), ?_⟩
            simp only [List.nil_append, List.append_nil]
            intro z
            rcases List.mem_append.mp z with z | z
            · rw [← List.mem_singleton.mp z] at ns
              simp at ns
            · exact nm z
  | .dict [], _, _, h, r => by
    cases h with
    | @emp a e =>
      cases r
      obtain ⟨_, ns, vs, kv, o, es, ep, ho, ex, hd, _, pr, _⟩ := (show ObjOk X.prog X.w H s.heap a (.dK []) from I.hok a _ e)
      cases kv
      have el : es.toList = [] := by
        cases h2 : es.toList with
        | nil => rfl
        | cons z zs => rw [h2] at pr; cases pr
      refine ⟨_, .dict (as := []) (bs := []) ho ex.1 hd (by rw [el]; exact .nil) (by rw [el]; exact .nil), ?_⟩
      simp only [List.nil_append, List.append_nil, List.mem_singleton]
      intro z
      rw [z] at ns
      simp at ns
theorem DyAll.reads (I : Inv X pins σ H s) (m : ModsD X.base) : ∀ (ds : List PyData) (vs : List V) (us : List Value), DyAll X.K H vs ds → Vals vs us → ∃ as, ReadsAll s.heap us ds as ∧ sysModules ∉ as
  | [], _, _, h, r => by
    cases h
    cases r
    exact ⟨_, .nil, by simp⟩
  | d :: ds, _, _, h, r => by
    cases h with
    | cons h1 h2 =>
      cases r with
      | cons r1 r2 =>
        obtain ⟨as, q1, n1⟩ := Dy.reads I m d _ _ h1 r1
        obtain ⟨bs, q2, n2⟩ := DyAll.reads I m ds _ _ h2 r2
        refine ⟨_, .cons q1 q2, ?_⟩
        simp only [List.mem_append, not_or]
        exact ⟨n1, n2⟩
end
/-- repr(v) of such data -/
def rReprY (K : PySem.W.Frag) : List V → Hp → VK → Prop := fun xs H Q => ∃ v d, xs = [v] ∧ Dy K H v d ∧ d.showable = true ∧ d.depth ≤ 60 ∧ d.shown.length ≤ sizeLine ∧ (∀ i, d = .int i → i.natAbs.log2 < 1920) ∧ Q (.str d.shown) H
theorem call_reprY (m : ModsD X.base) (hG : X.A.guards = some []) (hu : X.A.units + 64 < cLine) : CallR X (.builtin "repr") (rReprY X.K) := by
  rintro pins s σ H xs us Q I r ⟨v, d, rfl, dx, sh, dd, sz, si, q⟩
  obtain ⟨u, rfl, ru⟩ := vals1 r
  have addr : ∀ a, v = .ref a → wpAny (model X.prog X.w) X.A (call (.builtin "repr") [u]) (EP X pins σ Q) X.xe s := by
    rintro a rfl
    obtain ⟨as, rd, nm⟩ := Dy.reads I m d _ u dx ru
    cases ru
    exact repr_of_reads' rd sh (fun _ => nm) hG (by omega) (fun _ _ e => e) (fun h' u tk hk => ⟨.str d.shown, H, I.kept hk, ⟨_, rfl⟩, q⟩) sz
  cases dx with
  | non =>
    cases ru
    exact PySem.P.repr_of_none ⟨.str "None", H, I.tok _, ⟨_, rfl⟩, q⟩
  | bl b =>
    cases ru
    exact PySem.P.repr_of_bool ⟨.str (if b then "True" else "False"), H, I.tok _, ⟨_, rfl⟩, by cases b <;> exact q⟩
  | int i =>
    obtain ⟨t, rfl⟩ := ru
    exact PySem.P.repr_of_int (si i rfl) ⟨.str (toString i), H, I.tok _, ⟨_, rfl⟩, q⟩
  | str x =>
    obtain ⟨t, rfl⟩ := ru
    exact PySem.P.repr_of_str ⟨.str (reprText x), H, I.tok _, ⟨_, rfl⟩, q⟩ sz
  | lst e r => exact addr _ rfl
  | tup e r => exact addr _ rfl
  | emp e => exact addr _ rfl
  | one e r => exact addr _ rfl
end
end Eld
set_option Elab.async false
set_option maxRecDepth 100000
set_option maxHeartbeats 4000000
set_option linter.all false
namespace Eld
open PySem L2
local macro_rules | `(tactic| walk_at "r1") => `(tactic| with_reducible first
  | refine r_seq ?_ | refine r_asgN ?_ | refine r_asg ?_ | refine r_gname ?_ | refine r_gsub ?_ | refine r_var rfl ?_ | refine r_c ?_ | refine r_op ?_ | refine r_un ?_ | refine r_u ?_ | refine r_i0 ?_ | refine r_cb ?_ | refine r_cons ?_ | refine r_nil ?_ | refine r_cl ?_ | refine r_fn rfl rfl ?_ | refine r_mt ?_
  | refine r_test ?_ | refine r_tb ?_ | refine r_bl ?_ | refine r_and ?_ | refine r_or ?_ | refine r_not ?_ | refine r_andV ?_ | refine r_orV ?_ | refine r_notV ?_ | refine r_ifX ?_ | refine r_ifs ?_ | refine r_chain ?_ | refine r_ret ?_ | refine r_next ?_ | refine r_drop ?_ | refine iteT ?_ | refine iteF ?_ | refine iteNT ?_ | refine iteNF ?_
  | refine r_int1 ?_ | refine r_boolB ?_ | refine r_eqI ?_ | refine r_neI ?_ | refine r_eqB ?_ | refine r_neB ?_ | refine r_eqS ?_ | refine r_neS ?_ | refine r_abs ?_ | refine r_max2 ?_ | refine r_min2 ?_ | refine r_yes ?_ | refine r_tup ?_ | refine r_sfld ?_ | refine r_m0 ?_ | refine r_m1 ?_ | refine r_lst ?_ | refine r_rng1 ?_ | refine r_rng2 ?_ | refine r_ixL (SqL.of (by assumption)) rfl ?_)
local macro_rules | `(tactic| walk_at "r") => `(tactic| repeat (first | walk_at "r1" | ((with_reducible refine r_var ?hv ?_); (case hv => rfl))))

def top (i : Nat) : Stmt := PySem.Challenge.pw_endlots_k00_errors.main.body.getD i (.Pass ⟨0, 0, 0, 0⟩)
abbrev s__wall : Stmt := top 1
theorem sc__wall : FnScope ["k"] ["k"] (defScope s__wall) := ⟨rfl, rfl, rfl, by decide +kernel, rfl, by decide +kernel, by decide +kernel⟩
abbrev s_InvalidNumber___init__ : Stmt := inClass (top 4) 0
theorem sc_InvalidNumber___init__ : FnScope ["self", "given"] ["self", "given"] (defScope s_InvalidNumber___init__) := ⟨rfl, rfl, rfl, by decide +kernel, rfl, by decide +kernel, by decide +kernel⟩
abbrev s_InvalidSizes___init__ : Stmt := inClass (top 5) 0
theorem sc_InvalidSizes___init__ : FnScope ["self", "given"] ["self", "given"] (defScope s_InvalidSizes___init__) := ⟨rfl, rfl, rfl, by decide +kernel, rfl, by decide +kernel, by decide +kernel⟩
abbrev s_InvalidStore___init__ : Stmt := inClass (top 6) 0
theorem sc_InvalidStore___init__ : FnScope ["self", "given"] ["self", "given"] (defScope s_InvalidStore___init__) := ⟨rfl, rfl, rfl, by decide +kernel, rfl, by decide +kernel, by decide +kernel⟩
abbrev s_InvalidValues___init__ : Stmt := inClass (top 7) 0
theorem sc_InvalidValues___init__ : FnScope ["self", "given"] ["self", "given"] (defScope s_InvalidValues___init__) := ⟨rfl, rfl, rfl, by decide +kernel, rfl, by decide +kernel, by decide +kernel⟩
abbrev s_InvalidLine___init__ : Stmt := inClass (top 8) 0
theorem sc_InvalidLine___init__ : FnScope ["self", "given"] ["self", "given"] (defScope s_InvalidLine___init__) := ⟨rfl, rfl, rfl, by decide +kernel, rfl, by decide +kernel, by decide +kernel⟩
abbrev s_InvalidSpace___init__ : Stmt := inClass (top 9) 0
theorem sc_InvalidSpace___init__ : FnScope ["self", "given"] ["self", "given"] (defScope s_InvalidSpace___init__) := ⟨rfl, rfl, rfl, by decide +kernel, rfl, by decide +kernel, by decide +kernel⟩
abbrev s_InvalidOutcome___init__ : Stmt := inClass (top 10) 0
theorem sc_InvalidOutcome___init__ : FnScope ["self", "given"] ["self", "given"] (defScope s_InvalidOutcome___init__) := ⟨rfl, rfl, rfl, by decide +kernel, rfl, by decide +kernel, by decide +kernel⟩
abbrev s_InvalidWeights___init__ : Stmt := inClass (top 11) 0
theorem sc_InvalidWeights___init__ : FnScope ["self", "given"] ["self", "given"] (defScope s_InvalidWeights___init__) := ⟨rfl, rfl, rfl, by decide +kernel, rfl, by decide +kernel, by decide +kernel⟩
abbrev s_InvalidLot___init__ : Stmt := inClass (top 12) 0
theorem sc_InvalidLot___init__ : FnScope ["self", "given"] ["self", "given"] (defScope s_InvalidLot___init__) := ⟨rfl, rfl, rfl, by decide +kernel, rfl, by decide +kernel, by decide +kernel⟩
abbrev s_InvalidLots___init__ : Stmt := inClass (top 13) 0
theorem sc_InvalidLots___init__ : FnScope ["self", "given"] ["self", "given"] (defScope s_InvalidLots___init__) := ⟨rfl, rfl, rfl, by decide +kernel, rfl, by decide +kernel, by decide +kernel⟩
abbrev s_InvalidPayoff___init__ : Stmt := inClass (top 14) 0
theorem sc_InvalidPayoff___init__ : FnScope ["self", "given"] ["self", "given"] (defScope s_InvalidPayoff___init__) := ⟨rfl, rfl, rfl, by decide +kernel, rfl, by decide +kernel, by decide +kernel⟩
abbrev s_InvalidText___init__ : Stmt := inClass (top 15) 0
theorem sc_InvalidText___init__ : FnScope ["self", "given"] ["self", "given"] (defScope s_InvalidText___init__) := ⟨rfl, rfl, rfl, by decide +kernel, rfl, by decide +kernel, by decide +kernel⟩
abbrev s_InvalidSurrounding___init__ : Stmt := inClass (top 16) 0
theorem sc_InvalidSurrounding___init__ : FnScope ["self", "given"] ["self", "given"] (defScope s_InvalidSurrounding___init__) := ⟨rfl, rfl, rfl, by decide +kernel, rfl, by decide +kernel, by decide +kernel⟩
abbrev s_InvalidPath___init__ : Stmt := inClass (top 17) 0
theorem sc_InvalidPath___init__ : FnScope ["self", "given"] ["self", "given"] (defScope s_InvalidPath___init__) := ⟨rfl, rfl, rfl, by decide +kernel, rfl, by decide +kernel, by decide +kernel⟩
abbrev s_InvalidPart___init__ : Stmt := inClass (top 18) 0
theorem sc_InvalidPart___init__ : FnScope ["self", "given"] ["self", "given"] (defScope s_InvalidPart___init__) := ⟨rfl, rfl, rfl, by decide +kernel, rfl, by decide +kernel, by decide +kernel⟩
abbrev s_InvalidSides___init__ : Stmt := inClass (top 19) 0
theorem sc_InvalidSides___init__ : FnScope ["self", "given"] ["self", "given"] (defScope s_InvalidSides___init__) := ⟨rfl, rfl, rfl, by decide +kernel, rfl, by decide +kernel, by decide +kernel⟩
abbrev s_InvalidDraws___init__ : Stmt := inClass (top 20) 0
theorem sc_InvalidDraws___init__ : FnScope ["self", "given"] ["self", "given"] (defScope s_InvalidDraws___init__) := ⟨rfl, rfl, rfl, by decide +kernel, rfl, by decide +kernel, by decide +kernel⟩
abbrev s_InvalidShare___init__ : Stmt := inClass (top 21) 0
theorem sc_InvalidShare___init__ : FnScope ["self", "given"] ["self", "given"] (defScope s_InvalidShare___init__) := ⟨rfl, rfl, rfl, by decide +kernel, rfl, by decide +kernel, by decide +kernel⟩
abbrev s_InvalidSteps___init__ : Stmt := inClass (top 22) 0
theorem sc_InvalidSteps___init__ : FnScope ["self", "given"] ["self", "given"] (defScope s_InvalidSteps___init__) := ⟨rfl, rfl, rfl, by decide +kernel, rfl, by decide +kernel, by decide +kernel⟩
abbrev s_InvalidRow___init__ : Stmt := inClass (top 23) 0
theorem sc_InvalidRow___init__ : FnScope ["self", "given"] ["self", "given"] (defScope s_InvalidRow___init__) := ⟨rfl, rfl, rfl, by decide +kernel, rfl, by decide +kernel, by decide +kernel⟩
abbrev s_InvalidPick___init__ : Stmt := inClass (top 24) 0
theorem sc_InvalidPick___init__ : FnScope ["self", "given"] ["self", "given"] (defScope s_InvalidPick___init__) := ⟨rfl, rfl, rfl, by decide +kernel, rfl, by decide +kernel, by decide +kernel⟩
abbrev s_InvalidDice___init__ : Stmt := inClass (top 25) 0
theorem sc_InvalidDice___init__ : FnScope ["self", "given"] ["self", "given"] (defScope s_InvalidDice___init__) := ⟨rfl, rfl, rfl, by decide +kernel, rfl, by decide +kernel, by decide +kernel⟩
abbrev s_InvalidBlend___init__ : Stmt := inClass (top 26) 0
theorem sc_InvalidBlend___init__ : FnScope ["self", "given"] ["self", "given"] (defScope s_InvalidBlend___init__) := ⟨rfl, rfl, rfl, by decide +kernel, rfl, by decide +kernel, by decide +kernel⟩
abbrev s_InvalidLimits___init__ : Stmt := inClass (top 27) 0
theorem sc_InvalidLimits___init__ : FnScope ["self", "given"] ["self", "given"] (defScope s_InvalidLimits___init__) := ⟨rfl, rfl, rfl, by decide +kernel, rfl, by decide +kernel, by decide +kernel⟩
abbrev s_InvalidPairs___init__ : Stmt := inClass (top 28) 0
theorem sc_InvalidPairs___init__ : FnScope ["self", "given"] ["self", "given"] (defScope s_InvalidPairs___init__) := ⟨rfl, rfl, rfl, by decide +kernel, rfl, by decide +kernel, by decide +kernel⟩
abbrev s_InvalidSet___init__ : Stmt := inClass (top 29) 0
theorem sc_InvalidSet___init__ : FnScope ["self", "given"] ["self", "given"] (defScope s_InvalidSet___init__) := ⟨rfl, rfl, rfl, by decide +kernel, rfl, by decide +kernel, by decide +kernel⟩
abbrev s_InvalidName___init__ : Stmt := inClass (top 30) 0
theorem sc_InvalidName___init__ : FnScope ["self", "given"] ["self", "given"] (defScope s_InvalidName___init__) := ⟨rfl, rfl, rfl, by decide +kernel, rfl, by decide +kernel, by decide +kernel⟩
abbrev s_InvalidOther___init__ : Stmt := inClass (top 31) 0
theorem sc_InvalidOther___init__ : FnScope ["self", "given"] ["self", "given"] (defScope s_InvalidOther___init__) := ⟨rfl, rfl, rfl, by decide +kernel, rfl, by decide +kernel, by decide +kernel⟩
abbrev s_TooMany___init__ : Stmt := inClass (top 32) 0
theorem sc_TooMany___init__ : FnScope ["self", "count"] ["self", "count"] (defScope s_TooMany___init__) := ⟨rfl, rfl, rfl, by decide +kernel, rfl, by decide +kernel, by decide +kernel⟩
abbrev s_Outside___init__ : Stmt := inClass (top 33) 0
theorem sc_Outside___init__ : FnScope ["self", "payoff"] ["self", "payoff"] (defScope s_Outside___init__) := ⟨rfl, rfl, rfl, by decide +kernel, rfl, by decide +kernel, by decide +kernel⟩
abbrev s_MayGoOn___init__ : Stmt := inClass (top 34) 0
theorem sc_MayGoOn___init__ : FnScope ["self", "store"] ["self", "store"] (defScope s_MayGoOn___init__) := ⟨rfl, rfl, rfl, by decide +kernel, rfl, by decide +kernel, by decide +kernel⟩
abbrev s_NoThing___init__ : Stmt := inClass (top 35) 0
theorem sc_NoThing___init__ : FnScope ["self", "name"] ["self", "name"] (defScope s_NoThing___init__) := ⟨rfl, rfl, rfl, by decide +kernel, rfl, by decide +kernel, by decide +kernel⟩
abbrev s_NotBrought___init__ : Stmt := inClass (top 36) 0
theorem sc_NotBrought___init__ : FnScope ["self", "payoff", "table"] ["self", "payoff", "table"] (defScope s_NotBrought___init__) := ⟨rfl, rfl, rfl, by decide +kernel, rfl, by decide +kernel, by decide +kernel⟩
abbrev s_MayStay___init__ : Stmt := inClass (top 37) 0
theorem sc_MayStay___init__ : FnScope ["self", "way", "rows"] ["self", "way", "rows"] (defScope s_MayStay___init__) := ⟨rfl, rfl, rfl, by decide +kernel, rfl, by decide +kernel, by decide +kernel⟩
abbrev s_TwoLots___init__ : Stmt := inClass (top 38) 0
theorem sc_TwoLots___init__ : FnScope ["self", "one", "other"] ["self", "one", "other"] (defScope s_TwoLots___init__) := ⟨rfl, rfl, rfl, by decide +kernel, rfl, by decide +kernel, by decide +kernel⟩
abbrev s_NotKept___init__ : Stmt := inClass (top 39) 0
theorem sc_NotKept___init__ : FnScope ["self", "fees", "table"] ["self", "fees", "table"] (defScope s_NotKept___init__) := ⟨rfl, rfl, rfl, by decide +kernel, rfl, by decide +kernel, by decide +kernel⟩
abbrev s_NoCommon___init__ : Stmt := inClass (top 40) 0
theorem sc_NoCommon___init__ : FnScope ["self", "payoffs", "tables"] ["self", "payoffs", "tables"] (defScope s_NoCommon___init__) := ⟨rfl, rfl, rfl, by decide +kernel, rfl, by decide +kernel, by decide +kernel⟩
abbrev s_is_integer : Stmt := top 45
theorem sc_is_integer : FnScope ["value"] ["value"] (defScope s_is_integer) := ⟨rfl, rfl, rfl, by decide +kernel, rfl, by decide +kernel, by decide +kernel⟩
abbrev s_is_list : Stmt := top 46
theorem sc_is_list : FnScope ["value"] ["value"] (defScope s_is_list) := ⟨rfl, rfl, rfl, by decide +kernel, rfl, by decide +kernel, by decide +kernel⟩
abbrev s_is_from : Stmt := top 47
theorem sc_is_from : FnScope ["value", "low", "high"] ["value", "low", "high"] (defScope s_is_from) := ⟨rfl, rfl, rfl, by decide +kernel, rfl, by decide +kernel, by decide +kernel⟩
abbrev s_is_index : Stmt := top 48
theorem sc_is_index : FnScope ["value", "count"] ["value", "count"] (defScope s_is_index) := ⟨rfl, rfl, rfl, by decide +kernel, rfl, by decide +kernel, by decide +kernel⟩
abbrev s_Ratio___init__ : Stmt := inClass (top 50) 0
theorem sc_Ratio___init__ : FnScope ["self", "top", "bottom", "shared"] ["self", "top", "bottom"] (defScope s_Ratio___init__) := ⟨rfl, rfl, rfl, by decide +kernel, rfl, by decide +kernel, by decide +kernel⟩
abbrev s_Ratio___eq__ : Stmt := inClass (top 50) 1
theorem sc_Ratio___eq__ : FnScope ["self", "other", "number"] ["self", "other"] (defScope s_Ratio___eq__) := ⟨rfl, rfl, rfl, by decide +kernel, rfl, by decide +kernel, by decide +kernel⟩
abbrev s_Ratio___str__ : Stmt := inClass (top 50) 2
theorem sc_Ratio___str__ : FnScope ["self"] ["self"] (defScope s_Ratio___str__) := ⟨rfl, rfl, rfl, by decide +kernel, rfl, by decide +kernel, by decide +kernel⟩
abbrev s_Ratio___neg__ : Stmt := inClass (top 50) 3
theorem sc_Ratio___neg__ : FnScope ["self"] ["self"] (defScope s_Ratio___neg__) := ⟨rfl, rfl, rfl, by decide +kernel, rfl, by decide +kernel, by decide +kernel⟩
abbrev s_Ratio___add__ : Stmt := inClass (top 50) 4
theorem sc_Ratio___add__ : FnScope ["self", "other", "number"] ["self", "other"] (defScope s_Ratio___add__) := ⟨rfl, rfl, rfl, by decide +kernel, rfl, by decide +kernel, by decide +kernel⟩
abbrev s_Ratio___radd__ : Stmt := inClass (top 50) 5
theorem sc_Ratio___radd__ : FnScope ["self", "other"] ["self", "other"] (defScope s_Ratio___radd__) := ⟨rfl, rfl, rfl, by decide +kernel, rfl, by decide +kernel, by decide +kernel⟩
abbrev s_Ratio___sub__ : Stmt := inClass (top 50) 6
theorem sc_Ratio___sub__ : FnScope ["self", "other", "number"] ["self", "other"] (defScope s_Ratio___sub__) := ⟨rfl, rfl, rfl, by decide +kernel, rfl, by decide +kernel, by decide +kernel⟩
abbrev s_Ratio___rsub__ : Stmt := inClass (top 50) 7
theorem sc_Ratio___rsub__ : FnScope ["self", "other"] ["self", "other"] (defScope s_Ratio___rsub__) := ⟨rfl, rfl, rfl, by decide +kernel, rfl, by decide +kernel, by decide +kernel⟩
abbrev s_Ratio___mul__ : Stmt := inClass (top 50) 8
theorem sc_Ratio___mul__ : FnScope ["self", "other", "number"] ["self", "other"] (defScope s_Ratio___mul__) := ⟨rfl, rfl, rfl, by decide +kernel, rfl, by decide +kernel, by decide +kernel⟩
abbrev s_Ratio___rmul__ : Stmt := inClass (top 50) 9
theorem sc_Ratio___rmul__ : FnScope ["self", "other"] ["self", "other"] (defScope s_Ratio___rmul__) := ⟨rfl, rfl, rfl, by decide +kernel, rfl, by decide +kernel, by decide +kernel⟩
abbrev s_Ratio_over : Stmt := inClass (top 50) 10
theorem sc_Ratio_over : FnScope ["self", "number"] ["self", "number"] (defScope s_Ratio_over) := ⟨rfl, rfl, rfl, by decide +kernel, rfl, by decide +kernel, by decide +kernel⟩
abbrev s_Ratio_below : Stmt := inClass (top 50) 11
theorem sc_Ratio_below : FnScope ["self", "number", "bound"] ["self", "number"] (defScope s_Ratio_below) := ⟨rfl, rfl, rfl, by decide +kernel, rfl, by decide +kernel, by decide +kernel⟩
abbrev s_is_number : Stmt := top 51
theorem sc_is_number : FnScope ["value"] ["value"] (defScope s_is_number) := ⟨rfl, rfl, rfl, by decide +kernel, rfl, by decide +kernel, by decide +kernel⟩
abbrev s_as_ratio : Stmt := top 52
theorem sc_as_ratio : FnScope ["value"] ["value"] (defScope s_as_ratio) := ⟨rfl, rfl, rfl, by decide +kernel, rfl, by decide +kernel, by decide +kernel⟩
abbrev s_Space___init__ : Stmt := inClass (top 56) 0
theorem sc_Space___init__ : FnScope ["self", "sizes"] ["self", "sizes"] (defScope s_Space___init__) := ⟨rfl, rfl, rfl, by decide +kernel, rfl, by decide +kernel, by decide +kernel⟩
abbrev s_Space___len__ : Stmt := inClass (top 56) 1
theorem sc_Space___len__ : FnScope ["self"] ["self"] (defScope s_Space___len__) := ⟨rfl, rfl, rfl, by decide +kernel, rfl, by decide +kernel, by decide +kernel⟩
abbrev s_Space___eq__ : Stmt := inClass (top 56) 2
theorem sc_Space___eq__ : FnScope ["self", "other"] ["self", "other"] (defScope s_Space___eq__) := ⟨rfl, rfl, rfl, by decide +kernel, rfl, by decide +kernel, by decide +kernel⟩
abbrev s_Space_at : Stmt := inClass (top 56) 3
theorem sc_Space_at : FnScope ["self", "store"] ["self", "store"] (defScope s_Space_at) := ⟨rfl, rfl, rfl, by decide +kernel, rfl, by decide +kernel, by decide +kernel⟩
abbrev s_Space_store : Stmt := inClass (top 56) 4
theorem sc_Space_store : FnScope ["self", "values"] ["self", "values"] (defScope s_Space_store) := ⟨rfl, rfl, rfl, by decide +kernel, rfl, by decide +kernel, by decide +kernel⟩
abbrev s_Space_line : Stmt := inClass (top 56) 5
theorem sc_Space_line : FnScope ["self", "size"] ["self"] (defScope s_Space_line) := ⟨rfl, rfl, rfl, by decide +kernel, rfl, by decide +kernel, by decide +kernel⟩
abbrev s_all_values : Stmt := top 57
theorem sc_all_values : FnScope ["sizes", "stores", "size", "values", "value"] ["sizes"] (defScope s_all_values) := ⟨rfl, rfl, rfl, by decide +kernel, rfl, by decide +kernel, by decide +kernel⟩
abbrev s_is_sizes : Stmt := top 58
theorem sc_is_sizes : FnScope ["value", "stores", "size"] ["value"] (defScope s_is_sizes) := ⟨rfl, rfl, rfl, by decide +kernel, rfl, by decide +kernel, by decide +kernel⟩
abbrev s_is_values : Stmt := top 59
theorem sc_is_values : FnScope ["value", "sizes", "item", "size"] ["value", "sizes"] (defScope s_is_values) := ⟨rfl, rfl, rfl, by decide +kernel, rfl, by decide +kernel, by decide +kernel⟩
abbrev s__law_cell : Stmt := top 61
theorem sc__law_cell : FnScope ["script", "k"] ["script", "k"] (defScope s__law_cell) := ⟨rfl, rfl, rfl, by decide +kernel, rfl, by decide +kernel, by decide +kernel⟩
abbrev s__law_box : Stmt := top 62
theorem sc__law_box : FnScope ["great"] ["great"] (defScope s__law_box) := ⟨rfl, rfl, rfl, by decide +kernel, rfl, by decide +kernel, by decide +kernel⟩
abbrev s__law_take : Stmt := top 63
theorem sc__law_take : FnScope ["box", "many", "mixed", "digit"] ["box", "many"] (defScope s__law_take) := ⟨rfl, rfl, rfl, by decide +kernel, rfl, by decide +kernel, by decide +kernel⟩
abbrev s__law_by_place : Stmt := top 64
theorem sc__law_by_place : FnScope ["thing", "found"] ["thing"] (defScope s__law_by_place) := ⟨rfl, rfl, rfl, by decide +kernel, rfl, by decide +kernel, by decide +kernel⟩
abbrev s__law_by_name : Stmt := top 65
theorem sc__law_by_name : FnScope ["thing", "found"] ["thing"] (defScope s__law_by_name) := ⟨rfl, rfl, rfl, by decide +kernel, rfl, by decide +kernel, by decide +kernel⟩
abbrev s__law_pairs : Stmt := top 66
theorem sc__law_pairs : FnScope ["one", "other", "way", "found"] ["one", "other", "way"] (defScope s__law_pairs) := ⟨rfl, rfl, rfl, by decide +kernel, rfl, by decide +kernel, by decide +kernel⟩
abbrev s__law_sorts : Stmt := top 67
theorem sc__law_sorts : FnScope ["e", "found"] ["e"] (defScope s__law_sorts) := ⟨rfl, rfl, rfl, by decide +kernel, rfl, by decide +kernel, by decide +kernel⟩
abbrev s__law_kept : Stmt := top 68
theorem sc__law_kept : FnScope ["e"] ["e"] (defScope s__law_kept) := ⟨rfl, rfl, rfl, by decide +kernel, rfl, by decide +kernel, by decide +kernel⟩
abbrev s__law_is : Stmt := top 69
theorem sc__law_is : FnScope ["e", "spot", "sorts", "k"] ["e", "spot"] (defScope s__law_is) := ⟨rfl, rfl, rfl, by decide +kernel, rfl, by decide +kernel, by decide +kernel⟩
abbrev s__law_thing : Stmt := top 70
theorem sc__law_thing : FnScope ["box", "menu"] ["box"] (defScope s__law_thing) := ⟨rfl, rfl, rfl, by decide +kernel, rfl, by decide +kernel, by decide +kernel⟩
abbrev s__law_all_right : Stmt := top 71
theorem sc__law_all_right : FnScope ["box", "lists", "turn", "first", "last", "spot", "pairs", "e"] ["box"] (defScope s__law_all_right) := ⟨rfl, rfl, rfl, by decide +kernel, rfl, by decide +kernel, by decide +kernel⟩
abbrev s__law_raised : Stmt := top 72
theorem sc__law_raised : FnScope ["way", "thing"] ["way", "thing"] (defScope s__law_raised) := ⟨rfl, rfl, rfl, by decide +kernel, rfl, by decide +kernel, by decide +kernel⟩
abbrev s__law_caught : Stmt := top 73
theorem sc__law_caught : FnScope ["box", "thing", "e", "way", "met"] ["box", "thing"] (defScope s__law_caught) := ⟨rfl, rfl, rfl, by decide +kernel, rfl, by decide +kernel, by decide +kernel⟩
abbrev s_law : Stmt := top 74
theorem sc_law : FnScope ["script", "bare", "k", "e", "box", "grown", "kept", "thing"] ["script"] (defScope s_law) := ⟨rfl, rfl, rfl, by decide +kernel, rfl, by decide +kernel, by decide +kernel⟩
structure Zs (mg : Str → Option Value) : Prop where
  isinstance_ : mg "isinstance" = none
  int_ : mg "int" = none
  bool_ : mg "bool" = none
  list_ : mg "list" = none
  tuple_ : mg "tuple" = none
  dict_ : mg "dict" = none
  len_ : mg "len" = none
  abs_ : mg "abs" = none
  max_ : mg "max" = none
  min_ : mg "min" = none
  sum_ : mg "sum" = none
  repr_ : mg "repr" = none
  all_ : mg "all" = none
  range_ : mg "range" = none
  ValueError_ : mg "ValueError" = none
  MOST_NAMES : ∃ u, mg "MOST_NAMES" = some u ∧ RelV (.int 3) u
  MOST_STORES : ∃ u, mg "MOST_STORES" = some u ∧ RelV (.int 8) u
/-! ## exceptions made -/
def f1 (f : Str) : List V → List (Str × V) := fun xs => [(f, xs.getD 0 .non)]
def f2 (f g : Str) : List V → List (Str × V) := fun xs => [(g, xs.getD 1 .non), (f, xs.getD 0 .non)]
/-- the one field of each error, or the two -/
def fsOf : Nat → List V → List (Str × V)
  | 28 => f1 "count"
  | 29 => f1 "payoff"
  | 30 => f1 "store"
  | 31 => f1 "name"
  | 32 => f2 "payoff" "table"
  | 33 => f2 "way" "rows"
  | 34 => f2 "one" "other"
  | 35 => f2 "fees" "table"
  | 36 => f2 "payoffs" "tables"
  | _ => f1 "given"
def rev2 : List V → List V → List V := fun _ ys => [ys.getD 1 .non, ys.getD 0 .non]
def both : List V → List V → List V := fun xs ys => xs ++ ys
def names : List V → List V → List V := fun _ ys => ys
def fnames : Nat → List Str
  | 28 => ["count"]
  | 29 => ["payoff"]
  | 30 => ["store"]
  | 31 => ["name"]
  | 32 => ["payoff", "table"]
  | 33 => ["way", "rows"]
  | 34 => ["one", "other"]
  | 35 => ["fees", "table"]
  | 36 => ["payoffs", "tables"]
  | _ => ["given"]
/-- what the top has written of the errors: E k is the k-th class -/
structure Er (P : Program) (w : World) (K : PySem.W.Frag) (mg : Str → Option Value) (base : Heap) (E : Nat → Addr) (cE : Addr) : Prop where
  g0 : mg "InvalidNumber" = some (.ref (E 0))
  g1 : mg "InvalidSizes" = some (.ref (E 1))
  g2 : mg "InvalidStore" = some (.ref (E 2))
  g3 : mg "InvalidValues" = some (.ref (E 3))
  g4 : mg "InvalidLine" = some (.ref (E 4))
  g5 : mg "InvalidSpace" = some (.ref (E 5))
  g6 : mg "InvalidOutcome" = some (.ref (E 6))
  g7 : mg "InvalidWeights" = some (.ref (E 7))
  g8 : mg "InvalidLot" = some (.ref (E 8))
  g9 : mg "InvalidLots" = some (.ref (E 9))
  g10 : mg "InvalidPayoff" = some (.ref (E 10))
  g11 : mg "InvalidText" = some (.ref (E 11))
  g12 : mg "InvalidSurrounding" = some (.ref (E 12))
  g13 : mg "InvalidPath" = some (.ref (E 13))
  g14 : mg "InvalidPart" = some (.ref (E 14))
  g15 : mg "InvalidSides" = some (.ref (E 15))
  g16 : mg "InvalidDraws" = some (.ref (E 16))
  g17 : mg "InvalidShare" = some (.ref (E 17))
  g18 : mg "InvalidSteps" = some (.ref (E 18))
  g19 : mg "InvalidRow" = some (.ref (E 19))
  g20 : mg "InvalidPick" = some (.ref (E 20))
  g21 : mg "InvalidDice" = some (.ref (E 21))
  g22 : mg "InvalidBlend" = some (.ref (E 22))
  g23 : mg "InvalidLimits" = some (.ref (E 23))
  g24 : mg "InvalidPairs" = some (.ref (E 24))
  g25 : mg "InvalidSet" = some (.ref (E 25))
  g26 : mg "InvalidName" = some (.ref (E 26))
  g27 : mg "InvalidOther" = some (.ref (E 27))
  g28 : mg "TooMany" = some (.ref (E 28))
  g29 : mg "Outside" = some (.ref (E 29))
  g30 : mg "MayGoOn" = some (.ref (E 30))
  g31 : mg "NoThing" = some (.ref (E 31))
  g32 : mg "NotBrought" = some (.ref (E 32))
  g33 : mg "MayStay" = some (.ref (E 33))
  g34 : mg "TwoLots" = some (.ref (E 34))
  g35 : mg "NotKept" = some (.ref (E 35))
  g36 : mg "NoCommon" = some (.ref (E 36))
  g37 : mg "ByZero" = some (.ref (E 37))
  g38 : mg "NothingToUndo" = some (.ref (E 38))
  g39 : mg "NothingToRedo" = some (.ref (E 39))
  gE : mg "EndError" = some (.ref cE)
  p0 : MakE P w K mg base 1 "InvalidNumber" (E 0) 1 [] byPlace (fsOf 0)
  n0 : MakE P w K mg base 1 "InvalidNumber" (E 0) 0 ["given"] names (fsOf 0)
  p1 : MakE P w K mg base 1 "InvalidSizes" (E 1) 1 [] byPlace (fsOf 1)
  n1 : MakE P w K mg base 1 "InvalidSizes" (E 1) 0 ["given"] names (fsOf 1)
  p2 : MakE P w K mg base 1 "InvalidStore" (E 2) 1 [] byPlace (fsOf 2)
  n2 : MakE P w K mg base 1 "InvalidStore" (E 2) 0 ["given"] names (fsOf 2)
  p3 : MakE P w K mg base 1 "InvalidValues" (E 3) 1 [] byPlace (fsOf 3)
  n3 : MakE P w K mg base 1 "InvalidValues" (E 3) 0 ["given"] names (fsOf 3)
  p4 : MakE P w K mg base 1 "InvalidLine" (E 4) 1 [] byPlace (fsOf 4)
  n4 : MakE P w K mg base 1 "InvalidLine" (E 4) 0 ["given"] names (fsOf 4)
  p5 : MakE P w K mg base 1 "InvalidSpace" (E 5) 1 [] byPlace (fsOf 5)
  n5 : MakE P w K mg base 1 "InvalidSpace" (E 5) 0 ["given"] names (fsOf 5)
  p6 : MakE P w K mg base 1 "InvalidOutcome" (E 6) 1 [] byPlace (fsOf 6)
  n6 : MakE P w K mg base 1 "InvalidOutcome" (E 6) 0 ["given"] names (fsOf 6)
  p7 : MakE P w K mg base 1 "InvalidWeights" (E 7) 1 [] byPlace (fsOf 7)
  n7 : MakE P w K mg base 1 "InvalidWeights" (E 7) 0 ["given"] names (fsOf 7)
  p8 : MakE P w K mg base 1 "InvalidLot" (E 8) 1 [] byPlace (fsOf 8)
  n8 : MakE P w K mg base 1 "InvalidLot" (E 8) 0 ["given"] names (fsOf 8)
  p9 : MakE P w K mg base 1 "InvalidLots" (E 9) 1 [] byPlace (fsOf 9)
  n9 : MakE P w K mg base 1 "InvalidLots" (E 9) 0 ["given"] names (fsOf 9)
  p10 : MakE P w K mg base 1 "InvalidPayoff" (E 10) 1 [] byPlace (fsOf 10)
  n10 : MakE P w K mg base 1 "InvalidPayoff" (E 10) 0 ["given"] names (fsOf 10)
  p11 : MakE P w K mg base 1 "InvalidText" (E 11) 1 [] byPlace (fsOf 11)
  n11 : MakE P w K mg base 1 "InvalidText" (E 11) 0 ["given"] names (fsOf 11)
  p12 : MakE P w K mg base 1 "InvalidSurrounding" (E 12) 1 [] byPlace (fsOf 12)
  n12 : MakE P w K mg base 1 "InvalidSurrounding" (E 12) 0 ["given"] names (fsOf 12)
  p13 : MakE P w K mg base 1 "InvalidPath" (E 13) 1 [] byPlace (fsOf 13)
  n13 : MakE P w K mg base 1 "InvalidPath" (E 13) 0 ["given"] names (fsOf 13)
  p14 : MakE P w K mg base 1 "InvalidPart" (E 14) 1 [] byPlace (fsOf 14)
  n14 : MakE P w K mg base 1 "InvalidPart" (E 14) 0 ["given"] names (fsOf 14)
  p15 : MakE P w K mg base 1 "InvalidSides" (E 15) 1 [] byPlace (fsOf 15)
  n15 : MakE P w K mg base 1 "InvalidSides" (E 15) 0 ["given"] names (fsOf 15)
  p16 : MakE P w K mg base 1 "InvalidDraws" (E 16) 1 [] byPlace (fsOf 16)
  n16 : MakE P w K mg base 1 "InvalidDraws" (E 16) 0 ["given"] names (fsOf 16)
  p17 : MakE P w K mg base 1 "InvalidShare" (E 17) 1 [] byPlace (fsOf 17)
  n17 : MakE P w K mg base 1 "InvalidShare" (E 17) 0 ["given"] names (fsOf 17)
  p18 : MakE P w K mg base 1 "InvalidSteps" (E 18) 1 [] byPlace (fsOf 18)
  n18 : MakE P w K mg base 1 "InvalidSteps" (E 18) 0 ["given"] names (fsOf 18)
  p19 : MakE P w K mg base 1 "InvalidRow" (E 19) 1 [] byPlace (fsOf 19)
  n19 : MakE P w K mg base 1 "InvalidRow" (E 19) 0 ["given"] names (fsOf 19)
  p20 : MakE P w K mg base 1 "InvalidPick" (E 20) 1 [] byPlace (fsOf 20)
  n20 : MakE P w K mg base 1 "InvalidPick" (E 20) 0 ["given"] names (fsOf 20)
  p21 : MakE P w K mg base 1 "InvalidDice" (E 21) 1 [] byPlace (fsOf 21)
  n21 : MakE P w K mg base 1 "InvalidDice" (E 21) 0 ["given"] names (fsOf 21)
  p22 : MakE P w K mg base 1 "InvalidBlend" (E 22) 1 [] byPlace (fsOf 22)
  n22 : MakE P w K mg base 1 "InvalidBlend" (E 22) 0 ["given"] names (fsOf 22)
  p23 : MakE P w K mg base 1 "InvalidLimits" (E 23) 1 [] byPlace (fsOf 23)
  n23 : MakE P w K mg base 1 "InvalidLimits" (E 23) 0 ["given"] names (fsOf 23)
  p24 : MakE P w K mg base 1 "InvalidPairs" (E 24) 1 [] byPlace (fsOf 24)
  n24 : MakE P w K mg base 1 "InvalidPairs" (E 24) 0 ["given"] names (fsOf 24)
  p25 : MakE P w K mg base 1 "InvalidSet" (E 25) 1 [] byPlace (fsOf 25)
  n25 : MakE P w K mg base 1 "InvalidSet" (E 25) 0 ["given"] names (fsOf 25)
  p26 : MakE P w K mg base 1 "InvalidName" (E 26) 1 [] byPlace (fsOf 26)
  n26 : MakE P w K mg base 1 "InvalidName" (E 26) 0 ["given"] names (fsOf 26)
  p27 : MakE P w K mg base 1 "InvalidOther" (E 27) 1 [] byPlace (fsOf 27)
  n27 : MakE P w K mg base 1 "InvalidOther" (E 27) 0 ["given"] names (fsOf 27)
  p28 : MakE P w K mg base 1 "TooMany" (E 28) 1 [] byPlace (fsOf 28)
  n28 : MakE P w K mg base 1 "TooMany" (E 28) 0 ["count"] names (fsOf 28)
  p29 : MakE P w K mg base 1 "Outside" (E 29) 1 [] byPlace (fsOf 29)
  n29 : MakE P w K mg base 1 "Outside" (E 29) 0 ["payoff"] names (fsOf 29)
  p30 : MakE P w K mg base 1 "MayGoOn" (E 30) 1 [] byPlace (fsOf 30)
  n30 : MakE P w K mg base 1 "MayGoOn" (E 30) 0 ["store"] names (fsOf 30)
  p31 : MakE P w K mg base 1 "NoThing" (E 31) 1 [] byPlace (fsOf 31)
  n31 : MakE P w K mg base 1 "NoThing" (E 31) 0 ["name"] names (fsOf 31)
  p32 : MakE P w K mg base 1 "NotBrought" (E 32) 2 [] byPlace (fsOf 32)
  n32 : MakE P w K mg base 1 "NotBrought" (E 32) 0 ["payoff", "table"] names (fsOf 32)
  m32 : MakE P w K mg base 1 "NotBrought" (E 32) 0 ["table", "payoff"] rev2 (fsOf 32)
  q32 : MakE P w K mg base 1 "NotBrought" (E 32) 1 ["table"] both (fsOf 32)
  p33 : MakE P w K mg base 1 "MayStay" (E 33) 2 [] byPlace (fsOf 33)
  n33 : MakE P w K mg base 1 "MayStay" (E 33) 0 ["way", "rows"] names (fsOf 33)
  m33 : MakE P w K mg base 1 "MayStay" (E 33) 0 ["rows", "way"] rev2 (fsOf 33)
  q33 : MakE P w K mg base 1 "MayStay" (E 33) 1 ["rows"] both (fsOf 33)
  p34 : MakE P w K mg base 1 "TwoLots" (E 34) 2 [] byPlace (fsOf 34)
  n34 : MakE P w K mg base 1 "TwoLots" (E 34) 0 ["one", "other"] names (fsOf 34)
  m34 : MakE P w K mg base 1 "TwoLots" (E 34) 0 ["other", "one"] rev2 (fsOf 34)
  q34 : MakE P w K mg base 1 "TwoLots" (E 34) 1 ["other"] both (fsOf 34)
  p35 : MakE P w K mg base 1 "NotKept" (E 35) 2 [] byPlace (fsOf 35)
  n35 : MakE P w K mg base 1 "NotKept" (E 35) 0 ["fees", "table"] names (fsOf 35)
  m35 : MakE P w K mg base 1 "NotKept" (E 35) 0 ["table", "fees"] rev2 (fsOf 35)
  q35 : MakE P w K mg base 1 "NotKept" (E 35) 1 ["table"] both (fsOf 35)
  p36 : MakE P w K mg base 1 "NoCommon" (E 36) 2 [] byPlace (fsOf 36)
  n36 : MakE P w K mg base 1 "NoCommon" (E 36) 0 ["payoffs", "tables"] names (fsOf 36)
  m36 : MakE P w K mg base 1 "NoCommon" (E 36) 0 ["tables", "payoffs"] rev2 (fsOf 36)
  q36 : MakE P w K mg base 1 "NoCommon" (E 36) 1 ["tables"] both (fsOf 36)
  b37 : Exc0 K (E 37)
  b38 : Exc0 K (E 38)
  b39 : Exc0 K (E 39)
  xc : ∀ i, i < 40 → ExcC K (E i)
  own : ∀ i, i < 40 → PySem.W.kitCls K (.ref (E i)) (.ref (E i)) = some true
  kit : ∀ i j, i < 40 → j < 40 → PySem.W.kitOne K (.ref (E i)) (.ref (E j)) = some (decide (i = j))
  kitE : ∀ i, i < 40 → PySem.W.kitOne K (.ref (E i)) (.ref cE) = some true
  kitV : ∀ i, i < 40 → PySem.W.kitOne K (.ref (E i)) (.type "ValueError") = some true
  xf : ∀ i, i < 37 → XfC K (E i)
  fl : ∀ i, i < 37 → ∀ f ∈ fnames i, PySem.W.findIn K (.ref (E i)) f = some none
  exE : ∀ i, i < 40 → PySem.W.exmOne K (.ref (E i)) (.ref cE) = some true
  exO : ∀ i j, i < 40 → j < 40 → PySem.W.exmOne K (.ref (E i)) (.ref (E j)) = some (decide (i = j))

section
variable {X : Cx} {k j n : Nat} {C : Addr} {x : Str} {ks : List Str} {gV : List V → List V → List V} {fsOf : List V → List (Str × V)} {p pos : Pos} {e : Expr} {es : List Expr} {kws : List Keyword} {t tk : TA}
theorem MakE.kp {P : Program} {w : World} {K : PySem.W.Frag} {mg : Str → Option Value} {base : Heap} (d : MakE P w K mg base k x C n ks gV fsOf) : mg x = some (.ref C) ∧ PySem.W.keepIn K (.ref C) = true := by
  obtain ⟨f, fd, ps, g, gW, m, gm, T, _⟩ := d
  exact ⟨gm, T.kC⟩
theorem px_pos (d : MakE X.prog X.w X.K X.mg X.base k x C n [] gV fsOf) (hG : X.A.guards = some []) (hr : Room j X.A) (hk : k + 1 ≤ j) (hg : Gl X x) (ha : PA X (e :: es) t) (hn : n ≤ 1000 := by decide) (hd : (x == ("__debug__" : Str)) = false := by decide)
    (he : starEach (e :: es) X.env = (false, eval e X.env) :: starEach es X.env := by rfl) (hp : (backTo pos (starEach es X.env)).any (·.1) = false := by rfl) : PE X (.Call (.Name x p) (e :: es) [] pos) (tCl (rMkE C n 0 gV fsOf) t tNil) :=
  pn_pos (callV_exc d hn hG (hr.mono hk)) hg d.kp.1 d.kp.2 ha hd he hp
theorem px_kw (d : MakE X.prog X.w X.K X.mg X.base k x C n ks gV fsOf) (hG : X.A.guards = some []) (hr : Room j X.A) (hk : k + 1 ≤ j) (hg : Gl X x) (ha : PK X kws tk) (hn : n ≤ 1000 := by decide) (hall : (backToKw pos (keywordEach kws X.env)).all (·.1.isSome) = true := by rfl)
    (hks : (backToKw pos (keywordEach kws X.env)).filterMap (·.1) = ks := by rfl) (hd : (x == ("__debug__" : Str)) = false := by decide)
    (hp : ((backTo pos (starEach [] X.env)).any (·.1) || (backToKw pos (keywordEach kws X.env)).any (·.1.isNone)) = false := by rfl) : PE X (.Call (.Name x p) [] kws pos) (tCl (rMkE C n ks.length gV fsOf) tNil tk) :=
  pn_kw0 (callV_exc d hn hG (hr.mono hk)) hg d.kp.1 d.kp.2 ha hall hks hd hp
theorem px_mix (d : MakE X.prog X.w X.K X.mg X.base k x C n ks gV fsOf) (hG : X.A.guards = some []) (hr : Room j X.A) (hk : k + 1 ≤ j) (hg : Gl X x) (ha : PA X (e :: es) t) (hw : PK X kws tk) (hn : n ≤ 1000 := by decide) (hall : (backToKw pos (keywordEach kws X.env)).all (·.1.isSome) = true := by rfl)
    (hks : (backToKw pos (keywordEach kws X.env)).filterMap (·.1) = ks := by rfl) (hd : (x == ("__debug__" : Str)) = false := by decide) (he : starEach (e :: es) X.env = (false, eval e X.env) :: starEach es X.env := by rfl)
    (hp : ((backTo pos (starEach (e :: es) X.env)).any (·.1) || (backToKw pos (keywordEach kws X.env)).any (·.1.isNone)) = false := by rfl) : PE X (.Call (.Name x p) (e :: es) kws pos) (tCl (rMkE C n ks.length gV fsOf) t tk) :=
  pn_kw (callV_exc d hn hG (hr.mono hk)) hg d.kp.1 d.kp.2 ha hw hall hks hd he hp
end
theorem r_mkE {C : Addr} {n m : Nat} {gV : List V → List V → List V} {fsOf : List V → List (Str × V)} {xs ys : List V} {H : Hp} {Q : VK} (h1 : xs.length = n) (h2 : ys.length = m) (h : ∀ a G, H a = none → Same H G → XV G a C (fsOf (gV xs ys)) → Q (.ref a) G) : rMkE C n m gV fsOf xs ys H Q :=
  ⟨h1, h2, fun a dx G na nd ne ga gd oth => h a G na (fun b o e => by rw [oth b (ne_of_none e na) (ne_of_none e nd)]; exact e) ⟨dx, .inl ga, .inl gd⟩⟩
theorem store_len {C : Addr} {n : Nat} {fs : List V → List (Str × V)} {vs : List V} {H : Hp} {Q : VK} {E : XK} (h : spStore C n fs vs H Q E) : vs.length = n + 1 := by
  obtain ⟨a, xs, rfl, l, _⟩ := h
  rw [List.length_cons, l]
section
variable {P : Program} {w : World} {K : PySem.W.Frag} {mg : Str → Option Value} {base : Heap} {C : Addr}
theorem ok_InvalidNumber {f : Addr} {fd : FuncData} (F : Fun K "__init__" "InvalidNumber.__init__" s_InvalidNumber___init__ f fd) (T : OexC K C) (hf : PySem.W.findIn K (.ref C) "given" = some none) : FnG P w K mg base CX0 1 f fd ["self", "given"] (spStore C 1 (fsOf 0)) := by
  refine FnG.of (F.ok sc_InvalidNumber___init__ (fun vs H Q E h => store_len h) (fun cdv B up z H vs Q E hr h => ⟨_, (pss_one (ps_ost (pv 0) (pv 1))), ?_⟩))
  obtain ⟨a, xs, rfl, l, ha, k⟩ := h
  match xs, l with
  | [v], _ => exact ⟨_, rfl, _, rfl, a, C, rfl, T, hf, .inl ⟨ha, fun dx n e => k dx _ n e upd_same (by rw [upd_ne e]; exact upd_same) fun b b1 b2 => by rw [upd_ne b1, upd_ne b2]⟩⟩
theorem ok_InvalidSizes {f : Addr} {fd : FuncData} (F : Fun K "__init__" "InvalidSizes.__init__" s_InvalidSizes___init__ f fd) (T : OexC K C) (hf : PySem.W.findIn K (.ref C) "given" = some none) : FnG P w K mg base CX0 1 f fd ["self", "given"] (spStore C 1 (fsOf 1)) := by
  refine FnG.of (F.ok sc_InvalidSizes___init__ (fun vs H Q E h => store_len h) (fun cdv B up z H vs Q E hr h => ⟨_, (pss_one (ps_ost (pv 0) (pv 1))), ?_⟩))
  obtain ⟨a, xs, rfl, l, ha, k⟩ := h
  match xs, l with
  | [v], _ => exact ⟨_, rfl, _, rfl, a, C, rfl, T, hf, .inl ⟨ha, fun dx n e => k dx _ n e upd_same (by rw [upd_ne e]; exact upd_same) fun b b1 b2 => by rw [upd_ne b1, upd_ne b2]⟩⟩
theorem ok_InvalidStore {f : Addr} {fd : FuncData} (F : Fun K "__init__" "InvalidStore.__init__" s_InvalidStore___init__ f fd) (T : OexC K C) (hf : PySem.W.findIn K (.ref C) "given" = some none) : FnG P w K mg base CX0 1 f fd ["self", "given"] (spStore C 1 (fsOf 2)) := by
  refine FnG.of (F.ok sc_InvalidStore___init__ (fun vs H Q E h => store_len h) (fun cdv B up z H vs Q E hr h => ⟨_, (pss_one (ps_ost (pv 0) (pv 1))), ?_⟩))
  obtain ⟨a, xs, rfl, l, ha, k⟩ := h
  match xs, l with
  | [v], _ => exact ⟨_, rfl, _, rfl, a, C, rfl, T, hf, .inl ⟨ha, fun dx n e => k dx _ n e upd_same (by rw [upd_ne e]; exact upd_same) fun b b1 b2 => by rw [upd_ne b1, upd_ne b2]⟩⟩
theorem ok_InvalidValues {f : Addr} {fd : FuncData} (F : Fun K "__init__" "InvalidValues.__init__" s_InvalidValues___init__ f fd) (T : OexC K C) (hf : PySem.W.findIn K (.ref C) "given" = some none) : FnG P w K mg base CX0 1 f fd ["self", "given"] (spStore C 1 (fsOf 3)) := by
  refine FnG.of (F.ok sc_InvalidValues___init__ (fun vs H Q E h => store_len h) (fun cdv B up z H vs Q E hr h => ⟨_, (pss_one (ps_ost (pv 0) (pv 1))), ?_⟩))
  obtain ⟨a, xs, rfl, l, ha, k⟩ := h
  match xs, l with
  | [v], _ => exact ⟨_, rfl, _, rfl, a, C, rfl, T, hf, .inl ⟨ha, fun dx n e => k dx _ n e upd_same (by rw [upd_ne e]; exact upd_same) fun b b1 b2 => by rw [upd_ne b1, upd_ne b2]⟩⟩
theorem ok_InvalidLine {f : Addr} {fd : FuncData} (F : Fun K "__init__" "InvalidLine.__init__" s_InvalidLine___init__ f fd) (T : OexC K C) (hf : PySem.W.findIn K (.ref C) "given" = some none) : FnG P w K mg base CX0 1 f fd ["self", "given"] (spStore C 1 (fsOf 4)) := by
  refine FnG.of (F.ok sc_InvalidLine___init__ (fun vs H Q E h => store_len h) (fun cdv B up z H vs Q E hr h => ⟨_, (pss_one (ps_ost (pv 0) (pv 1))), ?_⟩))
  obtain ⟨a, xs, rfl, l, ha, k⟩ := h
  match xs, l with
  | [v], _ => exact ⟨_, rfl, _, rfl, a, C, rfl, T, hf, .inl ⟨ha, fun dx n e => k dx _ n e upd_same (by rw [upd_ne e]; exact upd_same) fun b b1 b2 => by rw [upd_ne b1, upd_ne b2]⟩⟩
theorem ok_InvalidSpace {f : Addr} {fd : FuncData} (F : Fun K "__init__" "InvalidSpace.__init__" s_InvalidSpace___init__ f fd) (T : OexC K C) (hf : PySem.W.findIn K (.ref C) "given" = some none) : FnG P w K mg base CX0 1 f fd ["self", "given"] (spStore C 1 (fsOf 5)) := by
  refine FnG.of (F.ok sc_InvalidSpace___init__ (fun vs H Q E h => store_len h) (fun cdv B up z H vs Q E hr h => ⟨_, (pss_one (ps_ost (pv 0) (pv 1))), ?_⟩))
  obtain ⟨a, xs, rfl, l, ha, k⟩ := h
  match xs, l with
  | [v], _ => exact ⟨_, rfl, _, rfl, a, C, rfl, T, hf, .inl ⟨ha, fun dx n e => k dx _ n e upd_same (by rw [upd_ne e]; exact upd_same) fun b b1 b2 => by rw [upd_ne b1, upd_ne b2]⟩⟩
theorem ok_InvalidOutcome {f : Addr} {fd : FuncData} (F : Fun K "__init__" "InvalidOutcome.__init__" s_InvalidOutcome___init__ f fd) (T : OexC K C) (hf : PySem.W.findIn K (.ref C) "given" = some none) : FnG P w K mg base CX0 1 f fd ["self", "given"] (spStore C 1 (fsOf 6)) := by
  refine FnG.of (F.ok sc_InvalidOutcome___init__ (fun vs H Q E h => store_len h) (fun cdv B up z H vs Q E hr h => ⟨_, (pss_one (ps_ost (pv 0) (pv 1))), ?_⟩))
  obtain ⟨a, xs, rfl, l, ha, k⟩ := h
  match xs, l with
  | [v], _ => exact ⟨_, rfl, _, rfl, a, C, rfl, T, hf, .inl ⟨ha, fun dx n e => k dx _ n e upd_same (by rw [upd_ne e]; exact upd_same) fun b b1 b2 => by rw [upd_ne b1, upd_ne b2]⟩⟩
theorem ok_InvalidWeights {f : Addr} {fd : FuncData} (F : Fun K "__init__" "InvalidWeights.__init__" s_InvalidWeights___init__ f fd) (T : OexC K C) (hf : PySem.W.findIn K (.ref C) "given" = some none) : FnG P w K mg base CX0 1 f fd ["self", "given"] (spStore C 1 (fsOf 7)) := by
  refine FnG.of (F.ok sc_InvalidWeights___init__ (fun vs H Q E h => store_len h) (fun cdv B up z H vs Q E hr h => ⟨_, (pss_one (ps_ost (pv 0) (pv 1))), ?_⟩))
  obtain ⟨a, xs, rfl, l, ha, k⟩ := h
  match xs, l with
  | [v], _ => exact ⟨_, rfl, _, rfl, a, C, rfl, T, hf, .inl ⟨ha, fun dx n e => k dx _ n e upd_same (by rw [upd_ne e]; exact upd_same) fun b b1 b2 => by rw [upd_ne b1, upd_ne b2]⟩⟩
theorem ok_InvalidLot {f : Addr} {fd : FuncData} (F : Fun K "__init__" "InvalidLot.__init__" s_InvalidLot___init__ f fd) (T : OexC K C) (hf : PySem.W.findIn K (.ref C) "given" = some none) : FnG P w K mg base CX0 1 f fd ["self", "given"] (spStore C 1 (fsOf 8)) := by
  refine FnG.of (F.ok sc_InvalidLot___init__ (fun vs H Q E h => store_len h) (fun cdv B up z H vs Q E hr h => ⟨_, (pss_one (ps_ost (pv 0) (pv 1))), ?_⟩))
  obtain ⟨a, xs, rfl, l, ha, k⟩ := h
  match xs, l with
  | [v], _ => exact ⟨_, rfl, _, rfl, a, C, rfl, T, hf, .inl ⟨ha, fun dx n e => k dx _ n e upd_same (by rw [upd_ne e]; exact upd_same) fun b b1 b2 => by rw [upd_ne b1, upd_ne b2]⟩⟩
theorem ok_InvalidLots {f : Addr} {fd : FuncData} (F : Fun K "__init__" "InvalidLots.__init__" s_InvalidLots___init__ f fd) (T : OexC K C) (hf : PySem.W.findIn K (.ref C) "given" = some none) : FnG P w K mg base CX0 1 f fd ["self", "given"] (spStore C 1 (fsOf 9)) := by
  refine FnG.of (F.ok sc_InvalidLots___init__ (fun vs H Q E h => store_len h) (fun cdv B up z H vs Q E hr h => ⟨_, (pss_one (ps_ost (pv 0) (pv 1))), ?_⟩))
  obtain ⟨a, xs, rfl, l, ha, k⟩ := h
  match xs, l with
  | [v], _ => exact ⟨_, rfl, _, rfl, a, C, rfl, T, hf, .inl ⟨ha, fun dx n e => k dx _ n e upd_same (by rw [upd_ne e]; exact upd_same) fun b b1 b2 => by rw [upd_ne b1, upd_ne b2]⟩⟩
theorem ok_InvalidPayoff {f : Addr} {fd : FuncData} (F : Fun K "__init__" "InvalidPayoff.__init__" s_InvalidPayoff___init__ f fd) (T : OexC K C) (hf : PySem.W.findIn K (.ref C) "given" = some none) : FnG P w K mg base CX0 1 f fd ["self", "given"] (spStore C 1 (fsOf 10)) := by
  refine FnG.of (F.ok sc_InvalidPayoff___init__ (fun vs H Q E h => store_len h) (fun cdv B up z H vs Q E hr h => ⟨_, (pss_one (ps_ost (pv 0) (pv 1))), ?_⟩))
  obtain ⟨a, xs, rfl, l, ha, k⟩ := h
  match xs, l with
  | [v], _ => exact ⟨_, rfl, _, rfl, a, C, rfl, T, hf, .inl ⟨ha, fun dx n e => k dx _ n e upd_same (by rw [upd_ne e]; exact upd_same) fun b b1 b2 => by rw [upd_ne b1, upd_ne b2]⟩⟩
theorem ok_InvalidText {f : Addr} {fd : FuncData} (F : Fun K "__init__" "InvalidText.__init__" s_InvalidText___init__ f fd) (T : OexC K C) (hf : PySem.W.findIn K (.ref C) "given" = some none) : FnG P w K mg base CX0 1 f fd ["self", "given"] (spStore C 1 (fsOf 11)) := by
  refine FnG.of (F.ok sc_InvalidText___init__ (fun vs H Q E h => store_len h) (fun cdv B up z H vs Q E hr h => ⟨_, (pss_one (ps_ost (pv 0) (pv 1))), ?_⟩))
  obtain ⟨a, xs, rfl, l, ha, k⟩ := h
  match xs, l with
  | [v], _ => exact ⟨_, rfl, _, rfl, a, C, rfl, T, hf, .inl ⟨ha, fun dx n e => k dx _ n e upd_same (by rw [upd_ne e]; exact upd_same) fun b b1 b2 => by rw [upd_ne b1, upd_ne b2]⟩⟩
theorem ok_InvalidSurrounding {f : Addr} {fd : FuncData} (F : Fun K "__init__" "InvalidSurrounding.__init__" s_InvalidSurrounding___init__ f fd) (T : OexC K C) (hf : PySem.W.findIn K (.ref C) "given" = some none) : FnG P w K mg base CX0 1 f fd ["self", "given"] (spStore C 1 (fsOf 12)) := by
  refine FnG.of (F.ok sc_InvalidSurrounding___init__ (fun vs H Q E h => store_len h) (fun cdv B up z H vs Q E hr h => ⟨_, (pss_one (ps_ost (pv 0) (pv 1))), ?_⟩))
  obtain ⟨a, xs, rfl, l, ha, k⟩ := h
  match xs, l with
  | [v], _ => exact ⟨_, rfl, _, rfl, a, C, rfl, T, hf, .inl ⟨ha, fun dx n e => k dx _ n e upd_same (by rw [upd_ne e]; exact upd_same) fun b b1 b2 => by rw [upd_ne b1, upd_ne b2]⟩⟩
theorem ok_InvalidPath {f : Addr} {fd : FuncData} (F : Fun K "__init__" "InvalidPath.__init__" s_InvalidPath___init__ f fd) (T : OexC K C) (hf : PySem.W.findIn K (.ref C) "given" = some none) : FnG P w K mg base CX0 1 f fd ["self", "given"] (spStore C 1 (fsOf 13)) := by
  refine FnG.of (F.ok sc_InvalidPath___init__ (fun vs H Q E h => store_len h) (fun cdv B up z H vs Q E hr h => ⟨_, (pss_one (ps_ost (pv 0) (pv 1))), ?_⟩))
  obtain ⟨a, xs, rfl, l, ha, k⟩ := h
  match xs, l with
  | [v], _ => exact ⟨_, rfl, _, rfl, a, C, rfl, T, hf, .inl ⟨ha, fun dx n e => k dx _ n e upd_same (by rw [upd_ne e]; exact upd_same) fun b b1 b2 => by rw [upd_ne b1, upd_ne b2]⟩⟩
theorem ok_InvalidPart {f : Addr} {fd : FuncData} (F : Fun K "__init__" "InvalidPart.__init__" s_InvalidPart___init__ f fd) (T : OexC K C) (hf : PySem.W.findIn K (.ref C) "given" = some none) : FnG P w K mg base CX0 1 f fd ["self", "given"] (spStore C 1 (fsOf 14)) := by
  refine FnG.of (F.ok sc_InvalidPart___init__ (fun vs H Q E h => store_len h) (fun cdv B up z H vs Q E hr h => ⟨_, (pss_one (ps_ost (pv 0) (pv 1))), ?_⟩))
  obtain ⟨a, xs, rfl, l, ha, k⟩ := h
  match xs, l with
  | [v], _ => exact ⟨_, rfl, _, rfl, a, C, rfl, T, hf, .inl ⟨ha, fun dx n e => k dx _ n e upd_same (by rw [upd_ne e]; exact upd_same) fun b b1 b2 => by rw [upd_ne b1, upd_ne b2]⟩⟩
theorem ok_InvalidSides {f : Addr} {fd : FuncData} (F : Fun K "__init__" "InvalidSides.__init__" s_InvalidSides___init__ f fd) (T : OexC K C) (hf : PySem.W.findIn K (.ref C) "given" = some none) : FnG P w K mg base CX0 1 f fd ["self", "given"] (spStore C 1 (fsOf 15)) := by
  refine FnG.of (F.ok sc_InvalidSides___init__ (fun vs H Q E h => store_len h) (fun cdv B up z H vs Q E hr h => ⟨_, (pss_one (ps_ost (pv 0) (pv 1))), ?_⟩))
  obtain ⟨a, xs, rfl, l, ha, k⟩ := h
  match xs, l with
  | [v], _ => exact ⟨_, rfl, _, rfl, a, C, rfl, T, hf, .inl ⟨ha, fun dx n e => k dx _ n e upd_same (by rw [upd_ne e]; exact upd_same) fun b b1 b2 => by rw [upd_ne b1, upd_ne b2]⟩⟩
theorem ok_InvalidDraws {f : Addr} {fd : FuncData} (F : Fun K "__init__" "InvalidDraws.__init__" s_InvalidDraws___init__ f fd) (T : OexC K C) (hf : PySem.W.findIn K (.ref C) "given" = some none) : FnG P w K mg base CX0 1 f fd ["self", "given"] (spStore C 1 (fsOf 16)) := by
  refine FnG.of (F.ok sc_InvalidDraws___init__ (fun vs H Q E h => store_len h) (fun cdv B up z H vs Q E hr h => ⟨_, (pss_one (ps_ost (pv 0) (pv 1))), ?_⟩))
  obtain ⟨a, xs, rfl, l, ha, k⟩ := h
  match xs, l with
  | [v], _ => exact ⟨_, rfl, _, rfl, a, C, rfl, T, hf, .inl ⟨ha, fun dx n e => k dx _ n e upd_same (by rw [upd_ne e]; exact upd_same) fun b b1 b2 => by rw [upd_ne b1, upd_ne b2]⟩⟩
theorem ok_InvalidShare {f : Addr} {fd : FuncData} (F : Fun K "__init__" "InvalidShare.__init__" s_InvalidShare___init__ f fd) (T : OexC K C) (hf : PySem.W.findIn K (.ref C) "given" = some none) : FnG P w K mg base CX0 1 f fd ["self", "given"] (spStore C 1 (fsOf 17)) := by
  refine FnG.of (F.ok sc_InvalidShare___init__ (fun vs H Q E h => store_len h) (fun cdv B up z H vs Q E hr h => ⟨_, (pss_one (ps_ost (pv 0) (pv 1))), ?_⟩))
  obtain ⟨a, xs, rfl, l, ha, k⟩ := h
  match xs, l with
  | [v], _ => exact ⟨_, rfl, _, rfl, a, C, rfl, T, hf, .inl ⟨ha, fun dx n e => k dx _ n e upd_same (by rw [upd_ne e]; exact upd_same) fun b b1 b2 => by rw [upd_ne b1, upd_ne b2]⟩⟩
theorem ok_InvalidSteps {f : Addr} {fd : FuncData} (F : Fun K "__init__" "InvalidSteps.__init__" s_InvalidSteps___init__ f fd) (T : OexC K C) (hf : PySem.W.findIn K (.ref C) "given" = some none) : FnG P w K mg base CX0 1 f fd ["self", "given"] (spStore C 1 (fsOf 18)) := by
  refine FnG.of (F.ok sc_InvalidSteps___init__ (fun vs H Q E h => store_len h) (fun cdv B up z H vs Q E hr h => ⟨_, (pss_one (ps_ost (pv 0) (pv 1))), ?_⟩))
  obtain ⟨a, xs, rfl, l, ha, k⟩ := h
  match xs, l with
  | [v], _ => exact ⟨_, rfl, _, rfl, a, C, rfl, T, hf, .inl ⟨ha, fun dx n e => k dx _ n e upd_same (by rw [upd_ne e]; exact upd_same) fun b b1 b2 => by rw [upd_ne b1, upd_ne b2]⟩⟩
theorem ok_InvalidRow {f : Addr} {fd : FuncData} (F : Fun K "__init__" "InvalidRow.__init__" s_InvalidRow___init__ f fd) (T : OexC K C) (hf : PySem.W.findIn K (.ref C) "given" = some none) : FnG P w K mg base CX0 1 f fd ["self", "given"] (spStore C 1 (fsOf 19)) := by
  refine FnG.of (F.ok sc_InvalidRow___init__ (fun vs H Q E h => store_len h) (fun cdv B up z H vs Q E hr h => ⟨_, (pss_one (ps_ost (pv 0) (pv 1))), ?_⟩))
  obtain ⟨a, xs, rfl, l, ha, k⟩ := h
  match xs, l with
  | [v], _ => exact ⟨_, rfl, _, rfl, a, C, rfl, T, hf, .inl ⟨ha, fun dx n e => k dx _ n e upd_same (by rw [upd_ne e]; exact upd_same) fun b b1 b2 => by rw [upd_ne b1, upd_ne b2]⟩⟩
theorem ok_InvalidPick {f : Addr} {fd : FuncData} (F : Fun K "__init__" "InvalidPick.__init__" s_InvalidPick___init__ f fd) (T : OexC K C) (hf : PySem.W.findIn K (.ref C) "given" = some none) : FnG P w K mg base CX0 1 f fd ["self", "given"] (spStore C 1 (fsOf 20)) := by
  refine FnG.of (F.ok sc_InvalidPick___init__ (fun vs H Q E h => store_len h) (fun cdv B up z H vs Q E hr h => ⟨_, (pss_one (ps_ost (pv 0) (pv 1))), ?_⟩))
  obtain ⟨a, xs, rfl, l, ha, k⟩ := h
  match xs, l with
  | [v], _ => exact ⟨_, rfl, _, rfl, a, C, rfl, T, hf, .inl ⟨ha, fun dx n e => k dx _ n e upd_same (by rw [upd_ne e]; exact upd_same) fun b b1 b2 => by rw [upd_ne b1, upd_ne b2]⟩⟩
theorem ok_InvalidDice {f : Addr} {fd : FuncData} (F : Fun K "__init__" "InvalidDice.__init__" s_InvalidDice___init__ f fd) (T : OexC K C) (hf : PySem.W.findIn K (.ref C) "given" = some none) : FnG P w K mg base CX0 1 f fd ["self", "given"] (spStore C 1 (fsOf 21)) := by
  refine FnG.of (F.ok sc_InvalidDice___init__ (fun vs H Q E h => store_len h) (fun cdv B up z H vs Q E hr h => ⟨_, (pss_one (ps_ost (pv 0) (pv 1))), ?_⟩))
  obtain ⟨a, xs, rfl, l, ha, k⟩ := h
  match xs, l with
  | [v], _ => exact ⟨_, rfl, _, rfl, a, C, rfl, T, hf, .inl ⟨ha, fun dx n e => k dx _ n e upd_same (by rw [upd_ne e]; exact upd_same) fun b b1 b2 => by rw [upd_ne b1, upd_ne b2]⟩⟩
theorem ok_InvalidBlend {f : Addr} {fd : FuncData} (F : Fun K "__init__" "InvalidBlend.__init__" s_InvalidBlend___init__ f fd) (T : OexC K C) (hf : PySem.W.findIn K (.ref C) "given" = some none) : FnG P w K mg base CX0 1 f fd ["self", "given"] (spStore C 1 (fsOf 22)) := by
  refine FnG.of (F.ok sc_InvalidBlend___init__ (fun vs H Q E h => store_len h) (fun cdv B up z H vs Q E hr h => ⟨_, (pss_one (ps_ost (pv 0) (pv 1))), ?_⟩))
  obtain ⟨a, xs, rfl, l, ha, k⟩ := h
  match xs, l with
  | [v], _ => exact ⟨_, rfl, _, rfl, a, C, rfl, T, hf, .inl ⟨ha, fun dx n e => k dx _ n e upd_same (by rw [upd_ne e]; exact upd_same) fun b b1 b2 => by rw [upd_ne b1, upd_ne b2]⟩⟩
theorem ok_InvalidLimits {f : Addr} {fd : FuncData} (F : Fun K "__init__" "InvalidLimits.__init__" s_InvalidLimits___init__ f fd) (T : OexC K C) (hf : PySem.W.findIn K (.ref C) "given" = some none) : FnG P w K mg base CX0 1 f fd ["self", "given"] (spStore C 1 (fsOf 23)) := by
  refine FnG.of (F.ok sc_InvalidLimits___init__ (fun vs H Q E h => store_len h) (fun cdv B up z H vs Q E hr h => ⟨_, (pss_one (ps_ost (pv 0) (pv 1))), ?_⟩))
  obtain ⟨a, xs, rfl, l, ha, k⟩ := h
  match xs, l with
  | [v], _ => exact ⟨_, rfl, _, rfl, a, C, rfl, T, hf, .inl ⟨ha, fun dx n e => k dx _ n e upd_same (by rw [upd_ne e]; exact upd_same) fun b b1 b2 => by rw [upd_ne b1, upd_ne b2]⟩⟩
theorem ok_InvalidPairs {f : Addr} {fd : FuncData} (F : Fun K "__init__" "InvalidPairs.__init__" s_InvalidPairs___init__ f fd) (T : OexC K C) (hf : PySem.W.findIn K (.ref C) "given" = some none) : FnG P w K mg base CX0 1 f fd ["self", "given"] (spStore C 1 (fsOf 24)) := by
  refine FnG.of (F.ok sc_InvalidPairs___init__ (fun vs H Q E h => store_len h) (fun cdv B up z H vs Q E hr h => ⟨_, (pss_one (ps_ost (pv 0) (pv 1))), ?_⟩))
  obtain ⟨a, xs, rfl, l, ha, k⟩ := h
  match xs, l with
  | [v], _ => exact ⟨_, rfl, _, rfl, a, C, rfl, T, hf, .inl ⟨ha, fun dx n e => k dx _ n e upd_same (by rw [upd_ne e]; exact upd_same) fun b b1 b2 => by rw [upd_ne b1, upd_ne b2]⟩⟩
theorem ok_InvalidSet {f : Addr} {fd : FuncData} (F : Fun K "__init__" "InvalidSet.__init__" s_InvalidSet___init__ f fd) (T : OexC K C) (hf : PySem.W.findIn K (.ref C) "given" = some none) : FnG P w K mg base CX0 1 f fd ["self", "given"] (spStore C 1 (fsOf 25)) := by
  refine FnG.of (F.ok sc_InvalidSet___init__ (fun vs H Q E h => store_len h) (fun cdv B up z H vs Q E hr h => ⟨_, (pss_one (ps_ost (pv 0) (pv 1))), ?_⟩))
  obtain ⟨a, xs, rfl, l, ha, k⟩ := h
  match xs, l with
  | [v], _ => exact ⟨_, rfl, _, rfl, a, C, rfl, T, hf, .inl ⟨ha, fun dx n e => k dx _ n e upd_same (by rw [upd_ne e]; exact upd_same) fun b b1 b2 => by rw [upd_ne b1, upd_ne b2]⟩⟩
theorem ok_InvalidName {f : Addr} {fd : FuncData} (F : Fun K "__init__" "InvalidName.__init__" s_InvalidName___init__ f fd) (T : OexC K C) (hf : PySem.W.findIn K (.ref C) "given" = some none) : FnG P w K mg base CX0 1 f fd ["self", "given"] (spStore C 1 (fsOf 26)) := by
  refine FnG.of (F.ok sc_InvalidName___init__ (fun vs H Q E h => store_len h) (fun cdv B up z H vs Q E hr h => ⟨_, (pss_one (ps_ost (pv 0) (pv 1))), ?_⟩))
  obtain ⟨a, xs, rfl, l, ha, k⟩ := h
  match xs, l with
  | [v], _ => exact ⟨_, rfl, _, rfl, a, C, rfl, T, hf, .inl ⟨ha, fun dx n e => k dx _ n e upd_same (by rw [upd_ne e]; exact upd_same) fun b b1 b2 => by rw [upd_ne b1, upd_ne b2]⟩⟩
theorem ok_InvalidOther {f : Addr} {fd : FuncData} (F : Fun K "__init__" "InvalidOther.__init__" s_InvalidOther___init__ f fd) (T : OexC K C) (hf : PySem.W.findIn K (.ref C) "given" = some none) : FnG P w K mg base CX0 1 f fd ["self", "given"] (spStore C 1 (fsOf 27)) := by
  refine FnG.of (F.ok sc_InvalidOther___init__ (fun vs H Q E h => store_len h) (fun cdv B up z H vs Q E hr h => ⟨_, (pss_one (ps_ost (pv 0) (pv 1))), ?_⟩))
  obtain ⟨a, xs, rfl, l, ha, k⟩ := h
  match xs, l with
  | [v], _ => exact ⟨_, rfl, _, rfl, a, C, rfl, T, hf, .inl ⟨ha, fun dx n e => k dx _ n e upd_same (by rw [upd_ne e]; exact upd_same) fun b b1 b2 => by rw [upd_ne b1, upd_ne b2]⟩⟩
theorem ok_TooMany {f : Addr} {fd : FuncData} (F : Fun K "__init__" "TooMany.__init__" s_TooMany___init__ f fd) (T : OexC K C) (hf : PySem.W.findIn K (.ref C) "count" = some none) : FnG P w K mg base CX0 1 f fd ["self", "count"] (spStore C 1 (fsOf 28)) := by
  refine FnG.of (F.ok sc_TooMany___init__ (fun vs H Q E h => store_len h) (fun cdv B up z H vs Q E hr h => ⟨_, (pss_one (ps_ost (pv 0) (pv 1))), ?_⟩))
  obtain ⟨a, xs, rfl, l, ha, k⟩ := h
  match xs, l with
  | [v], _ => exact ⟨_, rfl, _, rfl, a, C, rfl, T, hf, .inl ⟨ha, fun dx n e => k dx _ n e upd_same (by rw [upd_ne e]; exact upd_same) fun b b1 b2 => by rw [upd_ne b1, upd_ne b2]⟩⟩
theorem ok_Outside {f : Addr} {fd : FuncData} (F : Fun K "__init__" "Outside.__init__" s_Outside___init__ f fd) (T : OexC K C) (hf : PySem.W.findIn K (.ref C) "payoff" = some none) : FnG P w K mg base CX0 1 f fd ["self", "payoff"] (spStore C 1 (fsOf 29)) := by
  refine FnG.of (F.ok sc_Outside___init__ (fun vs H Q E h => store_len h) (fun cdv B up z H vs Q E hr h => ⟨_, (pss_one (ps_ost (pv 0) (pv 1))), ?_⟩))
  obtain ⟨a, xs, rfl, l, ha, k⟩ := h
  match xs, l with
  | [v], _ => exact ⟨_, rfl, _, rfl, a, C, rfl, T, hf, .inl ⟨ha, fun dx n e => k dx _ n e upd_same (by rw [upd_ne e]; exact upd_same) fun b b1 b2 => by rw [upd_ne b1, upd_ne b2]⟩⟩
theorem ok_MayGoOn {f : Addr} {fd : FuncData} (F : Fun K "__init__" "MayGoOn.__init__" s_MayGoOn___init__ f fd) (T : OexC K C) (hf : PySem.W.findIn K (.ref C) "store" = some none) : FnG P w K mg base CX0 1 f fd ["self", "store"] (spStore C 1 (fsOf 30)) := by
  refine FnG.of (F.ok sc_MayGoOn___init__ (fun vs H Q E h => store_len h) (fun cdv B up z H vs Q E hr h => ⟨_, (pss_one (ps_ost (pv 0) (pv 1))), ?_⟩))
  obtain ⟨a, xs, rfl, l, ha, k⟩ := h
  match xs, l with
  | [v], _ => exact ⟨_, rfl, _, rfl, a, C, rfl, T, hf, .inl ⟨ha, fun dx n e => k dx _ n e upd_same (by rw [upd_ne e]; exact upd_same) fun b b1 b2 => by rw [upd_ne b1, upd_ne b2]⟩⟩
theorem ok_NoThing {f : Addr} {fd : FuncData} (F : Fun K "__init__" "NoThing.__init__" s_NoThing___init__ f fd) (T : OexC K C) (hf : PySem.W.findIn K (.ref C) "name" = some none) : FnG P w K mg base CX0 1 f fd ["self", "name"] (spStore C 1 (fsOf 31)) := by
  refine FnG.of (F.ok sc_NoThing___init__ (fun vs H Q E h => store_len h) (fun cdv B up z H vs Q E hr h => ⟨_, (pss_one (ps_ost (pv 0) (pv 1))), ?_⟩))
  obtain ⟨a, xs, rfl, l, ha, k⟩ := h
  match xs, l with
  | [v], _ => exact ⟨_, rfl, _, rfl, a, C, rfl, T, hf, .inl ⟨ha, fun dx n e => k dx _ n e upd_same (by rw [upd_ne e]; exact upd_same) fun b b1 b2 => by rw [upd_ne b1, upd_ne b2]⟩⟩
theorem ok_NotBrought {f : Addr} {fd : FuncData} (F : Fun K "__init__" "NotBrought.__init__" s_NotBrought___init__ f fd) (T : OexC K C) (hf : PySem.W.findIn K (.ref C) "payoff" = some none) (hg : PySem.W.findIn K (.ref C) "table" = some none) : FnG P w K mg base CX0 1 f fd ["self", "payoff", "table"] (spStore C 2 (fsOf 32)) := by
  refine FnG.of (F.ok sc_NotBrought___init__ (fun vs H Q E h => store_len h) (fun cdv B up z H vs Q E hr h => ⟨_, (pss_cons (ps_ost (pv 0) (pv 1)) (pss_one (ps_ost (pv 0) (pv 2)))), ?_⟩))
  obtain ⟨a, xs, rfl, l, ha, k⟩ := h
  match xs, l with
  | [v, u], _ => exact ⟨_, rfl, _, rfl, a, C, rfl, T, hf, .inl ⟨ha, fun dx n e => ⟨_, rfl, _, rfl, a, C, rfl, T, hg, .inr ⟨dx, [("payoff", v)], upd_same, (by rw [upd_ne e]; exact upd_same), (show (1 : Nat) ≤ 900 by decide), k dx _ n e (by rw [upd_ne (Ne.symm e)]; exact upd_same) upd_same fun b b1 b2 => by rw [upd_ne b2, upd_ne b1, upd_ne b2]⟩⟩⟩⟩
theorem ok_MayStay {f : Addr} {fd : FuncData} (F : Fun K "__init__" "MayStay.__init__" s_MayStay___init__ f fd) (T : OexC K C) (hf : PySem.W.findIn K (.ref C) "way" = some none) (hg : PySem.W.findIn K (.ref C) "rows" = some none) : FnG P w K mg base CX0 1 f fd ["self", "way", "rows"] (spStore C 2 (fsOf 33)) := by
  refine FnG.of (F.ok sc_MayStay___init__ (fun vs H Q E h => store_len h) (fun cdv B up z H vs Q E hr h => ⟨_, (pss_cons (ps_ost (pv 0) (pv 1)) (pss_one (ps_ost (pv 0) (pv 2)))), ?_⟩))
  obtain ⟨a, xs, rfl, l, ha, k⟩ := h
  match xs, l with
  | [v, u], _ => exact ⟨_, rfl, _, rfl, a, C, rfl, T, hf, .inl ⟨ha, fun dx n e => ⟨_, rfl, _, rfl, a, C, rfl, T, hg, .inr ⟨dx, [("way", v)], upd_same, (by rw [upd_ne e]; exact upd_same), (show (1 : Nat) ≤ 900 by decide), k dx _ n e (by rw [upd_ne (Ne.symm e)]; exact upd_same) upd_same fun b b1 b2 => by rw [upd_ne b2, upd_ne b1, upd_ne b2]⟩⟩⟩⟩
theorem ok_TwoLots {f : Addr} {fd : FuncData} (F : Fun K "__init__" "TwoLots.__init__" s_TwoLots___init__ f fd) (T : OexC K C) (hf : PySem.W.findIn K (.ref C) "one" = some none) (hg : PySem.W.findIn K (.ref C) "other" = some none) : FnG P w K mg base CX0 1 f fd ["self", "one", "other"] (spStore C 2 (fsOf 34)) := by
  refine FnG.of (F.ok sc_TwoLots___init__ (fun vs H Q E h => store_len h) (fun cdv B up z H vs Q E hr h => ⟨_, (pss_cons (ps_ost (pv 0) (pv 1)) (pss_one (ps_ost (pv 0) (pv 2)))), ?_⟩))
  obtain ⟨a, xs, rfl, l, ha, k⟩ := h
  match xs, l with
  | [v, u], _ => exact ⟨_, rfl, _, rfl, a, C, rfl, T, hf, .inl ⟨ha, fun dx n e => ⟨_, rfl, _, rfl, a, C, rfl, T, hg, .inr ⟨dx, [("one", v)], upd_same, (by rw [upd_ne e]; exact upd_same), (show (1 : Nat) ≤ 900 by decide), k dx _ n e (by rw [upd_ne (Ne.symm e)]; exact upd_same) upd_same fun b b1 b2 => by rw [upd_ne b2, upd_ne b1, upd_ne b2]⟩⟩⟩⟩
theorem ok_NotKept {f : Addr} {fd : FuncData} (F : Fun K "__init__" "NotKept.__init__" s_NotKept___init__ f fd) (T : OexC K C) (hf : PySem.W.findIn K (.ref C) "fees" = some none) (hg : PySem.W.findIn K (.ref C) "table" = some none) : FnG P w K mg base CX0 1 f fd ["self", "fees", "table"] (spStore C 2 (fsOf 35)) := by
  refine FnG.of (F.ok sc_NotKept___init__ (fun vs H Q E h => store_len h) (fun cdv B up z H vs Q E hr h => ⟨_, (pss_cons (ps_ost (pv 0) (pv 1)) (pss_one (ps_ost (pv 0) (pv 2)))), ?_⟩))
  obtain ⟨a, xs, rfl, l, ha, k⟩ := h
  match xs, l with
  | [v, u], _ => exact ⟨_, rfl, _, rfl, a, C, rfl, T, hf, .inl ⟨ha, fun dx n e => ⟨_, rfl, _, rfl, a, C, rfl, T, hg, .inr ⟨dx, [("fees", v)], upd_same, (by rw [upd_ne e]; exact upd_same), (show (1 : Nat) ≤ 900 by decide), k dx _ n e (by rw [upd_ne (Ne.symm e)]; exact upd_same) upd_same fun b b1 b2 => by rw [upd_ne b2, upd_ne b1, upd_ne b2]⟩⟩⟩⟩
theorem ok_NoCommon {f : Addr} {fd : FuncData} (F : Fun K "__init__" "NoCommon.__init__" s_NoCommon___init__ f fd) (T : OexC K C) (hf : PySem.W.findIn K (.ref C) "payoffs" = some none) (hg : PySem.W.findIn K (.ref C) "tables" = some none) : FnG P w K mg base CX0 1 f fd ["self", "payoffs", "tables"] (spStore C 2 (fsOf 36)) := by
  refine FnG.of (F.ok sc_NoCommon___init__ (fun vs H Q E h => store_len h) (fun cdv B up z H vs Q E hr h => ⟨_, (pss_cons (ps_ost (pv 0) (pv 1)) (pss_one (ps_ost (pv 0) (pv 2)))), ?_⟩))
  obtain ⟨a, xs, rfl, l, ha, k⟩ := h
  match xs, l with
  | [v, u], _ => exact ⟨_, rfl, _, rfl, a, C, rfl, T, hf, .inl ⟨ha, fun dx n e => ⟨_, rfl, _, rfl, a, C, rfl, T, hg, .inr ⟨dx, [("payoffs", v)], upd_same, (by rw [upd_ne e]; exact upd_same), (show (1 : Nat) ≤ 900 by decide), k dx _ n e (by rw [upd_ne (Ne.symm e)]; exact upd_same) upd_same fun b b1 b2 => by rw [upd_ne b2, upd_ne b1, upd_ne b2]⟩⟩⟩⟩
end

end Eld
set_option Elab.async false
set_option maxRecDepth 100000
set_option maxHeartbeats 4000000
set_option linter.all false
namespace Eld
open PySem L2
local macro_rules | `(tactic| walk_at "r1") => `(tactic| with_reducible first
  | refine r_seq ?_ | refine r_asgN ?_ | refine r_asg ?_ | refine r_gname ?_ | refine r_gsub ?_ | refine r_var rfl ?_ | refine r_c ?_ | refine r_op ?_ | refine r_un ?_ | refine r_u ?_ | refine r_i0 ?_ | refine r_cb ?_ | refine r_cons ?_ | refine r_nil ?_ | refine r_cl ?_ | refine r_fn rfl rfl ?_ | refine r_mt ?_
  | refine r_test ?_ | refine r_tb ?_ | refine r_bl ?_ | refine r_and ?_ | refine r_or ?_ | refine r_not ?_ | refine r_andV ?_ | refine r_orV ?_ | refine r_notV ?_ | refine r_ifX ?_ | refine r_ifs ?_ | refine r_chain ?_ | refine r_ret ?_ | refine r_next ?_ | refine r_drop ?_ | refine iteT ?_ | refine iteF ?_ | refine iteNT ?_ | refine iteNF ?_
  | refine r_int1 ?_ | refine r_boolB ?_ | refine r_eqI ?_ | refine r_neI ?_ | refine r_eqB ?_ | refine r_neB ?_ | refine r_eqS ?_ | refine r_neS ?_ | refine r_abs ?_ | refine r_max2 ?_ | refine r_min2 ?_ | refine r_yes ?_ | refine r_tup ?_ | refine r_sfld ?_ | refine r_m0 ?_ | refine r_m1 ?_ | refine r_lst ?_ | refine r_rng1 ?_ | refine r_rng2 ?_ | refine r_ixL (SqL.of (by assumption)) rfl ?_)
local macro_rules | `(tactic| walk_at "r") => `(tactic| repeat (first | walk_at "r1" | ((with_reducible refine r_var ?hv ?_); (case hv => rfl))))

/-! ## lists of errors -/
def Acc (E : Nat → Addr) (H : Hp) (vs : List V) : Nat → List V → Prop
  | _, [] => True
  | i, x :: xs => (∃ a, x = .ref a ∧ XV H a (E i) (fsOf i vs)) ∧ Acc E H vs (i + 1) xs
theorem Acc.same {E : Nat → Addr} {H G : Hp} {vs : List V} (s : Same H G) : ∀ {xs : List V} {i : Nat}, Acc E H vs i xs → Acc E G vs i xs
  | [], _, _ => True.intro
  | _ :: _, _, ⟨⟨a, e, x⟩, t⟩ => ⟨⟨a, e, x.same s⟩, Acc.same s t⟩
theorem Acc.append {E : Nat → Addr} {H : Hp} {vs : List V} : ∀ {xs ys : List V} {i : Nat}, Acc E H vs i xs → Acc E H vs (i + xs.length) ys → Acc E H vs i (xs ++ ys)
  | [], _, _, _, h => h
  | x :: xs, ys, i, ⟨h, t⟩, k => ⟨h, Acc.append t (by rw [show i + 1 + xs.length = i + (x :: xs).length from by rw [List.length_cons]; omega]; exact k)⟩
theorem Acc.get {E : Nat → Addr} {H : Hp} {vs : List V} : ∀ {xs : List V} {i k : Nat} {x : V}, Acc E H vs i xs → xs[k]? = some x → ∃ a, x = .ref a ∧ XV H a (E (i + k)) (fsOf (i + k) vs)
  | [], _, _, _, _, e => by simp at e
  | y :: ys, i, 0, x, ⟨h, _⟩, e => by
    cases e
    exact h
  | y :: ys, i, k + 1, x, ⟨_, t⟩, e => by
    obtain ⟨a, e1, e2⟩ := Acc.get t (by simpa using e)
    exact ⟨a, e1, by rw [show i + (k + 1) = i + 1 + k from by omega]; exact e2⟩
/-- the 32 errors with one field; the five with two -/
def spMany (E : Nat → Addr) : Sp := fun vs H Q _ => ∃ v, vs = [v] ∧ ∀ G L xs, Same H G → H L = none → G L = some (.lst xs) → xs.length = 32 → Acc E G [v] 0 xs → Q (.ref L) G
def spPairs (E : Nat → Addr) : Sp := fun vs H Q _ => ∃ u v way, vs = [u, v, .int way] ∧ 0 ≤ way ∧ way < 4 ∧ ∀ G L xs, Same H G → H L = none → G L = some (.lst xs) → xs.length = 5 → Acc E G [u, v] 32 xs → Q (.ref L) G
theorem r_catE {E : Nat → Addr} {H : Hp} {vs : List V} {i : Nat} {l b : Addr} {xs zs : List V} {Q : VK} (hl : H l = some (.lst xs)) (hb : H b = some (.lst zs)) (few : xs.length + zs.length ≤ 100) (h1 : Acc E H vs i xs) (h2 : Acc E H vs (i + xs.length) zs)
    (h : ∀ p G, H p = none → Same H G → G p = some (.lst (xs ++ zs)) → Acc E G vs i (xs ++ zs) → Q (.ref p) G) : rCat (.ref l) (.ref b) H Q :=
  ⟨l, b, xs, zs, rfl, rfl, hl, hb, by rw [sizeLine_eq]; omega, fun p hp => h p _ hp (Same.upd_new hp) upd_same ((Acc.append h1 h2).same (Same.upd_new hp))⟩
section
variable {P : Program} {w : World} {K : PySem.W.Frag} {mg : Str → Option Value} {base : Heap} {E : Nat → Addr} {cE : Addr}
theorem ok_by_place {f : Addr} {fd : FuncData} (F : Fun K "_law_by_place" "_law_by_place" s__law_by_place f fd) (ER : Er P w K mg base E cE) : FnG P w K mg base CX0 3 f fd ["thing"] (spMany E) := by
  refine okG F sc__law_by_place (fun vs H Q E' h => ?_) (fun cdv B up z H vs Q E' hG hr h => ?_)
  · obtain ⟨v, rfl, _⟩ := h
    rfl
  · obtain ⟨v, rfl, k⟩ := h
    refine ⟨_, (pss_cons (ps_set (i := 1) sc__law_by_place.nd rfl (by first | exact Or.inl rfl | exact Or.inr rfl) (pe_lst (pa_cons (px_pos ER.p0 hG hr (by decide) (by rfl) (pa_cons (pv 0) pa_nil)) (pa_cons (px_pos ER.p1 hG hr (by decide) (by rfl) (pa_cons (pv 0) pa_nil)) (pa_cons (px_pos ER.p2 hG hr (by decide) (by rfl) (pa_cons (pv 0) pa_nil)) (pa_cons (px_pos ER.p3 hG hr (by decide) (by rfl) (pa_cons (pv 0) pa_nil)) (pa_cons (px_pos ER.p4 hG hr (by decide) (by rfl) (pa_cons (pv 0) pa_nil)) pa_nil)))))))
  (pss_cons (ps_set (i := 1) sc__law_by_place.nd rfl (by first | exact Or.inl rfl | exact Or.inr rfl) (pe_op op_cat (pv 1) (pe_lst (pa_cons (px_pos ER.p5 hG hr (by decide) (by rfl) (pa_cons (pv 0) pa_nil)) (pa_cons (px_pos ER.p6 hG hr (by decide) (by rfl) (pa_cons (pv 0) pa_nil)) (pa_cons (px_pos ER.p7 hG hr (by decide) (by rfl) (pa_cons (pv 0) pa_nil)) (pa_cons (px_pos ER.p8 hG hr (by decide) (by rfl) (pa_cons (pv 0) pa_nil)) pa_nil)))))))
  (pss_cons (ps_set (i := 1) sc__law_by_place.nd rfl (by first | exact Or.inl rfl | exact Or.inr rfl) (pe_op op_cat (pv 1) (pe_lst (pa_cons (px_pos ER.p9 hG hr (by decide) (by rfl) (pa_cons (pv 0) pa_nil)) (pa_cons (px_pos ER.p10 hG hr (by decide) (by rfl) (pa_cons (pv 0) pa_nil)) (pa_cons (px_pos ER.p11 hG hr (by decide) (by rfl) (pa_cons (pv 0) pa_nil)) (pa_cons (px_pos ER.p12 hG hr (by decide) (by rfl) (pa_cons (pv 0) pa_nil)) pa_nil)))))))
  (pss_cons (ps_set (i := 1) sc__law_by_place.nd rfl (by first | exact Or.inl rfl | exact Or.inr rfl) (pe_op op_cat (pv 1) (pe_lst (pa_cons (px_pos ER.p13 hG hr (by decide) (by rfl) (pa_cons (pv 0) pa_nil)) (pa_cons (px_pos ER.p14 hG hr (by decide) (by rfl) (pa_cons (pv 0) pa_nil)) (pa_cons (px_pos ER.p15 hG hr (by decide) (by rfl) (pa_cons (pv 0) pa_nil)) (pa_cons (px_pos ER.p16 hG hr (by decide) (by rfl) (pa_cons (pv 0) pa_nil)) pa_nil)))))))
  (pss_cons (ps_set (i := 1) sc__law_by_place.nd rfl (by first | exact Or.inl rfl | exact Or.inr rfl) (pe_op op_cat (pv 1) (pe_lst (pa_cons (px_pos ER.p17 hG hr (by decide) (by rfl) (pa_cons (pv 0) pa_nil)) (pa_cons (px_pos ER.p18 hG hr (by decide) (by rfl) (pa_cons (pv 0) pa_nil)) (pa_cons (px_pos ER.p19 hG hr (by decide) (by rfl) (pa_cons (pv 0) pa_nil)) (pa_cons (px_pos ER.p20 hG hr (by decide) (by rfl) (pa_cons (pv 0) pa_nil)) pa_nil)))))))
  (pss_cons (ps_set (i := 1) sc__law_by_place.nd rfl (by first | exact Or.inl rfl | exact Or.inr rfl) (pe_op op_cat (pv 1) (pe_lst (pa_cons (px_pos ER.p21 hG hr (by decide) (by rfl) (pa_cons (pv 0) pa_nil)) (pa_cons (px_pos ER.p22 hG hr (by decide) (by rfl) (pa_cons (pv 0) pa_nil)) (pa_cons (px_pos ER.p23 hG hr (by decide) (by rfl) (pa_cons (pv 0) pa_nil)) (pa_cons (px_pos ER.p24 hG hr (by decide) (by rfl) (pa_cons (pv 0) pa_nil)) pa_nil)))))))
  (pss_cons (ps_set (i := 1) sc__law_by_place.nd rfl (by first | exact Or.inl rfl | exact Or.inr rfl) (pe_op op_cat (pv 1) (pe_lst (pa_cons (px_pos ER.p25 hG hr (by decide) (by rfl) (pa_cons (pv 0) pa_nil)) (pa_cons (px_pos ER.p26 hG hr (by decide) (by rfl) (pa_cons (pv 0) pa_nil)) (pa_cons (px_pos ER.p27 hG hr (by decide) (by rfl) (pa_cons (pv 0) pa_nil)) pa_nil))))))
  (pss_one (ps_ret (pe_op op_cat (pv 1) (pe_lst (pa_cons (px_pos ER.p28 hG hr (by decide) (by rfl) (pa_cons (pv 0) pa_nil)) (pa_cons (px_pos ER.p29 hG hr (by decide) (by rfl) (pa_cons (pv 0) pa_nil)) (pa_cons (px_pos ER.p30 hG hr (by decide) (by rfl) (pa_cons (pv 0) pa_nil)) (pa_cons (px_pos ER.p31 hG hr (by decide) (by rfl) (pa_cons (pv 0) pa_nil)) pa_nil))))))))))))))), ?_⟩
    walk_at "r"
    refine r_mkE rfl rfl fun a0 G0 n0 s0 x0 => ?_
    walk_at "r"
    refine r_mkE rfl rfl fun a1 G1 n1 s1 x1 => ?_
    walk_at "r"
    refine r_mkE rfl rfl fun a2 G2 n2 s2 x2 => ?_
    walk_at "r"
    refine r_mkE rfl rfl fun a3 G3 n3 s3 x3 => ?_
    walk_at "r"
    refine r_mkE rfl rfl fun a4 G4 n4 s4 x4 => ?_
    walk_at "r"
    refine ⟨by show 5 ≤ sizeLine; decide, fun p0 hp => ?_⟩
    have ac0 : Acc E (upd G4 p0 (.lst [.ref a0, .ref a1, .ref a2, .ref a3, .ref a4])) [v] 0 [.ref a0, .ref a1, .ref a2, .ref a3, .ref a4] := ⟨⟨_, rfl, x0.same (s1.trans (s2.trans (s3.trans (s4.trans (Same.upd_new hp)))))⟩, ⟨⟨_, rfl, x1.same (s2.trans (s3.trans (s4.trans (Same.upd_new hp))))⟩, ⟨⟨_, rfl, x2.same (s3.trans (s4.trans (Same.upd_new hp)))⟩, ⟨⟨_, rfl, x3.same (s4.trans (Same.upd_new hp))⟩, ⟨⟨_, rfl, x4.same (Same.upd_new hp)⟩, True.intro⟩⟩⟩⟩⟩
    have sa0 : Same H (upd G4 p0 (.lst [.ref a0, .ref a1, .ref a2, .ref a3, .ref a4])) := (s0.trans (s1.trans (s2.trans (s3.trans (s4.trans (Same.upd_new hp))))))
    have ne0 : H p0 = none := (s0.free (s1.free (s2.free (s3.free (s4.free hp)))))
    have li0 : (upd G4 p0 (.lst [.ref a0, .ref a1, .ref a2, .ref a3, .ref a4])) p0 = some (.lst [.ref a0, .ref a1, .ref a2, .ref a3, .ref a4]) := upd_same
    generalize (upd G4 p0 (.lst [.ref a0, .ref a1, .ref a2, .ref a3, .ref a4])) = D0 at ac0 sa0 li0 ⊢
    have ln0 : ([.ref a0, .ref a1, .ref a2, .ref a3, .ref a4] : List V).length = 5 := rfl
    generalize ([.ref a0, .ref a1, .ref a2, .ref a3, .ref a4] : List V) = xs0 at ac0 li0 ln0
    clear x0 s0 n0 x1 s1 n1 x2 s2 n2 x3 s3 n3 x4 s4 n4 hp
    walk_at "r"
    refine r_mkE rfl rfl fun a0 G0 n0 s0 x0 => ?_
    walk_at "r"
    refine r_mkE rfl rfl fun a1 G1 n1 s1 x1 => ?_
    walk_at "r"
    refine r_mkE rfl rfl fun a2 G2 n2 s2 x2 => ?_
    walk_at "r"
    refine r_mkE rfl rfl fun a3 G3 n3 s3 x3 => ?_
    walk_at "r"
    refine ⟨by show 4 ≤ sizeLine; decide, fun p1 hp => ?_⟩
    have ac1 : Acc E (upd G3 p1 (.lst [.ref a0, .ref a1, .ref a2, .ref a3])) [v] 5 [.ref a0, .ref a1, .ref a2, .ref a3] := ⟨⟨_, rfl, x0.same (s1.trans (s2.trans (s3.trans (Same.upd_new hp))))⟩, ⟨⟨_, rfl, x1.same (s2.trans (s3.trans (Same.upd_new hp)))⟩, ⟨⟨_, rfl, x2.same (s3.trans (Same.upd_new hp))⟩, ⟨⟨_, rfl, x3.same (Same.upd_new hp)⟩, True.intro⟩⟩⟩⟩
    have sa1 : Same D0 (upd G3 p1 (.lst [.ref a0, .ref a1, .ref a2, .ref a3])) := (s0.trans (s1.trans (s2.trans (s3.trans (Same.upd_new hp)))))
    have ne1 : D0 p1 = none := (s0.free (s1.free (s2.free (s3.free hp))))
    have li1 : (upd G3 p1 (.lst [.ref a0, .ref a1, .ref a2, .ref a3])) p1 = some (.lst [.ref a0, .ref a1, .ref a2, .ref a3]) := upd_same
    generalize (upd G3 p1 (.lst [.ref a0, .ref a1, .ref a2, .ref a3])) = D1 at ac1 sa1 li1 ⊢
    have ln1 : ([.ref a0, .ref a1, .ref a2, .ref a3] : List V).length = 4 := rfl
    generalize ([.ref a0, .ref a1, .ref a2, .ref a3] : List V) = xs1 at ac1 li1 ln1
    clear x0 s0 n0 x1 s1 n1 x2 s2 n2 x3 s3 n3 hp
    walk_at "r"
    refine r_catE (sa1 _ _ li0) li1 (by omega) (ac0.same sa1) (by rw [ln0]; exact ac1) fun q1 F1 hq1 t1 f1 b1 => ?_
    have S1 : Same H F1 := sa0.trans (sa1.trans t1)
    have N1 : H q1 = none := sa0.free (sa1.free hq1)
    have L1 : (xs0 ++ xs1).length = 9 := by rw [List.length_append, ln0, ln1]
    generalize xs0 ++ xs1 = ys1 at f1 b1 L1
    walk_at "r"
    refine r_mkE rfl rfl fun a0 G0 n0 s0 x0 => ?_
    walk_at "r"
    refine r_mkE rfl rfl fun a1 G1 n1 s1 x1 => ?_
    walk_at "r"
    refine r_mkE rfl rfl fun a2 G2 n2 s2 x2 => ?_
    walk_at "r"
    refine r_mkE rfl rfl fun a3 G3 n3 s3 x3 => ?_
    walk_at "r"
    refine ⟨by show 4 ≤ sizeLine; decide, fun p2 hp => ?_⟩
    have ac2 : Acc E (upd G3 p2 (.lst [.ref a0, .ref a1, .ref a2, .ref a3])) [v] 9 [.ref a0, .ref a1, .ref a2, .ref a3] := ⟨⟨_, rfl, x0.same (s1.trans (s2.trans (s3.trans (Same.upd_new hp))))⟩, ⟨⟨_, rfl, x1.same (s2.trans (s3.trans (Same.upd_new hp)))⟩, ⟨⟨_, rfl, x2.same (s3.trans (Same.upd_new hp))⟩, ⟨⟨_, rfl, x3.same (Same.upd_new hp)⟩, True.intro⟩⟩⟩⟩
    have sa2 : Same F1 (upd G3 p2 (.lst [.ref a0, .ref a1, .ref a2, .ref a3])) := (s0.trans (s1.trans (s2.trans (s3.trans (Same.upd_new hp)))))
    have ne2 : F1 p2 = none := (s0.free (s1.free (s2.free (s3.free hp))))
    have li2 : (upd G3 p2 (.lst [.ref a0, .ref a1, .ref a2, .ref a3])) p2 = some (.lst [.ref a0, .ref a1, .ref a2, .ref a3]) := upd_same
    generalize (upd G3 p2 (.lst [.ref a0, .ref a1, .ref a2, .ref a3])) = D2 at ac2 sa2 li2 ⊢
    have ln2 : ([.ref a0, .ref a1, .ref a2, .ref a3] : List V).length = 4 := rfl
    generalize ([.ref a0, .ref a1, .ref a2, .ref a3] : List V) = xs2 at ac2 li2 ln2
    clear x0 s0 n0 x1 s1 n1 x2 s2 n2 x3 s3 n3 hp
    walk_at "r"
    refine r_catE (sa2 _ _ f1) li2 (by omega) (b1.same sa2) (by rw [L1]; exact ac2) fun q2 F2 hq2 t2 f2 b2 => ?_
    have S2 : Same H F2 := S1.trans (sa2.trans t2)
    have N2 : H q2 = none := S1.free (sa2.free hq2)
    have L2 : (ys1 ++ xs2).length = 13 := by rw [List.length_append, L1, ln2]
    generalize ys1 ++ xs2 = ys2 at f2 b2 L2
    walk_at "r"
    refine r_mkE rfl rfl fun a0 G0 n0 s0 x0 => ?_
    walk_at "r"
    refine r_mkE rfl rfl fun a1 G1 n1 s1 x1 => ?_
    walk_at "r"
    refine r_mkE rfl rfl fun a2 G2 n2 s2 x2 => ?_
    walk_at "r"
    refine r_mkE rfl rfl fun a3 G3 n3 s3 x3 => ?_
    walk_at "r"
    refine ⟨by show 4 ≤ sizeLine; decide, fun p3 hp => ?_⟩
    have ac3 : Acc E (upd G3 p3 (.lst [.ref a0, .ref a1, .ref a2, .ref a3])) [v] 13 [.ref a0, .ref a1, .ref a2, .ref a3] := ⟨⟨_, rfl, x0.same (s1.trans (s2.trans (s3.trans (Same.upd_new hp))))⟩, ⟨⟨_, rfl, x1.same (s2.trans (s3.trans (Same.upd_new hp)))⟩, ⟨⟨_, rfl, x2.same (s3.trans (Same.upd_new hp))⟩, ⟨⟨_, rfl, x3.same (Same.upd_new hp)⟩, True.intro⟩⟩⟩⟩
    have sa3 : Same F2 (upd G3 p3 (.lst [.ref a0, .ref a1, .ref a2, .ref a3])) := (s0.trans (s1.trans (s2.trans (s3.trans (Same.upd_new hp)))))
    have ne3 : F2 p3 = none := (s0.free (s1.free (s2.free (s3.free hp))))
    have li3 : (upd G3 p3 (.lst [.ref a0, .ref a1, .ref a2, .ref a3])) p3 = some (.lst [.ref a0, .ref a1, .ref a2, .ref a3]) := upd_same
    generalize (upd G3 p3 (.lst [.ref a0, .ref a1, .ref a2, .ref a3])) = D3 at ac3 sa3 li3 ⊢
    have ln3 : ([.ref a0, .ref a1, .ref a2, .ref a3] : List V).length = 4 := rfl
    generalize ([.ref a0, .ref a1, .ref a2, .ref a3] : List V) = xs3 at ac3 li3 ln3
    clear x0 s0 n0 x1 s1 n1 x2 s2 n2 x3 s3 n3 hp
    walk_at "r"
    refine r_catE (sa3 _ _ f2) li3 (by omega) (b2.same sa3) (by rw [L2]; exact ac3) fun q3 F3 hq3 t3 f3 b3 => ?_
    have S3 : Same H F3 := S2.trans (sa3.trans t3)
    have N3 : H q3 = none := S2.free (sa3.free hq3)
    have L3 : (ys2 ++ xs3).length = 17 := by rw [List.length_append, L2, ln3]
    generalize ys2 ++ xs3 = ys3 at f3 b3 L3
    walk_at "r"
    refine r_mkE rfl rfl fun a0 G0 n0 s0 x0 => ?_
    walk_at "r"
    refine r_mkE rfl rfl fun a1 G1 n1 s1 x1 => ?_
    walk_at "r"
    refine r_mkE rfl rfl fun a2 G2 n2 s2 x2 => ?_
    walk_at "r"
    refine r_mkE rfl rfl fun a3 G3 n3 s3 x3 => ?_
    walk_at "r"
    refine ⟨by show 4 ≤ sizeLine; decide, fun p4 hp => ?_⟩
    have ac4 : Acc E (upd G3 p4 (.lst [.ref a0, .ref a1, .ref a2, .ref a3])) [v] 17 [.ref a0, .ref a1, .ref a2, .ref a3] := ⟨⟨_, rfl, x0.same (s1.trans (s2.trans (s3.trans (Same.upd_new hp))))⟩, ⟨⟨_, rfl, x1.same (s2.trans (s3.trans (Same.upd_new hp)))⟩, ⟨⟨_, rfl, x2.same (s3.trans (Same.upd_new hp))⟩, ⟨⟨_, rfl, x3.same (Same.upd_new hp)⟩, True.intro⟩⟩⟩⟩
    have sa4 : Same F3 (upd G3 p4 (.lst [.ref a0, .ref a1, .ref a2, .ref a3])) := (s0.trans (s1.trans (s2.trans (s3.trans (Same.upd_new hp)))))
    have ne4 : F3 p4 = none := (s0.free (s1.free (s2.free (s3.free hp))))
    have li4 : (upd G3 p4 (.lst [.ref a0, .ref a1, .ref a2, .ref a3])) p4 = some (.lst [.ref a0, .ref a1, .ref a2, .ref a3]) := upd_same
    generalize (upd G3 p4 (.lst [.ref a0, .ref a1, .ref a2, .ref a3])) = D4 at ac4 sa4 li4 ⊢
    have ln4 : ([.ref a0, .ref a1, .ref a2, .ref a3] : List V).length = 4 := rfl
    generalize ([.ref a0, .ref a1, .ref a2, .ref a3] : List V) = xs4 at ac4 li4 ln4
    clear x0 s0 n0 x1 s1 n1 x2 s2 n2 x3 s3 n3 hp
    walk_at "r"
    refine r_catE (sa4 _ _ f3) li4 (by omega) (b3.same sa4) (by rw [L3]; exact ac4) fun q4 F4 hq4 t4 f4 b4 => ?_
    have S4 : Same H F4 := S3.trans (sa4.trans t4)
    have N4 : H q4 = none := S3.free (sa4.free hq4)
    have L4 : (ys3 ++ xs4).length = 21 := by rw [List.length_append, L3, ln4]
    generalize ys3 ++ xs4 = ys4 at f4 b4 L4
    walk_at "r"
    refine r_mkE rfl rfl fun a0 G0 n0 s0 x0 => ?_
    walk_at "r"
    refine r_mkE rfl rfl fun a1 G1 n1 s1 x1 => ?_
    walk_at "r"
    refine r_mkE rfl rfl fun a2 G2 n2 s2 x2 => ?_
    walk_at "r"
    refine r_mkE rfl rfl fun a3 G3 n3 s3 x3 => ?_
    walk_at "r"
    refine ⟨by show 4 ≤ sizeLine; decide, fun p5 hp => ?_⟩
    have ac5 : Acc E (upd G3 p5 (.lst [.ref a0, .ref a1, .ref a2, .ref a3])) [v] 21 [.ref a0, .ref a1, .ref a2, .ref a3] := ⟨⟨_, rfl, x0.same (s1.trans (s2.trans (s3.trans (Same.upd_new hp))))⟩, ⟨⟨_, rfl, x1.same (s2.trans (s3.trans (Same.upd_new hp)))⟩, ⟨⟨_, rfl, x2.same (s3.trans (Same.upd_new hp))⟩, ⟨⟨_, rfl, x3.same (Same.upd_new hp)⟩, True.intro⟩⟩⟩⟩
    have sa5 : Same F4 (upd G3 p5 (.lst [.ref a0, .ref a1, .ref a2, .ref a3])) := (s0.trans (s1.trans (s2.trans (s3.trans (Same.upd_new hp)))))
    have ne5 : F4 p5 = none := (s0.free (s1.free (s2.free (s3.free hp))))
    have li5 : (upd G3 p5 (.lst [.ref a0, .ref a1, .ref a2, .ref a3])) p5 = some (.lst [.ref a0, .ref a1, .ref a2, .ref a3]) := upd_same
    generalize (upd G3 p5 (.lst [.ref a0, .ref a1, .ref a2, .ref a3])) = D5 at ac5 sa5 li5 ⊢
    have ln5 : ([.ref a0, .ref a1, .ref a2, .ref a3] : List V).length = 4 := rfl
    generalize ([.ref a0, .ref a1, .ref a2, .ref a3] : List V) = xs5 at ac5 li5 ln5
    clear x0 s0 n0 x1 s1 n1 x2 s2 n2 x3 s3 n3 hp
    walk_at "r"
    refine r_catE (sa5 _ _ f4) li5 (by omega) (b4.same sa5) (by rw [L4]; exact ac5) fun q5 F5 hq5 t5 f5 b5 => ?_
    have S5 : Same H F5 := S4.trans (sa5.trans t5)
    have N5 : H q5 = none := S4.free (sa5.free hq5)
    have L5 : (ys4 ++ xs5).length = 25 := by rw [List.length_append, L4, ln5]
    generalize ys4 ++ xs5 = ys5 at f5 b5 L5
    walk_at "r"
    refine r_mkE rfl rfl fun a0 G0 n0 s0 x0 => ?_
    walk_at "r"
    refine r_mkE rfl rfl fun a1 G1 n1 s1 x1 => ?_
    walk_at "r"
    refine r_mkE rfl rfl fun a2 G2 n2 s2 x2 => ?_
    walk_at "r"
    refine ⟨by show 3 ≤ sizeLine; decide, fun p6 hp => ?_⟩
    have ac6 : Acc E (upd G2 p6 (.lst [.ref a0, .ref a1, .ref a2])) [v] 25 [.ref a0, .ref a1, .ref a2] := ⟨⟨_, rfl, x0.same (s1.trans (s2.trans (Same.upd_new hp)))⟩, ⟨⟨_, rfl, x1.same (s2.trans (Same.upd_new hp))⟩, ⟨⟨_, rfl, x2.same (Same.upd_new hp)⟩, True.intro⟩⟩⟩
    have sa6 : Same F5 (upd G2 p6 (.lst [.ref a0, .ref a1, .ref a2])) := (s0.trans (s1.trans (s2.trans (Same.upd_new hp))))
    have ne6 : F5 p6 = none := (s0.free (s1.free (s2.free hp)))
    have li6 : (upd G2 p6 (.lst [.ref a0, .ref a1, .ref a2])) p6 = some (.lst [.ref a0, .ref a1, .ref a2]) := upd_same
    generalize (upd G2 p6 (.lst [.ref a0, .ref a1, .ref a2])) = D6 at ac6 sa6 li6 ⊢
    have ln6 : ([.ref a0, .ref a1, .ref a2] : List V).length = 3 := rfl
    generalize ([.ref a0, .ref a1, .ref a2] : List V) = xs6 at ac6 li6 ln6
    clear x0 s0 n0 x1 s1 n1 x2 s2 n2 hp
    walk_at "r"
    refine r_catE (sa6 _ _ f5) li6 (by omega) (b5.same sa6) (by rw [L5]; exact ac6) fun q6 F6 hq6 t6 f6 b6 => ?_
    have S6 : Same H F6 := S5.trans (sa6.trans t6)
    have N6 : H q6 = none := S5.free (sa6.free hq6)
    have L6 : (ys5 ++ xs6).length = 28 := by rw [List.length_append, L5, ln6]
    generalize ys5 ++ xs6 = ys6 at f6 b6 L6
    walk_at "r"
    refine r_mkE rfl rfl fun a0 G0 n0 s0 x0 => ?_
    walk_at "r"
    refine r_mkE rfl rfl fun a1 G1 n1 s1 x1 => ?_
    walk_at "r"
    refine r_mkE rfl rfl fun a2 G2 n2 s2 x2 => ?_
    walk_at "r"
    refine r_mkE rfl rfl fun a3 G3 n3 s3 x3 => ?_
    walk_at "r"
    refine ⟨by show 4 ≤ sizeLine; decide, fun p7 hp => ?_⟩
    have ac7 : Acc E (upd G3 p7 (.lst [.ref a0, .ref a1, .ref a2, .ref a3])) [v] 28 [.ref a0, .ref a1, .ref a2, .ref a3] := ⟨⟨_, rfl, x0.same (s1.trans (s2.trans (s3.trans (Same.upd_new hp))))⟩, ⟨⟨_, rfl, x1.same (s2.trans (s3.trans (Same.upd_new hp)))⟩, ⟨⟨_, rfl, x2.same (s3.trans (Same.upd_new hp))⟩, ⟨⟨_, rfl, x3.same (Same.upd_new hp)⟩, True.intro⟩⟩⟩⟩
    have sa7 : Same F6 (upd G3 p7 (.lst [.ref a0, .ref a1, .ref a2, .ref a3])) := (s0.trans (s1.trans (s2.trans (s3.trans (Same.upd_new hp)))))
    have ne7 : F6 p7 = none := (s0.free (s1.free (s2.free (s3.free hp))))
    have li7 : (upd G3 p7 (.lst [.ref a0, .ref a1, .ref a2, .ref a3])) p7 = some (.lst [.ref a0, .ref a1, .ref a2, .ref a3]) := upd_same
    generalize (upd G3 p7 (.lst [.ref a0, .ref a1, .ref a2, .ref a3])) = D7 at ac7 sa7 li7 ⊢
    have ln7 : ([.ref a0, .ref a1, .ref a2, .ref a3] : List V).length = 4 := rfl
    generalize ([.ref a0, .ref a1, .ref a2, .ref a3] : List V) = xs7 at ac7 li7 ln7
    clear x0 s0 n0 x1 s1 n1 x2 s2 n2 x3 s3 n3 hp
    walk_at "r"
    refine r_catE (sa7 _ _ f6) li7 (by omega) (b6.same sa7) (by rw [L6]; exact ac7) fun q7 F7 hq7 t7 f7 b7 => ?_
    have S7 : Same H F7 := S6.trans (sa7.trans t7)
    have N7 : H q7 = none := S6.free (sa7.free hq7)
    have L7 : (ys6 ++ xs7).length = 32 := by rw [List.length_append, L6, ln7]
    generalize ys6 ++ xs7 = ys7 at f7 b7 L7
    walk_at "r"
    exact k F7 q7 ys7 S7 N7 f7 L7 b7
theorem ok_by_name {f : Addr} {fd : FuncData} (F : Fun K "_law_by_name" "_law_by_name" s__law_by_name f fd) (ER : Er P w K mg base E cE) : FnG P w K mg base CX0 3 f fd ["thing"] (spMany E) := by
  refine okG F sc__law_by_name (fun vs H Q E' h => ?_) (fun cdv B up z H vs Q E' hG hr h => ?_)
  · obtain ⟨v, rfl, _⟩ := h
    rfl
  · obtain ⟨v, rfl, k⟩ := h
    refine ⟨_, (pss_cons (ps_set (i := 1) sc__law_by_name.nd rfl (by first | exact Or.inl rfl | exact Or.inr rfl) (pe_lst (pa_cons (px_kw ER.n0 hG hr (by decide) (by rfl) (pk_cons (pv 0) pk_nil)) (pa_cons (px_kw ER.n1 hG hr (by decide) (by rfl) (pk_cons (pv 0) pk_nil)) (pa_cons (px_kw ER.n2 hG hr (by decide) (by rfl) (pk_cons (pv 0) pk_nil)) pa_nil)))))
  (pss_cons (ps_set (i := 1) sc__law_by_name.nd rfl (by first | exact Or.inl rfl | exact Or.inr rfl) (pe_op op_cat (pv 1) (pe_lst (pa_cons (px_kw ER.n3 hG hr (by decide) (by rfl) (pk_cons (pv 0) pk_nil)) (pa_cons (px_kw ER.n4 hG hr (by decide) (by rfl) (pk_cons (pv 0) pk_nil)) (pa_cons (px_kw ER.n5 hG hr (by decide) (by rfl) (pk_cons (pv 0) pk_nil)) pa_nil))))))
  (pss_cons (ps_set (i := 1) sc__law_by_name.nd rfl (by first | exact Or.inl rfl | exact Or.inr rfl) (pe_op op_cat (pv 1) (pe_lst (pa_cons (px_kw ER.n6 hG hr (by decide) (by rfl) (pk_cons (pv 0) pk_nil)) (pa_cons (px_kw ER.n7 hG hr (by decide) (by rfl) (pk_cons (pv 0) pk_nil)) (pa_cons (px_kw ER.n8 hG hr (by decide) (by rfl) (pk_cons (pv 0) pk_nil)) pa_nil))))))
  (pss_cons (ps_set (i := 1) sc__law_by_name.nd rfl (by first | exact Or.inl rfl | exact Or.inr rfl) (pe_op op_cat (pv 1) (pe_lst (pa_cons (px_kw ER.n9 hG hr (by decide) (by rfl) (pk_cons (pv 0) pk_nil)) (pa_cons (px_kw ER.n10 hG hr (by decide) (by rfl) (pk_cons (pv 0) pk_nil)) (pa_cons (px_kw ER.n11 hG hr (by decide) (by rfl) (pk_cons (pv 0) pk_nil)) pa_nil))))))
  (pss_cons (ps_set (i := 1) sc__law_by_name.nd rfl (by first | exact Or.inl rfl | exact Or.inr rfl) (pe_op op_cat (pv 1) (pe_lst (pa_cons (px_kw ER.n12 hG hr (by decide) (by rfl) (pk_cons (pv 0) pk_nil)) (pa_cons (px_kw ER.n13 hG hr (by decide) (by rfl) (pk_cons (pv 0) pk_nil)) (pa_cons (px_kw ER.n14 hG hr (by decide) (by rfl) (pk_cons (pv 0) pk_nil)) pa_nil))))))
  (pss_cons (ps_set (i := 1) sc__law_by_name.nd rfl (by first | exact Or.inl rfl | exact Or.inr rfl) (pe_op op_cat (pv 1) (pe_lst (pa_cons (px_kw ER.n15 hG hr (by decide) (by rfl) (pk_cons (pv 0) pk_nil)) (pa_cons (px_kw ER.n16 hG hr (by decide) (by rfl) (pk_cons (pv 0) pk_nil)) (pa_cons (px_kw ER.n17 hG hr (by decide) (by rfl) (pk_cons (pv 0) pk_nil)) pa_nil))))))
  (pss_cons (ps_set (i := 1) sc__law_by_name.nd rfl (by first | exact Or.inl rfl | exact Or.inr rfl) (pe_op op_cat (pv 1) (pe_lst (pa_cons (px_kw ER.n18 hG hr (by decide) (by rfl) (pk_cons (pv 0) pk_nil)) (pa_cons (px_kw ER.n19 hG hr (by decide) (by rfl) (pk_cons (pv 0) pk_nil)) (pa_cons (px_kw ER.n20 hG hr (by decide) (by rfl) (pk_cons (pv 0) pk_nil)) pa_nil))))))
  (pss_cons (ps_set (i := 1) sc__law_by_name.nd rfl (by first | exact Or.inl rfl | exact Or.inr rfl) (pe_op op_cat (pv 1) (pe_lst (pa_cons (px_kw ER.n21 hG hr (by decide) (by rfl) (pk_cons (pv 0) pk_nil)) (pa_cons (px_kw ER.n22 hG hr (by decide) (by rfl) (pk_cons (pv 0) pk_nil)) (pa_cons (px_kw ER.n23 hG hr (by decide) (by rfl) (pk_cons (pv 0) pk_nil)) pa_nil))))))
  (pss_cons (ps_set (i := 1) sc__law_by_name.nd rfl (by first | exact Or.inl rfl | exact Or.inr rfl) (pe_op op_cat (pv 1) (pe_lst (pa_cons (px_kw ER.n24 hG hr (by decide) (by rfl) (pk_cons (pv 0) pk_nil)) (pa_cons (px_kw ER.n25 hG hr (by decide) (by rfl) (pk_cons (pv 0) pk_nil)) (pa_cons (px_kw ER.n26 hG hr (by decide) (by rfl) (pk_cons (pv 0) pk_nil)) pa_nil))))))
  (pss_cons (ps_set (i := 1) sc__law_by_name.nd rfl (by first | exact Or.inl rfl | exact Or.inr rfl) (pe_op op_cat (pv 1) (pe_lst (pa_cons (px_kw ER.n27 hG hr (by decide) (by rfl) (pk_cons (pv 0) pk_nil)) pa_nil))))
  (pss_one (ps_ret (pe_op op_cat (pv 1) (pe_lst (pa_cons (px_kw ER.n28 hG hr (by decide) (by rfl) (pk_cons (pv 0) pk_nil)) (pa_cons (px_kw ER.n29 hG hr (by decide) (by rfl) (pk_cons (pv 0) pk_nil)) (pa_cons (px_kw ER.n30 hG hr (by decide) (by rfl) (pk_cons (pv 0) pk_nil)) (pa_cons (px_kw ER.n31 hG hr (by decide) (by rfl) (pk_cons (pv 0) pk_nil)) pa_nil)))))))))))))))))), ?_⟩
    walk_at "r"
    refine r_mkE rfl rfl fun a0 G0 n0 s0 x0 => ?_
    walk_at "r"
    refine r_mkE rfl rfl fun a1 G1 n1 s1 x1 => ?_
    walk_at "r"
    refine r_mkE rfl rfl fun a2 G2 n2 s2 x2 => ?_
    walk_at "r"
    refine ⟨by show 3 ≤ sizeLine; decide, fun p0 hp => ?_⟩
    have ac0 : Acc E (upd G2 p0 (.lst [.ref a0, .ref a1, .ref a2])) [v] 0 [.ref a0, .ref a1, .ref a2] := ⟨⟨_, rfl, x0.same (s1.trans (s2.trans (Same.upd_new hp)))⟩, ⟨⟨_, rfl, x1.same (s2.trans (Same.upd_new hp))⟩, ⟨⟨_, rfl, x2.same (Same.upd_new hp)⟩, True.intro⟩⟩⟩
    have sa0 : Same H (upd G2 p0 (.lst [.ref a0, .ref a1, .ref a2])) := (s0.trans (s1.trans (s2.trans (Same.upd_new hp))))
    have ne0 : H p0 = none := (s0.free (s1.free (s2.free hp)))
    have li0 : (upd G2 p0 (.lst [.ref a0, .ref a1, .ref a2])) p0 = some (.lst [.ref a0, .ref a1, .ref a2]) := upd_same
    generalize (upd G2 p0 (.lst [.ref a0, .ref a1, .ref a2])) = D0 at ac0 sa0 li0 ⊢
    have ln0 : ([.ref a0, .ref a1, .ref a2] : List V).length = 3 := rfl
    generalize ([.ref a0, .ref a1, .ref a2] : List V) = xs0 at ac0 li0 ln0
    clear x0 s0 n0 x1 s1 n1 x2 s2 n2 hp
    walk_at "r"
    refine r_mkE rfl rfl fun a0 G0 n0 s0 x0 => ?_
    walk_at "r"
    refine r_mkE rfl rfl fun a1 G1 n1 s1 x1 => ?_
    walk_at "r"
    refine r_mkE rfl rfl fun a2 G2 n2 s2 x2 => ?_
    walk_at "r"
    refine ⟨by show 3 ≤ sizeLine; decide, fun p1 hp => ?_⟩
    have ac1 : Acc E (upd G2 p1 (.lst [.ref a0, .ref a1, .ref a2])) [v] 3 [.ref a0, .ref a1, .ref a2] := ⟨⟨_, rfl, x0.same (s1.trans (s2.trans (Same.upd_new hp)))⟩, ⟨⟨_, rfl, x1.same (s2.trans (Same.upd_new hp))⟩, ⟨⟨_, rfl, x2.same (Same.upd_new hp)⟩, True.intro⟩⟩⟩
    have sa1 : Same D0 (upd G2 p1 (.lst [.ref a0, .ref a1, .ref a2])) := (s0.trans (s1.trans (s2.trans (Same.upd_new hp))))
    have ne1 : D0 p1 = none := (s0.free (s1.free (s2.free hp)))
    have li1 : (upd G2 p1 (.lst [.ref a0, .ref a1, .ref a2])) p1 = some (.lst [.ref a0, .ref a1, .ref a2]) := upd_same
    generalize (upd G2 p1 (.lst [.ref a0, .ref a1, .ref a2])) = D1 at ac1 sa1 li1 ⊢
    have ln1 : ([.ref a0, .ref a1, .ref a2] : List V).length = 3 := rfl
    generalize ([.ref a0, .ref a1, .ref a2] : List V) = xs1 at ac1 li1 ln1
    clear x0 s0 n0 x1 s1 n1 x2 s2 n2 hp
    walk_at "r"
    refine r_catE (sa1 _ _ li0) li1 (by omega) (ac0.same sa1) (by rw [ln0]; exact ac1) fun q1 F1 hq1 t1 f1 b1 => ?_
    have S1 : Same H F1 := sa0.trans (sa1.trans t1)
    have N1 : H q1 = none := sa0.free (sa1.free hq1)
    have L1 : (xs0 ++ xs1).length = 6 := by rw [List.length_append, ln0, ln1]
    generalize xs0 ++ xs1 = ys1 at f1 b1 L1
    walk_at "r"
    refine r_mkE rfl rfl fun a0 G0 n0 s0 x0 => ?_
    walk_at "r"
    refine r_mkE rfl rfl fun a1 G1 n1 s1 x1 => ?_
    walk_at "r"
    refine r_mkE rfl rfl fun a2 G2 n2 s2 x2 => ?_
    walk_at "r"
    refine ⟨by show 3 ≤ sizeLine; decide, fun p2 hp => ?_⟩
    have ac2 : Acc E (upd G2 p2 (.lst [.ref a0, .ref a1, .ref a2])) [v] 6 [.ref a0, .ref a1, .ref a2] := ⟨⟨_, rfl, x0.same (s1.trans (s2.trans (Same.upd_new hp)))⟩, ⟨⟨_, rfl, x1.same (s2.trans (Same.upd_new hp))⟩, ⟨⟨_, rfl, x2.same (Same.upd_new hp)⟩, True.intro⟩⟩⟩
    have sa2 : Same F1 (upd G2 p2 (.lst [.ref a0, .ref a1, .ref a2])) := (s0.trans (s1.trans (s2.trans (Same.upd_new hp))))
    have ne2 : F1 p2 = none := (s0.free (s1.free (s2.free hp)))
    have li2 : (upd G2 p2 (.lst [.ref a0, .ref a1, .ref a2])) p2 = some (.lst [.ref a0, .ref a1, .ref a2]) := upd_same
    generalize (upd G2 p2 (.lst [.ref a0, .ref a1, .ref a2])) = D2 at ac2 sa2 li2 ⊢
    have ln2 : ([.ref a0, .ref a1, .ref a2] : List V).length = 3 := rfl
    generalize ([.ref a0, .ref a1, .ref a2] : List V) = xs2 at ac2 li2 ln2
    clear x0 s0 n0 x1 s1 n1 x2 s2 n2 hp
    walk_at "r"
    refine r_catE (sa2 _ _ f1) li2 (by omega) (b1.same sa2) (by rw [L1]; exact ac2) fun q2 F2 hq2 t2 f2 b2 => ?_
    have S2 : Same H F2 := S1.trans (sa2.trans t2)
    have N2 : H q2 = none := S1.free (sa2.free hq2)
    have L2 : (ys1 ++ xs2).length = 9 := by rw [List.length_append, L1, ln2]
    generalize ys1 ++ xs2 = ys2 at f2 b2 L2
    walk_at "r"
    refine r_mkE rfl rfl fun a0 G0 n0 s0 x0 => ?_
    walk_at "r"
    refine r_mkE rfl rfl fun a1 G1 n1 s1 x1 => ?_
    walk_at "r"
    refine r_mkE rfl rfl fun a2 G2 n2 s2 x2 => ?_
    walk_at "r"
    refine ⟨by show 3 ≤ sizeLine; decide, fun p3 hp => ?_⟩
    have ac3 : Acc E (upd G2 p3 (.lst [.ref a0, .ref a1, .ref a2])) [v] 9 [.ref a0, .ref a1, .ref a2] := ⟨⟨_, rfl, x0.same (s1.trans (s2.trans (Same.upd_new hp)))⟩, ⟨⟨_, rfl, x1.same (s2.trans (Same.upd_new hp))⟩, ⟨⟨_, rfl, x2.same (Same.upd_new hp)⟩, True.intro⟩⟩⟩
    have sa3 : Same F2 (upd G2 p3 (.lst [.ref a0, .ref a1, .ref a2])) := (s0.trans (s1.trans (s2.trans (Same.upd_new hp))))
    have ne3 : F2 p3 = none := (s0.free (s1.free (s2.free hp)))
    have li3 : (upd G2 p3 (.lst [.ref a0, .ref a1, .ref a2])) p3 = some (.lst [.ref a0, .ref a1, .ref a2]) := upd_same
    generalize (upd G2 p3 (.lst [.ref a0, .ref a1, .ref a2])) = D3 at ac3 sa3 li3 ⊢
    have ln3 : ([.ref a0, .ref a1, .ref a2] : List V).length = 3 := rfl
    generalize ([.ref a0, .ref a1, .ref a2] : List V) = xs3 at ac3 li3 ln3
    clear x0 s0 n0 x1 s1 n1 x2 s2 n2 hp
    walk_at "r"
    refine r_catE (sa3 _ _ f2) li3 (by omega) (b2.same sa3) (by rw [L2]; exact ac3) fun q3 F3 hq3 t3 f3 b3 => ?_
    have S3 : Same H F3 := S2.trans (sa3.trans t3)
    have N3 : H q3 = none := S2.free (sa3.free hq3)
    have L3 : (ys2 ++ xs3).length = 12 := by rw [List.length_append, L2, ln3]
    generalize ys2 ++ xs3 = ys3 at f3 b3 L3
    walk_at "r"
    refine r_mkE rfl rfl fun a0 G0 n0 s0 x0 => ?_
    walk_at "r"
    refine r_mkE rfl rfl fun a1 G1 n1 s1 x1 => ?_
    walk_at "r"
    refine r_mkE rfl rfl fun a2 G2 n2 s2 x2 => ?_
    walk_at "r"
    refine ⟨by show 3 ≤ sizeLine; decide, fun p4 hp => ?_⟩
    have ac4 : Acc E (upd G2 p4 (.lst [.ref a0, .ref a1, .ref a2])) [v] 12 [.ref a0, .ref a1, .ref a2] := ⟨⟨_, rfl, x0.same (s1.trans (s2.trans (Same.upd_new hp)))⟩, ⟨⟨_, rfl, x1.same (s2.trans (Same.upd_new hp))⟩, ⟨⟨_, rfl, x2.same (Same.upd_new hp)⟩, True.intro⟩⟩⟩
    have sa4 : Same F3 (upd G2 p4 (.lst [.ref a0, .ref a1, .ref a2])) := (s0.trans (s1.trans (s2.trans (Same.upd_new hp))))
    have ne4 : F3 p4 = none := (s0.free (s1.free (s2.free hp)))
    have li4 : (upd G2 p4 (.lst [.ref a0, .ref a1, .ref a2])) p4 = some (.lst [.ref a0, .ref a1, .ref a2]) := upd_same
    generalize (upd G2 p4 (.lst [.ref a0, .ref a1, .ref a2])) = D4 at ac4 sa4 li4 ⊢
    have ln4 : ([.ref a0, .ref a1, .ref a2] : List V).length = 3 := rfl
    generalize ([.ref a0, .ref a1, .ref a2] : List V) = xs4 at ac4 li4 ln4
    clear x0 s0 n0 x1 s1 n1 x2 s2 n2 hp
    walk_at "r"
    refine r_catE (sa4 _ _ f3) li4 (by omega) (b3.same sa4) (by rw [L3]; exact ac4) fun q4 F4 hq4 t4 f4 b4 => ?_
    have S4 : Same H F4 := S3.trans (sa4.trans t4)
    have N4 : H q4 = none := S3.free (sa4.free hq4)
    have L4 : (ys3 ++ xs4).length = 15 := by rw [List.length_append, L3, ln4]
    generalize ys3 ++ xs4 = ys4 at f4 b4 L4
    walk_at "r"
    refine r_mkE rfl rfl fun a0 G0 n0 s0 x0 => ?_
    walk_at "r"
    refine r_mkE rfl rfl fun a1 G1 n1 s1 x1 => ?_
    walk_at "r"
    refine r_mkE rfl rfl fun a2 G2 n2 s2 x2 => ?_
    walk_at "r"
    refine ⟨by show 3 ≤ sizeLine; decide, fun p5 hp => ?_⟩
    have ac5 : Acc E (upd G2 p5 (.lst [.ref a0, .ref a1, .ref a2])) [v] 15 [.ref a0, .ref a1, .ref a2] := ⟨⟨_, rfl, x0.same (s1.trans (s2.trans (Same.upd_new hp)))⟩, ⟨⟨_, rfl, x1.same (s2.trans (Same.upd_new hp))⟩, ⟨⟨_, rfl, x2.same (Same.upd_new hp)⟩, True.intro⟩⟩⟩
    have sa5 : Same F4 (upd G2 p5 (.lst [.ref a0, .ref a1, .ref a2])) := (s0.trans (s1.trans (s2.trans (Same.upd_new hp))))
    have ne5 : F4 p5 = none := (s0.free (s1.free (s2.free hp)))
    have li5 : (upd G2 p5 (.lst [.ref a0, .ref a1, .ref a2])) p5 = some (.lst [.ref a0, .ref a1, .ref a2]) := upd_same
    generalize (upd G2 p5 (.lst [.ref a0, .ref a1, .ref a2])) = D5 at ac5 sa5 li5 ⊢
    have ln5 : ([.ref a0, .ref a1, .ref a2] : List V).length = 3 := rfl
    generalize ([.ref a0, .ref a1, .ref a2] : List V) = xs5 at ac5 li5 ln5
    clear x0 s0 n0 x1 s1 n1 x2 s2 n2 hp
    walk_at "r"
    refine r_catE (sa5 _ _ f4) li5 (by omega) (b4.same sa5) (by rw [L4]; exact ac5) fun q5 F5 hq5 t5 f5 b5 => ?_
    have S5 : Same H F5 := S4.trans (sa5.trans t5)
    have N5 : H q5 = none := S4.free (sa5.free hq5)
    have L5 : (ys4 ++ xs5).length = 18 := by rw [List.length_append, L4, ln5]
    generalize ys4 ++ xs5 = ys5 at f5 b5 L5
    walk_at "r"
    refine r_mkE rfl rfl fun a0 G0 n0 s0 x0 => ?_
    walk_at "r"
    refine r_mkE rfl rfl fun a1 G1 n1 s1 x1 => ?_
    walk_at "r"
    refine r_mkE rfl rfl fun a2 G2 n2 s2 x2 => ?_
    walk_at "r"
    refine ⟨by show 3 ≤ sizeLine; decide, fun p6 hp => ?_⟩
    have ac6 : Acc E (upd G2 p6 (.lst [.ref a0, .ref a1, .ref a2])) [v] 18 [.ref a0, .ref a1, .ref a2] := ⟨⟨_, rfl, x0.same (s1.trans (s2.trans (Same.upd_new hp)))⟩, ⟨⟨_, rfl, x1.same (s2.trans (Same.upd_new hp))⟩, ⟨⟨_, rfl, x2.same (Same.upd_new hp)⟩, True.intro⟩⟩⟩
    have sa6 : Same F5 (upd G2 p6 (.lst [.ref a0, .ref a1, .ref a2])) := (s0.trans (s1.trans (s2.trans (Same.upd_new hp))))
    have ne6 : F5 p6 = none := (s0.free (s1.free (s2.free hp)))
    have li6 : (upd G2 p6 (.lst [.ref a0, .ref a1, .ref a2])) p6 = some (.lst [.ref a0, .ref a1, .ref a2]) := upd_same
    generalize (upd G2 p6 (.lst [.ref a0, .ref a1, .ref a2])) = D6 at ac6 sa6 li6 ⊢
    have ln6 : ([.ref a0, .ref a1, .ref a2] : List V).length = 3 := rfl
    generalize ([.ref a0, .ref a1, .ref a2] : List V) = xs6 at ac6 li6 ln6
    clear x0 s0 n0 x1 s1 n1 x2 s2 n2 hp
    walk_at "r"
    refine r_catE (sa6 _ _ f5) li6 (by omega) (b5.same sa6) (by rw [L5]; exact ac6) fun q6 F6 hq6 t6 f6 b6 => ?_
    have S6 : Same H F6 := S5.trans (sa6.trans t6)
    have N6 : H q6 = none := S5.free (sa6.free hq6)
    have L6 : (ys5 ++ xs6).length = 21 := by rw [List.length_append, L5, ln6]
    generalize ys5 ++ xs6 = ys6 at f6 b6 L6
    walk_at "r"
    refine r_mkE rfl rfl fun a0 G0 n0 s0 x0 => ?_
    walk_at "r"
    refine r_mkE rfl rfl fun a1 G1 n1 s1 x1 => ?_
    walk_at "r"
    refine r_mkE rfl rfl fun a2 G2 n2 s2 x2 => ?_
    walk_at "r"
    refine ⟨by show 3 ≤ sizeLine; decide, fun p7 hp => ?_⟩
    have ac7 : Acc E (upd G2 p7 (.lst [.ref a0, .ref a1, .ref a2])) [v] 21 [.ref a0, .ref a1, .ref a2] := ⟨⟨_, rfl, x0.same (s1.trans (s2.trans (Same.upd_new hp)))⟩, ⟨⟨_, rfl, x1.same (s2.trans (Same.upd_new hp))⟩, ⟨⟨_, rfl, x2.same (Same.upd_new hp)⟩, True.intro⟩⟩⟩
    have sa7 : Same F6 (upd G2 p7 (.lst [.ref a0, .ref a1, .ref a2])) := (s0.trans (s1.trans (s2.trans (Same.upd_new hp))))
    have ne7 : F6 p7 = none := (s0.free (s1.free (s2.free hp)))
    have li7 : (upd G2 p7 (.lst [.ref a0, .ref a1, .ref a2])) p7 = some (.lst [.ref a0, .ref a1, .ref a2]) := upd_same
    generalize (upd G2 p7 (.lst [.ref a0, .ref a1, .ref a2])) = D7 at ac7 sa7 li7 ⊢
    have ln7 : ([.ref a0, .ref a1, .ref a2] : List V).length = 3 := rfl
    generalize ([.ref a0, .ref a1, .ref a2] : List V) = xs7 at ac7 li7 ln7
    clear x0 s0 n0 x1 s1 n1 x2 s2 n2 hp
    walk_at "r"
    refine r_catE (sa7 _ _ f6) li7 (by omega) (b6.same sa7) (by rw [L6]; exact ac7) fun q7 F7 hq7 t7 f7 b7 => ?_
    have S7 : Same H F7 := S6.trans (sa7.trans t7)
    have N7 : H q7 = none := S6.free (sa7.free hq7)
    have L7 : (ys6 ++ xs7).length = 24 := by rw [List.length_append, L6, ln7]
    generalize ys6 ++ xs7 = ys7 at f7 b7 L7
    walk_at "r"
    refine r_mkE rfl rfl fun a0 G0 n0 s0 x0 => ?_
    walk_at "r"
    refine r_mkE rfl rfl fun a1 G1 n1 s1 x1 => ?_
    walk_at "r"
    refine r_mkE rfl rfl fun a2 G2 n2 s2 x2 => ?_
    walk_at "r"
    refine ⟨by show 3 ≤ sizeLine; decide, fun p8 hp => ?_⟩
    have ac8 : Acc E (upd G2 p8 (.lst [.ref a0, .ref a1, .ref a2])) [v] 24 [.ref a0, .ref a1, .ref a2] := ⟨⟨_, rfl, x0.same (s1.trans (s2.trans (Same.upd_new hp)))⟩, ⟨⟨_, rfl, x1.same (s2.trans (Same.upd_new hp))⟩, ⟨⟨_, rfl, x2.same (Same.upd_new hp)⟩, True.intro⟩⟩⟩
    have sa8 : Same F7 (upd G2 p8 (.lst [.ref a0, .ref a1, .ref a2])) := (s0.trans (s1.trans (s2.trans (Same.upd_new hp))))
    have ne8 : F7 p8 = none := (s0.free (s1.free (s2.free hp)))
    have li8 : (upd G2 p8 (.lst [.ref a0, .ref a1, .ref a2])) p8 = some (.lst [.ref a0, .ref a1, .ref a2]) := upd_same
    generalize (upd G2 p8 (.lst [.ref a0, .ref a1, .ref a2])) = D8 at ac8 sa8 li8 ⊢
    have ln8 : ([.ref a0, .ref a1, .ref a2] : List V).length = 3 := rfl
    generalize ([.ref a0, .ref a1, .ref a2] : List V) = xs8 at ac8 li8 ln8
    clear x0 s0 n0 x1 s1 n1 x2 s2 n2 hp
    walk_at "r"
    refine r_catE (sa8 _ _ f7) li8 (by omega) (b7.same sa8) (by rw [L7]; exact ac8) fun q8 F8 hq8 t8 f8 b8 => ?_
    have S8 : Same H F8 := S7.trans (sa8.trans t8)
    have N8 : H q8 = none := S7.free (sa8.free hq8)
    have L8 : (ys7 ++ xs8).length = 27 := by rw [List.length_append, L7, ln8]
    generalize ys7 ++ xs8 = ys8 at f8 b8 L8
    walk_at "r"
    refine r_mkE rfl rfl fun a0 G0 n0 s0 x0 => ?_
    walk_at "r"
    refine ⟨by show 1 ≤ sizeLine; decide, fun p9 hp => ?_⟩
    have ac9 : Acc E (upd G0 p9 (.lst [.ref a0])) [v] 27 [.ref a0] := ⟨⟨_, rfl, x0.same (Same.upd_new hp)⟩, True.intro⟩
    have sa9 : Same F8 (upd G0 p9 (.lst [.ref a0])) := (s0.trans (Same.upd_new hp))
    have ne9 : F8 p9 = none := (s0.free hp)
    have li9 : (upd G0 p9 (.lst [.ref a0])) p9 = some (.lst [.ref a0]) := upd_same
    generalize (upd G0 p9 (.lst [.ref a0])) = D9 at ac9 sa9 li9 ⊢
    have ln9 : ([.ref a0] : List V).length = 1 := rfl
    generalize ([.ref a0] : List V) = xs9 at ac9 li9 ln9
    clear x0 s0 n0 hp
    walk_at "r"
    refine r_catE (sa9 _ _ f8) li9 (by omega) (b8.same sa9) (by rw [L8]; exact ac9) fun q9 F9 hq9 t9 f9 b9 => ?_
    have S9 : Same H F9 := S8.trans (sa9.trans t9)
    have N9 : H q9 = none := S8.free (sa9.free hq9)
    have L9 : (ys8 ++ xs9).length = 28 := by rw [List.length_append, L8, ln9]
    generalize ys8 ++ xs9 = ys9 at f9 b9 L9
    walk_at "r"
    refine r_mkE rfl rfl fun a0 G0 n0 s0 x0 => ?_
    walk_at "r"
    refine r_mkE rfl rfl fun a1 G1 n1 s1 x1 => ?_
    walk_at "r"
    refine r_mkE rfl rfl fun a2 G2 n2 s2 x2 => ?_
    walk_at "r"
    refine r_mkE rfl rfl fun a3 G3 n3 s3 x3 => ?_
    walk_at "r"
    refine ⟨by show 4 ≤ sizeLine; decide, fun p10 hp => ?_⟩
    have ac10 : Acc E (upd G3 p10 (.lst [.ref a0, .ref a1, .ref a2, .ref a3])) [v] 28 [.ref a0, .ref a1, .ref a2, .ref a3] := ⟨⟨_, rfl, x0.same (s1.trans (s2.trans (s3.trans (Same.upd_new hp))))⟩, ⟨⟨_, rfl, x1.same (s2.trans (s3.trans (Same.upd_new hp)))⟩, ⟨⟨_, rfl, x2.same (s3.trans (Same.upd_new hp))⟩, ⟨⟨_, rfl, x3.same (Same.upd_new hp)⟩, True.intro⟩⟩⟩⟩
    have sa10 : Same F9 (upd G3 p10 (.lst [.ref a0, .ref a1, .ref a2, .ref a3])) := (s0.trans (s1.trans (s2.trans (s3.trans (Same.upd_new hp)))))
    have ne10 : F9 p10 = none := (s0.free (s1.free (s2.free (s3.free hp))))
    have li10 : (upd G3 p10 (.lst [.ref a0, .ref a1, .ref a2, .ref a3])) p10 = some (.lst [.ref a0, .ref a1, .ref a2, .ref a3]) := upd_same
    generalize (upd G3 p10 (.lst [.ref a0, .ref a1, .ref a2, .ref a3])) = D10 at ac10 sa10 li10 ⊢
    have ln10 : ([.ref a0, .ref a1, .ref a2, .ref a3] : List V).length = 4 := rfl
    generalize ([.ref a0, .ref a1, .ref a2, .ref a3] : List V) = xs10 at ac10 li10 ln10
    clear x0 s0 n0 x1 s1 n1 x2 s2 n2 x3 s3 n3 hp
    walk_at "r"
    refine r_catE (sa10 _ _ f9) li10 (by omega) (b9.same sa10) (by rw [L9]; exact ac10) fun q10 F10 hq10 t10 f10 b10 => ?_
    have S10 : Same H F10 := S9.trans (sa10.trans t10)
    have N10 : H q10 = none := S9.free (sa10.free hq10)
    have L10 : (ys9 ++ xs10).length = 32 := by rw [List.length_append, L9, ln10]
    generalize ys9 ++ xs10 = ys10 at f10 b10 L10
    walk_at "r"
    exact k F10 q10 ys10 S10 N10 f10 L10 b10
theorem ok_pairs {f : Addr} {fd : FuncData} (F : Fun K "_law_pairs" "_law_pairs" s__law_pairs f fd) (ER : Er P w K mg base E cE) : FnG P w K mg base CX0 3 f fd ["one", "other", "way"] (spPairs E) := by
  refine okG F sc__law_pairs (fun vs H Q E' h => ?_) (fun cdv B up z H vs Q E' hG hr h => ?_)
  · obtain ⟨u, v, way, rfl, _⟩ := h
    rfl
  · obtain ⟨u, v, way, rfl, w0, w4, k⟩ := h
    have hw : way = 0 ∨ way = 1 ∨ way = 2 ∨ way = 3 := by omega
    refine ⟨_, (pss_cons (ps_if (pt_cmpR op_eq (pv 2) pe_int (nomark _)) (pss_one (ps_ret (pe_lst (pa_cons (px_pos ER.p32 hG hr (by decide) (by rfl) (pa_cons (pv 0) (pa_cons (pv 1) pa_nil))) (pa_cons (px_pos ER.p33 hG hr (by decide) (by rfl) (pa_cons (pv 0) (pa_cons (pv 1) pa_nil))) (pa_cons (px_pos ER.p34 hG hr (by decide) (by rfl) (pa_cons (pv 0) (pa_cons (pv 1) pa_nil))) (pa_cons (px_pos ER.p35 hG hr (by decide) (by rfl) (pa_cons (pv 0) (pa_cons (pv 1) pa_nil))) (pa_cons (px_pos ER.p36 hG hr (by decide) (by rfl) (pa_cons (pv 0) (pa_cons (pv 1) pa_nil))) pa_nil)))))))) pss_nil)
  (pss_cons (ps_if (pt_cmpR op_eq (pv 2) pe_int (nomark _)) (pss_cons (ps_set (i := 3) sc__law_pairs.nd rfl (by first | exact Or.inl rfl | exact Or.inr rfl) (pe_lst (pa_cons (px_kw ER.n32 hG hr (by decide) (by rfl) (pk_cons (pv 0) (pk_cons (pv 1) pk_nil))) (pa_cons (px_kw ER.n33 hG hr (by decide) (by rfl) (pk_cons (pv 0) (pk_cons (pv 1) pk_nil))) (pa_cons (px_kw ER.n34 hG hr (by decide) (by rfl) (pk_cons (pv 0) (pk_cons (pv 1) pk_nil))) pa_nil)))))
  (pss_one (ps_ret (pe_op op_cat (pv 3) (pe_lst (pa_cons (px_kw ER.n35 hG hr (by decide) (by rfl) (pk_cons (pv 0) (pk_cons (pv 1) pk_nil))) (pa_cons (px_kw ER.n36 hG hr (by decide) (by rfl) (pk_cons (pv 0) (pk_cons (pv 1) pk_nil))) pa_nil))))))) pss_nil)
  (pss_cons (ps_if (pt_cmpR op_eq (pv 2) pe_int (nomark _)) (pss_cons (ps_set (i := 3) sc__law_pairs.nd rfl (by first | exact Or.inl rfl | exact Or.inr rfl) (pe_lst (pa_cons (px_kw ER.m32 hG hr (by decide) (by rfl) (pk_cons (pv 1) (pk_cons (pv 0) pk_nil))) (pa_cons (px_kw ER.m33 hG hr (by decide) (by rfl) (pk_cons (pv 1) (pk_cons (pv 0) pk_nil))) (pa_cons (px_kw ER.m34 hG hr (by decide) (by rfl) (pk_cons (pv 1) (pk_cons (pv 0) pk_nil))) pa_nil)))))
  (pss_one (ps_ret (pe_op op_cat (pv 3) (pe_lst (pa_cons (px_kw ER.m35 hG hr (by decide) (by rfl) (pk_cons (pv 1) (pk_cons (pv 0) pk_nil))) (pa_cons (px_kw ER.m36 hG hr (by decide) (by rfl) (pk_cons (pv 1) (pk_cons (pv 0) pk_nil))) pa_nil))))))) pss_nil)
  (pss_cons (ps_set (i := 3) sc__law_pairs.nd rfl (by first | exact Or.inl rfl | exact Or.inr rfl) (pe_lst (pa_cons (px_mix ER.q32 hG hr (by decide) (by rfl) (pa_cons (pv 0) pa_nil) (pk_cons (pv 1) pk_nil)) (pa_cons (px_mix ER.q33 hG hr (by decide) (by rfl) (pa_cons (pv 0) pa_nil) (pk_cons (pv 1) pk_nil)) (pa_cons (px_mix ER.q34 hG hr (by decide) (by rfl) (pa_cons (pv 0) pa_nil) (pk_cons (pv 1) pk_nil)) pa_nil)))))
  (pss_one (ps_ret (pe_op op_cat (pv 3) (pe_lst (pa_cons (px_mix ER.q35 hG hr (by decide) (by rfl) (pa_cons (pv 0) pa_nil) (pk_cons (pv 1) pk_nil)) (pa_cons (px_mix ER.q36 hG hr (by decide) (by rfl) (pa_cons (pv 0) pa_nil) (pk_cons (pv 1) pk_nil)) pa_nil)))))))))), ?_⟩
    rcases hw with rfl | rfl | rfl | rfl
    · walk_at "r"
      refine ite2 (fun _ => ?_) (fun c => absurd c (by decide))
      walk_at "r"
      refine r_mkE rfl rfl fun a0 G0 n0 s0 x0 => ?_
      walk_at "r"
      refine r_mkE rfl rfl fun a1 G1 n1 s1 x1 => ?_
      walk_at "r"
      refine r_mkE rfl rfl fun a2 G2 n2 s2 x2 => ?_
      walk_at "r"
      refine r_mkE rfl rfl fun a3 G3 n3 s3 x3 => ?_
      walk_at "r"
      refine r_mkE rfl rfl fun a4 G4 n4 s4 x4 => ?_
      walk_at "r"
      refine ⟨by show 5 ≤ sizeLine; decide, fun p0 hp => ?_⟩
      have ac0 : Acc E (upd G4 p0 (.lst [.ref a0, .ref a1, .ref a2, .ref a3, .ref a4])) [u, v] 32 [.ref a0, .ref a1, .ref a2, .ref a3, .ref a4] := ⟨⟨_, rfl, x0.same (s1.trans (s2.trans (s3.trans (s4.trans (Same.upd_new hp)))))⟩, ⟨⟨_, rfl, x1.same (s2.trans (s3.trans (s4.trans (Same.upd_new hp))))⟩, ⟨⟨_, rfl, x2.same (s3.trans (s4.trans (Same.upd_new hp)))⟩, ⟨⟨_, rfl, x3.same (s4.trans (Same.upd_new hp))⟩, ⟨⟨_, rfl, x4.same (Same.upd_new hp)⟩, True.intro⟩⟩⟩⟩⟩
      have sa0 : Same H (upd G4 p0 (.lst [.ref a0, .ref a1, .ref a2, .ref a3, .ref a4])) := (s0.trans (s1.trans (s2.trans (s3.trans (s4.trans (Same.upd_new hp))))))
      have ne0 : H p0 = none := (s0.free (s1.free (s2.free (s3.free (s4.free hp)))))
      have li0 : (upd G4 p0 (.lst [.ref a0, .ref a1, .ref a2, .ref a3, .ref a4])) p0 = some (.lst [.ref a0, .ref a1, .ref a2, .ref a3, .ref a4]) := upd_same
      generalize (upd G4 p0 (.lst [.ref a0, .ref a1, .ref a2, .ref a3, .ref a4])) = D0 at ac0 sa0 li0 ⊢
      have ln0 : ([.ref a0, .ref a1, .ref a2, .ref a3, .ref a4] : List V).length = 5 := rfl
      generalize ([.ref a0, .ref a1, .ref a2, .ref a3, .ref a4] : List V) = xs0 at ac0 li0 ln0
      clear x0 s0 n0 x1 s1 n1 x2 s2 n2 x3 s3 n3 x4 s4 n4 hp
      walk_at "r"
      exact k D0 p0 xs0 sa0 ne0 li0 ln0 ac0
    · walk_at "r"
      refine ite2 (fun c => absurd c (by decide)) (fun _ => ?_)
      walk_at "r"
      refine ite2 (fun _ => ?_) (fun c => absurd c (by decide))
      walk_at "r"
      refine r_mkE rfl rfl fun a0 G0 n0 s0 x0 => ?_
      walk_at "r"
      refine r_mkE rfl rfl fun a1 G1 n1 s1 x1 => ?_
      walk_at "r"
      refine r_mkE rfl rfl fun a2 G2 n2 s2 x2 => ?_
      walk_at "r"
      refine ⟨by show 3 ≤ sizeLine; decide, fun p0 hp => ?_⟩
      have ac0 : Acc E (upd G2 p0 (.lst [.ref a0, .ref a1, .ref a2])) [u, v] 32 [.ref a0, .ref a1, .ref a2] := ⟨⟨_, rfl, x0.same (s1.trans (s2.trans (Same.upd_new hp)))⟩, ⟨⟨_, rfl, x1.same (s2.trans (Same.upd_new hp))⟩, ⟨⟨_, rfl, x2.same (Same.upd_new hp)⟩, True.intro⟩⟩⟩
      have sa0 : Same H (upd G2 p0 (.lst [.ref a0, .ref a1, .ref a2])) := (s0.trans (s1.trans (s2.trans (Same.upd_new hp))))
      have ne0 : H p0 = none := (s0.free (s1.free (s2.free hp)))
      have li0 : (upd G2 p0 (.lst [.ref a0, .ref a1, .ref a2])) p0 = some (.lst [.ref a0, .ref a1, .ref a2]) := upd_same
      generalize (upd G2 p0 (.lst [.ref a0, .ref a1, .ref a2])) = D0 at ac0 sa0 li0 ⊢
      have ln0 : ([.ref a0, .ref a1, .ref a2] : List V).length = 3 := rfl
      generalize ([.ref a0, .ref a1, .ref a2] : List V) = xs0 at ac0 li0 ln0
      clear x0 s0 n0 x1 s1 n1 x2 s2 n2 hp
      walk_at "r"
      refine r_mkE rfl rfl fun a0 G0 n0 s0 x0 => ?_
      walk_at "r"
      refine r_mkE rfl rfl fun a1 G1 n1 s1 x1 => ?_
      walk_at "r"
      refine ⟨by show 2 ≤ sizeLine; decide, fun p1 hp => ?_⟩
      have ac1 : Acc E (upd G1 p1 (.lst [.ref a0, .ref a1])) [u, v] 35 [.ref a0, .ref a1] := ⟨⟨_, rfl, x0.same (s1.trans (Same.upd_new hp))⟩, ⟨⟨_, rfl, x1.same (Same.upd_new hp)⟩, True.intro⟩⟩
      have sa1 : Same D0 (upd G1 p1 (.lst [.ref a0, .ref a1])) := (s0.trans (s1.trans (Same.upd_new hp)))
      have ne1 : D0 p1 = none := (s0.free (s1.free hp))
      have li1 : (upd G1 p1 (.lst [.ref a0, .ref a1])) p1 = some (.lst [.ref a0, .ref a1]) := upd_same
      generalize (upd G1 p1 (.lst [.ref a0, .ref a1])) = D1 at ac1 sa1 li1 ⊢
      have ln1 : ([.ref a0, .ref a1] : List V).length = 2 := rfl
      generalize ([.ref a0, .ref a1] : List V) = xs1 at ac1 li1 ln1
      clear x0 s0 n0 x1 s1 n1 hp
      walk_at "r"
      refine r_catE (sa1 _ _ li0) li1 (by omega) (ac0.same sa1) (by rw [ln0]; exact ac1) fun q1 F1 hq1 t1 f1 b1 => ?_
      have S1 : Same H F1 := sa0.trans (sa1.trans t1)
      have N1 : H q1 = none := sa0.free (sa1.free hq1)
      have L1 : (xs0 ++ xs1).length = 5 := by rw [List.length_append, ln0, ln1]
      generalize xs0 ++ xs1 = ys1 at f1 b1 L1
      walk_at "r"
      exact k F1 q1 ys1 S1 N1 f1 L1 b1
    · walk_at "r"
      refine ite2 (fun c => absurd c (by decide)) (fun _ => ?_)
      walk_at "r"
      refine ite2 (fun c => absurd c (by decide)) (fun _ => ?_)
      walk_at "r"
      refine ite2 (fun _ => ?_) (fun c => absurd c (by decide))
      walk_at "r"
      refine r_mkE rfl rfl fun a0 G0 n0 s0 x0 => ?_
      walk_at "r"
      refine r_mkE rfl rfl fun a1 G1 n1 s1 x1 => ?_
      walk_at "r"
      refine r_mkE rfl rfl fun a2 G2 n2 s2 x2 => ?_
      walk_at "r"
      refine ⟨by show 3 ≤ sizeLine; decide, fun p0 hp => ?_⟩
      have ac0 : Acc E (upd G2 p0 (.lst [.ref a0, .ref a1, .ref a2])) [u, v] 32 [.ref a0, .ref a1, .ref a2] := ⟨⟨_, rfl, x0.same (s1.trans (s2.trans (Same.upd_new hp)))⟩, ⟨⟨_, rfl, x1.same (s2.trans (Same.upd_new hp))⟩, ⟨⟨_, rfl, x2.same (Same.upd_new hp)⟩, True.intro⟩⟩⟩
      have sa0 : Same H (upd G2 p0 (.lst [.ref a0, .ref a1, .ref a2])) := (s0.trans (s1.trans (s2.trans (Same.upd_new hp))))
      have ne0 : H p0 = none := (s0.free (s1.free (s2.free hp)))
      have li0 : (upd G2 p0 (.lst [.ref a0, .ref a1, .ref a2])) p0 = some (.lst [.ref a0, .ref a1, .ref a2]) := upd_same
      generalize (upd G2 p0 (.lst [.ref a0, .ref a1, .ref a2])) = D0 at ac0 sa0 li0 ⊢
      have ln0 : ([.ref a0, .ref a1, .ref a2] : List V).length = 3 := rfl
      generalize ([.ref a0, .ref a1, .ref a2] : List V) = xs0 at ac0 li0 ln0
      clear x0 s0 n0 x1 s1 n1 x2 s2 n2 hp
      walk_at "r"
      refine r_mkE rfl rfl fun a0 G0 n0 s0 x0 => ?_
      walk_at "r"
      refine r_mkE rfl rfl fun a1 G1 n1 s1 x1 => ?_
      walk_at "r"
      refine ⟨by show 2 ≤ sizeLine; decide, fun p1 hp => ?_⟩
      have ac1 : Acc E (upd G1 p1 (.lst [.ref a0, .ref a1])) [u, v] 35 [.ref a0, .ref a1] := ⟨⟨_, rfl, x0.same (s1.trans (Same.upd_new hp))⟩, ⟨⟨_, rfl, x1.same (Same.upd_new hp)⟩, True.intro⟩⟩
      have sa1 : Same D0 (upd G1 p1 (.lst [.ref a0, .ref a1])) := (s0.trans (s1.trans (Same.upd_new hp)))
      have ne1 : D0 p1 = none := (s0.free (s1.free hp))
      have li1 : (upd G1 p1 (.lst [.ref a0, .ref a1])) p1 = some (.lst [.ref a0, .ref a1]) := upd_same
      generalize (upd G1 p1 (.lst [.ref a0, .ref a1])) = D1 at ac1 sa1 li1 ⊢
      have ln1 : ([.ref a0, .ref a1] : List V).length = 2 := rfl
      generalize ([.ref a0, .ref a1] : List V) = xs1 at ac1 li1 ln1
      clear x0 s0 n0 x1 s1 n1 hp
      walk_at "r"
      refine r_catE (sa1 _ _ li0) li1 (by omega) (ac0.same sa1) (by rw [ln0]; exact ac1) fun q1 F1 hq1 t1 f1 b1 => ?_
      have S1 : Same H F1 := sa0.trans (sa1.trans t1)
      have N1 : H q1 = none := sa0.free (sa1.free hq1)
      have L1 : (xs0 ++ xs1).length = 5 := by rw [List.length_append, ln0, ln1]
      generalize xs0 ++ xs1 = ys1 at f1 b1 L1
      walk_at "r"
      exact k F1 q1 ys1 S1 N1 f1 L1 b1
    · walk_at "r"
      refine ite2 (fun c => absurd c (by decide)) (fun _ => ?_)
      walk_at "r"
      refine ite2 (fun c => absurd c (by decide)) (fun _ => ?_)
      walk_at "r"
      refine ite2 (fun c => absurd c (by decide)) (fun _ => ?_)
      walk_at "r"
      refine r_mkE rfl rfl fun a0 G0 n0 s0 x0 => ?_
      walk_at "r"
      refine r_mkE rfl rfl fun a1 G1 n1 s1 x1 => ?_
      walk_at "r"
      refine r_mkE rfl rfl fun a2 G2 n2 s2 x2 => ?_
      walk_at "r"
      refine ⟨by show 3 ≤ sizeLine; decide, fun p0 hp => ?_⟩
      have ac0 : Acc E (upd G2 p0 (.lst [.ref a0, .ref a1, .ref a2])) [u, v] 32 [.ref a0, .ref a1, .ref a2] := ⟨⟨_, rfl, x0.same (s1.trans (s2.trans (Same.upd_new hp)))⟩, ⟨⟨_, rfl, x1.same (s2.trans (Same.upd_new hp))⟩, ⟨⟨_, rfl, x2.same (Same.upd_new hp)⟩, True.intro⟩⟩⟩
      have sa0 : Same H (upd G2 p0 (.lst [.ref a0, .ref a1, .ref a2])) := (s0.trans (s1.trans (s2.trans (Same.upd_new hp))))
      have ne0 : H p0 = none := (s0.free (s1.free (s2.free hp)))
      have li0 : (upd G2 p0 (.lst [.ref a0, .ref a1, .ref a2])) p0 = some (.lst [.ref a0, .ref a1, .ref a2]) := upd_same
      generalize (upd G2 p0 (.lst [.ref a0, .ref a1, .ref a2])) = D0 at ac0 sa0 li0 ⊢
      have ln0 : ([.ref a0, .ref a1, .ref a2] : List V).length = 3 := rfl
      generalize ([.ref a0, .ref a1, .ref a2] : List V) = xs0 at ac0 li0 ln0
      clear x0 s0 n0 x1 s1 n1 x2 s2 n2 hp
      walk_at "r"
      refine r_mkE rfl rfl fun a0 G0 n0 s0 x0 => ?_
      walk_at "r"
      refine r_mkE rfl rfl fun a1 G1 n1 s1 x1 => ?_
      walk_at "r"
      refine ⟨by show 2 ≤ sizeLine; decide, fun p1 hp => ?_⟩
      have ac1 : Acc E (upd G1 p1 (.lst [.ref a0, .ref a1])) [u, v] 35 [.ref a0, .ref a1] := ⟨⟨_, rfl, x0.same (s1.trans (Same.upd_new hp))⟩, ⟨⟨_, rfl, x1.same (Same.upd_new hp)⟩, True.intro⟩⟩
      have sa1 : Same D0 (upd G1 p1 (.lst [.ref a0, .ref a1])) := (s0.trans (s1.trans (Same.upd_new hp)))
      have ne1 : D0 p1 = none := (s0.free (s1.free hp))
      have li1 : (upd G1 p1 (.lst [.ref a0, .ref a1])) p1 = some (.lst [.ref a0, .ref a1]) := upd_same
      generalize (upd G1 p1 (.lst [.ref a0, .ref a1])) = D1 at ac1 sa1 li1 ⊢
      have ln1 : ([.ref a0, .ref a1] : List V).length = 2 := rfl
      generalize ([.ref a0, .ref a1] : List V) = xs1 at ac1 li1 ln1
      clear x0 s0 n0 x1 s1 n1 hp
      walk_at "r"
      refine r_catE (sa1 _ _ li0) li1 (by omega) (ac0.same sa1) (by rw [ln0]; exact ac1) fun q1 F1 hq1 t1 f1 b1 => ?_
      have S1 : Same H F1 := sa0.trans (sa1.trans t1)
      have N1 : H q1 = none := sa0.free (sa1.free hq1)
      have L1 : (xs0 ++ xs1).length = 5 := by rw [List.length_append, ln0, ln1]
      generalize xs0 ++ xs1 = ys1 at f1 b1 L1
      walk_at "r"
      exact k F1 q1 ys1 S1 N1 f1 L1 b1
end
end Eld
set_option Elab.async false
set_option maxRecDepth 100000
set_option maxHeartbeats 4000000
set_option linter.all false
namespace Eld
open PySem L2
local macro_rules | `(tactic| walk_at "r1") => `(tactic| with_reducible first
  | refine r_seq ?_ | refine r_asgN ?_ | refine r_asg ?_ | refine r_gname ?_ | refine r_gsub ?_ | refine r_var rfl ?_ | refine r_c ?_ | refine r_op ?_ | refine r_un ?_ | refine r_u ?_ | refine r_i0 ?_ | refine r_cb ?_ | refine r_cons ?_ | refine r_nil ?_ | refine r_cl ?_ | refine r_fn rfl rfl ?_ | refine r_mt ?_
  | refine r_test ?_ | refine r_tb ?_ | refine r_bl ?_ | refine r_and ?_ | refine r_or ?_ | refine r_not ?_ | refine r_andV ?_ | refine r_orV ?_ | refine r_notV ?_ | refine r_ifX ?_ | refine r_ifs ?_ | refine r_chain ?_ | refine r_ret ?_ | refine r_next ?_ | refine r_drop ?_ | refine iteT ?_ | refine iteF ?_ | refine iteNT ?_ | refine iteNF ?_
  | refine r_int1 ?_ | refine r_boolB ?_ | refine r_eqI ?_ | refine r_neI ?_ | refine r_eqB ?_ | refine r_neB ?_ | refine r_eqS ?_ | refine r_neS ?_ | refine r_abs ?_ | refine r_max2 ?_ | refine r_min2 ?_ | refine r_yes ?_ | refine r_tup ?_ | refine r_sfld ?_ | refine r_m0 ?_ | refine r_m1 ?_ | refine r_lst ?_ | refine r_rng1 ?_ | refine r_rng2 ?_ | refine r_ixL (SqL.of (by assumption)) rfl ?_)
local macro_rules | `(tactic| walk_at "r") => `(tactic| repeat (first | walk_at "r1" | ((with_reducible refine r_var ?hv ?_); (case hv => rfl))))

/-! ## what an error is, and what it keeps -/
def Bt (i : Nat) : Nat → List V → Prop
  | _, [] => True
  | j, x :: xs => x = .bl (decide (i = j)) ∧ Bt i (j + 1) xs
theorem Bt.append {i : Nat} : ∀ {xs ys : List V} {j : Nat}, Bt i j xs → Bt i (j + xs.length) ys → Bt i j (xs ++ ys)
  | [], _, _, _, h => h
  | x :: xs, ys, j, ⟨h, t⟩, k => ⟨h, Bt.append t (by rw [show j + 1 + xs.length = j + (x :: xs).length from by rw [List.length_cons]; omega]; exact k)⟩
theorem Bt.get {i : Nat} : ∀ {xs : List V} {j k : Nat}, Bt i j xs → k < xs.length → xs[k]? = some (.bl (decide (i = j + k)))
  | [], _, _, _, l => by simp at l
  | x :: xs, j, 0, ⟨h, _⟩, _ => by simp [h]
  | x :: xs, j, k + 1, ⟨_, t⟩, l => by
    have e := Bt.get (k := k) t (by simpa using l)
    rw [show j + (k + 1) = j + 1 + k from by omega]
    simpa using e
section
variable {P : Program} {w : World} {K : PySem.W.Frag} {mg : Str → Option Value} {base : Heap} {E : Nat → Addr} {cE : Addr}
theorem r_isx (ER : Er P w K mg base E cE) {H : Hp} {a : Addr} {i j : Nat} {Q : VK} (hi : i < 40) (hj : j < 40) (x : XA H a (E i)) (h : Q (.bl (decide (i = j))) H) : rIsx K [.ref a, .ref (E j)] H Q :=
  ⟨a, E i, .ref (E j), .ref (E j), decide (i = j), rfl, x, ER.xc i hi, ER.own i hi, .own _, ER.kit i j hi hj, h⟩
theorem r_isE (ER : Er P w K mg base E cE) {H : Hp} {a : Addr} {i : Nat} {Q : VK} (hi : i < 40) (x : XA H a (E i)) (h : Q (.bl true) H) : rIsx K [.ref a, .ref cE] H Q :=
  ⟨a, E i, .ref cE, .ref cE, true, rfl, x, ER.xc i hi, ER.own i hi, .own _, ER.kitE i hi, h⟩
theorem r_isV (ER : Er P w K mg base E cE) {H : Hp} {a : Addr} {i : Nat} {Q : VK} (hi : i < 40) (x : XA H a (E i)) (h : Q (.bl true) H) : rIsx K [.ref a, .ty "ValueError"] H Q :=
  ⟨a, E i, .ty "ValueError", .type "ValueError", true, rfl, x, ER.xc i hi, ER.own i hi, .ty _, ER.kitV i hi, h⟩
theorem r_catB {H : Hp} {i j : Nat} {l b : Addr} {xs zs : List V} {Q : VK} (hl : H l = some (.lst xs)) (hb : H b = some (.lst zs)) (few : xs.length + zs.length ≤ 100) (h1 : Bt i j xs) (h2 : Bt i (j + xs.length) zs)
    (h : ∀ p G, H p = none → Same H G → G p = some (.lst (xs ++ zs)) → Bt i j (xs ++ zs) → Q (.ref p) G) : rCat (.ref l) (.ref b) H Q :=
  ⟨l, b, xs, zs, rfl, rfl, hl, hb, by rw [sizeLine_eq]; omega, fun p hp => h p _ hp (Same.upd_new hp) upd_same (Bt.append h1 h2)⟩
def spSorts (E : Nat → Addr) : Sp := fun vs H Q _ => ∃ a i, vs = [.ref a] ∧ i < 40 ∧ XA H a (E i) ∧ ∀ G L xs, Same H G → H L = none → G L = some (.lst xs) → xs.length = 40 → Bt i 0 xs → Q (.ref L) G
theorem ok_sorts {f : Addr} {fd : FuncData} (F : Fun K "_law_sorts" "_law_sorts" s__law_sorts f fd) (Z : Zs mg) (ER : Er P w K mg base E cE) : FnA P w K mg base 2 f fd ["e"] (spSorts E) := by
  refine okA F sc__law_sorts (fun vs H Q E' h => ?_) (fun cdv B up z H vs Q E' hG hr hot h => ?_)
  · obtain ⟨a, i, rfl, _⟩ := h
    rfl
  · obtain ⟨a, i, rfl, hi, xaH, k⟩ := h
    refine ⟨_, (pss_cons (ps_set (i := 1) sc__law_sorts.nd rfl (by first | exact Or.inl rfl | exact Or.inr rfl) (pe_lst (pa_cons (pe_callB call_isx (by rfl) Z.isinstance_ (by decide +kernel) (pa_cons (pv 0) (pa_cons (pe_cls (by rfl) ER.g0) pa_nil))) (pa_cons (pe_callB call_isx (by rfl) Z.isinstance_ (by decide +kernel) (pa_cons (pv 0) (pa_cons (pe_cls (by rfl) ER.g1) pa_nil))) (pa_cons (pe_callB call_isx (by rfl) Z.isinstance_ (by decide +kernel) (pa_cons (pv 0) (pa_cons (pe_cls (by rfl) ER.g2) pa_nil))) pa_nil)))))
  (pss_cons (ps_set (i := 1) sc__law_sorts.nd rfl (by first | exact Or.inl rfl | exact Or.inr rfl) (pe_op op_cat (pv 1) (pe_lst (pa_cons (pe_callB call_isx (by rfl) Z.isinstance_ (by decide +kernel) (pa_cons (pv 0) (pa_cons (pe_cls (by rfl) ER.g3) pa_nil))) (pa_cons (pe_callB call_isx (by rfl) Z.isinstance_ (by decide +kernel) (pa_cons (pv 0) (pa_cons (pe_cls (by rfl) ER.g4) pa_nil))) (pa_cons (pe_callB call_isx (by rfl) Z.isinstance_ (by decide +kernel) (pa_cons (pv 0) (pa_cons (pe_cls (by rfl) ER.g5) pa_nil))) pa_nil))))))
  (pss_cons (ps_set (i := 1) sc__law_sorts.nd rfl (by first | exact Or.inl rfl | exact Or.inr rfl) (pe_op op_cat (pv 1) (pe_lst (pa_cons (pe_callB call_isx (by rfl) Z.isinstance_ (by decide +kernel) (pa_cons (pv 0) (pa_cons (pe_cls (by rfl) ER.g6) pa_nil))) (pa_cons (pe_callB call_isx (by rfl) Z.isinstance_ (by decide +kernel) (pa_cons (pv 0) (pa_cons (pe_cls (by rfl) ER.g7) pa_nil))) (pa_cons (pe_callB call_isx (by rfl) Z.isinstance_ (by decide +kernel) (pa_cons (pv 0) (pa_cons (pe_cls (by rfl) ER.g8) pa_nil))) pa_nil))))))
  (pss_cons (ps_set (i := 1) sc__law_sorts.nd rfl (by first | exact Or.inl rfl | exact Or.inr rfl) (pe_op op_cat (pv 1) (pe_lst (pa_cons (pe_callB call_isx (by rfl) Z.isinstance_ (by decide +kernel) (pa_cons (pv 0) (pa_cons (pe_cls (by rfl) ER.g9) pa_nil))) (pa_cons (pe_callB call_isx (by rfl) Z.isinstance_ (by decide +kernel) (pa_cons (pv 0) (pa_cons (pe_cls (by rfl) ER.g10) pa_nil))) (pa_cons (pe_callB call_isx (by rfl) Z.isinstance_ (by decide +kernel) (pa_cons (pv 0) (pa_cons (pe_cls (by rfl) ER.g11) pa_nil))) pa_nil))))))
  (pss_cons (ps_set (i := 1) sc__law_sorts.nd rfl (by first | exact Or.inl rfl | exact Or.inr rfl) (pe_op op_cat (pv 1) (pe_lst (pa_cons (pe_callB call_isx (by rfl) Z.isinstance_ (by decide +kernel) (pa_cons (pv 0) (pa_cons (pe_cls (by rfl) ER.g12) pa_nil))) (pa_cons (pe_callB call_isx (by rfl) Z.isinstance_ (by decide +kernel) (pa_cons (pv 0) (pa_cons (pe_cls (by rfl) ER.g13) pa_nil))) (pa_cons (pe_callB call_isx (by rfl) Z.isinstance_ (by decide +kernel) (pa_cons (pv 0) (pa_cons (pe_cls (by rfl) ER.g14) pa_nil))) pa_nil))))))
  (pss_cons (ps_set (i := 1) sc__law_sorts.nd rfl (by first | exact Or.inl rfl | exact Or.inr rfl) (pe_op op_cat (pv 1) (pe_lst (pa_cons (pe_callB call_isx (by rfl) Z.isinstance_ (by decide +kernel) (pa_cons (pv 0) (pa_cons (pe_cls (by rfl) ER.g15) pa_nil))) (pa_cons (pe_callB call_isx (by rfl) Z.isinstance_ (by decide +kernel) (pa_cons (pv 0) (pa_cons (pe_cls (by rfl) ER.g16) pa_nil))) (pa_cons (pe_callB call_isx (by rfl) Z.isinstance_ (by decide +kernel) (pa_cons (pv 0) (pa_cons (pe_cls (by rfl) ER.g17) pa_nil))) pa_nil))))))
  (pss_cons (ps_set (i := 1) sc__law_sorts.nd rfl (by first | exact Or.inl rfl | exact Or.inr rfl) (pe_op op_cat (pv 1) (pe_lst (pa_cons (pe_callB call_isx (by rfl) Z.isinstance_ (by decide +kernel) (pa_cons (pv 0) (pa_cons (pe_cls (by rfl) ER.g18) pa_nil))) (pa_cons (pe_callB call_isx (by rfl) Z.isinstance_ (by decide +kernel) (pa_cons (pv 0) (pa_cons (pe_cls (by rfl) ER.g19) pa_nil))) (pa_cons (pe_callB call_isx (by rfl) Z.isinstance_ (by decide +kernel) (pa_cons (pv 0) (pa_cons (pe_cls (by rfl) ER.g20) pa_nil))) pa_nil))))))
  (pss_cons (ps_set (i := 1) sc__law_sorts.nd rfl (by first | exact Or.inl rfl | exact Or.inr rfl) (pe_op op_cat (pv 1) (pe_lst (pa_cons (pe_callB call_isx (by rfl) Z.isinstance_ (by decide +kernel) (pa_cons (pv 0) (pa_cons (pe_cls (by rfl) ER.g21) pa_nil))) (pa_cons (pe_callB call_isx (by rfl) Z.isinstance_ (by decide +kernel) (pa_cons (pv 0) (pa_cons (pe_cls (by rfl) ER.g22) pa_nil))) (pa_cons (pe_callB call_isx (by rfl) Z.isinstance_ (by decide +kernel) (pa_cons (pv 0) (pa_cons (pe_cls (by rfl) ER.g23) pa_nil))) pa_nil))))))
  (pss_cons (ps_set (i := 1) sc__law_sorts.nd rfl (by first | exact Or.inl rfl | exact Or.inr rfl) (pe_op op_cat (pv 1) (pe_lst (pa_cons (pe_callB call_isx (by rfl) Z.isinstance_ (by decide +kernel) (pa_cons (pv 0) (pa_cons (pe_cls (by rfl) ER.g24) pa_nil))) (pa_cons (pe_callB call_isx (by rfl) Z.isinstance_ (by decide +kernel) (pa_cons (pv 0) (pa_cons (pe_cls (by rfl) ER.g25) pa_nil))) (pa_cons (pe_callB call_isx (by rfl) Z.isinstance_ (by decide +kernel) (pa_cons (pv 0) (pa_cons (pe_cls (by rfl) ER.g26) pa_nil))) pa_nil))))))
  (pss_cons (ps_set (i := 1) sc__law_sorts.nd rfl (by first | exact Or.inl rfl | exact Or.inr rfl) (pe_op op_cat (pv 1) (pe_lst (pa_cons (pe_callB call_isx (by rfl) Z.isinstance_ (by decide +kernel) (pa_cons (pv 0) (pa_cons (pe_cls (by rfl) ER.g27) pa_nil))) (pa_cons (pe_callB call_isx (by rfl) Z.isinstance_ (by decide +kernel) (pa_cons (pv 0) (pa_cons (pe_cls (by rfl) ER.g28) pa_nil))) (pa_cons (pe_callB call_isx (by rfl) Z.isinstance_ (by decide +kernel) (pa_cons (pv 0) (pa_cons (pe_cls (by rfl) ER.g29) pa_nil))) pa_nil))))))
  (pss_cons (ps_set (i := 1) sc__law_sorts.nd rfl (by first | exact Or.inl rfl | exact Or.inr rfl) (pe_op op_cat (pv 1) (pe_lst (pa_cons (pe_callB call_isx (by rfl) Z.isinstance_ (by decide +kernel) (pa_cons (pv 0) (pa_cons (pe_cls (by rfl) ER.g30) pa_nil))) (pa_cons (pe_callB call_isx (by rfl) Z.isinstance_ (by decide +kernel) (pa_cons (pv 0) (pa_cons (pe_cls (by rfl) ER.g31) pa_nil))) (pa_cons (pe_callB call_isx (by rfl) Z.isinstance_ (by decide +kernel) (pa_cons (pv 0) (pa_cons (pe_cls (by rfl) ER.g32) pa_nil))) (pa_cons (pe_callB call_isx (by rfl) Z.isinstance_ (by decide +kernel) (pa_cons (pv 0) (pa_cons (pe_cls (by rfl) ER.g33) pa_nil))) pa_nil)))))))
  (pss_cons (ps_set (i := 1) sc__law_sorts.nd rfl (by first | exact Or.inl rfl | exact Or.inr rfl) (pe_op op_cat (pv 1) (pe_lst (pa_cons (pe_callB call_isx (by rfl) Z.isinstance_ (by decide +kernel) (pa_cons (pv 0) (pa_cons (pe_cls (by rfl) ER.g34) pa_nil))) (pa_cons (pe_callB call_isx (by rfl) Z.isinstance_ (by decide +kernel) (pa_cons (pv 0) (pa_cons (pe_cls (by rfl) ER.g35) pa_nil))) (pa_cons (pe_callB call_isx (by rfl) Z.isinstance_ (by decide +kernel) (pa_cons (pv 0) (pa_cons (pe_cls (by rfl) ER.g36) pa_nil))) pa_nil))))))
  (pss_one (ps_ret (pe_op op_cat (pv 1) (pe_lst (pa_cons (pe_callB call_isx (by rfl) Z.isinstance_ (by decide +kernel) (pa_cons (pv 0) (pa_cons (pe_cls (by rfl) ER.g37) pa_nil))) (pa_cons (pe_callB call_isx (by rfl) Z.isinstance_ (by decide +kernel) (pa_cons (pv 0) (pa_cons (pe_cls (by rfl) ER.g38) pa_nil))) (pa_cons (pe_callB call_isx (by rfl) Z.isinstance_ (by decide +kernel) (pa_cons (pv 0) (pa_cons (pe_cls (by rfl) ER.g39) pa_nil))) pa_nil))))))))))))))))))), ?_⟩
    walk_at "r"
    refine r_isx ER hi (by decide) xaH ?_
    walk_at "r"
    refine r_isx ER hi (by decide) xaH ?_
    walk_at "r"
    refine r_isx ER hi (by decide) xaH ?_
    walk_at "r"
    refine ⟨by show 3 ≤ sizeLine; decide, fun p0 ne0 => ?_⟩
    have bt0 : Bt i 0 [V.bl (decide (i = 0)), V.bl (decide (i = 1)), V.bl (decide (i = 2))] := ⟨rfl, ⟨rfl, ⟨rfl, True.intro⟩⟩⟩
    have sa0 : Same H (upd H p0 (.lst [V.bl (decide (i = 0)), V.bl (decide (i = 1)), V.bl (decide (i = 2))])) := Same.upd_new ne0
    have li0 : (upd H p0 (.lst [V.bl (decide (i = 0)), V.bl (decide (i = 1)), V.bl (decide (i = 2))])) p0 = some (.lst [V.bl (decide (i = 0)), V.bl (decide (i = 1)), V.bl (decide (i = 2))]) := upd_same
    generalize (upd H p0 (.lst [V.bl (decide (i = 0)), V.bl (decide (i = 1)), V.bl (decide (i = 2))])) = D0 at sa0 li0 ⊢
    have ln0 : ([V.bl (decide (i = 0)), V.bl (decide (i = 1)), V.bl (decide (i = 2))] : List V).length = 3 := rfl
    generalize ([V.bl (decide (i = 0)), V.bl (decide (i = 1)), V.bl (decide (i = 2))] : List V) = xs0 at bt0 li0 ln0
    have xaD0 := xaH.same sa0
    walk_at "r"
    refine r_isx ER hi (by decide) xaD0 ?_
    walk_at "r"
    refine r_isx ER hi (by decide) xaD0 ?_
    walk_at "r"
    refine r_isx ER hi (by decide) xaD0 ?_
    walk_at "r"
    refine ⟨by show 3 ≤ sizeLine; decide, fun p1 ne1 => ?_⟩
    have bt1 : Bt i 3 [V.bl (decide (i = 3)), V.bl (decide (i = 4)), V.bl (decide (i = 5))] := ⟨rfl, ⟨rfl, ⟨rfl, True.intro⟩⟩⟩
    have sa1 : Same D0 (upd D0 p1 (.lst [V.bl (decide (i = 3)), V.bl (decide (i = 4)), V.bl (decide (i = 5))])) := Same.upd_new ne1
    have li1 : (upd D0 p1 (.lst [V.bl (decide (i = 3)), V.bl (decide (i = 4)), V.bl (decide (i = 5))])) p1 = some (.lst [V.bl (decide (i = 3)), V.bl (decide (i = 4)), V.bl (decide (i = 5))]) := upd_same
    generalize (upd D0 p1 (.lst [V.bl (decide (i = 3)), V.bl (decide (i = 4)), V.bl (decide (i = 5))])) = D1 at sa1 li1 ⊢
    have ln1 : ([V.bl (decide (i = 3)), V.bl (decide (i = 4)), V.bl (decide (i = 5))] : List V).length = 3 := rfl
    generalize ([V.bl (decide (i = 3)), V.bl (decide (i = 4)), V.bl (decide (i = 5))] : List V) = xs1 at bt1 li1 ln1
    have xaD1 := xaD0.same sa1
    walk_at "r"
    refine r_catB (sa1 _ _ li0) li1 (by omega) bt0 (by rw [ln0]; exact bt1) fun q1 F1 hq1 t1 f1 b1 => ?_
    have S1 : Same H F1 := sa0.trans (sa1.trans t1)
    have N1 : H q1 = none := sa0.free (sa1.free hq1)
    have L1 : (xs0 ++ xs1).length = 6 := by rw [List.length_append, ln0, ln1]
    generalize xs0 ++ xs1 = ys1 at f1 b1 L1
    have xaF1 := xaH.same S1
    walk_at "r"
    refine r_isx ER hi (by decide) xaF1 ?_
    walk_at "r"
    refine r_isx ER hi (by decide) xaF1 ?_
    walk_at "r"
    refine r_isx ER hi (by decide) xaF1 ?_
    walk_at "r"
    refine ⟨by show 3 ≤ sizeLine; decide, fun p2 ne2 => ?_⟩
    have bt2 : Bt i 6 [V.bl (decide (i = 6)), V.bl (decide (i = 7)), V.bl (decide (i = 8))] := ⟨rfl, ⟨rfl, ⟨rfl, True.intro⟩⟩⟩
    have sa2 : Same F1 (upd F1 p2 (.lst [V.bl (decide (i = 6)), V.bl (decide (i = 7)), V.bl (decide (i = 8))])) := Same.upd_new ne2
    have li2 : (upd F1 p2 (.lst [V.bl (decide (i = 6)), V.bl (decide (i = 7)), V.bl (decide (i = 8))])) p2 = some (.lst [V.bl (decide (i = 6)), V.bl (decide (i = 7)), V.bl (decide (i = 8))]) := upd_same
    generalize (upd F1 p2 (.lst [V.bl (decide (i = 6)), V.bl (decide (i = 7)), V.bl (decide (i = 8))])) = D2 at sa2 li2 ⊢
    have ln2 : ([V.bl (decide (i = 6)), V.bl (decide (i = 7)), V.bl (decide (i = 8))] : List V).length = 3 := rfl
    generalize ([V.bl (decide (i = 6)), V.bl (decide (i = 7)), V.bl (decide (i = 8))] : List V) = xs2 at bt2 li2 ln2
    have xaD2 := xaF1.same sa2
    walk_at "r"
    refine r_catB (sa2 _ _ f1) li2 (by omega) b1 (by rw [L1]; exact bt2) fun q2 F2 hq2 t2 f2 b2 => ?_
    have S2 : Same H F2 := S1.trans (sa2.trans t2)
    have N2 : H q2 = none := S1.free (sa2.free hq2)
    have L2 : (ys1 ++ xs2).length = 9 := by rw [List.length_append, L1, ln2]
    generalize ys1 ++ xs2 = ys2 at f2 b2 L2
    have xaF2 := xaH.same S2
    walk_at "r"
    refine r_isx ER hi (by decide) xaF2 ?_
    walk_at "r"
    refine r_isx ER hi (by decide) xaF2 ?_
    walk_at "r"
    refine r_isx ER hi (by decide) xaF2 ?_
    walk_at "r"
    refine ⟨by show 3 ≤ sizeLine; decide, fun p3 ne3 => ?_⟩
    have bt3 : Bt i 9 [V.bl (decide (i = 9)), V.bl (decide (i = 10)), V.bl (decide (i = 11))] := ⟨rfl, ⟨rfl, ⟨rfl, True.intro⟩⟩⟩
    have sa3 : Same F2 (upd F2 p3 (.lst [V.bl (decide (i = 9)), V.bl (decide (i = 10)), V.bl (decide (i = 11))])) := Same.upd_new ne3
    have li3 : (upd F2 p3 (.lst [V.bl (decide (i = 9)), V.bl (decide (i = 10)), V.bl (decide (i = 11))])) p3 = some (.lst [V.bl (decide (i = 9)), V.bl (decide (i = 10)), V.bl (decide (i = 11))]) := upd_same
    generalize (upd F2 p3 (.lst [V.bl (decide (i = 9)), V.bl (decide (i = 10)), V.bl (decide (i = 11))])) = D3 at sa3 li3 ⊢
    have ln3 : ([V.bl (decide (i = 9)), V.bl (decide (i = 10)), V.bl (decide (i = 11))] : List V).length = 3 := rfl
    generalize ([V.bl (decide (i = 9)), V.bl (decide (i = 10)), V.bl (decide (i = 11))] : List V) = xs3 at bt3 li3 ln3
    have xaD3 := xaF2.same sa3
    walk_at "r"
    refine r_catB (sa3 _ _ f2) li3 (by omega) b2 (by rw [L2]; exact bt3) fun q3 F3 hq3 t3 f3 b3 => ?_
    have S3 : Same H F3 := S2.trans (sa3.trans t3)
    have N3 : H q3 = none := S2.free (sa3.free hq3)
    have L3 : (ys2 ++ xs3).length = 12 := by rw [List.length_append, L2, ln3]
    generalize ys2 ++ xs3 = ys3 at f3 b3 L3
    have xaF3 := xaH.same S3
    walk_at "r"
    refine r_isx ER hi (by decide) xaF3 ?_
    walk_at "r"
    refine r_isx ER hi (by decide) xaF3 ?_
    walk_at "r"
    refine r_isx ER hi (by decide) xaF3 ?_
    walk_at "r"
    refine ⟨by show 3 ≤ sizeLine; decide, fun p4 ne4 => ?_⟩
    have bt4 : Bt i 12 [V.bl (decide (i = 12)), V.bl (decide (i = 13)), V.bl (decide (i = 14))] := ⟨rfl, ⟨rfl, ⟨rfl, True.intro⟩⟩⟩
    have sa4 : Same F3 (upd F3 p4 (.lst [V.bl (decide (i = 12)), V.bl (decide (i = 13)), V.bl (decide (i = 14))])) := Same.upd_new ne4
    have li4 : (upd F3 p4 (.lst [V.bl (decide (i = 12)), V.bl (decide (i = 13)), V.bl (decide (i = 14))])) p4 = some (.lst [V.bl (decide (i = 12)), V.bl (decide (i = 13)), V.bl (decide (i = 14))]) := upd_same
    generalize (upd F3 p4 (.lst [V.bl (decide (i = 12)), V.bl (decide (i = 13)), V.bl (decide (i = 14))])) = D4 at sa4 li4 ⊢
    have ln4 : ([V.bl (decide (i = 12)), V.bl (decide (i = 13)), V.bl (decide (i = 14))] : List V).length = 3 := rfl
    generalize ([V.bl (decide (i = 12)), V.bl (decide (i = 13)), V.bl (decide (i = 14))] : List V) = xs4 at bt4 li4 ln4
    have xaD4 := xaF3.same sa4
    walk_at "r"
    refine r_catB (sa4 _ _ f3) li4 (by omega) b3 (by rw [L3]; exact bt4) fun q4 F4 hq4 t4 f4 b4 => ?_
    have S4 : Same H F4 := S3.trans (sa4.trans t4)
    have N4 : H q4 = none := S3.free (sa4.free hq4)
    have L4 : (ys3 ++ xs4).length = 15 := by rw [List.length_append, L3, ln4]
    generalize ys3 ++ xs4 = ys4 at f4 b4 L4
    have xaF4 := xaH.same S4
    walk_at "r"
    refine r_isx ER hi (by decide) xaF4 ?_
    walk_at "r"
    refine r_isx ER hi (by decide) xaF4 ?_
    walk_at "r"
    refine r_isx ER hi (by decide) xaF4 ?_
    walk_at "r"
    refine ⟨by show 3 ≤ sizeLine; decide, fun p5 ne5 => ?_⟩
    have bt5 : Bt i 15 [V.bl (decide (i = 15)), V.bl (decide (i = 16)), V.bl (decide (i = 17))] := ⟨rfl, ⟨rfl, ⟨rfl, True.intro⟩⟩⟩
    have sa5 : Same F4 (upd F4 p5 (.lst [V.bl (decide (i = 15)), V.bl (decide (i = 16)), V.bl (decide (i = 17))])) := Same.upd_new ne5
    have li5 : (upd F4 p5 (.lst [V.bl (decide (i = 15)), V.bl (decide (i = 16)), V.bl (decide (i = 17))])) p5 = some (.lst [V.bl (decide (i = 15)), V.bl (decide (i = 16)), V.bl (decide (i = 17))]) := upd_same
    generalize (upd F4 p5 (.lst [V.bl (decide (i = 15)), V.bl (decide (i = 16)), V.bl (decide (i = 17))])) = D5 at sa5 li5 ⊢
    have ln5 : ([V.bl (decide (i = 15)), V.bl (decide (i = 16)), V.bl (decide (i = 17))] : List V).length = 3 := rfl
    generalize ([V.bl (decide (i = 15)), V.bl (decide (i = 16)), V.bl (decide (i = 17))] : List V) = xs5 at bt5 li5 ln5
    have xaD5 := xaF4.same sa5
    walk_at "r"
    refine r_catB (sa5 _ _ f4) li5 (by omega) b4 (by rw [L4]; exact bt5) fun q5 F5 hq5 t5 f5 b5 => ?_
    have S5 : Same H F5 := S4.trans (sa5.trans t5)
    have N5 : H q5 = none := S4.free (sa5.free hq5)
    have L5 : (ys4 ++ xs5).length = 18 := by rw [List.length_append, L4, ln5]
    generalize ys4 ++ xs5 = ys5 at f5 b5 L5
    have xaF5 := xaH.same S5
    walk_at "r"
    refine r_isx ER hi (by decide) xaF5 ?_
    walk_at "r"
    refine r_isx ER hi (by decide) xaF5 ?_
    walk_at "r"
    refine r_isx ER hi (by decide) xaF5 ?_
    walk_at "r"
    refine ⟨by show 3 ≤ sizeLine; decide, fun p6 ne6 => ?_⟩
    have bt6 : Bt i 18 [V.bl (decide (i = 18)), V.bl (decide (i = 19)), V.bl (decide (i = 20))] := ⟨rfl, ⟨rfl, ⟨rfl, True.intro⟩⟩⟩
    have sa6 : Same F5 (upd F5 p6 (.lst [V.bl (decide (i = 18)), V.bl (decide (i = 19)), V.bl (decide (i = 20))])) := Same.upd_new ne6
    have li6 : (upd F5 p6 (.lst [V.bl (decide (i = 18)), V.bl (decide (i = 19)), V.bl (decide (i = 20))])) p6 = some (.lst [V.bl (decide (i = 18)), V.bl (decide (i = 19)), V.bl (decide (i = 20))]) := upd_same
    generalize (upd F5 p6 (.lst [V.bl (decide (i = 18)), V.bl (decide (i = 19)), V.bl (decide (i = 20))])) = D6 at sa6 li6 ⊢
    have ln6 : ([V.bl (decide (i = 18)), V.bl (decide (i = 19)), V.bl (decide (i = 20))] : List V).length = 3 := rfl
    generalize ([V.bl (decide (i = 18)), V.bl (decide (i = 19)), V.bl (decide (i = 20))] : List V) = xs6 at bt6 li6 ln6
    have xaD6 := xaF5.same sa6
    walk_at "r"
    refine r_catB (sa6 _ _ f5) li6 (by omega) b5 (by rw [L5]; exact bt6) fun q6 F6 hq6 t6 f6 b6 => ?_
    have S6 : Same H F6 := S5.trans (sa6.trans t6)
    have N6 : H q6 = none := S5.free (sa6.free hq6)
    have L6 : (ys5 ++ xs6).length = 21 := by rw [List.length_append, L5, ln6]
    generalize ys5 ++ xs6 = ys6 at f6 b6 L6
    have xaF6 := xaH.same S6
    walk_at "r"
    refine r_isx ER hi (by decide) xaF6 ?_
    walk_at "r"
    refine r_isx ER hi (by decide) xaF6 ?_
    walk_at "r"
    refine r_isx ER hi (by decide) xaF6 ?_
    walk_at "r"
    refine ⟨by show 3 ≤ sizeLine; decide, fun p7 ne7 => ?_⟩
    have bt7 : Bt i 21 [V.bl (decide (i = 21)), V.bl (decide (i = 22)), V.bl (decide (i = 23))] := ⟨rfl, ⟨rfl, ⟨rfl, True.intro⟩⟩⟩
    have sa7 : Same F6 (upd F6 p7 (.lst [V.bl (decide (i = 21)), V.bl (decide (i = 22)), V.bl (decide (i = 23))])) := Same.upd_new ne7
    have li7 : (upd F6 p7 (.lst [V.bl (decide (i = 21)), V.bl (decide (i = 22)), V.bl (decide (i = 23))])) p7 = some (.lst [V.bl (decide (i = 21)), V.bl (decide (i = 22)), V.bl (decide (i = 23))]) := upd_same
    generalize (upd F6 p7 (.lst [V.bl (decide (i = 21)), V.bl (decide (i = 22)), V.bl (decide (i = 23))])) = D7 at sa7 li7 ⊢
    have ln7 : ([V.bl (decide (i = 21)), V.bl (decide (i = 22)), V.bl (decide (i = 23))] : List V).length = 3 := rfl
    generalize ([V.bl (decide (i = 21)), V.bl (decide (i = 22)), V.bl (decide (i = 23))] : List V) = xs7 at bt7 li7 ln7
    have xaD7 := xaF6.same sa7
    walk_at "r"
    refine r_catB (sa7 _ _ f6) li7 (by omega) b6 (by rw [L6]; exact bt7) fun q7 F7 hq7 t7 f7 b7 => ?_
    have S7 : Same H F7 := S6.trans (sa7.trans t7)
    have N7 : H q7 = none := S6.free (sa7.free hq7)
    have L7 : (ys6 ++ xs7).length = 24 := by rw [List.length_append, L6, ln7]
    generalize ys6 ++ xs7 = ys7 at f7 b7 L7
    have xaF7 := xaH.same S7
    walk_at "r"
    refine r_isx ER hi (by decide) xaF7 ?_
    walk_at "r"
    refine r_isx ER hi (by decide) xaF7 ?_
    walk_at "r"
    refine r_isx ER hi (by decide) xaF7 ?_
    walk_at "r"
    refine ⟨by show 3 ≤ sizeLine; decide, fun p8 ne8 => ?_⟩
    have bt8 : Bt i 24 [V.bl (decide (i = 24)), V.bl (decide (i = 25)), V.bl (decide (i = 26))] := ⟨rfl, ⟨rfl, ⟨rfl, True.intro⟩⟩⟩
    have sa8 : Same F7 (upd F7 p8 (.lst [V.bl (decide (i = 24)), V.bl (decide (i = 25)), V.bl (decide (i = 26))])) := Same.upd_new ne8
    have li8 : (upd F7 p8 (.lst [V.bl (decide (i = 24)), V.bl (decide (i = 25)), V.bl (decide (i = 26))])) p8 = some (.lst [V.bl (decide (i = 24)), V.bl (decide (i = 25)), V.bl (decide (i = 26))]) := upd_same
    generalize (upd F7 p8 (.lst [V.bl (decide (i = 24)), V.bl (decide (i = 25)), V.bl (decide (i = 26))])) = D8 at sa8 li8 ⊢
    have ln8 : ([V.bl (decide (i = 24)), V.bl (decide (i = 25)), V.bl (decide (i = 26))] : List V).length = 3 := rfl
    generalize ([V.bl (decide (i = 24)), V.bl (decide (i = 25)), V.bl (decide (i = 26))] : List V) = xs8 at bt8 li8 ln8
    have xaD8 := xaF7.same sa8
    walk_at "r"
    refine r_catB (sa8 _ _ f7) li8 (by omega) b7 (by rw [L7]; exact bt8) fun q8 F8 hq8 t8 f8 b8 => ?_
    have S8 : Same H F8 := S7.trans (sa8.trans t8)
    have N8 : H q8 = none := S7.free (sa8.free hq8)
    have L8 : (ys7 ++ xs8).length = 27 := by rw [List.length_append, L7, ln8]
    generalize ys7 ++ xs8 = ys8 at f8 b8 L8
    have xaF8 := xaH.same S8
    walk_at "r"
    refine r_isx ER hi (by decide) xaF8 ?_
    walk_at "r"
    refine r_isx ER hi (by decide) xaF8 ?_
    walk_at "r"
    refine r_isx ER hi (by decide) xaF8 ?_
    walk_at "r"
    refine ⟨by show 3 ≤ sizeLine; decide, fun p9 ne9 => ?_⟩
    have bt9 : Bt i 27 [V.bl (decide (i = 27)), V.bl (decide (i = 28)), V.bl (decide (i = 29))] := ⟨rfl, ⟨rfl, ⟨rfl, True.intro⟩⟩⟩
    have sa9 : Same F8 (upd F8 p9 (.lst [V.bl (decide (i = 27)), V.bl (decide (i = 28)), V.bl (decide (i = 29))])) := Same.upd_new ne9
    have li9 : (upd F8 p9 (.lst [V.bl (decide (i = 27)), V.bl (decide (i = 28)), V.bl (decide (i = 29))])) p9 = some (.lst [V.bl (decide (i = 27)), V.bl (decide (i = 28)), V.bl (decide (i = 29))]) := upd_same
    generalize (upd F8 p9 (.lst [V.bl (decide (i = 27)), V.bl (decide (i = 28)), V.bl (decide (i = 29))])) = D9 at sa9 li9 ⊢
    have ln9 : ([V.bl (decide (i = 27)), V.bl (decide (i = 28)), V.bl (decide (i = 29))] : List V).length = 3 := rfl
    generalize ([V.bl (decide (i = 27)), V.bl (decide (i = 28)), V.bl (decide (i = 29))] : List V) = xs9 at bt9 li9 ln9
    have xaD9 := xaF8.same sa9
    walk_at "r"
    refine r_catB (sa9 _ _ f8) li9 (by omega) b8 (by rw [L8]; exact bt9) fun q9 F9 hq9 t9 f9 b9 => ?_
    have S9 : Same H F9 := S8.trans (sa9.trans t9)
    have N9 : H q9 = none := S8.free (sa9.free hq9)
    have L9 : (ys8 ++ xs9).length = 30 := by rw [List.length_append, L8, ln9]
    generalize ys8 ++ xs9 = ys9 at f9 b9 L9
    have xaF9 := xaH.same S9
    walk_at "r"
    refine r_isx ER hi (by decide) xaF9 ?_
    walk_at "r"
    refine r_isx ER hi (by decide) xaF9 ?_
    walk_at "r"
    refine r_isx ER hi (by decide) xaF9 ?_
    walk_at "r"
    refine r_isx ER hi (by decide) xaF9 ?_
    walk_at "r"
    refine ⟨by show 4 ≤ sizeLine; decide, fun p10 ne10 => ?_⟩
    have bt10 : Bt i 30 [V.bl (decide (i = 30)), V.bl (decide (i = 31)), V.bl (decide (i = 32)), V.bl (decide (i = 33))] := ⟨rfl, ⟨rfl, ⟨rfl, ⟨rfl, True.intro⟩⟩⟩⟩
    have sa10 : Same F9 (upd F9 p10 (.lst [V.bl (decide (i = 30)), V.bl (decide (i = 31)), V.bl (decide (i = 32)), V.bl (decide (i = 33))])) := Same.upd_new ne10
    have li10 : (upd F9 p10 (.lst [V.bl (decide (i = 30)), V.bl (decide (i = 31)), V.bl (decide (i = 32)), V.bl (decide (i = 33))])) p10 = some (.lst [V.bl (decide (i = 30)), V.bl (decide (i = 31)), V.bl (decide (i = 32)), V.bl (decide (i = 33))]) := upd_same
    generalize (upd F9 p10 (.lst [V.bl (decide (i = 30)), V.bl (decide (i = 31)), V.bl (decide (i = 32)), V.bl (decide (i = 33))])) = D10 at sa10 li10 ⊢
    have ln10 : ([V.bl (decide (i = 30)), V.bl (decide (i = 31)), V.bl (decide (i = 32)), V.bl (decide (i = 33))] : List V).length = 4 := rfl
    generalize ([V.bl (decide (i = 30)), V.bl (decide (i = 31)), V.bl (decide (i = 32)), V.bl (decide (i = 33))] : List V) = xs10 at bt10 li10 ln10
    have xaD10 := xaF9.same sa10
    walk_at "r"
    refine r_catB (sa10 _ _ f9) li10 (by omega) b9 (by rw [L9]; exact bt10) fun q10 F10 hq10 t10 f10 b10 => ?_
    have S10 : Same H F10 := S9.trans (sa10.trans t10)
    have N10 : H q10 = none := S9.free (sa10.free hq10)
    have L10 : (ys9 ++ xs10).length = 34 := by rw [List.length_append, L9, ln10]
    generalize ys9 ++ xs10 = ys10 at f10 b10 L10
    have xaF10 := xaH.same S10
    walk_at "r"
    refine r_isx ER hi (by decide) xaF10 ?_
    walk_at "r"
    refine r_isx ER hi (by decide) xaF10 ?_
    walk_at "r"
    refine r_isx ER hi (by decide) xaF10 ?_
    walk_at "r"
    refine ⟨by show 3 ≤ sizeLine; decide, fun p11 ne11 => ?_⟩
    have bt11 : Bt i 34 [V.bl (decide (i = 34)), V.bl (decide (i = 35)), V.bl (decide (i = 36))] := ⟨rfl, ⟨rfl, ⟨rfl, True.intro⟩⟩⟩
    have sa11 : Same F10 (upd F10 p11 (.lst [V.bl (decide (i = 34)), V.bl (decide (i = 35)), V.bl (decide (i = 36))])) := Same.upd_new ne11
    have li11 : (upd F10 p11 (.lst [V.bl (decide (i = 34)), V.bl (decide (i = 35)), V.bl (decide (i = 36))])) p11 = some (.lst [V.bl (decide (i = 34)), V.bl (decide (i = 35)), V.bl (decide (i = 36))]) := upd_same
    generalize (upd F10 p11 (.lst [V.bl (decide (i = 34)), V.bl (decide (i = 35)), V.bl (decide (i = 36))])) = D11 at sa11 li11 ⊢
    have ln11 : ([V.bl (decide (i = 34)), V.bl (decide (i = 35)), V.bl (decide (i = 36))] : List V).length = 3 := rfl
    generalize ([V.bl (decide (i = 34)), V.bl (decide (i = 35)), V.bl (decide (i = 36))] : List V) = xs11 at bt11 li11 ln11
    have xaD11 := xaF10.same sa11
    walk_at "r"
    refine r_catB (sa11 _ _ f10) li11 (by omega) b10 (by rw [L10]; exact bt11) fun q11 F11 hq11 t11 f11 b11 => ?_
    have S11 : Same H F11 := S10.trans (sa11.trans t11)
    have N11 : H q11 = none := S10.free (sa11.free hq11)
    have L11 : (ys10 ++ xs11).length = 37 := by rw [List.length_append, L10, ln11]
    generalize ys10 ++ xs11 = ys11 at f11 b11 L11
    have xaF11 := xaH.same S11
    walk_at "r"
    refine r_isx ER hi (by decide) xaF11 ?_
    walk_at "r"
    refine r_isx ER hi (by decide) xaF11 ?_
    walk_at "r"
    refine r_isx ER hi (by decide) xaF11 ?_
    walk_at "r"
    refine ⟨by show 3 ≤ sizeLine; decide, fun p12 ne12 => ?_⟩
    have bt12 : Bt i 37 [V.bl (decide (i = 37)), V.bl (decide (i = 38)), V.bl (decide (i = 39))] := ⟨rfl, ⟨rfl, ⟨rfl, True.intro⟩⟩⟩
    have sa12 : Same F11 (upd F11 p12 (.lst [V.bl (decide (i = 37)), V.bl (decide (i = 38)), V.bl (decide (i = 39))])) := Same.upd_new ne12
    have li12 : (upd F11 p12 (.lst [V.bl (decide (i = 37)), V.bl (decide (i = 38)), V.bl (decide (i = 39))])) p12 = some (.lst [V.bl (decide (i = 37)), V.bl (decide (i = 38)), V.bl (decide (i = 39))]) := upd_same
    generalize (upd F11 p12 (.lst [V.bl (decide (i = 37)), V.bl (decide (i = 38)), V.bl (decide (i = 39))])) = D12 at sa12 li12 ⊢
    have ln12 : ([V.bl (decide (i = 37)), V.bl (decide (i = 38)), V.bl (decide (i = 39))] : List V).length = 3 := rfl
    generalize ([V.bl (decide (i = 37)), V.bl (decide (i = 38)), V.bl (decide (i = 39))] : List V) = xs12 at bt12 li12 ln12
    have xaD12 := xaF11.same sa12
    walk_at "r"
    refine r_catB (sa12 _ _ f11) li12 (by omega) b11 (by rw [L11]; exact bt12) fun q12 F12 hq12 t12 f12 b12 => ?_
    have S12 : Same H F12 := S11.trans (sa12.trans t12)
    have N12 : H q12 = none := S11.free (sa12.free hq12)
    have L12 : (ys11 ++ xs12).length = 40 := by rw [List.length_append, L11, ln12]
    generalize ys11 ++ xs12 = ys12 at f12 b12 L12
    have xaF12 := xaH.same S12
    walk_at "r"
    exact k F12 q12 ys12 S12 N12 f12 L12 b12
end
end Eld
set_option Elab.async false
set_option maxRecDepth 100000
set_option maxHeartbeats 4000000
set_option linter.all false
namespace Eld
open PySem L2
local macro_rules | `(tactic| walk_at "r1") => `(tactic| with_reducible first
  | refine r_seq ?_ | refine r_asgN ?_ | refine r_asg ?_ | refine r_gname ?_ | refine r_gsub ?_ | refine r_var rfl ?_ | refine r_c ?_ | refine r_op ?_ | refine r_un ?_ | refine r_u ?_ | refine r_i0 ?_ | refine r_cb ?_ | refine r_cons ?_ | refine r_nil ?_ | refine r_cl ?_ | refine r_fn rfl rfl ?_ | refine r_mt ?_
  | refine r_test ?_ | refine r_tb ?_ | refine r_bl ?_ | refine r_and ?_ | refine r_or ?_ | refine r_not ?_ | refine r_andV ?_ | refine r_orV ?_ | refine r_notV ?_ | refine r_ifX ?_ | refine r_ifs ?_ | refine r_chain ?_ | refine r_ret ?_ | refine r_next ?_ | refine r_drop ?_ | refine iteT ?_ | refine iteF ?_ | refine iteNT ?_ | refine iteNF ?_
  | refine r_int1 ?_ | refine r_boolB ?_ | refine r_eqI ?_ | refine r_neI ?_ | refine r_eqB ?_ | refine r_neB ?_ | refine r_eqS ?_ | refine r_neS ?_ | refine r_abs ?_ | refine r_max2 ?_ | refine r_min2 ?_ | refine r_yes ?_ | refine r_tup ?_ | refine r_sfld ?_ | refine r_m0 ?_ | refine r_m1 ?_ | refine r_lst ?_ | refine r_rng1 ?_ | refine r_rng2 ?_ | refine r_ixL (SqL.of (by assumption)) rfl ?_)
local macro_rules | `(tactic| walk_at "r") => `(tactic| repeat (first | walk_at "r1" | ((with_reducible refine r_var ?hv ?_); (case hv => rfl))))

theorem look_cons {x k : Str} {v : V} {r : List (Str × V)} : List.lookup x ((k, v) :: r) = if x = k then some v else List.lookup x r := by
  by_cases h : x = k
  · rw [if_pos h]
    simp [List.lookup, h]
  · rw [if_neg h]
    have : (x == k) = false := by simpa using h
    simp [List.lookup, this]
theorem lk1 (f : Str) (v : V) : (f1 f [v]).lookup f = some v := by
  show List.lookup f [(f, v)] = some v
  rw [look_cons, if_pos rfl]
theorem lk2 {f g : Str} (u v : V) (h : ¬ f = g) : (f2 f g [u, v]).lookup f = some u ∧ (f2 f g [u, v]).lookup g = some v := by
  refine ⟨?_, ?_⟩
  · show List.lookup f [(g, v), (f, u)] = some u
    rw [look_cons, if_neg h, look_cons, if_pos rfl]
  · show List.lookup g [(g, v), (f, u)] = some v
    rw [look_cons, if_pos rfl]
theorem r_xv {K : PySem.W.Frag} {n : Str} {te : TE} {σ : L2.St} {H : Hp} {Q : VK} (h : te σ H fun x H1 => ∃ a C fs v, x = .ref a ∧ XV H1 a C fs ∧ XfC K C ∧ PySem.W.findIn K (.ref C) n = some none ∧ fs.lookup n = some v ∧ Q v H1) : tXv K n te σ H Q := h
theorem fs_given : ∀ {i : Nat}, i < 28 → fsOf i = f1 "given" ∧ fnames i = (["given"] : List Str)
  | 0, _ => ⟨rfl, rfl⟩
  | 1, _ => ⟨rfl, rfl⟩
  | 2, _ => ⟨rfl, rfl⟩
  | 3, _ => ⟨rfl, rfl⟩
  | 4, _ => ⟨rfl, rfl⟩
  | 5, _ => ⟨rfl, rfl⟩
  | 6, _ => ⟨rfl, rfl⟩
  | 7, _ => ⟨rfl, rfl⟩
  | 8, _ => ⟨rfl, rfl⟩
  | 9, _ => ⟨rfl, rfl⟩
  | 10, _ => ⟨rfl, rfl⟩
  | 11, _ => ⟨rfl, rfl⟩
  | 12, _ => ⟨rfl, rfl⟩
  | 13, _ => ⟨rfl, rfl⟩
  | 14, _ => ⟨rfl, rfl⟩
  | 15, _ => ⟨rfl, rfl⟩
  | 16, _ => ⟨rfl, rfl⟩
  | 17, _ => ⟨rfl, rfl⟩
  | 18, _ => ⟨rfl, rfl⟩
  | 19, _ => ⟨rfl, rfl⟩
  | 20, _ => ⟨rfl, rfl⟩
  | 21, _ => ⟨rfl, rfl⟩
  | 22, _ => ⟨rfl, rfl⟩
  | 23, _ => ⟨rfl, rfl⟩
  | 24, _ => ⟨rfl, rfl⟩
  | 25, _ => ⟨rfl, rfl⟩
  | 26, _ => ⟨rfl, rfl⟩
  | 27, _ => ⟨rfl, rfl⟩
  | n + 28, h => absurd h (by omega)
def spKept (E : Nat → Addr) : Sp := fun vs H Q _ => ∃ a i ws, vs = [.ref a] ∧ i < 37 ∧ XV H a (E i) (fsOf i ws) ∧ ws.length = (if i < 32 then 1 else 2) ∧ ∀ G L, Same H G → H L = none → G L = some (.lst ws) → Q (.ref L) G
section
variable {P : Program} {w : World} {K : PySem.W.Frag} {mg : Str → Option Value} {base : Heap} {E : Nat → Addr} {cE : Addr}
theorem len1 {ws : List V} (h : ws.length = 1) : ∃ v, ws = [v] := match ws, h with | [v], _ => ⟨v, rfl⟩
theorem len2 {ws : List V} (h : ws.length = 2) : ∃ u v, ws = [u, v] := match ws, h with | [u, v], _ => ⟨u, v, rfl⟩
theorem ok_kept {f : Addr} {fd : FuncData} (F : Fun K "_law_kept" "_law_kept" s__law_kept f fd) (Z : Zs mg) (ER : Er P w K mg base E cE) : FnA P w K mg base 2 f fd ["e"] (spKept E) := by
  refine okA F sc__law_kept (fun vs H Q E' h => ?_) (fun cdv B up z H vs Q E' hG hr hot h => ?_)
  · obtain ⟨a, i, ws, rfl, _⟩ := h
    rfl
  · obtain ⟨a, i, ws, rfl, hi, xv, hl, k⟩ := h
    have xa : XA H a (E i) := .inr ⟨_, xv⟩
    have i4 : i < 40 := by omega
    have fin : ∀ p, H p = none → Q (.ref p) (upd H p (.lst ws)) := fun p hp => k _ p (Same.upd_new hp) hp upd_same
    refine ⟨_, (pss_cons (ps_if (pt_val (pe_callB call_isx (by rfl) Z.isinstance_ (by decide +kernel) (pa_cons (pv 0) (pa_cons (pe_cls (by rfl) ER.g28) pa_nil)))) (pss_one (ps_ret (pe_lst (pa_cons (pe_xv (pv 0)) pa_nil)))) pss_nil)
  (pss_cons (ps_if (pt_val (pe_callB call_isx (by rfl) Z.isinstance_ (by decide +kernel) (pa_cons (pv 0) (pa_cons (pe_cls (by rfl) ER.g29) pa_nil)))) (pss_one (ps_ret (pe_lst (pa_cons (pe_xv (pv 0)) pa_nil)))) pss_nil)
  (pss_cons (ps_if (pt_val (pe_callB call_isx (by rfl) Z.isinstance_ (by decide +kernel) (pa_cons (pv 0) (pa_cons (pe_cls (by rfl) ER.g30) pa_nil)))) (pss_one (ps_ret (pe_lst (pa_cons (pe_xv (pv 0)) pa_nil)))) pss_nil)
  (pss_cons (ps_if (pt_val (pe_callB call_isx (by rfl) Z.isinstance_ (by decide +kernel) (pa_cons (pv 0) (pa_cons (pe_cls (by rfl) ER.g31) pa_nil)))) (pss_one (ps_ret (pe_lst (pa_cons (pe_xv (pv 0)) pa_nil)))) pss_nil)
  (pss_cons (ps_if (pt_val (pe_callB call_isx (by rfl) Z.isinstance_ (by decide +kernel) (pa_cons (pv 0) (pa_cons (pe_cls (by rfl) ER.g32) pa_nil)))) (pss_one (ps_ret (pe_lst (pa_cons (pe_xv (pv 0)) (pa_cons (pe_xv (pv 0)) pa_nil))))) pss_nil)
  (pss_cons (ps_if (pt_val (pe_callB call_isx (by rfl) Z.isinstance_ (by decide +kernel) (pa_cons (pv 0) (pa_cons (pe_cls (by rfl) ER.g33) pa_nil)))) (pss_one (ps_ret (pe_lst (pa_cons (pe_xv (pv 0)) (pa_cons (pe_xv (pv 0)) pa_nil))))) pss_nil)
  (pss_cons (ps_if (pt_val (pe_callB call_isx (by rfl) Z.isinstance_ (by decide +kernel) (pa_cons (pv 0) (pa_cons (pe_cls (by rfl) ER.g34) pa_nil)))) (pss_one (ps_ret (pe_lst (pa_cons (pe_xv (pv 0)) (pa_cons (pe_xv (pv 0)) pa_nil))))) pss_nil)
  (pss_cons (ps_if (pt_val (pe_callB call_isx (by rfl) Z.isinstance_ (by decide +kernel) (pa_cons (pv 0) (pa_cons (pe_cls (by rfl) ER.g35) pa_nil)))) (pss_one (ps_ret (pe_lst (pa_cons (pe_xv (pv 0)) (pa_cons (pe_xv (pv 0)) pa_nil))))) pss_nil)
  (pss_one (ps_ret (pe_ifExp (pt_val (pe_callB call_isx (by rfl) Z.isinstance_ (by decide +kernel) (pa_cons (pv 0) (pa_cons (pe_cls (by rfl) ER.g36) pa_nil)))) (pe_lst (pa_cons (pe_xv (pv 0)) (pa_cons (pe_xv (pv 0)) pa_nil))) (pe_lst (pa_cons (pe_xv (pv 0)) pa_nil))))))))))))), ?_⟩
    walk_at "r"
    refine r_isx ER i4 (by decide) xa ?_
    walk_at "r"
    refine ite2 (fun c => ?_) (fun c28 => ?_)
    · obtain rfl : i = 28 := of_decide_eq_true c
      obtain ⟨v, rfl⟩ := len1 (hl.trans (if_pos (by decide)))
      walk_at "r"
      refine r_xv ?_
      walk_at "r"
      refine ⟨a, _, _, v, rfl, xv, ER.xf 28 (by omega), ER.fl 28 (by omega) _ (by simp [fnames]), lk1 "count" v, ?_⟩
      walk_at "r"
      exact ⟨by show 1 ≤ sizeLine; decide, fin⟩
    walk_at "r"
    refine r_isx ER i4 (by decide) xa ?_
    walk_at "r"
    refine ite2 (fun c => ?_) (fun c29 => ?_)
    · obtain rfl : i = 29 := of_decide_eq_true c
      obtain ⟨v, rfl⟩ := len1 (hl.trans (if_pos (by decide)))
      walk_at "r"
      refine r_xv ?_
      walk_at "r"
      refine ⟨a, _, _, v, rfl, xv, ER.xf 29 (by omega), ER.fl 29 (by omega) _ (by simp [fnames]), lk1 "payoff" v, ?_⟩
      walk_at "r"
      exact ⟨by show 1 ≤ sizeLine; decide, fin⟩
    walk_at "r"
    refine r_isx ER i4 (by decide) xa ?_
    walk_at "r"
    refine ite2 (fun c => ?_) (fun c30 => ?_)
    · obtain rfl : i = 30 := of_decide_eq_true c
      obtain ⟨v, rfl⟩ := len1 (hl.trans (if_pos (by decide)))
      walk_at "r"
      refine r_xv ?_
      walk_at "r"
      refine ⟨a, _, _, v, rfl, xv, ER.xf 30 (by omega), ER.fl 30 (by omega) _ (by simp [fnames]), lk1 "store" v, ?_⟩
      walk_at "r"
      exact ⟨by show 1 ≤ sizeLine; decide, fin⟩
    walk_at "r"
    refine r_isx ER i4 (by decide) xa ?_
    walk_at "r"
    refine ite2 (fun c => ?_) (fun c31 => ?_)
    · obtain rfl : i = 31 := of_decide_eq_true c
      obtain ⟨v, rfl⟩ := len1 (hl.trans (if_pos (by decide)))
      walk_at "r"
      refine r_xv ?_
      walk_at "r"
      refine ⟨a, _, _, v, rfl, xv, ER.xf 31 (by omega), ER.fl 31 (by omega) _ (by simp [fnames]), lk1 "name" v, ?_⟩
      walk_at "r"
      exact ⟨by show 1 ≤ sizeLine; decide, fin⟩
    walk_at "r"
    refine r_isx ER i4 (by decide) xa ?_
    walk_at "r"
    refine ite2 (fun c => ?_) (fun c32 => ?_)
    · obtain rfl : i = 32 := of_decide_eq_true c
      obtain ⟨u, v, rfl⟩ := len2 (hl.trans (if_neg (by decide)))
      have lk := lk2 (f := "payoff") (g := "table") u v (by decide +kernel)
      walk_at "r"
      refine r_xv ?_
      walk_at "r"
      refine ⟨a, _, _, u, rfl, xv, ER.xf 32 (by omega), ER.fl 32 (by omega) _ (by simp [fnames]), lk.1, ?_⟩
      walk_at "r"
      refine r_xv ?_
      walk_at "r"
      refine ⟨a, _, _, v, rfl, xv, ER.xf 32 (by omega), ER.fl 32 (by omega) _ (by simp [fnames]), lk.2, ?_⟩
      walk_at "r"
      exact ⟨by show 2 ≤ sizeLine; decide, fin⟩
    walk_at "r"
    refine r_isx ER i4 (by decide) xa ?_
    walk_at "r"
    refine ite2 (fun c => ?_) (fun c33 => ?_)
    · obtain rfl : i = 33 := of_decide_eq_true c
      obtain ⟨u, v, rfl⟩ := len2 (hl.trans (if_neg (by decide)))
      have lk := lk2 (f := "way") (g := "rows") u v (by decide +kernel)
      walk_at "r"
      refine r_xv ?_
      walk_at "r"
      refine ⟨a, _, _, u, rfl, xv, ER.xf 33 (by omega), ER.fl 33 (by omega) _ (by simp [fnames]), lk.1, ?_⟩
      walk_at "r"
      refine r_xv ?_
      walk_at "r"
      refine ⟨a, _, _, v, rfl, xv, ER.xf 33 (by omega), ER.fl 33 (by omega) _ (by simp [fnames]), lk.2, ?_⟩
      walk_at "r"
      exact ⟨by show 2 ≤ sizeLine; decide, fin⟩
    walk_at "r"
    refine r_isx ER i4 (by decide) xa ?_
    walk_at "r"
    refine ite2 (fun c => ?_) (fun c34 => ?_)
    · obtain rfl : i = 34 := of_decide_eq_true c
      obtain ⟨u, v, rfl⟩ := len2 (hl.trans (if_neg (by decide)))
      have lk := lk2 (f := "one") (g := "other") u v (by decide +kernel)
      walk_at "r"
      refine r_xv ?_
      walk_at "r"
      refine ⟨a, _, _, u, rfl, xv, ER.xf 34 (by omega), ER.fl 34 (by omega) _ (by simp [fnames]), lk.1, ?_⟩
      walk_at "r"
      refine r_xv ?_
      walk_at "r"
      refine ⟨a, _, _, v, rfl, xv, ER.xf 34 (by omega), ER.fl 34 (by omega) _ (by simp [fnames]), lk.2, ?_⟩
      walk_at "r"
      exact ⟨by show 2 ≤ sizeLine; decide, fin⟩
    walk_at "r"
    refine r_isx ER i4 (by decide) xa ?_
    walk_at "r"
    refine ite2 (fun c => ?_) (fun c35 => ?_)
    · obtain rfl : i = 35 := of_decide_eq_true c
      obtain ⟨u, v, rfl⟩ := len2 (hl.trans (if_neg (by decide)))
      have lk := lk2 (f := "fees") (g := "table") u v (by decide +kernel)
      walk_at "r"
      refine r_xv ?_
      walk_at "r"
      refine ⟨a, _, _, u, rfl, xv, ER.xf 35 (by omega), ER.fl 35 (by omega) _ (by simp [fnames]), lk.1, ?_⟩
      walk_at "r"
      refine r_xv ?_
      walk_at "r"
      refine ⟨a, _, _, v, rfl, xv, ER.xf 35 (by omega), ER.fl 35 (by omega) _ (by simp [fnames]), lk.2, ?_⟩
      walk_at "r"
      exact ⟨by show 2 ≤ sizeLine; decide, fin⟩
    walk_at "r"
    refine r_isx ER i4 (by decide) xa ?_
    walk_at "r"
    refine ite2 (fun c => ?_) (fun c36 => ?_)
    · obtain rfl : i = 36 := of_decide_eq_true c
      obtain ⟨u, v, rfl⟩ := len2 (hl.trans (if_neg (by decide)))
      have lk := lk2 (f := "payoffs") (g := "tables") u v (by decide +kernel)
      walk_at "r"
      refine r_xv ?_
      walk_at "r"
      refine ⟨a, _, _, u, rfl, xv, ER.xf 36 (by omega), ER.fl 36 (by omega) _ (by simp [fnames]), lk.1, ?_⟩
      walk_at "r"
      refine r_xv ?_
      walk_at "r"
      refine ⟨a, _, _, v, rfl, xv, ER.xf 36 (by omega), ER.fl 36 (by omega) _ (by simp [fnames]), lk.2, ?_⟩
      walk_at "r"
      exact ⟨by show 2 ≤ sizeLine; decide, fin⟩
    have d28 : i ≠ 28 := fun e => c28 (decide_eq_true e)
    have d29 : i ≠ 29 := fun e => c29 (decide_eq_true e)
    have d30 : i ≠ 30 := fun e => c30 (decide_eq_true e)
    have d31 : i ≠ 31 := fun e => c31 (decide_eq_true e)
    have d32 : i ≠ 32 := fun e => c32 (decide_eq_true e)
    have d33 : i ≠ 33 := fun e => c33 (decide_eq_true e)
    have d34 : i ≠ 34 := fun e => c34 (decide_eq_true e)
    have d35 : i ≠ 35 := fun e => c35 (decide_eq_true e)
    have d36 : i ≠ 36 := fun e => c36 (decide_eq_true e)
    have lo : i < 28 := by omega
    obtain ⟨v, rfl⟩ := len1 (hl.trans (if_pos (by omega)))
    obtain ⟨e1, e2⟩ := fs_given lo
    rw [e1] at xv
    walk_at "r"
    refine r_xv ?_
    walk_at "r"
    refine ⟨a, _, _, v, rfl, xv, ER.xf i hi, ER.fl i hi _ (by rw [e2]; exact List.mem_singleton.mpr rfl), lk1 "given" v, ?_⟩
    walk_at "r"
    exact ⟨by show 1 ≤ sizeLine; decide, fin⟩
end
end Eld
set_option Elab.async false
set_option maxRecDepth 100000
set_option maxHeartbeats 4000000
set_option linter.all false
namespace Eld
open PySem L2
local macro_rules | `(tactic| walk_at "r1") => `(tactic| with_reducible first
  | refine r_seq ?_ | refine r_asgN ?_ | refine r_asg ?_ | refine r_gname ?_ | refine r_gsub ?_ | refine r_var rfl ?_ | refine r_c ?_ | refine r_op ?_ | refine r_un ?_ | refine r_u ?_ | refine r_i0 ?_ | refine r_cb ?_ | refine r_cons ?_ | refine r_nil ?_ | refine r_cl ?_ | refine r_fn rfl rfl ?_ | refine r_mt ?_
  | refine r_test ?_ | refine r_tb ?_ | refine r_bl ?_ | refine r_and ?_ | refine r_or ?_ | refine r_not ?_ | refine r_andV ?_ | refine r_orV ?_ | refine r_notV ?_ | refine r_ifX ?_ | refine r_ifs ?_ | refine r_chain ?_ | refine r_ret ?_ | refine r_next ?_ | refine r_drop ?_ | refine iteT ?_ | refine iteF ?_ | refine iteNT ?_ | refine iteNF ?_
  | refine r_int1 ?_ | refine r_boolB ?_ | refine r_eqI ?_ | refine r_neI ?_ | refine r_eqB ?_ | refine r_neB ?_ | refine r_eqS ?_ | refine r_neS ?_ | refine r_abs ?_ | refine r_max2 ?_ | refine r_min2 ?_ | refine r_yes ?_ | refine r_tup ?_ | refine r_sfld ?_ | refine r_m0 ?_ | refine r_m1 ?_ | refine r_lst ?_ | refine r_rng1 ?_ | refine r_rng2 ?_ | refine r_ixL (SqL.of (by assumption)) rfl ?_)
local macro_rules | `(tactic| walk_at "r") => `(tactic| repeat (first | walk_at "r1" | ((with_reducible refine r_var ?hv ?_); (case hv => rfl))))

/-! ## _law_is -/
def spIs (E : Nat → Addr) : Sp := fun vs H Q _ => ∃ (a : Addr) (spot : Int) (i : Nat), vs = [.ref a, .int spot] ∧ i < 40 ∧ XA H a (E i) ∧ ∀ G, Same H G → Q (.bl (decide (spot = (i : Int)))) G
theorem r_lcA {A : Around} {ta : TA} {g : TG} {tt : TT} {te : TE} {vs : List Nat} {σ : L2.St} {H : Hp} {Q : VK} (h : ta σ H fun ws H1 => ∃ n : Nat, ws = [.int n] ∧ (n : Int) < 2 ^ 62 ∧ ∀ D, H1 D = none → ∃ Pv : Nat → Hp → Prop, Pv 0 (upd H1 D (.lst [])) ∧
  (∀ i G, i < n → Pv i G → g (.int i) (wipe σ vs) G fun σ2 G2 => wipe σ2 vs = wipe σ vs ∧ tt σ2 G2 fun b G3 =>
    if b = true then te σ2 G3 fun y G4 => ∃ acc, G4 D = some (.lst acc) ∧ acc.length < sizeLine ∧ Pv (i + 1) (upd G4 D (.lst (acc ++ [y]))) else Pv (i + 1) G3) ∧ ∀ G, Pv n G → HotOk A G ∧ Q (.ref D) G) : tLcA A ta g tt te vs σ H Q := h
theorem eqv1 (i j : Int) : PyData.eqv (.list [.int i]) (.list [.int j]) = decide (j = i) := by
  have h : PyData.eqv (.list [.int i]) (.list [.int j]) = decide (i = j) := by
    simp only [PyData.eqv, PyData.eqvAll, Bool.and_true]
    by_cases h : i = j
    · rw [h]
      simp
    · rw [decide_eq_false h]
      exact beq_eq_false_iff_ne.mpr h
  rw [h]
  exact decide_eq_decide.mpr eq_comm
section
variable {P : Program} {w : World} {K : PySem.W.Frag} {mg : Str → Option Value} {base : Heap} {E : Nat → Addr} {cE : Addr}
theorem ok_is {f : Addr} {fd : FuncData} (F : Fun K "_law_is" "_law_is" s__law_is f fd) (Z : Zs mg) (ER : Er P w K mg base E cE) (d__law_sorts : DefA P w K mg base 2 "_law_sorts" 1 (spSorts E)) : FnA P w K mg base 4 f fd ["e", "spot"] (spIs E) := by
  refine okA F sc__law_is (fun vs H Q E' h => ?_) (fun cdv B up z H vs Q E' hG hr hot h => ?_)
  · obtain ⟨a, spot, i, rfl, _⟩ := h
    rfl
  · obtain ⟨a, spot, i, rfl, hi, xa, k⟩ := h
    have hu : (B.deeper (PyProof.Rows.envOfC "_law_is" (defScope s__law_is) z.heap.objs.size f cdv)).units + 64 < cLine := by have := hr.un; omega
    refine ⟨_, (pss_cons (ps_set (i := 2) sc__law_is.nd rfl (by first | exact Or.inl rfl | exact Or.inr rfl) (pa_pos d__law_sorts hG hr (by decide) (by rfl) (pa_cons (pv 0) pa_nil)))
  (pss_cons (ps_if (PW.pt (pw_or (pt_not (pt_val (pe_callB call_isx (by rfl) Z.isinstance_ (by decide +kernel) (pa_cons (pv 0) (pa_cons (pe_cls (by rfl) ER.gE) pa_nil))))) (pw_or1 (pt_not (pt_val (pe_callB call_isx (by rfl) Z.isinstance_ (by decide +kernel) (pa_cons (pv 0) (pa_cons (pe_ty "ValueError" (by rfl) Z.ValueError_ (by decide +kernel)) pa_nil)))))))) (pss_one (ps_ret pe_bl)) pss_nil)
  (pss_one (ps_ret (pe_cmpR (show OpR _ _ (rEqD K) from op_eqD hu) (pe_lcA (own := [("k", 3)]) (tt := _) sc__law_is.nd (by rfl) Z.range_ (pa_cons (pe_callB (show CallR _ _ (rLen K) from c_len) (by rfl) Z.len_ (by decide +kernel) (pa_cons (pv 2) pa_nil)) pa_nil) (blkOk_by (N := ["e", "spot", "sorts", "k"]) (sc := defScope s__law_is) (by decide +kernel)) (fun _ _ _ _ _ => (pg_name (i := 3) sc__law_is.nd rfl (by first | exact Or.inl rfl | exact Or.inr rfl))) (fun _ _ _ _ _ => (pts_one (pt_val (pe_ix (show IxR _ (rIxL K) from ix_list) (pv 2) (pv 3) (fun _ _ => rfl))))) (fun _ _ _ _ _ => (pv 3))) (pe_lst (pa_cons (pv 1) pa_nil)) (nomark _)))))), ?_⟩
    walk_at "r"
    refine r_fnA rfl rfl hot ?_
    refine ⟨a, i, rfl, hi, xa, fun G L xs S ne li ln bt => ?_⟩
    have xa1 := xa.same S
    walk_at "r"
    refine r_isE ER hi xa1 ?_
    walk_at "r"
    refine r_isV ER hi xa1 ?_
    walk_at "r"
    refine r_lcA ?_
    walk_at "r"
    refine r_lenL (SqL.of li) ?_
    walk_at "r"
    refine ⟨xs.length, rfl, by omega, fun D hD => ⟨fun j G' => Same G G' ∧ G' D = some (.lst (if i < j then [.int (i : Int)] else [])), ⟨Same.upd_new hD, by rw [upd_same, if_neg (Nat.not_lt_zero i)]⟩, fun j G' lt q => ?_, fun G' q => ?_⟩⟩
    · obtain ⟨s, d⟩ := q
      refine r_gname ⟨rfl, ?_⟩
      walk_at "r"
      refine r_ixL (SqL.of (s _ _ li)) (atI_nat (bt.get lt)) ?_
      walk_at "r"
      refine ite2 (fun c => ?_) (fun c => ?_)
      · have e : i = 0 + j := of_decide_eq_true c
        rw [if_neg (by omega)] at d
        walk_at "r"
        refine ⟨[], d, by show 0 < sizeLine; decide, Same.over s hD, ?_⟩
        rw [upd_same, if_pos (by omega)]
        have e2 : (j : Int) = (i : Int) := by omega
        rw [e2]
        rfl
      · have e : ¬ i = 0 + j := fun e => c (decide_eq_true e)
        refine ⟨s, ?_⟩
        rw [d]
        by_cases h1 : i < j
        · rw [if_pos h1, if_pos (by omega)]
        · rw [if_neg h1, if_neg (by omega)]
    · obtain ⟨s, d⟩ := q
      rw [ln, if_pos hi] at d
      refine ⟨(hot.same S).same s, ?_⟩
      walk_at "r"
      refine ⟨by show 1 ≤ sizeLine; decide, fun p hp => ?_⟩
      have s2 : Same G' (upd G' p (.lst [.int spot])) := Same.upd_new hp
      refine ⟨.list [.int i], .list [.int spot], .lst (SqL.of (s2 _ _ d)) (.cons (.int _) .nil), .lst (SqL.of upd_same) (.cons (.int _) .nil), rfl, rfl, ?_⟩
      rw [eqv1]
      exact k _ (S.trans (s.trans s2))
end
end Eld
set_option Elab.async false
set_option maxRecDepth 100000
set_option maxHeartbeats 4000000
set_option linter.all false
namespace Eld
open PySem L2
local macro_rules | `(tactic| walk_at "r1") => `(tactic| with_reducible first
  | refine r_seq ?_ | refine r_asgN ?_ | refine r_asg ?_ | refine r_gname ?_ | refine r_gsub ?_ | refine r_var rfl ?_ | refine r_c ?_ | refine r_op ?_ | refine r_un ?_ | refine r_u ?_ | refine r_i0 ?_ | refine r_cb ?_ | refine r_cons ?_ | refine r_nil ?_ | refine r_cl ?_ | refine r_fn rfl rfl ?_ | refine r_mt ?_
  | refine r_test ?_ | refine r_tb ?_ | refine r_bl ?_ | refine r_and ?_ | refine r_or ?_ | refine r_not ?_ | refine r_andV ?_ | refine r_orV ?_ | refine r_notV ?_ | refine r_ifX ?_ | refine r_ifs ?_ | refine r_chain ?_ | refine r_ret ?_ | refine r_next ?_ | refine r_drop ?_ | refine iteT ?_ | refine iteF ?_ | refine iteNT ?_ | refine iteNF ?_
  | refine r_int1 ?_ | refine r_boolB ?_ | refine r_eqI ?_ | refine r_neI ?_ | refine r_eqB ?_ | refine r_neB ?_ | refine r_eqS ?_ | refine r_neS ?_ | refine r_abs ?_ | refine r_max2 ?_ | refine r_min2 ?_ | refine r_yes ?_ | refine r_tup ?_ | refine r_sfld ?_ | refine r_m0 ?_ | refine r_m1 ?_ | refine r_lst ?_ | refine r_rng1 ?_ | refine r_rng2 ?_ | refine r_ixL (SqL.of (by assumption)) rfl ?_)
local macro_rules | `(tactic| walk_at "r") => `(tactic| repeat (first | walk_at "r1" | ((with_reducible refine r_var ?hv ?_); (case hv => rfl))))

/-! ## _law_thing -/
def things : List PyData := [.none, .bool true, .bool false, .int 0, .int 7, .str "", .str "skip", .list [], .list [.int 1, .str "a"], .tuple [], .tuple [.int 1, .bool true], .dict [], .dict [(.str "a", .list [.int 3])], .int (-(10 ^ 29))]
/-- data that stay as they are whatever becomes of the box -/
def Dz (b : Addr) (K : PySem.W.Frag) (H : Hp) (v : V) (d : PyData) : Prop := ∀ G, But b H G → Dy K G v d
theorem Dz.but {b : Addr} {K : PySem.W.Frag} {H G : Hp} {v : V} {d : PyData} (h : Dz b K H v d) (s : But b H G) : Dz b K G v d := fun G' t => h G' (s.trans t)
theorem Dz.same {b : Addr} {K : PySem.W.Frag} {H G : Hp} {v : V} {d : PyData} (h : Dz b K H v d) (s : Same H G) : Dz b K G v d := h.but (But.of s)
theorem Dz.now {b : Addr} {K : PySem.W.Frag} {H : Hp} {v : V} {d : PyData} (h : Dz b K H v d) : Dy K H v d := h H (But.refl H)
def spThing (K : PySem.W.Frag) : Sp := fun vs H Q _ => ∃ (b : Addr) (n : Nat), vs = [.ref b] ∧ BoxAt H b n ∧ n < 4000000 ∧ ∀ v d G, d ∈ things → Dz b K G v d → BoxAt G b (n + 1) → But b H G → Q v G
def rDictP (K : PySem.W.Frag) : List V → Hp → VK → Prop := fun xs H Q => ∃ (a : Addr) (ps : List Addr) (kvs : List (Key × V)), xs = [.ref a] ∧ SqL K H a (ps.map V.ref) ∧ Paired (fun p kv => SqT K H p [kV kv.1, kv.2]) ps kvs ∧ ∀ p, H p = none → Q (.ref p) (upd H p (.dK (mergeK [] kvs)))
theorem r_dnew {σ : L2.St} {H : Hp} {Q : VK} (h : ∀ p, H p = none → Q (.ref p) (upd H p (.dK []))) : tDNewK σ H Q := h
def spTake : Sp := fun vs H Q _ => ∃ (b : Addr) (many : Int) (n : Nat), vs = [.ref b, .int many] ∧ BoxAt H b n ∧ n < 4000000 ∧ 0 < many ∧ many < 1073741824 ∧
  ∀ (r : Int) (H' : Hp), 0 ≤ r → r < many → BoxAt H' b (n + 1) → But b H H' → Q (.int r) H'
section
variable {P : Program} {w : World} {K : PySem.W.Frag} {mg : Str → Option Value} {base : Heap}
theorem ok_take {f : Addr} {fd : FuncData} (F : Fun K "_law_take" "_law_take" s__law_take f fd) (Z : Zs mg) : FnG P w K mg base CX0 1 f fd ["box", "many"] spTake := by
  refine okG F sc__law_take (fun vs H Q E h => ?_) (fun cdv B up z H vs Q E hG hr h => ?_)
  · obtain ⟨b, many, n, rfl, _⟩ := h
    rfl
  · obtain ⟨b, many, n, rfl, ⟨g, m, c, t, hb, hg, hm, hm2, hc, hcn⟩, hn, h0, h1, k⟩ := h
    refine ⟨_, (pss_cons (ps_if (PW.pt (pw_and (pt_val (pe_ix (show IxR _ (rIxL K) from ix_list) (pv 0) pe_int (fun _ _ => rfl))) (pw_and1 (pt_cmpR op_gt (pe_ix (show IxR _ (rIxL K) from ix_list) (pv 0) pe_int (fun _ _ => rfl)) pe_int (nomark _))))) (pss_cons (ps_set (i := 3) sc__law_take.nd rfl (by first | exact Or.inl rfl | exact Or.inr rfl) (pe_op op_mod (pe_callTy c_int (by rfl) Z.int_ (by decide +kernel) (pa_cons (pe_ix (show IxR _ (rIxL K) from ix_list) (pv 0) pe_int (fun _ _ => rfl)) pa_nil)) (pv 1)))
  (pss_cons (ps_asg (pe_op op_fdiv (pe_ix (show IxR _ (rIxL K) from ix_list) (pv 0) pe_int (fun _ _ => rfl)) (pv 1)) (pg_sub (pv 0) pe_int set_list))
  (pss_one (ps_ret (pv 3))))) pss_nil)
  (pss_cons (ps_asg (pe_op op_add (pe_ix (show IxR _ (rIxL K) from ix_list) (pv 0) pe_int (fun _ _ => rfl)) pe_int) (pg_sub (pv 0) pe_int set_list))
  (pss_cons (ps_set (i := 2) sc__law_take.nd rfl (by first | exact Or.inl rfl | exact Or.inr rfl) (pe_op op_mod (pe_callTy c_int (by rfl) Z.int_ (by decide +kernel) (pa_cons (pe_op op_pow (pe_op op_add (pe_op op_add (pe_ix (show IxR _ (rIxL K) from ix_list) (pv 0) pe_int (fun _ _ => rfl)) (pe_op op_mul pe_int (pe_ix (show IxR _ (rIxL K) from ix_list) (pv 0) pe_int (fun _ _ => rfl)))) pe_int) pe_int) pa_nil)) pe_int))
  (pss_one (ps_ret (pe_op op_mod (pe_op op_fdiv (pe_op op_mod (pe_callTy c_int (by rfl) Z.int_ (by decide +kernel) (pa_cons (pe_op op_pow (pe_op op_add (pe_op op_mul (pv 2) pe_int) (pe_op op_mul pe_int (pe_ix (show IxR _ (rIxL K) from ix_list) (pv 0) pe_int (fun _ _ => rfl)))) pe_int) pa_nil)) pe_int) pe_int) (pv 1))))))), ?_⟩
    have fin : ∀ g' c' : Int, 0 ≤ g' → 0 ≤ c' → c' ≤ n + 1 → ∀ o, o = (HO.lst [.int g', .bl t, .int m, .int c']) → BoxAt (upd H b o) b (n + 1) := fun g' c' h1 h2 h3 o e => by
      subst e
      exact ⟨g', m, c', t, upd_same, h1, hm, hm2, h2, h3⟩
    have but : ∀ o, But b H (upd H b o) := fun o a u ha e => by rw [upd_ne ha]; exact e
    walk_at "r"
    refine ite2 (fun ht => ?_) (fun ht => ?_)
    walk_at "r"
    refine ite2 (fun hp => ?_) (fun hp => ?_)
    · walk_at "r"
      refine r_i h0 ?_
      walk_at "r"
      refine r_i ⟨h0, h1⟩ ?_
      walk_at "r"
      refine r_setL hb rfl ?_
      walk_at "r"
      exact k _ _ (Int.emod_nonneg _ (by omega)) (Int.emod_lt_of_pos _ h0) (fin (g / many) c (Int.ediv_nonneg hg (by omega)) hc (by omega) _ rfl) (but _)
    all_goals
      walk_at "r"
      refine r_setL hb rfl ?_
      have hb2 : (upd H b (.lst [.int g, .bl t, .int m, .int (c + 1)])) b = some (.lst [.int g, .bl t, .int m, .int (c + 1)]) := upd_same
      walk_at "r"
      refine r_ixL (SqL.of hb2) rfl ?_
      walk_at "r"
      refine r_ixL (SqL.of hb2) rfl ?_
      walk_at "r"
      refine r_i (.inl ⟨by decide, by decide⟩) ?_
      walk_at "r"
      refine r_i ⟨by decide, by decide, by omega⟩ ?_
      walk_at "r"
      refine r_i (by decide) ?_
      walk_at "r"
      have hm0 := Int.emod_nonneg ((m + 15485867 * (c + 1) + 179425033) ^ (5 : Int).toNat) (show (2147483647 : Int) ≠ 0 by decide)
      have hm1 := Int.emod_lt_of_pos ((m + 15485867 * (c + 1) + 179425033) ^ (5 : Int).toNat) (show (0 : Int) < 2147483647 by decide)
      generalize (m + 15485867 * (c + 1) + 179425033) ^ (5 : Int).toNat % 2147483647 = mixed at hm0 hm1 ⊢
      refine r_i (.inl ⟨by omega, by omega⟩) ?_
      walk_at "r"
      refine r_ixL (SqL.of hb2) rfl ?_
      walk_at "r"
      refine r_i (.inl ⟨by decide, by decide⟩) ?_
      walk_at "r"
      refine r_i ⟨by decide, by decide, by omega⟩ ?_
      walk_at "r"
      refine r_i (by decide) ?_
      walk_at "r"
      refine r_i ⟨by decide, by decide⟩ ?_
      walk_at "r"
      refine r_i h0 ?_
      exact k _ _ (Int.emod_nonneg _ (by omega)) (Int.emod_lt_of_pos _ h0) (fin g (c + 1) hg (by omega) (by omega) _ rfl) (but _)
theorem ok_thing {f : Addr} {fd : FuncData} (F : Fun K "_law_thing" "_law_thing" s__law_thing f fd) (Z : Zs mg) (d__law_take : DefD P w K mg base 1 "_law_take" 2 [] byPlace spTake) : FnG P w K mg base CX0 3 f fd ["box"] (spThing K) := by
  refine okG F sc__law_thing (fun vs H Q E' h => ?_) (fun cdv B up z H vs Q E' hG hr h => ?_)
  · obtain ⟨b, n, rfl, _⟩ := h
    rfl
  · obtain ⟨b, n, rfl, hb, hn, k⟩ := h
    refine ⟨_, (pss_cons (ps_set (i := 1) sc__law_thing.nd rfl (by first | exact Or.inl rfl | exact Or.inr rfl) (pe_lst (pa_cons pe_non (pa_cons pe_bl (pa_cons pe_bl (pa_cons pe_int (pa_cons pe_int (pa_cons pe_str (pa_cons pe_str (pa_cons (pe_lst pa_nil) (pa_cons (pe_lst (pa_cons pe_int (pa_cons pe_str pa_nil))) (pa_cons (pe_tup pa_nil) (pa_cons (pe_tup (pa_cons pe_int (pa_cons pe_bl pa_nil))) (pa_cons pe_dnewK (pa_cons (pe_callTy (show CallR _ _ (rDictP K) from call_dictP rfl) (by rfl) Z.dict_ (by decide +kernel) (pa_cons (pe_lst (pa_cons (pe_tup (pa_cons pe_str (pa_cons (pe_lst (pa_cons pe_int pa_nil)) pa_nil))) pa_nil)) pa_nil)) (pa_cons (pe_un un_neg (pe_op op_pow pe_int pe_int)) pa_nil))))))))))))))))
  (pss_one (ps_ret (pe_ix (show IxR _ (rIxL K) from ix_list) (pv 1) (pd_pos d__law_take hG hr (by decide) (by rfl) (pa_cons (pv 0) (pa_cons pe_int pa_nil))) (fun _ _ => rfl))))), ?_⟩
    walk_at "r"
    refine ⟨by show 0 ≤ sizeLine; decide, fun l0 h0 => ?_⟩
    have s0 := Same.upd_new (o := .lst []) h0
    have g0 : (upd H l0 (.lst [])) l0 = some (.lst []) := upd_same
    generalize upd H l0 (.lst []) = H1 at s0 g0 ⊢
    walk_at "r"
    refine ⟨by show 2 ≤ sizeLine; decide, fun l1 h1 => ?_⟩
    have s1 := Same.upd_new (o := .lst [.int 1, .str "a"]) h1
    have g1 : (upd H1 l1 (.lst [.int 1, .str "a"])) l1 = some (.lst [.int 1, .str "a"]) := upd_same
    generalize upd H1 l1 (.lst [.int 1, .str "a"]) = H2 at s1 g1 ⊢
    walk_at "r"
    refine ⟨by show 0 ≤ sizeLine; decide, fun l2 h2 => ?_⟩
    have s2 := Same.upd_new (o := .tup []) h2
    have g2 : (upd H2 l2 (.tup [])) l2 = some (.tup []) := upd_same
    generalize upd H2 l2 (.tup []) = H3 at s2 g2 ⊢
    walk_at "r"
    refine ⟨by show 2 ≤ sizeLine; decide, fun l3 h3 => ?_⟩
    have s3 := Same.upd_new (o := .tup [.int 1, .bl true]) h3
    have g3 : (upd H3 l3 (.tup [.int 1, .bl true])) l3 = some (.tup [.int 1, .bl true]) := upd_same
    generalize upd H3 l3 (.tup [.int 1, .bl true]) = H4 at s3 g3 ⊢
    walk_at "r"
    refine r_dnew fun l4 h4 => ?_
    have s4 := Same.upd_new (o := .dK []) h4
    have g4 : (upd H4 l4 (.dK [])) l4 = some (.dK []) := upd_same
    generalize upd H4 l4 (.dK []) = H5 at s4 g4 ⊢
    walk_at "r"
    refine ⟨by show 1 ≤ sizeLine; decide, fun l5 h5 => ?_⟩
    have s5 := Same.upd_new (o := .lst [.int 3]) h5
    have g5 : (upd H5 l5 (.lst [.int 3])) l5 = some (.lst [.int 3]) := upd_same
    generalize upd H5 l5 (.lst [.int 3]) = H6 at s5 g5 ⊢
    walk_at "r"
    refine ⟨by show 2 ≤ sizeLine; decide, fun l6 h6 => ?_⟩
    have s6 := Same.upd_new (o := .tup [.str "a", .ref l5]) h6
    have g6 : (upd H6 l6 (.tup [.str "a", .ref l5])) l6 = some (.tup [.str "a", .ref l5]) := upd_same
    generalize upd H6 l6 (.tup [.str "a", .ref l5]) = H7 at s6 g6 ⊢
    walk_at "r"
    refine ⟨by show 1 ≤ sizeLine; decide, fun l7 h7 => ?_⟩
    have s7 := Same.upd_new (o := .lst [.ref l6]) h7
    have g7 : (upd H7 l7 (.lst [.ref l6])) l7 = some (.lst [.ref l6]) := upd_same
    generalize upd H7 l7 (.lst [.ref l6]) = H8 at s7 g7 ⊢
    walk_at "r"
    have d6 := s7 _ _ g6
    refine ⟨l7, [l6], [(.inr "a", .ref l5)], rfl, SqL.of g7, .cons (SqT.of d6) .nil, fun l8 h8 => ?_⟩
    have s8 := Same.upd_new (o := .dK (mergeK [] [(.inr "a", .ref l5)])) h8
    have g8 : (upd H8 l8 (.dK (mergeK [] [(.inr "a", .ref l5)]))) l8 = some (.dK [(.inr "a", .ref l5)]) := upd_same
    generalize upd H8 l8 (.dK (mergeK [] [(.inr "a", .ref l5)])) = H9 at s8 g8 ⊢
    walk_at "r"
    refine r_i ⟨by decide, by decide, by decide⟩ ?_
    walk_at "r"
    refine ⟨by show 14 ≤ sizeLine; decide, fun l9 h9 => ?_⟩
    have sl := Same.upd_new (o := .lst [.non, .bl true, .bl false, .int 0, .int 7, .str "", .str "skip", .ref l0, .ref l1, .ref l2, .ref l3, .ref l4, .ref l8, .int (-10 ^ Int.toNat 29)]) h9
    have gl : (upd H9 l9 (.lst [.non, .bl true, .bl false, .int 0, .int 7, .str "", .str "skip", .ref l0, .ref l1, .ref l2, .ref l3, .ref l4, .ref l8, .int (-10 ^ Int.toNat 29)])) l9 = some (.lst [.non, .bl true, .bl false, .int 0, .int 7, .str "", .str "skip", .ref l0, .ref l1, .ref l2, .ref l3, .ref l4, .ref l8, .int (-10 ^ Int.toNat 29)]) := upd_same
    generalize upd H9 l9 (.lst [.non, .bl true, .bl false, .int 0, .int 7, .str "", .str "skip", .ref l0, .ref l1, .ref l2, .ref l3, .ref l4, .ref l8, .int (-10 ^ Int.toNat 29)]) = HL at sl gl ⊢
    have t9 : Same H9 HL := sl
    have t8 : Same H8 HL := s8.trans t9
    have t7 : Same H7 HL := s7.trans t8
    have t6 : Same H6 HL := s6.trans t7
    have t5 : Same H5 HL := s5.trans t6
    have t4 : Same H4 HL := s4.trans t5
    have t3 : Same H3 HL := s3.trans t4
    have t2 : Same H2 HL := s2.trans t3
    have t1 : Same H1 HL := s1.trans t2
    have t0 : Same H HL := s0.trans t1
    walk_at "r"
    have hbL := hb.same t0
    refine ⟨b, 14, n, rfl, hbL, by omega, by decide, by decide, fun r HZ r0 r1 bx but => ?_⟩
    have gz := but _ _ (hbL.ne gl (by intro _ _ _ _ e; cases e)) gl
    have bz : But b H HZ := (But.of t0).trans but
    have w0 := hbL.ne (t1 _ _ g0) (by intro _ _ _ _ e; cases e)
    have z0 := but _ _ w0 (t1 _ _ g0)
    have w1 := hbL.ne (t2 _ _ g1) (by intro _ _ _ _ e; cases e)
    have z1 := but _ _ w1 (t2 _ _ g1)
    have w2 := hbL.ne (t3 _ _ g2) (by intro _ _ _ _ e; cases e)
    have z2 := but _ _ w2 (t3 _ _ g2)
    have w3 := hbL.ne (t4 _ _ g3) (by intro _ _ _ _ e; cases e)
    have z3 := but _ _ w3 (t4 _ _ g3)
    have w4 := hbL.ne (t5 _ _ g4) (by intro _ _ _ _ e; cases e)
    have z4 := but _ _ w4 (t5 _ _ g4)
    have w5 := hbL.ne (t6 _ _ g5) (by intro _ _ _ _ e; cases e)
    have z5 := but _ _ w5 (t6 _ _ g5)
    have w6 := hbL.ne (t7 _ _ g6) (by intro _ _ _ _ e; cases e)
    have z6 := but _ _ w6 (t7 _ _ g6)
    have w7 := hbL.ne (t8 _ _ g7) (by intro _ _ _ _ e; cases e)
    have z7 := but _ _ w7 (t8 _ _ g7)
    have w8 := hbL.ne (t9 _ _ g8) (by intro _ _ _ _ e; cases e)
    have z8 := but _ _ w8 (t9 _ _ g8)
    have fin : ∀ v d, d ∈ things → (∀ G, But b HZ G → Dy K G v d) → Q v HZ := fun v d h1 h2 => k v d HZ h1 h2 bx bz
    obtain rfl | rfl | rfl | rfl | rfl | rfl | rfl | rfl | rfl | rfl | rfl | rfl | rfl | rfl : r = 0 ∨ r = 1 ∨ r = 2 ∨ r = 3 ∨ r = 4 ∨ r = 5 ∨ r = 6 ∨ r = 7 ∨ r = 8 ∨ r = 9 ∨ r = 10 ∨ r = 11 ∨ r = 12 ∨ r = 13 := by omega
    · refine r_ixL (SqL.of gz) rfl ?_
      exact fin _ .none (by simp [things]) fun G t => .non
    · refine r_ixL (SqL.of gz) rfl ?_
      exact fin _ (.bool true) (by simp [things]) fun G t => (.bl true)
    · refine r_ixL (SqL.of gz) rfl ?_
      exact fin _ (.bool false) (by simp [things]) fun G t => (.bl false)
    · refine r_ixL (SqL.of gz) rfl ?_
      exact fin _ (.int 0) (by simp [things]) fun G t => (.int 0)
    · refine r_ixL (SqL.of gz) rfl ?_
      exact fin _ (.int 7) (by simp [things]) fun G t => (.int 7)
    · refine r_ixL (SqL.of gz) rfl ?_
      exact fin _ (.str "") (by simp [things]) fun G t => (.str "")
    · refine r_ixL (SqL.of gz) rfl ?_
      exact fin _ (.str "skip") (by simp [things]) fun G t => (.str "skip")
    · refine r_ixL (SqL.of gz) rfl ?_
      exact fin _ (.list []) (by simp [things]) fun G t => (.lst (t _ _ w0 z0) .nil)
    · refine r_ixL (SqL.of gz) rfl ?_
      exact fin _ (.list [.int 1, .str "a"]) (by simp [things]) fun G t => (.lst (t _ _ w1 z1) (.cons (.int 1) (.cons (.str "a") .nil)))
    · refine r_ixL (SqL.of gz) rfl ?_
      exact fin _ (.tuple []) (by simp [things]) fun G t => (.tup (t _ _ w2 z2) .nil)
    · refine r_ixL (SqL.of gz) rfl ?_
      exact fin _ (.tuple [.int 1, .bool true]) (by simp [things]) fun G t => (.tup (t _ _ w3 z3) (.cons (.int 1) (.cons (.bl true) .nil)))
    · refine r_ixL (SqL.of gz) rfl ?_
      exact fin _ (.dict []) (by simp [things]) fun G t => (.emp (t _ _ w4 z4))
    · refine r_ixL (SqL.of gz) rfl ?_
      exact fin _ (.dict [(.str "a", .list [.int 3])]) (by simp [things]) fun G t => (.one (t _ _ w8 z8) (.lst (t _ _ w5 z5) (.cons (.int 3) .nil)))
    · refine r_ixL (SqL.of gz) rfl ?_
      exact fin _ (.int (-(10 ^ 29))) (by simp [things]) fun G t => (.int _)
end
end Eld
set_option Elab.async false
set_option maxRecDepth 100000
set_option maxHeartbeats 4000000
set_option linter.all false
namespace Eld
open PySem L2
local macro_rules | `(tactic| walk_at "r1") => `(tactic| with_reducible first
  | refine r_seq ?_ | refine r_asgN ?_ | refine r_asg ?_ | refine r_gname ?_ | refine r_gsub ?_ | refine r_var rfl ?_ | refine r_c ?_ | refine r_op ?_ | refine r_un ?_ | refine r_u ?_ | refine r_i0 ?_ | refine r_cb ?_ | refine r_cons ?_ | refine r_nil ?_ | refine r_cl ?_ | refine r_fn rfl rfl ?_ | refine r_mt ?_
  | refine r_test ?_ | refine r_tb ?_ | refine r_bl ?_ | refine r_and ?_ | refine r_or ?_ | refine r_not ?_ | refine r_andV ?_ | refine r_orV ?_ | refine r_notV ?_ | refine r_ifX ?_ | refine r_ifs ?_ | refine r_chain ?_ | refine r_ret ?_ | refine r_next ?_ | refine r_drop ?_ | refine iteT ?_ | refine iteF ?_ | refine iteNT ?_ | refine iteNF ?_
  | refine r_int1 ?_ | refine r_boolB ?_ | refine r_eqI ?_ | refine r_neI ?_ | refine r_eqB ?_ | refine r_neB ?_ | refine r_eqS ?_ | refine r_neS ?_ | refine r_abs ?_ | refine r_max2 ?_ | refine r_min2 ?_ | refine r_yes ?_ | refine r_tup ?_ | refine r_sfld ?_ | refine r_m0 ?_ | refine r_m1 ?_ | refine r_lst ?_ | refine r_rng1 ?_ | refine r_rng2 ?_ | refine r_ixL (SqL.of (by assumption)) rfl ?_)
local macro_rules | `(tactic| walk_at "r") => `(tactic| repeat (first | walk_at "r1" | ((with_reducible refine r_var ?hv ?_); (case hv => rfl))))

/-! ## _law_all_right -/
def okD (d : PyData) : Bool := d.showable && decide (d.depth ≤ 50) && decide (d.shown.length ≤ 1000) && (match d with | .int i => decide (i.natAbs.log2 < 1920) | _ => true)
theorem things_ok : ∀ d ∈ things, okD d = true := by decide +kernel
theorem things_ok1 : ∀ d ∈ things, okD (.list [d]) = true := by decide +kernel
theorem things_ok2 : ∀ d ∈ things, ∀ e ∈ things, okD (.list [d, e]) = true := by decide +kernel
theorem r_reprY {K : PySem.W.Frag} {H : Hp} {v : V} {d : PyData} {Q : VK} (o : okD d = true) (h : Dy K H v d) (q : Q (.str d.shown) H) : rReprY K [v] H Q := by
  unfold okD at o
  simp only [Bool.and_eq_true, decide_eq_true_eq] at o
  obtain ⟨⟨⟨o1, o2⟩, o3⟩, o4⟩ := o
  refine ⟨v, d, rfl, h, o1, by omega, by rw [sizeLine_eq]; omega, fun i e => ?_, q⟩
  subst e
  exact of_decide_eq_true o4
theorem at_of {xs : List V} {j : Nat} (h : j < xs.length) : ∃ x, xs[j]? = some x := ⟨xs[j], List.getElem?_eq_getElem h⟩
def spAll (K : PySem.W.Frag) : Sp := fun vs H Q _ => ∃ (b : Addr) (n : Nat), vs = [.ref b] ∧ BoxAt H b n ∧ n < 3000000 ∧ ∀ G, BoxAt G b (n + 2) → But b H G → Q (.bl true) G
section
variable {P : Program} {w : World} {K : PySem.W.Frag} {mg : Str → Option Value} {base : Heap} {E : Nat → Addr} {cE : Addr}
theorem ok_all_right {f : Addr} {fd : FuncData} (F : Fun K "_law_all_right" "_law_all_right" s__law_all_right f fd) (Z : Zs mg) (hM : ModsD base) (d__law_thing : DefD P w K mg base 3 "_law_thing" 1 [] byPlace (spThing K)) (d__law_by_place : DefD P w K mg base 3 "_law_by_place" 1 [] byPlace (spMany E))
    (d__law_by_name : DefD P w K mg base 3 "_law_by_name" 1 [] byPlace (spMany E)) (d__law_pairs : DefD P w K mg base 3 "_law_pairs" 3 [] byPlace (spPairs E)) (d__law_is : DefD P w K mg base 4 "_law_is" 2 [] byPlace (spIs E)) (d__law_kept : DefD P w K mg base 2 "_law_kept" 1 [] byPlace (spKept E)) :
    FnG P w K mg base CX0 6 f fd ["box"] (spAll K) := by
  refine okG F sc__law_all_right (fun vs H Q E' h => ?_) (fun cdv B up z H vs Q E' hG hr h => ?_)
  · obtain ⟨b, n, rfl, _⟩ := h
    rfl
  · obtain ⟨b, n, rfl, hb, hn, k⟩ := h
    have hu : (B.deeper (PyProof.Rows.envOfC "_law_all_right" (defScope s__law_all_right) z.heap.objs.size f cdv)).units + 64 < cLine := by have := hr.un; omega
    refine ⟨_, (pss_cons (ps_par rfl sc__law_all_right.nd (i := 3) (j := 4) rfl rfl (by decide) rfl rfl (pa_cons (pd_pos d__law_thing hG hr (by decide) (by rfl) (pa_cons (pv 0) pa_nil)) (pa_cons (pd_pos d__law_thing hG hr (by decide) (by rfl) (pa_cons (pv 0) pa_nil)) pa_nil)) rfl)
  (pss_cons (ps_set (i := 1) sc__law_all_right.nd rfl (by first | exact Or.inl rfl | exact Or.inr rfl) (pe_lst (pa_cons (pd_pos d__law_by_place hG hr (by decide) (by rfl) (pa_cons (pv 3) pa_nil)) (pa_cons (pd_pos d__law_by_name hG hr (by decide) (by rfl) (pa_cons (pv 4) pa_nil)) (pa_cons (pd_pos d__law_by_name hG hr (by decide) (by rfl) (pa_cons (pv 3) pa_nil)) (pa_cons (pd_pos d__law_by_place hG hr (by decide) (by rfl) (pa_cons (pv 4) pa_nil)) pa_nil))))))
  (pss_cons (ps_for PassesOwn.never rfl (pi_range1 (by rfl) Z.range_ (pa_cons pe_int pa_nil)) (pg_name (i := 2) sc__law_all_right.nd rfl (by first | exact Or.inl rfl | exact Or.inr rfl))
  (pss_cons (ps_for PassesOwn.never rfl (pi_range1 (by rfl) Z.range_ (pa_cons pe_int pa_nil)) (pg_name (i := 5) sc__law_all_right.nd rfl (by first | exact Or.inl rfl | exact Or.inr rfl))
  (pss_cons (ps_set (i := 7) sc__law_all_right.nd rfl (by first | exact Or.inl rfl | exact Or.inr rfl) (pe_ix (show IxR _ (rIxL K) from ix_list) (pe_ix (show IxR _ (rIxL K) from ix_list) (pv 1) (pv 2) (fun _ _ => rfl)) (pv 5) (fun _ _ => rfl)))
  (pss_one (ps_if (PW.pt (pw_or (pt_not (pt_val (pd_pos d__law_is hG hr (by decide) (by rfl) (pa_cons (pv 7) (pa_cons (pv 5) pa_nil))))) (pw_or1 (pt_cmpR op_ne (pe_callB (show CallR _ _ (rReprY K) from call_reprY hM hG hu) (by rfl) Z.repr_ (by decide +kernel) (pa_cons (pd_pos d__law_kept hG hr (by decide) (by rfl) (pa_cons (pv 7) pa_nil)) pa_nil)) (pe_callB (show CallR _ _ (rReprY K) from call_reprY hM hG hu) (by rfl) Z.repr_ (by decide +kernel) (pa_cons (pe_lst (pa_cons (pe_ix (show IxR _ (rIxL K) from ix_list) (pe_lst (pa_cons (pv 3) (pa_cons (pv 4) pa_nil))) (pe_op op_mod (pv 2) pe_int) (fun _ _ => rfl)) pa_nil)) pa_nil)) (nomark _))))) (pss_one (ps_ret pe_bl)) pss_nil))))
  (pss_cons (ps_set (i := 6) sc__law_all_right.nd rfl (by first | exact Or.inl rfl | exact Or.inr rfl) (pd_pos d__law_pairs hG hr (by decide) (by rfl) (pa_cons (pv 3) (pa_cons (pv 4) (pa_cons (pv 2) pa_nil)))))
  (pss_one (ps_for PassesOwn.never rfl (pi_range1 (by rfl) Z.range_ (pa_cons pe_int pa_nil)) (pg_name (i := 5) sc__law_all_right.nd rfl (by first | exact Or.inl rfl | exact Or.inr rfl))
  (pss_one (ps_if (PW.pt (pw_or (pt_not (pt_val (pd_pos d__law_is hG hr (by decide) (by rfl) (pa_cons (pe_ix (show IxR _ (rIxL K) from ix_list) (pv 6) (pv 5) (fun _ _ => rfl)) (pa_cons (pe_op op_add pe_int (pv 5)) pa_nil))))) (pw_or1 (pt_cmpR op_ne (pe_callB (show CallR _ _ (rReprY K) from call_reprY hM hG hu) (by rfl) Z.repr_ (by decide +kernel) (pa_cons (pd_pos d__law_kept hG hr (by decide) (by rfl) (pa_cons (pe_ix (show IxR _ (rIxL K) from ix_list) (pv 6) (pv 5) (fun _ _ => rfl)) pa_nil)) pa_nil)) (pe_callB (show CallR _ _ (rReprY K) from call_reprY hM hG hu) (by rfl) Z.repr_ (by decide +kernel) (pa_cons (pe_lst (pa_cons (pv 3) (pa_cons (pv 4) pa_nil))) pa_nil)) (nomark _))))) (pss_one (ps_ret pe_bl)) pss_nil)))))))
  (pss_one (ps_ret pe_bl))))), ?_⟩
    walk_at "r"
    refine r_par ?_
    walk_at "r"
    refine ⟨b, n, rfl, hb, by omega, fun v d G1 hd dz b1 u1 => ?_⟩
    walk_at "r"
    refine ⟨b, n + 1, rfl, b1, by omega, fun v' d' G2 hd' dz' b2 u2 => ?_⟩
    have dz := dz.but u2
    have u2 := u1.trans u2
    walk_at "r"
    refine ⟨_, _, rfl, ?_⟩
    walk_at "r"
    refine ⟨v, rfl, fun G3 L0 xs0 S0 ne0 li0 ln0 ac0 => ?_⟩
    walk_at "r"
    refine ⟨v', rfl, fun G4 L1 xs1 S1 ne1 li1 ln1 ac1 => ?_⟩
    walk_at "r"
    refine ⟨v, rfl, fun G5 L2 xs2 S2 ne2 li2 ln2 ac2 => ?_⟩
    walk_at "r"
    refine ⟨v', rfl, fun G6 L3 xs3 S3 ne3 li3 ln3 ac3 => ?_⟩
    walk_at "r"
    refine ⟨by show 4 ≤ sizeLine; decide, fun p hp => ?_⟩
    have T6 : Same G6 (upd G6 p (.lst [.ref L0, .ref L1, .ref L2, .ref L3])) := Same.upd_new hp
    have lp : (upd G6 p (.lst [.ref L0, .ref L1, .ref L2, .ref L3])) p = some (.lst [.ref L0, .ref L1, .ref L2, .ref L3]) := upd_same
    generalize upd G6 p (.lst [.ref L0, .ref L1, .ref L2, .ref L3]) = K0 at T6 lp ⊢
    have T5 := S3.trans T6
    have T4 := S2.trans T5
    have T3 := S1.trans T4
    have T2 := S0.trans T3
    have dz := dz.same T2
    have dz' := dz'.same T2
    have bK := b2.same T2
    have uK := u2.trans (But.of T2)
    have all : ∀ t : Nat, t < 4 → ∃ L xs u e, ([.ref L0, .ref L1, .ref L2, .ref L3] : List V)[t]? = some (.ref L) ∧ K0 L = some (.lst xs) ∧ xs.length = 32 ∧ Acc E K0 [u] 0 xs ∧ ([v, v'] : List V)[t % 2]? = some u ∧ e ∈ things ∧ Dz b K K0 u e := by
      intro t ht
      have h4 : t = 0 ∨ t = 1 ∨ t = 2 ∨ t = 3 := by omega
      rcases h4 with rfl | rfl | rfl | rfl
      · exact ⟨L0, xs0, v, d, rfl, T3 _ _ li0, ln0, ac0.same T3, rfl, hd, dz⟩
      · exact ⟨L1, xs1, v', d', rfl, T4 _ _ li1, ln1, ac1.same T4, rfl, hd', dz'⟩
      · exact ⟨L2, xs2, v, d, rfl, T5 _ _ li2, ln2, ac2.same T5, rfl, hd, dz⟩
      · exact ⟨L3, xs3, v', d', rfl, T6 _ _ li3, ln3, ac3.same T6, rfl, hd', dz'⟩
    clear S0 S1 S2 S3 T3 T4 T5 T6 li0 li1 li2 li3 ac0 ac1 ac2 ac3 ln0 ln1 ln2 ln3
    walk_at "r"
    with_reducible refine r_for ?_
    walk_at "r"
    refine ⟨_, rfl, by decide, by decide, ?_⟩
    refine for_range (fun i τ G => ∃ o2 o5 o6 o7 : Option V, τ = [some (.ref b), some (.ref p), o2, some v, some v', o5, o6, o7] ∧ Same K0 G) ⟨none, none, none, none, rfl, Same.refl K0⟩ ?_ ?_
    · rintro t τ G ht ⟨o2, o5, o6, o7, rfl, sG⟩
      rw [Int.zero_add]
      have ht : t < 4 := ht
      obtain ⟨L, xs, u, e, hL, lx, nx, ac, hu2, he, du⟩ := all t ht
      walk_at "r"
      with_reducible refine r_for ?_
      walk_at "r"
      refine ⟨_, rfl, by decide, by decide, ?_⟩
      refine for_range (fun i τ G' => ∃ o5 o7 : Option V, τ = [some (.ref b), some (.ref p), some (.int (t : Int)), some v, some v', o5, o6, o7] ∧ Same K0 G') ⟨_, _, rfl, sG⟩ ?_ ?_
      · rintro j τ G' hj ⟨o5, o7, rfl, s'⟩
        rw [Int.zero_add]
        have hj : j < 32 := hj
        obtain ⟨x, hx⟩ := at_of (xs := xs) (j := j) (by omega)
        obtain ⟨a, rfl, xv⟩ := ac.get hx
        rw [Nat.zero_add] at xv
        walk_at "r"
        refine r_ixL (SqL.of (s' _ _ lp)) (atI_nat hL) ?_
        walk_at "r"
        refine r_ixL (SqL.of (s' _ _ lx)) (atI_nat hx) ?_
        walk_at "r"
        refine ⟨a, _, j, rfl, by omega, .inr ⟨_, xv.same s'⟩, fun G7 s7 => ?_⟩
        rw [decide_eq_true rfl]
        have s7 := s'.trans s7
        walk_at "r"
        refine ⟨a, j, [u], rfl, by omega, xv.same s7, by rw [if_pos hj]; rfl, fun G8 Lk s8 nk lk => ?_⟩
        have s8 := s7.trans s8
        walk_at "r"
        refine r_reprY (d := .list [e]) (things_ok1 e he) (.lst lk (.cons (du.same s8).now .nil)) ?_
        walk_at "r"
        refine ⟨by show 2 ≤ sizeLine; decide, fun q hq => ?_⟩
        have s9 := s8.trans (Same.upd_new (o := .lst [v, v']) hq)
        walk_at "r"
        refine r_i (by decide) ?_
        rw [show ((t : Int) % 2) = ((t % 2 : Nat) : Int) from by omega]
        refine r_ixL (SqL.of upd_same) (atI_nat hu2) ?_
        generalize upd G8 q (.lst [v, v']) = G9 at s9 ⊢
        walk_at "r"
        refine ⟨by show 1 ≤ sizeLine; decide, fun q2 hq2 => ?_⟩
        have s10 := s9.trans (Same.upd_new (o := .lst [u]) hq2)
        walk_at "r"
        refine r_reprY (d := .list [e]) (things_ok1 e he) (.lst upd_same (.cons (du.same s10).now .nil)) ?_
        walk_at "r"
        rw [decide_eq_true rfl]
        walk_at "r"
        exact ⟨_, _, rfl, s10⟩
      · rintro τ G' ⟨o5, o7, rfl, s'⟩
        walk_at "r"
        refine ⟨v, v', t, rfl, by omega, by omega, fun G1 Lp ys sp np lq lnp acp => ?_⟩
        have sp := s'.trans sp
        walk_at "r"
        with_reducible refine r_for ?_
        walk_at "r"
        refine ⟨_, rfl, by decide, by decide, ?_⟩
        refine for_range (fun i τ G' => ∃ o5 o7 : Option V, τ = [some (.ref b), some (.ref p), some (.int (t : Int)), some v, some v', o5, some (.ref Lp), o7] ∧ Same G1 G') ⟨_, _, rfl, Same.refl G1⟩ ?_ ?_
        · rintro j τ G' hj ⟨o5, o7, rfl, s'⟩
          rw [Int.zero_add]
          have hj : j < 5 := hj
          obtain ⟨x, hx⟩ := at_of (xs := ys) (j := j) (by omega)
          obtain ⟨a, rfl, xv⟩ := acp.get hx
          walk_at "r"
          refine r_ixL (SqL.of (s' _ _ lq)) (atI_nat hx) ?_
          walk_at "r"
          refine ⟨a, _, 32 + j, rfl, by omega, .inr ⟨_, xv.same s'⟩, fun G7 s7 => ?_⟩
          rw [decide_eq_true (by omega)]
          have s7 := s'.trans s7
          walk_at "r"
          refine r_ixL (SqL.of (s7 _ _ lq)) (atI_nat hx) ?_
          walk_at "r"
          refine ⟨a, 32 + j, [v, v'], rfl, by omega, xv.same s7, by rw [if_neg (by omega)]; rfl, fun G8 Lk s8 nk lk => ?_⟩
          have s8 := s7.trans s8
          have s9 := sp.trans s8
          walk_at "r"
          refine r_reprY (d := .list [d, d']) (things_ok2 d hd d' hd') (.lst lk (.cons (dz.same s9).now (.cons (dz'.same s9).now .nil))) ?_
          walk_at "r"
          refine ⟨by show 2 ≤ sizeLine; decide, fun q hq => ?_⟩
          have s10 := Same.upd_new (o := .lst [v, v']) hq
          have s11 := s9.trans s10
          walk_at "r"
          refine r_reprY (d := .list [d, d']) (things_ok2 d hd d' hd') (.lst upd_same (.cons (dz.same s11).now (.cons (dz'.same s11).now .nil))) ?_
          walk_at "r"
          rw [decide_eq_true rfl]
          walk_at "r"
          exact ⟨_, _, rfl, s8.trans s10⟩
        · rintro τ G' ⟨o5, o7, rfl, s''⟩
          walk_at "r"
          exact ⟨_, _, _, _, rfl, sp.trans s''⟩
    · rintro τ G ⟨o2, o5, o6, o7, rfl, sG⟩
      walk_at "r"
      exact k G (bK.same sG) (uK.trans (But.of sG))
end
end Eld
set_option Elab.async false
set_option maxRecDepth 100000
set_option maxHeartbeats 4000000
set_option linter.all false
namespace Eld
open PySem L2
local macro_rules | `(tactic| walk_at "r1") => `(tactic| with_reducible first
  | refine r_seq ?_ | refine r_asgN ?_ | refine r_asg ?_ | refine r_gname ?_ | refine r_gsub ?_ | refine r_var rfl ?_ | refine r_c ?_ | refine r_op ?_ | refine r_un ?_ | refine r_u ?_ | refine r_i0 ?_ | refine r_cb ?_ | refine r_cons ?_ | refine r_nil ?_ | refine r_cl ?_ | refine r_fn rfl rfl ?_ | refine r_mt ?_
  | refine r_test ?_ | refine r_tb ?_ | refine r_bl ?_ | refine r_and ?_ | refine r_or ?_ | refine r_not ?_ | refine r_andV ?_ | refine r_orV ?_ | refine r_notV ?_ | refine r_ifX ?_ | refine r_ifs ?_ | refine r_chain ?_ | refine r_ret ?_ | refine r_next ?_ | refine r_drop ?_ | refine iteT ?_ | refine iteF ?_ | refine iteNT ?_ | refine iteNF ?_
  | refine r_int1 ?_ | refine r_boolB ?_ | refine r_eqI ?_ | refine r_neI ?_ | refine r_eqB ?_ | refine r_neB ?_ | refine r_eqS ?_ | refine r_neS ?_ | refine r_abs ?_ | refine r_max2 ?_ | refine r_min2 ?_ | refine r_yes ?_ | refine r_tup ?_ | refine r_sfld ?_ | refine r_m0 ?_ | refine r_m1 ?_ | refine r_lst ?_ | refine r_rng1 ?_ | refine r_rng2 ?_ | refine r_ixL (SqL.of (by assumption)) rfl ?_)
local macro_rules | `(tactic| walk_at "r") => `(tactic| repeat (first | walk_at "r1" | ((with_reducible refine r_var ?hv ?_); (case hv => rfl))))

/-! ## _law_raised, _law_caught -/
section
variable {P : Program} {w : World} {K : PySem.W.Frag} {mg : Str → Option Value} {base : Heap}
theorem okN {x ql : Str} {st : Stmt} {f : Addr} {fd : FuncData} {N ps : List Str} {k : Nat} {sp : Sp} (F : Fun K x ql st f fd) (S : FnScope N ps (defScope st)) (ln : ∀ vs H Q E, sp vs H Q E → vs.length = ps.length)
    (bo : ∀ (cdv : Value) (B : Around) (up : List PySem.Env) (z : Shared) (H : Hp) (vs : List V) (Q : VK) (E : XK), (B.deeper (PyProof.Rows.envOfC ql (defScope st) z.heap.objs.size f cdv)).guards = some [] → Room k (B.deeper (PyProof.Rows.envOfC ql (defScope st) z.heap.objs.size f cdv)) → sp vs H Q E →
      ∃ t, PSs (cxOf (L2N.CX P w) P w K mg base N ql (defScope st) f cdv B up z H E) (defBody st) t ∧ t { nx := fun _ G => Q .non G, rt := Q } (start N vs) H) : FnG P w K mg base (L2N.CX P w) (k + 1) f fd ps sp := by
  obtain ⟨oc, od, kV, doc, pm, an, cdv, ct, osl, rfl, lk, cd⟩ := F.ex
  exact fnG_of lk cd S ln fun B up z H vs Q E gd rm hs => bo cdv B up z H vs Q E gd rm hs
end
def DefN (P : Program) (w : World) (K : PySem.W.Frag) (mg : Str → Option Value) (base : Heap) (k : Nat) (x : Str) (n : Nat) (sp : Sp) : Prop :=
  ∃ (f : Addr) (fd : FuncData) (ps : List Str) (g : List Value → List Value → List Value), mg x = some (.ref f) ∧ PySem.W.keepIn K (.ref f) = true ∧ FnG P w K mg base (L2N.CX P w) k f fd ps sp ∧ KBn K fd ps n [] g byPlace
theorem pdN_pos {X : Cx} {W : WX} {k j n : Nat} {sp : Sp} {x : Str} {p pos : Pos} {e : Expr} {es : List Expr} {t : TA} (d : DefN X.prog X.w X.K X.mg X.base k x n sp) (tk : L2N.Takes X W) (hG : X.A.guards = some []) (hr : Room j X.A) (hk : k ≤ j) (hg : Gl X x) (ha : PA X (e :: es) t) (hd : (x == ("__debug__" : Str)) = false := by decide)
    (he : starEach (e :: es) X.env = (false, eval e X.env) :: starEach es X.env := by rfl) (hp : (backTo pos (starEach es X.env)).any (·.1) = false := by rfl) : PE X (.Call (.Name x p) (e :: es) [] pos) (tClS (rFnS n 0 byPlace sp (WE W)) t tNil) := by
  obtain ⟨f, fd, ps, g, hm, kp, F, b⟩ := d
  exact pn_posS (callVS_fn F b (fun σ => L2N.passAt tk σ) hG (hr.mono hk)) hg hm kp ha hd he hp
theorem takesNo {X : Cx} : L2N.Takes X (fun _ _ _ _ => False) := fun u s' ⟨_, _, _, _, _, _, _, _, _, _, _, _, _, _, _, _, w⟩ => w.elim
/-- which error each way raises, and with what -/
def Way (way : Int) (v : V) (i : Nat) (ws : List V) : Prop := (way = 0 ∧ i = 12 ∧ ws = [v]) ∨ (way = 1 ∧ i = 33 ∧ ws = [v, v]) ∨ (way = 2 ∧ i = 27 ∧ ws = [v]) ∨ (way = 3 ∧ i = 28 ∧ ws = [v])
def spRaised (E : Nat → Addr) : Sp := fun vs H _ E' => ∃ way v i ws, vs = [.int way, v] ∧ Way way v i ws ∧ ∀ d G, Same H G → IsXd G d (fsOf i ws) → E' (.ref (E i)) (some d) G
section
variable {P : Program} {w : World} {K : PySem.W.Frag} {mg : Str → Option Value} {base : Heap} {E : Nat → Addr} {cE : Addr}
theorem MakE.ox {k n : Nat} {x : Str} {C : Addr} {ks : List Str} {gV : List V → List V → List V} {fs : List V → List (Str × V)} (d : MakE P w K mg base k x C n ks gV fs) : OexC K C := by
  obtain ⟨f, fd, ps, g, gW, m, gm, T, _⟩ := d
  exact T
theorem r_raise {C : Addr} {n m : Nat} {gV : List V → List V → List V} {fsf : List V → List (Str × V)} {xs ys : List V} {H H0 : Hp} {W : Value → Option Addr → Hp → Prop} (T : OexC K C) (h1 : xs.length = n) (h2 : ys.length = m) (h0 : Same H0 H) (h : ∀ d G, Same H G → IsXd G d (fsf (gV xs ys)) → W (.ref C) (some d) G) :
    rMkE C n m gV fsf xs ys H fun x H1 => ∃ a C d fs, x = .ref a ∧ H1 a = some (exo a C (some d)) ∧ H1 d = some (exd d fs) ∧ H0 a = none ∧ OexC K C ∧ W (.ref C) (some d) (delH H1 a) :=
  ⟨h1, h2, fun a dx G na nd ne ga gd oth => ⟨a, C, dx, _, rfl, ga, gd, h0.free na, T, h dx _ (fun b o e => by rw [delH_ne (ne_of_none e na), oth b (ne_of_none e na) (ne_of_none e nd)]; exact e) (.inl (by rw [delH_ne ne]; exact gd))⟩⟩
theorem ok_raised {f : Addr} {fd : FuncData} (F : Fun K "_law_raised" "_law_raised" s__law_raised f fd) (ER : Er P w K mg base E cE) : FnG P w K mg base (L2N.CX P w) 3 f fd ["way", "thing"] (spRaised E) := by
  refine okN F sc__law_raised (fun vs H Q E' h => ?_) (fun cdv B up z H vs Q E' hG hr h => ?_)
  · obtain ⟨way, v, i, ws, rfl, _⟩ := h
    rfl
  · obtain ⟨way, v, i, ws, rfl, hw, k⟩ := h
    refine ⟨_, (pss_cons (ps_if (pt_cmpR op_eq (pv 0) pe_int (nomark _)) (pss_one (L2N.ps_raise rfl (L2N.takes_of rfl rfl rfl rfl) (pmk_val rfl (px_pos ER.p12 hG hr (by decide) (by rfl) (pa_cons (pv 1) pa_nil))))) pss_nil)
      (pss_cons (ps_if (pt_cmpR op_eq (pv 0) pe_int (nomark _)) (pss_one (L2N.ps_raise rfl (L2N.takes_of rfl rfl rfl rfl) (pmk_val rfl (px_kw ER.n33 hG hr (by decide) (by rfl) (pk_cons (pv 1) (pk_cons (pv 1) pk_nil)))))) pss_nil)
      (pss_cons (ps_if (pt_cmpR op_eq (pv 0) pe_int (nomark _)) (pss_one (L2N.ps_raise rfl (L2N.takes_of rfl rfl rfl rfl) (pmk_val rfl (px_kw ER.n27 hG hr (by decide) (by rfl) (pk_cons (pv 1) pk_nil))))) pss_nil)
      (pss_one (L2N.ps_raise rfl (L2N.takes_of rfl rfl rfl rfl) (pmk_val rfl (px_pos ER.p28 hG hr (by decide) (by rfl) (pa_cons (pv 1) pa_nil)))))))), ?_⟩
    rcases hw with ⟨rfl, rfl, rfl⟩ | ⟨rfl, rfl, rfl⟩ | ⟨rfl, rfl, rfl⟩ | ⟨rfl, rfl, rfl⟩
    · walk_at "r"
      refine ite2 (fun _ => ?_) (fun c => absurd c (by decide))
      walk_at "r"
      exact r_raise ER.p12.ox rfl rfl (Same.refl H) k
    · walk_at "r"
      refine ite2 (fun c => absurd c (by decide)) (fun _ => ?_)
      walk_at "r"
      refine ite2 (fun _ => ?_) (fun c => absurd c (by decide))
      walk_at "r"
      exact r_raise ER.n33.ox rfl rfl (Same.refl H) k
    · walk_at "r"
      refine ite2 (fun c => absurd c (by decide)) (fun _ => ?_)
      walk_at "r"
      refine ite2 (fun c => absurd c (by decide)) (fun _ => ?_)
      walk_at "r"
      refine ite2 (fun _ => ?_) (fun c => absurd c (by decide))
      walk_at "r"
      exact r_raise ER.n27.ox rfl rfl (Same.refl H) k
    · walk_at "r"
      refine ite2 (fun c => absurd c (by decide)) (fun _ => ?_)
      walk_at "r"
      refine ite2 (fun c => absurd c (by decide)) (fun _ => ?_)
      walk_at "r"
      refine ite2 (fun c => absurd c (by decide)) (fun _ => ?_)
      walk_at "r"
      exact r_raise ER.p28.ox rfl rfl (Same.refl H) k
end
end Eld
set_option Elab.async false
set_option maxRecDepth 100000
set_option maxHeartbeats 4000000
set_option linter.all false
namespace Eld
open PySem L2
local macro_rules | `(tactic| walk_at "r1") => `(tactic| with_reducible first
  | refine r_seq ?_ | refine r_asgN ?_ | refine r_asg ?_ | refine r_gname ?_ | refine r_gsub ?_ | refine r_var rfl ?_ | refine r_c ?_ | refine r_op ?_ | refine r_un ?_ | refine r_u ?_ | refine r_i0 ?_ | refine r_cb ?_ | refine r_cons ?_ | refine r_nil ?_ | refine r_cl ?_ | refine r_fn rfl rfl ?_ | refine r_mt ?_
  | refine r_test ?_ | refine r_tb ?_ | refine r_bl ?_ | refine r_and ?_ | refine r_or ?_ | refine r_not ?_ | refine r_andV ?_ | refine r_orV ?_ | refine r_notV ?_ | refine r_ifX ?_ | refine r_ifs ?_ | refine r_chain ?_ | refine r_ret ?_ | refine r_next ?_ | refine r_drop ?_ | refine iteT ?_ | refine iteF ?_ | refine iteNT ?_ | refine iteNF ?_
  | refine r_int1 ?_ | refine r_boolB ?_ | refine r_eqI ?_ | refine r_neI ?_ | refine r_eqB ?_ | refine r_neB ?_ | refine r_eqS ?_ | refine r_neS ?_ | refine r_abs ?_ | refine r_max2 ?_ | refine r_min2 ?_ | refine r_yes ?_ | refine r_tup ?_ | refine r_sfld ?_ | refine r_m0 ?_ | refine r_m1 ?_ | refine r_lst ?_ | refine r_rng1 ?_ | refine r_rng2 ?_ | refine r_ixL (SqL.of (by assumption)) rfl ?_)
local macro_rules | `(tactic| walk_at "r") => `(tactic| repeat (first | walk_at "r1" | ((with_reducible refine r_var ?hv ?_); (case hv => rfl))))

/-! ## _law_caught -/
theorem r_app {K : PySem.W.Frag} {to : TE} {t : TA} {σ : L2.St} {H : Hp} {Q : VK} (h : to σ H fun x H1 => tyV K "list" x H1 ∧ t σ H1 fun ys H2 => rAppend x ys H2 Q) : tBM K "list" rAppend to t σ H Q := h
theorem exm4 {K : PySem.W.Frag} {c c1 c2 c3 c4 : Value} {b1 b2 b3 b4 : Bool} (h1 : PySem.W.exmOne K c c1 = some b1) (h2 : PySem.W.exmOne K c c2 = some b2) (h3 : PySem.W.exmOne K c c3 = some b3) (h4 : PySem.W.exmOne K c c4 = some b4) : PySem.W.exmAny K c [c1, c2, c3, c4] = some (b1 || (b2 || (b3 || (b4 || false)))) := by
  simp only [PySem.W.exmAny, h1, h2, h3, h4]
theorem r_clS' {r : L2.St → List V → List V → Hp → VK → Prop} {t tk : TA} {σ : L2.St} {H : Hp} {Q : VK} (h : t σ H fun xs H1 => tk σ H1 fun ys H2 => r σ xs ys H2 Q) : tClS r t tk σ H Q := h
def spCaught (K : PySem.W.Frag) : Sp := fun vs H Q _ => ∃ (b : Addr) (v : V) (d : PyData) (n : Nat), vs = [.ref b, v] ∧ BoxAt H b n ∧ n < 3000000 ∧ d ∈ things ∧ Dz b K H v d ∧ ∀ G, BoxAt G b (n + 1) → But b H G → Q (.bl true) G
theorem way_of {v : V} {way : Int} (h0 : 0 ≤ way) (h4 : way < 4) : ∃ i ws, Way way v i ws ∧ i < 37 ∧ (i = 12 ∨ i = 33 ∨ i = 27 ∨ i = 28) ∧ ([.int 12, .int 33, .int 27, .int 28] : List V)[way.toNat]? = some (.int (i : Nat)) ∧ ws.length = (if i < 32 then 1 else 2) ∧ atI ws (-1) = some v := by
  have h : way = 0 ∨ way = 1 ∨ way = 2 ∨ way = 3 := by omega
  rcases h with rfl | rfl | rfl | rfl
  · exact ⟨12, [v], .inl ⟨rfl, rfl, rfl⟩, by decide, by decide, rfl, rfl, rfl⟩
  · exact ⟨33, [v, v], .inr (.inl ⟨rfl, rfl, rfl⟩), by decide, by decide, rfl, rfl, rfl⟩
  · exact ⟨27, [v], .inr (.inr (.inl ⟨rfl, rfl, rfl⟩)), by decide, by decide, rfl, rfl, rfl⟩
  · exact ⟨28, [v], .inr (.inr (.inr ⟨rfl, rfl, rfl⟩)), by decide, by decide, rfl, rfl, rfl⟩
section
variable {P : Program} {w : World} {K : PySem.W.Frag} {mg : Str → Option Value} {base : Heap} {E : Nat → Addr} {cE : Addr}
theorem ok_caught {f : Addr} {fd : FuncData} (F : Fun K "_law_caught" "_law_caught" s__law_caught f fd) (Z : Zs mg) (ER : Er P w K mg base E cE) (hM : ModsD base) (d__law_take : DefD P w K mg base 1 "_law_take" 2 [] byPlace spTake) (d__law_raised : DefN P w K mg base 3 "_law_raised" 2 (spRaised E))
    (d__law_is : DefA P w K mg base 4 "_law_is" 2 (spIs E)) (d__law_kept : DefA P w K mg base 2 "_law_kept" 1 (spKept E)) : FnG P w K mg base CX0 6 f fd ["box", "thing"] (spCaught K) := by
  refine okG F sc__law_caught (fun vs H Q E' h => ?_) (fun cdv B up z H vs Q E' hG hr h => ?_)
  · obtain ⟨b, v, d, n, rfl, _⟩ := h
    rfl
  · obtain ⟨b, v, d, n, rfl, hb, hn, hd, dz, k⟩ := h
    have hu : (B.deeper (PyProof.Rows.envOfC "_law_caught" (defScope s__law_caught) z.heap.objs.size f cdv)).units + 64 < cLine := by have := hr.un; omega
    refine ⟨_, (pss_cons (ps_set (i := 3) sc__law_caught.nd rfl (by first | exact Or.inl rfl | exact Or.inr rfl) (pd_pos d__law_take hG hr (by decide) (by rfl) (pa_cons (pv 0) (pa_cons pe_int pa_nil))))
      (pss_cons (ps_set (i := 4) sc__law_caught.nd rfl (by first | exact Or.inl rfl | exact Or.inr rfl) (pe_lst pa_nil))
      (pss_cons (ps_try_x (Wo := fun _ _ _ _ => False) rfl rfl rfl takesNo (fun W pn xe tk _ => by exact (pss_one (ps_expr (pdN_pos d__law_raised tk hG hr (by decide) (by rfl) (pa_cons (pv 3) (pa_cons (pv 1) pa_nil))))))
        (.trk (i := 2) (ts := fun e => tDrop (tBM K "list" rAppend (tVar 4) (tCons (tAndV (tCl (rFnA ((B.deeper (PyProof.Rows.envOfC "_law_caught" (defScope s__law_caught) z.heap.objs.size f cdv)).mark (some (.ref e))) 2 0 byPlace (spIs E)) (tCons (tVar 2) (tCons (tOp (rIxL K) (tLst (tCons (tC (.int 12)) (tCons (tC (.int 33)) (tCons (tC (.int 27)) (tCons (tC (.int 28)) tNil))))) (tVar 3)) tNil)) tNil) (tOp rEq (tCB (rReprY K) (tCons (tOp (rIxL K) (tCl (rFnA ((B.deeper (PyProof.Rows.envOfC "_law_caught" (defScope s__law_caught) z.heap.objs.size f cdv)).mark (some (.ref e))) 1 0 byPlace (spKept E)) (tCons (tVar 2) tNil) tNil) (tUn (rU fun i => .int (-i)) (tC (.int 1)))) tNil)) (tCB (rReprY K) (tCons (tVar 1) tNil)))) tNil))) sc__law_caught.nd rfl rfl ⟨by rfl, by decide, .inl ER.gE⟩ (fun e pn => by exact (pss_one (ps_expr (pe_bm PySem.F.plainAttrs_list PySem.F.slot_list_append PySem.F.type_list_append mt_append (pv 4)
          (pa_cons (pe_and (pa_pos d__law_is hG (L2H.roomH_mark hr _) (by decide) (by rfl) (pa_cons (pv 2) (pa_cons (pe_ix (show IxR _ (rIxL K) from ix_list) (pe_lst (pa_cons pe_int (pa_cons pe_int (pa_cons pe_int (pa_cons pe_int pa_nil))))) (pv 3) (fun _ _ => rfl)) pa_nil)))
            (pe_one (pe_cmpR op_eq (pe_callB (show CallR _ _ (rReprY K) from call_reprY hM hG hu) (by rfl) Z.repr_ (by decide +kernel) (pa_cons (pe_ix (show IxR _ (rIxL K) from ix_list) (pa_pos d__law_kept hG (L2H.roomH_mark hr _) (by decide) (by rfl) (pa_cons (pv 2) pa_nil)) (pe_un un_neg pe_int) (fun _ _ => rfl)) pa_nil)) (pe_callB (show CallR _ _ (rReprY K) from call_reprY hM hG hu) (by rfl) Z.repr_ (by decide +kernel) (pa_cons (pv 1) pa_nil)) (nomark _)))) pa_nil))))) .nil))
      (pss_cons (ps_try_x (Wo := fun _ _ _ _ => False) rfl rfl rfl takesNo (fun W pn xe tk _ => by exact (pss_one (ps_expr (pdN_pos d__law_raised tk hG hr (by decide) (by rfl) (pa_cons (pv 3) (pa_cons (pv 1) pa_nil))))))
        (.bare (ts := tDrop (tBM K "list" rAppend (tVar 4) (tCons (tC (.bl false)) tNil))) ⟨by rfl, by decide, .inl ER.g11⟩ (fun e pn => by exact (pss_one (ps_expr (pe_bm PySem.F.plainAttrs_list PySem.F.slot_list_append PySem.F.type_list_append mt_append (pv 4) (pa_cons pe_bl pa_nil)))))
        (.tup (ts := tDrop (tBM K "list" rAppend (tVar 4) (tCons (tC (.bl true)) tNil))) ⟨by rfl, by decide, .inl ER.g12⟩ ⟨by rfl, by decide, .inl ER.g33⟩ ⟨by rfl, by decide, .inl ER.g27⟩ ⟨by rfl, by decide, .inl ER.g28⟩ (fun e pn => by exact (pss_one (ps_expr (pe_bm PySem.F.plainAttrs_list PySem.F.slot_list_append PySem.F.type_list_append mt_append (pv 4) (pa_cons pe_bl pa_nil))))) .nil)))
      (pss_one (ps_ret (pe_cmpR (show OpR _ _ (rEqD K) from op_eqD hu) (pv 4) (pe_lst (pa_cons pe_bl (pa_cons pe_bl pa_nil))) (nomark _)))))))), ?_⟩
    walk_at "r"
    refine ⟨b, 4, n, rfl, hb, by omega, by decide, by decide, fun way G0 w0 w4 b0 u0 => ?_⟩
    obtain ⟨i, ws, hw, hi, hi4, hix, hlen, hlast⟩ := way_of (v := v) w0 w4
    have i40 : i < 40 := by omega
    have dz := dz.but u0
    walk_at "r"
    refine ⟨by show 0 ≤ sizeLine; decide, fun L hL => ?_⟩
    have S1 : Same G0 (upd G0 L (.lst [])) := Same.upd_new hL
    have l1 : (upd G0 L (.lst [])) L = some (.lst []) := upd_same
    generalize upd G0 L (.lst []) = G1 at S1 l1 ⊢
    walk_at "r"
    refine r_clS' ?_
    walk_at "r"
    refine r_fnS rfl rfl ?_
    refine ⟨way, v, i, ws, rfl, hw, fun dx G2 s2 xd => ?_⟩
    have S2 := S1.trans s2
    have l2 := s2 _ _ l1
    refine ⟨true, ER.exE i i40, fun _ e he => ⟨E i, rfl, ?_⟩, fun c => Bool.noConfusion c⟩
    have s3 : Same G2 (upd G2 e (Ex e (E i) (some dx))) := Same.upd_new he
    have xe : IsEx (upd G2 e (Ex e (E i) (some dx))) e (E i) (some dx) := .inr upd_same
    have xv : XV (upd G2 e (Ex e (E i) (some dx))) e (E i) (fsOf i ws) := ⟨dx, xe, xd.imp (s3 _ _) (s3 _ _)⟩
    generalize upd G2 e (Ex e (E i) (some dx)) = G3 at s3 xe xv ⊢
    have S3 := S2.trans s3
    have l3 : G3 L = some (.lst []) := s3 _ _ l2
    show tDrop _ _ _ _
    refine r_drop ?_
    refine r_app ?_
    walk_at "r"
    refine ⟨.inl ⟨rfl, _, SqL.of l3⟩, ?_⟩
    walk_at "r"
    refine ⟨by show 4 ≤ sizeLine; decide, fun q hq => ?_⟩
    have s4 := Same.upd_new (o := .lst [.int 12, .int 33, .int 27, .int 28]) hq
    have lq : (upd G3 q (.lst [.int 12, .int 33, .int 27, .int 28])) q = some (.lst [.int 12, .int 33, .int 27, .int 28]) := upd_same
    generalize upd G3 q (.lst [.int 12, .int 33, .int 27, .int 28]) = G4 at s4 lq ⊢
    walk_at "r"
    have wn : way = ((way.toNat : Nat) : Int) := (Int.toNat_of_nonneg w0).symm
    rw [wn]
    refine r_ixL (SqL.of lq) (atI_nat hix) ?_
    rw [← wn]
    walk_at "r"
    refine r_fnA rfl rfl (.inr ⟨e, E i, some dx, rfl, xe.same s4⟩) ?_
    refine ⟨e, _, i, rfl, i40, .inr ⟨_, xv.same s4⟩, fun G5 s5 => ?_⟩
    have s5 := s4.trans s5
    rw [decide_eq_true rfl]
    walk_at "r"
    refine r_fnA rfl rfl (.inr ⟨e, E i, some dx, rfl, xe.same s5⟩) ?_
    refine ⟨e, i, ws, rfl, hi, xv.same s5, hlen, fun G6 Lk s6 nk lk => ?_⟩
    have s6 := s5.trans s6
    walk_at "r"
    refine r_ixL (SqL.of lk) hlast ?_
    walk_at "r"
    have d6 := dz.same (S3.trans s6)
    refine r_reprY (things_ok d hd) d6.now ?_
    walk_at "r"
    refine r_reprY (things_ok d hd) d6.now ?_
    walk_at "r"
    rw [decide_eq_true rfl]
    refine ⟨L, [], .bl true, rfl, rfl, s6 _ _ l3, by show 0 < sizeLine; decide, ?_⟩
    have S7 : Same G0 (upd G6 L (.lst ([] ++ [.bl true]))) := Same.over (S3.trans s6) hL
    have l7 : (upd G6 L (.lst ([] ++ [.bl true]))) L = some (.lst [.bl true]) := upd_same
    generalize upd G6 L (.lst ([] ++ [.bl true])) = G7 at S7 l7 ⊢
    dsimp only [clr, nam]
    refine r_seq ?_
    show tDrop _ _ _ _
    refine r_drop ?_
    refine r_clS' ?_
    walk_at "r"
    refine r_fnS rfl rfl ?_
    refine ⟨way, v, i, ws, rfl, hw, fun dx G8 s8 xd => ?_⟩
    have l8 := s8 _ _ l7
    have S8 := S7.trans s8
    have no : decide (i = 11) = false := decide_eq_false (by omega)
    have e11 := ER.exO i 11 i40 (by decide)
    rw [no] at e11
    refine ⟨false, e11, fun c => Bool.noConfusion c, fun _ => ?_⟩
    have e4 := exm4 (ER.exO i 12 i40 (by decide)) (ER.exO i 33 i40 (by decide)) (ER.exO i 27 i40 (by decide)) (ER.exO i 28 i40 (by decide))
    have yes : (decide (i = 12) || (decide (i = 33) || (decide (i = 27) || (decide (i = 28) || false)))) = true := by
      rcases hi4 with rfl | rfl | rfl | rfl <;> rfl
    rw [yes] at e4
    refine ⟨true, e4, fun _ => ?_, fun c => Bool.noConfusion c⟩
    show tDrop _ _ _ _
    refine r_drop ?_
    refine r_app ?_
    walk_at "r"
    refine ⟨.inl ⟨rfl, _, SqL.of l8⟩, ?_⟩
    walk_at "r"
    refine ⟨L, [.bl true], .bl true, rfl, rfl, l8, by show 1 < sizeLine; decide, ?_⟩
    have S9 : Same G0 (upd G8 L (.lst ([.bl true] ++ [.bl true]))) := Same.over S8 hL
    have l9 : (upd G8 L (.lst ([.bl true] ++ [.bl true]))) L = some (.lst [.bl true, .bl true]) := upd_same
    generalize upd G8 L (.lst ([.bl true] ++ [.bl true])) = G9 at S9 l9 ⊢
    walk_at "r"
    refine ⟨by show 2 ≤ sizeLine; decide, fun p hp => ?_⟩
    have s10 := Same.upd_new (o := .lst [.bl true, .bl true]) hp
    refine ⟨.list [.bool true, .bool true], .list [.bool true, .bool true], .lst (SqL.of (s10 _ _ l9)) (.cons (.bl _) (.cons (.bl _) .nil)), .lst (SqL.of upd_same) (.cons (.bl _) (.cons (.bl _) .nil)), rfl, rfl, ?_⟩
    have ev : PyData.eqv (.list [.bool true, .bool true]) (.list [.bool true, .bool true]) = true := by decide +kernel
    rw [ev]
    have S10 := S9.trans s10
    exact k _ (b0.same S10) (u0.trans (But.of S10))
end
end Eld
set_option Elab.async false
set_option maxRecDepth 100000
set_option maxHeartbeats 4000000
set_option linter.all false
namespace Eld
open PySem L2
local macro_rules | `(tactic| walk_at "r1") => `(tactic| with_reducible first
  | refine r_seq ?_ | refine r_asgN ?_ | refine r_asg ?_ | refine r_gname ?_ | refine r_gsub ?_ | refine r_var rfl ?_ | refine r_c ?_ | refine r_op ?_ | refine r_un ?_ | refine r_u ?_ | refine r_i0 ?_ | refine r_cb ?_ | refine r_cons ?_ | refine r_nil ?_ | refine r_cl ?_ | refine r_fn rfl rfl ?_ | refine r_mt ?_
  | refine r_test ?_ | refine r_tb ?_ | refine r_bl ?_ | refine r_and ?_ | refine r_or ?_ | refine r_not ?_ | refine r_andV ?_ | refine r_orV ?_ | refine r_notV ?_ | refine r_ifX ?_ | refine r_ifs ?_ | refine r_chain ?_ | refine r_ret ?_ | refine r_next ?_ | refine r_drop ?_ | refine iteT ?_ | refine iteF ?_ | refine iteNT ?_ | refine iteNF ?_
  | refine r_int1 ?_ | refine r_boolB ?_ | refine r_eqI ?_ | refine r_neI ?_ | refine r_eqB ?_ | refine r_neB ?_ | refine r_eqS ?_ | refine r_neS ?_ | refine r_abs ?_ | refine r_max2 ?_ | refine r_min2 ?_ | refine r_yes ?_ | refine r_tup ?_ | refine r_sfld ?_ | refine r_m0 ?_ | refine r_m1 ?_ | refine r_lst ?_ | refine r_rng1 ?_ | refine r_rng2 ?_ | refine r_ixL (SqL.of (by assumption)) rfl ?_)
local macro_rules | `(tactic| walk_at "r") => `(tactic| repeat (first | walk_at "r1" | ((with_reducible refine r_var ?hv ?_); (case hv => rfl))))

/-! ## what is spoken of -/
def menu : List (List Int) := [[2], [3], [4], [5], [6], [7], [8], [2, 2], [2, 3], [2, 4], [3, 2], [4, 2], [2, 2, 2]]
/-- one more name with z values -/
def more (z : Int) (v : List Int) : List (List Int) := (List.range z.toNat).map fun (x : Nat) => v ++ [(x : Int)]
def wide (rows : List (List Int)) (z : Int) : List (List Int) := rows.flatMap (more z)
def allRows (zs : List Int) : List (List Int) := zs.foldl wide [[]]
/-- tuples of ints at these places -/
def RowsT (H : Hp) (ts : List Addr) (rows : List (List Int)) : Prop := ts.length = rows.length ∧ ∀ (i : Nat) (t : Addr) (r : List Int), ts[i]? = some t → rows[i]? = some r → H t = some (.tup (r.map V.int))
theorem RowsT.same {H H' : Hp} {ts : List Addr} {rows : List (List Int)} (h : RowsT H ts rows) (s : Same H H') : RowsT H' ts rows := ⟨h.1, fun i t r a b => s _ _ (h.2 i t r a b)⟩
theorem RowsT.push {H : Hp} {ts : List Addr} {rows : List (List Int)} {t : Addr} {r : List Int} (h : RowsT H ts rows) (e : H t = some (.tup (r.map V.int))) : RowsT H (ts ++ [t]) (rows ++ [r]) := by
  refine ⟨by simp [h.1], fun i u q a b => ?_⟩
  by_cases c : i < ts.length
  · rw [List.getElem?_append_left c] at a
    rw [List.getElem?_append_left (h.1 ▸ c)] at b
    exact h.2 i u q a b
  · have c1 : i = ts.length := by
      have := (List.getElem?_eq_some_iff.mp a).1
      simp at this
      omega
    subst c1
    simp at a
    rw [h.1] at b
    simp at b
    subst a b
    exact e
def spAllValues : Sp := fun vs H Q _ => ∃ a zs, vs = [.ref a] ∧ zs ∈ menu ∧ H a = some (.tup (zs.map V.int)) ∧ ∀ H' q ts, Same H H' → H q = none → BareT H' q (ts.map V.ref) → RowsT H' ts (allRows zs) → Q (.ref q) H'
theorem menu_len : ∀ zs ∈ menu, 1 ≤ zs.length ∧ zs.length ≤ 3 := by decide
theorem menu_mem : ∀ zs ∈ menu, ∀ z ∈ zs, (2 : Int) ≤ z ∧ z ≤ 8 := by decide
def prod (zs : List Int) : Int := zs.foldl (· * ·) 1
theorem menu_prod : ∀ zs ∈ menu, prod zs ≤ 8 := by decide
theorem menu_part : ∀ zs ∈ menu, ∀ i, i < 4 → -(2 ^ 64) < prod (zs.take i) ∧ prod (zs.take i) < 2 ^ 64 := by decide
theorem prod_take {zs : List Int} {i : Nat} {z : Int} (h : zs[i]? = some z) : prod (zs.take (i + 1)) = prod (zs.take i) * z := by
  unfold prod
  rw [List.take_add_one, h, List.foldl_append]
  rfl
theorem map_get {zs : List Int} {i : Nat} {x : V} (h : (zs.map V.int)[i]? = some x) : ∃ z, zs[i]? = some z ∧ x = .int z := by
  rw [List.getElem?_map] at h
  cases e : zs[i]? with
  | none => rw [e] at h; cases h
  | some z => rw [e] at h; exact ⟨z, rfl, (Option.some.inj h).symm⟩
theorem all_rep (n : Nat) : (List.replicate n true).all id = true := by
  rw [List.all_eq_true]
  intro b hb
  exact (List.mem_replicate.mp hb).2
theorem map_rep (n : Nat) : (List.replicate n true).map V.bl = List.replicate n (V.bl true) := by rw [List.map_replicate]
theorem menu_rows : ∀ zs ∈ menu, ∀ i, i < 3 → ∀ j, j < 9 → (((allRows (zs.take i)).take j).flatMap (more (zs.getD i 0))).length ≤ 64 := by decide
theorem menu_rows8 : ∀ zs ∈ menu, ∀ i, i < 4 → (allRows (zs.take i)).length ≤ 8 := by decide
theorem menu_deep : ∀ zs ∈ menu, ∀ i, i < 4 → ∀ r ∈ allRows (zs.take i), r.length ≤ 3 := by decide
theorem rows_take {zs : List Int} {i : Nat} {z : Int} (h : zs[i]? = some z) : allRows (zs.take (i + 1)) = wide (allRows (zs.take i)) z := by
  unfold allRows
  rw [List.take_add_one, h, List.foldl_append]
  rfl
theorem more_len (z : Int) (r : List Int) : (more z r).length = z.toNat := by simp [more]
theorem more_at {z : Int} {r : List Int} {k : Nat} (h : k < z.toNat) : (more z r)[k]? = some (r ++ [(k : Int)]) := by
  unfold more
  rw [List.getElem?_map, List.getElem?_range h]
  rfl
theorem take_next {α : Type} {l : List α} {k : Nat} {x : α} (h : l[k]? = some x) : l.take (k + 1) = l.take k ++ [x] := by rw [List.take_add_one, h]; rfl
theorem flat_next {rows : List (List Int)} {j : Nat} {r : List Int} {z : Int} (h : rows[j]? = some r) : (rows.take (j + 1)).flatMap (more z) = (rows.take j).flatMap (more z) ++ more z r := by
  rw [take_next h, List.flatMap_append]
  simp
theorem ref_get {ts : List Addr} {i : Nat} {x : V} (h : (ts.map V.ref)[i]? = some x) : ∃ t, ts[i]? = some t ∧ x = .ref t := by
  rw [List.getElem?_map] at h
  cases e : ts[i]? with
  | none => rw [e] at h; cases h
  | some z => rw [e] at h; exact ⟨z, rfl, (Option.some.inj h).symm⟩
theorem RowsT.get {H : Hp} {ts : List Addr} {rows : List (List Int)} {i : Nat} {t : Addr} (h : RowsT H ts rows) (e : ts[i]? = some t) : ∃ r, rows[i]? = some r ∧ H t = some (.tup (r.map V.int)) := by
  have il : i < rows.length := h.1 ▸ (List.getElem?_eq_some_iff.mp e).1
  exact ⟨rows[i], List.getElem?_eq_getElem il, h.2 i t _ e (List.getElem?_eq_getElem il)⟩
theorem RowsT.nil {H : Hp} : RowsT H [] [] := ⟨rfl, fun i t r a => by simp at a⟩
/-- r + (k,) -/
theorem r_catInt {K : PySem.W.Frag} {H : Hp} {Q : VK} {t q : Addr} {r : List Int} {k : Int} (ht : H t = some (.tup (r.map V.int))) (hq : H q = some (.tup [.int k])) (hl : r.length ≤ 10)
    (h : ∀ p H', Same H H' → H' p = some (.tup ((r ++ [k]).map V.int)) → Q (.ref p) H') : rCatA K (.ref t) (.ref q) H Q := by
  refine ⟨t, q, r.map V.int, [.int k], rfl, rfl, SqT.of ht, SqT.of hq, ?_, fun e => ?_, fun _ e => (nomatch e), fun _ _ p hp => ?_⟩
  · rw [List.length_map, sizeLine_eq]
    show r.length + 1 ≤ 16777216
    omega
  · have e' : r = [] := by simpa using e
    subst e'
    exact h q H (Same.refl H) hq
  · refine h p _ (Same.upd_new hp) ?_
    rw [upd_same, List.map_append]
    rfl
section
variable {P : Program} {w : World} {K : PySem.W.Frag} {mg : Str → Option Value} {base : Heap}
theorem ok_all_values {f : Addr} {fd : FuncData} (F : Fun K "all_values" "all_values" s_all_values f fd) (Z : Zs mg) : FnG P w K mg base CX0 1 f fd ["sizes"] spAllValues := by
  refine okG F sc_all_values (fun vs H Q E h => ?_) (fun cdv B up z H vs Q E hG hr h => ?_)
  · obtain ⟨a, zs, rfl, _⟩ := h
    rfl
  · obtain ⟨a, zs, rfl, hz, ha, k⟩ := h
    obtain ⟨l1, l3⟩ := menu_len zs hz
    have lz : (zs.map V.int).length = zs.length := List.length_map ..
    refine ⟨_, (pss_cons (ps_set (i := 1) sc_all_values.nd rfl (by first | exact Or.inl rfl | exact Or.inr rfl) (pe_lst (pa_cons (pe_tup pa_nil) pa_nil)))
  (pss_cons (ps_for PassesOwn.never rfl (pi_tup (pv 0)) (pg_name (i := 2) sc_all_values.nd rfl (by first | exact Or.inl rfl | exact Or.inr rfl))
  (pss_one (ps_setLc2 (i := 1) (own := [("values", 3), ("value", 4)]) (vs1 := [4]) (tt := tYes) (tt1 := tYes) rfl sc_all_values.nd rfl rfl (sw_true rfl rfl rfl (by decide +kernel)) (pi_list (pv 1)) (blkOk_by (N := ["sizes", "stores", "size", "values", "value"]) (sc := defScope s_all_values) (by decide +kernel)) (by decide) (fun _ _ _ _ _ => (pg_name (i := 3) sc_all_values.nd rfl (by first | exact Or.inl rfl | exact Or.inr rfl))) (fun _ _ _ _ _ => pts_nil) (fun _ _ _ _ _ => (pi_range1 (by rfl) Z.range_ (pa_cons (pv 2) pa_nil))) (fun _ _ _ _ _ => (pg_name (i := 4) sc_all_values.nd rfl (by first | exact Or.inl rfl | exact Or.inr rfl))) (fun _ _ _ _ _ => pts_nil) (fun _ _ _ _ _ => (pe_op (show OpR _ _ (rCatA K) from op_catA) (pv 3) (pe_tup (pa_cons (pv 4) pa_nil)))))))
  (pss_one (ps_ret (pe_callTy (show CallR _ _ (rTupleB K) from call_tupleB) (by rfl) Z.tuple_ (by decide +kernel) (pa_cons (pv 1) pa_nil)))))), ?_⟩
    walk_at "r"
    refine ⟨Nat.zero_le _, fun t ht => ?_⟩
    walk_at "r"
    refine ⟨by show 1 ≤ sizeLine; decide, fun l hl => ?_⟩
    have s0 : Same H (upd (upd H t (.tup [])) l (.lst [.ref t])) := (Same.upd_new ht).trans (Same.upd_new hl)
    have tl : t ≠ l := fun e => by rw [← e, upd_same] at hl; cases hl
    have r0 : RowsT (upd (upd H t (.tup [])) l (.lst [.ref t])) [t] [[]] := by
      have := RowsT.push (H := upd (upd H t (.tup [])) l (.lst [.ref t])) (t := t) (r := []) RowsT.nil (by rw [upd_ne tl]; exact upd_same)
      exact this
    walk_at "r"
    refine ⟨_, rfl, a, rfl, ⟨_, SqT.of (s0 _ _ ha)⟩, for_tup (K := K) (a := a) (xs := zs.map V.int) (fun i τ G => Same H G ∧ ∃ (m : Addr) (ts : List Addr) (v2 : Option V), τ = [some (.ref a), some (.ref m), v2, none, none] ∧ H m = none ∧ G m = some (.lst (ts.map V.ref)) ∧ RowsT G ts (allRows (zs.take i)))
      ⟨s0, l, [t], none, rfl, (Same.upd_new ht).free hl, upd_same, r0⟩ (fun i τ G _ p => SqT.of (p.1 _ _ ha)) ?_ ?_⟩
    · rintro i x τ G hx ⟨sG, m, ts, v2, rfl, hm, gm, rt⟩
      obtain ⟨y, hy, rfl⟩ := map_get hx
      have il : i < zs.length := (List.getElem?_eq_some_iff.mp hy).1
      obtain ⟨y1, y2⟩ := menu_mem zs hz y (List.mem_of_getElem? hy)
      have yd : zs.getD i 0 = y := by rw [List.getD_eq_getElem?_getD, hy]; rfl
      generalize hrows : allRows (zs.take i) = rows at rt
      have r8 : rows.length ≤ 8 := hrows ▸ menu_rows8 zs hz i (by omega)
      walk_at "r"
      refine ⟨_, rfl, m, rfl, ⟨_, SqL.of gm⟩, fun D hD => ?_⟩
      refine it_list (xs := ts.map V.ref) (fun j G2 => Same G G2 ∧ ∃ us : List Addr, G2 D = some (.lst (us.map V.ref)) ∧ RowsT G2 us ((rows.take j).flatMap (more y)))
        ⟨Same.upd_new hD, [], upd_same, by simpa using RowsT.nil⟩ (fun j G2 _ p => SqL.of (p.1 _ _ gm)) (fun j x G2 hx p => ?_) (fun G2 p => ?_)
      · obtain ⟨s2, us, d2, ru⟩ := p
        obtain ⟨u, hu, rfl⟩ := ref_get hx
        obtain ⟨r, hr', gu⟩ := rt.get hu
        have jl : j < rows.length := (List.getElem?_eq_some_iff.mp hr').1
        have rl : r.length ≤ 3 := menu_deep zs hz i (by omega) r (hrows ▸ List.mem_of_getElem? hr')
        refine r_gname ⟨rfl, ?_⟩
        walk_at "r"
        refine ⟨y, rfl, by omega, by omega, ?_⟩
        refine it_range (fun k G3 => Same G G3 ∧ ∃ us : List Addr, G3 D = some (.lst (us.map V.ref)) ∧ RowsT G3 us ((rows.take j).flatMap (more y) ++ (more y r).take k))
          ⟨s2, us, d2, by simpa using ru⟩ (fun k G3 hk p3 => ?_) (fun G3 p3 => ?_)
        · obtain ⟨s3, us3, d3, ru3⟩ := p3
          refine r_gname ⟨rfl, ?_⟩
          walk_at "r"
          refine ⟨by show 1 ≤ sizeLine; decide, fun q hq => ?_⟩
          have s4 : Same G3 (upd G3 q (.tup [.int (0 + (k : Int))])) := Same.upd_new hq
          refine r_catInt (s4 _ _ (s3 _ _ gu)) upd_same (by omega) fun p4 G4 s5 g4 => ?_
          have s6 := s4.trans s5
          have d4 := s6 _ _ d3
          have len : us3.length ≤ 72 := by
            rw [ru3.1, List.length_append, List.length_take]
            have h1 := menu_rows zs hz i (by omega) j (by omega)
            rw [hrows, yd] at h1
            omega
          refine ⟨us3.map V.ref, d4, by rw [List.length_map, sizeLine_eq]; omega, Same.over (s3.trans s6) hD, us3 ++ [p4], by rw [upd_same, List.map_append]; rfl, ?_⟩
          rw [take_next (more_at (z := y) (r := r) hk), ← List.append_assoc]
          have g4' : (upd G4 D (.lst (us3.map V.ref ++ [V.ref p4]))) p4 = some (.tup ((r ++ [(k : Int)]).map V.int)) := by
            have ne : p4 ≠ D := ne_of g4 d4 (by intro e; cases e)
            rw [upd_ne ne, g4]
            simp
          refine RowsT.push ⟨ru3.1, fun i' t' r' a' b' => ?_⟩ g4'
          have e1 := ru3.2 i' t' r' a' b'
          have ne : t' ≠ D := ne_of e1 d3 (by intro e; cases e)
          rw [upd_ne ne]
          exact s6 _ _ e1
        · obtain ⟨s3, us3, d3, ru3⟩ := p3
          refine ⟨s3, us3, d3, ?_⟩
          rw [flat_next hr', show (more y r) = (more y r).take y.toNat from by rw [List.take_of_length_le]; rw [more_len]; exact Nat.le_refl _]
          exact ru3
      · obtain ⟨s2, us, d2, ru⟩ := p
        refine ⟨sG.trans s2, D, us, _, rfl, sG.free hD, d2, ?_⟩
        rw [rows_take hy, hrows]
        have e : (rows.take (ts.map V.ref).length) = rows := by rw [List.length_map, rt.1, List.take_length]
        rw [e] at ru
        exact ru
    · rintro τ G ⟨sG, m, ts, v2, rfl, hm, gm, rt⟩
      rw [lz, List.take_length] at rt
      walk_at "r"
      refine ⟨_, _, rfl, SqL.of gm, fun q o hq ho => ?_⟩
      exact k _ q ts (sG.trans (Same.upd_new hq)) (sG.free hq) ⟨o, upd_same, ho⟩ (rt.same (Same.upd_new hq))
end
end Eld
set_option Elab.async false
set_option maxRecDepth 100000
set_option maxHeartbeats 4000000
set_option linter.all false
namespace Eld
open PySem L2
local macro_rules | `(tactic| walk_at "r1") => `(tactic| with_reducible first
  | refine r_seq ?_ | refine r_asgN ?_ | refine r_asg ?_ | refine r_gname ?_ | refine r_gsub ?_ | refine r_var rfl ?_ | refine r_c ?_ | refine r_op ?_ | refine r_un ?_ | refine r_u ?_ | refine r_i0 ?_ | refine r_cb ?_ | refine r_cons ?_ | refine r_nil ?_ | refine r_cl ?_ | refine r_fn rfl rfl ?_ | refine r_mt ?_
  | refine r_test ?_ | refine r_tb ?_ | refine r_bl ?_ | refine r_and ?_ | refine r_or ?_ | refine r_not ?_ | refine r_andV ?_ | refine r_orV ?_ | refine r_notV ?_ | refine r_ifX ?_ | refine r_ifs ?_ | refine r_chain ?_ | refine r_ret ?_ | refine r_next ?_ | refine r_drop ?_ | refine iteT ?_ | refine iteF ?_ | refine iteNT ?_ | refine iteNF ?_
  | refine r_int1 ?_ | refine r_boolB ?_ | refine r_eqI ?_ | refine r_neI ?_ | refine r_eqB ?_ | refine r_neB ?_ | refine r_eqS ?_ | refine r_neS ?_ | refine r_abs ?_ | refine r_max2 ?_ | refine r_min2 ?_ | refine r_yes ?_ | refine r_tup ?_ | refine r_sfld ?_ | refine r_m0 ?_ | refine r_m1 ?_ | refine r_lst ?_ | refine r_rng1 ?_ | refine r_rng2 ?_ | refine r_ixL (SqL.of (by assumption)) rfl ?_)
local macro_rules | `(tactic| walk_at "r") => `(tactic| repeat (first | walk_at "r1" | ((with_reducible refine r_var ?hv ?_); (case hv => rfl))))

def spIsInt : Sp := fun vs H Q _ => ∃ i, vs = [.int i] ∧ Q (.bl true) H
def spIsList : Sp := fun vs H Q _ => ∃ a xs, vs = [.ref a] ∧ (H a = some (.lst xs) ∨ H a = some (.tup xs)) ∧ ∀ H', Same H H' → Q (.bl true) H'
def spIsFrom : Sp := fun vs H Q _ => ∃ i lo hi, vs = [.int i, .int lo, .int hi] ∧ lo ≤ i ∧ i ≤ hi ∧ Q (.bl true) H
def spIsSizes : Sp := fun vs H Q _ => ∃ a zs, vs = [.ref a] ∧ zs ∈ menu ∧ (H a = some (.lst (zs.map V.int)) ∨ H a = some (.tup (zs.map V.int))) ∧ ∀ H', Same H H' → Q (.bl true) H'
section
variable {P : Program} {w : World} {K : PySem.W.Frag} {mg : Str → Option Value} {base : Heap}
theorem ok_is_integer {f : Addr} {fd : FuncData} (F : Fun K "is_integer" "is_integer" s_is_integer f fd) (Z : Zs mg) : FnG P w K mg base CX0 1 f fd ["value"] spIsInt := by
  refine okG F sc_is_integer (fun vs H Q E h => ?_) (fun cdv B up z H vs Q E hG hr h => ?_)
  · obtain ⟨i, rfl, _⟩ := h
    rfl
  · obtain ⟨i, rfl, k⟩ := h
    refine ⟨_, (pss_one (ps_ret (pe_and (pe_callB call_isi (by rfl) Z.isinstance_ (by decide +kernel) (pa_cons (pv 0) (pa_cons (pe_ty "int" (by rfl) Z.int_ (by decide +kernel)) pa_nil))) (pe_one (pe_not (pe_callB call_isi (by rfl) Z.isinstance_ (by decide +kernel) (pa_cons (pv 0) (pa_cons (pe_ty "bool" (by rfl) Z.bool_ (by decide +kernel)) pa_nil)))))))), ?_⟩
    walk_at "r"
    refine r_isiB (b := true) (.base (.int i)) (by decide +kernel) ?_
    walk_at "r"
    refine r_isiB (b := false) (.base (.int i)) (by decide +kernel) ?_
    walk_at "r"
    exact k
theorem ok_is_list {f : Addr} {fd : FuncData} (F : Fun K "is_list" "is_list" s_is_list f fd) (Z : Zs mg) : FnG P w K mg base CX0 1 f fd ["value"] spIsList := by
  refine okG F sc_is_list (fun vs H Q E h => ?_) (fun cdv B up z H vs Q E hG hr h => ?_)
  · obtain ⟨a, xs, rfl, _⟩ := h
    rfl
  · obtain ⟨a, xs, rfl, ha, k⟩ := h
    refine ⟨_, (pss_one (ps_ret (pe_callB call_isiT (by rfl) Z.isinstance_ (by decide +kernel) (pa_cons (pv 0) (pa_cons (pe_tup (pa_cons (pe_ty "list" (by rfl) Z.list_ (by decide +kernel)) (pa_cons (pe_ty "tuple" (by rfl) Z.tuple_ (by decide +kernel)) pa_nil))) pa_nil))))), ?_⟩
    walk_at "r"
    refine ⟨by show 2 ≤ sizeLine; decide, fun p hp => ?_⟩
    have s1 : Same H (upd H p (.tup [.ty "list", .ty "tuple"])) := Same.upd_new hp
    walk_at "r"
    rcases ha with e | e
    · exact ⟨.ref a, p, [.ty "list", .ty "tuple"], .type "list", [.type "list", .type "tuple"], true, rfl, upd_same, .cons (.ty _) (.cons (.ty _) .nil), .base (.lst (s1 _ _ e)),
        kitAny_cons (b := true) (kit_ty (by decide +kernel)) (fun z => by cases z) (fun _ => rfl), k _ s1⟩
    · exact ⟨.ref a, p, [.ty "list", .ty "tuple"], .type "tuple", [.type "list", .type "tuple"], true, rfl, upd_same, .cons (.ty _) (.cons (.ty _) .nil), .base (.tup (s1 _ _ e)),
        kitAny_cons (b := false) (kit_ty (by decide +kernel)) (fun _ => kitAny_cons (b := true) (kit_ty (by decide +kernel)) (fun z => by cases z) (fun _ => rfl)) (fun z => by cases z), k _ s1⟩
theorem ok_is_from {f : Addr} {fd : FuncData} (F : Fun K "is_from" "is_from" s_is_from f fd) (d_is_integer : DefD P w K mg base 1 "is_integer" 1 [] byPlace spIsInt) : FnG P w K mg base CX0 2 f fd ["value", "low", "high"] spIsFrom := by
  refine okG F sc_is_from (fun vs H Q E h => ?_) (fun cdv B up z H vs Q E hG hr h => ?_)
  · obtain ⟨i, lo, hi, rfl, _⟩ := h
    rfl
  · obtain ⟨i, lo, hi, rfl, h1, h2, k⟩ := h
    refine ⟨_, (pss_one (ps_ret (pe_and (pd_pos d_is_integer hG hr (by decide) (by rfl) (pa_cons (pv 0) pa_nil)) (pe_one (pe_chain op_le op_le (pv 1) (pv 0) (pv 2)))))), ?_⟩
    walk_at "r"
    refine ⟨i, rfl, ?_⟩
    walk_at "r"
    rw [decide_eq_true h1]
    walk_at "r"
    rw [decide_eq_true h2]
    exact k
theorem ok_is_sizes {f : Addr} {fd : FuncData} (F : Fun K "is_sizes" "is_sizes" s_is_sizes f fd) (Z : Zs mg) (d_is_list : DefD P w K mg base 1 "is_list" 1 [] byPlace spIsList) (d_is_from : DefD P w K mg base 2 "is_from" 3 [] byPlace spIsFrom) :
    FnG P w K mg base CX0 3 f fd ["value"] spIsSizes := by
  refine okG F sc_is_sizes (fun vs H Q E h => ?_) (fun cdv B up z H vs Q E hG hr h => ?_)
  · obtain ⟨a, zs, rfl, _⟩ := h
    rfl
  · obtain ⟨a, zs, rfl, hz, ha, k⟩ := h
    obtain ⟨l1, l3⟩ := menu_len zs hz
    have lz : (zs.map V.int).length = zs.length := List.length_map ..
    rcases ha with ha | ha
    · refine ⟨_, (pss_cons (ps_if (PW.pt (pw_or (pt_not (pt_val (pd_pos d_is_list hG hr (by decide) (by rfl) (pa_cons (pv 0) pa_nil)))) (pw_or1 (pt_not (pt_chain op_le op_le pe_int (pe_callB (show CallR _ _ (rLen K) from c_len) (by rfl) Z.len_ (by decide +kernel) (pa_cons (pv 0) pa_nil)) (pe_gc (by rfl) Z.MOST_NAMES)))))) (pss_one (ps_ret pe_bl)) pss_nil)
  (pss_cons (ps_if (pt_not (pt_val (pe_callB (cr_all rfl) (by rfl) Z.all_ (by decide +kernel) (pa_cons (pe_lc (own := [("size", 2)]) (tt := tYes) rfl sc_is_sizes.nd (pi_list (pv 0)) (blkOk_by (N := ["value", "stores", "size"]) (sc := defScope s_is_sizes) (by decide +kernel)) (fun _ _ _ _ _ => (pg_name (i := 2) sc_is_sizes.nd rfl (by first | exact Or.inl rfl | exact Or.inr rfl))) (fun _ _ _ _ _ => pts_nil) (fun _ _ _ _ _ => (pd_pos d_is_from hG hr (by decide) (by rfl) (pa_cons (pv 2) (pa_cons pe_int (pa_cons (pe_gc (by rfl) Z.MOST_STORES) pa_nil)))))) pa_nil)))) (pss_one (ps_ret pe_bl)) pss_nil)
  (pss_cons (ps_set (i := 1) sc_is_sizes.nd rfl (by first | exact Or.inl rfl | exact Or.inr rfl) pe_int)
  (pss_cons (ps_for PassesOwn.never rfl (pi_list (pv 0)) (pg_name (i := 2) sc_is_sizes.nd rfl (by first | exact Or.inl rfl | exact Or.inr rfl))
  (pss_one (ps_set (i := 1) sc_is_sizes.nd rfl (by first | exact Or.inl rfl | exact Or.inr rfl) (pe_op op_mul (pv 1) (pv 2)))))
  (pss_one (ps_ret (pe_cmpR op_le (pv 1) (pe_gc (by rfl) Z.MOST_STORES) (nomark _)))))))), ?_⟩
      walk_at "r"
      refine ⟨a, _, rfl, .inl ha, fun H1 s1 => ?_⟩
      walk_at "r"
      refine r_lenL (SqL.of (s1 _ _ ha)) ?_
      walk_at "r"
      rw [lz, decide_eq_true (show (1 : Int) ≤ (zs.length : Nat) by omega)]
      walk_at "r"
      rw [decide_eq_true (show ((zs.length : Nat) : Int) ≤ 3 by omega)]
      walk_at "r"
      refine ⟨_, rfl, a, rfl, ⟨_, SqL.of (s1 _ _ ha)⟩, fun D hD => ?_⟩
      have keep : ∀ {H2 : Hp}, (Same H1 H2 ∧ ∃ i, H2 D = some (.lst (List.replicate i (V.bl true)))) → H2 a = some (.lst (zs.map V.int)) := fun h => h.1 _ _ (s1 _ _ ha)
      refine it_list (xs := zs.map V.int) (fun i H2 => Same H1 H2 ∧ H2 D = some (.lst (List.replicate i (V.bl true)))) ⟨Same.upd_new hD, upd_same⟩ (fun i H2 _ p => SqL.of (p.1 _ _ (s1 _ _ ha))) (fun i x H2 hx p => ?_) (fun H2 p => ?_)
      · obtain ⟨y, hy, rfl⟩ := map_get hx
        obtain ⟨y1, y2⟩ := menu_mem zs hz y (List.mem_of_getElem? hy)
        refine r_gname ⟨rfl, ?_⟩
        walk_at "r"
        refine ⟨y, 2, 8, rfl, y1, y2, ?_⟩
        have il : i < zs.length := (List.getElem?_eq_some_iff.mp hy).1
        refine ⟨_, p.2, by rw [List.length_replicate, sizeLine_eq]; omega, fun b o e => ?_, by rw [upd_same, List.replicate_succ']⟩
        rw [upd_ne (ne_of_none e hD)]
        exact p.1 _ _ e
      · rw [lz] at p
        refine ⟨D, List.replicate zs.length true, rfl, SqL.of (by rw [map_rep]; exact p.2), ?_⟩
        rw [all_rep]
        walk_at "r"
        have ha2 : H2 a = some (.lst (zs.map V.int)) := p.1 _ _ (s1 _ _ ha)
        refine ⟨_, rfl, a, rfl, ⟨_, SqL.of ha2⟩, for_list (K := K) (a := a) (xs := zs.map V.int) (fun i τ G => G = H2 ∧ ∃ v : Option V, τ = [some (.ref a), some (.int (prod (zs.take i))), v]) ⟨rfl, none, rfl⟩ (fun i τ G _ q => by rw [q.1]; exact SqL.of ha2) ?_ ?_⟩
        · rintro i x τ G hx ⟨rfl, v, rfl⟩
          obtain ⟨y, hy, rfl⟩ := map_get hx
          have il : i < zs.length := (List.getElem?_eq_some_iff.mp hy).1
          walk_at "r"
          refine r_i (.inl (menu_part zs hz i (by omega))) ?_
          walk_at "r"
          exact ⟨rfl, _, by rw [prod_take hy]; rfl⟩
        · rintro τ G ⟨rfl, v, rfl⟩
          walk_at "r"
          rw [lz, List.take_length, decide_eq_true (menu_prod zs hz)]
          exact k _ (s1.trans p.1)
    · refine ⟨_, (pss_cons (ps_if (PW.pt (pw_or (pt_not (pt_val (pd_pos d_is_list hG hr (by decide) (by rfl) (pa_cons (pv 0) pa_nil)))) (pw_or1 (pt_not (pt_chain op_le op_le pe_int (pe_callB (show CallR _ _ (rLen K) from c_len) (by rfl) Z.len_ (by decide +kernel) (pa_cons (pv 0) pa_nil)) (pe_gc (by rfl) Z.MOST_NAMES)))))) (pss_one (ps_ret pe_bl)) pss_nil)
  (pss_cons (ps_if (pt_not (pt_val (pe_callB (cr_all rfl) (by rfl) Z.all_ (by decide +kernel) (pa_cons (pe_lc (own := [("size", 2)]) (tt := tYes) rfl sc_is_sizes.nd (pi_tup (pv 0)) (blkOk_by (N := ["value", "stores", "size"]) (sc := defScope s_is_sizes) (by decide +kernel)) (fun _ _ _ _ _ => (pg_name (i := 2) sc_is_sizes.nd rfl (by first | exact Or.inl rfl | exact Or.inr rfl))) (fun _ _ _ _ _ => pts_nil) (fun _ _ _ _ _ => (pd_pos d_is_from hG hr (by decide) (by rfl) (pa_cons (pv 2) (pa_cons pe_int (pa_cons (pe_gc (by rfl) Z.MOST_STORES) pa_nil)))))) pa_nil)))) (pss_one (ps_ret pe_bl)) pss_nil)
  (pss_cons (ps_set (i := 1) sc_is_sizes.nd rfl (by first | exact Or.inl rfl | exact Or.inr rfl) pe_int)
  (pss_cons (ps_for PassesOwn.never rfl (pi_tup (pv 0)) (pg_name (i := 2) sc_is_sizes.nd rfl (by first | exact Or.inl rfl | exact Or.inr rfl))
  (pss_one (ps_set (i := 1) sc_is_sizes.nd rfl (by first | exact Or.inl rfl | exact Or.inr rfl) (pe_op op_mul (pv 1) (pv 2)))))
  (pss_one (ps_ret (pe_cmpR op_le (pv 1) (pe_gc (by rfl) Z.MOST_STORES) (nomark _)))))))), ?_⟩
      walk_at "r"
      refine ⟨a, _, rfl, .inr ha, fun H1 s1 => ?_⟩
      walk_at "r"
      refine r_lenT (SqT.of (s1 _ _ ha)) ?_
      walk_at "r"
      rw [lz, decide_eq_true (show (1 : Int) ≤ (zs.length : Nat) by omega)]
      walk_at "r"
      rw [decide_eq_true (show ((zs.length : Nat) : Int) ≤ 3 by omega)]
      walk_at "r"
      refine ⟨_, rfl, a, rfl, ⟨_, SqT.of (s1 _ _ ha)⟩, fun D hD => ?_⟩
      refine it_tup (xs := zs.map V.int) (fun i H2 => Same H1 H2 ∧ H2 D = some (.lst (List.replicate i (V.bl true)))) ⟨Same.upd_new hD, upd_same⟩ (fun i H2 _ p => SqT.of (p.1 _ _ (s1 _ _ ha))) (fun i x H2 hx p => ?_) (fun H2 p => ?_)
      · obtain ⟨y, hy, rfl⟩ := map_get hx
        obtain ⟨y1, y2⟩ := menu_mem zs hz y (List.mem_of_getElem? hy)
        refine r_gname ⟨rfl, ?_⟩
        walk_at "r"
        refine ⟨y, 2, 8, rfl, y1, y2, ?_⟩
        have il : i < zs.length := (List.getElem?_eq_some_iff.mp hy).1
        refine ⟨_, p.2, by rw [List.length_replicate, sizeLine_eq]; omega, fun b o e => ?_, by rw [upd_same, List.replicate_succ']⟩
        rw [upd_ne (ne_of_none e hD)]
        exact p.1 _ _ e
      · rw [lz] at p
        refine ⟨D, List.replicate zs.length true, rfl, SqL.of (by rw [map_rep]; exact p.2), ?_⟩
        rw [all_rep]
        walk_at "r"
        have ha2 : H2 a = some (.tup (zs.map V.int)) := p.1 _ _ (s1 _ _ ha)
        refine ⟨_, rfl, a, rfl, ⟨_, SqT.of ha2⟩, for_tup (K := K) (a := a) (xs := zs.map V.int) (fun i τ G => G = H2 ∧ ∃ v : Option V, τ = [some (.ref a), some (.int (prod (zs.take i))), v]) ⟨rfl, none, rfl⟩ (fun i τ G _ q => by rw [q.1]; exact SqT.of ha2) ?_ ?_⟩
        · rintro i x τ G hx ⟨rfl, v, rfl⟩
          obtain ⟨y, hy, rfl⟩ := map_get hx
          have il : i < zs.length := (List.getElem?_eq_some_iff.mp hy).1
          walk_at "r"
          refine r_i (.inl (menu_part zs hz i (by omega))) ?_
          walk_at "r"
          exact ⟨rfl, _, by rw [prod_take hy]; rfl⟩
        · rintro τ G ⟨rfl, v, rfl⟩
          walk_at "r"
          rw [lz, List.take_length, decide_eq_true (menu_prod zs hz)]
          exact k _ (s1.trans p.1)
end
end Eld
set_option Elab.async false
set_option maxRecDepth 100000
set_option maxHeartbeats 4000000
set_option linter.all false
namespace Eld
open PySem L2
local macro_rules | `(tactic| walk_at "r1") => `(tactic| with_reducible first
  | refine r_seq ?_ | refine r_asgN ?_ | refine r_asg ?_ | refine r_gname ?_ | refine r_gsub ?_ | refine r_var rfl ?_ | refine r_c ?_ | refine r_op ?_ | refine r_un ?_ | refine r_u ?_ | refine r_i0 ?_ | refine r_cb ?_ | refine r_cons ?_ | refine r_nil ?_ | refine r_cl ?_ | refine r_fn rfl rfl ?_ | refine r_mt ?_
  | refine r_test ?_ | refine r_tb ?_ | refine r_bl ?_ | refine r_and ?_ | refine r_or ?_ | refine r_not ?_ | refine r_andV ?_ | refine r_orV ?_ | refine r_notV ?_ | refine r_ifX ?_ | refine r_ifs ?_ | refine r_chain ?_ | refine r_ret ?_ | refine r_next ?_ | refine r_drop ?_ | refine iteT ?_ | refine iteF ?_ | refine iteNT ?_ | refine iteNF ?_
  | refine r_int1 ?_ | refine r_boolB ?_ | refine r_eqI ?_ | refine r_neI ?_ | refine r_eqB ?_ | refine r_neB ?_ | refine r_eqS ?_ | refine r_neS ?_ | refine r_abs ?_ | refine r_max2 ?_ | refine r_min2 ?_ | refine r_yes ?_ | refine r_tup ?_ | refine r_sfld ?_ | refine r_m0 ?_ | refine r_m1 ?_ | refine r_lst ?_ | refine r_rng1 ?_ | refine r_rng2 ?_ | refine r_ixL (SqL.of (by assumption)) rfl ?_)
local macro_rules | `(tactic| walk_at "r") => `(tactic| repeat (first | walk_at "r1" | ((with_reducible refine r_var ?hv ?_); (case hv => rfl))))

/-! ## a space -/
def spF (tz q : Addr) (n : Int) : List (Str × V) := [("sizes", .ref tz), ("_stores", .ref q), ("never", .int n)]
theorem ne1 : ¬ (("sizes" : Str) = "_stores") := by decide +kernel
theorem ne2 : ¬ (("sizes" : Str) = "never") := by decide +kernel
theorem ne3 : ¬ (("_stores" : Str) = "never") := by decide +kernel
theorem spF_sizes (tz q : Addr) (n : Int) : (spF tz q n).lookup ("sizes" : Str) = some (.ref tz) := by unfold spF; rw [look_cons, if_pos rfl]
theorem spF_stores (tz q : Addr) (n : Int) : (spF tz q n).lookup ("_stores" : Str) = some (.ref q) := by unfold spF; rw [look_cons, if_neg (Ne.symm ne1), look_cons, if_pos rfl]
theorem spF_never (tz q : Addr) (n : Int) : (spF tz q n).lookup ("never" : Str) = some (.int n) := by unfold spF; rw [look_cons, if_neg (Ne.symm ne2), look_cons, if_neg (Ne.symm ne3), look_cons, if_pos rfl]
theorem spF_no (tz q : Addr) (n : Int) {m : Str} (h1 : ¬ m = "sizes") (h2 : ¬ m = "_stores") (h3 : ¬ m = "never") : (spF tz q n).lookup m = none := by unfold spF; rw [look_cons, if_neg h1, look_cons, if_neg h2, look_cons, if_neg h3]; rfl
theorem put1 (tz : Addr) : putF "sizes" (V.ref tz) [] = ([(("sizes" : Str), V.ref tz)] : List (Str × V)) := rfl
theorem put2 (tz q : Addr) : putF "_stores" (V.ref q) [(("sizes" : Str), V.ref tz)] = ([(("sizes" : Str), V.ref tz), (("_stores" : Str), V.ref q)] : List (Str × V)) := by
  show (if ("sizes" : Str) = "_stores" then [(("sizes" : Str), V.ref q)] else (("sizes" : Str), V.ref tz) :: putF "_stores" (V.ref q) []) = ([(("sizes" : Str), V.ref tz), (("_stores" : Str), V.ref q)] : List (Str × V))
  rw [if_neg ne1]
  rfl
theorem put3 (tz q : Addr) (n : Int) : putF "never" (V.int n) [(("sizes" : Str), V.ref tz), ("_stores", V.ref q)] = spF tz q n := by
  show (if ("sizes" : Str) = "never" then [(("sizes" : Str), V.int n), (("_stores" : Str), V.ref q)] else (("sizes" : Str), V.ref tz) :: (if ("_stores" : Str) = "never" then [(("_stores" : Str), V.int n)] else (("_stores" : Str), V.ref q) :: putF "never" (V.int n) [])) = spF tz q n
  rw [if_neg ne2, if_neg ne3]
  rfl
theorem BareT.to {H H' : Hp} {a : Addr} {ys : List V} (h : BareT H a ys) (f : ∀ o, H a = some o → H' a = some o) : BareT H' a ys := by
  obtain ⟨o, e, d⟩ := h
  exact ⟨o, f _ e, d⟩
theorem BareT.same {H H' : Hp} {a : Addr} {ys : List V} (h : BareT H a ys) (s : Same H H') : BareT H' a ys := h.to fun o e => s _ _ e
theorem BareT.ne {H : Hp} {a b : Addr} {ys : List V} {o : HO} (h : BareT H a ys) (e : H b = some o) (d : ∀ ob u, o ≠ .frz ob u) : a ≠ b := by
  obtain ⟨ob, e', _⟩ := h
  exact ne_of e' e fun z => d _ _ z.symm
/-- a Space with the sizes zs stands at p -/
def SpaceAt (C : Addr) (H : Hp) (p : Addr) (zs : List Int) : Prop := ∃ (dx tz q : Addr) (ts : List Addr), H p = some (.ins C dx (spF tz q ((allRows zs).length : Nat))) ∧ H tz = some (.tup (zs.map V.int)) ∧ BareT H q (ts.map V.ref) ∧ RowsT H ts (allRows zs)
theorem SpaceAt.same {C : Addr} {H H' : Hp} {p : Addr} {zs : List Int} (h : SpaceAt C H p zs) (s : Same H H') : SpaceAt C H' p zs := by
  obtain ⟨dx, tz, q, ts, h1, h2, h3, h4⟩ := h
  exact ⟨dx, tz, q, ts, s _ _ h1, s _ _ h2, h3.same s, h4.same s⟩
/-- what the top has written of the class -/
structure Sc (K : PySem.W.Frag) (mg : Str → Option Value) (C : Addr) : Prop where
  cl : Cls K C
  nS : NoAttr K C "sizes"
  nT : NoAttr K C "_stores"
  nN : NoAttr K C "never"
  cSpace : mg "Space" = some (.ref C)
  ha : PySem.W.findIn K (.ref C) "__class__" = some (some (.builtin "object.__class__"))
  hn : PySem.W.specialIn K (.builtin "object.__class__") "__get__" = some (some (.builtin "getset_descriptor.__get__"))
  ht : PySem.W.takesIn K (.builtin "object.__class__") = some true
  hm : PySem.W.mroIn K C (.type "object") = some true
  kC : PySem.W.kitOne K (.ref C) (.ref C) = some true
  kN : PySem.W.kitOne K (.type "NoneType") (.ref C) = some false
  kL : PySem.W.kitOne K (.type "list") (.ref C) = some false
  kT : PySem.W.kitOne K (.type "tuple") (.ref C) = some false
  kS : PySem.W.kitOne K (.type "str") (.ref C) = some false
  kI : PySem.W.kitOne K (.type "int") (.ref C) = some false
  kB : PySem.W.kitOne K (.type "bool") (.ref C) = some false
theorem Sc.ty {K : PySem.W.Frag} {mg : Str → Option Value} {C dx : Addr} {H : Hp} {p : Addr} {fs : List (Str × V)} (S : Sc K mg C) (e : H p = some (.ins C dx fs)) : TyX K H (.ref p) (.ref C) := .base (.ins e S.cl S.ha S.hn S.ht S.hm)
theorem r_tupleAny {K : PySem.W.Frag} {H : Hp} {Q : VK} {a : Addr} {ys : List V} (ha : H a = some (.lst ys) ∨ H a = some (.tup ys)) (h : ∀ l H', Same H H' → H' l = some (.tup ys) → Q (.ref l) H') : rTupleOf K [.ref a] H Q := by
  rcases ha with e | e
  · exact r_tupleL (SqL.of e) fun l hl => h l _ (Same.upd_new hl) upd_same
  · exact r_tupleT (SqT.of e) (h a H (Same.refl H) e)
theorem r_lenAny {K : PySem.W.Frag} {H : Hp} {Q : VK} {a : Addr} {ys : List V} (ha : H a = some (.lst ys) ∨ H a = some (.tup ys)) (h : Q (.int (ys.length : Nat)) H) : rLen K [.ref a] H Q := by
  rcases ha with e | e
  · exact r_lenL (SqL.of e) h
  · exact r_lenT (SqT.of e) h
theorem same_any {H H' : Hp} {a : Addr} {ys : List V} (s : Same H H') (ha : H a = some (.lst ys) ∨ H a = some (.tup ys)) : H' a = some (.lst ys) ∨ H' a = some (.tup ys) := ha.imp (s _ _) (s _ _)
/-- o.f of an instance that is told -/
theorem r_fldI {K : PySem.W.Frag} {σ : L2.St} {H : Hp} {Q : VK} {ta : TE} {f : Str} (h : ta σ H fun x H1 => ∃ a C dx fs v, x = .ref a ∧ H1 a = some (.ins C dx fs) ∧ Cls K C ∧ NoAttr K C f ∧ fs.lookup f = some v ∧ Q v H1) : tFld K ta f σ H Q := h
def numStr (i : Int) : Str := (toString i : String)
def lineOf (zs : List Int) : Str := Txt.join (" " : Str) (zs.map numStr)
/-! ## the promises -/
def spInit (C : Addr) : Sp := fun vs H Q _ => ∃ p a dx zs, vs = [.ref p, .ref a] ∧ H p = some (.ins C dx []) ∧ zs ∈ menu ∧ (H a = some (.lst (zs.map V.int)) ∨ H a = some (.tup (zs.map V.int))) ∧ ∀ H', (∀ b o, b ≠ p → H b = some o → H' b = some o) → SpaceAt C H' p zs → Q .non H'
def spLen (C : Addr) : Sp := fun vs H Q _ => ∃ p zs, vs = [.ref p] ∧ SpaceAt C H p zs ∧ Q (.int ((allRows zs).length : Nat)) H
def spAt (C : Addr) : Sp := fun vs H Q _ => ∃ (p : Addr) (zs : List Int) (i : Nat) (r : List Int), vs = [.ref p, .int (i : Nat)] ∧ SpaceAt C H p zs ∧ (allRows zs)[i]? = some r ∧ ∀ t, H t = some (.tup (r.map V.int)) → Q (.ref t) H
def spLine (C : Addr) : Sp := fun vs H Q _ => ∃ p zs, vs = [.ref p] ∧ zs ∈ menu ∧ SpaceAt C H p zs ∧ ∀ H', Same H H' → Q (.str (lineOf zs)) H'
def spEqS (C : Addr) (K : PySem.W.Frag) : Sp := fun vs H Q _ => ∃ p zs, SpaceAt C H p zs ∧ zs ∈ menu ∧ ((∃ p' zs', vs = [.ref p, .ref p'] ∧ zs' ∈ menu ∧ SpaceAt C H p' zs' ∧ Q (.bl (decide (zs = zs'))) H) ∨ (∃ y t, vs = [.ref p, y] ∧ TyX K H y t ∧ PySem.W.kitOne K t (.ref C) = some false ∧ Q (.bl false) H))
theorem ints_dp {K : PySem.W.Frag} {H : Hp} : ∀ zs : List Int, DpAll K H (zs.map V.int) (zs.map PyData.int)
  | [] => .nil
  | z :: zs => .cons (.int z) (ints_dp zs)
def tupD (r : List Int) : PyData := .tuple (r.map PyData.int)
theorem tup_dp {K : PySem.W.Frag} {H : Hp} {t : Addr} {r : List Int} (h : H t = some (.tup (r.map V.int))) : Dp K H (.ref t) (tupD r) := .tup (SqT.of h) (ints_dp r)
theorem lst_dp {K : PySem.W.Frag} {H : Hp} {t : Addr} {r : List Int} (h : H t = some (.lst (r.map V.int))) : Dp K H (.ref t) (.list (r.map PyData.int)) := .lst (SqL.of h) (ints_dp r)
theorem ints_eqv : ∀ a b : List Int, PyData.eqvAll (a.map PyData.int) (b.map PyData.int) = decide (a = b)
  | [], [] => by simp [PyData.eqvAll]
  | [], b :: bs => by simp [PyData.eqvAll]
  | a :: as, [] => by simp [PyData.eqvAll]
  | a :: as, b :: bs => by
    have ih := ints_eqv as bs
    simp only [List.map_cons, PyData.eqvAll, PyData.eqv, ih]
    by_cases h : a = b
    · subst h
      simp
    · simp [h]
theorem tup_eqv (a b : List Int) : PyData.eqv (tupD a) (tupD b) = decide (a = b) := by
  simp only [tupD, PyData.eqv]
  exact ints_eqv a b
theorem lst_eqv (a b : List Int) : PyData.eqv (.list (a.map PyData.int)) (.list (b.map PyData.int)) = decide (a = b) := by
  simp only [PyData.eqv]
  exact ints_eqv a b
theorem ints_lay : ∀ a : List Int, PyData.canLayAll0 (a.map PyData.int) = true
  | [] => by simp [PyData.canLayAll0]
  | a :: as => by simp [PyData.canLayAll0, PyData.canLay0, ints_lay as]
theorem ints_depth : ∀ a : List Int, PyData.depthAll (a.map PyData.int) = 0
  | [] => by simp [PyData.depthAll]
  | a :: as => by simp [PyData.depthAll, PyData.depth, ints_depth as]
theorem tup_shaped (a : List Int) : SeqAt.shaped (tupD a) = true := by
  simp [SeqAt.shaped, tupD, PyData.canLay0, PyData.depth, ints_lay, ints_depth]
theorem lst_shaped (a : List Int) : SeqAt.shaped (.list (a.map PyData.int)) = true := by
  simp [SeqAt.shaped, PyData.canLay0, PyData.depth, ints_lay, ints_depth]
theorem num_small : ∀ z : Int, 2 ≤ z → z ≤ 8 → z.natAbs.log2 < 1920 := by
  intro z h1 h2
  have : z.natAbs ≤ 8 := by omega
  calc z.natAbs.log2 ≤ z.natAbs := by
        rcases Nat.eq_zero_or_pos z.natAbs with h | h
        · rw [h]; decide
        · exact Nat.le_of_lt (Nat.lt_of_lt_of_le (Nat.log2_lt (Nat.ne_of_gt h) |>.mpr (Nat.lt_two_pow_self)) (Nat.le_refl _))
    _ < 1920 := by omega
theorem menu_line : ∀ zs ∈ menu, ((zs.map numStr).map (·.length)).sum + (zs.map numStr).length * (" " : Str).length ≤ 16777216 := by decide +kernel
section
variable {P : Program} {w : World} {K : PySem.W.Frag} {mg : Str → Option Value} {base : Heap} {C : Addr}
theorem ok_init {f : Addr} {fd : FuncData} (F : Fun K "__init__" "Space.__init__" s_Space___init__ f fd) (Z : Zs mg) (S : Sc K mg C) (d_is_sizes : DefD P w K mg base 3 "is_sizes" 1 [] byPlace spIsSizes) (d_all_values : DefD P w K mg base 1 "all_values" 1 [] byPlace spAllValues) :
    FnG P w K mg base CX0 4 f fd ["self", "sizes"] (spInit C) := by
  refine okG F sc_Space___init__ (fun vs H Q E h => ?_) (fun cdv B up z H vs Q E hG hr h => ?_)
  · obtain ⟨p, a, dx, zs, rfl, _⟩ := h
    rfl
  · obtain ⟨p, a, dx, zs, rfl, hp, hz, ha, k⟩ := h
    refine ⟨_, (pss_cons (ps_if (pt_not (pt_val (pd_pos d_is_sizes hG hr (by decide) (by rfl) (pa_cons (pv 1) pa_nil)))) (pss_one ps_never) pss_nil)
  (pss_cons (ps_fld (pv 0) (pe_callTy (show CallR _ _ (rTupleOf K) from c_tuple) (by rfl) Z.tuple_ (by decide +kernel) (pa_cons (pv 1) pa_nil)) rfl)
  (pss_cons (ps_fld (pv 0) (pd_pos d_all_values hG hr (by decide) (by rfl) (pa_cons (pe_fld (pv 0) rfl) pa_nil)) rfl)
  (pss_one (ps_fld (pv 0) (pe_callB (show CallR _ _ (rLen K) from c_len) (by rfl) Z.len_ (by decide +kernel) (pa_cons (pe_fld (pv 0) rfl) pa_nil)) rfl))))), ?_⟩
    walk_at "r"
    refine ⟨a, zs, rfl, hz, ha, fun H1 s1 => ?_⟩
    walk_at "r"
    refine r_tupleAny (same_any s1 ha) fun tz H2 s2 h2 => ?_
    have p2 : H2 p = some (.ins C dx []) := s2 _ _ (s1 _ _ hp)
    refine ⟨_, rfl, p, C, dx, [], rfl, p2, S.cl, S.nS, by show 0 < 1000; decide, ?_⟩
    rw [put1]
    have np : tz ≠ p := ne_of h2 p2 (by intro e; cases e)
    have h3 : (upd H2 p (.ins C dx [("sizes", V.ref tz)])) tz = some (.tup (zs.map V.int)) := by rw [upd_ne np]; exact h2
    have p3 : (upd H2 p (.ins C dx [("sizes", V.ref tz)])) p = some (.ins C dx [("sizes", V.ref tz)]) := upd_same
    generalize e3 : upd H2 p (.ins C dx [("sizes", V.ref tz)]) = H3 at h3 p3
    have s3 : ∀ b o, b ≠ p → H2 b = some o → H3 b = some o := fun b o nb e => by rw [← e3, upd_ne nb]; exact e
    walk_at "r"
    refine ⟨_, rfl, p, C, dx, _, _, rfl, p3, S.cl, S.nS, by rw [look_cons, if_pos rfl], ?_⟩
    walk_at "r"
    refine ⟨tz, zs, rfl, hz, h3, fun H4 q ts s4 q0 hq rt => ?_⟩
    refine ⟨_, rfl, p, C, dx, _, rfl, s4 _ _ p3, S.cl, S.nT, by show 1 < 1000; decide, ?_⟩
    rw [put2]
    have nq : q ≠ p := hq.ne (s4 _ _ p3) (by intro _ _ e; cases e)
    have p5 : (upd H4 p (.ins C dx [("sizes", V.ref tz), ("_stores", V.ref q)])) p = some (.ins C dx [("sizes", V.ref tz), ("_stores", V.ref q)]) := upd_same
    generalize e5 : upd H4 p (.ins C dx [("sizes", V.ref tz), ("_stores", V.ref q)]) = H5 at p5
    have s5 : ∀ b o, b ≠ p → H4 b = some o → H5 b = some o := fun b o nb e => by rw [← e5, upd_ne nb]; exact e
    walk_at "r"
    refine ⟨_, rfl, p, C, dx, _, _, rfl, p5, S.cl, S.nT, by rw [look_cons, if_neg (Ne.symm ne1), look_cons, if_pos rfl], ?_⟩
    walk_at "r"
    refine r_lenT (hq.to fun o e => s5 _ _ nq e).sq ?_
    refine ⟨_, rfl, p, C, dx, _, rfl, p5, S.cl, S.nN, by show 2 < 1000; decide, ?_⟩
    rw [put3, List.length_map, rt.1]
    refine k _ (fun b o nb e => ?_) ⟨dx, tz, q, ts, upd_same, ?_, ?_, rt.1, fun i t r a' b' => ?_⟩
    · rw [upd_ne nb]
      exact s5 _ _ nb (s4 _ _ (s3 _ _ nb (s2 _ _ (s1 _ _ e))))
    · rw [upd_ne np]
      exact s5 _ _ np (s4 _ _ h3)
    · exact hq.to fun o e => by
        rw [upd_ne nq]
        exact s5 _ _ nq e
    · have e1 := rt.2 i t r a' b'
      have nt : t ≠ p := ne_of e1 (s4 _ _ p3) (by intro e; cases e)
      rw [upd_ne nt]
      exact s5 _ _ nt e1
theorem ok_eq {f : Addr} {fd : FuncData} (F : Fun K "__eq__" "Space.__eq__" s_Space___eq__ f fd) (Z : Zs mg) (S : Sc K mg C) : FnG P w K mg base CX0 1 f fd ["self", "other"] (spEqS C K) := by
  refine okG F sc_Space___eq__ (fun vs H Q E h => ?_) (fun cdv B up z H vs Q E hG hr h => ?_)
  · obtain ⟨p, zs, _, _, ⟨_, _, rfl, _⟩ | ⟨_, _, rfl, _⟩⟩ := h <;> rfl
  · have hu : (B.deeper (PyProof.Rows.envOfC "Space.__eq__" (defScope s_Space___eq__) z.heap.objs.size f cdv)).units + 64 < cLine := hr.units
    obtain ⟨p, zs, ⟨dx, tz, q, ts, h1, h2, h3, rt⟩, hz, ⟨p', zs', rfl, hz', ⟨dx', tz', q', ts', h1', h2', h3', rt'⟩, k⟩ | ⟨y, t, rfl, ty, kt, k⟩⟩ := h
    · refine ⟨_, (pss_one (ps_ret (pe_and (pe_callB call_isi (by rfl) Z.isinstance_ (by decide +kernel) (pa_cons (pv 1) (pa_cons (pe_cls (by rfl) S.cSpace) pa_nil))) (pe_one (pe_cmpR (show OpR _ _ (rEqD K) from op_eqD hu) (pe_fld (pv 0) rfl) (pe_fld (pv 1) rfl) (nomark _)))))), ?_⟩
      walk_at "r"
      refine r_isiO (S.ty h1') S.kC ?_
      walk_at "r"
      refine ⟨_, rfl, p, C, dx, _, _, rfl, h1, S.cl, S.nS, spF_sizes _ _ _, ?_⟩
      refine ⟨_, rfl, p', C, dx', _, _, rfl, h1', S.cl, S.nS, spF_sizes _ _ _, ?_⟩
      refine ⟨tupD zs, tupD zs', tup_dp h2, tup_dp h2', tup_shaped _, tup_shaped _, ?_⟩
      rw [tup_eqv]
      exact k
    · refine ⟨_, (pss_one (ps_ret (pe_and (pe_callB call_isi (by rfl) Z.isinstance_ (by decide +kernel) (pa_cons (pv 1) (pa_cons (pe_cls (by rfl) S.cSpace) pa_nil))) (pe_one (pe_cmpR (show OpR _ _ (rEqD K) from op_eqD hu) (pe_fld (pv 0) rfl) (pe_fld (pv 1) rfl) (nomark _)))))), ?_⟩
      walk_at "r"
      refine r_isiO ty kt ?_
      walk_at "r"
      exact k
end
end Eld
set_option Elab.async false
set_option linter.all false
namespace Eld
/-! ## quotients in lowest terms -/
def gcdI (a b : Int) : Int := ((Nat.gcd a.natAbs b.natAbs : Nat) : Int)
def sgI (a b : Int) : Int := if b < 0 then -gcdI a b else gcdI a b
def lowT (a b : Int) : Int := a.fdiv (sgI a b)
def lowB (a b : Int) : Int := b.fdiv (sgI a b)
/-- a top and a bottom in lowest terms -/
structure Low (n d : Int) : Prop where
  pos : 0 < d
  cop : Nat.gcd n.natAbs d.natAbs = 1
theorem gcdI_pos {a b : Int} (h : b ≠ 0) : 0 < gcdI a b := by
  have : 0 < Nat.gcd a.natAbs b.natAbs := Nat.gcd_pos_of_pos_right _ (Int.natAbs_pos.mpr h)
  unfold gcdI
  omega
theorem gcdI_left (a b : Int) : gcdI a b ∣ a := Int.natAbs_dvd_natAbs.mp (show a.natAbs.gcd b.natAbs ∣ a.natAbs from Nat.gcd_dvd_left _ _)
theorem gcdI_right (a b : Int) : gcdI a b ∣ b := Int.natAbs_dvd_natAbs.mp (show a.natAbs.gcd b.natAbs ∣ b.natAbs from Nat.gcd_dvd_right _ _)
theorem sgI_ne {a b : Int} (h : b ≠ 0) : sgI a b ≠ 0 := by
  have := gcdI_pos (a := a) h
  unfold sgI
  split <;> omega
theorem sgI_left (a b : Int) : sgI a b ∣ a := by
  unfold sgI
  split
  · exact Int.neg_dvd.mpr (gcdI_left a b)
  · exact gcdI_left a b
theorem sgI_right (a b : Int) : sgI a b ∣ b := by
  unfold sgI
  split
  · exact Int.neg_dvd.mpr (gcdI_right a b)
  · exact gcdI_right a b
theorem lowT_mul (a b : Int) : lowT a b * sgI a b = a := by
  unfold lowT
  rw [Int.fdiv_eq_ediv_of_dvd (sgI_left a b)]
  exact Int.ediv_mul_cancel (sgI_left a b)
theorem lowB_mul (a b : Int) : lowB a b * sgI a b = b := by
  unfold lowB
  rw [Int.fdiv_eq_ediv_of_dvd (sgI_right a b)]
  exact Int.ediv_mul_cancel (sgI_right a b)
theorem sgI_abs (a b : Int) : (sgI a b).natAbs = Nat.gcd a.natAbs b.natAbs := by
  unfold sgI gcdI
  split
  · rw [Int.natAbs_neg]
    exact Int.natAbs_natCast _
  · exact Int.natAbs_natCast _
theorem low_low {a b : Int} (h : b ≠ 0) : Low (lowT a b) (lowB a b) := by
  have e1 := lowT_mul a b
  have e2 := lowB_mul a b
  have hs := sgI_ne (a := a) h
  have hg := gcdI_pos (a := a) h
  constructor
  · unfold sgI at e2 hs
    split at e2
    · rename_i hb
      rcases Int.lt_trichotomy 0 (lowB a b) with q | q | q
      · exact q
      · rw [← q] at e2; omega
      · have := Int.mul_pos_of_neg_of_neg q (show -gcdI a b < 0 by omega)
        omega
    · rename_i hb
      rcases Int.lt_trichotomy 0 (lowB a b) with q | q | q
      · exact q
      · rw [← q] at e2; omega
      · have := Int.mul_neg_of_neg_of_pos q hg
        omega
  · have f1 : (lowT a b).natAbs * Nat.gcd a.natAbs b.natAbs = a.natAbs := by rw [← sgI_abs, ← Int.natAbs_mul, e1]
    have f2 : (lowB a b).natAbs * Nat.gcd a.natAbs b.natAbs = b.natAbs := by rw [← sgI_abs, ← Int.natAbs_mul, e2]
    have gp : 0 < Nat.gcd a.natAbs b.natAbs := Nat.gcd_pos_of_pos_right _ (Int.natAbs_pos.mpr h)
    have key : Nat.gcd ((lowT a b).natAbs * Nat.gcd a.natAbs b.natAbs) ((lowB a b).natAbs * Nat.gcd a.natAbs b.natAbs) = Nat.gcd a.natAbs b.natAbs := by rw [f1, f2]
    rw [Nat.gcd_mul_right] at key
    exact Nat.eq_of_mul_eq_mul_right gp (by rw [key, Nat.one_mul])
/-- two in lowest terms that are one quotient -/
theorem Low.uniq {n d n' d' : Int} (h : Low n d) (h' : Low n' d') (e : n * d' = n' * d) : n = n' ∧ d = d' := by
  have p := h.pos
  have p' := h'.pos
  have en : n.natAbs * d'.natAbs = n'.natAbs * d.natAbs := by rw [← Int.natAbs_mul, ← Int.natAbs_mul, e]
  have c1 : Nat.Coprime d.natAbs n.natAbs := (Nat.gcd_comm _ _).trans h.cop
  have c2 : Nat.Coprime d'.natAbs n'.natAbs := (Nat.gcd_comm _ _).trans h'.cop
  have d1 : d.natAbs ∣ d'.natAbs := c1.dvd_of_dvd_mul_left (by rw [en]; exact Nat.dvd_mul_left _ _)
  have d2 : d'.natAbs ∣ d.natAbs := c2.dvd_of_dvd_mul_left (by rw [← en]; exact Nat.dvd_mul_left _ _)
  have ed : d.natAbs = d'.natAbs := Nat.dvd_antisymm d1 d2
  have ed' : d = d' := by omega
  refine ⟨?_, ed'⟩
  rw [ed'] at e
  exact Int.eq_of_mul_eq_mul_right (by omega) e
theorem low_eq {a b c d : Int} (hb : b ≠ 0) (hd : d ≠ 0) (e : a * d = c * b) : lowT a b = lowT c d ∧ lowB a b = lowB c d := by
  refine Low.uniq (low_low hb) (low_low hd) ?_
  have e1 := lowT_mul a b
  have e2 := lowB_mul a b
  have e3 := lowT_mul c d
  have e4 := lowB_mul c d
  have s1 := sgI_ne (a := a) hb
  have s2 := sgI_ne (a := c) hd
  have k : (lowT a b * lowB c d) * (sgI a b * sgI c d) = (lowT c d * lowB a b) * (sgI a b * sgI c d) := by
    calc (lowT a b * lowB c d) * (sgI a b * sgI c d) = (lowT a b * sgI a b) * (lowB c d * sgI c d) := by ac_rfl
      _ = a * d := by rw [e1, e4]
      _ = c * b := e
      _ = (lowT c d * sgI c d) * (lowB a b * sgI a b) := by rw [e3, e2]
      _ = (lowT c d * lowB a b) * (sgI a b * sgI c d) := by ac_rfl
  exact Int.eq_of_mul_eq_mul_right (Int.mul_ne_zero s1 s2) k
theorem low_id {n d : Int} (h : Low n d) : lowT n d = n ∧ lowB n d = d := by
  have p := h.pos
  have hd : d ≠ 0 := by omega
  have s : sgI n d = 1 := by
    unfold sgI gcdI
    rw [h.cop, if_neg (by omega)]
    rfl
  have e1 := lowT_mul n d
  have e2 := lowB_mul n d
  rw [s, Int.mul_one] at e1 e2
  exact ⟨e1, e2⟩
theorem low_neg {a b : Int} (h : b ≠ 0) : lowT (-a) b = -lowT a b ∧ lowB (-a) b = lowB a b := by
  have l1 := low_low (a := -a) h
  have l2 := low_low (a := a) h
  have l3 : Low (-lowT a b) (lowB a b) := ⟨l2.pos, by rw [Int.natAbs_neg]; exact l2.cop⟩
  refine l1.uniq l3 ?_
  have e1 := lowT_mul (-a) b
  have e2 := lowB_mul (-a) b
  have e3 := lowT_mul a b
  have e4 := lowB_mul a b
  have s1 := sgI_ne (a := -a) h
  have s2 := sgI_ne (a := a) h
  have k : (lowT (-a) b * lowB a b) * (sgI (-a) b * sgI a b) = (-lowT a b * lowB (-a) b) * (sgI (-a) b * sgI a b) := by
    calc (lowT (-a) b * lowB a b) * (sgI (-a) b * sgI a b) = (lowT (-a) b * sgI (-a) b) * (lowB a b * sgI a b) := by ac_rfl
      _ = -a * b := by rw [e1, e4]
      _ = -(lowT a b * sgI a b) * (lowB (-a) b * sgI (-a) b) := by rw [e3, e2]
      _ = (-lowT a b * sgI a b) * (lowB (-a) b * sgI (-a) b) := by rw [Int.neg_mul (lowT a b) (sgI a b)]
      _ = (-lowT a b * lowB (-a) b) * (sgI (-a) b * sgI a b) := by ac_rfl
  exact Int.eq_of_mul_eq_mul_right (Int.mul_ne_zero s1 s2) k
theorem lowT_le {a b : Int} (h : b ≠ 0) : (lowT a b).natAbs ≤ a.natAbs := by
  have e1 : (lowT a b).natAbs * (sgI a b).natAbs = a.natAbs := by rw [← Int.natAbs_mul, lowT_mul]
  have : 0 < (sgI a b).natAbs := Int.natAbs_pos.mpr (sgI_ne h)
  rw [← e1]
  exact Nat.le_mul_of_pos_right _ this
theorem lowB_le {a b : Int} (h : b ≠ 0) : (lowB a b).natAbs ≤ b.natAbs := by
  have e1 : (lowB a b).natAbs * (sgI a b).natAbs = b.natAbs := by rw [← Int.natAbs_mul, lowB_mul]
  have : 0 < (sgI a b).natAbs := Int.natAbs_pos.mpr (sgI_ne h)
  rw [← e1]
  exact Nat.le_mul_of_pos_right _ this
theorem low_int (a : Int) : Low a 1 := ⟨by decide, by show Nat.gcd a.natAbs 1 = 1; exact Nat.gcd_one_right _⟩
end Eld
set_option Elab.async false
set_option maxRecDepth 100000
set_option maxHeartbeats 4000000
set_option linter.all false
namespace Eld
open PySem L2
local macro_rules | `(tactic| walk_at "r1") => `(tactic| with_reducible first
  | refine r_seq ?_ | refine r_asgN ?_ | refine r_asg ?_ | refine r_gname ?_ | refine r_gsub ?_ | refine r_var rfl ?_ | refine r_c ?_ | refine r_op ?_ | refine r_un ?_ | refine r_u ?_ | refine r_i0 ?_ | refine r_cb ?_ | refine r_cons ?_ | refine r_nil ?_ | refine r_cl ?_ | refine r_fn rfl rfl ?_ | refine r_mt ?_
  | refine r_test ?_ | refine r_tb ?_ | refine r_bl ?_ | refine r_and ?_ | refine r_or ?_ | refine r_not ?_ | refine r_andV ?_ | refine r_orV ?_ | refine r_notV ?_ | refine r_ifX ?_ | refine r_ifs ?_ | refine r_chain ?_ | refine r_ret ?_ | refine r_next ?_ | refine r_drop ?_ | refine iteT ?_ | refine iteF ?_ | refine iteNT ?_ | refine iteNF ?_
  | refine r_int1 ?_ | refine r_boolB ?_ | refine r_eqI ?_ | refine r_neI ?_ | refine r_eqB ?_ | refine r_neB ?_ | refine r_eqS ?_ | refine r_neS ?_ | refine r_abs ?_ | refine r_max2 ?_ | refine r_min2 ?_ | refine r_yes ?_ | refine r_tup ?_ | refine r_sfld ?_ | refine r_m0 ?_ | refine r_m1 ?_ | refine r_lst ?_ | refine r_rng1 ?_ | refine r_rng2 ?_ | refine r_ixL (SqL.of (by assumption)) rfl ?_)
local macro_rules | `(tactic| walk_at "r") => `(tactic| repeat (first | walk_at "r1" | ((with_reducible refine r_var ?hv ?_); (case hv => rfl))))

/-! ## a Ratio: two of one half -/
def rtF (n d : Int) : List (Str × V) := [("top", .int n), ("bottom", .int d)]
theorem ne_tb : ¬ (("top" : Str) = "bottom") := by decide +kernel
theorem rt_top (n d : Int) : (rtF n d).lookup ("top" : Str) = some (.int n) := by unfold rtF; rw [look_cons, if_pos rfl]
theorem rt_bot (n d : Int) : (rtF n d).lookup ("bottom" : Str) = some (.int d) := by unfold rtF; rw [look_cons, if_neg (Ne.symm ne_tb), look_cons, if_pos rfl]
theorem putT (n : Int) : putF "top" (V.int n) [] = ([(("top" : Str), V.int n)] : List (Str × V)) := rfl
theorem putB (n d : Int) : putF "bottom" (V.int d) [(("top" : Str), V.int n)] = rtF n d := by
  show (if ("top" : Str) = "bottom" then [(("top" : Str), V.int d)] else (("top" : Str), V.int n) :: putF "bottom" (V.int d) []) = rtF n d
  rw [if_neg ne_tb]
  rfl
def RatAt (C : Addr) (H : Hp) (p : Addr) (n d : Int) : Prop := ∃ dx, H p = some (.ins C dx (rtF n d))
theorem RatAt.same {C : Addr} {H H' : Hp} {p : Addr} {n d : Int} (h : RatAt C H p n d) (s : Same H H') : RatAt C H' p n d := by
  obtain ⟨dx, e⟩ := h
  exact ⟨dx, s _ _ e⟩
structure Rs (K : PySem.W.Frag) (mg : Str → Option Value) (C : Addr) : Prop where
  cl : Cls K C
  nT : NoAttr K C "top"
  nB : NoAttr K C "bottom"
  ha : PySem.W.findIn K (.ref C) "__class__" = some (some (.builtin "object.__class__"))
  hn : PySem.W.specialIn K (.builtin "object.__class__") "__get__" = some (some (.builtin "getset_descriptor.__get__"))
  ht : PySem.W.takesIn K (.builtin "object.__class__") = some true
  hm : PySem.W.mroIn K C (.type "object") = some true
  kC : PySem.W.kitOne K (.ref C) (.ref C) = some true
  cRatio : mg "Ratio" = some (.ref C)
  gcd_ : mg "gcd" = some (.builtin "math.gcd")
theorem Rs.ty {K : PySem.W.Frag} {mg : Str → Option Value} {C dx : Addr} {H : Hp} {p : Addr} {fs : List (Str × V)} (S : Rs K mg C) (e : H p = some (.ins C dx fs)) : TyX K H (.ref p) (.ref C) := .base (.ins e S.cl S.ha S.hn S.ht S.hm)
theorem r_fT {K : PySem.W.Frag} {mg : Str → Option Value} {C : Addr} {σ : L2.St} {H : Hp} {p : Addr} {n d : Int} {Q : VK} {i : Nat} (S : Rs K mg C) (h : RatAt C H p n d) (hv : σ[i]? = some (some (.ref p))) (q : Q (.int n) H) : tFld K (tVar i) "top" σ H Q := by
  obtain ⟨dx, e⟩ := h
  exact r_fldI (r_var hv ⟨p, C, dx, _, _, rfl, e, S.cl, S.nT, rt_top n d, q⟩)
theorem r_fB {K : PySem.W.Frag} {mg : Str → Option Value} {C : Addr} {σ : L2.St} {H : Hp} {p : Addr} {n d : Int} {Q : VK} {i : Nat} (S : Rs K mg C) (h : RatAt C H p n d) (hv : σ[i]? = some (some (.ref p))) (q : Q (.int d) H) : tFld K (tVar i) "bottom" σ H Q := by
  obtain ⟨dx, e⟩ := h
  exact r_fldI (r_var hv ⟨p, C, dx, _, _, rfl, e, S.cl, S.nB, rt_bot n d, q⟩)
def spRat (C : Addr) : Sp := fun vs H Q _ => ∃ p x y dx, vs = [.ref p, .int x, .int y] ∧ H p = some (.ins C dx []) ∧ ((x = 2 ∧ y = 4) ∨ (x = 1 ∧ y = 2)) ∧ ∀ G, (∀ c o, c ≠ p → H c = some o → G c = some o) → RatAt C G p 1 2 → Q .non G
def spIsNum (C : Addr) : Sp := fun vs H Q _ => ∃ p, vs = [.ref p] ∧ RatAt C H p 1 2 ∧ Q (.bl true) H
def spAsRat (C : Addr) : Sp := fun vs H Q _ => ∃ p, vs = [.ref p] ∧ RatAt C H p 1 2 ∧ Q (.ref p) H
def spEqR (C : Addr) : Sp := fun vs H Q _ => ∃ p q, vs = [.ref p, .ref q] ∧ RatAt C H p 1 2 ∧ RatAt C H q 1 2 ∧ Q (.bl true) H
/-- a def with defaults, as it stands behind the top -/
structure FunV (K : PySem.W.Frag) (x ql : Str) (st : Stmt) (f : Addr) (fd : FuncData) : Prop where
  ex : ∃ (oc : Value) (od : Option Addr) (dV kV doc pm : Value) (an : Option Addr) (cdv ct : Value) (osl : Array (Option Value)), fd = PySem.W.fnOf x ql (defArgs st) (defBody st) (defScope st) dV kV doc pm an cdv ct ∧ K.lookup f = some ⟨oc, od, .func fd, osl⟩ ∧ PySem.W.codeIn K cdv ql = true
section
variable {P : Program} {w : World} {K : PySem.W.Frag} {mg : Str → Option Value} {base : Heap} {C : Addr}
theorem okGV {x ql : Str} {st : Stmt} {f : Addr} {fd : FuncData} {N ps : List Str} {k : Nat} {sp : Sp} (F : FunV K x ql st f fd) (S : FnScope N ps (defScope st)) (ln : ∀ vs H Q E, sp vs H Q E → vs.length = ps.length)
    (bo : ∀ (cdv : Value) (B : Around) (up : List PySem.Env) (z : Shared) (H : Hp) (vs : List V) (Q : VK) (E : XK), (B.deeper (PyProof.Rows.envOfC ql (defScope st) z.heap.objs.size f cdv)).guards = some [] → Room k (B.deeper (PyProof.Rows.envOfC ql (defScope st) z.heap.objs.size f cdv)) → sp vs H Q E →
      ∃ t, PSs (cxOf CX0 P w K mg base N ql (defScope st) f cdv B up z H E).nox (defBody st) t ∧ t { nx := fun _ G => Q .non G, rt := Q } (start N vs) H) : FnG P w K mg base CX0 (k + 1) f fd ps sp := by
  obtain ⟨oc, od, dV, kV, doc, pm, an, cdv, ct, osl, rfl, lk, cd⟩ := F.ex
  refine fnG_of lk cd S ln ?_
  intro B up z H vs Q E gd rm hs
  obtain ⟨t, h, q⟩ := bo cdv B up z H vs Q E gd rm hs
  exact ⟨t, h.nox, q⟩
theorem ok_rat {f : Addr} {fd : FuncData} (F : FunV K "__init__" "Ratio.__init__" s_Ratio___init__ f fd) (R : Rs K mg C) (d_is_integer : DefD P w K mg base 1 "is_integer" 1 [] byPlace spIsInt) : FnG P w K mg base CX0 3 f fd ["self", "top", "bottom"] (spRat C) := by
  refine okGV F sc_Ratio___init__ (fun vs H Q E h => ?_) (fun cdv B up z H vs Q E hG hr h => ?_)
  · obtain ⟨p, x, y, dx, rfl, _⟩ := h
    rfl
  · obtain ⟨p, x, y, dx, rfl, hp, xy, k⟩ := h
    refine ⟨_, (pss_cons (ps_if (pt_not (pt_val (pd_pos d_is_integer hG hr (by decide) (by rfl) (pa_cons (pv 1) pa_nil)))) (pss_one ps_never) pss_nil)
  (pss_cons (ps_if (pt_not (pt_val (pd_pos d_is_integer hG hr (by decide) (by rfl) (pa_cons (pv 2) pa_nil)))) (pss_one ps_never) pss_nil)
  (pss_cons (ps_if (pt_cmpR op_eq (pv 2) pe_int (nomark _)) (pss_one ps_never) pss_nil)
  (pss_cons (ps_set (i := 3) sc_Ratio___init__.nd rfl (by first | exact Or.inl rfl | exact Or.inr rfl) (pe_callBfun cr_gcd (by rfl) R.gcd_ (pa_cons (pv 1) (pa_cons (pv 2) pa_nil))))
  (pss_cons (ps_if (pt_cmpR op_lt (pv 2) pe_int (nomark _)) (pss_one (ps_set (i := 3) sc_Ratio___init__.nd rfl (by first | exact Or.inl rfl | exact Or.inr rfl) (pe_un un_neg (pv 3)))) pss_nil)
  (pss_cons (ps_fld (pv 0) (pe_op op_fdiv (pv 1) (pv 3)) rfl)
  (pss_one (ps_fld (pv 0) (pe_op op_fdiv (pv 2) (pv 3)) rfl)))))))), ?_⟩
    rcases xy with ⟨rfl, rfl⟩ | ⟨rfl, rfl⟩
    · walk_at "r"
      refine ⟨2, rfl, ?_⟩
      walk_at "r"
      refine ⟨4, rfl, ?_⟩
      walk_at "r"
      refine ite2 (fun c => absurd c (by decide)) (fun _ => ?_)
      walk_at "r"
      refine ⟨2, 4, rfl, ?_⟩
      rw [show (((2 : Int).natAbs.gcd (4 : Int).natAbs : Nat) : Int) = 2 by decide]
      walk_at "r"
      refine ite2 (fun c => absurd c (by decide)) (fun _ => ?_)
      walk_at "r"
      refine r_i ⟨by decide, by decide⟩ ?_
      walk_at "r"
      refine ⟨p, C, dx, [], rfl, hp, R.cl, R.nT, by show 0 < 1000; decide, ?_⟩
      rw [putT]
      have p3 : (upd H p (.ins C dx [("top", V.int (Int.fdiv 2 2))])) p = some (.ins C dx [("top", V.int (Int.fdiv 2 2))]) := upd_same
      walk_at "r"
      refine r_i ⟨by decide, by decide⟩ ?_
      walk_at "r"
      refine ⟨p, C, dx, _, rfl, p3, R.cl, R.nB, by show 1 < 1000; decide, ?_⟩
      rw [putB]
      exact k _ (fun c o n e => by rw [upd_ne n, upd_ne n]; exact e) ⟨dx, upd_same⟩
    · walk_at "r"
      refine ⟨1, rfl, ?_⟩
      walk_at "r"
      refine ⟨2, rfl, ?_⟩
      walk_at "r"
      refine ite2 (fun c => absurd c (by decide)) (fun _ => ?_)
      walk_at "r"
      refine ⟨1, 2, rfl, ?_⟩
      rw [show (((1 : Int).natAbs.gcd (2 : Int).natAbs : Nat) : Int) = 1 by decide]
      walk_at "r"
      refine ite2 (fun c => absurd c (by decide)) (fun _ => ?_)
      walk_at "r"
      refine r_i ⟨by decide, by decide⟩ ?_
      walk_at "r"
      refine ⟨p, C, dx, [], rfl, hp, R.cl, R.nT, by show 0 < 1000; decide, ?_⟩
      rw [putT]
      have p3 : (upd H p (.ins C dx [("top", V.int (Int.fdiv 1 1))])) p = some (.ins C dx [("top", V.int (Int.fdiv 1 1))]) := upd_same
      walk_at "r"
      refine r_i ⟨by decide, by decide⟩ ?_
      walk_at "r"
      refine ⟨p, C, dx, _, rfl, p3, R.cl, R.nB, by show 1 < 1000; decide, ?_⟩
      rw [putB]
      exact k _ (fun c o n e => by rw [upd_ne n, upd_ne n]; exact e) ⟨dx, upd_same⟩
theorem ok_is_number {f : Addr} {fd : FuncData} (F : Fun K "is_number" "is_number" s_is_number f fd) (Z : Zs mg) (R : Rs K mg C) (d_is_integer : DefD P w K mg base 1 "is_integer" 1 [] byPlace spIsInt) : FnG P w K mg base CX0 2 f fd ["value"] (spIsNum C) := by
  refine okG F sc_is_number (fun vs H Q E h => ?_) (fun cdv B up z H vs Q E hG hr h => ?_)
  · obtain ⟨p, rfl, _⟩ := h
    rfl
  · obtain ⟨p, rfl, ⟨dx, hp⟩, k⟩ := h
    refine ⟨_, (pss_one (ps_ret (pe_or (pe_callB call_isi (by rfl) Z.isinstance_ (by decide +kernel) (pa_cons (pv 0) (pa_cons (pe_cls (by rfl) R.cRatio) pa_nil))) (pe_one (pd_pos d_is_integer hG hr (by decide) (by rfl) (pa_cons (pv 0) pa_nil)))))), ?_⟩
    walk_at "r"
    refine r_isiO (R.ty hp) R.kC ?_
    walk_at "r"
    exact k
theorem ok_as_ratio {f : Addr} {fd : FuncData} (F : Fun K "as_ratio" "as_ratio" s_as_ratio f fd) (Z : Zs mg) (R : Rs K mg C) : FnG P w K mg base CX0 2 f fd ["value"] (spAsRat C) := by
  refine okG F sc_as_ratio (fun vs H Q E h => ?_) (fun cdv B up z H vs Q E hG hr h => ?_)
  · obtain ⟨p, rfl, _⟩ := h
    rfl
  · obtain ⟨p, rfl, ⟨dx, hp⟩, k⟩ := h
    refine ⟨_, (pss_cons (ps_if (pt_val (pe_callB call_isi (by rfl) Z.isinstance_ (by decide +kernel) (pa_cons (pv 0) (pa_cons (pe_cls (by rfl) R.cRatio) pa_nil)))) (pss_one (ps_ret (pv 0))) pss_nil)
  (pss_one ps_never)), ?_⟩
    walk_at "r"
    refine r_isiO (R.ty hp) R.kC ?_
    walk_at "r"
    exact k
theorem ok_eqR {f : Addr} {fd : FuncData} (F : Fun K "__eq__" "Ratio.__eq__" s_Ratio___eq__ f fd) (R : Rs K mg C) (d_is_number : DefD P w K mg base 2 "is_number" 1 [] byPlace (spIsNum C)) (d_as_ratio : DefD P w K mg base 2 "as_ratio" 1 [] byPlace (spAsRat C)) : FnG P w K mg base CX0 4 f fd ["self", "other"] (spEqR C) := by
  refine okG F sc_Ratio___eq__ (fun vs H Q E h => ?_) (fun cdv B up z H vs Q E hG hr h => ?_)
  · obtain ⟨p, q, rfl, _⟩ := h
    rfl
  · obtain ⟨p, q, rfl, hp, hq, k⟩ := h
    refine ⟨_, (pss_cons (ps_if (pt_not (pt_val (pd_pos d_is_number hG hr (by decide) (by rfl) (pa_cons (pv 1) pa_nil)))) (pss_one (ps_ret pe_bl)) pss_nil)
  (pss_cons (ps_set (i := 2) sc_Ratio___eq__.nd rfl (by first | exact Or.inl rfl | exact Or.inr rfl) (pd_pos d_as_ratio hG hr (by decide) (by rfl) (pa_cons (pv 1) pa_nil)))
  (pss_one (ps_ret (pe_and (pe_cmpR op_eq (pe_fld (pv 0) rfl) (pe_fld (pv 2) rfl) (nomark _)) (pe_one (pe_cmpR op_eq (pe_fld (pv 0) rfl) (pe_fld (pv 2) rfl) (nomark _)))))))), ?_⟩
    walk_at "r"
    refine ⟨q, rfl, hq, ?_⟩
    walk_at "r"
    refine ⟨q, rfl, hq, ?_⟩
    walk_at "r"
    refine r_fT R hp rfl ?_
    walk_at "r"
    refine r_fT R hq rfl ?_
    walk_at "r"
    rw [decide_eq_true rfl]
    walk_at "r"
    refine r_fB R hp rfl ?_
    walk_at "r"
    refine r_fB R hq rfl ?_
    walk_at "r"
    rw [decide_eq_true rfl]
    exact k
end
end Eld
set_option Elab.async false
set_option maxRecDepth 100000
set_option maxHeartbeats 4000000
set_option linter.all false
namespace Eld
open PySem L2
local macro_rules | `(tactic| walk_at "r1") => `(tactic| with_reducible first
  | refine r_seq ?_ | refine r_asgN ?_ | refine r_asg ?_ | refine r_gname ?_ | refine r_gsub ?_ | refine r_var rfl ?_ | refine r_c ?_ | refine r_op ?_ | refine r_un ?_ | refine r_u ?_ | refine r_i0 ?_ | refine r_cb ?_ | refine r_cons ?_ | refine r_nil ?_ | refine r_cl ?_ | refine r_fn rfl rfl ?_ | refine r_mt ?_
  | refine r_test ?_ | refine r_tb ?_ | refine r_bl ?_ | refine r_and ?_ | refine r_or ?_ | refine r_not ?_ | refine r_andV ?_ | refine r_orV ?_ | refine r_notV ?_ | refine r_ifX ?_ | refine r_ifs ?_ | refine r_chain ?_ | refine r_ret ?_ | refine r_next ?_ | refine r_drop ?_ | refine iteT ?_ | refine iteF ?_ | refine iteNT ?_ | refine iteNF ?_
  | refine r_int1 ?_ | refine r_boolB ?_ | refine r_eqI ?_ | refine r_neI ?_ | refine r_eqB ?_ | refine r_neB ?_ | refine r_eqS ?_ | refine r_neS ?_ | refine r_abs ?_ | refine r_max2 ?_ | refine r_min2 ?_ | refine r_yes ?_ | refine r_tup ?_ | refine r_sfld ?_ | refine r_m0 ?_ | refine r_m1 ?_ | refine r_lst ?_ | refine r_rng1 ?_ | refine r_rng2 ?_ | refine r_ixL (SqL.of (by assumption)) rfl ?_)
local macro_rules | `(tactic| walk_at "r") => `(tactic| repeat (first | walk_at "r1" | ((with_reducible refine r_var ?hv ?_); (case hv => rfl))))

/-! ## what the law begins with, and how it ends -/
def spCell (K : PySem.W.Frag) : Sp := fun vs H Q _ => ∃ (a : Addr) (ns : List Int) (k : Nat), vs = [.ref a, .int (k : Nat)] ∧ k < 100 ∧ ns.length ≤ sizeLine ∧ SqL K H a (ns.map V.int) ∧ ∀ r H', Same H H' → Q (.int r) H'
def spBox : Sp := fun vs H Q _ => ∃ g, vs = [.int g] ∧ ∀ b H', Same H H' → H b = none → BoxAt H' b 0 → Q (.ref b) H'
section
variable (P : Program) (w : World) (K : PySem.W.Frag) (mg : Str → Option Value) (base : Heap)
/-- == and != of the class at C -/
def EqD (k : Nat) (C : Addr) (sp : Sp) : Prop := ∃ (f : Addr) (fd : FuncData) (ps : List Str), FnG P w K mg base CX0 k f fd ps sp ∧ Binds K fd ps [] ∧ PySem.W.findIn K (.ref C) "__eq__" = some (some (.ref f)) ∧ PySem.W.isFn K (.ref f) = true ∧
  PySem.W.findIn K (.ref C) "__ne__" = some (some (.builtin "object.__ne__")) ∧ PySem.W.subIn K (.ref C) (.type "object") = some true
end
section
variable {X : Cx} {C : Addr} {k j : Nat} {sp : Sp}
theorem op_eqS (d : EqD X.prog X.w X.K X.mg X.base k C sp) (hG : X.A.guards = some []) (hr : Room j X.A) (hk : k ≤ j) : OpR X (compareOp .Eq) (rOwnC X.K C sp E0) := by
  obtain ⟨f, fd, ps, F, b, hs, hf, _⟩ := d
  exact op_ownEq F b pass0 hs hf hG (hr.mono hk)
end
theorem first_self {K : PySem.W.Frag} {C : Addr} : PySem.W.notFirst K C (.ref C) = true := by simp [PySem.W.notFirst]
theorem space_new {C : Addr} {H : Hp} {Q : VK} {a : Addr} {zs : List Int} (hz : zs ∈ menu) (ha : H a = some (.lst (zs.map V.int)) ∨ H a = some (.tup (zs.map V.int))) (k : ∀ H' p, Same H H' → H p = none → SpaceAt C H' p zs → Q (.ref p) H')
    (x dx : Addr) (hx : H x = none) (hdx : H dx = none) (hne : dx ≠ x) : spInit C [.ref x, .ref a] (upd (upd H dx (.own x)) x (.ins C dx [])) (fun v G => v = .non ∧ Q (.ref x) G) E0 := by
  have new : Same H (upd (upd H dx (.own x)) x (.ins C dx [])) := fun b o e => by
    rw [upd_ne (ne_of_none e hx), upd_ne (ne_of_none e hdx)]
    exact e
  refine ⟨x, a, dx, zs, rfl, upd_same, hz, same_any new ha, fun H5 s5 sp5 => ⟨rfl, ?_⟩⟩
  exact k H5 x (fun b o e => s5 b o (ne_of_none e hx) (new _ _ e)) hx sp5
theorem r_space1 {C : Addr} {H : Hp} {Q : VK} {a : Addr} {zs : List Int} (hz : zs ∈ menu) (ha : H a = some (.lst (zs.map V.int)) ∨ H a = some (.tup (zs.map V.int))) (k : ∀ H' p, Same H H' → H p = none → SpaceAt C H' p zs → Q (.ref p) H') : rMk C 1 0 byPlace (spInit C) E0 [.ref a] [] H Q :=
  ⟨rfl, rfl, fun x dx hx hdx hne => space_new (Q := Q) hz ha k x dx hx hdx hne⟩
/-- Ratio(x, y) -/
theorem r_rat {C : Addr} {H : Hp} {Q : VK} {x y : Int} (xy : (x = 2 ∧ y = 4) ∨ (x = 1 ∧ y = 2)) (k : ∀ G p, Same H G → RatAt C G p 1 2 → Q (.ref p) G) : rMk C 2 0 byPlace (spRat C) E0 [.int x, .int y] [] H Q :=
  r_mk rfl rfl fun p dx hp hdx hne => ⟨p, x, y, dx, rfl, upd_same, xy, fun G s r => ⟨rfl, k G p (fun b o e => s b o (ne_of_none e hp) (by rw [upd_ne (ne_of_none e hp), upd_ne (ne_of_none e hdx)]; exact e)) r⟩⟩
section
variable {P : Program} {w : World} {K : PySem.W.Frag} {mg : Str → Option Value} {base : Heap}
theorem ok_cell {f : Addr} {fd : FuncData} (F : Fun K "_law_cell" "_law_cell" s__law_cell f fd) (Z : Zs mg) : FnG P w K mg base CX0 1 f fd ["script", "k"] (spCell K) := by
  refine okG F sc__law_cell (fun vs H Q E h => ?_) (fun cdv B up z H vs Q E hG hr h => ?_)
  · obtain ⟨a, ns, k, rfl, _⟩ := h
    rfl
  · obtain ⟨a, ns, k, rfl, hk, hz, ha, q⟩ := h
    refine ⟨_, (pss_one (ps_ret (pe_ifExp (pt_cmpR op_lt (pv 1) (pe_callB (show CallR _ _ (rLen K) from c_len) (by rfl) Z.len_ (by decide +kernel) (pa_cons (pv 0) pa_nil)) (nomark _)) (pe_ix (show IxR _ (rIxL K) from ix_list) (pv 0) (pv 1) (fun _ _ => rfl)) (pe_op op_add (pe_op op_mul pe_int (pv 1)) (pe_op op_mod (pe_callB (cr_sum rfl) (by rfl) Z.sum_ (by decide +kernel) (pa_cons (pe_slice (show SlR _ (rSlL K) from sl_list) (pv 0) po_none (po_some pe_int)) pa_nil)) pe_int))))), ?_⟩
    walk_at "r"
    refine r_lenL ha ?_
    walk_at "r"
    refine ite2 (fun c => ?_) (fun c => ?_)
    · rw [List.length_map] at c
      have c' : k < ns.length := by simpa using c
      walk_at "r"
      refine r_ixL ha (atI_nat (v := .int ns[k]) (by rw [List.getElem?_map, List.getElem?_eq_getElem c']; rfl)) ?_
      exact q _ _ (Same.refl H)
    · walk_at "r"
      refine r_i (.inl ⟨by decide, by decide⟩) ?_
      walk_at "r"
      refine ⟨.ref a, rfl, 1, rfl, a, ns.map V.int, rfl, ha, fun p hp => ?_⟩
      refine ⟨p, (cutV (ns.map V.int) none (some 1)).map (fun v => match v with | .int i => i | _ => 0), rfl, SqL.of ?_, ?_⟩
      · rw [upd_same]
        have : ∀ l : List V, (∀ x ∈ l, ∃ i, x = V.int i) → (l.map (fun v => match v with | .int i => i | _ => (0 : Int))).map V.int = l := by
          intro l hl
          induction l with
          | nil => rfl
          | cons x l ih =>
            obtain ⟨i, rfl⟩ := hl x (List.mem_cons_self ..)
            rw [List.map_cons, List.map_cons, ih fun y hy => hl y (List.mem_cons_of_mem _ hy)]
        rw [this]
        intro x hx
        have h1 := List.mem_of_mem_drop (List.mem_of_mem_take hx)
        obtain ⟨i, _, e⟩ := List.mem_map.mp h1
        exact ⟨i, e.symm⟩
      · walk_at "r"
        refine r_i (by decide) ?_
        walk_at "r"
        exact q _ _ (Same.upd_new hp)
theorem ok_box {f : Addr} {fd : FuncData} (F : Fun K "_law_box" "_law_box" s__law_box f fd) (Z : Zs mg) : FnG P w K mg base CX0 1 f fd ["great"] spBox := by
  refine okG F sc__law_box (fun vs H Q E h => ?_) (fun cdv B up z H vs Q E hG hr h => ?_)
  · obtain ⟨g, rfl, _⟩ := h
    rfl
  · obtain ⟨g, rfl, q⟩ := h
    refine ⟨_, (pss_one (ps_ret (pe_lst (pa_cons (pe_callB c_abs (by rfl) Z.abs_ (by decide +kernel) (pa_cons (pv 0) pa_nil)) (pa_cons (pe_cmpR op_ge (pe_callB c_abs (by rfl) Z.abs_ (by decide +kernel) (pa_cons (pv 0) pa_nil)) (pe_op op_pow pe_int pe_int) (nomark _)) (pa_cons (pe_op op_mod (pe_callTy c_int (by rfl) Z.int_ (by decide +kernel) (pa_cons (pe_callB c_abs (by rfl) Z.abs_ (by decide +kernel) (pa_cons (pv 0) pa_nil)) pa_nil)) pe_int) (pa_cons pe_int pa_nil))))))), ?_⟩
    walk_at "r"
    have nn : 0 ≤ (if g < 0 then -g else g) := by split <;> omega
    refine r_i ⟨by decide, by decide, by decide⟩ ?_
    walk_at "r"
    refine r_i (by decide) ?_
    walk_at "r"
    refine ⟨by show 4 ≤ sizeLine; decide, fun p hp => ?_⟩
    exact q p _ (Same.upd_new hp) hp ⟨_, _, 0, _, upd_same, nn, Int.emod_nonneg _ (by decide), Int.lt_of_lt_of_le (Int.emod_lt_of_pos _ (by decide)) (by decide), by decide, by decide⟩
end
end Eld
set_option Elab.async false
set_option maxRecDepth 100000
set_option maxHeartbeats 4000000
set_option linter.all false
namespace Eld
open PySem L2
local macro_rules | `(tactic| walk_at "r1") => `(tactic| with_reducible first
  | refine r_seq ?_ | refine r_asgN ?_ | refine r_asg ?_ | refine r_gname ?_ | refine r_gsub ?_ | refine r_var rfl ?_ | refine r_c ?_ | refine r_op ?_ | refine r_un ?_ | refine r_u ?_ | refine r_i0 ?_ | refine r_cb ?_ | refine r_cons ?_ | refine r_nil ?_ | refine r_cl ?_ | refine r_fn rfl rfl ?_ | refine r_mt ?_
  | refine r_test ?_ | refine r_tb ?_ | refine r_bl ?_ | refine r_and ?_ | refine r_or ?_ | refine r_not ?_ | refine r_andV ?_ | refine r_orV ?_ | refine r_notV ?_ | refine r_ifX ?_ | refine r_ifs ?_ | refine r_chain ?_ | refine r_ret ?_ | refine r_next ?_ | refine r_drop ?_ | refine iteT ?_ | refine iteF ?_ | refine iteNT ?_ | refine iteNF ?_
  | refine r_int1 ?_ | refine r_boolB ?_ | refine r_eqI ?_ | refine r_neI ?_ | refine r_eqB ?_ | refine r_neB ?_ | refine r_eqS ?_ | refine r_neS ?_ | refine r_abs ?_ | refine r_max2 ?_ | refine r_min2 ?_ | refine r_yes ?_ | refine r_tup ?_ | refine r_sfld ?_ | refine r_m0 ?_ | refine r_m1 ?_ | refine r_lst ?_ | refine r_rng1 ?_ | refine r_rng2 ?_ | refine r_ixL (SqL.of (by assumption)) rfl ?_)
local macro_rules | `(tactic| walk_at "r") => `(tactic| repeat (first | walk_at "r1" | ((with_reducible refine r_var ?hv ?_); (case hv => rfl))))

/-! ## the law -/
def spLaw (K : PySem.W.Frag) : Sp := fun vs H Q _ => ∃ (a : Addr) (ns : List Int), vs = [.ref a] ∧ ns.length ≤ sizeLine ∧ SqL K H a (ns.map V.int) ∧ ∀ G, Q (.bl true) G
def cnt (j : Nat) : Nat := if j ≤ 64 then j else 64 + 2 * (j - 64)
theorem eqvE : PyData.eqv (.list []) (.list []) = true := by decide +kernel
theorem eqvM : PyData.eqv (.list [.int 1, .str "more"]) (.list [.int 1, .str "more"]) = true := by decide +kernel
/-- what stands at each place of the 74 errors -/
def Keeps (E : Nat → Addr) (g : Addr) (G : Hp) (zs : List V) : Prop := ∀ (j : Nat) (x : V), zs[j]? = some x → ∃ (a : Addr) (i : Nat) (ws : List V), x = .ref a ∧ i < 37 ∧ XV G a (E i) (fsOf i ws) ∧ ws.length = (if i < 32 then 1 else 2) ∧ ws = List.replicate ws.length (.ref g) ∧ (j < 64 → i < 32) ∧ (64 ≤ j → 32 ≤ i)
theorem keeps_of {E : Nat → Addr} {g : Addr} {G : Hp} {a b c d : List V} (ha : a.length = 32) (hb : b.length = 32) (hc : c.length = 5) (hd : d.length = 5) (ka : Acc E G [.ref g] 0 a) (kb : Acc E G [.ref g] 0 b) (kc : Acc E G [.ref g, .ref g] 32 c) (kd : Acc E G [.ref g, .ref g] 32 d) :
    Keeps E g G (((a ++ b) ++ c) ++ d) := by
  intro j x hx
  have one : ∀ (l : List V) (k : Nat), l.length = 32 → Acc E G [.ref g] 0 l → l[k]? = some x → ∃ (a : Addr) (i : Nat) (ws : List V), x = .ref a ∧ i < 32 ∧ XV G a (E i) (fsOf i ws) ∧ ws.length = 1 ∧ ws = List.replicate ws.length (.ref g) := fun l k hl kl e => by
    have lt := (List.getElem?_eq_some_iff.mp e).1
    obtain ⟨p, e1, e2⟩ := kl.get e
    exact ⟨p, 0 + k, _, e1, by omega, e2, rfl, rfl⟩
  have two : ∀ (l : List V) (k : Nat), l.length = 5 → Acc E G [.ref g, .ref g] 32 l → l[k]? = some x → ∃ (a : Addr) (i : Nat) (ws : List V), x = .ref a ∧ 32 ≤ i ∧ i < 37 ∧ XV G a (E i) (fsOf i ws) ∧ ws.length = 2 ∧ ws = List.replicate ws.length (.ref g) := fun l k hl kl e => by
    have lt := (List.getElem?_eq_some_iff.mp e).1
    obtain ⟨p, e1, e2⟩ := kl.get e
    exact ⟨p, 32 + k, _, e1, by omega, by omega, e2, rfl, rfl⟩
  have tot1 : (a ++ b).length = 64 := by rw [List.length_append, ha, hb]
  have tot2 : ((a ++ b) ++ c).length = 69 := by rw [List.length_append, tot1, hc]
  by_cases c3 : j < 69
  · rw [List.getElem?_append_left (by omega)] at hx
    by_cases c2 : j < 64
    · rw [List.getElem?_append_left (by omega)] at hx
      have : ∃ (a : Addr) (i : Nat) (ws : List V), x = .ref a ∧ i < 32 ∧ XV G a (E i) (fsOf i ws) ∧ ws.length = 1 ∧ ws = List.replicate ws.length (.ref g) := by
        by_cases c1 : j < 32
        · rw [List.getElem?_append_left (by omega)] at hx
          exact one a j ha ka hx
        · rw [List.getElem?_append_right (by omega)] at hx
          exact one b _ hb kb hx
      obtain ⟨p, i, ws, e1, e2, e3, e4, e5⟩ := this
      exact ⟨p, i, ws, e1, by omega, e3, by rw [if_pos e2]; exact e4, e5, fun _ => e2, fun h => by omega⟩
    · rw [List.getElem?_append_right (by omega)] at hx
      obtain ⟨p, i, ws, e1, e2, e2', e3, e4, e5⟩ := two c _ hc kc hx
      exact ⟨p, i, ws, e1, e2', e3, by rw [if_neg (by omega)]; exact e4, e5, fun h => by omega, fun _ => e2⟩
  · rw [List.getElem?_append_right (by omega)] at hx
    obtain ⟨p, i, ws, e1, e2, e2', e3, e4, e5⟩ := two d _ hd kd hx
    exact ⟨p, i, ws, e1, e2', e3, by rw [if_neg (by omega)]; exact e4, e5, fun h => by omega, fun _ => e2⟩
section
variable {P : Program} {w : World} {K : PySem.W.Frag} {mg : Str → Option Value} {base : Heap} {E : Nat → Addr} {cE CS CR : Addr}
theorem ok_law {f : Addr} {fd : FuncData} (F : Fun K "law" "law" s_law f fd) (Z : Zs mg) (ER : Er P w K mg base E cE) (S : Sc K mg CS) (R : Rs K mg CR) (d__law_cell : DefD P w K mg base 1 "_law_cell" 2 [] byPlace (spCell K)) (d__law_box : DefD P w K mg base 1 "_law_box" 1 [] byPlace spBox)
    (d__law_all_right : DefD P w K mg base 6 "_law_all_right" 1 [] byPlace (spAll K)) (d__law_caught : DefD P w K mg base 6 "_law_caught" 2 [] byPlace (spCaught K)) (d__law_thing : DefD P w K mg base 3 "_law_thing" 1 [] byPlace (spThing K)) (d__law_is : DefD P w K mg base 4 "_law_is" 2 [] byPlace (spIs E))
    (d__law_kept : DefD P w K mg base 2 "_law_kept" 1 [] byPlace (spKept E)) (d__law_by_place : DefD P w K mg base 3 "_law_by_place" 1 [] byPlace (spMany E)) (d__law_by_name : DefD P w K mg base 3 "_law_by_name" 1 [] byPlace (spMany E)) (d__law_pairs : DefD P w K mg base 3 "_law_pairs" 3 [] byPlace (spPairs E))
    (k_Space : MakD P w K mg base 4 "Space" CS 1 [] byPlace (spInit CS)) (k_Ratio : MakD P w K mg base 3 "Ratio" CR 2 [] byPlace (spRat CR)) (d_eqS : EqD P w K mg base 1 CS (spEqS CS K)) (d_eqR : EqD P w K mg base 4 CR (spEqR CR)) : FnG P w K mg base CX0 7 f fd ["script"] (spLaw K) := by
  refine okG F sc_law (fun vs H Q E' h => ?_) (fun cdv B up z H vs Q E' hG hr h => ?_)
  · obtain ⟨a, ns, rfl, _⟩ := h
    rfl
  · obtain ⟨a, ns, rfl, hl, ha, k⟩ := h
    have hu : (B.deeper (PyProof.Rows.envOfC "law" (defScope s_law) z.heap.objs.size f cdv)).units + 64 < cLine := by have := hr.un; omega
    refine ⟨_, (pss_cons (ps_set (i := 1) sc_law.nd rfl (by first | exact Or.inl rfl | exact Or.inr rfl) (pe_lst (pa_cons (pn_none (callV_exc0 ER.b37) (by rfl) ER.g37 ER.b37.kC) (pa_cons (pn_none (callV_exc0 ER.b38) (by rfl) ER.g38 ER.b38.kC) (pa_cons (pn_none (callV_exc0 ER.b39) (by rfl) ER.g39 ER.b39.kC) pa_nil)))))
  (pss_cons (ps_if (pt_cmpR (show OpR _ _ (rNeD K) from op_neD hu) (pe_lc (own := [("k", 2)]) (tt := _) rfl sc_law.nd (pi_range1 (by rfl) Z.range_ (pa_cons pe_int pa_nil)) (blkOk_by (N := ["script", "bare", "k", "e", "box", "grown", "kept", "thing"]) (sc := defScope s_law) (by decide +kernel)) (fun _ _ _ _ _ => (pg_name (i := 2) sc_law.nd rfl (by first | exact Or.inl rfl | exact Or.inr rfl))) (fun _ _ _ _ _ => (pts_one (pt_not (pt_val (pd_pos d__law_is hG hr (by decide) (by rfl) (pa_cons (pe_ix (show IxR _ (rIxL K) from ix_list) (pv 1) (pv 2) (fun _ _ => rfl)) (pa_cons (pe_op op_add pe_int (pv 2)) pa_nil))))))) (fun _ _ _ _ _ => (pv 2))) (pe_lst pa_nil) (nomark _)) (pss_one (ps_ret pe_bl)) pss_nil)
  (pss_cons (ps_for PassesOwn.never rfl (pi_range1 (by rfl) Z.range_ (pa_cons (pe_callB (c_max2 rfl) (by rfl) Z.max_ (by decide +kernel) (pa_cons pe_int (pa_cons (pe_callB (c_min2 rfl) (by rfl) Z.min_ (by decide +kernel) (pa_cons pe_int (pa_cons (pe_callB (show CallR _ _ (rLen K) from c_len) (by rfl) Z.len_ (by decide +kernel) (pa_cons (pv 0) pa_nil)) pa_nil))) pa_nil))) pa_nil)) (pg_name (i := 2) sc_law.nd rfl (by first | exact Or.inl rfl | exact Or.inr rfl))
  (pss_cons (ps_set (i := 4) sc_law.nd rfl (by first | exact Or.inl rfl | exact Or.inr rfl) (pd_pos d__law_box hG hr (by decide) (by rfl) (pa_cons (pd_pos d__law_cell hG hr (by decide) (by rfl) (pa_cons (pv 0) (pa_cons (pv 2) pa_nil))) pa_nil)))
  (pss_one (ps_if (PW.pt (pw_or (pt_not (pt_val (pd_pos d__law_all_right hG hr (by decide) (by rfl) (pa_cons (pv 4) pa_nil)))) (pw_or1 (pt_not (pt_val (pd_pos d__law_caught hG hr (by decide) (by rfl) (pa_cons (pv 4) (pa_cons (pd_pos d__law_thing hG hr (by decide) (by rfl) (pa_cons (pv 4) pa_nil)) pa_nil)))))))) (pss_one (ps_ret pe_bl)) pss_nil))))
  (pss_cons (ps_par rfl sc_law.nd (i := 5) (j := 6) rfl rfl (by decide) rfl rfl (pa_cons (pe_lst (pa_cons pe_int pa_nil)) (pa_cons (pe_lst pa_nil) pa_nil)) rfl)
  (pss_cons (ps_for PassesOwn.never rfl (pi_list (pe_op op_cat (pe_op op_cat (pe_op op_cat (pd_pos d__law_by_place hG hr (by decide) (by rfl) (pa_cons (pv 5) pa_nil)) (pd_pos d__law_by_name hG hr (by decide) (by rfl) (pa_cons (pv 5) pa_nil))) (pd_pos d__law_pairs hG hr (by decide) (by rfl) (pa_cons (pv 5) (pa_cons (pv 5) (pa_cons pe_int pa_nil))))) (pd_pos d__law_pairs hG hr (by decide) (by rfl) (pa_cons (pv 5) (pa_cons (pv 5) (pa_cons pe_int pa_nil)))))) (pg_name (i := 3) sc_law.nd rfl (by first | exact Or.inl rfl | exact Or.inr rfl))
  (pss_one (ps_set (i := 6) sc_law.nd rfl (by first | exact Or.inl rfl | exact Or.inr rfl) (pe_op op_cat (pv 6) (pd_pos d__law_kept hG hr (by decide) (by rfl) (pa_cons (pv 3) pa_nil))))))
  (pss_cons (ps_expr (pe_bm PySem.F.plainAttrs_list PySem.F.slot_list_append PySem.F.type_list_append mt_append (pv 5) (pa_cons pe_str pa_nil)))
  (pss_cons (ps_if (PW.pt (pw_or (pt_cmpR op_ne (pe_callB (show CallR _ _ (rLen K) from c_len) (by rfl) Z.len_ (by decide +kernel) (pa_cons (pv 6) pa_nil)) pe_int (nomark _)) (pw_or1 (pt_cmpR (show OpR _ _ (rNeD K) from op_neD hu) (pe_lc (own := [("thing", 7)]) (tt := _) rfl sc_law.nd (pi_list (pv 6)) (blkOk_by (N := ["script", "bare", "k", "e", "box", "grown", "kept", "thing"]) (sc := defScope s_law) (by decide +kernel)) (fun _ _ _ _ _ => (pg_name (i := 7) sc_law.nd rfl (by first | exact Or.inl rfl | exact Or.inr rfl))) (fun _ _ _ _ _ => (pts_one (pt_cmpR (show OpR _ _ (rNeD K) from op_neD hu) (pv 7) (pe_lst (pa_cons pe_int (pa_cons pe_str pa_nil))) (nomark _)))) (fun _ _ _ _ _ => (pv 7))) (pe_lst pa_nil) (nomark _))))) (pss_one (ps_ret pe_bl)) pss_nil)
  (pss_one (ps_ret (pe_and (pe_cmpR (show OpR _ _ (rOwnC K CS (spEqS CS K) E0) from op_eqS d_eqS hG hr (by decide)) (pe_xv (px_pos ER.p11 hG hr (by decide) (by rfl) (pa_cons (pk_pos k_Space hG hr (by decide) (by rfl) (pa_cons (pe_lst (pa_cons pe_int (pa_cons pe_int pa_nil))) pa_nil)) pa_nil))) (pk_pos k_Space hG hr (by decide) (by rfl) (pa_cons (pe_lst (pa_cons pe_int (pa_cons pe_int pa_nil))) pa_nil)) (nomark _)) (pe_one (pe_cmpR (show OpR _ _ (rOwnC K CR (spEqR CR) E0) from op_eqS d_eqR hG hr (by decide)) (pe_xv (px_pos ER.p33 hG hr (by decide) (by rfl) (pa_cons pe_int (pa_cons (pk_pos k_Ratio hG hr (by decide) (by rfl) (pa_cons pe_int (pa_cons pe_int pa_nil))) pa_nil)))) (pk_pos k_Ratio hG hr (by decide) (by rfl) (pa_cons pe_int (pa_cons pe_int pa_nil))) (nomark _))))))))))))), ?_⟩
    walk_at "r"
    refine ⟨rfl, rfl, fun a0 h0 => ?_⟩
    have s0 := Same.upd_new (o := Ex a0 (E 37) none) h0
    have x0 : XA (upd H a0 (Ex a0 (E 37) none)) a0 (E 37) := .inl (.inr upd_same)
    generalize upd H a0 (Ex a0 (E 37) none) = H0 at s0 x0 ⊢
    walk_at "r"
    refine ⟨rfl, rfl, fun a1 h1 => ?_⟩
    have s1 := Same.upd_new (o := Ex a1 (E 38) none) h1
    have x1 : XA (upd H0 a1 (Ex a1 (E 38) none)) a1 (E 38) := .inl (.inr upd_same)
    generalize upd H0 a1 (Ex a1 (E 38) none) = H1 at s1 x1 ⊢
    walk_at "r"
    refine ⟨rfl, rfl, fun a2 h2 => ?_⟩
    have s2 := Same.upd_new (o := Ex a2 (E 39) none) h2
    have x2 : XA (upd H1 a2 (Ex a2 (E 39) none)) a2 (E 39) := .inl (.inr upd_same)
    generalize upd H1 a2 (Ex a2 (E 39) none) = H2 at s2 x2 ⊢
    walk_at "r"
    refine ⟨by show 3 ≤ sizeLine; decide, fun pb hpb => ?_⟩
    have s3 := Same.upd_new (o := .lst [.ref a0, .ref a1, .ref a2]) hpb
    have lb : (upd H2 pb (.lst [.ref a0, .ref a1, .ref a2])) pb = some (.lst [.ref a0, .ref a1, .ref a2]) := upd_same
    generalize upd H2 pb (.lst [.ref a0, .ref a1, .ref a2]) = H3 at s3 lb ⊢
    have t3 : Same H H3 := s0.trans (s1.trans (s2.trans s3))
    have bare : ∀ j : Nat, j < 3 → ∃ x, ([.ref a0, .ref a1, .ref a2] : List V)[j]? = some (.ref x) ∧ XA H3 x (E (37 + j)) := by
      intro j hj
      have hj3 : j = 0 ∨ j = 1 ∨ j = 2 := by omega
      rcases hj3 with rfl | rfl | rfl
      · exact ⟨a0, rfl, x0.same (s1.trans (s2.trans s3))⟩
      · exact ⟨a1, rfl, x1.same (s2.trans s3)⟩
      · exact ⟨a2, rfl, x2.same s3⟩
    walk_at "r"
    refine r_lc ?_
    walk_at "r"
    refine ⟨_, rfl, by decide, by decide, fun D hD => ?_⟩
    refine it_range (fun j G => Same H3 G ∧ G D = some (.lst [])) ⟨Same.upd_new hD, upd_same⟩ (fun j G hj q => ?_) (fun G q => ?_)
    · have hj : j < 3 := hj
      obtain ⟨s, d⟩ := q
      rw [Int.zero_add]
      obtain ⟨x, hx, xa⟩ := bare j hj
      refine r_gname ⟨rfl, ?_⟩
      walk_at "r"
      refine r_ixL (SqL.of (s _ _ lb)) (atI_nat hx) ?_
      walk_at "r"
      refine ⟨x, _, 37 + j, rfl, by omega, xa.same s, fun G1 s1 => ?_⟩
      rw [decide_eq_true (by omega)]
      walk_at "r"
      exact ⟨s.trans s1, s1 _ _ d⟩
    obtain ⟨s4, d4⟩ := q
    walk_at "r"
    refine ⟨by show 0 ≤ sizeLine; decide, fun q5 h5 => ?_⟩
    have s5 := Same.upd_new (o := .lst []) h5
    refine ⟨.list [], .list [], .lst (SqL.of (s5 _ _ d4)) .nil, .lst (SqL.of upd_same) .nil, rfl, rfl, ?_⟩
    rw [eqvE]
    have t5 : Same H (upd G q5 (.lst [])) := t3.trans (s4.trans s5)
    generalize upd G q5 (.lst []) = H5 at t5 ⊢
    walk_at "r"
    with_reducible refine r_for ?_
    walk_at "r"
    refine r_lenL (SqL.same ha t5) ?_
    walk_at "r"
    generalize hm : (if (if ((ns.map V.int).length : Int) < 4 then ((ns.map V.int).length : Int) else 4) > 2 then (if ((ns.map V.int).length : Int) < 4 then ((ns.map V.int).length : Int) else 4) else 2) = m
    have m4 : 0 ≤ m ∧ m ≤ 4 := by rw [← hm]; split <;> split <;> omega
    refine ⟨_, rfl, by omega, by omega, ?_⟩
    refine for_range (fun i τ G => ∃ o2 o4 : Option V, τ = [some (.ref a), some (.ref pb), o2, none, o4, none, none, none] ∧ Same H5 G) ⟨none, none, rfl, Same.refl H5⟩ ?_ ?_
    · rintro i τ G hi ⟨o2, o4, rfl, sG⟩
      rw [Int.zero_add]
      walk_at "r"
      refine ⟨a, ns, i, rfl, by omega, hl, SqL.same ha (t5.trans sG), fun r G2 s2 => ?_⟩
      walk_at "r"
      refine ⟨r, rfl, fun b G3 s3 n3 b3 => ?_⟩
      walk_at "r"
      refine ⟨b, 0, rfl, b3, by decide, fun G4 b4 u4 => ?_⟩
      walk_at "r"
      refine ⟨b, 0 + 2, rfl, b4, by decide, fun v d G5 hd dz b5 u5 => ?_⟩
      walk_at "r"
      refine ⟨b, v, d, 0 + 2 + 1, rfl, b5, by decide, hd, dz, fun G6 b6 u6 => ?_⟩
      walk_at "r"
      exact ⟨_, _, rfl, fun a' o e => ((u4.trans u5).trans u6) _ _ (ne_of_none (s2 _ _ (sG _ _ e)) n3) (s3 _ _ (s2 _ _ (sG _ _ e)))⟩
    · rintro τ G ⟨o2, o4, rfl, sG⟩
      walk_at "r"
      refine r_par ?_
      walk_at "r"
      refine ⟨by show 1 ≤ sizeLine; decide, fun g hg => ?_⟩
      have s6 := Same.upd_new (o := .lst [.int 1]) hg
      have lg6 : (upd G g (.lst [.int 1])) g = some (.lst [.int 1]) := upd_same
      generalize upd G g (.lst [.int 1]) = H6 at s6 lg6 ⊢
      walk_at "r"
      refine ⟨by show 0 ≤ sizeLine; decide, fun L0 hL0 => ?_⟩
      have s7 := Same.upd_new (o := .lst []) hL0
      have l07 : (upd H6 L0 (.lst [])) L0 = some (.lst []) := upd_same
      have lg7 := s7 _ _ lg6
      generalize upd H6 L0 (.lst []) = H7 at s7 l07 lg7 ⊢
      walk_at "r"
      refine ⟨_, _, rfl, ?_⟩
      show tSeq _ _ _ [some (.ref a), some (.ref pb), o2, none, o4, some (.ref g), some (.ref L0), none] _
      walk_at "r"
      with_reducible refine r_for ?_
      refine r_il ?_
      walk_at "r"
      refine ⟨.ref g, rfl, fun Ga La xa sa na ea lena acca => ?_⟩
      walk_at "r"
      refine ⟨.ref g, rfl, fun Gb Lb xb sb nb eb lenb accb => ?_⟩
      walk_at "r"
      refine ⟨La, Lb, xa, xb, rfl, rfl, sb _ _ ea, eb, by rw [lena, lenb]; show 32 + 32 ≤ sizeLine; decide, fun p1 hp1 => ?_⟩
      have u1 := Same.upd_new (o := .lst (xa ++ xb)) hp1
      have e1 : (upd Gb p1 (.lst (xa ++ xb))) p1 = some (.lst (xa ++ xb)) := upd_same
      generalize upd Gb p1 (.lst (xa ++ xb)) = G1 at u1 e1 ⊢
      walk_at "r"
      refine ⟨.ref g, .ref g, 0, rfl, by decide, by decide, fun Gc Lc xc sc_ nc ec lenc accc => ?_⟩
      walk_at "r"
      refine ⟨p1, Lc, _, xc, rfl, rfl, sc_ _ _ e1, ec, by rw [List.length_append, lena, lenb, lenc]; show 32 + 32 + 5 ≤ sizeLine; decide, fun p2 hp2 => ?_⟩
      have u2 := Same.upd_new (o := .lst ((xa ++ xb) ++ xc)) hp2
      have e2 : (upd Gc p2 (.lst ((xa ++ xb) ++ xc))) p2 = some (.lst ((xa ++ xb) ++ xc)) := upd_same
      generalize upd Gc p2 (.lst ((xa ++ xb) ++ xc)) = G2 at u2 e2 ⊢
      walk_at "r"
      refine ⟨.ref g, .ref g, 2, rfl, by decide, by decide, fun Gd Ld xd sd nd ed lend accd => ?_⟩
      walk_at "r"
      refine ⟨p2, Ld, _, xd, rfl, rfl, sd _ _ e2, ed, by rw [List.length_append, List.length_append, lena, lenb, lenc, lend]; show 32 + 32 + 5 + 5 ≤ sizeLine; decide, fun p3 hp3 => ?_⟩
      have u3 := Same.upd_new (o := .lst (((xa ++ xb) ++ xc) ++ xd)) hp3
      have e3 : (upd Gd p3 (.lst (((xa ++ xb) ++ xc) ++ xd))) p3 = some (.lst (((xa ++ xb) ++ xc) ++ xd)) := upd_same
      have sc2 := sc_.trans (u2.trans (sd.trans u3))
      have sb2 := u1.trans sc2
      have kp : Keeps E g (upd Gd p3 (.lst (((xa ++ xb) ++ xc) ++ xd))) (((xa ++ xb) ++ xc) ++ xd) := keeps_of lena lenb lenc lend (acca.same (sb.trans sb2)) (accb.same sb2) (accc.same (u2.trans (sd.trans u3))) (accd.same u3)
      have lg3 := ((sa.trans sb).trans sb2) _ _ lg7
      have l03 := ((sa.trans sb).trans sb2) _ _ l07
      have ln : (((xa ++ xb) ++ xc) ++ xd).length = 74 := by rw [List.length_append, List.length_append, List.length_append, lena, lenb, lenc, lend]
      generalize upd Gd p3 (.lst (((xa ++ xb) ++ xc) ++ xd)) = G3 at e3 kp lg3 l03 ⊢
      generalize ((xa ++ xb) ++ xc) ++ xd = zs at e3 kp ln
      clear sc2 sb2 u3 accd ed nd sd u2 e2 accc ec nc sc_ u1 e1 accb eb nb sb acca ea na sa l07 lg7 s7 lg6 s6 hp1 hp2 hp3
      refine ⟨_, rfl, ⟨_, SqL.of e3⟩, for_list (K := K) (a := p3) (xs := zs) (fun j τ T => ∃ (v3 : Option V) (L' : Addr), τ = [some (.ref a), some (.ref pb), o2, v3, o4, some (.ref g), some (.ref L'), none] ∧ Same G3 T ∧ T L' = some (.lst (List.replicate (cnt j) (.ref g)))) ⟨none, L0, rfl, Same.refl _, l03⟩ (fun j τ T _ q => by obtain ⟨_, _, _, s, _⟩ := q; exact SqL.of (s _ _ e3)) ?_ ?_⟩
      · rintro j x τ T hx ⟨v3, L', rfl, sT, eL⟩
        have hj : j < 74 := by rw [← ln]; exact (List.getElem?_eq_some_iff.mp hx).1
        obtain ⟨a', i, ws, rfl, hi, xv, lw, ew, c1, c2⟩ := kp j x hx
        walk_at "r"
        refine ⟨a', i, ws, rfl, hi, xv.same sT, lw, fun T2 L2 s2 n2 e2 => ?_⟩
        walk_at "r"
        have cl : cnt j ≤ 84 := by unfold cnt; split <;> omega
        have wl : ws.length ≤ 2 := by rw [lw]; split <;> omega
        refine ⟨L', L2, _, ws, rfl, rfl, s2 _ _ eL, e2, by rw [List.length_replicate, sizeLine_eq]; omega, fun p hp => ?_⟩
        walk_at "r"
        refine ⟨_, p, rfl, (sT.trans s2).trans (Same.upd_new hp), ?_⟩
        rw [upd_same, ew, List.replicate_append_replicate]
        congr 3
        rw [lw]
        unfold cnt
        by_cases h64 : j < 64
        · rw [if_pos (c1 h64), if_pos (by omega), if_pos (by omega)]
        · have := c2 (by omega)
          rw [if_neg (show ¬ i < 32 by omega)]
          by_cases h65 : j ≤ 64
          · rw [if_pos h65, if_neg (by omega)]; omega
          · rw [if_neg h65, if_neg (by omega)]; omega
      · rintro τ T ⟨v3, L', rfl, sT, eL⟩
        rw [ln] at eL
        have lgT := sT _ _ lg3
        have ne : L' ≠ g := ne_of eL lgT (by intro z; injection z with z; have := congrArg List.length z; simp [cnt] at this)
        walk_at "r"
        refine r_app ?_
        walk_at "r"
        refine ⟨.inl ⟨rfl, _, SqL.of lgT⟩, ?_⟩
        walk_at "r"
        refine ⟨g, [.int 1], .str "more", rfl, rfl, lgT, by show 1 < sizeLine; decide, ?_⟩
        have eg : (upd T g (.lst ([.int 1] ++ [.str "more"]))) g = some (.lst [.int 1, .str "more"]) := upd_same
        have eK : (upd T g (.lst ([.int 1] ++ [.str "more"]))) L' = some (.lst (List.replicate (cnt 74) (.ref g))) := by rw [upd_ne ne]; exact eL
        generalize upd T g (.lst ([.int 1] ++ [.str "more"])) = T1 at eg eK ⊢
        walk_at "r"
        refine r_lenL (SqL.of eK) ?_
        walk_at "r"
        refine ite2 (fun c => absurd c (by rw [List.length_replicate]; decide)) (fun _ => ?_)
        walk_at "r"
        refine r_lc ?_
        refine r_il ?_
        walk_at "r"
        refine ⟨L', rfl, ⟨_, SqL.of eK⟩, fun D2 hD2 => ?_⟩
        refine it_list (K := K) (a := L') (xs := List.replicate (cnt 74) (.ref g)) (fun j G => Same T1 G ∧ G D2 = some (.lst [])) ⟨Same.upd_new hD2, upd_same⟩ (fun j G _ q => SqL.of (q.1 _ _ eK)) (fun j x G hx q => ?_) (fun G q => ?_)
        · obtain rfl : x = .ref g := List.eq_of_mem_replicate (List.mem_of_getElem? hx)
          obtain ⟨s, d⟩ := q
          refine r_gname ⟨rfl, ?_⟩
          walk_at "r"
          refine ⟨by show 2 ≤ sizeLine; decide, fun q1 hq1 => ?_⟩
          have s8 := Same.upd_new (o := .lst [.int 1, .str "more"]) hq1
          refine ⟨.list [.int 1, .str "more"], .list [.int 1, .str "more"], .lst (SqL.of (s8 _ _ (s _ _ eg))) (.cons (.int 1) (.cons (.str "more") .nil)), .lst (SqL.of upd_same) (.cons (.int 1) (.cons (.str "more") .nil)), by decide +kernel, by decide +kernel, ?_⟩
          rw [eqvM]
          walk_at "r"
          exact ⟨s.trans s8, s8 _ _ d⟩
        obtain ⟨s8, d8⟩ := q
        walk_at "r"
        refine ⟨by show 0 ≤ sizeLine; decide, fun q2 hq2 => ?_⟩
        refine ⟨.list [], .list [], .lst (SqL.of ((Same.upd_new hq2) _ _ d8)) .nil, .lst (SqL.of upd_same) .nil, rfl, rfl, ?_⟩
        rw [eqvE]
        generalize upd G q2 (.lst []) = T2
        walk_at "r"
        refine r_xv ?_
        walk_at "r"
        refine ⟨by show 2 ≤ sizeLine; decide, fun q3 hq3 => ?_⟩
        walk_at "r"
        refine r_space1 (zs := [2, 3]) (by decide) (.inl upd_same) (fun H8 sp s8 n8 at8 => ?_)
        walk_at "r"
        refine r_mkE rfl rfl (fun x9 H9 n9 s9 xv9 => ?_)
        refine ⟨x9, _, _, .ref sp, rfl, xv9, ER.xf 11 (by omega), ER.fl 11 (by omega) _ (by simp [fnames]), lk1 "given" (.ref sp), ?_⟩
        walk_at "r"
        refine ⟨by show 2 ≤ sizeLine; decide, fun q4 hq4 => ?_⟩
        walk_at "r"
        refine r_space1 (zs := [2, 3]) (by decide) (.inl upd_same) (fun H10 sq s10 n10 at10 => ?_)
        have at8' := at8.same (s9.trans ((Same.upd_new hq4).trans s10))
        obtain ⟨dx8, _, _, _, e8, _⟩ := id at8'
        obtain ⟨dx10, _, _, _, e10, _⟩ := id at10
        refine ⟨sp, dx8, _, _, rfl, e8, S.ty e10, first_self, ⟨sp, [2, 3], at8', by decide, .inl ⟨sq, [2, 3], rfl, by decide, at10, ?_⟩⟩⟩
        rw [decide_eq_true rfl]
        walk_at "r"
        refine r_xv ?_
        walk_at "r"
        refine r_rat (.inl ⟨rfl, rfl⟩) (fun H11 r1 s11 at11 => ?_)
        walk_at "r"
        refine r_mkE rfl rfl (fun x12 H12 n12 s12 xv12 => ?_)
        refine ⟨x12, _, _, .ref r1, rfl, xv12, ER.xf 33 (by omega), ER.fl 33 (by omega) _ (by simp [fnames]), (lk2 (f := "way") (g := "rows") (.int 0) (.ref r1) (by decide)).2, ?_⟩
        walk_at "r"
        refine r_rat (.inr ⟨rfl, rfl⟩) (fun H13 r2 s13 at13 => ?_)
        have at11' := at11.same (s12.trans s13)
        obtain ⟨dx11, e11⟩ := id at11'
        obtain ⟨dx13, e13⟩ := id at13
        refine ⟨r1, dx11, _, _, rfl, e11, R.ty e13, first_self, ⟨r1, r2, rfl, at11', at13, ?_⟩⟩
        exact k _
end
end Eld
set_option Elab.async false
set_option maxRecDepth 100000
set_option maxHeartbeats 4000000
set_option linter.all false
namespace Eld
open PySem L2
local macro_rules | `(tactic| walk_at "r1") => `(tactic| with_reducible first
  | refine r_seq ?_ | refine r_asgN ?_ | refine r_asg ?_ | refine r_gname ?_ | refine r_gsub ?_ | refine r_var rfl ?_ | refine r_c ?_ | refine r_op ?_ | refine r_un ?_ | refine r_u ?_ | refine r_i0 ?_ | refine r_cb ?_ | refine r_cons ?_ | refine r_nil ?_ | refine r_cl ?_ | refine r_fn rfl rfl ?_ | refine r_mt ?_
  | refine r_test ?_ | refine r_tb ?_ | refine r_bl ?_ | refine r_and ?_ | refine r_or ?_ | refine r_not ?_ | refine r_andV ?_ | refine r_orV ?_ | refine r_notV ?_ | refine r_ifX ?_ | refine r_ifs ?_ | refine r_chain ?_ | refine r_ret ?_ | refine r_next ?_ | refine r_drop ?_ | refine iteT ?_ | refine iteF ?_ | refine iteNT ?_ | refine iteNF ?_
  | refine r_int1 ?_ | refine r_boolB ?_ | refine r_eqI ?_ | refine r_neI ?_ | refine r_eqB ?_ | refine r_neB ?_ | refine r_eqS ?_ | refine r_neS ?_ | refine r_abs ?_ | refine r_max2 ?_ | refine r_min2 ?_ | refine r_yes ?_ | refine r_tup ?_ | refine r_sfld ?_ | refine r_m0 ?_ | refine r_m1 ?_ | refine r_lst ?_ | refine r_rng1 ?_ | refine r_rng2 ?_ | refine r_ixL (SqL.of (by assumption)) rfl ?_)
local macro_rules | `(tactic| walk_at "r") => `(tactic| repeat (first | walk_at "r1" | ((with_reducible refine r_var ?hv ?_); (case hv => rfl))))

theorem mk_fun {K : PySem.W.Frag} {x ql : Str} {st : Stmt} {f : Addr} {oc : Value} {od an : Option Addr} {osl : Array (Option Value)} {kV doc pm cdv ct : Value} (l : K.lookup f = some ⟨oc, od, .func (PySem.W.fnOf x ql (defArgs st) (defBody st) (defScope st) .none kV doc pm an cdv ct), osl⟩) (c : PySem.W.codeIn K cdv ql = true) (k : PySem.W.keepIn K (.ref f) = true) :
    Fun K x ql st f (PySem.W.fnOf x ql (defArgs st) (defBody st) (defScope st) .none kV doc pm an cdv ct) := fun_mk l c k
theorem exm_of {K : PySem.W.Frag} {c d : Addr} {b : Bool} (h1 : PySem.W.subIn K (.ref d) (.type "BaseException") = some true) (h2 : PySem.W.isClsIn K d = true) (h3 : PySem.W.typeIn K (.ref d) = some (.type "type")) (h4 : PySem.W.subIn K (.ref c) (.ref d) = some b) : PySem.W.exmOne K (.ref c) (.ref d) = some b := by
  have e1 : (PySem.W.subIn K (.ref d) (.type "BaseException") == some true) = true := by rw [h1] <;> rfl
  have e2 : ((PySem.W.clsIn K d).isSome && PySem.W.typeIn K (.ref d) == some (.type "type")) = true := by
    have h2' : (PySem.W.clsIn K d).isSome = true := h2
    rw [h2', h3] <;> rfl
  show (if (PySem.W.subIn K (.ref d) (.type "BaseException") == some true) = true then (if ((PySem.W.clsIn K d).isSome && PySem.W.typeIn K (.ref d) == some (.type "type")) = true then PySem.W.subIn K (.ref c) (.ref d) else none) else none) = some b
  rw [if_pos e1, if_pos e2]
  exact h4
theorem vals_rev : ∀ {zs : List V} {ws : List Value}, Vals zs ws → Vals zs.reverse ws.reverse
  | _, _, .nil => .nil
  | _, _, .cons r rs => by rw [List.reverse_cons, List.reverse_cons]; exact Vals.append (vals_rev rs) (.cons r .nil)
theorem init_kbn {K : PySem.W.Frag} {dt : Addr} {o : Obj} {m : Nat} {tk : Tok} {kV doc pm : Value} {an : Option Addr} {cdv ct : Value} (lT : K.lookup dt = some o) (oT : o.data = .seq #[.int 1 tk] m) (n : Nat) (ks : List Str) (g : List Value → List Value → List Value) (gV : List V → List V → List V)
    (rel : ∀ {vs : List V} {us : List Value} {zs : List V} {ws : List Value}, Vals vs us → Vals zs ws → Vals (gV vs zs) (g us ws))
    (h : ∀ us ws : List Value, us.length = n → ws.length = ks.length → ∃ k, bindArgs (PySem.W.fnOf "__init__" "Ratio.__init__" (defArgs s_Ratio___init__) (defBody s_Ratio___init__) (defScope s_Ratio___init__) (.ref dt) kV doc pm an cdv ct) ⟨us, ks.zip ws⟩ = seqItems? (.ref dt) >>= k ∧ k (some #[.int 1 tk]) = pure ((["self", "top", "bottom"] : List Str).zip (g us ws))) :
    KBn K (PySem.W.fnOf "__init__" "Ratio.__init__" (defArgs s_Ratio___init__) (defBody s_Ratio___init__) (defScope s_Ratio___init__) (.ref dt) kV doc pm an cdv ct) ["self", "top", "bottom"] n ks g gV := by
  refine ⟨fun s us ws X l1 l2 => ?_, rel⟩
  obtain ⟨k, e1, e2⟩ := h us ws l1 l2
  refine BindsTo.of_looks fun M => ?_
  rw [e1]
  exact looks_items X lT oT (.of_pure e2)
/-- what the top has written of a class of errors -/
structure XF (K : PySem.W.Frag) (cE C : Addr) : Prop where
  cls : ∃ nm q N bs sn sub ab col dd k0 k1 k2 k3 k5, K.lookup C = some (excClassObj nm q C N bs (bmE cE) true sn sub ab col dd k0 k1 k2 k3 k5 "ValueError.__new__")
  sa : PySem.W.findIn K (.ref C) "__setattr__" = some (some (.builtin "object.__setattr__"))
  ga : PySem.W.findIn K (.ref C) "__getattribute__" = some (some (.builtin "BaseException.__getattribute__"))
  gg : PySem.W.findIn K (.ref C) "__getattr__" = some none
  ca : PySem.W.findIn K (.ref C) "__class__" = some (some (.builtin "object.__class__"))
  kC : PySem.W.keepIn K (.ref C) = true
section
variable {K : PySem.W.Frag} {cE C D : Addr}
theorem XF.in_ (T : XF K cE C) : ∃ cd : ClassData, PySem.W.clsIn K C = some cd ∧ cd.mro = .ref C :: bmE cE ∧ cd.hasDict = true := by
  obtain ⟨nm, q, N, bs, sn, sub, ab, col, dd, k0, k1, k2, k3, k5, h⟩ := T.cls
  unfold PySem.W.clsIn
  rw [h]
  exact ⟨_, rfl, rfl, rfl⟩
theorem XF.mro (T : XF K cE C) (v : Value) : PySem.W.mroIn K C v = some ((Value.ref C :: bmE cE).contains v) := by
  obtain ⟨cd, e, h, _⟩ := T.in_
  unfold PySem.W.mroIn
  rw [e]
  show (if cd.mro.isEmpty then none else some (cd.mro.contains v)) = _
  rw [h]
  rfl
theorem XF.sub (T : XF K cE C) (v : Value) : PySem.W.subIn K (.ref C) v = some ((Value.ref C :: bmE cE).contains v) := T.mro v
theorem XF.ty (T : XF K cE C) : PySem.W.typeIn K (.ref C) = some (.type "type") := by
  obtain ⟨nm, q, N, bs, sn, sub, ab, col, dd, k0, k1, k2, k3, k5, h⟩ := T.cls
  show (K.lookup C).map (·.cls) = _
  rw [h]
  rfl
theorem XF.hd (T : XF K cE C) : PySem.W.hasDictIn K C = true := by
  obtain ⟨cd, e, _, h⟩ := T.in_
  unfold PySem.W.hasDictIn
  rw [e]
  exact h
theorem XF.isc (T : XF K cE C) : (PySem.W.clsIn K C).isSome = true := by
  obtain ⟨cd, e, _⟩ := T.in_
  rw [e]
  rfl
theorem XF.has (T : XF K cE C) {v : Value} (h : (Value.ref C :: bmE cE).contains v = true) : PySem.W.subIn K (.ref C) v = some true := by rw [T.sub, h]
theorem XF.base (T : XF K cE C) : PySem.W.subIn K (.ref C) (.type "BaseException") = some true := T.has (by simp [bmE])
theorem XF.ve (T : XF K cE C) : PySem.W.subIn K (.ref C) (.type "ValueError") = some true := T.has (by simp [bmE])
theorem XF.end_ (T : XF K cE C) : PySem.W.subIn K (.ref C) (.ref cE) = some true := T.has (by simp [bmE])
theorem XF.self (T : XF K cE C) : PySem.W.subIn K (.ref C) (.ref C) = some true := T.has (by simp)
theorem XF.other (T : XF K cE C) (h1 : D ≠ C) (h2 : cE ≠ D) : PySem.W.subIn K (.ref C) (.ref D) = some false := by
  rw [T.sub]
  have : (Value.ref C :: bmE cE).contains (.ref D) = false := by
    simp [bmE, h1, Ne.symm h2]
  rw [this]
theorem kitc_of {t : Value} {b : Bool} (h1 : (PySem.W.clsIn K D).isSome = true) (h2 : PySem.W.typeIn K (.ref D) = some (.type "type")) (h3 : PySem.W.subIn K t (.ref D) = some b) : PySem.W.kitCls K t (.ref D) = some b := by
  have e2 : ((PySem.W.clsIn K D).isSome && PySem.W.typeIn K (.ref D) == some (.type "type")) = true := by
    rw [h1, h2] <;> rfl
  show (if ((PySem.W.clsIn K D).isSome && PySem.W.typeIn K (.ref D) == some (.type "type")) = true then PySem.W.subIn K t (.ref D) else none) = _
  rw [if_pos e2]
  exact h3
theorem XF.oex (T : XF K cE C) : OexC K C := by
  obtain ⟨nm, q, N, bs, sn, sub, ab, col, dd, k0, k1, k2, k3, k5, h⟩ := T.cls
  exact ⟨⟨_, _, _, _, _, _, _, _, _, _, _, _, _, _, _, h, (show PySem.HandSPX.refsVE [.type "ValueError", .type "Exception", .type "BaseException", .type "object"] = true by decide +kernel)⟩, T.sa, T.base, T.ty, T.kC⟩
theorem XF.xf (T : XF K cE C) : XfC K C := ⟨T.ga, T.gg, T.base, T.hd⟩
theorem XF.exc (T : XF K cE C) (hn : PySem.W.specialIn K (.builtin "object.__class__") "__get__" = some (some (.builtin "getset_descriptor.__get__"))) (ht : PySem.W.takesIn K (.builtin "object.__class__") = some true) : ExcC K C :=
  ⟨T.ga, T.gg, T.base, T.hd, T.ca, hn, ht, by rw [T.mro]; simp [bmE]⟩
theorem XF.own (T : XF K cE C) : PySem.W.kitCls K (.ref C) (.ref C) = some true := kitc_of T.isc T.ty T.self
theorem XF.kitE (T : XF K cE C) (h1 : PySem.W.isClsIn K cE = true) (h2 : PySem.W.typeIn K (.ref cE) = some (.type "type")) : PySem.W.kitOne K (.ref C) (.ref cE) = some true := by
  unfold PySem.W.kitOne
  by_cases h : (Value.ref C == Value.ref cE) = true
  · rw [if_pos h]
  · rw [if_neg h]
    exact kitc_of h1 h2 T.end_
theorem XF.kitV (T : XF K cE C) : PySem.W.kitOne K (.ref C) (.type "ValueError") = some true := by
  unfold PySem.W.kitOne
  rw [if_neg (by simp)]
  show (if PySem.W.kitMeta "ValueError" = true then PySem.W.subIn K (.ref C) (.type "ValueError") else none) = _
  rw [if_pos (by decide +kernel)]
  exact T.ve
theorem XF.kit (T : XF K cE C) (T' : XF K cE D) (h2 : cE ≠ D) : PySem.W.kitCls K (.ref C) (.ref D) = some (decide (D = C)) ∧ PySem.W.kitOne K (.ref C) (.ref D) = some (decide (D = C)) := by
  by_cases h : D = C
  · subst h
    rw [decide_eq_true rfl]
    refine ⟨T.own, ?_⟩
    unfold PySem.W.kitOne
    rw [if_pos (by simp)]
  · rw [decide_eq_false h]
    have e := kitc_of T'.isc T'.ty (T.other h h2)
    refine ⟨e, ?_⟩
    unfold PySem.W.kitOne
    rw [if_neg (by simp; exact fun z => h z.symm)]
    exact e
theorem XF.exO (T : XF K cE C) (T' : XF K cE D) (h2 : cE ≠ D) : PySem.W.exmOne K (.ref C) (.ref D) = some (decide (D = C)) := by
  have e1 : (PySem.W.subIn K (.ref D) (.type "BaseException") == some true) = true := by rw [T'.base] <;> rfl
  show (if (PySem.W.subIn K (.ref D) (.type "BaseException") == some true) = true then PySem.W.kitCls K (.ref C) (.ref D) else none) = _
  rw [if_pos e1]
  exact (T.kit T' h2).1
end
theorem lt_nil {P : Nat → Prop} : ∀ i, i < 0 → P i := fun i h => absurd h (Nat.not_lt_zero i)
theorem lt_cons {P : Nat → Prop} {n : Nat} (h : P n) (t : ∀ i, i < n → P i) : ∀ i, i < n + 1 → P i := fun i hi => (Nat.lt_succ_iff_lt_or_eq.mp hi).elim (t i) fun e => e ▸ h
theorem ndB_ok {c : Addr} {l : List Addr} (h : ndB c l = true) {i j : Nat} (hi : i < 40) (hj : j < 40) : decide (l.getD j 0 = l.getD i 0) = decide (i = j) ∧ c ≠ l.getD i 0 := by
  unfold ndB at h
  have h1 := List.all_eq_true.mp h i (List.mem_range.mpr hi)
  rw [Bool.and_eq_true] at h1
  have h2 := List.all_eq_true.mp h1.1 j (List.mem_range.mpr hj)
  have h3 := h1.2
  refine ⟨?_, ?_⟩
  · have e := beq_iff_eq.mp h2
    by_cases q : i = j
    · subst q
      simp
    · rw [decide_eq_false q]
      have : (l.getD i 0 == l.getD j 0) = false := by rw [e]; simpa using q
      exact decide_eq_false fun z => by rw [z] at this; simp at this
  · intro z
    rw [← z] at h3
    simp at h3
section
variable {P : Program} {w : World} {K : PySem.W.Frag} {mg : Str → Option Value} {base : Heap} {x : Str} {C f : Addr} {fd : FuncData} {ps : List Str} {n m : Nat} {fs : List V → List (Str × V)} {k k2 : Str}
theorem mkE_p (gm : mg x = some (.ref C)) (T : OexC K C) (iC : PySem.W.findIn K (.ref C) "__init__" = some (some (.ref f))) (tI : PySem.W.typeIn K (.ref f) = some (.type "function")) (F : FnG P w K mg base CX0 1 f fd ps (spStore C m fs)) (b : Binds K fd ps []) (h : m + 1 = ps.length) : MakE P w K mg base 1 x C m [] byPlace fs :=
  ⟨f, fd, ps, _, byPlace, m, gm, T, iC, tI, F, kbn_place b (m + 1) h, fun a xs ys h1 h2 => ⟨rfl, h1⟩⟩
theorem mkE_n (gm : mg x = some (.ref C)) (T : OexC K C) (iC : PySem.W.findIn K (.ref C) "__init__" = some (some (.ref f))) (tI : PySem.W.typeIn K (.ref f) = some (.type "function")) (F : FnG P w K mg base CX0 1 f fd ps (spStore C m fs)) {ks : List Str} (hm : ks.length = m) (b : KBn K fd ps 1 ks (fun us ws => us ++ ws) both) : MakE P w K mg base 1 x C 0 ks names fs :=
  ⟨f, fd, ps, _, both, m, gm, T, iC, tI, F, b, fun a xs ys h1 h2 => by
    have e : xs = [] := List.eq_nil_of_length_eq_zero h1
    subst e
    exact ⟨rfl, h2.trans hm⟩⟩
theorem mkE_m (gm : mg x = some (.ref C)) (T : OexC K C) (iC : PySem.W.findIn K (.ref C) "__init__" = some (some (.ref f))) (tI : PySem.W.typeIn K (.ref f) = some (.type "function")) (F : FnG P w K mg base CX0 1 f fd ps (spStore C 2 fs)) (b : KBn K fd ps 1 [k, k2] (fun us ws => us ++ ws.reverse) (fun xs ys => xs ++ ys.reverse)) : MakE P w K mg base 1 x C 0 [k, k2] rev2 fs :=
  ⟨f, fd, ps, _, _, 2, gm, T, iC, tI, F, b, fun a xs ys h1 h2 => by
    have e : xs = [] := List.eq_nil_of_length_eq_zero h1
    subst e
    match ys, h2 with
    | [u, v], _ => exact ⟨rfl, rfl⟩⟩
theorem mkE_q (gm : mg x = some (.ref C)) (T : OexC K C) (iC : PySem.W.findIn K (.ref C) "__init__" = some (some (.ref f))) (tI : PySem.W.typeIn K (.ref f) = some (.type "function")) (F : FnG P w K mg base CX0 1 f fd ps (spStore C 2 fs)) (b : KBn K fd ps 2 [k] (fun us ws => us ++ ws) both) : MakE P w K mg base 1 x C 1 [k] both fs :=
  ⟨f, fd, ps, _, both, 2, gm, T, iC, tI, F, b, fun a xs ys h1 h2 => ⟨rfl, by show (xs ++ ys).length = 2; rw [List.length_append, h1, h2]; rfl⟩⟩
end
theorem all_mk {l : PySem.W.OpenLaw} {w : World} {K : PySem.W.Frag} {h : Heap} {mg : Str → Option Value} {fa CS CR cE dt fi e0 e1 e2 e3 e4 e5 e6 e7 e8 e9 e10 e11 e12 e13 e14 e15 e16 e17 e18 e19 e20 e21 e22 e23 e24 e25 e26 e27 e28 e29 e30 e31 e32 e33 e34 e35 e36 e37 e38 e39 xf0 xf1 xf2 xf3 xf4 xf5 xf6 xf7 xf8 xf9 xf10 xf11 xf12 xf13 xf14 xf15 xf16 xf17 xf18 xf19 xf20 xf21 xf22 xf23 xf24 xf25 xf26 xf27 xf28 xf29 xf30 xf31 xf32 xf33 xf34 xf35 xf36 f0 f1 f2 f3 f4 f5 f6 f7 f8 f9 f10 f11 f12 f13 f14 f15 f16 f17 f18 f19 f20 f21 f22 f23 : Addr} (X : K.In h) (G : h.Ns mainGlobals mg) (hfa : mg "law" = some (.ref fa))
    {odi ani odd od0 an0 od1 an1 od2 an2 od3 an3 od4 an4 od5 an5 od6 an6 od7 an7 od8 an8 od9 an9 od10 an10 od11 an11 od12 an12 od13 an13 od14 an14 od15 an15 od16 an16 od17 an17 od18 an18 od19 an19 od20 an20 od21 an21 od22 an22 od23 an23 xod0 xan0 xod1 xan1 xod2 xan2 xod3 xan3 xod4 xan4 xod5 xan5 xod6 xan6 xod7 xan7 xod8 xan8 xod9 xan9 xod10 xan10 xod11 xan11 xod12 xan12 xod13 xan13 xod14 xan14 xod15 xan15 xod16 xan16 xod17 xan17 xod18 xan18 xod19 xan19 xod20 xan20 xod21 xan21 xod22 xan22 xod23 xan23 xod24 xan24 xod25 xan25 xod26 xan26 xod27 xan27 xod28 xan28 xod29 xan29 xod30 xan30 xod31 xan31 xod32 xan32 xod33 xan33 xod34 xan34 xod35 xan35 xod36 xan36 xdd0 xdd1 xdd2 xdd3 xdd4 xdd5 xdd6 xdd7 xdd8 xdd9 xdd10 xdd11 xdd12 xdd13 xdd14 xdd15 xdd16 xdd17 xdd18 xdd19 xdd20 xdd21 xdd22 xdd23 xdd24 xdd25 xdd26 xdd27 xdd28 xdd29 xdd30 xdd31 xdd32 xdd33 xdd34 xdd35 xdd36 xdd37 xdd38 xdd39 : Option Addr} {sli sld sl0 sl1 sl2 sl3 sl4 sl5 sl6 sl7 sl8 sl9 sl10 sl11 sl12 sl13 sl14 sl15 sl16 sl17 sl18 sl19 sl20 sl21 sl22 sl23 xsl0 xsl1 xsl2 xsl3 xsl4 xsl5 xsl6 xsl7 xsl8 xsl9 xsl10 xsl11 xsl12 xsl13 xsl14 xsl15 xsl16 xsl17 xsl18 xsl19 xsl20 xsl21 xsl22 xsl23 xsl24 xsl25 xsl26 xsl27 xsl28 xsl29 xsl30 xsl31 xsl32 xsl33 xsl34 xsl35 xsl36 : Array (Option Value)} {oci kVi dci pmi cdi cti ocd oc0 kV0 dc0 pm0 cd0 ct0 oc1 kV1 dc1 pm1 cd1 ct1 oc2 kV2 dc2 pm2 cd2 ct2 oc3 kV3 dc3 pm3 cd3 ct3 oc4 kV4 dc4 pm4 cd4 ct4 oc5 kV5 dc5 pm5 cd5 ct5 oc6 kV6 dc6 pm6 cd6 ct6 oc7 kV7 dc7 pm7 cd7 ct7 oc8 kV8 dc8 pm8 cd8 ct8 oc9 kV9 dc9 pm9 cd9 ct9 oc10 kV10 dc10 pm10 cd10 ct10 oc11 kV11 dc11 pm11 cd11 ct11 oc12 kV12 dc12 pm12 cd12 ct12 oc13 kV13 dc13 pm13 cd13 ct13 oc14 kV14 dc14 pm14 cd14 ct14 oc15 kV15 dc15 pm15 cd15 ct15 oc16 kV16 dc16 pm16 cd16 ct16 oc17 kV17 dc17 pm17 cd17 ct17 oc18 kV18 dc18 pm18 cd18 ct18 oc19 kV19 dc19 pm19 cd19 ct19 oc20 kV20 dc20 pm20 cd20 ct20 oc21 kV21 dc21 pm21 cd21 ct21 oc22 kV22 dc22 pm22 cd22 ct22 oc23 kV23 dc23 pm23 cd23 ct23 xoc0 xkV0 xdc0 xpm0 xcd0 xct0 xoc1 xkV1 xdc1 xpm1 xcd1 xct1 xoc2 xkV2 xdc2 xpm2 xcd2 xct2 xoc3 xkV3 xdc3 xpm3 xcd3 xct3 xoc4 xkV4 xdc4 xpm4 xcd4 xct4 xoc5 xkV5 xdc5 xpm5 xcd5 xct5 xoc6 xkV6 xdc6 xpm6 xcd6 xct6 xoc7 xkV7 xdc7 xpm7 xcd7 xct7 xoc8 xkV8 xdc8 xpm8 xcd8 xct8 xoc9 xkV9 xdc9 xpm9 xcd9 xct9 xoc10 xkV10 xdc10 xpm10 xcd10 xct10 xoc11 xkV11 xdc11 xpm11 xcd11 xct11 xoc12 xkV12 xdc12 xpm12 xcd12 xct12 xoc13 xkV13 xdc13 xpm13 xcd13 xct13 xoc14 xkV14 xdc14 xpm14 xcd14 xct14 xoc15 xkV15 xdc15 xpm15 xcd15 xct15 xoc16 xkV16 xdc16 xpm16 xcd16 xct16 xoc17 xkV17 xdc17 xpm17 xcd17 xct17 xoc18 xkV18 xdc18 xpm18 xcd18 xct18 xoc19 xkV19 xdc19 xpm19 xcd19 xct19 xoc20 xkV20 xdc20 xpm20 xcd20 xct20 xoc21 xkV21 xdc21 xpm21 xcd21 xct21 xoc22 xkV22 xdc22 xpm22 xcd22 xct22 xoc23 xkV23 xdc23 xpm23 xcd23 xct23 xoc24 xkV24 xdc24 xpm24 xcd24 xct24 xoc25 xkV25 xdc25 xpm25 xcd25 xct25 xoc26 xkV26 xdc26 xpm26 xcd26 xct26 xoc27 xkV27 xdc27 xpm27 xcd27 xct27 xoc28 xkV28 xdc28 xpm28 xcd28 xct28 xoc29 xkV29 xdc29 xpm29 xcd29 xct29 xoc30 xkV30 xdc30 xpm30 xcd30 xct30 xoc31 xkV31 xdc31 xpm31 xcd31 xct31 xoc32 xkV32 xdc32 xpm32 xcd32 xct32 xoc33 xkV33 xdc33 xpm33 xcd33 xct33 xoc34 xkV34 xdc34 xpm34 xcd34 xct34 xoc35 xkV35 xdc35 xpm35 xcd35 xct35 xoc36 xkV36 xdc36 xpm36 xcd36 xct36 : Value} {tkd : Tok} {md tN tS : Nat}
    {xnm0 xq0 xnm1 xq1 xnm2 xq2 xnm3 xq3 xnm4 xq4 xnm5 xq5 xnm6 xq6 xnm7 xq7 xnm8 xq8 xnm9 xq9 xnm10 xq10 xnm11 xq11 xnm12 xq12 xnm13 xq13 xnm14 xq14 xnm15 xq15 xnm16 xq16 xnm17 xq17 xnm18 xq18 xnm19 xq19 xnm20 xq20 xnm21 xq21 xnm22 xq22 xnm23 xq23 xnm24 xq24 xnm25 xq25 xnm26 xq26 xnm27 xq27 xnm28 xq28 xnm29 xq29 xnm30 xq30 xnm31 xq31 xnm32 xq32 xnm33 xq33 xnm34 xq34 xnm35 xq35 xnm36 xq36 xnm37 xq37 xnm38 xq38 xnm39 xq39 : Str} {xN0 xN1 xN2 xN3 xN4 xN5 xN6 xN7 xN8 xN9 xN10 xN11 xN12 xN13 xN14 xN15 xN16 xN17 xN18 xN19 xN20 xN21 xN22 xN23 xN24 xN25 xN26 xN27 xN28 xN29 xN30 xN31 xN32 xN33 xN34 xN35 xN36 xN37 xN38 xN39 : Addr} {xbs0 xsub0 xbs1 xsub1 xbs2 xsub2 xbs3 xsub3 xbs4 xsub4 xbs5 xsub5 xbs6 xsub6 xbs7 xsub7 xbs8 xsub8 xbs9 xsub9 xbs10 xsub10 xbs11 xsub11 xbs12 xsub12 xbs13 xsub13 xbs14 xsub14 xbs15 xsub15 xbs16 xsub16 xbs17 xsub17 xbs18 xsub18 xbs19 xsub19 xbs20 xsub20 xbs21 xsub21 xbs22 xsub22 xbs23 xsub23 xbs24 xsub24 xbs25 xsub25 xbs26 xsub26 xbs27 xsub27 xbs28 xsub28 xbs29 xsub29 xbs30 xsub30 xbs31 xsub31 xbs32 xsub32 xbs33 xsub33 xbs34 xsub34 xbs35 xsub35 xbs36 xsub36 xbs37 xsub37 xbs38 xsub38 xbs39 xsub39 : List Value} {xsn0 xsn1 xsn2 xsn3 xsn4 xsn5 xsn6 xsn7 xsn8 xsn9 xsn10 xsn11 xsn12 xsn13 xsn14 xsn15 xsn16 xsn17 xsn18 xsn19 xsn20 xsn21 xsn22 xsn23 xsn24 xsn25 xsn26 xsn27 xsn28 xsn29 xsn30 xsn31 xsn32 xsn33 xsn34 xsn35 xsn36 xsn37 xsn38 xsn39 : List Str} {xab0 xab1 xab2 xab3 xab4 xab5 xab6 xab7 xab8 xab9 xab10 xab11 xab12 xab13 xab14 xab15 xab16 xab17 xab18 xab19 xab20 xab21 xab22 xab23 xab24 xab25 xab26 xab27 xab28 xab29 xab30 xab31 xab32 xab33 xab34 xab35 xab36 xab37 xab38 xab39 : Bool} {xcol0 xcol1 xcol2 xcol3 xcol4 xcol5 xcol6 xcol7 xcol8 xcol9 xcol10 xcol11 xcol12 xcol13 xcol14 xcol15 xcol16 xcol17 xcol18 xcol19 xcol20 xcol21 xcol22 xcol23 xcol24 xcol25 xcol26 xcol27 xcol28 xcol29 xcol30 xcol31 xcol32 xcol33 xcol34 xcol35 xcol36 xcol37 xcol38 xcol39 : Option Bool} {xa0 xb0 xc0 xd0 xe0 xa1 xb1 xc1 xd1 xe1 xa2 xb2 xc2 xd2 xe2 xa3 xb3 xc3 xd3 xe3 xa4 xb4 xc4 xd4 xe4 xa5 xb5 xc5 xd5 xe5 xa6 xb6 xc6 xd6 xe6 xa7 xb7 xc7 xd7 xe7 xa8 xb8 xc8 xd8 xe8 xa9 xb9 xc9 xd9 xe9 xa10 xb10 xc10 xd10 xe10 xa11 xb11 xc11 xd11 xe11 xa12 xb12 xc12 xd12 xe12 xa13 xb13 xc13 xd13 xe13 xa14 xb14 xc14 xd14 xe14 xa15 xb15 xc15 xd15 xe15 xa16 xb16 xc16 xd16 xe16 xa17 xb17 xc17 xd17 xe17 xa18 xb18 xc18 xd18 xe18 xa19 xb19 xc19 xd19 xe19 xa20 xb20 xc20 xd20 xe20 xa21 xb21 xc21 xd21 xe21 xa22 xb22 xc22 xd22 xe22 xa23 xb23 xc23 xd23 xe23 xa24 xb24 xc24 xd24 xe24 xa25 xb25 xc25 xd25 xe25 xa26 xb26 xc26 xd26 xe26 xa27 xb27 xc27 xd27 xe27 xa28 xb28 xc28 xd28 xe28 xa29 xb29 xc29 xd29 xe29 xa30 xb30 xc30 xd30 xe30 xa31 xb31 xc31 xd31 xe31 xa32 xb32 xc32 xd32 xe32 xa33 xb33 xc33 xd33 xe33 xa34 xb34 xc34 xd34 xe34 xa35 xb35 xc35 xd35 xe35 xa36 xb36 xc36 xd36 xe36 xa37 xb37 xc37 xd37 xe37 xa38 xb38 xc38 xd38 xe38 xa39 xb39 xc39 xd39 xe39 : Option Value}
    (aS : PySem.W.nsIn K mainGlobals "Space" = some (some (.ref CS)))
    (aR : PySem.W.nsIn K mainGlobals "Ratio" = some (some (.ref CR)))
    (aE : PySem.W.nsIn K mainGlobals "EndError" = some (some (.ref cE)))
    (aG : PySem.W.nsIn K mainGlobals "gcd" = some (some (.builtin "math.gcd")))
    (a0 : PySem.W.nsIn K mainGlobals "is_integer" = some (some (.ref f0)))
    (l0 : K.lookup f0 = some ⟨oc0, od0, .func (PySem.W.fnOf "is_integer" "is_integer" (defArgs s_is_integer) (defBody s_is_integer) (defScope s_is_integer) .none kV0 dc0 pm0 an0 cd0 ct0), sl0⟩)
    (c0 : PySem.W.codeIn K cd0 "is_integer" = true)
    (k0 : PySem.W.keepIn K (.ref f0) = true)
    (a1 : PySem.W.nsIn K mainGlobals "is_list" = some (some (.ref f1)))
    (l1 : K.lookup f1 = some ⟨oc1, od1, .func (PySem.W.fnOf "is_list" "is_list" (defArgs s_is_list) (defBody s_is_list) (defScope s_is_list) .none kV1 dc1 pm1 an1 cd1 ct1), sl1⟩)
    (c1 : PySem.W.codeIn K cd1 "is_list" = true)
    (k1 : PySem.W.keepIn K (.ref f1) = true)
    (a2 : PySem.W.nsIn K mainGlobals "is_from" = some (some (.ref f2)))
    (l2 : K.lookup f2 = some ⟨oc2, od2, .func (PySem.W.fnOf "is_from" "is_from" (defArgs s_is_from) (defBody s_is_from) (defScope s_is_from) .none kV2 dc2 pm2 an2 cd2 ct2), sl2⟩)
    (c2 : PySem.W.codeIn K cd2 "is_from" = true)
    (k2 : PySem.W.keepIn K (.ref f2) = true)
    (a3 : PySem.W.findIn K (.ref CS) "__init__" = some (some (.ref f3)))
    (i3 : PySem.W.isFn K (.ref f3) = true)
    (l3 : K.lookup f3 = some ⟨oc3, od3, .func (PySem.W.fnOf "__init__" "Space.__init__" (defArgs s_Space___init__) (defBody s_Space___init__) (defScope s_Space___init__) .none kV3 dc3 pm3 an3 cd3 ct3), sl3⟩)
    (c3 : PySem.W.codeIn K cd3 "Space.__init__" = true)
    (k3 : PySem.W.keepIn K (.ref f3) = true)
    (a4 : PySem.W.findIn K (.ref CS) "__eq__" = some (some (.ref f4)))
    (i4 : PySem.W.isFn K (.ref f4) = true)
    (l4 : K.lookup f4 = some ⟨oc4, od4, .func (PySem.W.fnOf "__eq__" "Space.__eq__" (defArgs s_Space___eq__) (defBody s_Space___eq__) (defScope s_Space___eq__) .none kV4 dc4 pm4 an4 cd4 ct4), sl4⟩)
    (c4 : PySem.W.codeIn K cd4 "Space.__eq__" = true)
    (k4 : PySem.W.keepIn K (.ref f4) = true)
    (a5 : PySem.W.findIn K (.ref CR) "__eq__" = some (some (.ref f5)))
    (i5 : PySem.W.isFn K (.ref f5) = true)
    (l5 : K.lookup f5 = some ⟨oc5, od5, .func (PySem.W.fnOf "__eq__" "Ratio.__eq__" (defArgs s_Ratio___eq__) (defBody s_Ratio___eq__) (defScope s_Ratio___eq__) .none kV5 dc5 pm5 an5 cd5 ct5), sl5⟩)
    (c5 : PySem.W.codeIn K cd5 "Ratio.__eq__" = true)
    (k5 : PySem.W.keepIn K (.ref f5) = true)
    (a6 : PySem.W.nsIn K mainGlobals "is_number" = some (some (.ref f6)))
    (l6 : K.lookup f6 = some ⟨oc6, od6, .func (PySem.W.fnOf "is_number" "is_number" (defArgs s_is_number) (defBody s_is_number) (defScope s_is_number) .none kV6 dc6 pm6 an6 cd6 ct6), sl6⟩)
    (c6 : PySem.W.codeIn K cd6 "is_number" = true)
    (k6 : PySem.W.keepIn K (.ref f6) = true)
    (a7 : PySem.W.nsIn K mainGlobals "as_ratio" = some (some (.ref f7)))
    (l7 : K.lookup f7 = some ⟨oc7, od7, .func (PySem.W.fnOf "as_ratio" "as_ratio" (defArgs s_as_ratio) (defBody s_as_ratio) (defScope s_as_ratio) .none kV7 dc7 pm7 an7 cd7 ct7), sl7⟩)
    (c7 : PySem.W.codeIn K cd7 "as_ratio" = true)
    (k7 : PySem.W.keepIn K (.ref f7) = true)
    (a8 : PySem.W.nsIn K mainGlobals "all_values" = some (some (.ref f8)))
    (l8 : K.lookup f8 = some ⟨oc8, od8, .func (PySem.W.fnOf "all_values" "all_values" (defArgs s_all_values) (defBody s_all_values) (defScope s_all_values) .none kV8 dc8 pm8 an8 cd8 ct8), sl8⟩)
    (c8 : PySem.W.codeIn K cd8 "all_values" = true)
    (k8 : PySem.W.keepIn K (.ref f8) = true)
    (a9 : PySem.W.nsIn K mainGlobals "is_sizes" = some (some (.ref f9)))
    (l9 : K.lookup f9 = some ⟨oc9, od9, .func (PySem.W.fnOf "is_sizes" "is_sizes" (defArgs s_is_sizes) (defBody s_is_sizes) (defScope s_is_sizes) .none kV9 dc9 pm9 an9 cd9 ct9), sl9⟩)
    (c9 : PySem.W.codeIn K cd9 "is_sizes" = true)
    (k9 : PySem.W.keepIn K (.ref f9) = true)
    (a10 : PySem.W.nsIn K mainGlobals "_law_cell" = some (some (.ref f10)))
    (l10 : K.lookup f10 = some ⟨oc10, od10, .func (PySem.W.fnOf "_law_cell" "_law_cell" (defArgs s__law_cell) (defBody s__law_cell) (defScope s__law_cell) .none kV10 dc10 pm10 an10 cd10 ct10), sl10⟩)
    (c10 : PySem.W.codeIn K cd10 "_law_cell" = true)
    (k10 : PySem.W.keepIn K (.ref f10) = true)
    (a11 : PySem.W.nsIn K mainGlobals "_law_box" = some (some (.ref f11)))
    (l11 : K.lookup f11 = some ⟨oc11, od11, .func (PySem.W.fnOf "_law_box" "_law_box" (defArgs s__law_box) (defBody s__law_box) (defScope s__law_box) .none kV11 dc11 pm11 an11 cd11 ct11), sl11⟩)
    (c11 : PySem.W.codeIn K cd11 "_law_box" = true)
    (k11 : PySem.W.keepIn K (.ref f11) = true)
    (a12 : PySem.W.nsIn K mainGlobals "_law_take" = some (some (.ref f12)))
    (l12 : K.lookup f12 = some ⟨oc12, od12, .func (PySem.W.fnOf "_law_take" "_law_take" (defArgs s__law_take) (defBody s__law_take) (defScope s__law_take) .none kV12 dc12 pm12 an12 cd12 ct12), sl12⟩)
    (c12 : PySem.W.codeIn K cd12 "_law_take" = true)
    (k12 : PySem.W.keepIn K (.ref f12) = true)
    (a13 : PySem.W.nsIn K mainGlobals "_law_by_place" = some (some (.ref f13)))
    (l13 : K.lookup f13 = some ⟨oc13, od13, .func (PySem.W.fnOf "_law_by_place" "_law_by_place" (defArgs s__law_by_place) (defBody s__law_by_place) (defScope s__law_by_place) .none kV13 dc13 pm13 an13 cd13 ct13), sl13⟩)
    (c13 : PySem.W.codeIn K cd13 "_law_by_place" = true)
    (k13 : PySem.W.keepIn K (.ref f13) = true)
    (a14 : PySem.W.nsIn K mainGlobals "_law_by_name" = some (some (.ref f14)))
    (l14 : K.lookup f14 = some ⟨oc14, od14, .func (PySem.W.fnOf "_law_by_name" "_law_by_name" (defArgs s__law_by_name) (defBody s__law_by_name) (defScope s__law_by_name) .none kV14 dc14 pm14 an14 cd14 ct14), sl14⟩)
    (c14 : PySem.W.codeIn K cd14 "_law_by_name" = true)
    (k14 : PySem.W.keepIn K (.ref f14) = true)
    (a15 : PySem.W.nsIn K mainGlobals "_law_pairs" = some (some (.ref f15)))
    (l15 : K.lookup f15 = some ⟨oc15, od15, .func (PySem.W.fnOf "_law_pairs" "_law_pairs" (defArgs s__law_pairs) (defBody s__law_pairs) (defScope s__law_pairs) .none kV15 dc15 pm15 an15 cd15 ct15), sl15⟩)
    (c15 : PySem.W.codeIn K cd15 "_law_pairs" = true)
    (k15 : PySem.W.keepIn K (.ref f15) = true)
    (a16 : PySem.W.nsIn K mainGlobals "_law_sorts" = some (some (.ref f16)))
    (l16 : K.lookup f16 = some ⟨oc16, od16, .func (PySem.W.fnOf "_law_sorts" "_law_sorts" (defArgs s__law_sorts) (defBody s__law_sorts) (defScope s__law_sorts) .none kV16 dc16 pm16 an16 cd16 ct16), sl16⟩)
    (c16 : PySem.W.codeIn K cd16 "_law_sorts" = true)
    (k16 : PySem.W.keepIn K (.ref f16) = true)
    (a17 : PySem.W.nsIn K mainGlobals "_law_kept" = some (some (.ref f17)))
    (l17 : K.lookup f17 = some ⟨oc17, od17, .func (PySem.W.fnOf "_law_kept" "_law_kept" (defArgs s__law_kept) (defBody s__law_kept) (defScope s__law_kept) .none kV17 dc17 pm17 an17 cd17 ct17), sl17⟩)
    (c17 : PySem.W.codeIn K cd17 "_law_kept" = true)
    (k17 : PySem.W.keepIn K (.ref f17) = true)
    (a18 : PySem.W.nsIn K mainGlobals "_law_is" = some (some (.ref f18)))
    (l18 : K.lookup f18 = some ⟨oc18, od18, .func (PySem.W.fnOf "_law_is" "_law_is" (defArgs s__law_is) (defBody s__law_is) (defScope s__law_is) .none kV18 dc18 pm18 an18 cd18 ct18), sl18⟩)
    (c18 : PySem.W.codeIn K cd18 "_law_is" = true)
    (k18 : PySem.W.keepIn K (.ref f18) = true)
    (a19 : PySem.W.nsIn K mainGlobals "_law_thing" = some (some (.ref f19)))
    (l19 : K.lookup f19 = some ⟨oc19, od19, .func (PySem.W.fnOf "_law_thing" "_law_thing" (defArgs s__law_thing) (defBody s__law_thing) (defScope s__law_thing) .none kV19 dc19 pm19 an19 cd19 ct19), sl19⟩)
    (c19 : PySem.W.codeIn K cd19 "_law_thing" = true)
    (k19 : PySem.W.keepIn K (.ref f19) = true)
    (a20 : PySem.W.nsIn K mainGlobals "_law_all_right" = some (some (.ref f20)))
    (l20 : K.lookup f20 = some ⟨oc20, od20, .func (PySem.W.fnOf "_law_all_right" "_law_all_right" (defArgs s__law_all_right) (defBody s__law_all_right) (defScope s__law_all_right) .none kV20 dc20 pm20 an20 cd20 ct20), sl20⟩)
    (c20 : PySem.W.codeIn K cd20 "_law_all_right" = true)
    (k20 : PySem.W.keepIn K (.ref f20) = true)
    (a21 : PySem.W.nsIn K mainGlobals "_law_raised" = some (some (.ref f21)))
    (l21 : K.lookup f21 = some ⟨oc21, od21, .func (PySem.W.fnOf "_law_raised" "_law_raised" (defArgs s__law_raised) (defBody s__law_raised) (defScope s__law_raised) .none kV21 dc21 pm21 an21 cd21 ct21), sl21⟩)
    (c21 : PySem.W.codeIn K cd21 "_law_raised" = true)
    (k21 : PySem.W.keepIn K (.ref f21) = true)
    (a22 : PySem.W.nsIn K mainGlobals "_law_caught" = some (some (.ref f22)))
    (l22 : K.lookup f22 = some ⟨oc22, od22, .func (PySem.W.fnOf "_law_caught" "_law_caught" (defArgs s__law_caught) (defBody s__law_caught) (defScope s__law_caught) .none kV22 dc22 pm22 an22 cd22 ct22), sl22⟩)
    (c22 : PySem.W.codeIn K cd22 "_law_caught" = true)
    (k22 : PySem.W.keepIn K (.ref f22) = true)
    (a23 : PySem.W.nsIn K mainGlobals "law" = some (some (.ref f23)))
    (l23 : K.lookup f23 = some ⟨oc23, od23, .func (PySem.W.fnOf "law" "law" (defArgs s_law) (defBody s_law) (defScope s_law) .none kV23 dc23 pm23 an23 cd23 ct23), sl23⟩)
    (c23 : PySem.W.codeIn K cd23 "law" = true)
    (k23 : PySem.W.keepIn K (.ref f23) = true)
    (ai : PySem.W.findIn K (.ref CR) "__init__" = some (some (.ref fi)))
    (ii : PySem.W.isFn K (.ref fi) = true)
    (li : K.lookup fi = some ⟨oci, odi, .func (PySem.W.fnOf "__init__" "Ratio.__init__" (defArgs s_Ratio___init__) (defBody s_Ratio___init__) (defScope s_Ratio___init__) (.ref dt) kVi dci pmi ani cdi cti), sli⟩)
    (ci : PySem.W.codeIn K cdi "Ratio.__init__" = true)
    (ld : K.lookup dt = some ⟨ocd, odd, .seq #[.int 1 tkd] md, sld⟩)
    (pgCS : PySem.W.plainGet K CS Str.empty = true)
    (hdCS : PySem.W.hasDictIn K CS = true)
    (poCS : PySem.W.plainOver K CS = true)
    (saCS : PySem.W.findIn K (.ref CS) "__setattr__" = some (some (.builtin "object.__setattr__")))
    (mkCS : PySem.W.makesIn K CS = true)
    (kcCS : PySem.W.keepIn K (.ref CS) = true)
    (haCS : PySem.W.findIn K (.ref CS) "__class__" = some (some (.builtin "object.__class__")))
    (hmCS : PySem.W.mroIn K CS (.type "object") = some true)
    (soCS : PySem.W.subIn K (.ref CS) (.type "object") = some true)
    (neCS : PySem.W.findIn K (.ref CS) "__ne__" = some (some (.builtin "object.__ne__")))
    (pgCR : PySem.W.plainGet K CR Str.empty = true)
    (hdCR : PySem.W.hasDictIn K CR = true)
    (poCR : PySem.W.plainOver K CR = true)
    (saCR : PySem.W.findIn K (.ref CR) "__setattr__" = some (some (.builtin "object.__setattr__")))
    (mkCR : PySem.W.makesIn K CR = true)
    (kcCR : PySem.W.keepIn K (.ref CR) = true)
    (haCR : PySem.W.findIn K (.ref CR) "__class__" = some (some (.builtin "object.__class__")))
    (hmCR : PySem.W.mroIn K CR (.type "object") = some true)
    (soCR : PySem.W.subIn K (.ref CR) (.type "object") = some true)
    (neCR : PySem.W.findIn K (.ref CR) "__ne__" = some (some (.builtin "object.__ne__")))
    (hn : PySem.W.specialIn K (.builtin "object.__class__") "__get__" = some (some (.builtin "getset_descriptor.__get__")))
    (ht : PySem.W.takesIn K (.builtin "object.__class__") = some true)
    (nS : PySem.W.findIn K (.ref CS) "sizes" = some none)
    (nT : PySem.W.findIn K (.ref CS) "_stores" = some none)
    (nN : PySem.W.findIn K (.ref CS) "never" = some none)
    (nU : PySem.W.findIn K (.ref CR) "top" = some none)
    (nB : PySem.W.findIn K (.ref CR) "bottom" = some none)
    (qN : PySem.W.kitOne K (.type "NoneType") (.ref CS) = some false)
    (qL : PySem.W.kitOne K (.type "list") (.ref CS) = some false)
    (qT : PySem.W.kitOne K (.type "tuple") (.ref CS) = some false)
    (qS : PySem.W.kitOne K (.type "str") (.ref CS) = some false)
    (qI : PySem.W.kitOne K (.type "int") (.ref CS) = some false)
    (qB : PySem.W.kitOne K (.type "bool") (.ref CS) = some false)
    (z_isinstance : PySem.W.nsIn K mainGlobals "isinstance" = some none)
    (z_int : PySem.W.nsIn K mainGlobals "int" = some none)
    (z_bool : PySem.W.nsIn K mainGlobals "bool" = some none)
    (z_list : PySem.W.nsIn K mainGlobals "list" = some none)
    (z_tuple : PySem.W.nsIn K mainGlobals "tuple" = some none)
    (z_dict : PySem.W.nsIn K mainGlobals "dict" = some none)
    (z_len : PySem.W.nsIn K mainGlobals "len" = some none)
    (z_abs : PySem.W.nsIn K mainGlobals "abs" = some none)
    (z_max : PySem.W.nsIn K mainGlobals "max" = some none)
    (z_min : PySem.W.nsIn K mainGlobals "min" = some none)
    (z_sum : PySem.W.nsIn K mainGlobals "sum" = some none)
    (z_repr : PySem.W.nsIn K mainGlobals "repr" = some none)
    (z_all : PySem.W.nsIn K mainGlobals "all" = some none)
    (z_range : PySem.W.nsIn K mainGlobals "range" = some none)
    (z_ValueError : PySem.W.nsIn K mainGlobals "ValueError" = some none)
    (gN : PySem.W.nsIn K mainGlobals "MOST_NAMES" = some (some (.int 3 tN)))
    (gS : PySem.W.nsIn K mainGlobals "MOST_STORES" = some (some (.int 8 tS)))
    (isE : PySem.W.isClsIn K cE = true)
    (tyE : PySem.W.typeIn K (.ref cE) = some (.type "type"))
    (baE : PySem.W.subIn K (.ref cE) (.type "BaseException") = some true)
    (xg0 : PySem.W.nsIn K mainGlobals "InvalidNumber" = some (some (.ref e0)))
    (xl0 : K.lookup e0 = some (excClassObj xnm0 xq0 e0 xN0 xbs0 [.ref cE, .type "ValueError", .type "Exception", .type "BaseException", .type "object"] true xsn0 xsub0 xab0 xcol0 xdd0 xa0 xb0 xc0 xd0 xe0 "ValueError.__new__"))
    (xs0 : PySem.W.findIn K (.ref e0) "__setattr__" = some (some (.builtin "object.__setattr__")))
    (xga0 : PySem.W.findIn K (.ref e0) "__getattribute__" = some (some (.builtin "BaseException.__getattribute__")))
    (xgg0 : PySem.W.findIn K (.ref e0) "__getattr__" = some none)
    (xca0 : PySem.W.findIn K (.ref e0) "__class__" = some (some (.builtin "object.__class__")))
    (xk0 : PySem.W.keepIn K (.ref e0) = true)
    (xn0_0 : PySem.W.findIn K (.ref e0) "given" = some none)
    (xi0 : PySem.W.findIn K (.ref e0) "__init__" = some (some (.ref xf0)))
    (xt0 : PySem.W.typeIn K (.ref xf0) = some (.type "function"))
    (xfl0 : K.lookup xf0 = some ⟨xoc0, xod0, .func (PySem.W.fnOf "__init__" "InvalidNumber.__init__" (defArgs s_InvalidNumber___init__) (defBody s_InvalidNumber___init__) (defScope s_InvalidNumber___init__) .none xkV0 xdc0 xpm0 xan0 xcd0 xct0), xsl0⟩)
    (xfc0 : PySem.W.codeIn K xcd0 "InvalidNumber.__init__" = true)
    (xfk0 : PySem.W.keepIn K (.ref xf0) = true)
    (xg1 : PySem.W.nsIn K mainGlobals "InvalidSizes" = some (some (.ref e1)))
    (xl1 : K.lookup e1 = some (excClassObj xnm1 xq1 e1 xN1 xbs1 [.ref cE, .type "ValueError", .type "Exception", .type "BaseException", .type "object"] true xsn1 xsub1 xab1 xcol1 xdd1 xa1 xb1 xc1 xd1 xe1 "ValueError.__new__"))
    (xs1 : PySem.W.findIn K (.ref e1) "__setattr__" = some (some (.builtin "object.__setattr__")))
    (xga1 : PySem.W.findIn K (.ref e1) "__getattribute__" = some (some (.builtin "BaseException.__getattribute__")))
    (xgg1 : PySem.W.findIn K (.ref e1) "__getattr__" = some none)
    (xca1 : PySem.W.findIn K (.ref e1) "__class__" = some (some (.builtin "object.__class__")))
    (xk1 : PySem.W.keepIn K (.ref e1) = true)
    (xn1_0 : PySem.W.findIn K (.ref e1) "given" = some none)
    (xi1 : PySem.W.findIn K (.ref e1) "__init__" = some (some (.ref xf1)))
    (xt1 : PySem.W.typeIn K (.ref xf1) = some (.type "function"))
    (xfl1 : K.lookup xf1 = some ⟨xoc1, xod1, .func (PySem.W.fnOf "__init__" "InvalidSizes.__init__" (defArgs s_InvalidSizes___init__) (defBody s_InvalidSizes___init__) (defScope s_InvalidSizes___init__) .none xkV1 xdc1 xpm1 xan1 xcd1 xct1), xsl1⟩)
    (xfc1 : PySem.W.codeIn K xcd1 "InvalidSizes.__init__" = true)
    (xfk1 : PySem.W.keepIn K (.ref xf1) = true)
    (xg2 : PySem.W.nsIn K mainGlobals "InvalidStore" = some (some (.ref e2)))
    (xl2 : K.lookup e2 = some (excClassObj xnm2 xq2 e2 xN2 xbs2 [.ref cE, .type "ValueError", .type "Exception", .type "BaseException", .type "object"] true xsn2 xsub2 xab2 xcol2 xdd2 xa2 xb2 xc2 xd2 xe2 "ValueError.__new__"))
    (xs2 : PySem.W.findIn K (.ref e2) "__setattr__" = some (some (.builtin "object.__setattr__")))
    (xga2 : PySem.W.findIn K (.ref e2) "__getattribute__" = some (some (.builtin "BaseException.__getattribute__")))
    (xgg2 : PySem.W.findIn K (.ref e2) "__getattr__" = some none)
    (xca2 : PySem.W.findIn K (.ref e2) "__class__" = some (some (.builtin "object.__class__")))
    (xk2 : PySem.W.keepIn K (.ref e2) = true)
    (xn2_0 : PySem.W.findIn K (.ref e2) "given" = some none)
    (xi2 : PySem.W.findIn K (.ref e2) "__init__" = some (some (.ref xf2)))
    (xt2 : PySem.W.typeIn K (.ref xf2) = some (.type "function"))
    (xfl2 : K.lookup xf2 = some ⟨xoc2, xod2, .func (PySem.W.fnOf "__init__" "InvalidStore.__init__" (defArgs s_InvalidStore___init__) (defBody s_InvalidStore___init__) (defScope s_InvalidStore___init__) .none xkV2 xdc2 xpm2 xan2 xcd2 xct2), xsl2⟩)
    (xfc2 : PySem.W.codeIn K xcd2 "InvalidStore.__init__" = true)
    (xfk2 : PySem.W.keepIn K (.ref xf2) = true)
    (xg3 : PySem.W.nsIn K mainGlobals "InvalidValues" = some (some (.ref e3)))
    (xl3 : K.lookup e3 = some (excClassObj xnm3 xq3 e3 xN3 xbs3 [.ref cE, .type "ValueError", .type "Exception", .type "BaseException", .type "object"] true xsn3 xsub3 xab3 xcol3 xdd3 xa3 xb3 xc3 xd3 xe3 "ValueError.__new__"))
    (xs3 : PySem.W.findIn K (.ref e3) "__setattr__" = some (some (.builtin "object.__setattr__")))
    (xga3 : PySem.W.findIn K (.ref e3) "__getattribute__" = some (some (.builtin "BaseException.__getattribute__")))
    (xgg3 : PySem.W.findIn K (.ref e3) "__getattr__" = some none)
    (xca3 : PySem.W.findIn K (.ref e3) "__class__" = some (some (.builtin "object.__class__")))
    (xk3 : PySem.W.keepIn K (.ref e3) = true)
    (xn3_0 : PySem.W.findIn K (.ref e3) "given" = some none)
    (xi3 : PySem.W.findIn K (.ref e3) "__init__" = some (some (.ref xf3)))
    (xt3 : PySem.W.typeIn K (.ref xf3) = some (.type "function"))
    (xfl3 : K.lookup xf3 = some ⟨xoc3, xod3, .func (PySem.W.fnOf "__init__" "InvalidValues.__init__" (defArgs s_InvalidValues___init__) (defBody s_InvalidValues___init__) (defScope s_InvalidValues___init__) .none xkV3 xdc3 xpm3 xan3 xcd3 xct3), xsl3⟩)
    (xfc3 : PySem.W.codeIn K xcd3 "InvalidValues.__init__" = true)
    (xfk3 : PySem.W.keepIn K (.ref xf3) = true)
    (xg4 : PySem.W.nsIn K mainGlobals "InvalidLine" = some (some (.ref e4)))
    (xl4 : K.lookup e4 = some (excClassObj xnm4 xq4 e4 xN4 xbs4 [.ref cE, .type "ValueError", .type "Exception", .type "BaseException", .type "object"] true xsn4 xsub4 xab4 xcol4 xdd4 xa4 xb4 xc4 xd4 xe4 "ValueError.__new__"))
    (xs4 : PySem.W.findIn K (.ref e4) "__setattr__" = some (some (.builtin "object.__setattr__")))
    (xga4 : PySem.W.findIn K (.ref e4) "__getattribute__" = some (some (.builtin "BaseException.__getattribute__")))
    (xgg4 : PySem.W.findIn K (.ref e4) "__getattr__" = some none)
    (xca4 : PySem.W.findIn K (.ref e4) "__class__" = some (some (.builtin "object.__class__")))
    (xk4 : PySem.W.keepIn K (.ref e4) = true)
    (xn4_0 : PySem.W.findIn K (.ref e4) "given" = some none)
    (xi4 : PySem.W.findIn K (.ref e4) "__init__" = some (some (.ref xf4)))
    (xt4 : PySem.W.typeIn K (.ref xf4) = some (.type "function"))
    (xfl4 : K.lookup xf4 = some ⟨xoc4, xod4, .func (PySem.W.fnOf "__init__" "InvalidLine.__init__" (defArgs s_InvalidLine___init__) (defBody s_InvalidLine___init__) (defScope s_InvalidLine___init__) .none xkV4 xdc4 xpm4 xan4 xcd4 xct4), xsl4⟩)
    (xfc4 : PySem.W.codeIn K xcd4 "InvalidLine.__init__" = true)
    (xfk4 : PySem.W.keepIn K (.ref xf4) = true)
    (xg5 : PySem.W.nsIn K mainGlobals "InvalidSpace" = some (some (.ref e5)))
    (xl5 : K.lookup e5 = some (excClassObj xnm5 xq5 e5 xN5 xbs5 [.ref cE, .type "ValueError", .type "Exception", .type "BaseException", .type "object"] true xsn5 xsub5 xab5 xcol5 xdd5 xa5 xb5 xc5 xd5 xe5 "ValueError.__new__"))
    (xs5 : PySem.W.findIn K (.ref e5) "__setattr__" = some (some (.builtin "object.__setattr__")))
    (xga5 : PySem.W.findIn K (.ref e5) "__getattribute__" = some (some (.builtin "BaseException.__getattribute__")))
    (xgg5 : PySem.W.findIn K (.ref e5) "__getattr__" = some none)
    (xca5 : PySem.W.findIn K (.ref e5) "__class__" = some (some (.builtin "object.__class__")))
    (xk5 : PySem.W.keepIn K (.ref e5) = true)
    (xn5_0 : PySem.W.findIn K (.ref e5) "given" = some none)
    (xi5 : PySem.W.findIn K (.ref e5) "__init__" = some (some (.ref xf5)))
    (xt5 : PySem.W.typeIn K (.ref xf5) = some (.type "function"))
    (xfl5 : K.lookup xf5 = some ⟨xoc5, xod5, .func (PySem.W.fnOf "__init__" "InvalidSpace.__init__" (defArgs s_InvalidSpace___init__) (defBody s_InvalidSpace___init__) (defScope s_InvalidSpace___init__) .none xkV5 xdc5 xpm5 xan5 xcd5 xct5), xsl5⟩)
    (xfc5 : PySem.W.codeIn K xcd5 "InvalidSpace.__init__" = true)
    (xfk5 : PySem.W.keepIn K (.ref xf5) = true)
    (xg6 : PySem.W.nsIn K mainGlobals "InvalidOutcome" = some (some (.ref e6)))
    (xl6 : K.lookup e6 = some (excClassObj xnm6 xq6 e6 xN6 xbs6 [.ref cE, .type "ValueError", .type "Exception", .type "BaseException", .type "object"] true xsn6 xsub6 xab6 xcol6 xdd6 xa6 xb6 xc6 xd6 xe6 "ValueError.__new__"))
    (xs6 : PySem.W.findIn K (.ref e6) "__setattr__" = some (some (.builtin "object.__setattr__")))
    (xga6 : PySem.W.findIn K (.ref e6) "__getattribute__" = some (some (.builtin "BaseException.__getattribute__")))
    (xgg6 : PySem.W.findIn K (.ref e6) "__getattr__" = some none)
    (xca6 : PySem.W.findIn K (.ref e6) "__class__" = some (some (.builtin "object.__class__")))
    (xk6 : PySem.W.keepIn K (.ref e6) = true)
    (xn6_0 : PySem.W.findIn K (.ref e6) "given" = some none)
    (xi6 : PySem.W.findIn K (.ref e6) "__init__" = some (some (.ref xf6)))
    (xt6 : PySem.W.typeIn K (.ref xf6) = some (.type "function"))
    (xfl6 : K.lookup xf6 = some ⟨xoc6, xod6, .func (PySem.W.fnOf "__init__" "InvalidOutcome.__init__" (defArgs s_InvalidOutcome___init__) (defBody s_InvalidOutcome___init__) (defScope s_InvalidOutcome___init__) .none xkV6 xdc6 xpm6 xan6 xcd6 xct6), xsl6⟩)
    (xfc6 : PySem.W.codeIn K xcd6 "InvalidOutcome.__init__" = true)
    (xfk6 : PySem.W.keepIn K (.ref xf6) = true)
    (xg7 : PySem.W.nsIn K mainGlobals "InvalidWeights" = some (some (.ref e7)))
    (xl7 : K.lookup e7 = some (excClassObj xnm7 xq7 e7 xN7 xbs7 [.ref cE, .type "ValueError", .type "Exception", .type "BaseException", .type "object"] true xsn7 xsub7 xab7 xcol7 xdd7 xa7 xb7 xc7 xd7 xe7 "ValueError.__new__"))
    (xs7 : PySem.W.findIn K (.ref e7) "__setattr__" = some (some (.builtin "object.__setattr__")))
    (xga7 : PySem.W.findIn K (.ref e7) "__getattribute__" = some (some (.builtin "BaseException.__getattribute__")))
    (xgg7 : PySem.W.findIn K (.ref e7) "__getattr__" = some none)
    (xca7 : PySem.W.findIn K (.ref e7) "__class__" = some (some (.builtin "object.__class__")))
    (xk7 : PySem.W.keepIn K (.ref e7) = true)
    (xn7_0 : PySem.W.findIn K (.ref e7) "given" = some none)
    (xi7 : PySem.W.findIn K (.ref e7) "__init__" = some (some (.ref xf7)))
    (xt7 : PySem.W.typeIn K (.ref xf7) = some (.type "function"))
    (xfl7 : K.lookup xf7 = some ⟨xoc7, xod7, .func (PySem.W.fnOf "__init__" "InvalidWeights.__init__" (defArgs s_InvalidWeights___init__) (defBody s_InvalidWeights___init__) (defScope s_InvalidWeights___init__) .none xkV7 xdc7 xpm7 xan7 xcd7 xct7), xsl7⟩)
    (xfc7 : PySem.W.codeIn K xcd7 "InvalidWeights.__init__" = true)
    (xfk7 : PySem.W.keepIn K (.ref xf7) = true)
    (xg8 : PySem.W.nsIn K mainGlobals "InvalidLot" = some (some (.ref e8)))
    (xl8 : K.lookup e8 = some (excClassObj xnm8 xq8 e8 xN8 xbs8 [.ref cE, .type "ValueError", .type "Exception", .type "BaseException", .type "object"] true xsn8 xsub8 xab8 xcol8 xdd8 xa8 xb8 xc8 xd8 xe8 "ValueError.__new__"))
    (xs8 : PySem.W.findIn K (.ref e8) "__setattr__" = some (some (.builtin "object.__setattr__")))
    (xga8 : PySem.W.findIn K (.ref e8) "__getattribute__" = some (some (.builtin "BaseException.__getattribute__")))
    (xgg8 : PySem.W.findIn K (.ref e8) "__getattr__" = some none)
    (xca8 : PySem.W.findIn K (.ref e8) "__class__" = some (some (.builtin "object.__class__")))
    (xk8 : PySem.W.keepIn K (.ref e8) = true)
    (xn8_0 : PySem.W.findIn K (.ref e8) "given" = some none)
    (xi8 : PySem.W.findIn K (.ref e8) "__init__" = some (some (.ref xf8)))
    (xt8 : PySem.W.typeIn K (.ref xf8) = some (.type "function"))
    (xfl8 : K.lookup xf8 = some ⟨xoc8, xod8, .func (PySem.W.fnOf "__init__" "InvalidLot.__init__" (defArgs s_InvalidLot___init__) (defBody s_InvalidLot___init__) (defScope s_InvalidLot___init__) .none xkV8 xdc8 xpm8 xan8 xcd8 xct8), xsl8⟩)
    (xfc8 : PySem.W.codeIn K xcd8 "InvalidLot.__init__" = true)
    (xfk8 : PySem.W.keepIn K (.ref xf8) = true)
    (xg9 : PySem.W.nsIn K mainGlobals "InvalidLots" = some (some (.ref e9)))
    (xl9 : K.lookup e9 = some (excClassObj xnm9 xq9 e9 xN9 xbs9 [.ref cE, .type "ValueError", .type "Exception", .type "BaseException", .type "object"] true xsn9 xsub9 xab9 xcol9 xdd9 xa9 xb9 xc9 xd9 xe9 "ValueError.__new__"))
    (xs9 : PySem.W.findIn K (.ref e9) "__setattr__" = some (some (.builtin "object.__setattr__")))
    (xga9 : PySem.W.findIn K (.ref e9) "__getattribute__" = some (some (.builtin "BaseException.__getattribute__")))
    (xgg9 : PySem.W.findIn K (.ref e9) "__getattr__" = some none)
    (xca9 : PySem.W.findIn K (.ref e9) "__class__" = some (some (.builtin "object.__class__")))
    (xk9 : PySem.W.keepIn K (.ref e9) = true)
    (xn9_0 : PySem.W.findIn K (.ref e9) "given" = some none)
    (xi9 : PySem.W.findIn K (.ref e9) "__init__" = some (some (.ref xf9)))
    (xt9 : PySem.W.typeIn K (.ref xf9) = some (.type "function"))
    (xfl9 : K.lookup xf9 = some ⟨xoc9, xod9, .func (PySem.W.fnOf "__init__" "InvalidLots.__init__" (defArgs s_InvalidLots___init__) (defBody s_InvalidLots___init__) (defScope s_InvalidLots___init__) .none xkV9 xdc9 xpm9 xan9 xcd9 xct9), xsl9⟩)
    (xfc9 : PySem.W.codeIn K xcd9 "InvalidLots.__init__" = true)
    (xfk9 : PySem.W.keepIn K (.ref xf9) = true)
    (xg10 : PySem.W.nsIn K mainGlobals "InvalidPayoff" = some (some (.ref e10)))
    (xl10 : K.lookup e10 = some (excClassObj xnm10 xq10 e10 xN10 xbs10 [.ref cE, .type "ValueError", .type "Exception", .type "BaseException", .type "object"] true xsn10 xsub10 xab10 xcol10 xdd10 xa10 xb10 xc10 xd10 xe10 "ValueError.__new__"))
    (xs10 : PySem.W.findIn K (.ref e10) "__setattr__" = some (some (.builtin "object.__setattr__")))
    (xga10 : PySem.W.findIn K (.ref e10) "__getattribute__" = some (some (.builtin "BaseException.__getattribute__")))
    (xgg10 : PySem.W.findIn K (.ref e10) "__getattr__" = some none)
    (xca10 : PySem.W.findIn K (.ref e10) "__class__" = some (some (.builtin "object.__class__")))
    (xk10 : PySem.W.keepIn K (.ref e10) = true)
    (xn10_0 : PySem.W.findIn K (.ref e10) "given" = some none)
    (xi10 : PySem.W.findIn K (.ref e10) "__init__" = some (some (.ref xf10)))
    (xt10 : PySem.W.typeIn K (.ref xf10) = some (.type "function"))
    (xfl10 : K.lookup xf10 = some ⟨xoc10, xod10, .func (PySem.W.fnOf "__init__" "InvalidPayoff.__init__" (defArgs s_InvalidPayoff___init__) (defBody s_InvalidPayoff___init__) (defScope s_InvalidPayoff___init__) .none xkV10 xdc10 xpm10 xan10 xcd10 xct10), xsl10⟩)
    (xfc10 : PySem.W.codeIn K xcd10 "InvalidPayoff.__init__" = true)
    (xfk10 : PySem.W.keepIn K (.ref xf10) = true)
    (xg11 : PySem.W.nsIn K mainGlobals "InvalidText" = some (some (.ref e11)))
    (xl11 : K.lookup e11 = some (excClassObj xnm11 xq11 e11 xN11 xbs11 [.ref cE, .type "ValueError", .type "Exception", .type "BaseException", .type "object"] true xsn11 xsub11 xab11 xcol11 xdd11 xa11 xb11 xc11 xd11 xe11 "ValueError.__new__"))
    (xs11 : PySem.W.findIn K (.ref e11) "__setattr__" = some (some (.builtin "object.__setattr__")))
    (xga11 : PySem.W.findIn K (.ref e11) "__getattribute__" = some (some (.builtin "BaseException.__getattribute__")))
    (xgg11 : PySem.W.findIn K (.ref e11) "__getattr__" = some none)
    (xca11 : PySem.W.findIn K (.ref e11) "__class__" = some (some (.builtin "object.__class__")))
    (xk11 : PySem.W.keepIn K (.ref e11) = true)
    (xn11_0 : PySem.W.findIn K (.ref e11) "given" = some none)
    (xi11 : PySem.W.findIn K (.ref e11) "__init__" = some (some (.ref xf11)))
    (xt11 : PySem.W.typeIn K (.ref xf11) = some (.type "function"))
    (xfl11 : K.lookup xf11 = some ⟨xoc11, xod11, .func (PySem.W.fnOf "__init__" "InvalidText.__init__" (defArgs s_InvalidText___init__) (defBody s_InvalidText___init__) (defScope s_InvalidText___init__) .none xkV11 xdc11 xpm11 xan11 xcd11 xct11), xsl11⟩)
    (xfc11 : PySem.W.codeIn K xcd11 "InvalidText.__init__" = true)
    (xfk11 : PySem.W.keepIn K (.ref xf11) = true)
    (xg12 : PySem.W.nsIn K mainGlobals "InvalidSurrounding" = some (some (.ref e12)))
    (xl12 : K.lookup e12 = some (excClassObj xnm12 xq12 e12 xN12 xbs12 [.ref cE, .type "ValueError", .type "Exception", .type "BaseException", .type "object"] true xsn12 xsub12 xab12 xcol12 xdd12 xa12 xb12 xc12 xd12 xe12 "ValueError.__new__"))
    (xs12 : PySem.W.findIn K (.ref e12) "__setattr__" = some (some (.builtin "object.__setattr__")))
    (xga12 : PySem.W.findIn K (.ref e12) "__getattribute__" = some (some (.builtin "BaseException.__getattribute__")))
    (xgg12 : PySem.W.findIn K (.ref e12) "__getattr__" = some none)
    (xca12 : PySem.W.findIn K (.ref e12) "__class__" = some (some (.builtin "object.__class__")))
    (xk12 : PySem.W.keepIn K (.ref e12) = true)
    (xn12_0 : PySem.W.findIn K (.ref e12) "given" = some none)
    (xi12 : PySem.W.findIn K (.ref e12) "__init__" = some (some (.ref xf12)))
    (xt12 : PySem.W.typeIn K (.ref xf12) = some (.type "function"))
    (xfl12 : K.lookup xf12 = some ⟨xoc12, xod12, .func (PySem.W.fnOf "__init__" "InvalidSurrounding.__init__" (defArgs s_InvalidSurrounding___init__) (defBody s_InvalidSurrounding___init__) (defScope s_InvalidSurrounding___init__) .none xkV12 xdc12 xpm12 xan12 xcd12 xct12), xsl12⟩)
    (xfc12 : PySem.W.codeIn K xcd12 "InvalidSurrounding.__init__" = true)
    (xfk12 : PySem.W.keepIn K (.ref xf12) = true)
    (xg13 : PySem.W.nsIn K mainGlobals "InvalidPath" = some (some (.ref e13)))
    (xl13 : K.lookup e13 = some (excClassObj xnm13 xq13 e13 xN13 xbs13 [.ref cE, .type "ValueError", .type "Exception", .type "BaseException", .type "object"] true xsn13 xsub13 xab13 xcol13 xdd13 xa13 xb13 xc13 xd13 xe13 "ValueError.__new__"))
    (xs13 : PySem.W.findIn K (.ref e13) "__setattr__" = some (some (.builtin "object.__setattr__")))
    (xga13 : PySem.W.findIn K (.ref e13) "__getattribute__" = some (some (.builtin "BaseException.__getattribute__")))
    (xgg13 : PySem.W.findIn K (.ref e13) "__getattr__" = some none)
    (xca13 : PySem.W.findIn K (.ref e13) "__class__" = some (some (.builtin "object.__class__")))
    (xk13 : PySem.W.keepIn K (.ref e13) = true)
    (xn13_0 : PySem.W.findIn K (.ref e13) "given" = some none)
    (xi13 : PySem.W.findIn K (.ref e13) "__init__" = some (some (.ref xf13)))
    (xt13 : PySem.W.typeIn K (.ref xf13) = some (.type "function"))
    (xfl13 : K.lookup xf13 = some ⟨xoc13, xod13, .func (PySem.W.fnOf "__init__" "InvalidPath.__init__" (defArgs s_InvalidPath___init__) (defBody s_InvalidPath___init__) (defScope s_InvalidPath___init__) .none xkV13 xdc13 xpm13 xan13 xcd13 xct13), xsl13⟩)
    (xfc13 : PySem.W.codeIn K xcd13 "InvalidPath.__init__" = true)
    (xfk13 : PySem.W.keepIn K (.ref xf13) = true)
    (xg14 : PySem.W.nsIn K mainGlobals "InvalidPart" = some (some (.ref e14)))
    (xl14 : K.lookup e14 = some (excClassObj xnm14 xq14 e14 xN14 xbs14 [.ref cE, .type "ValueError", .type "Exception", .type "BaseException", .type "object"] true xsn14 xsub14 xab14 xcol14 xdd14 xa14 xb14 xc14 xd14 xe14 "ValueError.__new__"))
    (xs14 : PySem.W.findIn K (.ref e14) "__setattr__" = some (some (.builtin "object.__setattr__")))
    (xga14 : PySem.W.findIn K (.ref e14) "__getattribute__" = some (some (.builtin "BaseException.__getattribute__")))
    (xgg14 : PySem.W.findIn K (.ref e14) "__getattr__" = some none)
    (xca14 : PySem.W.findIn K (.ref e14) "__class__" = some (some (.builtin "object.__class__")))
    (xk14 : PySem.W.keepIn K (.ref e14) = true)
    (xn14_0 : PySem.W.findIn K (.ref e14) "given" = some none)
    (xi14 : PySem.W.findIn K (.ref e14) "__init__" = some (some (.ref xf14)))
    (xt14 : PySem.W.typeIn K (.ref xf14) = some (.type "function"))
    (xfl14 : K.lookup xf14 = some ⟨xoc14, xod14, .func (PySem.W.fnOf "__init__" "InvalidPart.__init__" (defArgs s_InvalidPart___init__) (defBody s_InvalidPart___init__) (defScope s_InvalidPart___init__) .none xkV14 xdc14 xpm14 xan14 xcd14 xct14), xsl14⟩)
    (xfc14 : PySem.W.codeIn K xcd14 "InvalidPart.__init__" = true)
    (xfk14 : PySem.W.keepIn K (.ref xf14) = true)
    (xg15 : PySem.W.nsIn K mainGlobals "InvalidSides" = some (some (.ref e15)))
    (xl15 : K.lookup e15 = some (excClassObj xnm15 xq15 e15 xN15 xbs15 [.ref cE, .type "ValueError", .type "Exception", .type "BaseException", .type "object"] true xsn15 xsub15 xab15 xcol15 xdd15 xa15 xb15 xc15 xd15 xe15 "ValueError.__new__"))
    (xs15 : PySem.W.findIn K (.ref e15) "__setattr__" = some (some (.builtin "object.__setattr__")))
    (xga15 : PySem.W.findIn K (.ref e15) "__getattribute__" = some (some (.builtin "BaseException.__getattribute__")))
    (xgg15 : PySem.W.findIn K (.ref e15) "__getattr__" = some none)
    (xca15 : PySem.W.findIn K (.ref e15) "__class__" = some (some (.builtin "object.__class__")))
    (xk15 : PySem.W.keepIn K (.ref e15) = true)
    (xn15_0 : PySem.W.findIn K (.ref e15) "given" = some none)
    (xi15 : PySem.W.findIn K (.ref e15) "__init__" = some (some (.ref xf15)))
    (xt15 : PySem.W.typeIn K (.ref xf15) = some (.type "function"))
    (xfl15 : K.lookup xf15 = some ⟨xoc15, xod15, .func (PySem.W.fnOf "__init__" "InvalidSides.__init__" (defArgs s_InvalidSides___init__) (defBody s_InvalidSides___init__) (defScope s_InvalidSides___init__) .none xkV15 xdc15 xpm15 xan15 xcd15 xct15), xsl15⟩)
    (xfc15 : PySem.W.codeIn K xcd15 "InvalidSides.__init__" = true)
    (xfk15 : PySem.W.keepIn K (.ref xf15) = true)
    (xg16 : PySem.W.nsIn K mainGlobals "InvalidDraws" = some (some (.ref e16)))
    (xl16 : K.lookup e16 = some (excClassObj xnm16 xq16 e16 xN16 xbs16 [.ref cE, .type "ValueError", .type "Exception", .type "BaseException", .type "object"] true xsn16 xsub16 xab16 xcol16 xdd16 xa16 xb16 xc16 xd16 xe16 "ValueError.__new__"))
    (xs16 : PySem.W.findIn K (.ref e16) "__setattr__" = some (some (.builtin "object.__setattr__")))
    (xga16 : PySem.W.findIn K (.ref e16) "__getattribute__" = some (some (.builtin "BaseException.__getattribute__")))
    (xgg16 : PySem.W.findIn K (.ref e16) "__getattr__" = some none)
    (xca16 : PySem.W.findIn K (.ref e16) "__class__" = some (some (.builtin "object.__class__")))
    (xk16 : PySem.W.keepIn K (.ref e16) = true)
    (xn16_0 : PySem.W.findIn K (.ref e16) "given" = some none)
    (xi16 : PySem.W.findIn K (.ref e16) "__init__" = some (some (.ref xf16)))
    (xt16 : PySem.W.typeIn K (.ref xf16) = some (.type "function"))
    (xfl16 : K.lookup xf16 = some ⟨xoc16, xod16, .func (PySem.W.fnOf "__init__" "InvalidDraws.__init__" (defArgs s_InvalidDraws___init__) (defBody s_InvalidDraws___init__) (defScope s_InvalidDraws___init__) .none xkV16 xdc16 xpm16 xan16 xcd16 xct16), xsl16⟩)
    (xfc16 : PySem.W.codeIn K xcd16 "InvalidDraws.__init__" = true)
    (xfk16 : PySem.W.keepIn K (.ref xf16) = true)
    (xg17 : PySem.W.nsIn K mainGlobals "InvalidShare" = some (some (.ref e17)))
    (xl17 : K.lookup e17 = some (excClassObj xnm17 xq17 e17 xN17 xbs17 [.ref cE, .type "ValueError", .type "Exception", .type "BaseException", .type "object"] true xsn17 xsub17 xab17 xcol17 xdd17 xa17 xb17 xc17 xd17 xe17 "ValueError.__new__"))
    (xs17 : PySem.W.findIn K (.ref e17) "__setattr__" = some (some (.builtin "object.__setattr__")))
    (xga17 : PySem.W.findIn K (.ref e17) "__getattribute__" = some (some (.builtin "BaseException.__getattribute__")))
    (xgg17 : PySem.W.findIn K (.ref e17) "__getattr__" = some none)
    (xca17 : PySem.W.findIn K (.ref e17) "__class__" = some (some (.builtin "object.__class__")))
    (xk17 : PySem.W.keepIn K (.ref e17) = true)
    (xn17_0 : PySem.W.findIn K (.ref e17) "given" = some none)
    (xi17 : PySem.W.findIn K (.ref e17) "__init__" = some (some (.ref xf17)))
    (xt17 : PySem.W.typeIn K (.ref xf17) = some (.type "function"))
    (xfl17 : K.lookup xf17 = some ⟨xoc17, xod17, .func (PySem.W.fnOf "__init__" "InvalidShare.__init__" (defArgs s_InvalidShare___init__) (defBody s_InvalidShare___init__) (defScope s_InvalidShare___init__) .none xkV17 xdc17 xpm17 xan17 xcd17 xct17), xsl17⟩)
    (xfc17 : PySem.W.codeIn K xcd17 "InvalidShare.__init__" = true)
    (xfk17 : PySem.W.keepIn K (.ref xf17) = true)
    (xg18 : PySem.W.nsIn K mainGlobals "InvalidSteps" = some (some (.ref e18)))
    (xl18 : K.lookup e18 = some (excClassObj xnm18 xq18 e18 xN18 xbs18 [.ref cE, .type "ValueError", .type "Exception", .type "BaseException", .type "object"] true xsn18 xsub18 xab18 xcol18 xdd18 xa18 xb18 xc18 xd18 xe18 "ValueError.__new__"))
    (xs18 : PySem.W.findIn K (.ref e18) "__setattr__" = some (some (.builtin "object.__setattr__")))
    (xga18 : PySem.W.findIn K (.ref e18) "__getattribute__" = some (some (.builtin "BaseException.__getattribute__")))
    (xgg18 : PySem.W.findIn K (.ref e18) "__getattr__" = some none)
    (xca18 : PySem.W.findIn K (.ref e18) "__class__" = some (some (.builtin "object.__class__")))
    (xk18 : PySem.W.keepIn K (.ref e18) = true)
    (xn18_0 : PySem.W.findIn K (.ref e18) "given" = some none)
    (xi18 : PySem.W.findIn K (.ref e18) "__init__" = some (some (.ref xf18)))
    (xt18 : PySem.W.typeIn K (.ref xf18) = some (.type "function"))
    (xfl18 : K.lookup xf18 = some ⟨xoc18, xod18, .func (PySem.W.fnOf "__init__" "InvalidSteps.__init__" (defArgs s_InvalidSteps___init__) (defBody s_InvalidSteps___init__) (defScope s_InvalidSteps___init__) .none xkV18 xdc18 xpm18 xan18 xcd18 xct18), xsl18⟩)
    (xfc18 : PySem.W.codeIn K xcd18 "InvalidSteps.__init__" = true)
    (xfk18 : PySem.W.keepIn K (.ref xf18) = true)
    (xg19 : PySem.W.nsIn K mainGlobals "InvalidRow" = some (some (.ref e19)))
    (xl19 : K.lookup e19 = some (excClassObj xnm19 xq19 e19 xN19 xbs19 [.ref cE, .type "ValueError", .type "Exception", .type "BaseException", .type "object"] true xsn19 xsub19 xab19 xcol19 xdd19 xa19 xb19 xc19 xd19 xe19 "ValueError.__new__"))
    (xs19 : PySem.W.findIn K (.ref e19) "__setattr__" = some (some (.builtin "object.__setattr__")))
    (xga19 : PySem.W.findIn K (.ref e19) "__getattribute__" = some (some (.builtin "BaseException.__getattribute__")))
    (xgg19 : PySem.W.findIn K (.ref e19) "__getattr__" = some none)
    (xca19 : PySem.W.findIn K (.ref e19) "__class__" = some (some (.builtin "object.__class__")))
    (xk19 : PySem.W.keepIn K (.ref e19) = true)
    (xn19_0 : PySem.W.findIn K (.ref e19) "given" = some none)
    (xi19 : PySem.W.findIn K (.ref e19) "__init__" = some (some (.ref xf19)))
    (xt19 : PySem.W.typeIn K (.ref xf19) = some (.type "function"))
    (xfl19 : K.lookup xf19 = some ⟨xoc19, xod19, .func (PySem.W.fnOf "__init__" "InvalidRow.__init__" (defArgs s_InvalidRow___init__) (defBody s_InvalidRow___init__) (defScope s_InvalidRow___init__) .none xkV19 xdc19 xpm19 xan19 xcd19 xct19), xsl19⟩)
    (xfc19 : PySem.W.codeIn K xcd19 "InvalidRow.__init__" = true)
    (xfk19 : PySem.W.keepIn K (.ref xf19) = true)
    (xg20 : PySem.W.nsIn K mainGlobals "InvalidPick" = some (some (.ref e20)))
    (xl20 : K.lookup e20 = some (excClassObj xnm20 xq20 e20 xN20 xbs20 [.ref cE, .type "ValueError", .type "Exception", .type "BaseException", .type "object"] true xsn20 xsub20 xab20 xcol20 xdd20 xa20 xb20 xc20 xd20 xe20 "ValueError.__new__"))
    (xs20 : PySem.W.findIn K (.ref e20) "__setattr__" = some (some (.builtin "object.__setattr__")))
    (xga20 : PySem.W.findIn K (.ref e20) "__getattribute__" = some (some (.builtin "BaseException.__getattribute__")))
    (xgg20 : PySem.W.findIn K (.ref e20) "__getattr__" = some none)
    (xca20 : PySem.W.findIn K (.ref e20) "__class__" = some (some (.builtin "object.__class__")))
    (xk20 : PySem.W.keepIn K (.ref e20) = true)
    (xn20_0 : PySem.W.findIn K (.ref e20) "given" = some none)
    (xi20 : PySem.W.findIn K (.ref e20) "__init__" = some (some (.ref xf20)))
    (xt20 : PySem.W.typeIn K (.ref xf20) = some (.type "function"))
    (xfl20 : K.lookup xf20 = some ⟨xoc20, xod20, .func (PySem.W.fnOf "__init__" "InvalidPick.__init__" (defArgs s_InvalidPick___init__) (defBody s_InvalidPick___init__) (defScope s_InvalidPick___init__) .none xkV20 xdc20 xpm20 xan20 xcd20 xct20), xsl20⟩)
    (xfc20 : PySem.W.codeIn K xcd20 "InvalidPick.__init__" = true)
    (xfk20 : PySem.W.keepIn K (.ref xf20) = true)
    (xg21 : PySem.W.nsIn K mainGlobals "InvalidDice" = some (some (.ref e21)))
    (xl21 : K.lookup e21 = some (excClassObj xnm21 xq21 e21 xN21 xbs21 [.ref cE, .type "ValueError", .type "Exception", .type "BaseException", .type "object"] true xsn21 xsub21 xab21 xcol21 xdd21 xa21 xb21 xc21 xd21 xe21 "ValueError.__new__"))
    (xs21 : PySem.W.findIn K (.ref e21) "__setattr__" = some (some (.builtin "object.__setattr__")))
    (xga21 : PySem.W.findIn K (.ref e21) "__getattribute__" = some (some (.builtin "BaseException.__getattribute__")))
    (xgg21 : PySem.W.findIn K (.ref e21) "__getattr__" = some none)
    (xca21 : PySem.W.findIn K (.ref e21) "__class__" = some (some (.builtin "object.__class__")))
    (xk21 : PySem.W.keepIn K (.ref e21) = true)
    (xn21_0 : PySem.W.findIn K (.ref e21) "given" = some none)
    (xi21 : PySem.W.findIn K (.ref e21) "__init__" = some (some (.ref xf21)))
    (xt21 : PySem.W.typeIn K (.ref xf21) = some (.type "function"))
    (xfl21 : K.lookup xf21 = some ⟨xoc21, xod21, .func (PySem.W.fnOf "__init__" "InvalidDice.__init__" (defArgs s_InvalidDice___init__) (defBody s_InvalidDice___init__) (defScope s_InvalidDice___init__) .none xkV21 xdc21 xpm21 xan21 xcd21 xct21), xsl21⟩)
    (xfc21 : PySem.W.codeIn K xcd21 "InvalidDice.__init__" = true)
    (xfk21 : PySem.W.keepIn K (.ref xf21) = true)
    (xg22 : PySem.W.nsIn K mainGlobals "InvalidBlend" = some (some (.ref e22)))
    (xl22 : K.lookup e22 = some (excClassObj xnm22 xq22 e22 xN22 xbs22 [.ref cE, .type "ValueError", .type "Exception", .type "BaseException", .type "object"] true xsn22 xsub22 xab22 xcol22 xdd22 xa22 xb22 xc22 xd22 xe22 "ValueError.__new__"))
    (xs22 : PySem.W.findIn K (.ref e22) "__setattr__" = some (some (.builtin "object.__setattr__")))
    (xga22 : PySem.W.findIn K (.ref e22) "__getattribute__" = some (some (.builtin "BaseException.__getattribute__")))
    (xgg22 : PySem.W.findIn K (.ref e22) "__getattr__" = some none)
    (xca22 : PySem.W.findIn K (.ref e22) "__class__" = some (some (.builtin "object.__class__")))
    (xk22 : PySem.W.keepIn K (.ref e22) = true)
    (xn22_0 : PySem.W.findIn K (.ref e22) "given" = some none)
    (xi22 : PySem.W.findIn K (.ref e22) "__init__" = some (some (.ref xf22)))
    (xt22 : PySem.W.typeIn K (.ref xf22) = some (.type "function"))
    (xfl22 : K.lookup xf22 = some ⟨xoc22, xod22, .func (PySem.W.fnOf "__init__" "InvalidBlend.__init__" (defArgs s_InvalidBlend___init__) (defBody s_InvalidBlend___init__) (defScope s_InvalidBlend___init__) .none xkV22 xdc22 xpm22 xan22 xcd22 xct22), xsl22⟩)
    (xfc22 : PySem.W.codeIn K xcd22 "InvalidBlend.__init__" = true)
    (xfk22 : PySem.W.keepIn K (.ref xf22) = true)
    (xg23 : PySem.W.nsIn K mainGlobals "InvalidLimits" = some (some (.ref e23)))
    (xl23 : K.lookup e23 = some (excClassObj xnm23 xq23 e23 xN23 xbs23 [.ref cE, .type "ValueError", .type "Exception", .type "BaseException", .type "object"] true xsn23 xsub23 xab23 xcol23 xdd23 xa23 xb23 xc23 xd23 xe23 "ValueError.__new__"))
    (xs23 : PySem.W.findIn K (.ref e23) "__setattr__" = some (some (.builtin "object.__setattr__")))
    (xga23 : PySem.W.findIn K (.ref e23) "__getattribute__" = some (some (.builtin "BaseException.__getattribute__")))
    (xgg23 : PySem.W.findIn K (.ref e23) "__getattr__" = some none)
    (xca23 : PySem.W.findIn K (.ref e23) "__class__" = some (some (.builtin "object.__class__")))
    (xk23 : PySem.W.keepIn K (.ref e23) = true)
    (xn23_0 : PySem.W.findIn K (.ref e23) "given" = some none)
    (xi23 : PySem.W.findIn K (.ref e23) "__init__" = some (some (.ref xf23)))
    (xt23 : PySem.W.typeIn K (.ref xf23) = some (.type "function"))
    (xfl23 : K.lookup xf23 = some ⟨xoc23, xod23, .func (PySem.W.fnOf "__init__" "InvalidLimits.__init__" (defArgs s_InvalidLimits___init__) (defBody s_InvalidLimits___init__) (defScope s_InvalidLimits___init__) .none xkV23 xdc23 xpm23 xan23 xcd23 xct23), xsl23⟩)
    (xfc23 : PySem.W.codeIn K xcd23 "InvalidLimits.__init__" = true)
    (xfk23 : PySem.W.keepIn K (.ref xf23) = true)
    (xg24 : PySem.W.nsIn K mainGlobals "InvalidPairs" = some (some (.ref e24)))
    (xl24 : K.lookup e24 = some (excClassObj xnm24 xq24 e24 xN24 xbs24 [.ref cE, .type "ValueError", .type "Exception", .type "BaseException", .type "object"] true xsn24 xsub24 xab24 xcol24 xdd24 xa24 xb24 xc24 xd24 xe24 "ValueError.__new__"))
    (xs24 : PySem.W.findIn K (.ref e24) "__setattr__" = some (some (.builtin "object.__setattr__")))
    (xga24 : PySem.W.findIn K (.ref e24) "__getattribute__" = some (some (.builtin "BaseException.__getattribute__")))
    (xgg24 : PySem.W.findIn K (.ref e24) "__getattr__" = some none)
    (xca24 : PySem.W.findIn K (.ref e24) "__class__" = some (some (.builtin "object.__class__")))
    (xk24 : PySem.W.keepIn K (.ref e24) = true)
    (xn24_0 : PySem.W.findIn K (.ref e24) "given" = some none)
    (xi24 : PySem.W.findIn K (.ref e24) "__init__" = some (some (.ref xf24)))
    (xt24 : PySem.W.typeIn K (.ref xf24) = some (.type "function"))
    (xfl24 : K.lookup xf24 = some ⟨xoc24, xod24, .func (PySem.W.fnOf "__init__" "InvalidPairs.__init__" (defArgs s_InvalidPairs___init__) (defBody s_InvalidPairs___init__) (defScope s_InvalidPairs___init__) .none xkV24 xdc24 xpm24 xan24 xcd24 xct24), xsl24⟩)
    (xfc24 : PySem.W.codeIn K xcd24 "InvalidPairs.__init__" = true)
    (xfk24 : PySem.W.keepIn K (.ref xf24) = true)
    (xg25 : PySem.W.nsIn K mainGlobals "InvalidSet" = some (some (.ref e25)))
    (xl25 : K.lookup e25 = some (excClassObj xnm25 xq25 e25 xN25 xbs25 [.ref cE, .type "ValueError", .type "Exception", .type "BaseException", .type "object"] true xsn25 xsub25 xab25 xcol25 xdd25 xa25 xb25 xc25 xd25 xe25 "ValueError.__new__"))
    (xs25 : PySem.W.findIn K (.ref e25) "__setattr__" = some (some (.builtin "object.__setattr__")))
    (xga25 : PySem.W.findIn K (.ref e25) "__getattribute__" = some (some (.builtin "BaseException.__getattribute__")))
    (xgg25 : PySem.W.findIn K (.ref e25) "__getattr__" = some none)
    (xca25 : PySem.W.findIn K (.ref e25) "__class__" = some (some (.builtin "object.__class__")))
    (xk25 : PySem.W.keepIn K (.ref e25) = true)
    (xn25_0 : PySem.W.findIn K (.ref e25) "given" = some none)
    (xi25 : PySem.W.findIn K (.ref e25) "__init__" = some (some (.ref xf25)))
    (xt25 : PySem.W.typeIn K (.ref xf25) = some (.type "function"))
    (xfl25 : K.lookup xf25 = some ⟨xoc25, xod25, .func (PySem.W.fnOf "__init__" "InvalidSet.__init__" (defArgs s_InvalidSet___init__) (defBody s_InvalidSet___init__) (defScope s_InvalidSet___init__) .none xkV25 xdc25 xpm25 xan25 xcd25 xct25), xsl25⟩)
    (xfc25 : PySem.W.codeIn K xcd25 "InvalidSet.__init__" = true)
    (xfk25 : PySem.W.keepIn K (.ref xf25) = true)
    (xg26 : PySem.W.nsIn K mainGlobals "InvalidName" = some (some (.ref e26)))
    (xl26 : K.lookup e26 = some (excClassObj xnm26 xq26 e26 xN26 xbs26 [.ref cE, .type "ValueError", .type "Exception", .type "BaseException", .type "object"] true xsn26 xsub26 xab26 xcol26 xdd26 xa26 xb26 xc26 xd26 xe26 "ValueError.__new__"))
    (xs26 : PySem.W.findIn K (.ref e26) "__setattr__" = some (some (.builtin "object.__setattr__")))
    (xga26 : PySem.W.findIn K (.ref e26) "__getattribute__" = some (some (.builtin "BaseException.__getattribute__")))
    (xgg26 : PySem.W.findIn K (.ref e26) "__getattr__" = some none)
    (xca26 : PySem.W.findIn K (.ref e26) "__class__" = some (some (.builtin "object.__class__")))
    (xk26 : PySem.W.keepIn K (.ref e26) = true)
    (xn26_0 : PySem.W.findIn K (.ref e26) "given" = some none)
    (xi26 : PySem.W.findIn K (.ref e26) "__init__" = some (some (.ref xf26)))
    (xt26 : PySem.W.typeIn K (.ref xf26) = some (.type "function"))
    (xfl26 : K.lookup xf26 = some ⟨xoc26, xod26, .func (PySem.W.fnOf "__init__" "InvalidName.__init__" (defArgs s_InvalidName___init__) (defBody s_InvalidName___init__) (defScope s_InvalidName___init__) .none xkV26 xdc26 xpm26 xan26 xcd26 xct26), xsl26⟩)
    (xfc26 : PySem.W.codeIn K xcd26 "InvalidName.__init__" = true)
    (xfk26 : PySem.W.keepIn K (.ref xf26) = true)
    (xg27 : PySem.W.nsIn K mainGlobals "InvalidOther" = some (some (.ref e27)))
    (xl27 : K.lookup e27 = some (excClassObj xnm27 xq27 e27 xN27 xbs27 [.ref cE, .type "ValueError", .type "Exception", .type "BaseException", .type "object"] true xsn27 xsub27 xab27 xcol27 xdd27 xa27 xb27 xc27 xd27 xe27 "ValueError.__new__"))
    (xs27 : PySem.W.findIn K (.ref e27) "__setattr__" = some (some (.builtin "object.__setattr__")))
    (xga27 : PySem.W.findIn K (.ref e27) "__getattribute__" = some (some (.builtin "BaseException.__getattribute__")))
    (xgg27 : PySem.W.findIn K (.ref e27) "__getattr__" = some none)
    (xca27 : PySem.W.findIn K (.ref e27) "__class__" = some (some (.builtin "object.__class__")))
    (xk27 : PySem.W.keepIn K (.ref e27) = true)
    (xn27_0 : PySem.W.findIn K (.ref e27) "given" = some none)
    (xi27 : PySem.W.findIn K (.ref e27) "__init__" = some (some (.ref xf27)))
    (xt27 : PySem.W.typeIn K (.ref xf27) = some (.type "function"))
    (xfl27 : K.lookup xf27 = some ⟨xoc27, xod27, .func (PySem.W.fnOf "__init__" "InvalidOther.__init__" (defArgs s_InvalidOther___init__) (defBody s_InvalidOther___init__) (defScope s_InvalidOther___init__) .none xkV27 xdc27 xpm27 xan27 xcd27 xct27), xsl27⟩)
    (xfc27 : PySem.W.codeIn K xcd27 "InvalidOther.__init__" = true)
    (xfk27 : PySem.W.keepIn K (.ref xf27) = true)
    (xg28 : PySem.W.nsIn K mainGlobals "TooMany" = some (some (.ref e28)))
    (xl28 : K.lookup e28 = some (excClassObj xnm28 xq28 e28 xN28 xbs28 [.ref cE, .type "ValueError", .type "Exception", .type "BaseException", .type "object"] true xsn28 xsub28 xab28 xcol28 xdd28 xa28 xb28 xc28 xd28 xe28 "ValueError.__new__"))
    (xs28 : PySem.W.findIn K (.ref e28) "__setattr__" = some (some (.builtin "object.__setattr__")))
    (xga28 : PySem.W.findIn K (.ref e28) "__getattribute__" = some (some (.builtin "BaseException.__getattribute__")))
    (xgg28 : PySem.W.findIn K (.ref e28) "__getattr__" = some none)
    (xca28 : PySem.W.findIn K (.ref e28) "__class__" = some (some (.builtin "object.__class__")))
    (xk28 : PySem.W.keepIn K (.ref e28) = true)
    (xn28_0 : PySem.W.findIn K (.ref e28) "count" = some none)
    (xi28 : PySem.W.findIn K (.ref e28) "__init__" = some (some (.ref xf28)))
    (xt28 : PySem.W.typeIn K (.ref xf28) = some (.type "function"))
    (xfl28 : K.lookup xf28 = some ⟨xoc28, xod28, .func (PySem.W.fnOf "__init__" "TooMany.__init__" (defArgs s_TooMany___init__) (defBody s_TooMany___init__) (defScope s_TooMany___init__) .none xkV28 xdc28 xpm28 xan28 xcd28 xct28), xsl28⟩)
    (xfc28 : PySem.W.codeIn K xcd28 "TooMany.__init__" = true)
    (xfk28 : PySem.W.keepIn K (.ref xf28) = true)
    (xg29 : PySem.W.nsIn K mainGlobals "Outside" = some (some (.ref e29)))
    (xl29 : K.lookup e29 = some (excClassObj xnm29 xq29 e29 xN29 xbs29 [.ref cE, .type "ValueError", .type "Exception", .type "BaseException", .type "object"] true xsn29 xsub29 xab29 xcol29 xdd29 xa29 xb29 xc29 xd29 xe29 "ValueError.__new__"))
    (xs29 : PySem.W.findIn K (.ref e29) "__setattr__" = some (some (.builtin "object.__setattr__")))
    (xga29 : PySem.W.findIn K (.ref e29) "__getattribute__" = some (some (.builtin "BaseException.__getattribute__")))
    (xgg29 : PySem.W.findIn K (.ref e29) "__getattr__" = some none)
    (xca29 : PySem.W.findIn K (.ref e29) "__class__" = some (some (.builtin "object.__class__")))
    (xk29 : PySem.W.keepIn K (.ref e29) = true)
    (xn29_0 : PySem.W.findIn K (.ref e29) "payoff" = some none)
    (xi29 : PySem.W.findIn K (.ref e29) "__init__" = some (some (.ref xf29)))
    (xt29 : PySem.W.typeIn K (.ref xf29) = some (.type "function"))
    (xfl29 : K.lookup xf29 = some ⟨xoc29, xod29, .func (PySem.W.fnOf "__init__" "Outside.__init__" (defArgs s_Outside___init__) (defBody s_Outside___init__) (defScope s_Outside___init__) .none xkV29 xdc29 xpm29 xan29 xcd29 xct29), xsl29⟩)
    (xfc29 : PySem.W.codeIn K xcd29 "Outside.__init__" = true)
    (xfk29 : PySem.W.keepIn K (.ref xf29) = true)
    (xg30 : PySem.W.nsIn K mainGlobals "MayGoOn" = some (some (.ref e30)))
    (xl30 : K.lookup e30 = some (excClassObj xnm30 xq30 e30 xN30 xbs30 [.ref cE, .type "ValueError", .type "Exception", .type "BaseException", .type "object"] true xsn30 xsub30 xab30 xcol30 xdd30 xa30 xb30 xc30 xd30 xe30 "ValueError.__new__"))
    (xs30 : PySem.W.findIn K (.ref e30) "__setattr__" = some (some (.builtin "object.__setattr__")))
    (xga30 : PySem.W.findIn K (.ref e30) "__getattribute__" = some (some (.builtin "BaseException.__getattribute__")))
    (xgg30 : PySem.W.findIn K (.ref e30) "__getattr__" = some none)
    (xca30 : PySem.W.findIn K (.ref e30) "__class__" = some (some (.builtin "object.__class__")))
    (xk30 : PySem.W.keepIn K (.ref e30) = true)
    (xn30_0 : PySem.W.findIn K (.ref e30) "store" = some none)
    (xi30 : PySem.W.findIn K (.ref e30) "__init__" = some (some (.ref xf30)))
    (xt30 : PySem.W.typeIn K (.ref xf30) = some (.type "function"))
    (xfl30 : K.lookup xf30 = some ⟨xoc30, xod30, .func (PySem.W.fnOf "__init__" "MayGoOn.__init__" (defArgs s_MayGoOn___init__) (defBody s_MayGoOn___init__) (defScope s_MayGoOn___init__) .none xkV30 xdc30 xpm30 xan30 xcd30 xct30), xsl30⟩)
    (xfc30 : PySem.W.codeIn K xcd30 "MayGoOn.__init__" = true)
    (xfk30 : PySem.W.keepIn K (.ref xf30) = true)
    (xg31 : PySem.W.nsIn K mainGlobals "NoThing" = some (some (.ref e31)))
    (xl31 : K.lookup e31 = some (excClassObj xnm31 xq31 e31 xN31 xbs31 [.ref cE, .type "ValueError", .type "Exception", .type "BaseException", .type "object"] true xsn31 xsub31 xab31 xcol31 xdd31 xa31 xb31 xc31 xd31 xe31 "ValueError.__new__"))
    (xs31 : PySem.W.findIn K (.ref e31) "__setattr__" = some (some (.builtin "object.__setattr__")))
    (xga31 : PySem.W.findIn K (.ref e31) "__getattribute__" = some (some (.builtin "BaseException.__getattribute__")))
    (xgg31 : PySem.W.findIn K (.ref e31) "__getattr__" = some none)
    (xca31 : PySem.W.findIn K (.ref e31) "__class__" = some (some (.builtin "object.__class__")))
    (xk31 : PySem.W.keepIn K (.ref e31) = true)
    (xn31_0 : PySem.W.findIn K (.ref e31) "name" = some none)
    (xi31 : PySem.W.findIn K (.ref e31) "__init__" = some (some (.ref xf31)))
    (xt31 : PySem.W.typeIn K (.ref xf31) = some (.type "function"))
    (xfl31 : K.lookup xf31 = some ⟨xoc31, xod31, .func (PySem.W.fnOf "__init__" "NoThing.__init__" (defArgs s_NoThing___init__) (defBody s_NoThing___init__) (defScope s_NoThing___init__) .none xkV31 xdc31 xpm31 xan31 xcd31 xct31), xsl31⟩)
    (xfc31 : PySem.W.codeIn K xcd31 "NoThing.__init__" = true)
    (xfk31 : PySem.W.keepIn K (.ref xf31) = true)
    (xg32 : PySem.W.nsIn K mainGlobals "NotBrought" = some (some (.ref e32)))
    (xl32 : K.lookup e32 = some (excClassObj xnm32 xq32 e32 xN32 xbs32 [.ref cE, .type "ValueError", .type "Exception", .type "BaseException", .type "object"] true xsn32 xsub32 xab32 xcol32 xdd32 xa32 xb32 xc32 xd32 xe32 "ValueError.__new__"))
    (xs32 : PySem.W.findIn K (.ref e32) "__setattr__" = some (some (.builtin "object.__setattr__")))
    (xga32 : PySem.W.findIn K (.ref e32) "__getattribute__" = some (some (.builtin "BaseException.__getattribute__")))
    (xgg32 : PySem.W.findIn K (.ref e32) "__getattr__" = some none)
    (xca32 : PySem.W.findIn K (.ref e32) "__class__" = some (some (.builtin "object.__class__")))
    (xk32 : PySem.W.keepIn K (.ref e32) = true)
    (xn32_0 : PySem.W.findIn K (.ref e32) "payoff" = some none)
    (xn32_1 : PySem.W.findIn K (.ref e32) "table" = some none)
    (xi32 : PySem.W.findIn K (.ref e32) "__init__" = some (some (.ref xf32)))
    (xt32 : PySem.W.typeIn K (.ref xf32) = some (.type "function"))
    (xfl32 : K.lookup xf32 = some ⟨xoc32, xod32, .func (PySem.W.fnOf "__init__" "NotBrought.__init__" (defArgs s_NotBrought___init__) (defBody s_NotBrought___init__) (defScope s_NotBrought___init__) .none xkV32 xdc32 xpm32 xan32 xcd32 xct32), xsl32⟩)
    (xfc32 : PySem.W.codeIn K xcd32 "NotBrought.__init__" = true)
    (xfk32 : PySem.W.keepIn K (.ref xf32) = true)
    (xg33 : PySem.W.nsIn K mainGlobals "MayStay" = some (some (.ref e33)))
    (xl33 : K.lookup e33 = some (excClassObj xnm33 xq33 e33 xN33 xbs33 [.ref cE, .type "ValueError", .type "Exception", .type "BaseException", .type "object"] true xsn33 xsub33 xab33 xcol33 xdd33 xa33 xb33 xc33 xd33 xe33 "ValueError.__new__"))
    (xs33 : PySem.W.findIn K (.ref e33) "__setattr__" = some (some (.builtin "object.__setattr__")))
    (xga33 : PySem.W.findIn K (.ref e33) "__getattribute__" = some (some (.builtin "BaseException.__getattribute__")))
    (xgg33 : PySem.W.findIn K (.ref e33) "__getattr__" = some none)
    (xca33 : PySem.W.findIn K (.ref e33) "__class__" = some (some (.builtin "object.__class__")))
    (xk33 : PySem.W.keepIn K (.ref e33) = true)
    (xn33_0 : PySem.W.findIn K (.ref e33) "way" = some none)
    (xn33_1 : PySem.W.findIn K (.ref e33) "rows" = some none)
    (xi33 : PySem.W.findIn K (.ref e33) "__init__" = some (some (.ref xf33)))
    (xt33 : PySem.W.typeIn K (.ref xf33) = some (.type "function"))
    (xfl33 : K.lookup xf33 = some ⟨xoc33, xod33, .func (PySem.W.fnOf "__init__" "MayStay.__init__" (defArgs s_MayStay___init__) (defBody s_MayStay___init__) (defScope s_MayStay___init__) .none xkV33 xdc33 xpm33 xan33 xcd33 xct33), xsl33⟩)
    (xfc33 : PySem.W.codeIn K xcd33 "MayStay.__init__" = true)
    (xfk33 : PySem.W.keepIn K (.ref xf33) = true)
    (xg34 : PySem.W.nsIn K mainGlobals "TwoLots" = some (some (.ref e34)))
    (xl34 : K.lookup e34 = some (excClassObj xnm34 xq34 e34 xN34 xbs34 [.ref cE, .type "ValueError", .type "Exception", .type "BaseException", .type "object"] true xsn34 xsub34 xab34 xcol34 xdd34 xa34 xb34 xc34 xd34 xe34 "ValueError.__new__"))
    (xs34 : PySem.W.findIn K (.ref e34) "__setattr__" = some (some (.builtin "object.__setattr__")))
    (xga34 : PySem.W.findIn K (.ref e34) "__getattribute__" = some (some (.builtin "BaseException.__getattribute__")))
    (xgg34 : PySem.W.findIn K (.ref e34) "__getattr__" = some none)
    (xca34 : PySem.W.findIn K (.ref e34) "__class__" = some (some (.builtin "object.__class__")))
    (xk34 : PySem.W.keepIn K (.ref e34) = true)
    (xn34_0 : PySem.W.findIn K (.ref e34) "one" = some none)
    (xn34_1 : PySem.W.findIn K (.ref e34) "other" = some none)
    (xi34 : PySem.W.findIn K (.ref e34) "__init__" = some (some (.ref xf34)))
    (xt34 : PySem.W.typeIn K (.ref xf34) = some (.type "function"))
    (xfl34 : K.lookup xf34 = some ⟨xoc34, xod34, .func (PySem.W.fnOf "__init__" "TwoLots.__init__" (defArgs s_TwoLots___init__) (defBody s_TwoLots___init__) (defScope s_TwoLots___init__) .none xkV34 xdc34 xpm34 xan34 xcd34 xct34), xsl34⟩)
    (xfc34 : PySem.W.codeIn K xcd34 "TwoLots.__init__" = true)
    (xfk34 : PySem.W.keepIn K (.ref xf34) = true)
    (xg35 : PySem.W.nsIn K mainGlobals "NotKept" = some (some (.ref e35)))
    (xl35 : K.lookup e35 = some (excClassObj xnm35 xq35 e35 xN35 xbs35 [.ref cE, .type "ValueError", .type "Exception", .type "BaseException", .type "object"] true xsn35 xsub35 xab35 xcol35 xdd35 xa35 xb35 xc35 xd35 xe35 "ValueError.__new__"))
    (xs35 : PySem.W.findIn K (.ref e35) "__setattr__" = some (some (.builtin "object.__setattr__")))
    (xga35 : PySem.W.findIn K (.ref e35) "__getattribute__" = some (some (.builtin "BaseException.__getattribute__")))
    (xgg35 : PySem.W.findIn K (.ref e35) "__getattr__" = some none)
    (xca35 : PySem.W.findIn K (.ref e35) "__class__" = some (some (.builtin "object.__class__")))
    (xk35 : PySem.W.keepIn K (.ref e35) = true)
    (xn35_0 : PySem.W.findIn K (.ref e35) "fees" = some none)
    (xn35_1 : PySem.W.findIn K (.ref e35) "table" = some none)
    (xi35 : PySem.W.findIn K (.ref e35) "__init__" = some (some (.ref xf35)))
    (xt35 : PySem.W.typeIn K (.ref xf35) = some (.type "function"))
    (xfl35 : K.lookup xf35 = some ⟨xoc35, xod35, .func (PySem.W.fnOf "__init__" "NotKept.__init__" (defArgs s_NotKept___init__) (defBody s_NotKept___init__) (defScope s_NotKept___init__) .none xkV35 xdc35 xpm35 xan35 xcd35 xct35), xsl35⟩)
    (xfc35 : PySem.W.codeIn K xcd35 "NotKept.__init__" = true)
    (xfk35 : PySem.W.keepIn K (.ref xf35) = true)
    (xg36 : PySem.W.nsIn K mainGlobals "NoCommon" = some (some (.ref e36)))
    (xl36 : K.lookup e36 = some (excClassObj xnm36 xq36 e36 xN36 xbs36 [.ref cE, .type "ValueError", .type "Exception", .type "BaseException", .type "object"] true xsn36 xsub36 xab36 xcol36 xdd36 xa36 xb36 xc36 xd36 xe36 "ValueError.__new__"))
    (xs36 : PySem.W.findIn K (.ref e36) "__setattr__" = some (some (.builtin "object.__setattr__")))
    (xga36 : PySem.W.findIn K (.ref e36) "__getattribute__" = some (some (.builtin "BaseException.__getattribute__")))
    (xgg36 : PySem.W.findIn K (.ref e36) "__getattr__" = some none)
    (xca36 : PySem.W.findIn K (.ref e36) "__class__" = some (some (.builtin "object.__class__")))
    (xk36 : PySem.W.keepIn K (.ref e36) = true)
    (xn36_0 : PySem.W.findIn K (.ref e36) "payoffs" = some none)
    (xn36_1 : PySem.W.findIn K (.ref e36) "tables" = some none)
    (xi36 : PySem.W.findIn K (.ref e36) "__init__" = some (some (.ref xf36)))
    (xt36 : PySem.W.typeIn K (.ref xf36) = some (.type "function"))
    (xfl36 : K.lookup xf36 = some ⟨xoc36, xod36, .func (PySem.W.fnOf "__init__" "NoCommon.__init__" (defArgs s_NoCommon___init__) (defBody s_NoCommon___init__) (defScope s_NoCommon___init__) .none xkV36 xdc36 xpm36 xan36 xcd36 xct36), xsl36⟩)
    (xfc36 : PySem.W.codeIn K xcd36 "NoCommon.__init__" = true)
    (xfk36 : PySem.W.keepIn K (.ref xf36) = true)
    (xg37 : PySem.W.nsIn K mainGlobals "ByZero" = some (some (.ref e37)))
    (xl37 : K.lookup e37 = some (excClassObj xnm37 xq37 e37 xN37 xbs37 [.ref cE, .type "ValueError", .type "Exception", .type "BaseException", .type "object"] true xsn37 xsub37 xab37 xcol37 xdd37 xa37 xb37 xc37 xd37 xe37 "ValueError.__new__"))
    (xs37 : PySem.W.findIn K (.ref e37) "__setattr__" = some (some (.builtin "object.__setattr__")))
    (xga37 : PySem.W.findIn K (.ref e37) "__getattribute__" = some (some (.builtin "BaseException.__getattribute__")))
    (xgg37 : PySem.W.findIn K (.ref e37) "__getattr__" = some none)
    (xca37 : PySem.W.findIn K (.ref e37) "__class__" = some (some (.builtin "object.__class__")))
    (xk37 : PySem.W.keepIn K (.ref e37) = true)
    (xz37 : PySem.W.excIn K e37 [.type "ValueError", .type "Exception", .type "BaseException", .type "object"] "ValueError.__new__" = true)
    (xg38 : PySem.W.nsIn K mainGlobals "NothingToUndo" = some (some (.ref e38)))
    (xl38 : K.lookup e38 = some (excClassObj xnm38 xq38 e38 xN38 xbs38 [.ref cE, .type "ValueError", .type "Exception", .type "BaseException", .type "object"] true xsn38 xsub38 xab38 xcol38 xdd38 xa38 xb38 xc38 xd38 xe38 "ValueError.__new__"))
    (xs38 : PySem.W.findIn K (.ref e38) "__setattr__" = some (some (.builtin "object.__setattr__")))
    (xga38 : PySem.W.findIn K (.ref e38) "__getattribute__" = some (some (.builtin "BaseException.__getattribute__")))
    (xgg38 : PySem.W.findIn K (.ref e38) "__getattr__" = some none)
    (xca38 : PySem.W.findIn K (.ref e38) "__class__" = some (some (.builtin "object.__class__")))
    (xk38 : PySem.W.keepIn K (.ref e38) = true)
    (xz38 : PySem.W.excIn K e38 [.type "ValueError", .type "Exception", .type "BaseException", .type "object"] "ValueError.__new__" = true)
    (xg39 : PySem.W.nsIn K mainGlobals "NothingToRedo" = some (some (.ref e39)))
    (xl39 : K.lookup e39 = some (excClassObj xnm39 xq39 e39 xN39 xbs39 [.ref cE, .type "ValueError", .type "Exception", .type "BaseException", .type "object"] true xsn39 xsub39 xab39 xcol39 xdd39 xa39 xb39 xc39 xd39 xe39 "ValueError.__new__"))
    (xs39 : PySem.W.findIn K (.ref e39) "__setattr__" = some (some (.builtin "object.__setattr__")))
    (xga39 : PySem.W.findIn K (.ref e39) "__getattribute__" = some (some (.builtin "BaseException.__getattribute__")))
    (xgg39 : PySem.W.findIn K (.ref e39) "__getattr__" = some none)
    (xca39 : PySem.W.findIn K (.ref e39) "__class__" = some (some (.builtin "object.__class__")))
    (xk39 : PySem.W.keepIn K (.ref e39) = true)
    (xz39 : PySem.W.excIn K e39 [.type "ValueError", .type "Exception", .type "BaseException", .type "object"] "ValueError.__new__" = true)
    (nd : ndB cE [e0, e1, e2, e3, e4, e5, e6, e7, e8, e9, e10, e11, e12, e13, e14, e15, e16, e17, e18, e19, e20, e21, e22, e23, e24, e25, e26, e27, e28, e29, e30, e31, e32, e33, e34, e35, e36, e37, e38, e39] = true)
    : ∃ fd : FuncData, (∀ (s : Shared) (v : Value), BindsTo s fd ⟨[v], []⟩ [("script", v)]) ∧ ∀ base : Heap, K.In base → base.Ns mainGlobals mg → ModsD base → FnG l.prog w K mg base CX0 7 fa fd ["script"] (spLaw K) := by
  have e := hfa.symm.trans (PySem.W.mg_of X G a23)
  cases e
  have Z : Zs mg := ⟨PySem.W.mg_none_of X G z_isinstance, PySem.W.mg_none_of X G z_int, PySem.W.mg_none_of X G z_bool, PySem.W.mg_none_of X G z_list, PySem.W.mg_none_of X G z_tuple, PySem.W.mg_none_of X G z_dict, PySem.W.mg_none_of X G z_len, PySem.W.mg_none_of X G z_abs, PySem.W.mg_none_of X G z_max, PySem.W.mg_none_of X G z_min, PySem.W.mg_none_of X G z_sum, PySem.W.mg_none_of X G z_repr, PySem.W.mg_none_of X G z_all, PySem.W.mg_none_of X G z_range, PySem.W.mg_none_of X G z_ValueError, ⟨_, PySem.W.mg_of X G gN, ⟨_, rfl⟩⟩, ⟨_, PySem.W.mg_of X G gS, ⟨_, rfl⟩⟩⟩
  have S : Sc K mg CS := ⟨⟨pgCS, hdCS, poCS, saCS⟩, nS, nT, nN, PySem.W.mg_of X G aS, haCS, hn, ht, hmCS, by simp [PySem.W.kitOne], qN, qL, qT, qS, qI, qB⟩
  have R : Rs K mg CR := ⟨⟨pgCR, hdCR, poCR, saCR⟩, nU, nB, haCR, hn, ht, hmCR, by simp [PySem.W.kitOne], PySem.W.mg_of X G aR, PySem.W.mg_of X G aG⟩
  have T0 : XF K cE e0 := ⟨⟨_, _, _, _, _, _, _, _, _, _, _, _, _, _, xl0⟩, xs0, xga0, xgg0, xca0, xk0⟩
  have T1 : XF K cE e1 := ⟨⟨_, _, _, _, _, _, _, _, _, _, _, _, _, _, xl1⟩, xs1, xga1, xgg1, xca1, xk1⟩
  have T2 : XF K cE e2 := ⟨⟨_, _, _, _, _, _, _, _, _, _, _, _, _, _, xl2⟩, xs2, xga2, xgg2, xca2, xk2⟩
  have T3 : XF K cE e3 := ⟨⟨_, _, _, _, _, _, _, _, _, _, _, _, _, _, xl3⟩, xs3, xga3, xgg3, xca3, xk3⟩
  have T4 : XF K cE e4 := ⟨⟨_, _, _, _, _, _, _, _, _, _, _, _, _, _, xl4⟩, xs4, xga4, xgg4, xca4, xk4⟩
  have T5 : XF K cE e5 := ⟨⟨_, _, _, _, _, _, _, _, _, _, _, _, _, _, xl5⟩, xs5, xga5, xgg5, xca5, xk5⟩
  have T6 : XF K cE e6 := ⟨⟨_, _, _, _, _, _, _, _, _, _, _, _, _, _, xl6⟩, xs6, xga6, xgg6, xca6, xk6⟩
  have T7 : XF K cE e7 := ⟨⟨_, _, _, _, _, _, _, _, _, _, _, _, _, _, xl7⟩, xs7, xga7, xgg7, xca7, xk7⟩
  have T8 : XF K cE e8 := ⟨⟨_, _, _, _, _, _, _, _, _, _, _, _, _, _, xl8⟩, xs8, xga8, xgg8, xca8, xk8⟩
  have T9 : XF K cE e9 := ⟨⟨_, _, _, _, _, _, _, _, _, _, _, _, _, _, xl9⟩, xs9, xga9, xgg9, xca9, xk9⟩
  have T10 : XF K cE e10 := ⟨⟨_, _, _, _, _, _, _, _, _, _, _, _, _, _, xl10⟩, xs10, xga10, xgg10, xca10, xk10⟩
  have T11 : XF K cE e11 := ⟨⟨_, _, _, _, _, _, _, _, _, _, _, _, _, _, xl11⟩, xs11, xga11, xgg11, xca11, xk11⟩
  have T12 : XF K cE e12 := ⟨⟨_, _, _, _, _, _, _, _, _, _, _, _, _, _, xl12⟩, xs12, xga12, xgg12, xca12, xk12⟩
  have T13 : XF K cE e13 := ⟨⟨_, _, _, _, _, _, _, _, _, _, _, _, _, _, xl13⟩, xs13, xga13, xgg13, xca13, xk13⟩
  have T14 : XF K cE e14 := ⟨⟨_, _, _, _, _, _, _, _, _, _, _, _, _, _, xl14⟩, xs14, xga14, xgg14, xca14, xk14⟩
  have T15 : XF K cE e15 := ⟨⟨_, _, _, _, _, _, _, _, _, _, _, _, _, _, xl15⟩, xs15, xga15, xgg15, xca15, xk15⟩
  have T16 : XF K cE e16 := ⟨⟨_, _, _, _, _, _, _, _, _, _, _, _, _, _, xl16⟩, xs16, xga16, xgg16, xca16, xk16⟩
  have T17 : XF K cE e17 := ⟨⟨_, _, _, _, _, _, _, _, _, _, _, _, _, _, xl17⟩, xs17, xga17, xgg17, xca17, xk17⟩
  have T18 : XF K cE e18 := ⟨⟨_, _, _, _, _, _, _, _, _, _, _, _, _, _, xl18⟩, xs18, xga18, xgg18, xca18, xk18⟩
  have T19 : XF K cE e19 := ⟨⟨_, _, _, _, _, _, _, _, _, _, _, _, _, _, xl19⟩, xs19, xga19, xgg19, xca19, xk19⟩
  have T20 : XF K cE e20 := ⟨⟨_, _, _, _, _, _, _, _, _, _, _, _, _, _, xl20⟩, xs20, xga20, xgg20, xca20, xk20⟩
  have T21 : XF K cE e21 := ⟨⟨_, _, _, _, _, _, _, _, _, _, _, _, _, _, xl21⟩, xs21, xga21, xgg21, xca21, xk21⟩
  have T22 : XF K cE e22 := ⟨⟨_, _, _, _, _, _, _, _, _, _, _, _, _, _, xl22⟩, xs22, xga22, xgg22, xca22, xk22⟩
  have T23 : XF K cE e23 := ⟨⟨_, _, _, _, _, _, _, _, _, _, _, _, _, _, xl23⟩, xs23, xga23, xgg23, xca23, xk23⟩
  have T24 : XF K cE e24 := ⟨⟨_, _, _, _, _, _, _, _, _, _, _, _, _, _, xl24⟩, xs24, xga24, xgg24, xca24, xk24⟩
  have T25 : XF K cE e25 := ⟨⟨_, _, _, _, _, _, _, _, _, _, _, _, _, _, xl25⟩, xs25, xga25, xgg25, xca25, xk25⟩
  have T26 : XF K cE e26 := ⟨⟨_, _, _, _, _, _, _, _, _, _, _, _, _, _, xl26⟩, xs26, xga26, xgg26, xca26, xk26⟩
  have T27 : XF K cE e27 := ⟨⟨_, _, _, _, _, _, _, _, _, _, _, _, _, _, xl27⟩, xs27, xga27, xgg27, xca27, xk27⟩
  have T28 : XF K cE e28 := ⟨⟨_, _, _, _, _, _, _, _, _, _, _, _, _, _, xl28⟩, xs28, xga28, xgg28, xca28, xk28⟩
  have T29 : XF K cE e29 := ⟨⟨_, _, _, _, _, _, _, _, _, _, _, _, _, _, xl29⟩, xs29, xga29, xgg29, xca29, xk29⟩
  have T30 : XF K cE e30 := ⟨⟨_, _, _, _, _, _, _, _, _, _, _, _, _, _, xl30⟩, xs30, xga30, xgg30, xca30, xk30⟩
  have T31 : XF K cE e31 := ⟨⟨_, _, _, _, _, _, _, _, _, _, _, _, _, _, xl31⟩, xs31, xga31, xgg31, xca31, xk31⟩
  have T32 : XF K cE e32 := ⟨⟨_, _, _, _, _, _, _, _, _, _, _, _, _, _, xl32⟩, xs32, xga32, xgg32, xca32, xk32⟩
  have T33 : XF K cE e33 := ⟨⟨_, _, _, _, _, _, _, _, _, _, _, _, _, _, xl33⟩, xs33, xga33, xgg33, xca33, xk33⟩
  have T34 : XF K cE e34 := ⟨⟨_, _, _, _, _, _, _, _, _, _, _, _, _, _, xl34⟩, xs34, xga34, xgg34, xca34, xk34⟩
  have T35 : XF K cE e35 := ⟨⟨_, _, _, _, _, _, _, _, _, _, _, _, _, _, xl35⟩, xs35, xga35, xgg35, xca35, xk35⟩
  have T36 : XF K cE e36 := ⟨⟨_, _, _, _, _, _, _, _, _, _, _, _, _, _, xl36⟩, xs36, xga36, xgg36, xca36, xk36⟩
  have T37 : XF K cE e37 := ⟨⟨_, _, _, _, _, _, _, _, _, _, _, _, _, _, xl37⟩, xs37, xga37, xgg37, xca37, xk37⟩
  have T38 : XF K cE e38 := ⟨⟨_, _, _, _, _, _, _, _, _, _, _, _, _, _, xl38⟩, xs38, xga38, xgg38, xca38, xk38⟩
  have T39 : XF K cE e39 := ⟨⟨_, _, _, _, _, _, _, _, _, _, _, _, _, _, xl39⟩, xs39, xga39, xgg39, xca39, xk39⟩
  have F0 := mk_fun (st := s_is_integer) l0 c0 k0
  have b0 := F0.binds (ps := ["value"]) fun _ _ _ _ _ _ us hl => match us, hl with | [_], _ => rfl
  have F1 := mk_fun (st := s_is_list) l1 c1 k1
  have b1 := F1.binds (ps := ["value"]) fun _ _ _ _ _ _ us hl => match us, hl with | [_], _ => rfl
  have F2 := mk_fun (st := s_is_from) l2 c2 k2
  have b2 := F2.binds (ps := ["value", "low", "high"]) fun _ _ _ _ _ _ us hl => match us, hl with | [_, _, _], _ => rfl
  have F3 := mk_fun (st := s_Space___init__) l3 c3 k3
  have b3 := F3.binds (ps := ["self", "sizes"]) fun _ _ _ _ _ _ us hl => match us, hl with | [_, _], _ => rfl
  have F4 := mk_fun (st := s_Space___eq__) l4 c4 k4
  have b4 := F4.binds (ps := ["self", "other"]) fun _ _ _ _ _ _ us hl => match us, hl with | [_, _], _ => rfl
  have F5 := mk_fun (st := s_Ratio___eq__) l5 c5 k5
  have b5 := F5.binds (ps := ["self", "other"]) fun _ _ _ _ _ _ us hl => match us, hl with | [_, _], _ => rfl
  have F6 := mk_fun (st := s_is_number) l6 c6 k6
  have b6 := F6.binds (ps := ["value"]) fun _ _ _ _ _ _ us hl => match us, hl with | [_], _ => rfl
  have F7 := mk_fun (st := s_as_ratio) l7 c7 k7
  have b7 := F7.binds (ps := ["value"]) fun _ _ _ _ _ _ us hl => match us, hl with | [_], _ => rfl
  have F8 := mk_fun (st := s_all_values) l8 c8 k8
  have b8 := F8.binds (ps := ["sizes"]) fun _ _ _ _ _ _ us hl => match us, hl with | [_], _ => rfl
  have F9 := mk_fun (st := s_is_sizes) l9 c9 k9
  have b9 := F9.binds (ps := ["value"]) fun _ _ _ _ _ _ us hl => match us, hl with | [_], _ => rfl
  have F10 := mk_fun (st := s__law_cell) l10 c10 k10
  have b10 := F10.binds (ps := ["script", "k"]) fun _ _ _ _ _ _ us hl => match us, hl with | [_, _], _ => rfl
  have F11 := mk_fun (st := s__law_box) l11 c11 k11
  have b11 := F11.binds (ps := ["great"]) fun _ _ _ _ _ _ us hl => match us, hl with | [_], _ => rfl
  have F12 := mk_fun (st := s__law_take) l12 c12 k12
  have b12 := F12.binds (ps := ["box", "many"]) fun _ _ _ _ _ _ us hl => match us, hl with | [_, _], _ => rfl
  have F13 := mk_fun (st := s__law_by_place) l13 c13 k13
  have b13 := F13.binds (ps := ["thing"]) fun _ _ _ _ _ _ us hl => match us, hl with | [_], _ => rfl
  have F14 := mk_fun (st := s__law_by_name) l14 c14 k14
  have b14 := F14.binds (ps := ["thing"]) fun _ _ _ _ _ _ us hl => match us, hl with | [_], _ => rfl
  have F15 := mk_fun (st := s__law_pairs) l15 c15 k15
  have b15 := F15.binds (ps := ["one", "other", "way"]) fun _ _ _ _ _ _ us hl => match us, hl with | [_, _, _], _ => rfl
  have F16 := mk_fun (st := s__law_sorts) l16 c16 k16
  have b16 := F16.binds (ps := ["e"]) fun _ _ _ _ _ _ us hl => match us, hl with | [_], _ => rfl
  have F17 := mk_fun (st := s__law_kept) l17 c17 k17
  have b17 := F17.binds (ps := ["e"]) fun _ _ _ _ _ _ us hl => match us, hl with | [_], _ => rfl
  have F18 := mk_fun (st := s__law_is) l18 c18 k18
  have b18 := F18.binds (ps := ["e", "spot"]) fun _ _ _ _ _ _ us hl => match us, hl with | [_, _], _ => rfl
  have F19 := mk_fun (st := s__law_thing) l19 c19 k19
  have b19 := F19.binds (ps := ["box"]) fun _ _ _ _ _ _ us hl => match us, hl with | [_], _ => rfl
  have F20 := mk_fun (st := s__law_all_right) l20 c20 k20
  have b20 := F20.binds (ps := ["box"]) fun _ _ _ _ _ _ us hl => match us, hl with | [_], _ => rfl
  have F21 := mk_fun (st := s__law_raised) l21 c21 k21
  have b21 := F21.binds (ps := ["way", "thing"]) fun _ _ _ _ _ _ us hl => match us, hl with | [_, _], _ => rfl
  have F22 := mk_fun (st := s__law_caught) l22 c22 k22
  have b22 := F22.binds (ps := ["box", "thing"]) fun _ _ _ _ _ _ us hl => match us, hl with | [_, _], _ => rfl
  have F23 := mk_fun (st := s_law) l23 c23 k23
  have b23 := F23.binds (ps := ["script"]) fun _ _ _ _ _ _ us hl => match us, hl with | [_], _ => rfl
  have FI : FunV K "__init__" "Ratio.__init__" s_Ratio___init__ fi _ := ⟨⟨_, _, _, _, _, _, _, _, _, _, rfl, li, ci⟩⟩
  refine ⟨PySem.W.fnOf "law" "law" (defArgs s_law) (defBody s_law) (defScope s_law) .none kV23 dc23 pm23 an23 cd23 ct23, fun s v => .of_eq rfl, fun base _ _ hM => ?_⟩
  have gE := PySem.W.mg_of X G aE
  have XF0 := mk_fun (st := s_InvalidNumber___init__) xfl0 xfc0 xfk0
  have xb_0 := XF0.binds (ps := ["self", "given"]) fun _ _ _ _ _ _ us hl => match us, hl with | [_, _], _ => rfl
  have xG0 : FnG l.prog w K mg base CX0 1 xf0 _ _ (spStore e0 1 (fsOf 0)) := ok_InvalidNumber XF0 T0.oex xn0_0
  have xgm0 := PySem.W.mg_of X G xg0
  have p0 : MakE l.prog w K mg base 1 "InvalidNumber" e0 1 [] byPlace (fsOf 0) := mkE_p xgm0 T0.oex xi0 xt0 xG0 xb_0 rfl
  have n0 : MakE l.prog w K mg base 1 "InvalidNumber" e0 0 ["given"] names (fsOf 0) := mkE_n xgm0 T0.oex xi0 xt0 xG0 rfl (Fun_kbn XF0 (ps := ["self", "given"]) 1 ["given"] (fun us ws => us ++ ws) (both) (fun r s => Vals.append r s) fun _ _ _ _ _ _ us ws h1 h2 => match us, ws, h1, h2 with | [_], [_], _, _ => rfl)
  have XF1 := mk_fun (st := s_InvalidSizes___init__) xfl1 xfc1 xfk1
  have xb_1 := XF1.binds (ps := ["self", "given"]) fun _ _ _ _ _ _ us hl => match us, hl with | [_, _], _ => rfl
  have xG1 : FnG l.prog w K mg base CX0 1 xf1 _ _ (spStore e1 1 (fsOf 1)) := ok_InvalidSizes XF1 T1.oex xn1_0
  have xgm1 := PySem.W.mg_of X G xg1
  have p1 : MakE l.prog w K mg base 1 "InvalidSizes" e1 1 [] byPlace (fsOf 1) := mkE_p xgm1 T1.oex xi1 xt1 xG1 xb_1 rfl
  have n1 : MakE l.prog w K mg base 1 "InvalidSizes" e1 0 ["given"] names (fsOf 1) := mkE_n xgm1 T1.oex xi1 xt1 xG1 rfl (Fun_kbn XF1 (ps := ["self", "given"]) 1 ["given"] (fun us ws => us ++ ws) (both) (fun r s => Vals.append r s) fun _ _ _ _ _ _ us ws h1 h2 => match us, ws, h1, h2 with | [_], [_], _, _ => rfl)
  have XF2 := mk_fun (st := s_InvalidStore___init__) xfl2 xfc2 xfk2
  have xb_2 := XF2.binds (ps := ["self", "given"]) fun _ _ _ _ _ _ us hl => match us, hl with | [_, _], _ => rfl
  have xG2 : FnG l.prog w K mg base CX0 1 xf2 _ _ (spStore e2 1 (fsOf 2)) := ok_InvalidStore XF2 T2.oex xn2_0
  have xgm2 := PySem.W.mg_of X G xg2
  have p2 : MakE l.prog w K mg base 1 "InvalidStore" e2 1 [] byPlace (fsOf 2) := mkE_p xgm2 T2.oex xi2 xt2 xG2 xb_2 rfl
  have n2 : MakE l.prog w K mg base 1 "InvalidStore" e2 0 ["given"] names (fsOf 2) := mkE_n xgm2 T2.oex xi2 xt2 xG2 rfl (Fun_kbn XF2 (ps := ["self", "given"]) 1 ["given"] (fun us ws => us ++ ws) (both) (fun r s => Vals.append r s) fun _ _ _ _ _ _ us ws h1 h2 => match us, ws, h1, h2 with | [_], [_], _, _ => rfl)
  have XF3 := mk_fun (st := s_InvalidValues___init__) xfl3 xfc3 xfk3
  have xb_3 := XF3.binds (ps := ["self", "given"]) fun _ _ _ _ _ _ us hl => match us, hl with | [_, _], _ => rfl
  have xG3 : FnG l.prog w K mg base CX0 1 xf3 _ _ (spStore e3 1 (fsOf 3)) := ok_InvalidValues XF3 T3.oex xn3_0
  have xgm3 := PySem.W.mg_of X G xg3
  have p3 : MakE l.prog w K mg base 1 "InvalidValues" e3 1 [] byPlace (fsOf 3) := mkE_p xgm3 T3.oex xi3 xt3 xG3 xb_3 rfl
  have n3 : MakE l.prog w K mg base 1 "InvalidValues" e3 0 ["given"] names (fsOf 3) := mkE_n xgm3 T3.oex xi3 xt3 xG3 rfl (Fun_kbn XF3 (ps := ["self", "given"]) 1 ["given"] (fun us ws => us ++ ws) (both) (fun r s => Vals.append r s) fun _ _ _ _ _ _ us ws h1 h2 => match us, ws, h1, h2 with | [_], [_], _, _ => rfl)
  have XF4 := mk_fun (st := s_InvalidLine___init__) xfl4 xfc4 xfk4
  have xb_4 := XF4.binds (ps := ["self", "given"]) fun _ _ _ _ _ _ us hl => match us, hl with | [_, _], _ => rfl
  have xG4 : FnG l.prog w K mg base CX0 1 xf4 _ _ (spStore e4 1 (fsOf 4)) := ok_InvalidLine XF4 T4.oex xn4_0
  have xgm4 := PySem.W.mg_of X G xg4
  have p4 : MakE l.prog w K mg base 1 "InvalidLine" e4 1 [] byPlace (fsOf 4) := mkE_p xgm4 T4.oex xi4 xt4 xG4 xb_4 rfl
  have n4 : MakE l.prog w K mg base 1 "InvalidLine" e4 0 ["given"] names (fsOf 4) := mkE_n xgm4 T4.oex xi4 xt4 xG4 rfl (Fun_kbn XF4 (ps := ["self", "given"]) 1 ["given"] (fun us ws => us ++ ws) (both) (fun r s => Vals.append r s) fun _ _ _ _ _ _ us ws h1 h2 => match us, ws, h1, h2 with | [_], [_], _, _ => rfl)
  have XF5 := mk_fun (st := s_InvalidSpace___init__) xfl5 xfc5 xfk5
  have xb_5 := XF5.binds (ps := ["self", "given"]) fun _ _ _ _ _ _ us hl => match us, hl with | [_, _], _ => rfl
  have xG5 : FnG l.prog w K mg base CX0 1 xf5 _ _ (spStore e5 1 (fsOf 5)) := ok_InvalidSpace XF5 T5.oex xn5_0
  have xgm5 := PySem.W.mg_of X G xg5
  have p5 : MakE l.prog w K mg base 1 "InvalidSpace" e5 1 [] byPlace (fsOf 5) := mkE_p xgm5 T5.oex xi5 xt5 xG5 xb_5 rfl
  have n5 : MakE l.prog w K mg base 1 "InvalidSpace" e5 0 ["given"] names (fsOf 5) := mkE_n xgm5 T5.oex xi5 xt5 xG5 rfl (Fun_kbn XF5 (ps := ["self", "given"]) 1 ["given"] (fun us ws => us ++ ws) (both) (fun r s => Vals.append r s) fun _ _ _ _ _ _ us ws h1 h2 => match us, ws, h1, h2 with | [_], [_], _, _ => rfl)
  have XF6 := mk_fun (st := s_InvalidOutcome___init__) xfl6 xfc6 xfk6
  have xb_6 := XF6.binds (ps := ["self", "given"]) fun _ _ _ _ _ _ us hl => match us, hl with | [_, _], _ => rfl
  have xG6 : FnG l.prog w K mg base CX0 1 xf6 _ _ (spStore e6 1 (fsOf 6)) := ok_InvalidOutcome XF6 T6.oex xn6_0
  have xgm6 := PySem.W.mg_of X G xg6
  have p6 : MakE l.prog w K mg base 1 "InvalidOutcome" e6 1 [] byPlace (fsOf 6) := mkE_p xgm6 T6.oex xi6 xt6 xG6 xb_6 rfl
  have n6 : MakE l.prog w K mg base 1 "InvalidOutcome" e6 0 ["given"] names (fsOf 6) := mkE_n xgm6 T6.oex xi6 xt6 xG6 rfl (Fun_kbn XF6 (ps := ["self", "given"]) 1 ["given"] (fun us ws => us ++ ws) (both) (fun r s => Vals.append r s) fun _ _ _ _ _ _ us ws h1 h2 => match us, ws, h1, h2 with | [_], [_], _, _ => rfl)
  have XF7 := mk_fun (st := s_InvalidWeights___init__) xfl7 xfc7 xfk7
  have xb_7 := XF7.binds (ps := ["self", "given"]) fun _ _ _ _ _ _ us hl => match us, hl with | [_, _], _ => rfl
  have xG7 : FnG l.prog w K mg base CX0 1 xf7 _ _ (spStore e7 1 (fsOf 7)) := ok_InvalidWeights XF7 T7.oex xn7_0
  have xgm7 := PySem.W.mg_of X G xg7
  have p7 : MakE l.prog w K mg base 1 "InvalidWeights" e7 1 [] byPlace (fsOf 7) := mkE_p xgm7 T7.oex xi7 xt7 xG7 xb_7 rfl
  have n7 : MakE l.prog w K mg base 1 "InvalidWeights" e7 0 ["given"] names (fsOf 7) := mkE_n xgm7 T7.oex xi7 xt7 xG7 rfl (Fun_kbn XF7 (ps := ["self", "given"]) 1 ["given"] (fun us ws => us ++ ws) (both) (fun r s => Vals.append r s) fun _ _ _ _ _ _ us ws h1 h2 => match us, ws, h1, h2 with | [_], [_], _, _ => rfl)
  have XF8 := mk_fun (st := s_InvalidLot___init__) xfl8 xfc8 xfk8
  have xb_8 := XF8.binds (ps := ["self", "given"]) fun _ _ _ _ _ _ us hl => match us, hl with | [_, _], _ => rfl
  have xG8 : FnG l.prog w K mg base CX0 1 xf8 _ _ (spStore e8 1 (fsOf 8)) := ok_InvalidLot XF8 T8.oex xn8_0
  have xgm8 := PySem.W.mg_of X G xg8
  have p8 : MakE l.prog w K mg base 1 "InvalidLot" e8 1 [] byPlace (fsOf 8) := mkE_p xgm8 T8.oex xi8 xt8 xG8 xb_8 rfl
  have n8 : MakE l.prog w K mg base 1 "InvalidLot" e8 0 ["given"] names (fsOf 8) := mkE_n xgm8 T8.oex xi8 xt8 xG8 rfl (Fun_kbn XF8 (ps := ["self", "given"]) 1 ["given"] (fun us ws => us ++ ws) (both) (fun r s => Vals.append r s) fun _ _ _ _ _ _ us ws h1 h2 => match us, ws, h1, h2 with | [_], [_], _, _ => rfl)
  have XF9 := mk_fun (st := s_InvalidLots___init__) xfl9 xfc9 xfk9
  have xb_9 := XF9.binds (ps := ["self", "given"]) fun _ _ _ _ _ _ us hl => match us, hl with | [_, _], _ => rfl
  have xG9 : FnG l.prog w K mg base CX0 1 xf9 _ _ (spStore e9 1 (fsOf 9)) := ok_InvalidLots XF9 T9.oex xn9_0
  have xgm9 := PySem.W.mg_of X G xg9
  have p9 : MakE l.prog w K mg base 1 "InvalidLots" e9 1 [] byPlace (fsOf 9) := mkE_p xgm9 T9.oex xi9 xt9 xG9 xb_9 rfl
  have n9 : MakE l.prog w K mg base 1 "InvalidLots" e9 0 ["given"] names (fsOf 9) := mkE_n xgm9 T9.oex xi9 xt9 xG9 rfl (Fun_kbn XF9 (ps := ["self", "given"]) 1 ["given"] (fun us ws => us ++ ws) (both) (fun r s => Vals.append r s) fun _ _ _ _ _ _ us ws h1 h2 => match us, ws, h1, h2 with | [_], [_], _, _ => rfl)
  have XF10 := mk_fun (st := s_InvalidPayoff___init__) xfl10 xfc10 xfk10
  have xb_10 := XF10.binds (ps := ["self", "given"]) fun _ _ _ _ _ _ us hl => match us, hl with | [_, _], _ => rfl
  have xG10 : FnG l.prog w K mg base CX0 1 xf10 _ _ (spStore e10 1 (fsOf 10)) := ok_InvalidPayoff XF10 T10.oex xn10_0
  have xgm10 := PySem.W.mg_of X G xg10
  have p10 : MakE l.prog w K mg base 1 "InvalidPayoff" e10 1 [] byPlace (fsOf 10) := mkE_p xgm10 T10.oex xi10 xt10 xG10 xb_10 rfl
  have n10 : MakE l.prog w K mg base 1 "InvalidPayoff" e10 0 ["given"] names (fsOf 10) := mkE_n xgm10 T10.oex xi10 xt10 xG10 rfl (Fun_kbn XF10 (ps := ["self", "given"]) 1 ["given"] (fun us ws => us ++ ws) (both) (fun r s => Vals.append r s) fun _ _ _ _ _ _ us ws h1 h2 => match us, ws, h1, h2 with | [_], [_], _, _ => rfl)
  have XF11 := mk_fun (st := s_InvalidText___init__) xfl11 xfc11 xfk11
  have xb_11 := XF11.binds (ps := ["self", "given"]) fun _ _ _ _ _ _ us hl => match us, hl with | [_, _], _ => rfl
  have xG11 : FnG l.prog w K mg base CX0 1 xf11 _ _ (spStore e11 1 (fsOf 11)) := ok_InvalidText XF11 T11.oex xn11_0
  have xgm11 := PySem.W.mg_of X G xg11
  have p11 : MakE l.prog w K mg base 1 "InvalidText" e11 1 [] byPlace (fsOf 11) := mkE_p xgm11 T11.oex xi11 xt11 xG11 xb_11 rfl
  have n11 : MakE l.prog w K mg base 1 "InvalidText" e11 0 ["given"] names (fsOf 11) := mkE_n xgm11 T11.oex xi11 xt11 xG11 rfl (Fun_kbn XF11 (ps := ["self", "given"]) 1 ["given"] (fun us ws => us ++ ws) (both) (fun r s => Vals.append r s) fun _ _ _ _ _ _ us ws h1 h2 => match us, ws, h1, h2 with | [_], [_], _, _ => rfl)
  have XF12 := mk_fun (st := s_InvalidSurrounding___init__) xfl12 xfc12 xfk12
  have xb_12 := XF12.binds (ps := ["self", "given"]) fun _ _ _ _ _ _ us hl => match us, hl with | [_, _], _ => rfl
  have xG12 : FnG l.prog w K mg base CX0 1 xf12 _ _ (spStore e12 1 (fsOf 12)) := ok_InvalidSurrounding XF12 T12.oex xn12_0
  have xgm12 := PySem.W.mg_of X G xg12
  have p12 : MakE l.prog w K mg base 1 "InvalidSurrounding" e12 1 [] byPlace (fsOf 12) := mkE_p xgm12 T12.oex xi12 xt12 xG12 xb_12 rfl
  have n12 : MakE l.prog w K mg base 1 "InvalidSurrounding" e12 0 ["given"] names (fsOf 12) := mkE_n xgm12 T12.oex xi12 xt12 xG12 rfl (Fun_kbn XF12 (ps := ["self", "given"]) 1 ["given"] (fun us ws => us ++ ws) (both) (fun r s => Vals.append r s) fun _ _ _ _ _ _ us ws h1 h2 => match us, ws, h1, h2 with | [_], [_], _, _ => rfl)
  have XF13 := mk_fun (st := s_InvalidPath___init__) xfl13 xfc13 xfk13
  have xb_13 := XF13.binds (ps := ["self", "given"]) fun _ _ _ _ _ _ us hl => match us, hl with | [_, _], _ => rfl
  have xG13 : FnG l.prog w K mg base CX0 1 xf13 _ _ (spStore e13 1 (fsOf 13)) := ok_InvalidPath XF13 T13.oex xn13_0
  have xgm13 := PySem.W.mg_of X G xg13
  have p13 : MakE l.prog w K mg base 1 "InvalidPath" e13 1 [] byPlace (fsOf 13) := mkE_p xgm13 T13.oex xi13 xt13 xG13 xb_13 rfl
  have n13 : MakE l.prog w K mg base 1 "InvalidPath" e13 0 ["given"] names (fsOf 13) := mkE_n xgm13 T13.oex xi13 xt13 xG13 rfl (Fun_kbn XF13 (ps := ["self", "given"]) 1 ["given"] (fun us ws => us ++ ws) (both) (fun r s => Vals.append r s) fun _ _ _ _ _ _ us ws h1 h2 => match us, ws, h1, h2 with | [_], [_], _, _ => rfl)
  have XF14 := mk_fun (st := s_InvalidPart___init__) xfl14 xfc14 xfk14
  have xb_14 := XF14.binds (ps := ["self", "given"]) fun _ _ _ _ _ _ us hl => match us, hl with | [_, _], _ => rfl
  have xG14 : FnG l.prog w K mg base CX0 1 xf14 _ _ (spStore e14 1 (fsOf 14)) := ok_InvalidPart XF14 T14.oex xn14_0
  have xgm14 := PySem.W.mg_of X G xg14
  have p14 : MakE l.prog w K mg base 1 "InvalidPart" e14 1 [] byPlace (fsOf 14) := mkE_p xgm14 T14.oex xi14 xt14 xG14 xb_14 rfl
  have n14 : MakE l.prog w K mg base 1 "InvalidPart" e14 0 ["given"] names (fsOf 14) := mkE_n xgm14 T14.oex xi14 xt14 xG14 rfl (Fun_kbn XF14 (ps := ["self", "given"]) 1 ["given"] (fun us ws => us ++ ws) (both) (fun r s => Vals.append r s) fun _ _ _ _ _ _ us ws h1 h2 => match us, ws, h1, h2 with | [_], [_], _, _ => rfl)
  have XF15 := mk_fun (st := s_InvalidSides___init__) xfl15 xfc15 xfk15
  have xb_15 := XF15.binds (ps := ["self", "given"]) fun _ _ _ _ _ _ us hl => match us, hl with | [_, _], _ => rfl
  have xG15 : FnG l.prog w K mg base CX0 1 xf15 _ _ (spStore e15 1 (fsOf 15)) := ok_InvalidSides XF15 T15.oex xn15_0
  have xgm15 := PySem.W.mg_of X G xg15
  have p15 : MakE l.prog w K mg base 1 "InvalidSides" e15 1 [] byPlace (fsOf 15) := mkE_p xgm15 T15.oex xi15 xt15 xG15 xb_15 rfl
  have n15 : MakE l.prog w K mg base 1 "InvalidSides" e15 0 ["given"] names (fsOf 15) := mkE_n xgm15 T15.oex xi15 xt15 xG15 rfl (Fun_kbn XF15 (ps := ["self", "given"]) 1 ["given"] (fun us ws => us ++ ws) (both) (fun r s => Vals.append r s) fun _ _ _ _ _ _ us ws h1 h2 => match us, ws, h1, h2 with | [_], [_], _, _ => rfl)
  have XF16 := mk_fun (st := s_InvalidDraws___init__) xfl16 xfc16 xfk16
  have xb_16 := XF16.binds (ps := ["self", "given"]) fun _ _ _ _ _ _ us hl => match us, hl with | [_, _], _ => rfl
  have xG16 : FnG l.prog w K mg base CX0 1 xf16 _ _ (spStore e16 1 (fsOf 16)) := ok_InvalidDraws XF16 T16.oex xn16_0
  have xgm16 := PySem.W.mg_of X G xg16
  have p16 : MakE l.prog w K mg base 1 "InvalidDraws" e16 1 [] byPlace (fsOf 16) := mkE_p xgm16 T16.oex xi16 xt16 xG16 xb_16 rfl
  have n16 : MakE l.prog w K mg base 1 "InvalidDraws" e16 0 ["given"] names (fsOf 16) := mkE_n xgm16 T16.oex xi16 xt16 xG16 rfl (Fun_kbn XF16 (ps := ["self", "given"]) 1 ["given"] (fun us ws => us ++ ws) (both) (fun r s => Vals.append r s) fun _ _ _ _ _ _ us ws h1 h2 => match us, ws, h1, h2 with | [_], [_], _, _ => rfl)
  have XF17 := mk_fun (st := s_InvalidShare___init__) xfl17 xfc17 xfk17
  have xb_17 := XF17.binds (ps := ["self", "given"]) fun _ _ _ _ _ _ us hl => match us, hl with | [_, _], _ => rfl
  have xG17 : FnG l.prog w K mg base CX0 1 xf17 _ _ (spStore e17 1 (fsOf 17)) := ok_InvalidShare XF17 T17.oex xn17_0
  have xgm17 := PySem.W.mg_of X G xg17
  have p17 : MakE l.prog w K mg base 1 "InvalidShare" e17 1 [] byPlace (fsOf 17) := mkE_p xgm17 T17.oex xi17 xt17 xG17 xb_17 rfl
  have n17 : MakE l.prog w K mg base 1 "InvalidShare" e17 0 ["given"] names (fsOf 17) := mkE_n xgm17 T17.oex xi17 xt17 xG17 rfl (Fun_kbn XF17 (ps := ["self", "given"]) 1 ["given"] (fun us ws => us ++ ws) (both) (fun r s => Vals.append r s) fun _ _ _ _ _ _ us ws h1 h2 => match us, ws, h1, h2 with | [_], [_], _, _ => rfl)
  have XF18 := mk_fun (st := s_InvalidSteps___init__) xfl18 xfc18 xfk18
  have xb_18 := XF18.binds (ps := ["self", "given"]) fun _ _ _ _ _ _ us hl => match us, hl with | [_, _], _ => rfl
  have xG18 : FnG l.prog w K mg base CX0 1 xf18 _ _ (spStore e18 1 (fsOf 18)) := ok_InvalidSteps XF18 T18.oex xn18_0
  have xgm18 := PySem.W.mg_of X G xg18
  have p18 : MakE l.prog w K mg base 1 "InvalidSteps" e18 1 [] byPlace (fsOf 18) := mkE_p xgm18 T18.oex xi18 xt18 xG18 xb_18 rfl
  have n18 : MakE l.prog w K mg base 1 "InvalidSteps" e18 0 ["given"] names (fsOf 18) := mkE_n xgm18 T18.oex xi18 xt18 xG18 rfl (Fun_kbn XF18 (ps := ["self", "given"]) 1 ["given"] (fun us ws => us ++ ws) (both) (fun r s => Vals.append r s) fun _ _ _ _ _ _ us ws h1 h2 => match us, ws, h1, h2 with | [_], [_], _, _ => rfl)
  have XF19 := mk_fun (st := s_InvalidRow___init__) xfl19 xfc19 xfk19
  have xb_19 := XF19.binds (ps := ["self", "given"]) fun _ _ _ _ _ _ us hl => match us, hl with | [_, _], _ => rfl
  have xG19 : FnG l.prog w K mg base CX0 1 xf19 _ _ (spStore e19 1 (fsOf 19)) := ok_InvalidRow XF19 T19.oex xn19_0
  have xgm19 := PySem.W.mg_of X G xg19
  have p19 : MakE l.prog w K mg base 1 "InvalidRow" e19 1 [] byPlace (fsOf 19) := mkE_p xgm19 T19.oex xi19 xt19 xG19 xb_19 rfl
  have n19 : MakE l.prog w K mg base 1 "InvalidRow" e19 0 ["given"] names (fsOf 19) := mkE_n xgm19 T19.oex xi19 xt19 xG19 rfl (Fun_kbn XF19 (ps := ["self", "given"]) 1 ["given"] (fun us ws => us ++ ws) (both) (fun r s => Vals.append r s) fun _ _ _ _ _ _ us ws h1 h2 => match us, ws, h1, h2 with | [_], [_], _, _ => rfl)
  have XF20 := mk_fun (st := s_InvalidPick___init__) xfl20 xfc20 xfk20
  have xb_20 := XF20.binds (ps := ["self", "given"]) fun _ _ _ _ _ _ us hl => match us, hl with | [_, _], _ => rfl
  have xG20 : FnG l.prog w K mg base CX0 1 xf20 _ _ (spStore e20 1 (fsOf 20)) := ok_InvalidPick XF20 T20.oex xn20_0
  have xgm20 := PySem.W.mg_of X G xg20
  have p20 : MakE l.prog w K mg base 1 "InvalidPick" e20 1 [] byPlace (fsOf 20) := mkE_p xgm20 T20.oex xi20 xt20 xG20 xb_20 rfl
  have n20 : MakE l.prog w K mg base 1 "InvalidPick" e20 0 ["given"] names (fsOf 20) := mkE_n xgm20 T20.oex xi20 xt20 xG20 rfl (Fun_kbn XF20 (ps := ["self", "given"]) 1 ["given"] (fun us ws => us ++ ws) (both) (fun r s => Vals.append r s) fun _ _ _ _ _ _ us ws h1 h2 => match us, ws, h1, h2 with | [_], [_], _, _ => rfl)
  have XF21 := mk_fun (st := s_InvalidDice___init__) xfl21 xfc21 xfk21
  have xb_21 := XF21.binds (ps := ["self", "given"]) fun _ _ _ _ _ _ us hl => match us, hl with | [_, _], _ => rfl
  have xG21 : FnG l.prog w K mg base CX0 1 xf21 _ _ (spStore e21 1 (fsOf 21)) := ok_InvalidDice XF21 T21.oex xn21_0
  have xgm21 := PySem.W.mg_of X G xg21
  have p21 : MakE l.prog w K mg base 1 "InvalidDice" e21 1 [] byPlace (fsOf 21) := mkE_p xgm21 T21.oex xi21 xt21 xG21 xb_21 rfl
  have n21 : MakE l.prog w K mg base 1 "InvalidDice" e21 0 ["given"] names (fsOf 21) := mkE_n xgm21 T21.oex xi21 xt21 xG21 rfl (Fun_kbn XF21 (ps := ["self", "given"]) 1 ["given"] (fun us ws => us ++ ws) (both) (fun r s => Vals.append r s) fun _ _ _ _ _ _ us ws h1 h2 => match us, ws, h1, h2 with | [_], [_], _, _ => rfl)
  have XF22 := mk_fun (st := s_InvalidBlend___init__) xfl22 xfc22 xfk22
  have xb_22 := XF22.binds (ps := ["self", "given"]) fun _ _ _ _ _ _ us hl => match us, hl with | [_, _], _ => rfl
  have xG22 : FnG l.prog w K mg base CX0 1 xf22 _ _ (spStore e22 1 (fsOf 22)) := ok_InvalidBlend XF22 T22.oex xn22_0
  have xgm22 := PySem.W.mg_of X G xg22
  have p22 : MakE l.prog w K mg base 1 "InvalidBlend" e22 1 [] byPlace (fsOf 22) := mkE_p xgm22 T22.oex xi22 xt22 xG22 xb_22 rfl
  have n22 : MakE l.prog w K mg base 1 "InvalidBlend" e22 0 ["given"] names (fsOf 22) := mkE_n xgm22 T22.oex xi22 xt22 xG22 rfl (Fun_kbn XF22 (ps := ["self", "given"]) 1 ["given"] (fun us ws => us ++ ws) (both) (fun r s => Vals.append r s) fun _ _ _ _ _ _ us ws h1 h2 => match us, ws, h1, h2 with | [_], [_], _, _ => rfl)
  have XF23 := mk_fun (st := s_InvalidLimits___init__) xfl23 xfc23 xfk23
  have xb_23 := XF23.binds (ps := ["self", "given"]) fun _ _ _ _ _ _ us hl => match us, hl with | [_, _], _ => rfl
  have xG23 : FnG l.prog w K mg base CX0 1 xf23 _ _ (spStore e23 1 (fsOf 23)) := ok_InvalidLimits XF23 T23.oex xn23_0
  have xgm23 := PySem.W.mg_of X G xg23
  have p23 : MakE l.prog w K mg base 1 "InvalidLimits" e23 1 [] byPlace (fsOf 23) := mkE_p xgm23 T23.oex xi23 xt23 xG23 xb_23 rfl
  have n23 : MakE l.prog w K mg base 1 "InvalidLimits" e23 0 ["given"] names (fsOf 23) := mkE_n xgm23 T23.oex xi23 xt23 xG23 rfl (Fun_kbn XF23 (ps := ["self", "given"]) 1 ["given"] (fun us ws => us ++ ws) (both) (fun r s => Vals.append r s) fun _ _ _ _ _ _ us ws h1 h2 => match us, ws, h1, h2 with | [_], [_], _, _ => rfl)
  have XF24 := mk_fun (st := s_InvalidPairs___init__) xfl24 xfc24 xfk24
  have xb_24 := XF24.binds (ps := ["self", "given"]) fun _ _ _ _ _ _ us hl => match us, hl with | [_, _], _ => rfl
  have xG24 : FnG l.prog w K mg base CX0 1 xf24 _ _ (spStore e24 1 (fsOf 24)) := ok_InvalidPairs XF24 T24.oex xn24_0
  have xgm24 := PySem.W.mg_of X G xg24
  have p24 : MakE l.prog w K mg base 1 "InvalidPairs" e24 1 [] byPlace (fsOf 24) := mkE_p xgm24 T24.oex xi24 xt24 xG24 xb_24 rfl
  have n24 : MakE l.prog w K mg base 1 "InvalidPairs" e24 0 ["given"] names (fsOf 24) := mkE_n xgm24 T24.oex xi24 xt24 xG24 rfl (Fun_kbn XF24 (ps := ["self", "given"]) 1 ["given"] (fun us ws => us ++ ws) (both) (fun r s => Vals.append r s) fun _ _ _ _ _ _ us ws h1 h2 => match us, ws, h1, h2 with | [_], [_], _, _ => rfl)
  have XF25 := mk_fun (st := s_InvalidSet___init__) xfl25 xfc25 xfk25
  have xb_25 := XF25.binds (ps := ["self", "given"]) fun _ _ _ _ _ _ us hl => match us, hl with | [_, _], _ => rfl
  have xG25 : FnG l.prog w K mg base CX0 1 xf25 _ _ (spStore e25 1 (fsOf 25)) := ok_InvalidSet XF25 T25.oex xn25_0
  have xgm25 := PySem.W.mg_of X G xg25
  have p25 : MakE l.prog w K mg base 1 "InvalidSet" e25 1 [] byPlace (fsOf 25) := mkE_p xgm25 T25.oex xi25 xt25 xG25 xb_25 rfl
  have n25 : MakE l.prog w K mg base 1 "InvalidSet" e25 0 ["given"] names (fsOf 25) := mkE_n xgm25 T25.oex xi25 xt25 xG25 rfl (Fun_kbn XF25 (ps := ["self", "given"]) 1 ["given"] (fun us ws => us ++ ws) (both) (fun r s => Vals.append r s) fun _ _ _ _ _ _ us ws h1 h2 => match us, ws, h1, h2 with | [_], [_], _, _ => rfl)
  have XF26 := mk_fun (st := s_InvalidName___init__) xfl26 xfc26 xfk26
  have xb_26 := XF26.binds (ps := ["self", "given"]) fun _ _ _ _ _ _ us hl => match us, hl with | [_, _], _ => rfl
  have xG26 : FnG l.prog w K mg base CX0 1 xf26 _ _ (spStore e26 1 (fsOf 26)) := ok_InvalidName XF26 T26.oex xn26_0
  have xgm26 := PySem.W.mg_of X G xg26
  have p26 : MakE l.prog w K mg base 1 "InvalidName" e26 1 [] byPlace (fsOf 26) := mkE_p xgm26 T26.oex xi26 xt26 xG26 xb_26 rfl
  have n26 : MakE l.prog w K mg base 1 "InvalidName" e26 0 ["given"] names (fsOf 26) := mkE_n xgm26 T26.oex xi26 xt26 xG26 rfl (Fun_kbn XF26 (ps := ["self", "given"]) 1 ["given"] (fun us ws => us ++ ws) (both) (fun r s => Vals.append r s) fun _ _ _ _ _ _ us ws h1 h2 => match us, ws, h1, h2 with | [_], [_], _, _ => rfl)
  have XF27 := mk_fun (st := s_InvalidOther___init__) xfl27 xfc27 xfk27
  have xb_27 := XF27.binds (ps := ["self", "given"]) fun _ _ _ _ _ _ us hl => match us, hl with | [_, _], _ => rfl
  have xG27 : FnG l.prog w K mg base CX0 1 xf27 _ _ (spStore e27 1 (fsOf 27)) := ok_InvalidOther XF27 T27.oex xn27_0
  have xgm27 := PySem.W.mg_of X G xg27
  have p27 : MakE l.prog w K mg base 1 "InvalidOther" e27 1 [] byPlace (fsOf 27) := mkE_p xgm27 T27.oex xi27 xt27 xG27 xb_27 rfl
  have n27 : MakE l.prog w K mg base 1 "InvalidOther" e27 0 ["given"] names (fsOf 27) := mkE_n xgm27 T27.oex xi27 xt27 xG27 rfl (Fun_kbn XF27 (ps := ["self", "given"]) 1 ["given"] (fun us ws => us ++ ws) (both) (fun r s => Vals.append r s) fun _ _ _ _ _ _ us ws h1 h2 => match us, ws, h1, h2 with | [_], [_], _, _ => rfl)
  have XF28 := mk_fun (st := s_TooMany___init__) xfl28 xfc28 xfk28
  have xb_28 := XF28.binds (ps := ["self", "count"]) fun _ _ _ _ _ _ us hl => match us, hl with | [_, _], _ => rfl
  have xG28 : FnG l.prog w K mg base CX0 1 xf28 _ _ (spStore e28 1 (fsOf 28)) := ok_TooMany XF28 T28.oex xn28_0
  have xgm28 := PySem.W.mg_of X G xg28
  have p28 : MakE l.prog w K mg base 1 "TooMany" e28 1 [] byPlace (fsOf 28) := mkE_p xgm28 T28.oex xi28 xt28 xG28 xb_28 rfl
  have n28 : MakE l.prog w K mg base 1 "TooMany" e28 0 ["count"] names (fsOf 28) := mkE_n xgm28 T28.oex xi28 xt28 xG28 rfl (Fun_kbn XF28 (ps := ["self", "count"]) 1 ["count"] (fun us ws => us ++ ws) (both) (fun r s => Vals.append r s) fun _ _ _ _ _ _ us ws h1 h2 => match us, ws, h1, h2 with | [_], [_], _, _ => rfl)
  have XF29 := mk_fun (st := s_Outside___init__) xfl29 xfc29 xfk29
  have xb_29 := XF29.binds (ps := ["self", "payoff"]) fun _ _ _ _ _ _ us hl => match us, hl with | [_, _], _ => rfl
  have xG29 : FnG l.prog w K mg base CX0 1 xf29 _ _ (spStore e29 1 (fsOf 29)) := ok_Outside XF29 T29.oex xn29_0
  have xgm29 := PySem.W.mg_of X G xg29
  have p29 : MakE l.prog w K mg base 1 "Outside" e29 1 [] byPlace (fsOf 29) := mkE_p xgm29 T29.oex xi29 xt29 xG29 xb_29 rfl
  have n29 : MakE l.prog w K mg base 1 "Outside" e29 0 ["payoff"] names (fsOf 29) := mkE_n xgm29 T29.oex xi29 xt29 xG29 rfl (Fun_kbn XF29 (ps := ["self", "payoff"]) 1 ["payoff"] (fun us ws => us ++ ws) (both) (fun r s => Vals.append r s) fun _ _ _ _ _ _ us ws h1 h2 => match us, ws, h1, h2 with | [_], [_], _, _ => rfl)
  have XF30 := mk_fun (st := s_MayGoOn___init__) xfl30 xfc30 xfk30
  have xb_30 := XF30.binds (ps := ["self", "store"]) fun _ _ _ _ _ _ us hl => match us, hl with | [_, _], _ => rfl
  have xG30 : FnG l.prog w K mg base CX0 1 xf30 _ _ (spStore e30 1 (fsOf 30)) := ok_MayGoOn XF30 T30.oex xn30_0
  have xgm30 := PySem.W.mg_of X G xg30
  have p30 : MakE l.prog w K mg base 1 "MayGoOn" e30 1 [] byPlace (fsOf 30) := mkE_p xgm30 T30.oex xi30 xt30 xG30 xb_30 rfl
  have n30 : MakE l.prog w K mg base 1 "MayGoOn" e30 0 ["store"] names (fsOf 30) := mkE_n xgm30 T30.oex xi30 xt30 xG30 rfl (Fun_kbn XF30 (ps := ["self", "store"]) 1 ["store"] (fun us ws => us ++ ws) (both) (fun r s => Vals.append r s) fun _ _ _ _ _ _ us ws h1 h2 => match us, ws, h1, h2 with | [_], [_], _, _ => rfl)
  have XF31 := mk_fun (st := s_NoThing___init__) xfl31 xfc31 xfk31
  have xb_31 := XF31.binds (ps := ["self", "name"]) fun _ _ _ _ _ _ us hl => match us, hl with | [_, _], _ => rfl
  have xG31 : FnG l.prog w K mg base CX0 1 xf31 _ _ (spStore e31 1 (fsOf 31)) := ok_NoThing XF31 T31.oex xn31_0
  have xgm31 := PySem.W.mg_of X G xg31
  have p31 : MakE l.prog w K mg base 1 "NoThing" e31 1 [] byPlace (fsOf 31) := mkE_p xgm31 T31.oex xi31 xt31 xG31 xb_31 rfl
  have n31 : MakE l.prog w K mg base 1 "NoThing" e31 0 ["name"] names (fsOf 31) := mkE_n xgm31 T31.oex xi31 xt31 xG31 rfl (Fun_kbn XF31 (ps := ["self", "name"]) 1 ["name"] (fun us ws => us ++ ws) (both) (fun r s => Vals.append r s) fun _ _ _ _ _ _ us ws h1 h2 => match us, ws, h1, h2 with | [_], [_], _, _ => rfl)
  have XF32 := mk_fun (st := s_NotBrought___init__) xfl32 xfc32 xfk32
  have xb_32 := XF32.binds (ps := ["self", "payoff", "table"]) fun _ _ _ _ _ _ us hl => match us, hl with | [_, _, _], _ => rfl
  have xG32 : FnG l.prog w K mg base CX0 1 xf32 _ _ (spStore e32 2 (fsOf 32)) := ok_NotBrought XF32 T32.oex xn32_0 xn32_1
  have xgm32 := PySem.W.mg_of X G xg32
  have p32 : MakE l.prog w K mg base 1 "NotBrought" e32 2 [] byPlace (fsOf 32) := mkE_p xgm32 T32.oex xi32 xt32 xG32 xb_32 rfl
  have n32 : MakE l.prog w K mg base 1 "NotBrought" e32 0 ["payoff", "table"] names (fsOf 32) := mkE_n xgm32 T32.oex xi32 xt32 xG32 rfl (Fun_kbn XF32 (ps := ["self", "payoff", "table"]) 1 ["payoff", "table"] (fun us ws => us ++ ws) (both) (fun r s => Vals.append r s) fun _ _ _ _ _ _ us ws h1 h2 => match us, ws, h1, h2 with | [_], [_, _], _, _ => rfl)
  have m32 : MakE l.prog w K mg base 1 "NotBrought" e32 0 ["table", "payoff"] rev2 (fsOf 32) := mkE_m xgm32 T32.oex xi32 xt32 xG32 (Fun_kbn XF32 (ps := ["self", "payoff", "table"]) 1 ["table", "payoff"] (fun us ws => us ++ ws.reverse) (fun xs ys => xs ++ ys.reverse) (fun r s => Vals.append r (vals_rev s)) fun _ _ _ _ _ _ us ws h1 h2 => match us, ws, h1, h2 with | [_], [_, _], _, _ => rfl)
  have q32 : MakE l.prog w K mg base 1 "NotBrought" e32 1 ["table"] both (fsOf 32) := mkE_q xgm32 T32.oex xi32 xt32 xG32 (Fun_kbn XF32 (ps := ["self", "payoff", "table"]) 2 ["table"] (fun us ws => us ++ ws) (both) (fun r s => Vals.append r s) fun _ _ _ _ _ _ us ws h1 h2 => match us, ws, h1, h2 with | [_, _], [_], _, _ => rfl)
  have XF33 := mk_fun (st := s_MayStay___init__) xfl33 xfc33 xfk33
  have xb_33 := XF33.binds (ps := ["self", "way", "rows"]) fun _ _ _ _ _ _ us hl => match us, hl with | [_, _, _], _ => rfl
  have xG33 : FnG l.prog w K mg base CX0 1 xf33 _ _ (spStore e33 2 (fsOf 33)) := ok_MayStay XF33 T33.oex xn33_0 xn33_1
  have xgm33 := PySem.W.mg_of X G xg33
  have p33 : MakE l.prog w K mg base 1 "MayStay" e33 2 [] byPlace (fsOf 33) := mkE_p xgm33 T33.oex xi33 xt33 xG33 xb_33 rfl
  have n33 : MakE l.prog w K mg base 1 "MayStay" e33 0 ["way", "rows"] names (fsOf 33) := mkE_n xgm33 T33.oex xi33 xt33 xG33 rfl (Fun_kbn XF33 (ps := ["self", "way", "rows"]) 1 ["way", "rows"] (fun us ws => us ++ ws) (both) (fun r s => Vals.append r s) fun _ _ _ _ _ _ us ws h1 h2 => match us, ws, h1, h2 with | [_], [_, _], _, _ => rfl)
  have m33 : MakE l.prog w K mg base 1 "MayStay" e33 0 ["rows", "way"] rev2 (fsOf 33) := mkE_m xgm33 T33.oex xi33 xt33 xG33 (Fun_kbn XF33 (ps := ["self", "way", "rows"]) 1 ["rows", "way"] (fun us ws => us ++ ws.reverse) (fun xs ys => xs ++ ys.reverse) (fun r s => Vals.append r (vals_rev s)) fun _ _ _ _ _ _ us ws h1 h2 => match us, ws, h1, h2 with | [_], [_, _], _, _ => rfl)
  have q33 : MakE l.prog w K mg base 1 "MayStay" e33 1 ["rows"] both (fsOf 33) := mkE_q xgm33 T33.oex xi33 xt33 xG33 (Fun_kbn XF33 (ps := ["self", "way", "rows"]) 2 ["rows"] (fun us ws => us ++ ws) (both) (fun r s => Vals.append r s) fun _ _ _ _ _ _ us ws h1 h2 => match us, ws, h1, h2 with | [_, _], [_], _, _ => rfl)
  have XF34 := mk_fun (st := s_TwoLots___init__) xfl34 xfc34 xfk34
  have xb_34 := XF34.binds (ps := ["self", "one", "other"]) fun _ _ _ _ _ _ us hl => match us, hl with | [_, _, _], _ => rfl
  have xG34 : FnG l.prog w K mg base CX0 1 xf34 _ _ (spStore e34 2 (fsOf 34)) := ok_TwoLots XF34 T34.oex xn34_0 xn34_1
  have xgm34 := PySem.W.mg_of X G xg34
  have p34 : MakE l.prog w K mg base 1 "TwoLots" e34 2 [] byPlace (fsOf 34) := mkE_p xgm34 T34.oex xi34 xt34 xG34 xb_34 rfl
  have n34 : MakE l.prog w K mg base 1 "TwoLots" e34 0 ["one", "other"] names (fsOf 34) := mkE_n xgm34 T34.oex xi34 xt34 xG34 rfl (Fun_kbn XF34 (ps := ["self", "one", "other"]) 1 ["one", "other"] (fun us ws => us ++ ws) (both) (fun r s => Vals.append r s) fun _ _ _ _ _ _ us ws h1 h2 => match us, ws, h1, h2 with | [_], [_, _], _, _ => rfl)
  have m34 : MakE l.prog w K mg base 1 "TwoLots" e34 0 ["other", "one"] rev2 (fsOf 34) := mkE_m xgm34 T34.oex xi34 xt34 xG34 (Fun_kbn XF34 (ps := ["self", "one", "other"]) 1 ["other", "one"] (fun us ws => us ++ ws.reverse) (fun xs ys => xs ++ ys.reverse) (fun r s => Vals.append r (vals_rev s)) fun _ _ _ _ _ _ us ws h1 h2 => match us, ws, h1, h2 with | [_], [_, _], _, _ => rfl)
  have q34 : MakE l.prog w K mg base 1 "TwoLots" e34 1 ["other"] both (fsOf 34) := mkE_q xgm34 T34.oex xi34 xt34 xG34 (Fun_kbn XF34 (ps := ["self", "one", "other"]) 2 ["other"] (fun us ws => us ++ ws) (both) (fun r s => Vals.append r s) fun _ _ _ _ _ _ us ws h1 h2 => match us, ws, h1, h2 with | [_, _], [_], _, _ => rfl)
  have XF35 := mk_fun (st := s_NotKept___init__) xfl35 xfc35 xfk35
  have xb_35 := XF35.binds (ps := ["self", "fees", "table"]) fun _ _ _ _ _ _ us hl => match us, hl with | [_, _, _], _ => rfl
  have xG35 : FnG l.prog w K mg base CX0 1 xf35 _ _ (spStore e35 2 (fsOf 35)) := ok_NotKept XF35 T35.oex xn35_0 xn35_1
  have xgm35 := PySem.W.mg_of X G xg35
  have p35 : MakE l.prog w K mg base 1 "NotKept" e35 2 [] byPlace (fsOf 35) := mkE_p xgm35 T35.oex xi35 xt35 xG35 xb_35 rfl
  have n35 : MakE l.prog w K mg base 1 "NotKept" e35 0 ["fees", "table"] names (fsOf 35) := mkE_n xgm35 T35.oex xi35 xt35 xG35 rfl (Fun_kbn XF35 (ps := ["self", "fees", "table"]) 1 ["fees", "table"] (fun us ws => us ++ ws) (both) (fun r s => Vals.append r s) fun _ _ _ _ _ _ us ws h1 h2 => match us, ws, h1, h2 with | [_], [_, _], _, _ => rfl)
  have m35 : MakE l.prog w K mg base 1 "NotKept" e35 0 ["table", "fees"] rev2 (fsOf 35) := mkE_m xgm35 T35.oex xi35 xt35 xG35 (Fun_kbn XF35 (ps := ["self", "fees", "table"]) 1 ["table", "fees"] (fun us ws => us ++ ws.reverse) (fun xs ys => xs ++ ys.reverse) (fun r s => Vals.append r (vals_rev s)) fun _ _ _ _ _ _ us ws h1 h2 => match us, ws, h1, h2 with | [_], [_, _], _, _ => rfl)
  have q35 : MakE l.prog w K mg base 1 "NotKept" e35 1 ["table"] both (fsOf 35) := mkE_q xgm35 T35.oex xi35 xt35 xG35 (Fun_kbn XF35 (ps := ["self", "fees", "table"]) 2 ["table"] (fun us ws => us ++ ws) (both) (fun r s => Vals.append r s) fun _ _ _ _ _ _ us ws h1 h2 => match us, ws, h1, h2 with | [_, _], [_], _, _ => rfl)
  have XF36 := mk_fun (st := s_NoCommon___init__) xfl36 xfc36 xfk36
  have xb_36 := XF36.binds (ps := ["self", "payoffs", "tables"]) fun _ _ _ _ _ _ us hl => match us, hl with | [_, _, _], _ => rfl
  have xG36 : FnG l.prog w K mg base CX0 1 xf36 _ _ (spStore e36 2 (fsOf 36)) := ok_NoCommon XF36 T36.oex xn36_0 xn36_1
  have xgm36 := PySem.W.mg_of X G xg36
  have p36 : MakE l.prog w K mg base 1 "NoCommon" e36 2 [] byPlace (fsOf 36) := mkE_p xgm36 T36.oex xi36 xt36 xG36 xb_36 rfl
  have n36 : MakE l.prog w K mg base 1 "NoCommon" e36 0 ["payoffs", "tables"] names (fsOf 36) := mkE_n xgm36 T36.oex xi36 xt36 xG36 rfl (Fun_kbn XF36 (ps := ["self", "payoffs", "tables"]) 1 ["payoffs", "tables"] (fun us ws => us ++ ws) (both) (fun r s => Vals.append r s) fun _ _ _ _ _ _ us ws h1 h2 => match us, ws, h1, h2 with | [_], [_, _], _, _ => rfl)
  have m36 : MakE l.prog w K mg base 1 "NoCommon" e36 0 ["tables", "payoffs"] rev2 (fsOf 36) := mkE_m xgm36 T36.oex xi36 xt36 xG36 (Fun_kbn XF36 (ps := ["self", "payoffs", "tables"]) 1 ["tables", "payoffs"] (fun us ws => us ++ ws.reverse) (fun xs ys => xs ++ ys.reverse) (fun r s => Vals.append r (vals_rev s)) fun _ _ _ _ _ _ us ws h1 h2 => match us, ws, h1, h2 with | [_], [_, _], _, _ => rfl)
  have q36 : MakE l.prog w K mg base 1 "NoCommon" e36 1 ["tables"] both (fsOf 36) := mkE_q xgm36 T36.oex xi36 xt36 xG36 (Fun_kbn XF36 (ps := ["self", "payoffs", "tables"]) 2 ["tables"] (fun us ws => us ++ ws) (both) (fun r s => Vals.append r s) fun _ _ _ _ _ _ us ws h1 h2 => match us, ws, h1, h2 with | [_, _], [_], _, _ => rfl)
  have B37 : Exc0 K e37 := ⟨xz37, xk37, T37.base, T37.ty⟩
  have xgm37 := PySem.W.mg_of X G xg37
  have B38 : Exc0 K e38 := ⟨xz38, xk38, T38.base, T38.ty⟩
  have xgm38 := PySem.W.mg_of X G xg38
  have B39 : Exc0 K e39 := ⟨xz39, xk39, T39.base, T39.ty⟩
  have xgm39 := PySem.W.mg_of X G xg39
  obtain ⟨E, hE⟩ : ∃ E : Nat → Addr, E = fun k => [e0, e1, e2, e3, e4, e5, e6, e7, e8, e9, e10, e11, e12, e13, e14, e15, e16, e17, e18, e19, e20, e21, e22, e23, e24, e25, e26, e27, e28, e29, e30, e31, e32, e33, e34, e35, e36, e37, e38, e39].getD k 0 := ⟨_, rfl⟩
  have EE : ∀ k, [e0, e1, e2, e3, e4, e5, e6, e7, e8, e9, e10, e11, e12, e13, e14, e15, e16, e17, e18, e19, e20, e21, e22, e23, e24, e25, e26, e27, e28, e29, e30, e31, e32, e33, e34, e35, e36, e37, e38, e39].getD k 0 = E k := fun k => by rw [hE]
  have E0 : E 0 = e0 := by rw [hE]; rfl
  have E1 : E 1 = e1 := by rw [hE]; rfl
  have E2 : E 2 = e2 := by rw [hE]; rfl
  have E3 : E 3 = e3 := by rw [hE]; rfl
  have E4 : E 4 = e4 := by rw [hE]; rfl
  have E5 : E 5 = e5 := by rw [hE]; rfl
  have E6 : E 6 = e6 := by rw [hE]; rfl
  have E7 : E 7 = e7 := by rw [hE]; rfl
  have E8 : E 8 = e8 := by rw [hE]; rfl
  have E9 : E 9 = e9 := by rw [hE]; rfl
  have E10 : E 10 = e10 := by rw [hE]; rfl
  have E11 : E 11 = e11 := by rw [hE]; rfl
  have E12 : E 12 = e12 := by rw [hE]; rfl
  have E13 : E 13 = e13 := by rw [hE]; rfl
  have E14 : E 14 = e14 := by rw [hE]; rfl
  have E15 : E 15 = e15 := by rw [hE]; rfl
  have E16 : E 16 = e16 := by rw [hE]; rfl
  have E17 : E 17 = e17 := by rw [hE]; rfl
  have E18 : E 18 = e18 := by rw [hE]; rfl
  have E19 : E 19 = e19 := by rw [hE]; rfl
  have E20 : E 20 = e20 := by rw [hE]; rfl
  have E21 : E 21 = e21 := by rw [hE]; rfl
  have E22 : E 22 = e22 := by rw [hE]; rfl
  have E23 : E 23 = e23 := by rw [hE]; rfl
  have E24 : E 24 = e24 := by rw [hE]; rfl
  have E25 : E 25 = e25 := by rw [hE]; rfl
  have E26 : E 26 = e26 := by rw [hE]; rfl
  have E27 : E 27 = e27 := by rw [hE]; rfl
  have E28 : E 28 = e28 := by rw [hE]; rfl
  have E29 : E 29 = e29 := by rw [hE]; rfl
  have E30 : E 30 = e30 := by rw [hE]; rfl
  have E31 : E 31 = e31 := by rw [hE]; rfl
  have E32 : E 32 = e32 := by rw [hE]; rfl
  have E33 : E 33 = e33 := by rw [hE]; rfl
  have E34 : E 34 = e34 := by rw [hE]; rfl
  have E35 : E 35 = e35 := by rw [hE]; rfl
  have E36 : E 36 = e36 := by rw [hE]; rfl
  have E37 : E 37 = e37 := by rw [hE]; rfl
  have E38 : E 38 = e38 := by rw [hE]; rfl
  have E39 : E 39 = e39 := by rw [hE]; rfl
  clear hE
  have TT : ∀ i, i < 40 → XF K cE (E i) := lt_cons (by rw [E39]; exact T39) (lt_cons (by rw [E38]; exact T38) (lt_cons (by rw [E37]; exact T37) (lt_cons (by rw [E36]; exact T36) (lt_cons (by rw [E35]; exact T35) (lt_cons (by rw [E34]; exact T34) (lt_cons (by rw [E33]; exact T33) (lt_cons (by rw [E32]; exact T32) (lt_cons (by rw [E31]; exact T31) (lt_cons (by rw [E30]; exact T30) (lt_cons (by rw [E29]; exact T29) (lt_cons (by rw [E28]; exact T28) (lt_cons (by rw [E27]; exact T27) (lt_cons (by rw [E26]; exact T26) (lt_cons (by rw [E25]; exact T25) (lt_cons (by rw [E24]; exact T24) (lt_cons (by rw [E23]; exact T23) (lt_cons (by rw [E22]; exact T22) (lt_cons (by rw [E21]; exact T21) (lt_cons (by rw [E20]; exact T20) (lt_cons (by rw [E19]; exact T19) (lt_cons (by rw [E18]; exact T18) (lt_cons (by rw [E17]; exact T17) (lt_cons (by rw [E16]; exact T16) (lt_cons (by rw [E15]; exact T15) (lt_cons (by rw [E14]; exact T14) (lt_cons (by rw [E13]; exact T13) (lt_cons (by rw [E12]; exact T12) (lt_cons (by rw [E11]; exact T11) (lt_cons (by rw [E10]; exact T10) (lt_cons (by rw [E9]; exact T9) (lt_cons (by rw [E8]; exact T8) (lt_cons (by rw [E7]; exact T7) (lt_cons (by rw [E6]; exact T6) (lt_cons (by rw [E5]; exact T5) (lt_cons (by rw [E4]; exact T4) (lt_cons (by rw [E3]; exact T3) (lt_cons (by rw [E2]; exact T2) (lt_cons (by rw [E1]; exact T1) (lt_cons (by rw [E0]; exact T0) (lt_nil))))))))))))))))))))))))))))))))))))))))
  have nd' : ∀ i j, i < 40 → j < 40 → decide (E j = E i) = decide (i = j) ∧ cE ≠ E i := fun i j hi hj => by rw [← EE i, ← EE j]; exact ndB_ok nd hi hj
  have FL : ∀ i, i < 37 → ∀ f ∈ fnames i, PySem.W.findIn K (.ref (E i)) f = some none := lt_cons (by rw [E36]; intro f hf; simp only [fnames, List.mem_cons, List.not_mem_nil, or_false] at hf; (rcases hf with rfl | rfl) <;> first | exact xn36_0 | exact xn36_1) (lt_cons (by rw [E35]; intro f hf; simp only [fnames, List.mem_cons, List.not_mem_nil, or_false] at hf; (rcases hf with rfl | rfl) <;> first | exact xn35_0 | exact xn35_1) (lt_cons (by rw [E34]; intro f hf; simp only [fnames, List.mem_cons, List.not_mem_nil, or_false] at hf; (rcases hf with rfl | rfl) <;> first | exact xn34_0 | exact xn34_1) (lt_cons (by rw [E33]; intro f hf; simp only [fnames, List.mem_cons, List.not_mem_nil, or_false] at hf; (rcases hf with rfl | rfl) <;> first | exact xn33_0 | exact xn33_1) (lt_cons (by rw [E32]; intro f hf; simp only [fnames, List.mem_cons, List.not_mem_nil, or_false] at hf; (rcases hf with rfl | rfl) <;> first | exact xn32_0 | exact xn32_1) (lt_cons (by rw [E31]; intro f hf; simp only [fnames, List.mem_cons, List.not_mem_nil, or_false] at hf; subst hf; exact xn31_0) (lt_cons (by rw [E30]; intro f hf; simp only [fnames, List.mem_cons, List.not_mem_nil, or_false] at hf; subst hf; exact xn30_0) (lt_cons (by rw [E29]; intro f hf; simp only [fnames, List.mem_cons, List.not_mem_nil, or_false] at hf; subst hf; exact xn29_0) (lt_cons (by rw [E28]; intro f hf; simp only [fnames, List.mem_cons, List.not_mem_nil, or_false] at hf; subst hf; exact xn28_0) (lt_cons (by rw [E27]; intro f hf; simp only [fnames, List.mem_cons, List.not_mem_nil, or_false] at hf; subst hf; exact xn27_0) (lt_cons (by rw [E26]; intro f hf; simp only [fnames, List.mem_cons, List.not_mem_nil, or_false] at hf; subst hf; exact xn26_0) (lt_cons (by rw [E25]; intro f hf; simp only [fnames, List.mem_cons, List.not_mem_nil, or_false] at hf; subst hf; exact xn25_0) (lt_cons (by rw [E24]; intro f hf; simp only [fnames, List.mem_cons, List.not_mem_nil, or_false] at hf; subst hf; exact xn24_0) (lt_cons (by rw [E23]; intro f hf; simp only [fnames, List.mem_cons, List.not_mem_nil, or_false] at hf; subst hf; exact xn23_0) (lt_cons (by rw [E22]; intro f hf; simp only [fnames, List.mem_cons, List.not_mem_nil, or_false] at hf; subst hf; exact xn22_0) (lt_cons (by rw [E21]; intro f hf; simp only [fnames, List.mem_cons, List.not_mem_nil, or_false] at hf; subst hf; exact xn21_0) (lt_cons (by rw [E20]; intro f hf; simp only [fnames, List.mem_cons, List.not_mem_nil, or_false] at hf; subst hf; exact xn20_0) (lt_cons (by rw [E19]; intro f hf; simp only [fnames, List.mem_cons, List.not_mem_nil, or_false] at hf; subst hf; exact xn19_0) (lt_cons (by rw [E18]; intro f hf; simp only [fnames, List.mem_cons, List.not_mem_nil, or_false] at hf; subst hf; exact xn18_0) (lt_cons (by rw [E17]; intro f hf; simp only [fnames, List.mem_cons, List.not_mem_nil, or_false] at hf; subst hf; exact xn17_0) (lt_cons (by rw [E16]; intro f hf; simp only [fnames, List.mem_cons, List.not_mem_nil, or_false] at hf; subst hf; exact xn16_0) (lt_cons (by rw [E15]; intro f hf; simp only [fnames, List.mem_cons, List.not_mem_nil, or_false] at hf; subst hf; exact xn15_0) (lt_cons (by rw [E14]; intro f hf; simp only [fnames, List.mem_cons, List.not_mem_nil, or_false] at hf; subst hf; exact xn14_0) (lt_cons (by rw [E13]; intro f hf; simp only [fnames, List.mem_cons, List.not_mem_nil, or_false] at hf; subst hf; exact xn13_0) (lt_cons (by rw [E12]; intro f hf; simp only [fnames, List.mem_cons, List.not_mem_nil, or_false] at hf; subst hf; exact xn12_0) (lt_cons (by rw [E11]; intro f hf; simp only [fnames, List.mem_cons, List.not_mem_nil, or_false] at hf; subst hf; exact xn11_0) (lt_cons (by rw [E10]; intro f hf; simp only [fnames, List.mem_cons, List.not_mem_nil, or_false] at hf; subst hf; exact xn10_0) (lt_cons (by rw [E9]; intro f hf; simp only [fnames, List.mem_cons, List.not_mem_nil, or_false] at hf; subst hf; exact xn9_0) (lt_cons (by rw [E8]; intro f hf; simp only [fnames, List.mem_cons, List.not_mem_nil, or_false] at hf; subst hf; exact xn8_0) (lt_cons (by rw [E7]; intro f hf; simp only [fnames, List.mem_cons, List.not_mem_nil, or_false] at hf; subst hf; exact xn7_0) (lt_cons (by rw [E6]; intro f hf; simp only [fnames, List.mem_cons, List.not_mem_nil, or_false] at hf; subst hf; exact xn6_0) (lt_cons (by rw [E5]; intro f hf; simp only [fnames, List.mem_cons, List.not_mem_nil, or_false] at hf; subst hf; exact xn5_0) (lt_cons (by rw [E4]; intro f hf; simp only [fnames, List.mem_cons, List.not_mem_nil, or_false] at hf; subst hf; exact xn4_0) (lt_cons (by rw [E3]; intro f hf; simp only [fnames, List.mem_cons, List.not_mem_nil, or_false] at hf; subst hf; exact xn3_0) (lt_cons (by rw [E2]; intro f hf; simp only [fnames, List.mem_cons, List.not_mem_nil, or_false] at hf; subst hf; exact xn2_0) (lt_cons (by rw [E1]; intro f hf; simp only [fnames, List.mem_cons, List.not_mem_nil, or_false] at hf; subst hf; exact xn1_0) (lt_cons (by rw [E0]; intro f hf; simp only [fnames, List.mem_cons, List.not_mem_nil, or_false] at hf; subst hf; exact xn0_0) (lt_nil)))))))))))))))))))))))))))))))))))))
  have ER : Er l.prog w K mg base E cE := { g0 := by rw [E0]; exact xgm0, p0 := by rw [E0]; exact p0, n0 := by rw [E0]; exact n0, g1 := by rw [E1]; exact xgm1, p1 := by rw [E1]; exact p1, n1 := by rw [E1]; exact n1, g2 := by rw [E2]; exact xgm2, p2 := by rw [E2]; exact p2, n2 := by rw [E2]; exact n2, g3 := by rw [E3]; exact xgm3, p3 := by rw [E3]; exact p3, n3 := by rw [E3]; exact n3, g4 := by rw [E4]; exact xgm4, p4 := by rw [E4]; exact p4, n4 := by rw [E4]; exact n4, g5 := by rw [E5]; exact xgm5, p5 := by rw [E5]; exact p5, n5 := by rw [E5]; exact n5, g6 := by rw [E6]; exact xgm6, p6 := by rw [E6]; exact p6, n6 := by rw [E6]; exact n6, g7 := by rw [E7]; exact xgm7, p7 := by rw [E7]; exact p7, n7 := by rw [E7]; exact n7, g8 := by rw [E8]; exact xgm8, p8 := by rw [E8]; exact p8, n8 := by rw [E8]; exact n8, g9 := by rw [E9]; exact xgm9, p9 := by rw [E9]; exact p9, n9 := by rw [E9]; exact n9, g10 := by rw [E10]; exact xgm10, p10 := by rw [E10]; exact p10, n10 := by rw [E10]; exact n10, g11 := by rw [E11]; exact xgm11, p11 := by rw [E11]; exact p11, n11 := by rw [E11]; exact n11, g12 := by rw [E12]; exact xgm12, p12 := by rw [E12]; exact p12, n12 := by rw [E12]; exact n12, g13 := by rw [E13]; exact xgm13, p13 := by rw [E13]; exact p13, n13 := by rw [E13]; exact n13, g14 := by rw [E14]; exact xgm14, p14 := by rw [E14]; exact p14, n14 := by rw [E14]; exact n14, g15 := by rw [E15]; exact xgm15, p15 := by rw [E15]; exact p15, n15 := by rw [E15]; exact n15, g16 := by rw [E16]; exact xgm16, p16 := by rw [E16]; exact p16, n16 := by rw [E16]; exact n16, g17 := by rw [E17]; exact xgm17, p17 := by rw [E17]; exact p17, n17 := by rw [E17]; exact n17, g18 := by rw [E18]; exact xgm18, p18 := by rw [E18]; exact p18, n18 := by rw [E18]; exact n18, g19 := by rw [E19]; exact xgm19, p19 := by rw [E19]; exact p19, n19 := by rw [E19]; exact n19, g20 := by rw [E20]; exact xgm20, p20 := by rw [E20]; exact p20, n20 := by rw [E20]; exact n20, g21 := by rw [E21]; exact xgm21, p21 := by rw [E21]; exact p21, n21 := by rw [E21]; exact n21, g22 := by rw [E22]; exact xgm22, p22 := by rw [E22]; exact p22, n22 := by rw [E22]; exact n22, g23 := by rw [E23]; exact xgm23, p23 := by rw [E23]; exact p23, n23 := by rw [E23]; exact n23, g24 := by rw [E24]; exact xgm24, p24 := by rw [E24]; exact p24, n24 := by rw [E24]; exact n24, g25 := by rw [E25]; exact xgm25, p25 := by rw [E25]; exact p25, n25 := by rw [E25]; exact n25, g26 := by rw [E26]; exact xgm26, p26 := by rw [E26]; exact p26, n26 := by rw [E26]; exact n26, g27 := by rw [E27]; exact xgm27, p27 := by rw [E27]; exact p27, n27 := by rw [E27]; exact n27, g28 := by rw [E28]; exact xgm28, p28 := by rw [E28]; exact p28, n28 := by rw [E28]; exact n28, g29 := by rw [E29]; exact xgm29, p29 := by rw [E29]; exact p29, n29 := by rw [E29]; exact n29, g30 := by rw [E30]; exact xgm30, p30 := by rw [E30]; exact p30, n30 := by rw [E30]; exact n30, g31 := by rw [E31]; exact xgm31, p31 := by rw [E31]; exact p31, n31 := by rw [E31]; exact n31, g32 := by rw [E32]; exact xgm32, p32 := by rw [E32]; exact p32, n32 := by rw [E32]; exact n32, m32 := by rw [E32]; exact m32, q32 := by rw [E32]; exact q32, g33 := by rw [E33]; exact xgm33, p33 := by rw [E33]; exact p33, n33 := by rw [E33]; exact n33, m33 := by rw [E33]; exact m33, q33 := by rw [E33]; exact q33, g34 := by rw [E34]; exact xgm34, p34 := by rw [E34]; exact p34, n34 := by rw [E34]; exact n34, m34 := by rw [E34]; exact m34, q34 := by rw [E34]; exact q34, g35 := by rw [E35]; exact xgm35, p35 := by rw [E35]; exact p35, n35 := by rw [E35]; exact n35, m35 := by rw [E35]; exact m35, q35 := by rw [E35]; exact q35, g36 := by rw [E36]; exact xgm36, p36 := by rw [E36]; exact p36, n36 := by rw [E36]; exact n36, m36 := by rw [E36]; exact m36, q36 := by rw [E36]; exact q36, g37 := by rw [E37]; exact xgm37, b37 := by rw [E37]; exact B37, g38 := by rw [E38]; exact xgm38, b38 := by rw [E38]; exact B38, g39 := by rw [E39]; exact xgm39, b39 := by rw [E39]; exact B39, gE := gE, xc := fun i hi => (TT i hi).exc hn ht, own := fun i hi => (TT i hi).own, kit := fun i j hi hj => by rw [((TT i hi).kit (TT j hj) (nd' j i hj hi).2).2, (nd' i j hi hj).1], kitE := fun i hi => (TT i hi).kitE isE tyE, kitV := fun i hi => (TT i hi).kitV, xf := fun i hi => (TT i (by omega)).xf, fl := FL, exE := fun i hi => exm_of baE isE tyE (TT i hi).end_, exO := fun i j hi hj => by rw [(TT i hi).exO (TT j hj) (nd' j i hj hi).2, (nd' i j hi hj).1] }
  have g0 : FnG l.prog w K mg base CX0 1 f0 _ _ spIsInt := ok_is_integer F0 Z
  have d_is_integer : DefD l.prog w K mg base 1 "is_integer" 1 [] byPlace spIsInt := ⟨_, _, _, _, PySem.W.mg_of X G a0, k0, g0, kbn_place b0 1 rfl⟩
  have g1 : FnG l.prog w K mg base CX0 1 f1 _ _ spIsList := ok_is_list F1 Z
  have d_is_list : DefD l.prog w K mg base 1 "is_list" 1 [] byPlace spIsList := ⟨_, _, _, _, PySem.W.mg_of X G a1, k1, g1, kbn_place b1 1 rfl⟩
  have g2 : FnG l.prog w K mg base CX0 2 f2 _ _ spIsFrom := ok_is_from F2 d_is_integer
  have d_is_from : DefD l.prog w K mg base 2 "is_from" 3 [] byPlace spIsFrom := ⟨_, _, _, _, PySem.W.mg_of X G a2, k2, g2, kbn_place b2 3 rfl⟩
  have g9 : FnG l.prog w K mg base CX0 3 f9 _ _ spIsSizes := ok_is_sizes F9 Z d_is_list d_is_from
  have d_is_sizes : DefD l.prog w K mg base 3 "is_sizes" 1 [] byPlace spIsSizes := ⟨_, _, _, _, PySem.W.mg_of X G a9, k9, g9, kbn_place b9 1 rfl⟩
  have g8 : FnG l.prog w K mg base CX0 1 f8 _ _ spAllValues := ok_all_values F8 Z
  have d_all_values : DefD l.prog w K mg base 1 "all_values" 1 [] byPlace spAllValues := ⟨_, _, _, _, PySem.W.mg_of X G a8, k8, g8, kbn_place b8 1 rfl⟩
  have gS_ : FnG l.prog w K mg base CX0 4 f3 _ _ (spInit CS) := ok_init F3 Z S d_is_sizes d_all_values
  have k_Space : MakD l.prog w K mg base 4 "Space" CS 1 [] byPlace (spInit CS) := ⟨_, _, _, _, PySem.W.mg_of X G aS, ⟨mkCS, a3, i3, kcCS⟩, gS_, kbn_place b3 2 rfl⟩
  have d_eqS : EqD l.prog w K mg base 1 CS (spEqS CS K) := ⟨_, _, _, ok_eq F4 Z S, b4, a4, i4, neCS, soCS⟩
  have gR_ : FnG l.prog w K mg base CX0 3 fi _ _ (spRat CR) := ok_rat FI R d_is_integer
  have k_Ratio : MakD l.prog w K mg base 3 "Ratio" CR 2 [] byPlace (spRat CR) := ⟨_, _, _, _, PySem.W.mg_of X G aR, ⟨mkCR, ai, ii, kcCR⟩, gR_, init_kbn ld rfl 3 [] (fun us _ => us) byPlace (fun r _ => r) fun us ws h1 h2 => match us, ws, h1, h2 with | [_, _, _], [], _, _ => ⟨_, rfl, rfl⟩⟩
  have g6 : FnG l.prog w K mg base CX0 2 f6 _ _ (spIsNum CR) := ok_is_number F6 Z R d_is_integer
  have d_is_number : DefD l.prog w K mg base 2 "is_number" 1 [] byPlace (spIsNum CR) := ⟨_, _, _, _, PySem.W.mg_of X G a6, k6, g6, kbn_place b6 1 rfl⟩
  have g7 : FnG l.prog w K mg base CX0 2 f7 _ _ (spAsRat CR) := ok_as_ratio F7 Z R
  have d_as_ratio : DefD l.prog w K mg base 2 "as_ratio" 1 [] byPlace (spAsRat CR) := ⟨_, _, _, _, PySem.W.mg_of X G a7, k7, g7, kbn_place b7 1 rfl⟩
  have d_eqR : EqD l.prog w K mg base 4 CR (spEqR CR) := ⟨_, _, _, ok_eqR F5 R d_is_number d_as_ratio, b5, a5, i5, neCR, soCR⟩
  have g10 : FnG l.prog w K mg base CX0 1 f10 _ _ (spCell K) := ok_cell F10 Z
  have d__law_cell : DefD l.prog w K mg base 1 "_law_cell" 2 [] byPlace (spCell K) := ⟨_, _, _, _, PySem.W.mg_of X G a10, k10, g10, kbn_place b10 2 rfl⟩
  have g11 : FnG l.prog w K mg base CX0 1 f11 _ _ spBox := ok_box F11 Z
  have d__law_box : DefD l.prog w K mg base 1 "_law_box" 1 [] byPlace spBox := ⟨_, _, _, _, PySem.W.mg_of X G a11, k11, g11, kbn_place b11 1 rfl⟩
  have g12 : FnG l.prog w K mg base CX0 1 f12 _ _ spTake := ok_take F12 Z
  have d__law_take : DefD l.prog w K mg base 1 "_law_take" 2 [] byPlace spTake := ⟨_, _, _, _, PySem.W.mg_of X G a12, k12, g12, kbn_place b12 2 rfl⟩
  have g13 : FnG l.prog w K mg base CX0 3 f13 _ _ (spMany E) := ok_by_place F13 ER
  have d__law_by_place : DefD l.prog w K mg base 3 "_law_by_place" 1 [] byPlace (spMany E) := ⟨_, _, _, _, PySem.W.mg_of X G a13, k13, g13, kbn_place b13 1 rfl⟩
  have g14 : FnG l.prog w K mg base CX0 3 f14 _ _ (spMany E) := ok_by_name F14 ER
  have d__law_by_name : DefD l.prog w K mg base 3 "_law_by_name" 1 [] byPlace (spMany E) := ⟨_, _, _, _, PySem.W.mg_of X G a14, k14, g14, kbn_place b14 1 rfl⟩
  have g15 : FnG l.prog w K mg base CX0 3 f15 _ _ (spPairs E) := ok_pairs F15 ER
  have d__law_pairs : DefD l.prog w K mg base 3 "_law_pairs" 3 [] byPlace (spPairs E) := ⟨_, _, _, _, PySem.W.mg_of X G a15, k15, g15, kbn_place b15 3 rfl⟩
  have g16 : FnA l.prog w K mg base 2 f16 _ _ (spSorts E) := ok_sorts F16 Z ER
  have d__law_sorts : DefA l.prog w K mg base 2 "_law_sorts" 1 (spSorts E) := ⟨_, _, _, _, PySem.W.mg_of X G a16, k16, g16, kbn_place b16 1 rfl⟩
  have g17 : FnA l.prog w K mg base 2 f17 _ _ (spKept E) := ok_kept F17 Z ER
  have d__law_kept : DefA l.prog w K mg base 2 "_law_kept" 1 (spKept E) := ⟨_, _, _, _, PySem.W.mg_of X G a17, k17, g17, kbn_place b17 1 rfl⟩
  have g18 : FnA l.prog w K mg base 4 f18 _ _ (spIs E) := ok_is F18 Z ER d__law_sorts
  have d__law_is : DefA l.prog w K mg base 4 "_law_is" 2 (spIs E) := ⟨_, _, _, _, PySem.W.mg_of X G a18, k18, g18, kbn_place b18 2 rfl⟩
  have g19 : FnG l.prog w K mg base CX0 3 f19 _ _ (spThing K) := ok_thing F19 Z d__law_take
  have d__law_thing : DefD l.prog w K mg base 3 "_law_thing" 1 [] byPlace (spThing K) := ⟨_, _, _, _, PySem.W.mg_of X G a19, k19, g19, kbn_place b19 1 rfl⟩
  have g20 : FnG l.prog w K mg base CX0 6 f20 _ _ (spAll K) := ok_all_right F20 Z hM d__law_thing d__law_by_place d__law_by_name d__law_pairs d__law_is.cold d__law_kept.cold
  have d__law_all_right : DefD l.prog w K mg base 6 "_law_all_right" 1 [] byPlace (spAll K) := ⟨_, _, _, _, PySem.W.mg_of X G a20, k20, g20, kbn_place b20 1 rfl⟩
  have g21 : FnG l.prog w K mg base (L2N.CX l.prog w) 3 f21 _ _ (spRaised E) := ok_raised F21 ER
  have d__law_raised : DefN l.prog w K mg base 3 "_law_raised" 2 (spRaised E) := ⟨_, _, _, _, PySem.W.mg_of X G a21, k21, g21, kbn_place b21 2 rfl⟩
  have g22 : FnG l.prog w K mg base CX0 6 f22 _ _ (spCaught K) := ok_caught F22 Z ER hM d__law_take d__law_raised d__law_is d__law_kept
  have d__law_caught : DefD l.prog w K mg base 6 "_law_caught" 2 [] byPlace (spCaught K) := ⟨_, _, _, _, PySem.W.mg_of X G a22, k22, g22, kbn_place b22 2 rfl⟩
  exact ok_law F23 Z ER S R d__law_cell d__law_box d__law_all_right d__law_caught d__law_thing d__law_is.cold d__law_kept.cold d__law_by_place d__law_by_name d__law_pairs k_Space k_Ratio d_eqS d_eqR
end Eld
set_option Elab.async false
set_option maxRecDepth 100000
set_option maxHeartbeats 4000000
set_option linter.all false
namespace Eld
open PySem L2
local macro_rules | `(tactic| walk_at "r1") => `(tactic| with_reducible first
  | refine r_seq ?_ | refine r_asgN ?_ | refine r_asg ?_ | refine r_gname ?_ | refine r_gsub ?_ | refine r_var rfl ?_ | refine r_c ?_ | refine r_op ?_ | refine r_un ?_ | refine r_u ?_ | refine r_i0 ?_ | refine r_cb ?_ | refine r_cons ?_ | refine r_nil ?_ | refine r_cl ?_ | refine r_fn rfl rfl ?_ | refine r_mt ?_
  | refine r_test ?_ | refine r_tb ?_ | refine r_bl ?_ | refine r_and ?_ | refine r_or ?_ | refine r_not ?_ | refine r_andV ?_ | refine r_orV ?_ | refine r_notV ?_ | refine r_ifX ?_ | refine r_ifs ?_ | refine r_chain ?_ | refine r_ret ?_ | refine r_next ?_ | refine r_drop ?_ | refine iteT ?_ | refine iteF ?_ | refine iteNT ?_ | refine iteNF ?_
  | refine r_int1 ?_ | refine r_boolB ?_ | refine r_eqI ?_ | refine r_neI ?_ | refine r_eqB ?_ | refine r_neB ?_ | refine r_eqS ?_ | refine r_neS ?_ | refine r_abs ?_ | refine r_max2 ?_ | refine r_min2 ?_ | refine r_yes ?_ | refine r_tup ?_ | refine r_sfld ?_ | refine r_m0 ?_ | refine r_m1 ?_ | refine r_lst ?_ | refine r_rng1 ?_ | refine r_rng2 ?_ | refine r_ixL (SqL.of (by assumption)) rfl ?_)
local macro_rules | `(tactic| walk_at "r") => `(tactic| repeat (first | walk_at "r1" | ((with_reducible refine r_var ?hv ?_); (case hv => rfl))))

set_option maxHeartbeats 0 in
theorem hfacts {w : World} {K : PySem.W.Frag} {h : Heap} {mg : Str → Option Value} {fa : Addr} (KX : K.In h) (G : h.Ns mainGlobals mg) (hfa : mg ("law" : Str) = some (.ref fa)) (c : SaysX hfb hfn K) :
    ∃ fd : FuncData, (∀ (s : Shared) (v : Value), BindsTo s fd ⟨[v], []⟩ [("script", v)]) ∧ ∀ base : Heap, K.In base → base.Ns mainGlobals mg → ModsD base → FnG PySem.Challenge.rw_endlots_k00_errors.prog w K mg base CX0 7 fa fd ["script"] (spLaw K) := by
  have hA4 : ((((hfb0 K && hfb1 K) && hfb2 K) && hfb3 K) && hfb4 K) = true := c.said
  obtain ⟨hA3, hB4⟩ := He.ba hA4
  obtain ⟨hA2, hB3⟩ := He.ba hA3
  obtain ⟨hA1, hB2⟩ := He.ba hA2
  obtain ⟨hA0, hB1⟩ := He.ba hA1
  have hT0 : ((htr0 K).all fun l => l.all id) = true := hA0
  have hT1 : ((htr1 K).all fun l => l.all id) = true := hB1
  have hT2 : ((htr2 K).all fun l => l.all id) = true := hB2
  have hT3 : ((htr3 K).all fun l => l.all id) = true := hB3
  have hT4 : ((htr4 K).all fun l => l.all id) = true := hB4
  obtain ⟨_, _, _, _, _, _, _, _, _, zl0, zc0, zk0⟩ := c.def0 0 (d := hd0) rfl rfl
  obtain ⟨_, _, _, _, _, _, _, _, _, zl1, zc1, zk1⟩ := c.def0 1 (d := hd1) rfl rfl
  obtain ⟨_, _, _, _, _, _, _, _, _, zl2, zc2, zk2⟩ := c.def0 2 (d := hd2) rfl rfl
  obtain ⟨_, _, _, _, _, _, _, _, _, zl3, zc3, zk3⟩ := c.def0 3 (d := hd3) rfl rfl
  obtain ⟨_, _, _, _, _, _, _, _, _, zl4, zc4, zk4⟩ := c.def0 4 (d := hd4) rfl rfl
  obtain ⟨_, _, _, _, _, _, _, _, _, zl5, zc5, zk5⟩ := c.def0 5 (d := hd5) rfl rfl
  obtain ⟨_, _, _, _, _, _, _, _, _, zl6, zc6, zk6⟩ := c.def0 6 (d := hd6) rfl rfl
  obtain ⟨_, _, _, _, _, _, _, _, _, zl7, zc7, zk7⟩ := c.def0 7 (d := hd7) rfl rfl
  obtain ⟨_, _, _, _, _, _, _, _, _, zl8, zc8, zk8⟩ := c.def0 8 (d := hd8) rfl rfl
  obtain ⟨_, _, _, _, _, _, _, _, _, zl9, zc9, zk9⟩ := c.def0 9 (d := hd9) rfl rfl
  obtain ⟨_, _, _, _, _, _, _, _, _, zl10, zc10, zk10⟩ := c.def0 10 (d := hd10) rfl rfl
  obtain ⟨_, _, _, _, _, _, _, _, _, zl11, zc11, zk11⟩ := c.def0 11 (d := hd11) rfl rfl
  obtain ⟨_, _, _, _, _, _, _, _, _, zl12, zc12, zk12⟩ := c.def0 12 (d := hd12) rfl rfl
  obtain ⟨_, _, _, _, _, _, _, _, _, zl13, zc13, zk13⟩ := c.def0 13 (d := hd13) rfl rfl
  obtain ⟨_, _, _, _, _, _, _, _, _, zl14, zc14, zk14⟩ := c.def0 14 (d := hd14) rfl rfl
  obtain ⟨_, _, _, _, _, _, _, _, _, zl15, zc15, zk15⟩ := c.def0 15 (d := hd15) rfl rfl
  obtain ⟨_, _, _, _, _, _, _, _, _, zl16, zc16, zk16⟩ := c.def0 16 (d := hd16) rfl rfl
  obtain ⟨_, _, _, _, _, _, _, _, _, zl17, zc17, zk17⟩ := c.def0 17 (d := hd17) rfl rfl
  obtain ⟨_, _, _, _, _, _, _, _, _, zl18, zc18, zk18⟩ := c.def0 18 (d := hd18) rfl rfl
  obtain ⟨_, _, _, _, _, _, _, _, _, zl19, zc19, zk19⟩ := c.def0 19 (d := hd19) rfl rfl
  obtain ⟨_, _, _, _, _, _, _, _, _, zl20, zc20, zk20⟩ := c.def0 20 (d := hd20) rfl rfl
  obtain ⟨_, _, _, _, _, _, _, _, _, zl21, zc21, zk21⟩ := c.def0 21 (d := hd21) rfl rfl
  obtain ⟨_, _, _, _, _, _, _, _, _, zl22, zc22, zk22⟩ := c.def0 22 (d := hd22) rfl rfl
  obtain ⟨_, _, _, _, _, _, _, _, _, zl23, zc23, zk23⟩ := c.def0 23 (d := hd23) rfl rfl
  obtain ⟨_, _, _, _, _, _, _, _, _, _, _, _, _, _, _, zl24, zc24, zk24, zd24⟩ := c.def1 (m := 1) 24 (d := hd24) rfl rfl
  obtain ⟨_, _, _, _, _, _, _, _, _, zl25, zc25, zk25⟩ := c.def0 25 (d := hd25) rfl rfl
  obtain ⟨_, _, _, _, _, _, _, _, _, zl26, zc26, zk26⟩ := c.def0 26 (d := hd26) rfl rfl
  obtain ⟨_, _, _, _, _, _, _, _, _, zl27, zc27, zk27⟩ := c.def0 27 (d := hd27) rfl rfl
  obtain ⟨_, _, _, _, _, _, _, _, _, zl28, zc28, zk28⟩ := c.def0 28 (d := hd28) rfl rfl
  obtain ⟨_, _, _, _, _, _, _, _, _, zl29, zc29, zk29⟩ := c.def0 29 (d := hd29) rfl rfl
  obtain ⟨_, _, _, _, _, _, _, _, _, zl30, zc30, zk30⟩ := c.def0 30 (d := hd30) rfl rfl
  obtain ⟨_, _, _, _, _, _, _, _, _, zl31, zc31, zk31⟩ := c.def0 31 (d := hd31) rfl rfl
  obtain ⟨_, _, _, _, _, _, _, _, _, zl32, zc32, zk32⟩ := c.def0 32 (d := hd32) rfl rfl
  obtain ⟨_, _, _, _, _, _, _, _, _, zl33, zc33, zk33⟩ := c.def0 33 (d := hd33) rfl rfl
  obtain ⟨_, _, _, _, _, _, _, _, _, zl34, zc34, zk34⟩ := c.def0 34 (d := hd34) rfl rfl
  obtain ⟨_, _, _, _, _, _, _, _, _, zl35, zc35, zk35⟩ := c.def0 35 (d := hd35) rfl rfl
  obtain ⟨_, _, _, _, _, _, _, _, _, zl36, zc36, zk36⟩ := c.def0 36 (d := hd36) rfl rfl
  obtain ⟨_, _, _, _, _, _, _, _, _, zl37, zc37, zk37⟩ := c.def0 37 (d := hd37) rfl rfl
  obtain ⟨_, _, _, _, _, _, _, _, _, zl38, zc38, zk38⟩ := c.def0 38 (d := hd38) rfl rfl
  obtain ⟨_, _, _, _, _, _, _, _, _, zl39, zc39, zk39⟩ := c.def0 39 (d := hd39) rfl rfl
  obtain ⟨_, _, _, _, _, _, _, _, _, zl40, zc40, zk40⟩ := c.def0 40 (d := hd40) rfl rfl
  obtain ⟨_, _, _, _, _, _, _, _, _, zl41, zc41, zk41⟩ := c.def0 41 (d := hd41) rfl rfl
  obtain ⟨_, _, _, _, _, _, _, _, _, zl42, zc42, zk42⟩ := c.def0 42 (d := hd42) rfl rfl
  obtain ⟨_, _, _, _, _, _, _, _, _, zl43, zc43, zk43⟩ := c.def0 43 (d := hd43) rfl rfl
  obtain ⟨_, _, _, _, _, _, _, _, _, zl44, zc44, zk44⟩ := c.def0 44 (d := hd44) rfl rfl
  obtain ⟨_, _, _, _, _, _, _, _, _, zl45, zc45, zk45⟩ := c.def0 45 (d := hd45) rfl rfl
  obtain ⟨_, _, _, _, _, _, _, _, _, zl46, zc46, zk46⟩ := c.def0 46 (d := hd46) rfl rfl
  obtain ⟨_, _, _, _, _, _, _, _, _, zl47, zc47, zk47⟩ := c.def0 47 (d := hd47) rfl rfl
  obtain ⟨_, _, _, _, _, _, _, _, _, zl48, zc48, zk48⟩ := c.def0 48 (d := hd48) rfl rfl
  obtain ⟨_, _, _, _, _, _, _, _, _, zl49, zc49, zk49⟩ := c.def0 49 (d := hd49) rfl rfl
  obtain ⟨_, _, _, _, _, _, _, _, _, zl50, zc50, zk50⟩ := c.def0 50 (d := hd50) rfl rfl
  obtain ⟨_, _, _, _, _, _, _, _, _, zl51, zc51, zk51⟩ := c.def0 51 (d := hd51) rfl rfl
  obtain ⟨_, _, _, _, _, _, _, _, _, zl52, zc52, zk52⟩ := c.def0 52 (d := hd52) rfl rfl
  obtain ⟨_, _, _, _, _, _, _, _, _, zl53, zc53, zk53⟩ := c.def0 53 (d := hd53) rfl rfl
  obtain ⟨_, _, _, _, _, _, _, _, _, zl54, zc54, zk54⟩ := c.def0 54 (d := hd54) rfl rfl
  obtain ⟨_, _, _, _, _, _, _, _, _, zl55, zc55, zk55⟩ := c.def0 55 (d := hd55) rfl rfl
  obtain ⟨_, _, _, _, _, _, _, _, _, zl56, zc56, zk56⟩ := c.def0 56 (d := hd56) rfl rfl
  obtain ⟨_, _, _, _, _, _, _, _, _, zl57, zc57, zk57⟩ := c.def0 57 (d := hd57) rfl rfl
  obtain ⟨_, _, _, _, _, _, _, _, _, zl58, zc58, zk58⟩ := c.def0 58 (d := hd58) rfl rfl
  obtain ⟨_, _, _, _, _, _, _, _, _, zl59, zc59, zk59⟩ := c.def0 59 (d := hd59) rfl rfl
  obtain ⟨_, _, _, _, _, _, _, _, _, zl60, zc60, zk60⟩ := c.def0 60 (d := hd60) rfl rfl
  obtain ⟨_, _, _, _, _, _, _, _, _, zl61, zc61, zk61⟩ := c.def0 61 (d := hd61) rfl rfl
  obtain ⟨_, _, _, _, _, _, _, _, _, _, _, _, _, _, zx_xl0⟩ := excB_ok (truth hT0 2 27 (l := ht2 K) (b := excB K (He.ga K "InvalidNumber") [.ref (He.ga K "EndError"), .type "ValueError", .type "Exception", .type "BaseException", .type "object"]) rfl rfl)
  obtain ⟨_, _, _, _, _, _, _, _, _, _, _, _, _, _, zx_xl1⟩ := excB_ok (truth hT0 3 7 (l := ht3 K) (b := excB K (He.ga K "InvalidSizes") [.ref (He.ga K "EndError"), .type "ValueError", .type "Exception", .type "BaseException", .type "object"]) rfl rfl)
  obtain ⟨_, _, _, _, _, _, _, _, _, _, _, _, _, _, zx_xl2⟩ := excB_ok (truth hT0 3 17 (l := ht3 K) (b := excB K (He.ga K "InvalidStore") [.ref (He.ga K "EndError"), .type "ValueError", .type "Exception", .type "BaseException", .type "object"]) rfl rfl)
  obtain ⟨_, _, _, _, _, _, _, _, _, _, _, _, _, _, zx_xl3⟩ := excB_ok (truth hT0 3 27 (l := ht3 K) (b := excB K (He.ga K "InvalidValues") [.ref (He.ga K "EndError"), .type "ValueError", .type "Exception", .type "BaseException", .type "object"]) rfl rfl)
  obtain ⟨_, _, _, _, _, _, _, _, _, _, _, _, _, _, zx_xl4⟩ := excB_ok (truth hT1 0 7 (l := ht4 K) (b := excB K (He.ga K "InvalidLine") [.ref (He.ga K "EndError"), .type "ValueError", .type "Exception", .type "BaseException", .type "object"]) rfl rfl)
  obtain ⟨_, _, _, _, _, _, _, _, _, _, _, _, _, _, zx_xl5⟩ := excB_ok (truth hT1 0 17 (l := ht4 K) (b := excB K (He.ga K "InvalidSpace") [.ref (He.ga K "EndError"), .type "ValueError", .type "Exception", .type "BaseException", .type "object"]) rfl rfl)
  obtain ⟨_, _, _, _, _, _, _, _, _, _, _, _, _, _, zx_xl6⟩ := excB_ok (truth hT1 0 27 (l := ht4 K) (b := excB K (He.ga K "InvalidOutcome") [.ref (He.ga K "EndError"), .type "ValueError", .type "Exception", .type "BaseException", .type "object"]) rfl rfl)
  obtain ⟨_, _, _, _, _, _, _, _, _, _, _, _, _, _, zx_xl7⟩ := excB_ok (truth hT1 1 7 (l := ht5 K) (b := excB K (He.ga K "InvalidWeights") [.ref (He.ga K "EndError"), .type "ValueError", .type "Exception", .type "BaseException", .type "object"]) rfl rfl)
  obtain ⟨_, _, _, _, _, _, _, _, _, _, _, _, _, _, zx_xl8⟩ := excB_ok (truth hT1 1 17 (l := ht5 K) (b := excB K (He.ga K "InvalidLot") [.ref (He.ga K "EndError"), .type "ValueError", .type "Exception", .type "BaseException", .type "object"]) rfl rfl)
  obtain ⟨_, _, _, _, _, _, _, _, _, _, _, _, _, _, zx_xl9⟩ := excB_ok (truth hT1 1 27 (l := ht5 K) (b := excB K (He.ga K "InvalidLots") [.ref (He.ga K "EndError"), .type "ValueError", .type "Exception", .type "BaseException", .type "object"]) rfl rfl)
  obtain ⟨_, _, _, _, _, _, _, _, _, _, _, _, _, _, zx_xl10⟩ := excB_ok (truth hT1 2 7 (l := ht6 K) (b := excB K (He.ga K "InvalidPayoff") [.ref (He.ga K "EndError"), .type "ValueError", .type "Exception", .type "BaseException", .type "object"]) rfl rfl)
  obtain ⟨_, _, _, _, _, _, _, _, _, _, _, _, _, _, zx_xl11⟩ := excB_ok (truth hT1 2 17 (l := ht6 K) (b := excB K (He.ga K "InvalidText") [.ref (He.ga K "EndError"), .type "ValueError", .type "Exception", .type "BaseException", .type "object"]) rfl rfl)
  obtain ⟨_, _, _, _, _, _, _, _, _, _, _, _, _, _, zx_xl12⟩ := excB_ok (truth hT1 2 27 (l := ht6 K) (b := excB K (He.ga K "InvalidSurrounding") [.ref (He.ga K "EndError"), .type "ValueError", .type "Exception", .type "BaseException", .type "object"]) rfl rfl)
  obtain ⟨_, _, _, _, _, _, _, _, _, _, _, _, _, _, zx_xl13⟩ := excB_ok (truth hT1 3 7 (l := ht7 K) (b := excB K (He.ga K "InvalidPath") [.ref (He.ga K "EndError"), .type "ValueError", .type "Exception", .type "BaseException", .type "object"]) rfl rfl)
  obtain ⟨_, _, _, _, _, _, _, _, _, _, _, _, _, _, zx_xl14⟩ := excB_ok (truth hT1 3 17 (l := ht7 K) (b := excB K (He.ga K "InvalidPart") [.ref (He.ga K "EndError"), .type "ValueError", .type "Exception", .type "BaseException", .type "object"]) rfl rfl)
  obtain ⟨_, _, _, _, _, _, _, _, _, _, _, _, _, _, zx_xl15⟩ := excB_ok (truth hT1 3 27 (l := ht7 K) (b := excB K (He.ga K "InvalidSides") [.ref (He.ga K "EndError"), .type "ValueError", .type "Exception", .type "BaseException", .type "object"]) rfl rfl)
  obtain ⟨_, _, _, _, _, _, _, _, _, _, _, _, _, _, zx_xl16⟩ := excB_ok (truth hT2 0 7 (l := ht8 K) (b := excB K (He.ga K "InvalidDraws") [.ref (He.ga K "EndError"), .type "ValueError", .type "Exception", .type "BaseException", .type "object"]) rfl rfl)
  obtain ⟨_, _, _, _, _, _, _, _, _, _, _, _, _, _, zx_xl17⟩ := excB_ok (truth hT2 0 17 (l := ht8 K) (b := excB K (He.ga K "InvalidShare") [.ref (He.ga K "EndError"), .type "ValueError", .type "Exception", .type "BaseException", .type "object"]) rfl rfl)
  obtain ⟨_, _, _, _, _, _, _, _, _, _, _, _, _, _, zx_xl18⟩ := excB_ok (truth hT2 0 27 (l := ht8 K) (b := excB K (He.ga K "InvalidSteps") [.ref (He.ga K "EndError"), .type "ValueError", .type "Exception", .type "BaseException", .type "object"]) rfl rfl)
  obtain ⟨_, _, _, _, _, _, _, _, _, _, _, _, _, _, zx_xl19⟩ := excB_ok (truth hT2 1 7 (l := ht9 K) (b := excB K (He.ga K "InvalidRow") [.ref (He.ga K "EndError"), .type "ValueError", .type "Exception", .type "BaseException", .type "object"]) rfl rfl)
  obtain ⟨_, _, _, _, _, _, _, _, _, _, _, _, _, _, zx_xl20⟩ := excB_ok (truth hT2 1 17 (l := ht9 K) (b := excB K (He.ga K "InvalidPick") [.ref (He.ga K "EndError"), .type "ValueError", .type "Exception", .type "BaseException", .type "object"]) rfl rfl)
  obtain ⟨_, _, _, _, _, _, _, _, _, _, _, _, _, _, zx_xl21⟩ := excB_ok (truth hT2 1 27 (l := ht9 K) (b := excB K (He.ga K "InvalidDice") [.ref (He.ga K "EndError"), .type "ValueError", .type "Exception", .type "BaseException", .type "object"]) rfl rfl)
  obtain ⟨_, _, _, _, _, _, _, _, _, _, _, _, _, _, zx_xl22⟩ := excB_ok (truth hT2 2 7 (l := ht10 K) (b := excB K (He.ga K "InvalidBlend") [.ref (He.ga K "EndError"), .type "ValueError", .type "Exception", .type "BaseException", .type "object"]) rfl rfl)
  obtain ⟨_, _, _, _, _, _, _, _, _, _, _, _, _, _, zx_xl23⟩ := excB_ok (truth hT2 2 17 (l := ht10 K) (b := excB K (He.ga K "InvalidLimits") [.ref (He.ga K "EndError"), .type "ValueError", .type "Exception", .type "BaseException", .type "object"]) rfl rfl)
  obtain ⟨_, _, _, _, _, _, _, _, _, _, _, _, _, _, zx_xl24⟩ := excB_ok (truth hT2 2 27 (l := ht10 K) (b := excB K (He.ga K "InvalidPairs") [.ref (He.ga K "EndError"), .type "ValueError", .type "Exception", .type "BaseException", .type "object"]) rfl rfl)
  obtain ⟨_, _, _, _, _, _, _, _, _, _, _, _, _, _, zx_xl25⟩ := excB_ok (truth hT2 3 7 (l := ht11 K) (b := excB K (He.ga K "InvalidSet") [.ref (He.ga K "EndError"), .type "ValueError", .type "Exception", .type "BaseException", .type "object"]) rfl rfl)
  obtain ⟨_, _, _, _, _, _, _, _, _, _, _, _, _, _, zx_xl26⟩ := excB_ok (truth hT2 3 17 (l := ht11 K) (b := excB K (He.ga K "InvalidName") [.ref (He.ga K "EndError"), .type "ValueError", .type "Exception", .type "BaseException", .type "object"]) rfl rfl)
  obtain ⟨_, _, _, _, _, _, _, _, _, _, _, _, _, _, zx_xl27⟩ := excB_ok (truth hT2 3 27 (l := ht11 K) (b := excB K (He.ga K "InvalidOther") [.ref (He.ga K "EndError"), .type "ValueError", .type "Exception", .type "BaseException", .type "object"]) rfl rfl)
  obtain ⟨_, _, _, _, _, _, _, _, _, _, _, _, _, _, zx_xl28⟩ := excB_ok (truth hT3 0 7 (l := ht12 K) (b := excB K (He.ga K "TooMany") [.ref (He.ga K "EndError"), .type "ValueError", .type "Exception", .type "BaseException", .type "object"]) rfl rfl)
  obtain ⟨_, _, _, _, _, _, _, _, _, _, _, _, _, _, zx_xl29⟩ := excB_ok (truth hT3 0 17 (l := ht12 K) (b := excB K (He.ga K "Outside") [.ref (He.ga K "EndError"), .type "ValueError", .type "Exception", .type "BaseException", .type "object"]) rfl rfl)
  obtain ⟨_, _, _, _, _, _, _, _, _, _, _, _, _, _, zx_xl30⟩ := excB_ok (truth hT3 0 27 (l := ht12 K) (b := excB K (He.ga K "MayGoOn") [.ref (He.ga K "EndError"), .type "ValueError", .type "Exception", .type "BaseException", .type "object"]) rfl rfl)
  obtain ⟨_, _, _, _, _, _, _, _, _, _, _, _, _, _, zx_xl31⟩ := excB_ok (truth hT3 1 7 (l := ht13 K) (b := excB K (He.ga K "NoThing") [.ref (He.ga K "EndError"), .type "ValueError", .type "Exception", .type "BaseException", .type "object"]) rfl rfl)
  obtain ⟨_, _, _, _, _, _, _, _, _, _, _, _, _, _, zx_xl32⟩ := excB_ok (truth hT3 1 17 (l := ht13 K) (b := excB K (He.ga K "NotBrought") [.ref (He.ga K "EndError"), .type "ValueError", .type "Exception", .type "BaseException", .type "object"]) rfl rfl)
  obtain ⟨_, _, _, _, _, _, _, _, _, _, _, _, _, _, zx_xl33⟩ := excB_ok (truth hT3 1 28 (l := ht13 K) (b := excB K (He.ga K "MayStay") [.ref (He.ga K "EndError"), .type "ValueError", .type "Exception", .type "BaseException", .type "object"]) rfl rfl)
  obtain ⟨_, _, _, _, _, _, _, _, _, _, _, _, _, _, zx_xl34⟩ := excB_ok (truth hT3 2 9 (l := ht14 K) (b := excB K (He.ga K "TwoLots") [.ref (He.ga K "EndError"), .type "ValueError", .type "Exception", .type "BaseException", .type "object"]) rfl rfl)
  obtain ⟨_, _, _, _, _, _, _, _, _, _, _, _, _, _, zx_xl35⟩ := excB_ok (truth hT3 2 20 (l := ht14 K) (b := excB K (He.ga K "NotKept") [.ref (He.ga K "EndError"), .type "ValueError", .type "Exception", .type "BaseException", .type "object"]) rfl rfl)
  obtain ⟨_, _, _, _, _, _, _, _, _, _, _, _, _, _, zx_xl36⟩ := excB_ok (truth hT3 3 1 (l := ht15 K) (b := excB K (He.ga K "NoCommon") [.ref (He.ga K "EndError"), .type "ValueError", .type "Exception", .type "BaseException", .type "object"]) rfl rfl)
  obtain ⟨_, _, _, _, _, _, _, _, _, _, _, _, _, _, zx_xl37⟩ := excB_ok (truth hT3 3 12 (l := ht15 K) (b := excB K (He.ga K "ByZero") [.ref (He.ga K "EndError"), .type "ValueError", .type "Exception", .type "BaseException", .type "object"]) rfl rfl)
  obtain ⟨_, _, _, _, _, _, _, _, _, _, _, _, _, _, zx_xl38⟩ := excB_ok (truth hT3 3 20 (l := ht15 K) (b := excB K (He.ga K "NothingToUndo") [.ref (He.ga K "EndError"), .type "ValueError", .type "Exception", .type "BaseException", .type "object"]) rfl rfl)
  obtain ⟨_, _, _, _, _, _, _, _, _, _, _, _, _, _, zx_xl39⟩ := excB_ok (truth hT3 3 28 (l := ht15 K) (b := excB K (He.ga K "NothingToRedo") [.ref (He.ga K "EndError"), .type "ValueError", .type "Exception", .type "BaseException", .type "object"]) rfl rfl)
  exact all_mk (l := PySem.Challenge.rw_endlots_k00_errors) (CS := He.ga K "Space") (CR := He.ga K "Ratio") (cE := He.ga K "EndError") (fi := He.fAd K ("Ratio", some "__init__")) (tN := tkOf K "MOST_NAMES") (tS := tkOf K "MOST_STORES") (f0 := He.fAd K ("is_integer", none)) (f1 := He.fAd K ("is_list", none)) (f2 := He.fAd K ("is_from", none)) (f3 := He.fAd K ("Space", some "__init__")) (f4 := He.fAd K ("Space", some "__eq__")) (f5 := He.fAd K ("Ratio", some "__eq__")) (f6 := He.fAd K ("is_number", none)) (f7 := He.fAd K ("as_ratio", none)) (f8 := He.fAd K ("all_values", none)) (f9 := He.fAd K ("is_sizes", none)) (f10 := He.fAd K ("_law_cell", none)) (f11 := He.fAd K ("_law_box", none)) (f12 := He.fAd K ("_law_take", none)) (f13 := He.fAd K ("_law_by_place", none)) (f14 := He.fAd K ("_law_by_name", none)) (f15 := He.fAd K ("_law_pairs", none)) (f16 := He.fAd K ("_law_sorts", none)) (f17 := He.fAd K ("_law_kept", none)) (f18 := He.fAd K ("_law_is", none)) (f19 := He.fAd K ("_law_thing", none)) (f20 := He.fAd K ("_law_all_right", none)) (f21 := He.fAd K ("_law_raised", none)) (f22 := He.fAd K ("_law_caught", none)) (f23 := He.fAd K ("law", none)) (e0 := He.ga K "InvalidNumber") (xf0 := He.fAd K ("InvalidNumber", some "__init__")) (e1 := He.ga K "InvalidSizes") (xf1 := He.fAd K ("InvalidSizes", some "__init__")) (e2 := He.ga K "InvalidStore") (xf2 := He.fAd K ("InvalidStore", some "__init__")) (e3 := He.ga K "InvalidValues") (xf3 := He.fAd K ("InvalidValues", some "__init__")) (e4 := He.ga K "InvalidLine") (xf4 := He.fAd K ("InvalidLine", some "__init__")) (e5 := He.ga K "InvalidSpace") (xf5 := He.fAd K ("InvalidSpace", some "__init__")) (e6 := He.ga K "InvalidOutcome") (xf6 := He.fAd K ("InvalidOutcome", some "__init__")) (e7 := He.ga K "InvalidWeights") (xf7 := He.fAd K ("InvalidWeights", some "__init__")) (e8 := He.ga K "InvalidLot") (xf8 := He.fAd K ("InvalidLot", some "__init__")) (e9 := He.ga K "InvalidLots") (xf9 := He.fAd K ("InvalidLots", some "__init__")) (e10 := He.ga K "InvalidPayoff") (xf10 := He.fAd K ("InvalidPayoff", some "__init__")) (e11 := He.ga K "InvalidText") (xf11 := He.fAd K ("InvalidText", some "__init__")) (e12 := He.ga K "InvalidSurrounding") (xf12 := He.fAd K ("InvalidSurrounding", some "__init__")) (e13 := He.ga K "InvalidPath") (xf13 := He.fAd K ("InvalidPath", some "__init__")) (e14 := He.ga K "InvalidPart") (xf14 := He.fAd K ("InvalidPart", some "__init__")) (e15 := He.ga K "InvalidSides") (xf15 := He.fAd K ("InvalidSides", some "__init__")) (e16 := He.ga K "InvalidDraws") (xf16 := He.fAd K ("InvalidDraws", some "__init__")) (e17 := He.ga K "InvalidShare") (xf17 := He.fAd K ("InvalidShare", some "__init__")) (e18 := He.ga K "InvalidSteps") (xf18 := He.fAd K ("InvalidSteps", some "__init__")) (e19 := He.ga K "InvalidRow") (xf19 := He.fAd K ("InvalidRow", some "__init__")) (e20 := He.ga K "InvalidPick") (xf20 := He.fAd K ("InvalidPick", some "__init__")) (e21 := He.ga K "InvalidDice") (xf21 := He.fAd K ("InvalidDice", some "__init__")) (e22 := He.ga K "InvalidBlend") (xf22 := He.fAd K ("InvalidBlend", some "__init__")) (e23 := He.ga K "InvalidLimits") (xf23 := He.fAd K ("InvalidLimits", some "__init__")) (e24 := He.ga K "InvalidPairs") (xf24 := He.fAd K ("InvalidPairs", some "__init__")) (e25 := He.ga K "InvalidSet") (xf25 := He.fAd K ("InvalidSet", some "__init__")) (e26 := He.ga K "InvalidName") (xf26 := He.fAd K ("InvalidName", some "__init__")) (e27 := He.ga K "InvalidOther") (xf27 := He.fAd K ("InvalidOther", some "__init__")) (e28 := He.ga K "TooMany") (xf28 := He.fAd K ("TooMany", some "__init__")) (e29 := He.ga K "Outside") (xf29 := He.fAd K ("Outside", some "__init__")) (e30 := He.ga K "MayGoOn") (xf30 := He.fAd K ("MayGoOn", some "__init__")) (e31 := He.ga K "NoThing") (xf31 := He.fAd K ("NoThing", some "__init__")) (e32 := He.ga K "NotBrought") (xf32 := He.fAd K ("NotBrought", some "__init__")) (e33 := He.ga K "MayStay") (xf33 := He.fAd K ("MayStay", some "__init__")) (e34 := He.ga K "TwoLots") (xf34 := He.fAd K ("TwoLots", some "__init__")) (e35 := He.ga K "NotKept") (xf35 := He.fAd K ("NotKept", some "__init__")) (e36 := He.ga K "NoCommon") (xf36 := He.fAd K ("NoCommon", some "__init__")) (e37 := He.ga K "ByZero") (e38 := He.ga K "NothingToUndo") (e39 := He.ga K "NothingToRedo") KX G hfa
    (of_decide_eq_true (truth hT0 0 0 (l := ht0 K) (b := decide (PySem.W.nsIn K mainGlobals "Space" = some (some (.ref (He.ga K "Space"))))) rfl rfl))
    (of_decide_eq_true (truth hT0 0 1 (l := ht0 K) (b := decide (PySem.W.nsIn K mainGlobals "Ratio" = some (some (.ref (He.ga K "Ratio"))))) rfl rfl))
    (of_decide_eq_true (truth hT0 0 2 (l := ht0 K) (b := decide (PySem.W.nsIn K mainGlobals "EndError" = some (some (.ref (He.ga K "EndError"))))) rfl rfl))
    (of_decide_eq_true (truth hT0 0 3 (l := ht0 K) (b := decide (PySem.W.nsIn K mainGlobals "gcd" = some (some (.builtin "math.gcd")))) rfl rfl))
    (of_decide_eq_true (truth hT0 0 4 (l := ht0 K) (b := decide (PySem.W.nsIn K mainGlobals "is_integer" = some (some (.ref (He.fAd K ("is_integer", none)))))) rfl rfl))
    (zl0)
    (zc0)
    (zk0)
    (of_decide_eq_true (truth hT0 0 5 (l := ht0 K) (b := decide (PySem.W.nsIn K mainGlobals "is_list" = some (some (.ref (He.fAd K ("is_list", none)))))) rfl rfl))
    (zl1)
    (zc1)
    (zk1)
    (of_decide_eq_true (truth hT0 0 6 (l := ht0 K) (b := decide (PySem.W.nsIn K mainGlobals "is_from" = some (some (.ref (He.fAd K ("is_from", none)))))) rfl rfl))
    (zl2)
    (zc2)
    (zk2)
    (of_decide_eq_true (truth hT0 0 7 (l := ht0 K) (b := decide (PySem.W.findIn K (.ref (He.ga K "Space")) "__init__" = some (some (.ref (He.fAd K ("Space", some "__init__")))))) rfl rfl))
    (of_decide_eq_true (truth hT0 0 8 (l := ht0 K) (b := decide (PySem.W.isFn K (.ref (He.fAd K ("Space", some "__init__"))) = true)) rfl rfl))
    (zl3)
    (zc3)
    (zk3)
    (of_decide_eq_true (truth hT0 0 9 (l := ht0 K) (b := decide (PySem.W.findIn K (.ref (He.ga K "Space")) "__eq__" = some (some (.ref (He.fAd K ("Space", some "__eq__")))))) rfl rfl))
    (of_decide_eq_true (truth hT0 0 10 (l := ht0 K) (b := decide (PySem.W.isFn K (.ref (He.fAd K ("Space", some "__eq__"))) = true)) rfl rfl))
    (zl4)
    (zc4)
    (zk4)
    (of_decide_eq_true (truth hT0 0 11 (l := ht0 K) (b := decide (PySem.W.findIn K (.ref (He.ga K "Ratio")) "__eq__" = some (some (.ref (He.fAd K ("Ratio", some "__eq__")))))) rfl rfl))
    (of_decide_eq_true (truth hT0 0 12 (l := ht0 K) (b := decide (PySem.W.isFn K (.ref (He.fAd K ("Ratio", some "__eq__"))) = true)) rfl rfl))
    (zl5)
    (zc5)
    (zk5)
    (of_decide_eq_true (truth hT0 0 13 (l := ht0 K) (b := decide (PySem.W.nsIn K mainGlobals "is_number" = some (some (.ref (He.fAd K ("is_number", none)))))) rfl rfl))
    (zl6)
    (zc6)
    (zk6)
    (of_decide_eq_true (truth hT0 0 14 (l := ht0 K) (b := decide (PySem.W.nsIn K mainGlobals "as_ratio" = some (some (.ref (He.fAd K ("as_ratio", none)))))) rfl rfl))
    (zl7)
    (zc7)
    (zk7)
    (of_decide_eq_true (truth hT0 0 15 (l := ht0 K) (b := decide (PySem.W.nsIn K mainGlobals "all_values" = some (some (.ref (He.fAd K ("all_values", none)))))) rfl rfl))
    (zl8)
    (zc8)
    (zk8)
    (of_decide_eq_true (truth hT0 0 16 (l := ht0 K) (b := decide (PySem.W.nsIn K mainGlobals "is_sizes" = some (some (.ref (He.fAd K ("is_sizes", none)))))) rfl rfl))
    (zl9)
    (zc9)
    (zk9)
    (of_decide_eq_true (truth hT0 0 17 (l := ht0 K) (b := decide (PySem.W.nsIn K mainGlobals "_law_cell" = some (some (.ref (He.fAd K ("_law_cell", none)))))) rfl rfl))
    (zl10)
    (zc10)
    (zk10)
    (of_decide_eq_true (truth hT0 0 18 (l := ht0 K) (b := decide (PySem.W.nsIn K mainGlobals "_law_box" = some (some (.ref (He.fAd K ("_law_box", none)))))) rfl rfl))
    (zl11)
    (zc11)
    (zk11)
    (of_decide_eq_true (truth hT0 0 19 (l := ht0 K) (b := decide (PySem.W.nsIn K mainGlobals "_law_take" = some (some (.ref (He.fAd K ("_law_take", none)))))) rfl rfl))
    (zl12)
    (zc12)
    (zk12)
    (of_decide_eq_true (truth hT0 0 20 (l := ht0 K) (b := decide (PySem.W.nsIn K mainGlobals "_law_by_place" = some (some (.ref (He.fAd K ("_law_by_place", none)))))) rfl rfl))
    (zl13)
    (zc13)
    (zk13)
    (of_decide_eq_true (truth hT0 0 21 (l := ht0 K) (b := decide (PySem.W.nsIn K mainGlobals "_law_by_name" = some (some (.ref (He.fAd K ("_law_by_name", none)))))) rfl rfl))
    (zl14)
    (zc14)
    (zk14)
    (of_decide_eq_true (truth hT0 0 22 (l := ht0 K) (b := decide (PySem.W.nsIn K mainGlobals "_law_pairs" = some (some (.ref (He.fAd K ("_law_pairs", none)))))) rfl rfl))
    (zl15)
    (zc15)
    (zk15)
    (of_decide_eq_true (truth hT0 0 23 (l := ht0 K) (b := decide (PySem.W.nsIn K mainGlobals "_law_sorts" = some (some (.ref (He.fAd K ("_law_sorts", none)))))) rfl rfl))
    (zl16)
    (zc16)
    (zk16)
    (of_decide_eq_true (truth hT0 0 24 (l := ht0 K) (b := decide (PySem.W.nsIn K mainGlobals "_law_kept" = some (some (.ref (He.fAd K ("_law_kept", none)))))) rfl rfl))
    (zl17)
    (zc17)
    (zk17)
    (of_decide_eq_true (truth hT0 0 25 (l := ht0 K) (b := decide (PySem.W.nsIn K mainGlobals "_law_is" = some (some (.ref (He.fAd K ("_law_is", none)))))) rfl rfl))
    (zl18)
    (zc18)
    (zk18)
    (of_decide_eq_true (truth hT0 0 26 (l := ht0 K) (b := decide (PySem.W.nsIn K mainGlobals "_law_thing" = some (some (.ref (He.fAd K ("_law_thing", none)))))) rfl rfl))
    (zl19)
    (zc19)
    (zk19)
    (of_decide_eq_true (truth hT0 0 27 (l := ht0 K) (b := decide (PySem.W.nsIn K mainGlobals "_law_all_right" = some (some (.ref (He.fAd K ("_law_all_right", none)))))) rfl rfl))
    (zl20)
    (zc20)
    (zk20)
    (of_decide_eq_true (truth hT0 0 28 (l := ht0 K) (b := decide (PySem.W.nsIn K mainGlobals "_law_raised" = some (some (.ref (He.fAd K ("_law_raised", none)))))) rfl rfl))
    (zl21)
    (zc21)
    (zk21)
    (of_decide_eq_true (truth hT0 0 29 (l := ht0 K) (b := decide (PySem.W.nsIn K mainGlobals "_law_caught" = some (some (.ref (He.fAd K ("_law_caught", none)))))) rfl rfl))
    (zl22)
    (zc22)
    (zk22)
    (of_decide_eq_true (truth hT0 1 0 (l := ht1 K) (b := decide (PySem.W.nsIn K mainGlobals "law" = some (some (.ref (He.fAd K ("law", none)))))) rfl rfl))
    (zl23)
    (zc23)
    (zk23)
    (of_decide_eq_true (truth hT0 1 1 (l := ht1 K) (b := decide (PySem.W.findIn K (.ref (He.ga K "Ratio")) "__init__" = some (some (.ref (He.fAd K ("Ratio", some "__init__")))))) rfl rfl))
    (of_decide_eq_true (truth hT0 1 2 (l := ht1 K) (b := decide (PySem.W.isFn K (.ref (He.fAd K ("Ratio", some "__init__"))) = true)) rfl rfl))
    (zl24)
    (zc24)
    (zd24)
    (of_decide_eq_true (truth hT0 1 3 (l := ht1 K) (b := decide (PySem.W.plainGet K (He.ga K "Space") Str.empty = true)) rfl rfl))
    (of_decide_eq_true (truth hT0 1 4 (l := ht1 K) (b := decide (PySem.W.hasDictIn K (He.ga K "Space") = true)) rfl rfl))
    (of_decide_eq_true (truth hT0 1 5 (l := ht1 K) (b := decide (PySem.W.plainOver K (He.ga K "Space") = true)) rfl rfl))
    (of_decide_eq_true (truth hT0 1 6 (l := ht1 K) (b := decide (PySem.W.findIn K (.ref (He.ga K "Space")) "__setattr__" = some (some (.builtin "object.__setattr__")))) rfl rfl))
    (of_decide_eq_true (truth hT0 1 7 (l := ht1 K) (b := decide (PySem.W.makesIn K (He.ga K "Space") = true)) rfl rfl))
    (of_decide_eq_true (truth hT0 1 8 (l := ht1 K) (b := decide (PySem.W.keepIn K (.ref (He.ga K "Space")) = true)) rfl rfl))
    (of_decide_eq_true (truth hT0 1 9 (l := ht1 K) (b := decide (PySem.W.findIn K (.ref (He.ga K "Space")) "__class__" = some (some (.builtin "object.__class__")))) rfl rfl))
    (of_decide_eq_true (truth hT0 1 10 (l := ht1 K) (b := decide (PySem.W.mroIn K (He.ga K "Space") (.type "object") = some true)) rfl rfl))
    (of_decide_eq_true (truth hT0 1 11 (l := ht1 K) (b := decide (PySem.W.subIn K (.ref (He.ga K "Space")) (.type "object") = some true)) rfl rfl))
    (of_decide_eq_true (truth hT0 1 12 (l := ht1 K) (b := decide (PySem.W.findIn K (.ref (He.ga K "Space")) "__ne__" = some (some (.builtin "object.__ne__")))) rfl rfl))
    (of_decide_eq_true (truth hT0 1 13 (l := ht1 K) (b := decide (PySem.W.plainGet K (He.ga K "Ratio") Str.empty = true)) rfl rfl))
    (of_decide_eq_true (truth hT0 1 14 (l := ht1 K) (b := decide (PySem.W.hasDictIn K (He.ga K "Ratio") = true)) rfl rfl))
    (of_decide_eq_true (truth hT0 1 15 (l := ht1 K) (b := decide (PySem.W.plainOver K (He.ga K "Ratio") = true)) rfl rfl))
    (of_decide_eq_true (truth hT0 1 16 (l := ht1 K) (b := decide (PySem.W.findIn K (.ref (He.ga K "Ratio")) "__setattr__" = some (some (.builtin "object.__setattr__")))) rfl rfl))
    (of_decide_eq_true (truth hT0 1 17 (l := ht1 K) (b := decide (PySem.W.makesIn K (He.ga K "Ratio") = true)) rfl rfl))
    (of_decide_eq_true (truth hT0 1 18 (l := ht1 K) (b := decide (PySem.W.keepIn K (.ref (He.ga K "Ratio")) = true)) rfl rfl))
    (of_decide_eq_true (truth hT0 1 19 (l := ht1 K) (b := decide (PySem.W.findIn K (.ref (He.ga K "Ratio")) "__class__" = some (some (.builtin "object.__class__")))) rfl rfl))
    (of_decide_eq_true (truth hT0 1 20 (l := ht1 K) (b := decide (PySem.W.mroIn K (He.ga K "Ratio") (.type "object") = some true)) rfl rfl))
    (of_decide_eq_true (truth hT0 1 21 (l := ht1 K) (b := decide (PySem.W.subIn K (.ref (He.ga K "Ratio")) (.type "object") = some true)) rfl rfl))
    (of_decide_eq_true (truth hT0 1 22 (l := ht1 K) (b := decide (PySem.W.findIn K (.ref (He.ga K "Ratio")) "__ne__" = some (some (.builtin "object.__ne__")))) rfl rfl))
    (of_decide_eq_true (truth hT0 1 23 (l := ht1 K) (b := decide (PySem.W.specialIn K (.builtin "object.__class__") "__get__" = some (some (.builtin "getset_descriptor.__get__")))) rfl rfl))
    (of_decide_eq_true (truth hT0 1 24 (l := ht1 K) (b := decide (PySem.W.takesIn K (.builtin "object.__class__") = some true)) rfl rfl))
    (of_decide_eq_true (truth hT0 1 25 (l := ht1 K) (b := decide (PySem.W.findIn K (.ref (He.ga K "Space")) "sizes" = some none)) rfl rfl))
    (of_decide_eq_true (truth hT0 1 26 (l := ht1 K) (b := decide (PySem.W.findIn K (.ref (He.ga K "Space")) "_stores" = some none)) rfl rfl))
    (of_decide_eq_true (truth hT0 1 27 (l := ht1 K) (b := decide (PySem.W.findIn K (.ref (He.ga K "Space")) "never" = some none)) rfl rfl))
    (of_decide_eq_true (truth hT0 1 28 (l := ht1 K) (b := decide (PySem.W.findIn K (.ref (He.ga K "Ratio")) "top" = some none)) rfl rfl))
    (of_decide_eq_true (truth hT0 1 29 (l := ht1 K) (b := decide (PySem.W.findIn K (.ref (He.ga K "Ratio")) "bottom" = some none)) rfl rfl))
    (of_decide_eq_true (truth hT0 2 0 (l := ht2 K) (b := decide (PySem.W.kitOne K (.type "NoneType") (.ref (He.ga K "Space")) = some false)) rfl rfl))
    (of_decide_eq_true (truth hT0 2 1 (l := ht2 K) (b := decide (PySem.W.kitOne K (.type "list") (.ref (He.ga K "Space")) = some false)) rfl rfl))
    (of_decide_eq_true (truth hT0 2 2 (l := ht2 K) (b := decide (PySem.W.kitOne K (.type "tuple") (.ref (He.ga K "Space")) = some false)) rfl rfl))
    (of_decide_eq_true (truth hT0 2 3 (l := ht2 K) (b := decide (PySem.W.kitOne K (.type "str") (.ref (He.ga K "Space")) = some false)) rfl rfl))
    (of_decide_eq_true (truth hT0 2 4 (l := ht2 K) (b := decide (PySem.W.kitOne K (.type "int") (.ref (He.ga K "Space")) = some false)) rfl rfl))
    (of_decide_eq_true (truth hT0 2 5 (l := ht2 K) (b := decide (PySem.W.kitOne K (.type "bool") (.ref (He.ga K "Space")) = some false)) rfl rfl))
    (of_decide_eq_true (truth hT0 2 6 (l := ht2 K) (b := decide (PySem.W.nsIn K mainGlobals "isinstance" = some none)) rfl rfl))
    (of_decide_eq_true (truth hT0 2 7 (l := ht2 K) (b := decide (PySem.W.nsIn K mainGlobals "int" = some none)) rfl rfl))
    (of_decide_eq_true (truth hT0 2 8 (l := ht2 K) (b := decide (PySem.W.nsIn K mainGlobals "bool" = some none)) rfl rfl))
    (of_decide_eq_true (truth hT0 2 9 (l := ht2 K) (b := decide (PySem.W.nsIn K mainGlobals "list" = some none)) rfl rfl))
    (of_decide_eq_true (truth hT0 2 10 (l := ht2 K) (b := decide (PySem.W.nsIn K mainGlobals "tuple" = some none)) rfl rfl))
    (of_decide_eq_true (truth hT0 2 11 (l := ht2 K) (b := decide (PySem.W.nsIn K mainGlobals "dict" = some none)) rfl rfl))
    (of_decide_eq_true (truth hT0 2 12 (l := ht2 K) (b := decide (PySem.W.nsIn K mainGlobals "len" = some none)) rfl rfl))
    (of_decide_eq_true (truth hT0 2 13 (l := ht2 K) (b := decide (PySem.W.nsIn K mainGlobals "abs" = some none)) rfl rfl))
    (of_decide_eq_true (truth hT0 2 14 (l := ht2 K) (b := decide (PySem.W.nsIn K mainGlobals "max" = some none)) rfl rfl))
    (of_decide_eq_true (truth hT0 2 15 (l := ht2 K) (b := decide (PySem.W.nsIn K mainGlobals "min" = some none)) rfl rfl))
    (of_decide_eq_true (truth hT0 2 16 (l := ht2 K) (b := decide (PySem.W.nsIn K mainGlobals "sum" = some none)) rfl rfl))
    (of_decide_eq_true (truth hT0 2 17 (l := ht2 K) (b := decide (PySem.W.nsIn K mainGlobals "repr" = some none)) rfl rfl))
    (of_decide_eq_true (truth hT0 2 18 (l := ht2 K) (b := decide (PySem.W.nsIn K mainGlobals "all" = some none)) rfl rfl))
    (of_decide_eq_true (truth hT0 2 19 (l := ht2 K) (b := decide (PySem.W.nsIn K mainGlobals "range" = some none)) rfl rfl))
    (of_decide_eq_true (truth hT0 2 20 (l := ht2 K) (b := decide (PySem.W.nsIn K mainGlobals "ValueError" = some none)) rfl rfl))
    (of_decide_eq_true (truth hT0 2 21 (l := ht2 K) (b := decide (PySem.W.nsIn K mainGlobals "MOST_NAMES" = some (some (.int 3 (tkOf K "MOST_NAMES"))))) rfl rfl))
    (of_decide_eq_true (truth hT0 2 22 (l := ht2 K) (b := decide (PySem.W.nsIn K mainGlobals "MOST_STORES" = some (some (.int 8 (tkOf K "MOST_STORES"))))) rfl rfl))
    (of_decide_eq_true (truth hT0 2 23 (l := ht2 K) (b := decide (PySem.W.isClsIn K (He.ga K "EndError") = true)) rfl rfl))
    (of_decide_eq_true (truth hT0 2 24 (l := ht2 K) (b := decide (PySem.W.typeIn K (.ref (He.ga K "EndError")) = some (.type "type"))) rfl rfl))
    (of_decide_eq_true (truth hT0 2 25 (l := ht2 K) (b := decide (PySem.W.subIn K (.ref (He.ga K "EndError")) (.type "BaseException") = some true)) rfl rfl))
    (of_decide_eq_true (truth hT0 2 26 (l := ht2 K) (b := decide (PySem.W.nsIn K mainGlobals "InvalidNumber" = some (some (.ref (He.ga K "InvalidNumber"))))) rfl rfl))
    (zx_xl0)
    (of_decide_eq_true (truth hT0 2 28 (l := ht2 K) (b := decide (PySem.W.findIn K (.ref (He.ga K "InvalidNumber")) "__setattr__" = some (some (.builtin "object.__setattr__")))) rfl rfl))
    (of_decide_eq_true (truth hT0 2 29 (l := ht2 K) (b := decide (PySem.W.findIn K (.ref (He.ga K "InvalidNumber")) "__getattribute__" = some (some (.builtin "BaseException.__getattribute__")))) rfl rfl))
    (of_decide_eq_true (truth hT0 3 0 (l := ht3 K) (b := decide (PySem.W.findIn K (.ref (He.ga K "InvalidNumber")) "__getattr__" = some none)) rfl rfl))
    (of_decide_eq_true (truth hT0 3 1 (l := ht3 K) (b := decide (PySem.W.findIn K (.ref (He.ga K "InvalidNumber")) "__class__" = some (some (.builtin "object.__class__")))) rfl rfl))
    (of_decide_eq_true (truth hT0 3 2 (l := ht3 K) (b := decide (PySem.W.keepIn K (.ref (He.ga K "InvalidNumber")) = true)) rfl rfl))
    (of_decide_eq_true (truth hT0 3 3 (l := ht3 K) (b := decide (PySem.W.findIn K (.ref (He.ga K "InvalidNumber")) "given" = some none)) rfl rfl))
    (of_decide_eq_true (truth hT0 3 4 (l := ht3 K) (b := decide (PySem.W.findIn K (.ref (He.ga K "InvalidNumber")) "__init__" = some (some (.ref (He.fAd K ("InvalidNumber", some "__init__")))))) rfl rfl))
    (of_decide_eq_true (truth hT0 3 5 (l := ht3 K) (b := decide (PySem.W.typeIn K (.ref (He.fAd K ("InvalidNumber", some "__init__"))) = some (.type "function"))) rfl rfl))
    (zl25)
    (zc25)
    (zk25)
    (of_decide_eq_true (truth hT0 3 6 (l := ht3 K) (b := decide (PySem.W.nsIn K mainGlobals "InvalidSizes" = some (some (.ref (He.ga K "InvalidSizes"))))) rfl rfl))
    (zx_xl1)
    (of_decide_eq_true (truth hT0 3 8 (l := ht3 K) (b := decide (PySem.W.findIn K (.ref (He.ga K "InvalidSizes")) "__setattr__" = some (some (.builtin "object.__setattr__")))) rfl rfl))
    (of_decide_eq_true (truth hT0 3 9 (l := ht3 K) (b := decide (PySem.W.findIn K (.ref (He.ga K "InvalidSizes")) "__getattribute__" = some (some (.builtin "BaseException.__getattribute__")))) rfl rfl))
    (of_decide_eq_true (truth hT0 3 10 (l := ht3 K) (b := decide (PySem.W.findIn K (.ref (He.ga K "InvalidSizes")) "__getattr__" = some none)) rfl rfl))
    (of_decide_eq_true (truth hT0 3 11 (l := ht3 K) (b := decide (PySem.W.findIn K (.ref (He.ga K "InvalidSizes")) "__class__" = some (some (.builtin "object.__class__")))) rfl rfl))
    (of_decide_eq_true (truth hT0 3 12 (l := ht3 K) (b := decide (PySem.W.keepIn K (.ref (He.ga K "InvalidSizes")) = true)) rfl rfl))
    (of_decide_eq_true (truth hT0 3 13 (l := ht3 K) (b := decide (PySem.W.findIn K (.ref (He.ga K "InvalidSizes")) "given" = some none)) rfl rfl))
    (of_decide_eq_true (truth hT0 3 14 (l := ht3 K) (b := decide (PySem.W.findIn K (.ref (He.ga K "InvalidSizes")) "__init__" = some (some (.ref (He.fAd K ("InvalidSizes", some "__init__")))))) rfl rfl))
    (of_decide_eq_true (truth hT0 3 15 (l := ht3 K) (b := decide (PySem.W.typeIn K (.ref (He.fAd K ("InvalidSizes", some "__init__"))) = some (.type "function"))) rfl rfl))
    (zl26)
    (zc26)
    (zk26)
    (of_decide_eq_true (truth hT0 3 16 (l := ht3 K) (b := decide (PySem.W.nsIn K mainGlobals "InvalidStore" = some (some (.ref (He.ga K "InvalidStore"))))) rfl rfl))
    (zx_xl2)
    (of_decide_eq_true (truth hT0 3 18 (l := ht3 K) (b := decide (PySem.W.findIn K (.ref (He.ga K "InvalidStore")) "__setattr__" = some (some (.builtin "object.__setattr__")))) rfl rfl))
    (of_decide_eq_true (truth hT0 3 19 (l := ht3 K) (b := decide (PySem.W.findIn K (.ref (He.ga K "InvalidStore")) "__getattribute__" = some (some (.builtin "BaseException.__getattribute__")))) rfl rfl))
    (of_decide_eq_true (truth hT0 3 20 (l := ht3 K) (b := decide (PySem.W.findIn K (.ref (He.ga K "InvalidStore")) "__getattr__" = some none)) rfl rfl))
    (of_decide_eq_true (truth hT0 3 21 (l := ht3 K) (b := decide (PySem.W.findIn K (.ref (He.ga K "InvalidStore")) "__class__" = some (some (.builtin "object.__class__")))) rfl rfl))
    (of_decide_eq_true (truth hT0 3 22 (l := ht3 K) (b := decide (PySem.W.keepIn K (.ref (He.ga K "InvalidStore")) = true)) rfl rfl))
    (of_decide_eq_true (truth hT0 3 23 (l := ht3 K) (b := decide (PySem.W.findIn K (.ref (He.ga K "InvalidStore")) "given" = some none)) rfl rfl))
    (of_decide_eq_true (truth hT0 3 24 (l := ht3 K) (b := decide (PySem.W.findIn K (.ref (He.ga K "InvalidStore")) "__init__" = some (some (.ref (He.fAd K ("InvalidStore", some "__init__")))))) rfl rfl))
    (of_decide_eq_true (truth hT0 3 25 (l := ht3 K) (b := decide (PySem.W.typeIn K (.ref (He.fAd K ("InvalidStore", some "__init__"))) = some (.type "function"))) rfl rfl))
    (zl27)
    (zc27)
    (zk27)
    (of_decide_eq_true (truth hT0 3 26 (l := ht3 K) (b := decide (PySem.W.nsIn K mainGlobals "InvalidValues" = some (some (.ref (He.ga K "InvalidValues"))))) rfl rfl))
    (zx_xl3)
    (of_decide_eq_true (truth hT0 3 28 (l := ht3 K) (b := decide (PySem.W.findIn K (.ref (He.ga K "InvalidValues")) "__setattr__" = some (some (.builtin "object.__setattr__")))) rfl rfl))
    (of_decide_eq_true (truth hT0 3 29 (l := ht3 K) (b := decide (PySem.W.findIn K (.ref (He.ga K "InvalidValues")) "__getattribute__" = some (some (.builtin "BaseException.__getattribute__")))) rfl rfl))
    (of_decide_eq_true (truth hT1 0 0 (l := ht4 K) (b := decide (PySem.W.findIn K (.ref (He.ga K "InvalidValues")) "__getattr__" = some none)) rfl rfl))
    (of_decide_eq_true (truth hT1 0 1 (l := ht4 K) (b := decide (PySem.W.findIn K (.ref (He.ga K "InvalidValues")) "__class__" = some (some (.builtin "object.__class__")))) rfl rfl))
    (of_decide_eq_true (truth hT1 0 2 (l := ht4 K) (b := decide (PySem.W.keepIn K (.ref (He.ga K "InvalidValues")) = true)) rfl rfl))
    (of_decide_eq_true (truth hT1 0 3 (l := ht4 K) (b := decide (PySem.W.findIn K (.ref (He.ga K "InvalidValues")) "given" = some none)) rfl rfl))
    (of_decide_eq_true (truth hT1 0 4 (l := ht4 K) (b := decide (PySem.W.findIn K (.ref (He.ga K "InvalidValues")) "__init__" = some (some (.ref (He.fAd K ("InvalidValues", some "__init__")))))) rfl rfl))
    (of_decide_eq_true (truth hT1 0 5 (l := ht4 K) (b := decide (PySem.W.typeIn K (.ref (He.fAd K ("InvalidValues", some "__init__"))) = some (.type "function"))) rfl rfl))
    (zl28)
    (zc28)
    (zk28)
    (of_decide_eq_true (truth hT1 0 6 (l := ht4 K) (b := decide (PySem.W.nsIn K mainGlobals "InvalidLine" = some (some (.ref (He.ga K "InvalidLine"))))) rfl rfl))
    (zx_xl4)
    (of_decide_eq_true (truth hT1 0 8 (l := ht4 K) (b := decide (PySem.W.findIn K (.ref (He.ga K "InvalidLine")) "__setattr__" = some (some (.builtin "object.__setattr__")))) rfl rfl))
    (of_decide_eq_true (truth hT1 0 9 (l := ht4 K) (b := decide (PySem.W.findIn K (.ref (He.ga K "InvalidLine")) "__getattribute__" = some (some (.builtin "BaseException.__getattribute__")))) rfl rfl))
    (of_decide_eq_true (truth hT1 0 10 (l := ht4 K) (b := decide (PySem.W.findIn K (.ref (He.ga K "InvalidLine")) "__getattr__" = some none)) rfl rfl))
    (of_decide_eq_true (truth hT1 0 11 (l := ht4 K) (b := decide (PySem.W.findIn K (.ref (He.ga K "InvalidLine")) "__class__" = some (some (.builtin "object.__class__")))) rfl rfl))
    (of_decide_eq_true (truth hT1 0 12 (l := ht4 K) (b := decide (PySem.W.keepIn K (.ref (He.ga K "InvalidLine")) = true)) rfl rfl))
    (of_decide_eq_true (truth hT1 0 13 (l := ht4 K) (b := decide (PySem.W.findIn K (.ref (He.ga K "InvalidLine")) "given" = some none)) rfl rfl))
    (of_decide_eq_true (truth hT1 0 14 (l := ht4 K) (b := decide (PySem.W.findIn K (.ref (He.ga K "InvalidLine")) "__init__" = some (some (.ref (He.fAd K ("InvalidLine", some "__init__")))))) rfl rfl))
    (of_decide_eq_true (truth hT1 0 15 (l := ht4 K) (b := decide (PySem.W.typeIn K (.ref (He.fAd K ("InvalidLine", some "__init__"))) = some (.type "function"))) rfl rfl))
    (zl29)
    (zc29)
    (zk29)
    (of_decide_eq_true (truth hT1 0 16 (l := ht4 K) (b := decide (PySem.W.nsIn K mainGlobals "InvalidSpace" = some (some (.ref (He.ga K "InvalidSpace"))))) rfl rfl))
    (zx_xl5)
    (of_decide_eq_true (truth hT1 0 18 (l := ht4 K) (b := decide (PySem.W.findIn K (.ref (He.ga K "InvalidSpace")) "__setattr__" = some (some (.builtin "object.__setattr__")))) rfl rfl))
    (of_decide_eq_true (truth hT1 0 19 (l := ht4 K) (b := decide (PySem.W.findIn K (.ref (He.ga K "InvalidSpace")) "__getattribute__" = some (some (.builtin "BaseException.__getattribute__")))) rfl rfl))
    (of_decide_eq_true (truth hT1 0 20 (l := ht4 K) (b := decide (PySem.W.findIn K (.ref (He.ga K "InvalidSpace")) "__getattr__" = some none)) rfl rfl))
    (of_decide_eq_true (truth hT1 0 21 (l := ht4 K) (b := decide (PySem.W.findIn K (.ref (He.ga K "InvalidSpace")) "__class__" = some (some (.builtin "object.__class__")))) rfl rfl))
    (of_decide_eq_true (truth hT1 0 22 (l := ht4 K) (b := decide (PySem.W.keepIn K (.ref (He.ga K "InvalidSpace")) = true)) rfl rfl))
    (of_decide_eq_true (truth hT1 0 23 (l := ht4 K) (b := decide (PySem.W.findIn K (.ref (He.ga K "InvalidSpace")) "given" = some none)) rfl rfl))
    (of_decide_eq_true (truth hT1 0 24 (l := ht4 K) (b := decide (PySem.W.findIn K (.ref (He.ga K "InvalidSpace")) "__init__" = some (some (.ref (He.fAd K ("InvalidSpace", some "__init__")))))) rfl rfl))
    (of_decide_eq_true (truth hT1 0 25 (l := ht4 K) (b := decide (PySem.W.typeIn K (.ref (He.fAd K ("InvalidSpace", some "__init__"))) = some (.type "function"))) rfl rfl))
    (zl30)
    (zc30)
    (zk30)
    (of_decide_eq_true (truth hT1 0 26 (l := ht4 K) (b := decide (PySem.W.nsIn K mainGlobals "InvalidOutcome" = some (some (.ref (He.ga K "InvalidOutcome"))))) rfl rfl))
    (zx_xl6)
    (of_decide_eq_true (truth hT1 0 28 (l := ht4 K) (b := decide (PySem.W.findIn K (.ref (He.ga K "InvalidOutcome")) "__setattr__" = some (some (.builtin "object.__setattr__")))) rfl rfl))
    (of_decide_eq_true (truth hT1 0 29 (l := ht4 K) (b := decide (PySem.W.findIn K (.ref (He.ga K "InvalidOutcome")) "__getattribute__" = some (some (.builtin "BaseException.__getattribute__")))) rfl rfl))
    (of_decide_eq_true (truth hT1 1 0 (l := ht5 K) (b := decide (PySem.W.findIn K (.ref (He.ga K "InvalidOutcome")) "__getattr__" = some none)) rfl rfl))
    (of_decide_eq_true (truth hT1 1 1 (l := ht5 K) (b := decide (PySem.W.findIn K (.ref (He.ga K "InvalidOutcome")) "__class__" = some (some (.builtin "object.__class__")))) rfl rfl))
    (of_decide_eq_true (truth hT1 1 2 (l := ht5 K) (b := decide (PySem.W.keepIn K (.ref (He.ga K "InvalidOutcome")) = true)) rfl rfl))
    (of_decide_eq_true (truth hT1 1 3 (l := ht5 K) (b := decide (PySem.W.findIn K (.ref (He.ga K "InvalidOutcome")) "given" = some none)) rfl rfl))
    (of_decide_eq_true (truth hT1 1 4 (l := ht5 K) (b := decide (PySem.W.findIn K (.ref (He.ga K "InvalidOutcome")) "__init__" = some (some (.ref (He.fAd K ("InvalidOutcome", some "__init__")))))) rfl rfl))
    (of_decide_eq_true (truth hT1 1 5 (l := ht5 K) (b := decide (PySem.W.typeIn K (.ref (He.fAd K ("InvalidOutcome", some "__init__"))) = some (.type "function"))) rfl rfl))
    (zl31)
    (zc31)
    (zk31)
    (of_decide_eq_true (truth hT1 1 6 (l := ht5 K) (b := decide (PySem.W.nsIn K mainGlobals "InvalidWeights" = some (some (.ref (He.ga K "InvalidWeights"))))) rfl rfl))
    (zx_xl7)
    (of_decide_eq_true (truth hT1 1 8 (l := ht5 K) (b := decide (PySem.W.findIn K (.ref (He.ga K "InvalidWeights")) "__setattr__" = some (some (.builtin "object.__setattr__")))) rfl rfl))
    (of_decide_eq_true (truth hT1 1 9 (l := ht5 K) (b := decide (PySem.W.findIn K (.ref (He.ga K "InvalidWeights")) "__getattribute__" = some (some (.builtin "BaseException.__getattribute__")))) rfl rfl))
    (of_decide_eq_true (truth hT1 1 10 (l := ht5 K) (b := decide (PySem.W.findIn K (.ref (He.ga K "InvalidWeights")) "__getattr__" = some none)) rfl rfl))
    (of_decide_eq_true (truth hT1 1 11 (l := ht5 K) (b := decide (PySem.W.findIn K (.ref (He.ga K "InvalidWeights")) "__class__" = some (some (.builtin "object.__class__")))) rfl rfl))
    (of_decide_eq_true (truth hT1 1 12 (l := ht5 K) (b := decide (PySem.W.keepIn K (.ref (He.ga K "InvalidWeights")) = true)) rfl rfl))
    (of_decide_eq_true (truth hT1 1 13 (l := ht5 K) (b := decide (PySem.W.findIn K (.ref (He.ga K "InvalidWeights")) "given" = some none)) rfl rfl))
    (of_decide_eq_true (truth hT1 1 14 (l := ht5 K) (b := decide (PySem.W.findIn K (.ref (He.ga K "InvalidWeights")) "__init__" = some (some (.ref (He.fAd K ("InvalidWeights", some "__init__")))))) rfl rfl))
    (of_decide_eq_true (truth hT1 1 15 (l := ht5 K) (b := decide (PySem.W.typeIn K (.ref (He.fAd K ("InvalidWeights", some "__init__"))) = some (.type "function"))) rfl rfl))
    (zl32)
    (zc32)
    (zk32)
    (of_decide_eq_true (truth hT1 1 16 (l := ht5 K) (b := decide (PySem.W.nsIn K mainGlobals "InvalidLot" = some (some (.ref (He.ga K "InvalidLot"))))) rfl rfl))
    (zx_xl8)
    (of_decide_eq_true (truth hT1 1 18 (l := ht5 K) (b := decide (PySem.W.findIn K (.ref (He.ga K "InvalidLot")) "__setattr__" = some (some (.builtin "object.__setattr__")))) rfl rfl))
    (of_decide_eq_true (truth hT1 1 19 (l := ht5 K) (b := decide (PySem.W.findIn K (.ref (He.ga K "InvalidLot")) "__getattribute__" = some (some (.builtin "BaseException.__getattribute__")))) rfl rfl))
    (of_decide_eq_true (truth hT1 1 20 (l := ht5 K) (b := decide (PySem.W.findIn K (.ref (He.ga K "InvalidLot")) "__getattr__" = some none)) rfl rfl))
    (of_decide_eq_true (truth hT1 1 21 (l := ht5 K) (b := decide (PySem.W.findIn K (.ref (He.ga K "InvalidLot")) "__class__" = some (some (.builtin "object.__class__")))) rfl rfl))
    (of_decide_eq_true (truth hT1 1 22 (l := ht5 K) (b := decide (PySem.W.keepIn K (.ref (He.ga K "InvalidLot")) = true)) rfl rfl))
    (of_decide_eq_true (truth hT1 1 23 (l := ht5 K) (b := decide (PySem.W.findIn K (.ref (He.ga K "InvalidLot")) "given" = some none)) rfl rfl))
    (of_decide_eq_true (truth hT1 1 24 (l := ht5 K) (b := decide (PySem.W.findIn K (.ref (He.ga K "InvalidLot")) "__init__" = some (some (.ref (He.fAd K ("InvalidLot", some "__init__")))))) rfl rfl))
    (of_decide_eq_true (truth hT1 1 25 (l := ht5 K) (b := decide (PySem.W.typeIn K (.ref (He.fAd K ("InvalidLot", some "__init__"))) = some (.type "function"))) rfl rfl))
    (zl33)
    (zc33)
    (zk33)
    (of_decide_eq_true (truth hT1 1 26 (l := ht5 K) (b := decide (PySem.W.nsIn K mainGlobals "InvalidLots" = some (some (.ref (He.ga K "InvalidLots"))))) rfl rfl))
    (zx_xl9)
    (of_decide_eq_true (truth hT1 1 28 (l := ht5 K) (b := decide (PySem.W.findIn K (.ref (He.ga K "InvalidLots")) "__setattr__" = some (some (.builtin "object.__setattr__")))) rfl rfl))
    (of_decide_eq_true (truth hT1 1 29 (l := ht5 K) (b := decide (PySem.W.findIn K (.ref (He.ga K "InvalidLots")) "__getattribute__" = some (some (.builtin "BaseException.__getattribute__")))) rfl rfl))
    (of_decide_eq_true (truth hT1 2 0 (l := ht6 K) (b := decide (PySem.W.findIn K (.ref (He.ga K "InvalidLots")) "__getattr__" = some none)) rfl rfl))
    (of_decide_eq_true (truth hT1 2 1 (l := ht6 K) (b := decide (PySem.W.findIn K (.ref (He.ga K "InvalidLots")) "__class__" = some (some (.builtin "object.__class__")))) rfl rfl))
    (of_decide_eq_true (truth hT1 2 2 (l := ht6 K) (b := decide (PySem.W.keepIn K (.ref (He.ga K "InvalidLots")) = true)) rfl rfl))
    (of_decide_eq_true (truth hT1 2 3 (l := ht6 K) (b := decide (PySem.W.findIn K (.ref (He.ga K "InvalidLots")) "given" = some none)) rfl rfl))
    (of_decide_eq_true (truth hT1 2 4 (l := ht6 K) (b := decide (PySem.W.findIn K (.ref (He.ga K "InvalidLots")) "__init__" = some (some (.ref (He.fAd K ("InvalidLots", some "__init__")))))) rfl rfl))
    (of_decide_eq_true (truth hT1 2 5 (l := ht6 K) (b := decide (PySem.W.typeIn K (.ref (He.fAd K ("InvalidLots", some "__init__"))) = some (.type "function"))) rfl rfl))
    (zl34)
    (zc34)
    (zk34)
    (of_decide_eq_true (truth hT1 2 6 (l := ht6 K) (b := decide (PySem.W.nsIn K mainGlobals "InvalidPayoff" = some (some (.ref (He.ga K "InvalidPayoff"))))) rfl rfl))
    (zx_xl10)
    (of_decide_eq_true (truth hT1 2 8 (l := ht6 K) (b := decide (PySem.W.findIn K (.ref (He.ga K "InvalidPayoff")) "__setattr__" = some (some (.builtin "object.__setattr__")))) rfl rfl))
    (of_decide_eq_true (truth hT1 2 9 (l := ht6 K) (b := decide (PySem.W.findIn K (.ref (He.ga K "InvalidPayoff")) "__getattribute__" = some (some (.builtin "BaseException.__getattribute__")))) rfl rfl))
    (of_decide_eq_true (truth hT1 2 10 (l := ht6 K) (b := decide (PySem.W.findIn K (.ref (He.ga K "InvalidPayoff")) "__getattr__" = some none)) rfl rfl))
    (of_decide_eq_true (truth hT1 2 11 (l := ht6 K) (b := decide (PySem.W.findIn K (.ref (He.ga K "InvalidPayoff")) "__class__" = some (some (.builtin "object.__class__")))) rfl rfl))
    (of_decide_eq_true (truth hT1 2 12 (l := ht6 K) (b := decide (PySem.W.keepIn K (.ref (He.ga K "InvalidPayoff")) = true)) rfl rfl))
    (of_decide_eq_true (truth hT1 2 13 (l := ht6 K) (b := decide (PySem.W.findIn K (.ref (He.ga K "InvalidPayoff")) "given" = some none)) rfl rfl))
    (of_decide_eq_true (truth hT1 2 14 (l := ht6 K) (b := decide (PySem.W.findIn K (.ref (He.ga K "InvalidPayoff")) "__init__" = some (some (.ref (He.fAd K ("InvalidPayoff", some "__init__")))))) rfl rfl))
    (of_decide_eq_true (truth hT1 2 15 (l := ht6 K) (b := decide (PySem.W.typeIn K (.ref (He.fAd K ("InvalidPayoff", some "__init__"))) = some (.type "function"))) rfl rfl))
    (zl35)
    (zc35)
    (zk35)
    (of_decide_eq_true (truth hT1 2 16 (l := ht6 K) (b := decide (PySem.W.nsIn K mainGlobals "InvalidText" = some (some (.ref (He.ga K "InvalidText"))))) rfl rfl))
    (zx_xl11)
    (of_decide_eq_true (truth hT1 2 18 (l := ht6 K) (b := decide (PySem.W.findIn K (.ref (He.ga K "InvalidText")) "__setattr__" = some (some (.builtin "object.__setattr__")))) rfl rfl))
    (of_decide_eq_true (truth hT1 2 19 (l := ht6 K) (b := decide (PySem.W.findIn K (.ref (He.ga K "InvalidText")) "__getattribute__" = some (some (.builtin "BaseException.__getattribute__")))) rfl rfl))
    (of_decide_eq_true (truth hT1 2 20 (l := ht6 K) (b := decide (PySem.W.findIn K (.ref (He.ga K "InvalidText")) "__getattr__" = some none)) rfl rfl))
    (of_decide_eq_true (truth hT1 2 21 (l := ht6 K) (b := decide (PySem.W.findIn K (.ref (He.ga K "InvalidText")) "__class__" = some (some (.builtin "object.__class__")))) rfl rfl))
    (of_decide_eq_true (truth hT1 2 22 (l := ht6 K) (b := decide (PySem.W.keepIn K (.ref (He.ga K "InvalidText")) = true)) rfl rfl))
    (of_decide_eq_true (truth hT1 2 23 (l := ht6 K) (b := decide (PySem.W.findIn K (.ref (He.ga K "InvalidText")) "given" = some none)) rfl rfl))
    (of_decide_eq_true (truth hT1 2 24 (l := ht6 K) (b := decide (PySem.W.findIn K (.ref (He.ga K "InvalidText")) "__init__" = some (some (.ref (He.fAd K ("InvalidText", some "__init__")))))) rfl rfl))
    (of_decide_eq_true (truth hT1 2 25 (l := ht6 K) (b := decide (PySem.W.typeIn K (.ref (He.fAd K ("InvalidText", some "__init__"))) = some (.type "function"))) rfl rfl))
    (zl36)
    (zc36)
    (zk36)
    (of_decide_eq_true (truth hT1 2 26 (l := ht6 K) (b := decide (PySem.W.nsIn K mainGlobals "InvalidSurrounding" = some (some (.ref (He.ga K "InvalidSurrounding"))))) rfl rfl))
    (zx_xl12)
    (of_decide_eq_true (truth hT1 2 28 (l := ht6 K) (b := decide (PySem.W.findIn K (.ref (He.ga K "InvalidSurrounding")) "__setattr__" = some (some (.builtin "object.__setattr__")))) rfl rfl))
    (of_decide_eq_true (truth hT1 2 29 (l := ht6 K) (b := decide (PySem.W.findIn K (.ref (He.ga K "InvalidSurrounding")) "__getattribute__" = some (some (.builtin "BaseException.__getattribute__")))) rfl rfl))
    (of_decide_eq_true (truth hT1 3 0 (l := ht7 K) (b := decide (PySem.W.findIn K (.ref (He.ga K "InvalidSurrounding")) "__getattr__" = some none)) rfl rfl))
    (of_decide_eq_true (truth hT1 3 1 (l := ht7 K) (b := decide (PySem.W.findIn K (.ref (He.ga K "InvalidSurrounding")) "__class__" = some (some (.builtin "object.__class__")))) rfl rfl))
    (of_decide_eq_true (truth hT1 3 2 (l := ht7 K) (b := decide (PySem.W.keepIn K (.ref (He.ga K "InvalidSurrounding")) = true)) rfl rfl))
    (of_decide_eq_true (truth hT1 3 3 (l := ht7 K) (b := decide (PySem.W.findIn K (.ref (He.ga K "InvalidSurrounding")) "given" = some none)) rfl rfl))
    (of_decide_eq_true (truth hT1 3 4 (l := ht7 K) (b := decide (PySem.W.findIn K (.ref (He.ga K "InvalidSurrounding")) "__init__" = some (some (.ref (He.fAd K ("InvalidSurrounding", some "__init__")))))) rfl rfl))
    (of_decide_eq_true (truth hT1 3 5 (l := ht7 K) (b := decide (PySem.W.typeIn K (.ref (He.fAd K ("InvalidSurrounding", some "__init__"))) = some (.type "function"))) rfl rfl))
    (zl37)
    (zc37)
    (zk37)
    (of_decide_eq_true (truth hT1 3 6 (l := ht7 K) (b := decide (PySem.W.nsIn K mainGlobals "InvalidPath" = some (some (.ref (He.ga K "InvalidPath"))))) rfl rfl))
    (zx_xl13)
    (of_decide_eq_true (truth hT1 3 8 (l := ht7 K) (b := decide (PySem.W.findIn K (.ref (He.ga K "InvalidPath")) "__setattr__" = some (some (.builtin "object.__setattr__")))) rfl rfl))
    (of_decide_eq_true (truth hT1 3 9 (l := ht7 K) (b := decide (PySem.W.findIn K (.ref (He.ga K "InvalidPath")) "__getattribute__" = some (some (.builtin "BaseException.__getattribute__")))) rfl rfl))
    (of_decide_eq_true (truth hT1 3 10 (l := ht7 K) (b := decide (PySem.W.findIn K (.ref (He.ga K "InvalidPath")) "__getattr__" = some none)) rfl rfl))
    (of_decide_eq_true (truth hT1 3 11 (l := ht7 K) (b := decide (PySem.W.findIn K (.ref (He.ga K "InvalidPath")) "__class__" = some (some (.builtin "object.__class__")))) rfl rfl))
    (of_decide_eq_true (truth hT1 3 12 (l := ht7 K) (b := decide (PySem.W.keepIn K (.ref (He.ga K "InvalidPath")) = true)) rfl rfl))
    (of_decide_eq_true (truth hT1 3 13 (l := ht7 K) (b := decide (PySem.W.findIn K (.ref (He.ga K "InvalidPath")) "given" = some none)) rfl rfl))
    (of_decide_eq_true (truth hT1 3 14 (l := ht7 K) (b := decide (PySem.W.findIn K (.ref (He.ga K "InvalidPath")) "__init__" = some (some (.ref (He.fAd K ("InvalidPath", some "__init__")))))) rfl rfl))
    (of_decide_eq_true (truth hT1 3 15 (l := ht7 K) (b := decide (PySem.W.typeIn K (.ref (He.fAd K ("InvalidPath", some "__init__"))) = some (.type "function"))) rfl rfl))
    (zl38)
    (zc38)
    (zk38)
    (of_decide_eq_true (truth hT1 3 16 (l := ht7 K) (b := decide (PySem.W.nsIn K mainGlobals "InvalidPart" = some (some (.ref (He.ga K "InvalidPart"))))) rfl rfl))
    (zx_xl14)
    (of_decide_eq_true (truth hT1 3 18 (l := ht7 K) (b := decide (PySem.W.findIn K (.ref (He.ga K "InvalidPart")) "__setattr__" = some (some (.builtin "object.__setattr__")))) rfl rfl))
    (of_decide_eq_true (truth hT1 3 19 (l := ht7 K) (b := decide (PySem.W.findIn K (.ref (He.ga K "InvalidPart")) "__getattribute__" = some (some (.builtin "BaseException.__getattribute__")))) rfl rfl))
    (of_decide_eq_true (truth hT1 3 20 (l := ht7 K) (b := decide (PySem.W.findIn K (.ref (He.ga K "InvalidPart")) "__getattr__" = some none)) rfl rfl))
    (of_decide_eq_true (truth hT1 3 21 (l := ht7 K) (b := decide (PySem.W.findIn K (.ref (He.ga K "InvalidPart")) "__class__" = some (some (.builtin "object.__class__")))) rfl rfl))
    (of_decide_eq_true (truth hT1 3 22 (l := ht7 K) (b := decide (PySem.W.keepIn K (.ref (He.ga K "InvalidPart")) = true)) rfl rfl))
    (of_decide_eq_true (truth hT1 3 23 (l := ht7 K) (b := decide (PySem.W.findIn K (.ref (He.ga K "InvalidPart")) "given" = some none)) rfl rfl))
    (of_decide_eq_true (truth hT1 3 24 (l := ht7 K) (b := decide (PySem.W.findIn K (.ref (He.ga K "InvalidPart")) "__init__" = some (some (.ref (He.fAd K ("InvalidPart", some "__init__")))))) rfl rfl))
    (of_decide_eq_true (truth hT1 3 25 (l := ht7 K) (b := decide (PySem.W.typeIn K (.ref (He.fAd K ("InvalidPart", some "__init__"))) = some (.type "function"))) rfl rfl))
    (zl39)
    (zc39)
    (zk39)
    (of_decide_eq_true (truth hT1 3 26 (l := ht7 K) (b := decide (PySem.W.nsIn K mainGlobals "InvalidSides" = some (some (.ref (He.ga K "InvalidSides"))))) rfl rfl))
    (zx_xl15)
    (of_decide_eq_true (truth hT1 3 28 (l := ht7 K) (b := decide (PySem.W.findIn K (.ref (He.ga K "InvalidSides")) "__setattr__" = some (some (.builtin "object.__setattr__")))) rfl rfl))
    (of_decide_eq_true (truth hT1 3 29 (l := ht7 K) (b := decide (PySem.W.findIn K (.ref (He.ga K "InvalidSides")) "__getattribute__" = some (some (.builtin "BaseException.__getattribute__")))) rfl rfl))
    (of_decide_eq_true (truth hT2 0 0 (l := ht8 K) (b := decide (PySem.W.findIn K (.ref (He.ga K "InvalidSides")) "__getattr__" = some none)) rfl rfl))
    (of_decide_eq_true (truth hT2 0 1 (l := ht8 K) (b := decide (PySem.W.findIn K (.ref (He.ga K "InvalidSides")) "__class__" = some (some (.builtin "object.__class__")))) rfl rfl))
    (of_decide_eq_true (truth hT2 0 2 (l := ht8 K) (b := decide (PySem.W.keepIn K (.ref (He.ga K "InvalidSides")) = true)) rfl rfl))
    (of_decide_eq_true (truth hT2 0 3 (l := ht8 K) (b := decide (PySem.W.findIn K (.ref (He.ga K "InvalidSides")) "given" = some none)) rfl rfl))
    (of_decide_eq_true (truth hT2 0 4 (l := ht8 K) (b := decide (PySem.W.findIn K (.ref (He.ga K "InvalidSides")) "__init__" = some (some (.ref (He.fAd K ("InvalidSides", some "__init__")))))) rfl rfl))
    (of_decide_eq_true (truth hT2 0 5 (l := ht8 K) (b := decide (PySem.W.typeIn K (.ref (He.fAd K ("InvalidSides", some "__init__"))) = some (.type "function"))) rfl rfl))
    (zl40)
    (zc40)
    (zk40)
    (of_decide_eq_true (truth hT2 0 6 (l := ht8 K) (b := decide (PySem.W.nsIn K mainGlobals "InvalidDraws" = some (some (.ref (He.ga K "InvalidDraws"))))) rfl rfl))
    (zx_xl16)
    (of_decide_eq_true (truth hT2 0 8 (l := ht8 K) (b := decide (PySem.W.findIn K (.ref (He.ga K "InvalidDraws")) "__setattr__" = some (some (.builtin "object.__setattr__")))) rfl rfl))
    (of_decide_eq_true (truth hT2 0 9 (l := ht8 K) (b := decide (PySem.W.findIn K (.ref (He.ga K "InvalidDraws")) "__getattribute__" = some (some (.builtin "BaseException.__getattribute__")))) rfl rfl))
    (of_decide_eq_true (truth hT2 0 10 (l := ht8 K) (b := decide (PySem.W.findIn K (.ref (He.ga K "InvalidDraws")) "__getattr__" = some none)) rfl rfl))
    (of_decide_eq_true (truth hT2 0 11 (l := ht8 K) (b := decide (PySem.W.findIn K (.ref (He.ga K "InvalidDraws")) "__class__" = some (some (.builtin "object.__class__")))) rfl rfl))
    (of_decide_eq_true (truth hT2 0 12 (l := ht8 K) (b := decide (PySem.W.keepIn K (.ref (He.ga K "InvalidDraws")) = true)) rfl rfl))
    (of_decide_eq_true (truth hT2 0 13 (l := ht8 K) (b := decide (PySem.W.findIn K (.ref (He.ga K "InvalidDraws")) "given" = some none)) rfl rfl))
    (of_decide_eq_true (truth hT2 0 14 (l := ht8 K) (b := decide (PySem.W.findIn K (.ref (He.ga K "InvalidDraws")) "__init__" = some (some (.ref (He.fAd K ("InvalidDraws", some "__init__")))))) rfl rfl))
    (of_decide_eq_true (truth hT2 0 15 (l := ht8 K) (b := decide (PySem.W.typeIn K (.ref (He.fAd K ("InvalidDraws", some "__init__"))) = some (.type "function"))) rfl rfl))
    (zl41)
    (zc41)
    (zk41)
    (of_decide_eq_true (truth hT2 0 16 (l := ht8 K) (b := decide (PySem.W.nsIn K mainGlobals "InvalidShare" = some (some (.ref (He.ga K "InvalidShare"))))) rfl rfl))
    (zx_xl17)
    (of_decide_eq_true (truth hT2 0 18 (l := ht8 K) (b := decide (PySem.W.findIn K (.ref (He.ga K "InvalidShare")) "__setattr__" = some (some (.builtin "object.__setattr__")))) rfl rfl))
    (of_decide_eq_true (truth hT2 0 19 (l := ht8 K) (b := decide (PySem.W.findIn K (.ref (He.ga K "InvalidShare")) "__getattribute__" = some (some (.builtin "BaseException.__getattribute__")))) rfl rfl))
    (of_decide_eq_true (truth hT2 0 20 (l := ht8 K) (b := decide (PySem.W.findIn K (.ref (He.ga K "InvalidShare")) "__getattr__" = some none)) rfl rfl))
    (of_decide_eq_true (truth hT2 0 21 (l := ht8 K) (b := decide (PySem.W.findIn K (.ref (He.ga K "InvalidShare")) "__class__" = some (some (.builtin "object.__class__")))) rfl rfl))
    (of_decide_eq_true (truth hT2 0 22 (l := ht8 K) (b := decide (PySem.W.keepIn K (.ref (He.ga K "InvalidShare")) = true)) rfl rfl))
    (of_decide_eq_true (truth hT2 0 23 (l := ht8 K) (b := decide (PySem.W.findIn K (.ref (He.ga K "InvalidShare")) "given" = some none)) rfl rfl))
    (of_decide_eq_true (truth hT2 0 24 (l := ht8 K) (b := decide (PySem.W.findIn K (.ref (He.ga K "InvalidShare")) "__init__" = some (some (.ref (He.fAd K ("InvalidShare", some "__init__")))))) rfl rfl))
    (of_decide_eq_true (truth hT2 0 25 (l := ht8 K) (b := decide (PySem.W.typeIn K (.ref (He.fAd K ("InvalidShare", some "__init__"))) = some (.type "function"))) rfl rfl))
    (zl42)
    (zc42)
    (zk42)
    (of_decide_eq_true (truth hT2 0 26 (l := ht8 K) (b := decide (PySem.W.nsIn K mainGlobals "InvalidSteps" = some (some (.ref (He.ga K "InvalidSteps"))))) rfl rfl))
    (zx_xl18)
    (of_decide_eq_true (truth hT2 0 28 (l := ht8 K) (b := decide (PySem.W.findIn K (.ref (He.ga K "InvalidSteps")) "__setattr__" = some (some (.builtin "object.__setattr__")))) rfl rfl))
    (of_decide_eq_true (truth hT2 0 29 (l := ht8 K) (b := decide (PySem.W.findIn K (.ref (He.ga K "InvalidSteps")) "__getattribute__" = some (some (.builtin "BaseException.__getattribute__")))) rfl rfl))
    (of_decide_eq_true (truth hT2 1 0 (l := ht9 K) (b := decide (PySem.W.findIn K (.ref (He.ga K "InvalidSteps")) "__getattr__" = some none)) rfl rfl))
    (of_decide_eq_true (truth hT2 1 1 (l := ht9 K) (b := decide (PySem.W.findIn K (.ref (He.ga K "InvalidSteps")) "__class__" = some (some (.builtin "object.__class__")))) rfl rfl))
    (of_decide_eq_true (truth hT2 1 2 (l := ht9 K) (b := decide (PySem.W.keepIn K (.ref (He.ga K "InvalidSteps")) = true)) rfl rfl))
    (of_decide_eq_true (truth hT2 1 3 (l := ht9 K) (b := decide (PySem.W.findIn K (.ref (He.ga K "InvalidSteps")) "given" = some none)) rfl rfl))
    (of_decide_eq_true (truth hT2 1 4 (l := ht9 K) (b := decide (PySem.W.findIn K (.ref (He.ga K "InvalidSteps")) "__init__" = some (some (.ref (He.fAd K ("InvalidSteps", some "__init__")))))) rfl rfl))
    (of_decide_eq_true (truth hT2 1 5 (l := ht9 K) (b := decide (PySem.W.typeIn K (.ref (He.fAd K ("InvalidSteps", some "__init__"))) = some (.type "function"))) rfl rfl))
    (zl43)
    (zc43)
    (zk43)
    (of_decide_eq_true (truth hT2 1 6 (l := ht9 K) (b := decide (PySem.W.nsIn K mainGlobals "InvalidRow" = some (some (.ref (He.ga K "InvalidRow"))))) rfl rfl))
    (zx_xl19)
    (of_decide_eq_true (truth hT2 1 8 (l := ht9 K) (b := decide (PySem.W.findIn K (.ref (He.ga K "InvalidRow")) "__setattr__" = some (some (.builtin "object.__setattr__")))) rfl rfl))
    (of_decide_eq_true (truth hT2 1 9 (l := ht9 K) (b := decide (PySem.W.findIn K (.ref (He.ga K "InvalidRow")) "__getattribute__" = some (some (.builtin "BaseException.__getattribute__")))) rfl rfl))
    (of_decide_eq_true (truth hT2 1 10 (l := ht9 K) (b := decide (PySem.W.findIn K (.ref (He.ga K "InvalidRow")) "__getattr__" = some none)) rfl rfl))
    (of_decide_eq_true (truth hT2 1 11 (l := ht9 K) (b := decide (PySem.W.findIn K (.ref (He.ga K "InvalidRow")) "__class__" = some (some (.builtin "object.__class__")))) rfl rfl))
    (of_decide_eq_true (truth hT2 1 12 (l := ht9 K) (b := decide (PySem.W.keepIn K (.ref (He.ga K "InvalidRow")) = true)) rfl rfl))
    (of_decide_eq_true (truth hT2 1 13 (l := ht9 K) (b := decide (PySem.W.findIn K (.ref (He.ga K "InvalidRow")) "given" = some none)) rfl rfl))
    (of_decide_eq_true (truth hT2 1 14 (l := ht9 K) (b := decide (PySem.W.findIn K (.ref (He.ga K "InvalidRow")) "__init__" = some (some (.ref (He.fAd K ("InvalidRow", some "__init__")))))) rfl rfl))
    (of_decide_eq_true (truth hT2 1 15 (l := ht9 K) (b := decide (PySem.W.typeIn K (.ref (He.fAd K ("InvalidRow", some "__init__"))) = some (.type "function"))) rfl rfl))
    (zl44)
    (zc44)
    (zk44)
    (of_decide_eq_true (truth hT2 1 16 (l := ht9 K) (b := decide (PySem.W.nsIn K mainGlobals "InvalidPick" = some (some (.ref (He.ga K "InvalidPick"))))) rfl rfl))
    (zx_xl20)
    (of_decide_eq_true (truth hT2 1 18 (l := ht9 K) (b := decide (PySem.W.findIn K (.ref (He.ga K "InvalidPick")) "__setattr__" = some (some (.builtin "object.__setattr__")))) rfl rfl))
    (of_decide_eq_true (truth hT2 1 19 (l := ht9 K) (b := decide (PySem.W.findIn K (.ref (He.ga K "InvalidPick")) "__getattribute__" = some (some (.builtin "BaseException.__getattribute__")))) rfl rfl))
    (of_decide_eq_true (truth hT2 1 20 (l := ht9 K) (b := decide (PySem.W.findIn K (.ref (He.ga K "InvalidPick")) "__getattr__" = some none)) rfl rfl))
    (of_decide_eq_true (truth hT2 1 21 (l := ht9 K) (b := decide (PySem.W.findIn K (.ref (He.ga K "InvalidPick")) "__class__" = some (some (.builtin "object.__class__")))) rfl rfl))
    (of_decide_eq_true (truth hT2 1 22 (l := ht9 K) (b := decide (PySem.W.keepIn K (.ref (He.ga K "InvalidPick")) = true)) rfl rfl))
    (of_decide_eq_true (truth hT2 1 23 (l := ht9 K) (b := decide (PySem.W.findIn K (.ref (He.ga K "InvalidPick")) "given" = some none)) rfl rfl))
    (of_decide_eq_true (truth hT2 1 24 (l := ht9 K) (b := decide (PySem.W.findIn K (.ref (He.ga K "InvalidPick")) "__init__" = some (some (.ref (He.fAd K ("InvalidPick", some "__init__")))))) rfl rfl))
    (of_decide_eq_true (truth hT2 1 25 (l := ht9 K) (b := decide (PySem.W.typeIn K (.ref (He.fAd K ("InvalidPick", some "__init__"))) = some (.type "function"))) rfl rfl))
    (zl45)
    (zc45)
    (zk45)
    (of_decide_eq_true (truth hT2 1 26 (l := ht9 K) (b := decide (PySem.W.nsIn K mainGlobals "InvalidDice" = some (some (.ref (He.ga K "InvalidDice"))))) rfl rfl))
    (zx_xl21)
    (of_decide_eq_true (truth hT2 1 28 (l := ht9 K) (b := decide (PySem.W.findIn K (.ref (He.ga K "InvalidDice")) "__setattr__" = some (some (.builtin "object.__setattr__")))) rfl rfl))
    (of_decide_eq_true (truth hT2 1 29 (l := ht9 K) (b := decide (PySem.W.findIn K (.ref (He.ga K "InvalidDice")) "__getattribute__" = some (some (.builtin "BaseException.__getattribute__")))) rfl rfl))
    (of_decide_eq_true (truth hT2 2 0 (l := ht10 K) (b := decide (PySem.W.findIn K (.ref (He.ga K "InvalidDice")) "__getattr__" = some none)) rfl rfl))
    (of_decide_eq_true (truth hT2 2 1 (l := ht10 K) (b := decide (PySem.W.findIn K (.ref (He.ga K "InvalidDice")) "__class__" = some (some (.builtin "object.__class__")))) rfl rfl))
    (of_decide_eq_true (truth hT2 2 2 (l := ht10 K) (b := decide (PySem.W.keepIn K (.ref (He.ga K "InvalidDice")) = true)) rfl rfl))
    (of_decide_eq_true (truth hT2 2 3 (l := ht10 K) (b := decide (PySem.W.findIn K (.ref (He.ga K "InvalidDice")) "given" = some none)) rfl rfl))
    (of_decide_eq_true (truth hT2 2 4 (l := ht10 K) (b := decide (PySem.W.findIn K (.ref (He.ga K "InvalidDice")) "__init__" = some (some (.ref (He.fAd K ("InvalidDice", some "__init__")))))) rfl rfl))
    (of_decide_eq_true (truth hT2 2 5 (l := ht10 K) (b := decide (PySem.W.typeIn K (.ref (He.fAd K ("InvalidDice", some "__init__"))) = some (.type "function"))) rfl rfl))
    (zl46)
    (zc46)
    (zk46)
    (of_decide_eq_true (truth hT2 2 6 (l := ht10 K) (b := decide (PySem.W.nsIn K mainGlobals "InvalidBlend" = some (some (.ref (He.ga K "InvalidBlend"))))) rfl rfl))
    (zx_xl22)
    (of_decide_eq_true (truth hT2 2 8 (l := ht10 K) (b := decide (PySem.W.findIn K (.ref (He.ga K "InvalidBlend")) "__setattr__" = some (some (.builtin "object.__setattr__")))) rfl rfl))
    (of_decide_eq_true (truth hT2 2 9 (l := ht10 K) (b := decide (PySem.W.findIn K (.ref (He.ga K "InvalidBlend")) "__getattribute__" = some (some (.builtin "BaseException.__getattribute__")))) rfl rfl))
    (of_decide_eq_true (truth hT2 2 10 (l := ht10 K) (b := decide (PySem.W.findIn K (.ref (He.ga K "InvalidBlend")) "__getattr__" = some none)) rfl rfl))
    (of_decide_eq_true (truth hT2 2 11 (l := ht10 K) (b := decide (PySem.W.findIn K (.ref (He.ga K "InvalidBlend")) "__class__" = some (some (.builtin "object.__class__")))) rfl rfl))
    (of_decide_eq_true (truth hT2 2 12 (l := ht10 K) (b := decide (PySem.W.keepIn K (.ref (He.ga K "InvalidBlend")) = true)) rfl rfl))
    (of_decide_eq_true (truth hT2 2 13 (l := ht10 K) (b := decide (PySem.W.findIn K (.ref (He.ga K "InvalidBlend")) "given" = some none)) rfl rfl))
    (of_decide_eq_true (truth hT2 2 14 (l := ht10 K) (b := decide (PySem.W.findIn K (.ref (He.ga K "InvalidBlend")) "__init__" = some (some (.ref (He.fAd K ("InvalidBlend", some "__init__")))))) rfl rfl))
    (of_decide_eq_true (truth hT2 2 15 (l := ht10 K) (b := decide (PySem.W.typeIn K (.ref (He.fAd K ("InvalidBlend", some "__init__"))) = some (.type "function"))) rfl rfl))
    (zl47)
    (zc47)
    (zk47)
    (of_decide_eq_true (truth hT2 2 16 (l := ht10 K) (b := decide (PySem.W.nsIn K mainGlobals "InvalidLimits" = some (some (.ref (He.ga K "InvalidLimits"))))) rfl rfl))
    (zx_xl23)
    (of_decide_eq_true (truth hT2 2 18 (l := ht10 K) (b := decide (PySem.W.findIn K (.ref (He.ga K "InvalidLimits")) "__setattr__" = some (some (.builtin "object.__setattr__")))) rfl rfl))
    (of_decide_eq_true (truth hT2 2 19 (l := ht10 K) (b := decide (PySem.W.findIn K (.ref (He.ga K "InvalidLimits")) "__getattribute__" = some (some (.builtin "BaseException.__getattribute__")))) rfl rfl))
    (of_decide_eq_true (truth hT2 2 20 (l := ht10 K) (b := decide (PySem.W.findIn K (.ref (He.ga K "InvalidLimits")) "__getattr__" = some none)) rfl rfl))
    (of_decide_eq_true (truth hT2 2 21 (l := ht10 K) (b := decide (PySem.W.findIn K (.ref (He.ga K "InvalidLimits")) "__class__" = some (some (.builtin "object.__class__")))) rfl rfl))
    (of_decide_eq_true (truth hT2 2 22 (l := ht10 K) (b := decide (PySem.W.keepIn K (.ref (He.ga K "InvalidLimits")) = true)) rfl rfl))
    (of_decide_eq_true (truth hT2 2 23 (l := ht10 K) (b := decide (PySem.W.findIn K (.ref (He.ga K "InvalidLimits")) "given" = some none)) rfl rfl))
    (of_decide_eq_true (truth hT2 2 24 (l := ht10 K) (b := decide (PySem.W.findIn K (.ref (He.ga K "InvalidLimits")) "__init__" = some (some (.ref (He.fAd K ("InvalidLimits", some "__init__")))))) rfl rfl))
    (of_decide_eq_true (truth hT2 2 25 (l := ht10 K) (b := decide (PySem.W.typeIn K (.ref (He.fAd K ("InvalidLimits", some "__init__"))) = some (.type "function"))) rfl rfl))
    (zl48)
    (zc48)
    (zk48)
    (of_decide_eq_true (truth hT2 2 26 (l := ht10 K) (b := decide (PySem.W.nsIn K mainGlobals "InvalidPairs" = some (some (.ref (He.ga K "InvalidPairs"))))) rfl rfl))
    (zx_xl24)
    (of_decide_eq_true (truth hT2 2 28 (l := ht10 K) (b := decide (PySem.W.findIn K (.ref (He.ga K "InvalidPairs")) "__setattr__" = some (some (.builtin "object.__setattr__")))) rfl rfl))
    (of_decide_eq_true (truth hT2 2 29 (l := ht10 K) (b := decide (PySem.W.findIn K (.ref (He.ga K "InvalidPairs")) "__getattribute__" = some (some (.builtin "BaseException.__getattribute__")))) rfl rfl))
    (of_decide_eq_true (truth hT2 3 0 (l := ht11 K) (b := decide (PySem.W.findIn K (.ref (He.ga K "InvalidPairs")) "__getattr__" = some none)) rfl rfl))
    (of_decide_eq_true (truth hT2 3 1 (l := ht11 K) (b := decide (PySem.W.findIn K (.ref (He.ga K "InvalidPairs")) "__class__" = some (some (.builtin "object.__class__")))) rfl rfl))
    (of_decide_eq_true (truth hT2 3 2 (l := ht11 K) (b := decide (PySem.W.keepIn K (.ref (He.ga K "InvalidPairs")) = true)) rfl rfl))
    (of_decide_eq_true (truth hT2 3 3 (l := ht11 K) (b := decide (PySem.W.findIn K (.ref (He.ga K "InvalidPairs")) "given" = some none)) rfl rfl))
    (of_decide_eq_true (truth hT2 3 4 (l := ht11 K) (b := decide (PySem.W.findIn K (.ref (He.ga K "InvalidPairs")) "__init__" = some (some (.ref (He.fAd K ("InvalidPairs", some "__init__")))))) rfl rfl))
    (of_decide_eq_true (truth hT2 3 5 (l := ht11 K) (b := decide (PySem.W.typeIn K (.ref (He.fAd K ("InvalidPairs", some "__init__"))) = some (.type "function"))) rfl rfl))
    (zl49)
    (zc49)
    (zk49)
    (of_decide_eq_true (truth hT2 3 6 (l := ht11 K) (b := decide (PySem.W.nsIn K mainGlobals "InvalidSet" = some (some (.ref (He.ga K "InvalidSet"))))) rfl rfl))
    (zx_xl25)
    (of_decide_eq_true (truth hT2 3 8 (l := ht11 K) (b := decide (PySem.W.findIn K (.ref (He.ga K "InvalidSet")) "__setattr__" = some (some (.builtin "object.__setattr__")))) rfl rfl))
    (of_decide_eq_true (truth hT2 3 9 (l := ht11 K) (b := decide (PySem.W.findIn K (.ref (He.ga K "InvalidSet")) "__getattribute__" = some (some (.builtin "BaseException.__getattribute__")))) rfl rfl))
    (of_decide_eq_true (truth hT2 3 10 (l := ht11 K) (b := decide (PySem.W.findIn K (.ref (He.ga K "InvalidSet")) "__getattr__" = some none)) rfl rfl))
    (of_decide_eq_true (truth hT2 3 11 (l := ht11 K) (b := decide (PySem.W.findIn K (.ref (He.ga K "InvalidSet")) "__class__" = some (some (.builtin "object.__class__")))) rfl rfl))
    (of_decide_eq_true (truth hT2 3 12 (l := ht11 K) (b := decide (PySem.W.keepIn K (.ref (He.ga K "InvalidSet")) = true)) rfl rfl))
    (of_decide_eq_true (truth hT2 3 13 (l := ht11 K) (b := decide (PySem.W.findIn K (.ref (He.ga K "InvalidSet")) "given" = some none)) rfl rfl))
    (of_decide_eq_true (truth hT2 3 14 (l := ht11 K) (b := decide (PySem.W.findIn K (.ref (He.ga K "InvalidSet")) "__init__" = some (some (.ref (He.fAd K ("InvalidSet", some "__init__")))))) rfl rfl))
    (of_decide_eq_true (truth hT2 3 15 (l := ht11 K) (b := decide (PySem.W.typeIn K (.ref (He.fAd K ("InvalidSet", some "__init__"))) = some (.type "function"))) rfl rfl))
    (zl50)
    (zc50)
    (zk50)
    (of_decide_eq_true (truth hT2 3 16 (l := ht11 K) (b := decide (PySem.W.nsIn K mainGlobals "InvalidName" = some (some (.ref (He.ga K "InvalidName"))))) rfl rfl))
    (zx_xl26)
    (of_decide_eq_true (truth hT2 3 18 (l := ht11 K) (b := decide (PySem.W.findIn K (.ref (He.ga K "InvalidName")) "__setattr__" = some (some (.builtin "object.__setattr__")))) rfl rfl))
    (of_decide_eq_true (truth hT2 3 19 (l := ht11 K) (b := decide (PySem.W.findIn K (.ref (He.ga K "InvalidName")) "__getattribute__" = some (some (.builtin "BaseException.__getattribute__")))) rfl rfl))
    (of_decide_eq_true (truth hT2 3 20 (l := ht11 K) (b := decide (PySem.W.findIn K (.ref (He.ga K "InvalidName")) "__getattr__" = some none)) rfl rfl))
    (of_decide_eq_true (truth hT2 3 21 (l := ht11 K) (b := decide (PySem.W.findIn K (.ref (He.ga K "InvalidName")) "__class__" = some (some (.builtin "object.__class__")))) rfl rfl))
    (of_decide_eq_true (truth hT2 3 22 (l := ht11 K) (b := decide (PySem.W.keepIn K (.ref (He.ga K "InvalidName")) = true)) rfl rfl))
    (of_decide_eq_true (truth hT2 3 23 (l := ht11 K) (b := decide (PySem.W.findIn K (.ref (He.ga K "InvalidName")) "given" = some none)) rfl rfl))
    (of_decide_eq_true (truth hT2 3 24 (l := ht11 K) (b := decide (PySem.W.findIn K (.ref (He.ga K "InvalidName")) "__init__" = some (some (.ref (He.fAd K ("InvalidName", some "__init__")))))) rfl rfl))
    (of_decide_eq_true (truth hT2 3 25 (l := ht11 K) (b := decide (PySem.W.typeIn K (.ref (He.fAd K ("InvalidName", some "__init__"))) = some (.type "function"))) rfl rfl))
    (zl51)
    (zc51)
    (zk51)
    (of_decide_eq_true (truth hT2 3 26 (l := ht11 K) (b := decide (PySem.W.nsIn K mainGlobals "InvalidOther" = some (some (.ref (He.ga K "InvalidOther"))))) rfl rfl))
    (zx_xl27)
    (of_decide_eq_true (truth hT2 3 28 (l := ht11 K) (b := decide (PySem.W.findIn K (.ref (He.ga K "InvalidOther")) "__setattr__" = some (some (.builtin "object.__setattr__")))) rfl rfl))
    (of_decide_eq_true (truth hT2 3 29 (l := ht11 K) (b := decide (PySem.W.findIn K (.ref (He.ga K "InvalidOther")) "__getattribute__" = some (some (.builtin "BaseException.__getattribute__")))) rfl rfl))
    (of_decide_eq_true (truth hT3 0 0 (l := ht12 K) (b := decide (PySem.W.findIn K (.ref (He.ga K "InvalidOther")) "__getattr__" = some none)) rfl rfl))
    (of_decide_eq_true (truth hT3 0 1 (l := ht12 K) (b := decide (PySem.W.findIn K (.ref (He.ga K "InvalidOther")) "__class__" = some (some (.builtin "object.__class__")))) rfl rfl))
    (of_decide_eq_true (truth hT3 0 2 (l := ht12 K) (b := decide (PySem.W.keepIn K (.ref (He.ga K "InvalidOther")) = true)) rfl rfl))
    (of_decide_eq_true (truth hT3 0 3 (l := ht12 K) (b := decide (PySem.W.findIn K (.ref (He.ga K "InvalidOther")) "given" = some none)) rfl rfl))
    (of_decide_eq_true (truth hT3 0 4 (l := ht12 K) (b := decide (PySem.W.findIn K (.ref (He.ga K "InvalidOther")) "__init__" = some (some (.ref (He.fAd K ("InvalidOther", some "__init__")))))) rfl rfl))
    (of_decide_eq_true (truth hT3 0 5 (l := ht12 K) (b := decide (PySem.W.typeIn K (.ref (He.fAd K ("InvalidOther", some "__init__"))) = some (.type "function"))) rfl rfl))
    (zl52)
    (zc52)
    (zk52)
    (of_decide_eq_true (truth hT3 0 6 (l := ht12 K) (b := decide (PySem.W.nsIn K mainGlobals "TooMany" = some (some (.ref (He.ga K "TooMany"))))) rfl rfl))
    (zx_xl28)
    (of_decide_eq_true (truth hT3 0 8 (l := ht12 K) (b := decide (PySem.W.findIn K (.ref (He.ga K "TooMany")) "__setattr__" = some (some (.builtin "object.__setattr__")))) rfl rfl))
    (of_decide_eq_true (truth hT3 0 9 (l := ht12 K) (b := decide (PySem.W.findIn K (.ref (He.ga K "TooMany")) "__getattribute__" = some (some (.builtin "BaseException.__getattribute__")))) rfl rfl))
    (of_decide_eq_true (truth hT3 0 10 (l := ht12 K) (b := decide (PySem.W.findIn K (.ref (He.ga K "TooMany")) "__getattr__" = some none)) rfl rfl))
    (of_decide_eq_true (truth hT3 0 11 (l := ht12 K) (b := decide (PySem.W.findIn K (.ref (He.ga K "TooMany")) "__class__" = some (some (.builtin "object.__class__")))) rfl rfl))
    (of_decide_eq_true (truth hT3 0 12 (l := ht12 K) (b := decide (PySem.W.keepIn K (.ref (He.ga K "TooMany")) = true)) rfl rfl))
    (of_decide_eq_true (truth hT3 0 13 (l := ht12 K) (b := decide (PySem.W.findIn K (.ref (He.ga K "TooMany")) "count" = some none)) rfl rfl))
    (of_decide_eq_true (truth hT3 0 14 (l := ht12 K) (b := decide (PySem.W.findIn K (.ref (He.ga K "TooMany")) "__init__" = some (some (.ref (He.fAd K ("TooMany", some "__init__")))))) rfl rfl))
    (of_decide_eq_true (truth hT3 0 15 (l := ht12 K) (b := decide (PySem.W.typeIn K (.ref (He.fAd K ("TooMany", some "__init__"))) = some (.type "function"))) rfl rfl))
    (zl53)
    (zc53)
    (zk53)
    (of_decide_eq_true (truth hT3 0 16 (l := ht12 K) (b := decide (PySem.W.nsIn K mainGlobals "Outside" = some (some (.ref (He.ga K "Outside"))))) rfl rfl))
    (zx_xl29)
    (of_decide_eq_true (truth hT3 0 18 (l := ht12 K) (b := decide (PySem.W.findIn K (.ref (He.ga K "Outside")) "__setattr__" = some (some (.builtin "object.__setattr__")))) rfl rfl))
    (of_decide_eq_true (truth hT3 0 19 (l := ht12 K) (b := decide (PySem.W.findIn K (.ref (He.ga K "Outside")) "__getattribute__" = some (some (.builtin "BaseException.__getattribute__")))) rfl rfl))
    (of_decide_eq_true (truth hT3 0 20 (l := ht12 K) (b := decide (PySem.W.findIn K (.ref (He.ga K "Outside")) "__getattr__" = some none)) rfl rfl))
    (of_decide_eq_true (truth hT3 0 21 (l := ht12 K) (b := decide (PySem.W.findIn K (.ref (He.ga K "Outside")) "__class__" = some (some (.builtin "object.__class__")))) rfl rfl))
    (of_decide_eq_true (truth hT3 0 22 (l := ht12 K) (b := decide (PySem.W.keepIn K (.ref (He.ga K "Outside")) = true)) rfl rfl))
    (of_decide_eq_true (truth hT3 0 23 (l := ht12 K) (b := decide (PySem.W.findIn K (.ref (He.ga K "Outside")) "payoff" = some none)) rfl rfl))
    (of_decide_eq_true (truth hT3 0 24 (l := ht12 K) (b := decide (PySem.W.findIn K (.ref (He.ga K "Outside")) "__init__" = some (some (.ref (He.fAd K ("Outside", some "__init__")))))) rfl rfl))
    (of_decide_eq_true (truth hT3 0 25 (l := ht12 K) (b := decide (PySem.W.typeIn K (.ref (He.fAd K ("Outside", some "__init__"))) = some (.type "function"))) rfl rfl))
    (zl54)
    (zc54)
    (zk54)
    (of_decide_eq_true (truth hT3 0 26 (l := ht12 K) (b := decide (PySem.W.nsIn K mainGlobals "MayGoOn" = some (some (.ref (He.ga K "MayGoOn"))))) rfl rfl))
    (zx_xl30)
    (of_decide_eq_true (truth hT3 0 28 (l := ht12 K) (b := decide (PySem.W.findIn K (.ref (He.ga K "MayGoOn")) "__setattr__" = some (some (.builtin "object.__setattr__")))) rfl rfl))
    (of_decide_eq_true (truth hT3 0 29 (l := ht12 K) (b := decide (PySem.W.findIn K (.ref (He.ga K "MayGoOn")) "__getattribute__" = some (some (.builtin "BaseException.__getattribute__")))) rfl rfl))
    (of_decide_eq_true (truth hT3 1 0 (l := ht13 K) (b := decide (PySem.W.findIn K (.ref (He.ga K "MayGoOn")) "__getattr__" = some none)) rfl rfl))
    (of_decide_eq_true (truth hT3 1 1 (l := ht13 K) (b := decide (PySem.W.findIn K (.ref (He.ga K "MayGoOn")) "__class__" = some (some (.builtin "object.__class__")))) rfl rfl))
    (of_decide_eq_true (truth hT3 1 2 (l := ht13 K) (b := decide (PySem.W.keepIn K (.ref (He.ga K "MayGoOn")) = true)) rfl rfl))
    (of_decide_eq_true (truth hT3 1 3 (l := ht13 K) (b := decide (PySem.W.findIn K (.ref (He.ga K "MayGoOn")) "store" = some none)) rfl rfl))
    (of_decide_eq_true (truth hT3 1 4 (l := ht13 K) (b := decide (PySem.W.findIn K (.ref (He.ga K "MayGoOn")) "__init__" = some (some (.ref (He.fAd K ("MayGoOn", some "__init__")))))) rfl rfl))
    (of_decide_eq_true (truth hT3 1 5 (l := ht13 K) (b := decide (PySem.W.typeIn K (.ref (He.fAd K ("MayGoOn", some "__init__"))) = some (.type "function"))) rfl rfl))
    (zl55)
    (zc55)
    (zk55)
    (of_decide_eq_true (truth hT3 1 6 (l := ht13 K) (b := decide (PySem.W.nsIn K mainGlobals "NoThing" = some (some (.ref (He.ga K "NoThing"))))) rfl rfl))
    (zx_xl31)
    (of_decide_eq_true (truth hT3 1 8 (l := ht13 K) (b := decide (PySem.W.findIn K (.ref (He.ga K "NoThing")) "__setattr__" = some (some (.builtin "object.__setattr__")))) rfl rfl))
    (of_decide_eq_true (truth hT3 1 9 (l := ht13 K) (b := decide (PySem.W.findIn K (.ref (He.ga K "NoThing")) "__getattribute__" = some (some (.builtin "BaseException.__getattribute__")))) rfl rfl))
    (of_decide_eq_true (truth hT3 1 10 (l := ht13 K) (b := decide (PySem.W.findIn K (.ref (He.ga K "NoThing")) "__getattr__" = some none)) rfl rfl))
    (of_decide_eq_true (truth hT3 1 11 (l := ht13 K) (b := decide (PySem.W.findIn K (.ref (He.ga K "NoThing")) "__class__" = some (some (.builtin "object.__class__")))) rfl rfl))
    (of_decide_eq_true (truth hT3 1 12 (l := ht13 K) (b := decide (PySem.W.keepIn K (.ref (He.ga K "NoThing")) = true)) rfl rfl))
    (of_decide_eq_true (truth hT3 1 13 (l := ht13 K) (b := decide (PySem.W.findIn K (.ref (He.ga K "NoThing")) "name" = some none)) rfl rfl))
    (of_decide_eq_true (truth hT3 1 14 (l := ht13 K) (b := decide (PySem.W.findIn K (.ref (He.ga K "NoThing")) "__init__" = some (some (.ref (He.fAd K ("NoThing", some "__init__")))))) rfl rfl))
    (of_decide_eq_true (truth hT3 1 15 (l := ht13 K) (b := decide (PySem.W.typeIn K (.ref (He.fAd K ("NoThing", some "__init__"))) = some (.type "function"))) rfl rfl))
    (zl56)
    (zc56)
    (zk56)
    (of_decide_eq_true (truth hT3 1 16 (l := ht13 K) (b := decide (PySem.W.nsIn K mainGlobals "NotBrought" = some (some (.ref (He.ga K "NotBrought"))))) rfl rfl))
    (zx_xl32)
    (of_decide_eq_true (truth hT3 1 18 (l := ht13 K) (b := decide (PySem.W.findIn K (.ref (He.ga K "NotBrought")) "__setattr__" = some (some (.builtin "object.__setattr__")))) rfl rfl))
    (of_decide_eq_true (truth hT3 1 19 (l := ht13 K) (b := decide (PySem.W.findIn K (.ref (He.ga K "NotBrought")) "__getattribute__" = some (some (.builtin "BaseException.__getattribute__")))) rfl rfl))
    (of_decide_eq_true (truth hT3 1 20 (l := ht13 K) (b := decide (PySem.W.findIn K (.ref (He.ga K "NotBrought")) "__getattr__" = some none)) rfl rfl))
    (of_decide_eq_true (truth hT3 1 21 (l := ht13 K) (b := decide (PySem.W.findIn K (.ref (He.ga K "NotBrought")) "__class__" = some (some (.builtin "object.__class__")))) rfl rfl))
    (of_decide_eq_true (truth hT3 1 22 (l := ht13 K) (b := decide (PySem.W.keepIn K (.ref (He.ga K "NotBrought")) = true)) rfl rfl))
    (of_decide_eq_true (truth hT3 1 23 (l := ht13 K) (b := decide (PySem.W.findIn K (.ref (He.ga K "NotBrought")) "payoff" = some none)) rfl rfl))
    (of_decide_eq_true (truth hT3 1 24 (l := ht13 K) (b := decide (PySem.W.findIn K (.ref (He.ga K "NotBrought")) "table" = some none)) rfl rfl))
    (of_decide_eq_true (truth hT3 1 25 (l := ht13 K) (b := decide (PySem.W.findIn K (.ref (He.ga K "NotBrought")) "__init__" = some (some (.ref (He.fAd K ("NotBrought", some "__init__")))))) rfl rfl))
    (of_decide_eq_true (truth hT3 1 26 (l := ht13 K) (b := decide (PySem.W.typeIn K (.ref (He.fAd K ("NotBrought", some "__init__"))) = some (.type "function"))) rfl rfl))
    (zl57)
    (zc57)
    (zk57)
    (of_decide_eq_true (truth hT3 1 27 (l := ht13 K) (b := decide (PySem.W.nsIn K mainGlobals "MayStay" = some (some (.ref (He.ga K "MayStay"))))) rfl rfl))
    (zx_xl33)
    (of_decide_eq_true (truth hT3 1 29 (l := ht13 K) (b := decide (PySem.W.findIn K (.ref (He.ga K "MayStay")) "__setattr__" = some (some (.builtin "object.__setattr__")))) rfl rfl))
    (of_decide_eq_true (truth hT3 2 0 (l := ht14 K) (b := decide (PySem.W.findIn K (.ref (He.ga K "MayStay")) "__getattribute__" = some (some (.builtin "BaseException.__getattribute__")))) rfl rfl))
    (of_decide_eq_true (truth hT3 2 1 (l := ht14 K) (b := decide (PySem.W.findIn K (.ref (He.ga K "MayStay")) "__getattr__" = some none)) rfl rfl))
    (of_decide_eq_true (truth hT3 2 2 (l := ht14 K) (b := decide (PySem.W.findIn K (.ref (He.ga K "MayStay")) "__class__" = some (some (.builtin "object.__class__")))) rfl rfl))
    (of_decide_eq_true (truth hT3 2 3 (l := ht14 K) (b := decide (PySem.W.keepIn K (.ref (He.ga K "MayStay")) = true)) rfl rfl))
    (of_decide_eq_true (truth hT3 2 4 (l := ht14 K) (b := decide (PySem.W.findIn K (.ref (He.ga K "MayStay")) "way" = some none)) rfl rfl))
    (of_decide_eq_true (truth hT3 2 5 (l := ht14 K) (b := decide (PySem.W.findIn K (.ref (He.ga K "MayStay")) "rows" = some none)) rfl rfl))
    (of_decide_eq_true (truth hT3 2 6 (l := ht14 K) (b := decide (PySem.W.findIn K (.ref (He.ga K "MayStay")) "__init__" = some (some (.ref (He.fAd K ("MayStay", some "__init__")))))) rfl rfl))
    (of_decide_eq_true (truth hT3 2 7 (l := ht14 K) (b := decide (PySem.W.typeIn K (.ref (He.fAd K ("MayStay", some "__init__"))) = some (.type "function"))) rfl rfl))
    (zl58)
    (zc58)
    (zk58)
    (of_decide_eq_true (truth hT3 2 8 (l := ht14 K) (b := decide (PySem.W.nsIn K mainGlobals "TwoLots" = some (some (.ref (He.ga K "TwoLots"))))) rfl rfl))
    (zx_xl34)
    (of_decide_eq_true (truth hT3 2 10 (l := ht14 K) (b := decide (PySem.W.findIn K (.ref (He.ga K "TwoLots")) "__setattr__" = some (some (.builtin "object.__setattr__")))) rfl rfl))
    (of_decide_eq_true (truth hT3 2 11 (l := ht14 K) (b := decide (PySem.W.findIn K (.ref (He.ga K "TwoLots")) "__getattribute__" = some (some (.builtin "BaseException.__getattribute__")))) rfl rfl))
    (of_decide_eq_true (truth hT3 2 12 (l := ht14 K) (b := decide (PySem.W.findIn K (.ref (He.ga K "TwoLots")) "__getattr__" = some none)) rfl rfl))
    (of_decide_eq_true (truth hT3 2 13 (l := ht14 K) (b := decide (PySem.W.findIn K (.ref (He.ga K "TwoLots")) "__class__" = some (some (.builtin "object.__class__")))) rfl rfl))
    (of_decide_eq_true (truth hT3 2 14 (l := ht14 K) (b := decide (PySem.W.keepIn K (.ref (He.ga K "TwoLots")) = true)) rfl rfl))
    (of_decide_eq_true (truth hT3 2 15 (l := ht14 K) (b := decide (PySem.W.findIn K (.ref (He.ga K "TwoLots")) "one" = some none)) rfl rfl))
    (of_decide_eq_true (truth hT3 2 16 (l := ht14 K) (b := decide (PySem.W.findIn K (.ref (He.ga K "TwoLots")) "other" = some none)) rfl rfl))
    (of_decide_eq_true (truth hT3 2 17 (l := ht14 K) (b := decide (PySem.W.findIn K (.ref (He.ga K "TwoLots")) "__init__" = some (some (.ref (He.fAd K ("TwoLots", some "__init__")))))) rfl rfl))
    (of_decide_eq_true (truth hT3 2 18 (l := ht14 K) (b := decide (PySem.W.typeIn K (.ref (He.fAd K ("TwoLots", some "__init__"))) = some (.type "function"))) rfl rfl))
    (zl59)
    (zc59)
    (zk59)
    (of_decide_eq_true (truth hT3 2 19 (l := ht14 K) (b := decide (PySem.W.nsIn K mainGlobals "NotKept" = some (some (.ref (He.ga K "NotKept"))))) rfl rfl))
    (zx_xl35)
    (of_decide_eq_true (truth hT3 2 21 (l := ht14 K) (b := decide (PySem.W.findIn K (.ref (He.ga K "NotKept")) "__setattr__" = some (some (.builtin "object.__setattr__")))) rfl rfl))
    (of_decide_eq_true (truth hT3 2 22 (l := ht14 K) (b := decide (PySem.W.findIn K (.ref (He.ga K "NotKept")) "__getattribute__" = some (some (.builtin "BaseException.__getattribute__")))) rfl rfl))
    (of_decide_eq_true (truth hT3 2 23 (l := ht14 K) (b := decide (PySem.W.findIn K (.ref (He.ga K "NotKept")) "__getattr__" = some none)) rfl rfl))
    (of_decide_eq_true (truth hT3 2 24 (l := ht14 K) (b := decide (PySem.W.findIn K (.ref (He.ga K "NotKept")) "__class__" = some (some (.builtin "object.__class__")))) rfl rfl))
    (of_decide_eq_true (truth hT3 2 25 (l := ht14 K) (b := decide (PySem.W.keepIn K (.ref (He.ga K "NotKept")) = true)) rfl rfl))
    (of_decide_eq_true (truth hT3 2 26 (l := ht14 K) (b := decide (PySem.W.findIn K (.ref (He.ga K "NotKept")) "fees" = some none)) rfl rfl))
    (of_decide_eq_true (truth hT3 2 27 (l := ht14 K) (b := decide (PySem.W.findIn K (.ref (He.ga K "NotKept")) "table" = some none)) rfl rfl))
    (of_decide_eq_true (truth hT3 2 28 (l := ht14 K) (b := decide (PySem.W.findIn K (.ref (He.ga K "NotKept")) "__init__" = some (some (.ref (He.fAd K ("NotKept", some "__init__")))))) rfl rfl))
    (of_decide_eq_true (truth hT3 2 29 (l := ht14 K) (b := decide (PySem.W.typeIn K (.ref (He.fAd K ("NotKept", some "__init__"))) = some (.type "function"))) rfl rfl))
    (zl60)
    (zc60)
    (zk60)
    (of_decide_eq_true (truth hT3 3 0 (l := ht15 K) (b := decide (PySem.W.nsIn K mainGlobals "NoCommon" = some (some (.ref (He.ga K "NoCommon"))))) rfl rfl))
    (zx_xl36)
    (of_decide_eq_true (truth hT3 3 2 (l := ht15 K) (b := decide (PySem.W.findIn K (.ref (He.ga K "NoCommon")) "__setattr__" = some (some (.builtin "object.__setattr__")))) rfl rfl))
    (of_decide_eq_true (truth hT3 3 3 (l := ht15 K) (b := decide (PySem.W.findIn K (.ref (He.ga K "NoCommon")) "__getattribute__" = some (some (.builtin "BaseException.__getattribute__")))) rfl rfl))
    (of_decide_eq_true (truth hT3 3 4 (l := ht15 K) (b := decide (PySem.W.findIn K (.ref (He.ga K "NoCommon")) "__getattr__" = some none)) rfl rfl))
    (of_decide_eq_true (truth hT3 3 5 (l := ht15 K) (b := decide (PySem.W.findIn K (.ref (He.ga K "NoCommon")) "__class__" = some (some (.builtin "object.__class__")))) rfl rfl))
    (of_decide_eq_true (truth hT3 3 6 (l := ht15 K) (b := decide (PySem.W.keepIn K (.ref (He.ga K "NoCommon")) = true)) rfl rfl))
    (of_decide_eq_true (truth hT3 3 7 (l := ht15 K) (b := decide (PySem.W.findIn K (.ref (He.ga K "NoCommon")) "payoffs" = some none)) rfl rfl))
    (of_decide_eq_true (truth hT3 3 8 (l := ht15 K) (b := decide (PySem.W.findIn K (.ref (He.ga K "NoCommon")) "tables" = some none)) rfl rfl))
    (of_decide_eq_true (truth hT3 3 9 (l := ht15 K) (b := decide (PySem.W.findIn K (.ref (He.ga K "NoCommon")) "__init__" = some (some (.ref (He.fAd K ("NoCommon", some "__init__")))))) rfl rfl))
    (of_decide_eq_true (truth hT3 3 10 (l := ht15 K) (b := decide (PySem.W.typeIn K (.ref (He.fAd K ("NoCommon", some "__init__"))) = some (.type "function"))) rfl rfl))
    (zl61)
    (zc61)
    (zk61)
    (of_decide_eq_true (truth hT3 3 11 (l := ht15 K) (b := decide (PySem.W.nsIn K mainGlobals "ByZero" = some (some (.ref (He.ga K "ByZero"))))) rfl rfl))
    (zx_xl37)
    (of_decide_eq_true (truth hT3 3 13 (l := ht15 K) (b := decide (PySem.W.findIn K (.ref (He.ga K "ByZero")) "__setattr__" = some (some (.builtin "object.__setattr__")))) rfl rfl))
    (of_decide_eq_true (truth hT3 3 14 (l := ht15 K) (b := decide (PySem.W.findIn K (.ref (He.ga K "ByZero")) "__getattribute__" = some (some (.builtin "BaseException.__getattribute__")))) rfl rfl))
    (of_decide_eq_true (truth hT3 3 15 (l := ht15 K) (b := decide (PySem.W.findIn K (.ref (He.ga K "ByZero")) "__getattr__" = some none)) rfl rfl))
    (of_decide_eq_true (truth hT3 3 16 (l := ht15 K) (b := decide (PySem.W.findIn K (.ref (He.ga K "ByZero")) "__class__" = some (some (.builtin "object.__class__")))) rfl rfl))
    (of_decide_eq_true (truth hT3 3 17 (l := ht15 K) (b := decide (PySem.W.keepIn K (.ref (He.ga K "ByZero")) = true)) rfl rfl))
    (of_decide_eq_true (truth hT3 3 18 (l := ht15 K) (b := decide (PySem.W.excIn K (He.ga K "ByZero") [.type "ValueError", .type "Exception", .type "BaseException", .type "object"] "ValueError.__new__" = true)) rfl rfl))
    (of_decide_eq_true (truth hT3 3 19 (l := ht15 K) (b := decide (PySem.W.nsIn K mainGlobals "NothingToUndo" = some (some (.ref (He.ga K "NothingToUndo"))))) rfl rfl))
    (zx_xl38)
    (of_decide_eq_true (truth hT3 3 21 (l := ht15 K) (b := decide (PySem.W.findIn K (.ref (He.ga K "NothingToUndo")) "__setattr__" = some (some (.builtin "object.__setattr__")))) rfl rfl))
    (of_decide_eq_true (truth hT3 3 22 (l := ht15 K) (b := decide (PySem.W.findIn K (.ref (He.ga K "NothingToUndo")) "__getattribute__" = some (some (.builtin "BaseException.__getattribute__")))) rfl rfl))
    (of_decide_eq_true (truth hT3 3 23 (l := ht15 K) (b := decide (PySem.W.findIn K (.ref (He.ga K "NothingToUndo")) "__getattr__" = some none)) rfl rfl))
    (of_decide_eq_true (truth hT3 3 24 (l := ht15 K) (b := decide (PySem.W.findIn K (.ref (He.ga K "NothingToUndo")) "__class__" = some (some (.builtin "object.__class__")))) rfl rfl))
    (of_decide_eq_true (truth hT3 3 25 (l := ht15 K) (b := decide (PySem.W.keepIn K (.ref (He.ga K "NothingToUndo")) = true)) rfl rfl))
    (of_decide_eq_true (truth hT3 3 26 (l := ht15 K) (b := decide (PySem.W.excIn K (He.ga K "NothingToUndo") [.type "ValueError", .type "Exception", .type "BaseException", .type "object"] "ValueError.__new__" = true)) rfl rfl))
    (of_decide_eq_true (truth hT3 3 27 (l := ht15 K) (b := decide (PySem.W.nsIn K mainGlobals "NothingToRedo" = some (some (.ref (He.ga K "NothingToRedo"))))) rfl rfl))
    (zx_xl39)
    (of_decide_eq_true (truth hT3 3 29 (l := ht15 K) (b := decide (PySem.W.findIn K (.ref (He.ga K "NothingToRedo")) "__setattr__" = some (some (.builtin "object.__setattr__")))) rfl rfl))
    (of_decide_eq_true (truth hT4 0 0 (l := ht16 K) (b := decide (PySem.W.findIn K (.ref (He.ga K "NothingToRedo")) "__getattribute__" = some (some (.builtin "BaseException.__getattribute__")))) rfl rfl))
    (of_decide_eq_true (truth hT4 0 1 (l := ht16 K) (b := decide (PySem.W.findIn K (.ref (He.ga K "NothingToRedo")) "__getattr__" = some none)) rfl rfl))
    (of_decide_eq_true (truth hT4 0 2 (l := ht16 K) (b := decide (PySem.W.findIn K (.ref (He.ga K "NothingToRedo")) "__class__" = some (some (.builtin "object.__class__")))) rfl rfl))
    (of_decide_eq_true (truth hT4 0 3 (l := ht16 K) (b := decide (PySem.W.keepIn K (.ref (He.ga K "NothingToRedo")) = true)) rfl rfl))
    (of_decide_eq_true (truth hT4 0 4 (l := ht16 K) (b := decide (PySem.W.excIn K (He.ga K "NothingToRedo") [.type "ValueError", .type "Exception", .type "BaseException", .type "object"] "ValueError.__new__" = true)) rfl rfl))
    (of_decide_eq_true (truth hT4 0 5 (l := ht16 K) (b := decide (ndB (He.ga K "EndError") [(He.ga K "InvalidNumber"), (He.ga K "InvalidSizes"), (He.ga K "InvalidStore"), (He.ga K "InvalidValues"), (He.ga K "InvalidLine"), (He.ga K "InvalidSpace"), (He.ga K "InvalidOutcome"), (He.ga K "InvalidWeights"), (He.ga K "InvalidLot"), (He.ga K "InvalidLots"), (He.ga K "InvalidPayoff"), (He.ga K "InvalidText"), (He.ga K "InvalidSurrounding"), (He.ga K "InvalidPath"), (He.ga K "InvalidPart"), (He.ga K "InvalidSides"), (He.ga K "InvalidDraws"), (He.ga K "InvalidShare"), (He.ga K "InvalidSteps"), (He.ga K "InvalidRow"), (He.ga K "InvalidPick"), (He.ga K "InvalidDice"), (He.ga K "InvalidBlend"), (He.ga K "InvalidLimits"), (He.ga K "InvalidPairs"), (He.ga K "InvalidSet"), (He.ga K "InvalidName"), (He.ga K "InvalidOther"), (He.ga K "TooMany"), (He.ga K "Outside"), (He.ga K "MayGoOn"), (He.ga K "NoThing"), (He.ga K "NotBrought"), (He.ga K "MayStay"), (He.ga K "TwoLots"), (He.ga K "NotKept"), (He.ga K "NoCommon"), (He.ga K "ByZero"), (He.ga K "NothingToUndo"), (He.ga K "NothingToRedo")] = true)) rfl rfl))
end Eld
open PySem PySem.W PySem.Calls PyProof.Rows in
set_option maxRecDepth 100000 in
set_option maxHeartbeats 0 in
theorem PySem.Challenge.cw_endlots_k00_errors_holds : PySem.Challenge.rw_endlots_k00_errors.Holds := by
  w_on; o_law
  refine HandSHeadRun.head_imp (r := OpenLaw.row PySem.Challenge.rw_endlots_k00_errors) (q := Eld.hq) (H := Eld.hookX Eld.has Eld.hfb Eld.hfn) (ob := Eld.obX Eld.has Eld.hfb Eld.hfn) (M := 20000) (loose := Eld.hnames) (d := HandSHeadRun.topDef (OpenLaw.row PySem.Challenge.rw_endlots_k00_errors).prog 74) (kwd := []) Eld.obX_eq
    Eld.hrun (by kernel_rfl) (by kernel_rfl) (by kernel_rfl) (by rfl) (by first | assumption | decide +kernel) (by decide +kernel) ⟨rfl, rfl, rfl, rfl, rfl, by decide +kernel⟩ ?hw ?hc
  case hw => w_witness2
  case hc =>
    refine Eld.walk_MX (l := PySem.Challenge.rw_endlots_k00_errors) (n := 63) (k := 7) (x := "script") rfl (by decide) (by kernel_rfl) ⟨rfl, by decide, by decide⟩ (by decide +kernel) ?F
    intro w mg fa h Y G hmg0
    obtain ⟨K, KX, c⟩ := Y
    have hmg : mg ("law" : PySem.Str) = some (.ref fa) := by
      have e : (HandSHeadRun.topDef (OpenLaw.row PySem.Challenge.rw_endlots_k00_errors).prog 74).name = ("law" : PySem.Str) := by kernel_rfl
      rw [← e]
      exact hmg0
    obtain ⟨fd, hb, hF⟩ := Eld.hfacts (w := w) KX G hmg c
    exact ⟨K, fd, Eld.spLaw K, KX, hb, fun G a ns hl hS => ⟨a, ns, rfl, Nat.le_trans hl (by decide), hS, fun _ => rfl⟩, hF⟩
