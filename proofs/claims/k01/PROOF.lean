import PyProof.Rows.All
import Wide.All
import OpenK.AllK
import Wide.FinOn
import PyProof.EqAt
import PyProof.EqKinds
import PyProof.TupleCall
import HandS.ForMost
import HandS.Defaults
import HandS.IsInst
import HandS.Gcd
import HandS.Wide
import HandS.Style
import HandS.TupAny
import HandS.Deep
import PyProof.SeqIndex
import PyProof.InstNe
import KE.KIndexOf
import HandS.Zip
import KE.KOpsOwn
import PyProof.TwoTypes
import KE.KCallOwn
import PyProof.Raises
import HandS.StrMore
import KE.GoesEnum
import HandS.ForExc
import HandS.TryMany
import HandS.ExcInit
import HandS.ExcField
import KE.KMathGC
import PyProof.NeKinds
import HandS.FStr
import HandS.Codes
import PyProof.Rows.RegFStrParts
import PySem.Challenge.RW_endlots_k01_ratios
set_option Elab.async false
set_option maxRecDepth 100000
set_option maxHeartbeats 4000000
set_option linter.all false
/-! Eld: calls under known guards (so that repr may be spoken of), and what else the laws of Endlots want. -/
namespace Eld
open PySem PySem.Spec PyProof.Rows L2

/-! ## a def that keeps a promise where nothing is being shown (repr) -/
structure FnG (P : Program) (w : World) (K : PySem.W.Frag) (mg : Str → Option Value) (base : Heap) (CX : CXT) (k : Nat) (f : Addr) (fd : FuncData) (ps : List Str) (sp : Sp) : Prop where
  len : ∀ vs H Q E, sp vs H Q E → vs.length = ps.length
  run : ∀ (B : Around) (up : List Env) (z : Shared) (H : Hp) (ar : Args) (us : List Value) (vs : List V) (Q : VK) (E : XK),
    B.guards = some [] → Room k B → Env0 P w K mg base B up z H → BindsTo z fd ar (ps.zip us) → Vals vs us → sp vs H Q E → codeAny (model P w) B (.call (.ref f) ar) (CR CX up P w H z Q E) z
section
variable {P : Program} {w : World} {K : PySem.W.Frag} {mg : Str → Option Value} {base : Heap} {CX : CXT} {f : Addr} {fd : FuncData} {ps : List Str} {sp : Sp}
theorem FnG.of {k : Nat} (F : FnOk P w K mg base CX k f fd ps sp) : FnG P w K mg base CX k f fd ps sp :=
  ⟨F.len, fun B up z H ar us vs Q E _ r => F.run B up z H ar us vs Q E r⟩
theorem FnG.lift {j k : Nat} (F : FnG P w K mg base CX j f fd ps sp) (h : j ≤ k) : FnG P w K mg base CX k f fd ps sp :=
  ⟨F.len, fun B up z H ar us vs Q E g r => F.run B up z H ar us vs Q E g (r.mono h)⟩
end
theorem deeper_guards {B : Around} {env : Env} (h : B.guards = some []) : (B.deeper env).guards = some [] := by
  first
    | exact h
    | (simpa [Around.deeper, Around.under, Code.guards, Code.isGuard, pushGuards] using h)
theorem in1_guards {B : Around} (h : B.guards = some []) : B.in1.guards = some [] := by
  first
    | exact h
    | (simpa [Around.in1] using h)
theorem make_guards {B : Around} {C : Addr} {us : List Value} {kw : List (Str × Value)} (h : B.guards = some []) : (B.under (.builtin "type.__call__" ⟨.ref C :: us, kw⟩)).guards = some [] := by
  first
    | exact h
    | (simpa [Around.under, Code.guards, Code.isGuard, pushGuards, guardIds] using h)

section
variable {P : Program} {w : World} {K : PySem.W.Frag} {mg : Str → Option Value} {base : Heap} {CX : CXT}
/-- the rule for a def -/
theorem fnG_of {k : Nat} {f : Addr} {nm ql : Str} {pa : Arguments} {bd : List Stmt} {sc : Scope} {dV kV doc pm cdv ct oc : Value} {an od : Option Addr} {osl : Array (Option Value)} {N ps : List Str} {sp : Sp}
    (lk : K.lookup f = some ⟨oc, od, .func (PySem.W.fnOf nm ql pa bd sc dV kV doc pm an cdv ct), osl⟩) (cd : PySem.W.codeIn K cdv ql = true) (S : FnScope N ps sc) (ln : ∀ vs H Q E, sp vs H Q E → vs.length = ps.length)
    (bo : ∀ (B : Around) (up : List Env) (z : Shared) (H : Hp) (vs : List V) (Q : VK) (E : XK), (B.deeper (envOfC ql sc z.heap.objs.size f cdv)).guards = some [] → Room k (B.deeper (envOfC ql sc z.heap.objs.size f cdv)) → sp vs H Q E →
      ∃ t, PSs (cxOf CX P w K mg base N ql sc f cdv B up z H E) bd t ∧ t { nx := fun _ G => Q .non G, rt := Q } (start N vs) H) :
    FnG P w K mg base CX (k + 1) f (PySem.W.fnOf nm ql pa bd sc dV kV doc pm an cdv ct) ps sp := by
  constructor
  · exact ln
  intro B up z H ar us vs Q E gd rm e0 bt rv hs
  have len := ln vs H Q E hs
  have there : ∀ b o, base.get? b = some o → z.heap.get? b = some o := fun b o e => (e0.bs b o e).1
  have inK : K.In z.heap := e0.mod.kin.keeps there
  have nolim : z.heap.NoLimit := e0.mod.nolimit.keeps there
  have kinds : ∀ y ∈ ps.zip us, sc.names.lookup y.1 = some .local ∨ (sc.names.lookup y.1 = some .cell ∧ ((cellsFrom (z.heap.objs.size + 1) sc.names []).lookup y.1).isSome = true) := by
    rintro ⟨n, v⟩ hy
    have hn : n ∈ ps := (List.of_mem_zip hy).1
    exact (S.par n hn).imp id fun q => ⟨q, PySem.W.cellsFrom_some _ _ _ (.inl q)⟩
  refine codeAny_call_function rm.depth (inK _ _ lk) rfl S.co S.gen rfl (PySem.W.codeRec_of inK cd) (bt _ _ _ _ ?_)
  refine wpAny_newFunctionEnv_cells S.kind kinds ?_
  rintro env rfl z1 ic
  refine ⟨nolim.keeps ic.toInCall.keep, codeAny_func ?_⟩
  obtain ⟨t, pt, ht⟩ := bo B up z H vs Q E (deeper_guards gd) (rm.deeper _) hs
  have I0 : Inv (cxOf CX P w K mg base N ql sc f cdv B up z H E) [] (start N vs) H z1 := inv_start S rm.hd e0 len rv ic
  refine wpAny_mono (pt.run [] z1 (start N vs) H _ I0 ht) ?_ (fun e z2 q => q)
  rintro fl z2 q
  cases fl with
  | next =>
    obtain ⟨τ, G, J, q⟩ := q
    exact ⟨V.non, G, J.os, J.bare, J.base, J.hok, rfl, q⟩
  | ret u =>
    obtain ⟨v, τ, G, J, rv', q⟩ := q
    exact ⟨v, G, J.os, J.bare, J.base, J.hok, rv', q⟩
  | brk => exact q.choose_spec.choose_spec.2.elim
  | cont => exact q.choose_spec.choose_spec.2.elim
theorem okG {x ql : Str} {st : Stmt} {f : Addr} {fd : FuncData} {N ps : List Str} {k : Nat} {sp : Sp} (F : Fun K x ql st f fd) (S : FnScope N ps (defScope st)) (ln : ∀ vs H Q E, sp vs H Q E → vs.length = ps.length)
    (bo : ∀ (cdv : Value) (B : Around) (up : List Env) (z : Shared) (H : Hp) (vs : List V) (Q : VK) (E : XK), (B.deeper (envOfC ql (defScope st) z.heap.objs.size f cdv)).guards = some [] → Room k (B.deeper (envOfC ql (defScope st) z.heap.objs.size f cdv)) → sp vs H Q E →
      ∃ t, PSs (cxOf CX0 P w K mg base N ql (defScope st) f cdv B up z H E).nox (defBody st) t ∧ t { nx := fun _ G => Q .non G, rt := Q } (start N vs) H) : FnG P w K mg base CX0 (k + 1) f fd ps sp := by
  obtain ⟨oc, od, kV, doc, pm, an, cdv, ct, osl, rfl, lk, cd⟩ := F.ex
  refine fnG_of lk cd S ln ?_
  intro B up z H vs Q E gd rm hs
  obtain ⟨t, h, q⟩ := bo cdv B up z H vs Q E gd rm hs
  exact ⟨t, h.nox, q⟩
end

/-! ## calls: the value called, values by place and by name -/
/-- called with the values xs by place and ys by the names ks -/
def CallV (X : Cx) (fv : Value) (ks : List Str) (r : List V → List V → Hp → VK → Prop) : Prop :=
  ∀ (pins : List (Addr × Obj)) (s : Shared) (σ : L2.St) (H : Hp) (xs ys : List V) (us ws : List Value) (Q : VK), Inv X pins σ H s → Vals xs us → Vals ys ws → r xs ys H Q →
    wpAny (model X.prog X.w) X.A (call fv us (ks.zip ws)) (EP X pins σ Q) X.xe s
section
variable {X : Cx} {CX : CXT} {k n : Nat} {f C : Addr} {fd : FuncData} {ps ks : List Str} {sp : Sp} {E : XK} {g : List Value → List Value → List Value} {gV : List V → List V → List V}
def rFn (n m : Nat) (gV : List V → List V → List V) (sp : Sp) (E : XK) : List V → List V → Hp → VK → Prop := fun xs ys H Q => xs.length = n ∧ ys.length = m ∧ sp (gV xs ys) H Q E
theorem callV_fn (F : FnG X.prog X.w X.K X.mg X.base CX k f fd ps sp) (hb : KBn X.K fd ps n ks g gV) (hx : Passes CX X E) (hG : X.A.guards = some []) (hr : Room k X.A) : CallV X (.ref f) ks (rFn n ks.length gV sp E) := by
  rintro pins s σ H xs ys us ws Q I rx ry ⟨l1, l2, h⟩
  have e1 : us.length = n := rx.length ▸ l1
  have e2 : ws.length = ks.length := ry.length ▸ l2
  refine wpAny_call (codeAny_mono (F.run X.A X.stack s H ⟨us, ks.zip ws⟩ (g us ws) (gV xs ys) Q E hG hr I.env0 (hb.to s us ws I.kIn e1 e2) (hb.rel rx ry) h) ?_)
  intro res s' hq
  match res, hq with
  | .error e, hq => exact hx pins σ H s e s' I hq
  | .ok (.ret u), hq => exact I.after hq
def rMk (C : Addr) (n m : Nat) (gV : List V → List V → List V) (sp : Sp) (E : XK) : List V → List V → Hp → VK → Prop := fun xs ys H Q => xs.length = n ∧ ys.length = m ∧
  ∀ x dx, H x = none → H dx = none → dx ≠ x → sp (gV (.ref x :: xs) ys) (upd (upd H dx (.own x)) x (.ins C dx [])) (fun v G => v = .non ∧ Q (.ref x) G) E
theorem callV_mk (M : Mk X.K C f) (F : FnG X.prog X.w X.K X.mg X.base CX k f fd ps sp) (hb : KBn X.K fd ps (n + 1) ks g gV) (hx : Passes CX X E) (hG : X.A.guards = some []) (hr : Room (k + 1) X.A) : CallV X (.ref C) ks (rMk C n ks.length gV sp E) := by
  rintro pins s σ H xs ys us ws Q I rx ry ⟨l1, l2, h⟩
  have e1 : (Value.ref (s.heap.objs.size + 1) :: us).length = n + 1 := by
    rw [List.length_cons, ← rx.length, l1]
  have e2 : ws.length = ks.length := ry.length ▸ l2
  have hs := h (s.heap.objs.size + 1) s.heap.objs.size (I.hok.fresh (Nat.le_succ _)) (I.hok.fresh (Nat.le_refl _)) (Nat.ne_of_lt (Nat.lt_succ_self _))
  have J := Inv.made (C := C) I
  have rx' : Vals (V.ref (s.heap.objs.size + 1) :: xs) (Value.ref (s.heap.objs.size + 1) :: us) := .cons rfl rx
  refine wpAny_call (make_map (f := f) I.kIn M.makes M.init (beq_iff_eq.mp M.fn) (codeAny_mono (F.run _ X.stack _ _ ⟨Value.ref (s.heap.objs.size + 1) :: us, ks.zip ws⟩ _ _ _ E (make_guards hG) (hr.make C us (ks.zip ws))
    (J.env0.make C us (ks.zip ws)) (hb.to _ _ ws J.kIn e1 e2) (hb.rel rx' ry) hs) ?_))
  intro res s' hq
  match res, hq with
  | .error e, hq => exact hx pins σ _ _ e s' J hq
  | .ok (.ret u), hq =>
    obtain ⟨v, G, I', rv, ev, q⟩ := J.after hq
    subst ev
    exact ⟨rv, ⟨V.ref (s.heap.objs.size + 1), G, I', rfl, q⟩⟩
end
/-- the reading of a call -/
def tCl (r : List V → List V → Hp → VK → Prop) (t tk : TA) : TE := fun σ H Q => t σ H fun xs H1 => tk σ H1 fun ys H2 => r xs ys H2 Q
section
variable {X : Cx} {ks : List Str} {fv : Value} {r : List V → List V → Hp → VK → Prop} {x m : Str} {p pos apos : Pos} {e o : Expr} {es : List Expr} {kws : List Keyword} {ta : TE} {t tk : TA}
/-- f(e, ..) -/
theorem pn_pos (c : CallV X fv [] r) (hg : Gl X x) (hm : X.mg x = some fv) (hk : PySem.W.keepIn X.K fv = true) (ha : PA X (e :: es) t) (hd : (x == ("__debug__" : Str)) = false := by decide)
    (he : starEach (e :: es) X.env = (false, eval e X.env) :: starEach es X.env := by rfl) (hp : (backTo pos (starEach es X.env)).any (·.1) = false := by rfl) : PE X (.Call (.Name x p) (e :: es) [] pos) (tCl r t tNil) := by
  constructor
  intro pins s σ H Q I h
  exact wpAny_Call_Name_kw (ld_glob I hg hm (PySem.W.callWith_K (h₀ := X.base) I.ok.mod.kin hk (thn (ha.run pos pins s σ H _ I h) fun us s1 ⟨xs, H1, I1, rx, q⟩ => ⟨I1.kIn, c pins s1 σ H1 xs [] us [] Q I1 rx .nil q⟩) he hp) hd)
/-- f() -/
theorem pn_none (c : CallV X fv [] r) (hg : Gl X x) (hm : X.mg x = some fv) (hk : PySem.W.keepIn X.K fv = true) (hd : (x == ("__debug__" : Str)) = false := by decide) : PE X (.Call (.Name x p) [] [] pos) (tCl r tNil tNil) := by
  constructor
  intro pins s σ H Q I h
  exact wpAny_Call_Name_kw (ld_glob I hg hm (PySem.W.callWith_K0 I.kIn hk (c pins s σ H [] [] [] [] Q I .nil .nil h)) hd)
/-- f(e, .., k = v, ..) -/
theorem pn_kw (c : CallV X fv ks r) (hg : Gl X x) (hm : X.mg x = some fv) (hk : PySem.W.keepIn X.K fv = true) (ha : PA X (e :: es) t) (hkw : PK X kws tk) (hall : (backToKw pos (keywordEach kws X.env)).all (·.1.isSome) = true := by rfl)
    (hks : (backToKw pos (keywordEach kws X.env)).filterMap (·.1) = ks := by rfl) (hd : (x == ("__debug__" : Str)) = false := by decide) (he : starEach (e :: es) X.env = (false, eval e X.env) :: starEach es X.env := by rfl)
    (hp : ((backTo pos (starEach (e :: es) X.env)).any (·.1) || (backToKw pos (keywordEach kws X.env)).any (·.1.isNone)) = false := by rfl) : PE X (.Call (.Name x p) (e :: es) kws pos) (tCl r t tk) := by
  constructor
  intro pins s σ H Q I h
  subst hks
  exact wpAny_Call_Name_kw (ld_glob I hg hm (PySem.W.callWith_KW (h₀ := X.base) I.ok.mod.kin hk hall (thn (ha.run pos pins s σ H _ I h) fun us s1 ⟨xs, H1, I1, rx, q⟩ =>
    thn (hkw.run pos pins s1 σ H1 _ I1 q) fun ws s2 ⟨ys, H2, I2, ry, q2⟩ => ⟨I2.kIn, c pins s2 σ H2 xs ys us ws Q I2 rx ry q2⟩) hp he) hd)
/-- f(k = v, ..) -/
theorem pn_kw0 (c : CallV X fv ks r) (hg : Gl X x) (hm : X.mg x = some fv) (hk : PySem.W.keepIn X.K fv = true) (hkw : PK X kws tk) (hall : (backToKw pos (keywordEach kws X.env)).all (·.1.isSome) = true := by rfl)
    (hks : (backToKw pos (keywordEach kws X.env)).filterMap (·.1) = ks := by rfl) (hd : (x == ("__debug__" : Str)) = false := by decide)
    (hp : ((backTo pos (starEach [] X.env)).any (·.1) || (backToKw pos (keywordEach kws X.env)).any (·.1.isNone)) = false := by rfl) : PE X (.Call (.Name x p) [] kws pos) (tCl r tNil tk) := by
  constructor
  intro pins s σ H Q I h
  subst hks
  exact wpAny_Call_Name_kw (ld_glob I hg hm (PySem.W.callWith_KW0 (h₀ := X.base) I.ok.mod.kin hk hall (thn (hkw.run pos pins s σ H _ I h) fun ws s2 ⟨ys, H2, I2, ry, q2⟩ => ⟨I2.kIn, c pins s2 σ H2 [] ys [] ws Q I2 .nil ry q2⟩) hp) hd)
/-- o.m(..): o is an instance of the class at C -/
def tMt (C : Addr) (m : Str) (r : List V → List V → Hp → VK → Prop) (ta : TE) (t tk : TA) : TE := fun σ H Q => ta σ H fun x H1 => ∃ a dx fs, x = .ref a ∧ H1 a = some (.ins C dx fs) ∧ List.lookup m fs = none ∧
  t σ H1 fun xs H2 => tk σ H2 fun ys H3 => r (.ref a :: xs) ys H3 Q
variable {C f : Addr} {pl : Sem Bool}
theorem pm_pos (c : CallV X (.ref f) [] r) (hc : Cls X.K C) (hm : Meth X.K C m f) (ho : PE X o ta) (ha : PA X (e :: es) t) (he : starEach (e :: es) X.env = (false, eval e X.env) :: starEach es X.env := by rfl) (hp : (backTo pos (starEach es X.env)).any (·.1) = false := by rfl)
    (ht : eval (.Call (.Attribute o m apos) (e :: es) [] pos) X.env = (do
      let ov ← eval o X.env
      standAt apos.atName
      let (f, first) ← holding [ov] (getMethod ov m pl)
      callWith pos f first (backTo pos (starEach (e :: es) X.env)) (backToKw pos (keywordEach [] X.env))) := by rfl) : PE X (.Call (.Attribute o m apos) (e :: es) [] pos) (tMt C m r ta t tNil) := by
  constructor
  intro pins s σ H Q I h
  refine PySem.W.methodCall_KW (pl := pl) (thn (ho.run pins s σ H _ I h) ?_) ht
  rintro u s1 ⟨y, H1, I1, ry, a, dx, fs, rfl, ea, l, q⟩
  obtain rfl : u = Value.ref a := ry
  exact getmeth_ok I1 ea hc hm l (PySem.W.callWith_K (first := [.ref a]) (h₀ := X.base) I.ok.mod.kin hm.kp (thn (ha.run pos pins s1 σ H1 _ I1 q) fun us s2 ⟨xs, H2, I2, rx, q2⟩ => ⟨I2.kIn, c pins s2 σ H2 _ [] (.ref a :: us) [] Q I2 (.cons (show RelV (V.ref a) (Value.ref a) from rfl) rx) .nil q2⟩) he hp)
theorem pm_none (c : CallV X (.ref f) [] r) (hc : Cls X.K C) (hm : Meth X.K C m f) (ho : PE X o ta)
    (ht : eval (.Call (.Attribute o m apos) [] [] pos) X.env = (do
      let ov ← eval o X.env
      standAt apos.atName
      let (f, first) ← holding [ov] (getMethod ov m pl)
      callWith pos f first (backTo pos (starEach [] X.env)) (backToKw pos (keywordEach [] X.env))) := by rfl) : PE X (.Call (.Attribute o m apos) [] [] pos) (tMt C m r ta tNil tNil) := by
  constructor
  intro pins s σ H Q I h
  refine PySem.W.methodCall_KW (pl := pl) (thn (ho.run pins s σ H _ I h) ?_) ht
  rintro u s1 ⟨y, H1, I1, ry, a, dx, fs, rfl, ea, l, q⟩
  obtain rfl : u = Value.ref a := ry
  exact getmeth_ok I1 ea hc hm l (PySem.W.callWith_K0 (first := [.ref a]) I1.kIn hm.kp (c pins s1 σ H1 _ [] [.ref a] [] Q I1 (.cons (show RelV (V.ref a) (Value.ref a) from rfl) .nil) .nil q))
theorem pm_kw0 (c : CallV X (.ref f) ks r) (hc : Cls X.K C) (hm : Meth X.K C m f) (ho : PE X o ta) (hkw : PK X kws tk) (hall : (backToKw pos (keywordEach kws X.env)).all (·.1.isSome) = true := by rfl)
    (hks : (backToKw pos (keywordEach kws X.env)).filterMap (·.1) = ks := by rfl)
    (hp : ((backTo pos (starEach [] X.env)).any (·.1) || (backToKw pos (keywordEach kws X.env)).any (·.1.isNone)) = false := by rfl)
    (ht : eval (.Call (.Attribute o m apos) [] kws pos) X.env = (do
      let ov ← eval o X.env
      standAt apos.atName
      let (f, first) ← holding [ov] (getMethod ov m pl)
      callWith pos f first (backTo pos (starEach [] X.env)) (backToKw pos (keywordEach kws X.env))) := by rfl) : PE X (.Call (.Attribute o m apos) [] kws pos) (tMt C m r ta tNil tk) := by
  constructor
  intro pins s σ H Q I h
  subst hks
  refine PySem.W.methodCall_KW (pl := pl) (thn (ho.run pins s σ H _ I h) ?_) ht
  rintro u s1 ⟨y, H1, I1, ry, a, dx, fs, rfl, ea, l, q⟩
  obtain rfl : u = Value.ref a := ry
  exact getmeth_ok I1 ea hc hm l (PySem.W.callWith_KW0 (first := [.ref a]) (h₀ := X.base) I.ok.mod.kin hm.kp hall (thn (hkw.run pos pins s1 σ H1 _ I1 q) fun ws s2 ⟨ys, H2, I2, ry', q2⟩ => ⟨I2.kIn, c pins s2 σ H2 _ ys [.ref a] ws Q I2 (.cons (show RelV (V.ref a) (Value.ref a) from rfl) .nil) ry' q2⟩) hp)
end
end Eld
set_option Elab.async false
set_option maxRecDepth 100000
set_option maxHeartbeats 4000000
set_option linter.all false
namespace Eld
open PySem PySem.Spec PyProof.Rows L2
section
variable {P : Program} {w : World} {K : PySem.W.Frag} {mg mb : Str → Option Value} {CX : CXT} {k : Nat} {fa a : Addr} {fd : FuncData} {x : Str} {sp : Sp} {z : Shared} {vs : List Value} {ns : List Int}
/-- what is wanted of a law's call -/
def LawR (z : Shared) (r : Result) (z' : Shared) : Prop := r = .ok (.ret (.bool true)) ∧ OldK z.heap z'.heap ∧ z'.os = z.os ∧ AllBare z'.gens
/-- from an abstract heap G in which at most the script is told -/
theorem law_fromG (G : Hp) (only : Only G) (here : ∀ b, G b ≠ none → b = a) (notK : G a ≠ none → K.lookup a = none) (seen : SqL K G a (ns.map V.int)) (ok : HOk P w G z.heap)
    (inK : K.In z.heap) (gl : z.heap.Ns mainGlobals mg) (bn : z.heap.Ns builtinsNs mb) (bb : ∀ y : Str, y ≠ "__name__" → mb y = bootBuiltins y) (nolim : z.heap.NoLimit) (gens : z.gens = #[])
    (ha : z.heap.get? a = some { cls := .type "list", data := .seq vs.toArray }) (rm : Room k callerA) (F : ∀ base : Heap, K.In base → base.Ns mainGlobals mg → FnG P w K mg base CX k fa fd [x] sp)
    (bt : ∀ (s : Shared) (u : Value), BindsTo s fd ⟨[u], []⟩ [(x, u)]) (want : sp [.ref a] G (fun v _ => v = .bl true) fun _ _ _ => False) (noErr : ∀ e z', CX [] G z (fun _ _ _ => False) e z' → False) :
    codeAny (model P w) callerA (.call (.ref fa) ⟨[.ref a], []⟩) (LawR z) z := by
  have out : ∀ {b : Addr} {o : Obj}, z.heap.get? b = some o → b ≠ a → G b = none := fun {b o} _ ne => by
    cases q : G b with
    | none => rfl
    | some u => exact absurd (here b (by rw [q]; exact Option.some_ne_none u)) ne
  have off : ∀ {b : Addr} {m : Str → Option Value}, z.heap.Ns b m → (hidT z.heap G).Ns b m := by
    rintro b m ⟨o, es, ep, e, d, r⟩
    have ne : b ≠ a := by
      rintro rfl
      have e' := ha.symm.trans e
      cases e'
      cases d
    exact ⟨o, es, ep, hidT_get e (out e ne), d, r⟩
  have kb : K.In (hidT z.heap G) := by
    intro b o e
    have e1 := inK b o e
    refine hidT_get e1 ?_
    by_cases q : G b = none
    · exact q
    · have eb := here b q
      subst eb
      rw [notK q] at e
      cases e
  obtain ⟨mc, l1, l2⟩ := nolim
  have md : Mod K mg (hidT z.heap G) := ⟨kb, off gl, ⟨mb, off bn, bb⟩, ⟨mc, off l1, l2⟩⟩
  have env : Env0 P w K mg (hidT z.heap G) callerA [] z G :=
    { frames := rfl, mod := md, bs := fun b o e => of_hidT e, bsz := Nat.le_of_eq (hidT_size _ _), funs := trivial, frf := fun b hb => (List.not_mem_nil hb).elim, hok := ok, bare := .of_eq gens }
  refine codeAny_mono ((F _ kb (off gl)).run callerA [] z G ⟨[.ref a], []⟩ [.ref a] [.ref a] _ _ rfl rm env (bt z (.ref a)) (.cons rfl .nil) want) ?_
  intro r z' q
  match r, q with
  | .error e, q => exact (noErr e z' q).elim
  | .ok (.ret u), ⟨v, G', os, bare, un, ok', rv, q⟩ =>
    cases (show v = .bl true from q)
    cases (show u = Value.bool true from rv)
    refine ⟨rfl, OldK.of_keep ?_, os, bare⟩
    intro b o e
    rcases only b with n | ⟨ob, xs, n⟩
    · exact un.keep b o e n (fun h => (List.not_mem_nil h).elim) (fun h => (List.not_mem_nil h).elim)
    · have e1 := (ok b _ n).1
      have e2 := (ok' b _ (un.frzs b ob _ n)).1
      exact e2.trans (e1.symm.trans e)
theorem law_callG (inK : K.In z.heap) (gl : z.heap.Ns mainGlobals mg) (bn : z.heap.Ns builtinsNs mb) (bb : ∀ y : Str, y ≠ "__name__" → mb y = bootBuiltins y) (nolim : z.heap.NoLimit) (gens : z.gens = #[])
    (ha : z.heap.get? a = some { cls := .type "list", data := .seq vs.toArray }) (hi : IntsAre vs ns) (hl : ns.length ≤ sizeLine) (rm : Room k callerA)
    (F : ∀ base : Heap, K.In base → base.Ns mainGlobals mg → FnG P w K mg base CX k fa fd [x] sp) (bt : ∀ (s : Shared) (u : Value), BindsTo s fd ⟨[u], []⟩ [(x, u)])
    (want : ∀ G : Hp, Only G → SqL K G a (ns.map V.int) → sp [.ref a] G (fun v _ => v = .bl true) fun _ _ _ => False) (noErr : ∀ G e z', CX [] G z (fun _ _ _ => False) e z' → False) :
    codeAny (model P w) callerA (.call (.ref fa) ⟨[.ref a], []⟩) (LawR z) z := by
  have rv := vals_ints hi
  have small : (ns.map V.int).length ≤ sizeLine := by rw [List.length_map]; exact hl
  cases hk : K.lookup a with
  | none =>
    let ob : Obj := { cls := .type "list", data := .seq vs.toArray }
    let G : Hp := fun b => if b = a then some (.frz ob (.lst (ns.map V.int))) else none
    have ga : G a = some (.frz ob (.lst (ns.map V.int))) := if_pos rfl
    have gn : ∀ b, b ≠ a → G b = none := fun b h => if_neg h
    have only : Only G := fun b => (Classical.em (b = a)).elim (fun h => .inr ⟨ob, _, h ▸ ga⟩) fun h => .inl (gn b h)
    have seen : SqL K G a (ns.map V.int) := .inl (.inr ⟨ob, ga⟩)
    refine law_fromG G only (fun b h => Classical.byContradiction fun n => h (gn b n)) (fun _ => hk) seen ?_ inK gl bn bb nolim gens ha rm F bt (want G only seen) (noErr G)
    intro b u e
    by_cases h : b = a
    · subst h
      rw [ga] at e
      cases e
      exact ⟨ha, small, vs, _, rv, ha⟩
    · rw [gn b h] at e
      cases e
  | some o =>
    have e := inK a o hk
    rw [ha] at e
    cases e
    have seen : SqL K (fun _ => none) a (ns.map V.int) := .inr ⟨_, vs.toArray, _, hk, rfl, rfl, rfl, by rw [List.size_toArray, hi.length]; exact hl, by simpa using rv⟩
    exact law_fromG (fun _ => none) (fun _ => .inl rfl) (fun _ h => absurd rfl h) (fun h => absurd rfl h) seen (fun _ _ e => by cases e) inK gl bn bb nolim gens ha rm F bt (want _ (fun _ => .inl rfl) seen) (noErr _)
end
/-- the goal that the head leaves -/
theorem walk_G {l : PySem.W.OpenLaw} {n k : Nat} {q : Program} {loose : List Str} {XP : (Str → Option Value) → Heap → Prop} {YP : World → Heap → Prop} {d : DefRec} {K : Params → PySem.W.Frag} {sp : PySem.W.Frag → Sp} {x : Str}
    (hn : l.most = some n) (n2 : n ≤ sizeLine) (hd : d.params.defaults = []) (rm : Room k callerA) (hY : ∀ (w : World) (h : Heap), YP w h → (K w.params).In h)
    (F : ∀ (w : World) (mg : Str → Option Value) (fa : Addr) (h : Heap), (K w.params).In h → h.Ns mainGlobals mg → mg d.name = some (.ref fa) →
      ∃ fd : FuncData, (∀ (s : Shared) (u : Value), BindsTo s fd ⟨[u], []⟩ [(x, u)]) ∧ ∀ base : Heap, (K w.params).In base → base.Ns mainGlobals mg → FnG l.prog w (K w.params) mg base CX0 k fa fd [x] (sp (K w.params)))
    (want : ∀ (w : World) (G : Hp) (a : Addr) (ns : List Int), ns.length ≤ n → SqL (K w.params) G a (ns.map V.int) → sp (K w.params) [.ref a] G (fun v _ => v = .bl true) fun _ _ _ => False) :
    PySem.W.WalkO q loose XP YP l.row.toRowW d [] (fun f vs => PySem.call f vs) := by
  refine Att.attach_call hn hd ?_
  intro w s₀ s₁ mg mb fa o pm cd doc a vs ns G Y ho hdt hcd hmg hobj hints hlen hg
  obtain ⟨fd, hb, hF⟩ := F w mg fa _ (hY w _ Y) G.T.g hmg
  exact law_callG (CX := CX0) (hY w _ Y) G.T.g G.T.b G.T.builtins G.T.nolimit hg hobj hints (Nat.le_trans hlen n2) rm hF hb (fun G _ h => want w G a ns hlen h) fun _ _ _ h => h.elim
end Eld
set_option Elab.async false
set_option maxRecDepth 100000
set_option maxHeartbeats 4000000
set_option linter.all false
namespace Eld
open PySem PySem.Spec PyProof.Rows L2
section
variable {X : Cx}
/-! ### repr of lists and tuples of data -/
def rReprD (K : PySem.W.Frag) : List V → Hp → VK → Prop := fun xs H Q => ∃ a d, xs = [.ref a] ∧ Dp K H (.ref a) d ∧ d.showable = true ∧ d.hasDict = false ∧ d.depth ≤ 60 ∧ d.shown.length ≤ sizeLine ∧ Q (.str d.shown) H
theorem call_reprD (hG : X.A.guards = some []) (hu : X.A.units + 64 < cLine) : CallR X (.builtin "repr") (rReprD X.K) := by
  rintro pins s σ H xs us Q I r ⟨a, d, rfl, dp, sh, nd, dd, sz, q⟩
  obtain ⟨u, rfl, ru⟩ := vals1 r
  obtain ⟨as, rd⟩ := Dp.reads I d _ u dp ru
  cases ru
  exact repr_of_reads' rd sh (PyData.noDict_hsm nd) hG (by omega) (fun _ _ e => e) (fun h' u tk hk => ⟨.str d.shown, H, I.kept hk, ⟨_, rfl⟩, q⟩) sz
/-! ### t.index(x), t a tuple of data -/
def rTupIx (K : PySem.W.Frag) : V → List V → Hp → VK → Prop := fun x xs H Q => ∃ (a : Addr) (y : V) (d z : PyData) (ds : List PyData) (j : Nat), x = .ref a ∧ xs = [y] ∧ Dp K H (.ref a) (.tuple ds) ∧ Dp K H y d ∧
  SeqAt.shaped (.tuple ds) = true ∧ SeqAt.shaped d = true ∧ ds[j]? = some z ∧ PyData.eqv z d = true ∧ (∀ (m : Nat) (z' : PyData), m < j → ds[m]? = some z' → PyData.eqv z' d = false) ∧ Q (.int (j : Nat)) H
theorem mt_tupIx (hu : X.A.units + 65 < cLine) : MtR X "tuple.index" (rTupIx X.K) := by
  rintro pins s σ H x xs v us Q I rx rxs ⟨a, y, d, z, ds, j, rfl, rfl, hl, hy, sl, sd, hz, hit, hno, q⟩
  cases rx
  obtain ⟨uy, rfl, ry⟩ := vals1 rxs
  obtain ⟨bs, r1⟩ := Dp.reads I d y uy hy ry
  have lay : PyData.canLayAll0 ds = true := by
    have := SeqAt.canLay_of_shaped sl
    simpa only [PyData.canLay0] using this
  have room : X.A.units + 1 + min (PyData.depthAll ds) d.depth < cLine := by
    have h1 : d.depth ≤ 64 := by
      have h := sd
      simp only [SeqAt.shaped, Bool.and_eq_true, decide_eq_true_eq] at h
      exact h.2
    have h2 : min (PyData.depthAll ds) d.depth ≤ d.depth := Nat.min_le_right _ _
    omega
  cases hl with
  | tup hs ha =>
    obtain ⟨its, rv, ⟨⟨cls, dd, data, sls⟩, ho, hc, n, hdt⟩, hlen⟩ := I.tuple hs
    simp only at hc hdt
    subst hc hdt
    obtain ⟨as, h4⟩ := Dp.readsAll I ds _ its ha rv
    have hn : its.length = ds.length := SeqAt.ReadsAll.length ds its as h4
    have hmap : its.map (SeqAt.readOf s.heap) = ds := SeqAt.readsAll_map ds its as lay h4
    have hjd : j < ds.length := (List.getElem?_eq_some_iff.mp hz).1
    have at_ : ∀ (m : Nat) (hm : m < its.toArray.size) (z' : PyData), ds[m]? = some z' → SeqAt.readOf s.heap its.toArray[m] = z' := by
      intro m hm z' hz'
      have hml : m < its.length := by simpa using hm
      rw [← hmap, List.getElem?_map, List.getElem?_eq_getElem hml] at hz'
      simpa using hz'
    refine call_meets F.slot_tuple_index ⟨_, ho, rfl⟩ F.entry_tuple_index (F.args_tuple_index_2 _ _)
      (SeqAt.tuple_index2_found a its.toArray n dd sls uy (fun m => if hm : m < its.toArray.size then PyData.eqv (SeqAt.readOf s.heap its.toArray[m]) d else false) j (by simpa [hn] using hjd) (Nat.zero_le _) (by simpa [hn] using hjd) ?_ ?_) ⟨ho, fun m hm => ?_, ?_⟩
    · have hj' : j < its.toArray.size := by simpa [hn] using hjd
      rw [dif_pos hj', at_ j hj' z hz]
      exact hit
    · intro m hm _ hmj
      have hmd : m < ds.length := Nat.lt_trans hmj hjd
      rw [dif_pos hm, at_ m hm _ (List.getElem?_eq_getElem hmd)]
      exact hno m _ hmj (List.getElem?_eq_getElem hmd)
    · rw [dif_pos hm]
      exact SeqAt.items_eqAt (vs := its.toArray) (show ReadsAll s.heap its.toArray.toList ds as from h4) r1 lay (SeqAt.canLay_of_shaped sd) room _ (Array.getElem_mem hm)
    · exact ⟨.int (j : Nat), H, I.tok _, ⟨_, rfl⟩, q⟩
end
/-! ### ==, != and len of an own class -/
section
variable {X : Cx} {CX : CXT} {k : Nat} {f C : Addr} {fd : FuncData} {ps : List Str} {sp : Sp} {E : XK}
def rOwnC (K : PySem.W.Frag) (C : Addr) (sp : Sp) (E : XK) : R2 := fun x y H Q => ∃ a dx fs t, x = .ref a ∧ H a = some (.ins C dx fs) ∧ TyX K H y t ∧ PySem.W.notFirst K C t = true ∧ sp [x, y] H Q E
theorem run_own {B : Around} {pins : List (Addr × Obj)} {s : Shared} {σ : L2.St} {H : Hp} {a : Addr} {y : V} {u : Value} {Q : VK} (F : FnG X.prog X.w X.K X.mg X.base CX k f fd ps sp) (hb : Binds X.K fd ps []) (hx : Passes CX X E)
    (hf : B.frames = X.A.frames) (hG : B.guards = some []) (hr : Room k B) (I : Inv X pins σ H s) (ry : RelV y u) (h : sp [.ref a, y] H Q E) : wpAny (model X.prog X.w) B (call (.ref f) [.ref a, u]) (EP X pins σ Q) X.xe s := by
  have e0 := I.env0
  have e1 : Env0 X.prog X.w X.K X.mg X.base B X.stack s H := ⟨hf.trans e0.frames, e0.mod, e0.bs, e0.bsz, e0.funs, e0.frf, e0.hok, e0.bare⟩
  have rv : Vals [V.ref a, y] [Value.ref a, u] := .cons rfl (.cons ry .nil)
  have ln : ([Value.ref a, u] ++ ([] : List Value)).length = ps.length := F.len _ _ _ _ h
  refine wpAny_call (codeAny_mono (F.run B X.stack s H ⟨[.ref a, u], []⟩ ([.ref a, u] ++ []) [.ref a, y] Q E hG hr e1 (hb s [.ref a, u] I.kIn ln) rv h) ?_)
  intro res s' hq
  match res, hq with
  | .error e, hq => exact hx pins σ H s e s' I hq
  | .ok (.ret w), hq => exact I.after hq
theorem op_ownEq (F : FnG X.prog X.w X.K X.mg X.base CX k f fd ps sp) (hb : Binds X.K fd ps []) (hx : Passes CX X E) (hs : PySem.W.findIn X.K (.ref C) "__eq__" = some (some (.ref f))) (hf : PySem.W.isFn X.K (.ref f) = true)
    (hG : X.A.guards = some []) (hr : Room k X.A) : OpR X (compareOp .Eq) (rOwnC X.K C sp E) := by
  rintro pins s σ H x y v u Q I rx ry ⟨a, dx, fs, t, rfl, ea, ty, nf, h⟩
  cases rx
  obtain ⟨mA, J, _⟩ := ins_get I.hok ea
  obtain ⟨od, J, _⟩ := J.look
  obtain ⟨G, Z, p, _⟩ := kit_of I ry ty
  obtain ⟨m, hF⟩ := I.fr
  show wpAny (model X.prog X.w) X.A (richCompare .Eq (.ref a) u) (EP X pins σ Q) X.xe s
  refine PySem.W.cmp_K (op := .Eq) hr.units0 hF I.ok.mod.kin J (Z.ty _ _ I.kIn p) nf hs hf (thn (run_own F hb hx rfl hG hr I ry h) ?_)
  rintro w s' ⟨z, H', I', rz, q⟩
  cases z with
  | non => cases rz; exact ⟨.non, H', I', rfl, q⟩
  | bl b => cases rz; exact ⟨.bl b, H', I', rfl, q⟩
  | int i => obtain ⟨t, rfl⟩ := rz; exact ⟨.int i, H', I', ⟨t, rfl⟩, q⟩
  | str i => obtain ⟨t, rfl⟩ := rz; exact ⟨.str i, H', I', ⟨t, rfl⟩, q⟩
  | byt i => obtain ⟨t, rfl⟩ := rz; exact ⟨.byt i, H', I', ⟨t, rfl⟩, q⟩
  | flt i => obtain ⟨t, rfl⟩ := rz; exact ⟨.flt i, H', I', ⟨t, rfl⟩, q⟩
  | ref i => cases rz; exact ⟨.ref i, H', I', rfl, q⟩
  | ty i => cases rz; exact ⟨.ty i, H', I', rfl, q⟩
/-- len(x), x of an own class -/
def rOwnLen (C : Addr) (sp : Sp) (E : XK) : List V → Hp → VK → Prop := fun xs H Q => ∃ a dx fs, xs = [.ref a] ∧ H a = some (.ins C dx fs) ∧ sp [.ref a] H (fun v G => ∃ n : Int, v = .int n ∧ 0 ≤ n ∧ n < 2 ^ 63 ∧ Q (.int n) G) E
theorem call_ownLen (F : FnG X.prog X.w X.K X.mg X.base CX k f fd ps sp) (hb : Binds X.K fd ps []) (hx : Passes CX X E) (hs : PySem.W.findIn X.K (.ref C) "__len__" = some (some (.ref f))) (hf : PySem.W.isFn X.K (.ref f) = true)
    (hG : X.A.guards = some []) (hr : Room (k + 1) X.A) : CallR X (.builtin "len") (rOwnLen C sp E) := by
  rintro pins s σ H xs us Q I r ⟨a, dx, fs, rfl, ea, h⟩
  obtain ⟨u, rfl, ru⟩ := vals1 r
  cases ru
  obtain ⟨mA, J, _⟩ := ins_get I.hok ea
  obtain ⟨od, J, _⟩ := J.look
  obtain ⟨m, hF⟩ := I.fr
  have e0 := I.env0
  have e1 : Env0 X.prog X.w X.K X.mg X.base X.A.in1 X.stack s H := e0.in1
  have rv : Vals [V.ref a] [Value.ref a] := .cons rfl .nil
  have ln : ([Value.ref a] ++ ([] : List Value)).length = ps.length := F.len _ _ _ _ h
  refine PySem.W.len_K hF I.ok.mod.kin J hs hf (wpAny_call (codeAny_mono (F.run X.A.in1 X.stack s H ⟨[.ref a], []⟩ ([.ref a] ++ []) [.ref a] _ E (in1_guards hG) hr.in1 e1 (hb s [.ref a] I.kIn ln) rv h) ?_))
  intro res s' hq
  match res, hq with
  | .error e, hq => exact hx pins σ H s e s' I hq
  | .ok (.ret w), hq =>
    obtain ⟨v, G, I', rv', n, rfl, h0, h1, q⟩ := I.after hq
    obtain ⟨t, rfl⟩ := rv'
    exact ⟨⟨h0, h1⟩, .int n, G, I'.tok _, ⟨_, rfl⟩, q⟩
/-- x != y, x of an own class with == alone -/
def rOwnNe (K : PySem.W.Frag) (C : Addr) (sp : Sp) (E : XK) : R2 := fun x y H Q => ∃ a dx fs t, x = .ref a ∧ H a = some (.ins C dx fs) ∧ TyX K H y t ∧ PySem.W.notFirst K C t = true ∧ sp [x, y] H (fun v G => ∃ b : Bool, v = .bl b ∧ Q (.bl (!b)) G) E
theorem slot_ne_bind (v : Value) : bindSpecial (.builtin "object.__ne__") v = pure (.builtin "object.__ne__", [v]) := by
  exact PySem.F.cmp_object.ne.bind v
theorem op_ownNe (F : FnG X.prog X.w X.K X.mg X.base CX k f fd ps sp) (hb : Binds X.K fd ps []) (hx : Passes CX X E) (hs : PySem.W.findIn X.K (.ref C) "__eq__" = some (some (.ref f))) (hf : PySem.W.isFn X.K (.ref f) = true)
    (hn : PySem.W.findIn X.K (.ref C) "__ne__" = some (some (.builtin "object.__ne__"))) (ho : PySem.W.subIn X.K (.ref C) (.type "object") = some true)
    (hG : X.A.guards = some []) (hr : Room (k + 1) X.A) : OpR X (compareOp .NotEq) (rOwnNe X.K C sp E) := by
  rintro pins s σ H x y v u Q I rx ry ⟨a, dx, fs, t, rfl, ea, ty, nf, h⟩
  cases rx
  obtain ⟨mA, J, _⟩ := ins_get I.hok ea
  obtain ⟨od, J, _⟩ := J.look
  obtain ⟨G, Z, p, _⟩ := kit_of I ry ty
  have inK := I.kIn
  have tl := Z.ty (model X.prog X.w) _ I.kIn p
  -- what == tells, turned
  have back : wpAny (model X.prog X.w) X.A.in1 (call (.ref f) [.ref a, u]) (fun r s' => ∃ b : Bool, r = .bool b ∧ EP X pins σ Q (.bool (!b)) s') X.xe s := by
    refine thn (run_own F hb hx rfl (in1_guards hG) hr.in1 I ry h) ?_
    rintro w s' ⟨z, H', I', rz, b, rfl, q⟩
    cases rz
    exact ⟨b, rfl, .bl (!b), H', I', rfl, q⟩
  have body : wpAny (model X.prog X.w) X.A.in1 (Builtin.«object.__ne__» ⟨[.ref a, u], []⟩) (fun fin s' => ∃ b : Bool, fin = .done (.ret (.bool b)) ∧ EP X pins σ Q (.bool b) s') X.xe s := by
    unfold Builtin.«object.__ne__»
    have hu : X.A.in1.units < cLine := hr.in1.units0
    repeat (first
      | with_reducible refine wpAny_cRoomFor hu ?_
      | (refine wpAny_bind (m := callSpecialIfBound? (.ref a) (Str.ofString "__eq__") [u]) (PySem.W.ifBound_K inK J hs hf (wpAny_mono back (fun r s' hr => by
          obtain ⟨b, rfl, q⟩ := hr
          repeat (first | exact ⟨_, rfl, q⟩ | exact wpAny_pure ⟨_, rfl, q⟩ | exact wpAny_truthy_bool ⟨_, rfl, q⟩ | (refine wpAny_bind (m := truthy (.bool _)) (wpAny_truthy_bool ?_)) | wp_step)) fun _ _ e => e)))
      | wp_step)
  have callNe : wpAny (model X.prog X.w) X.A (call (.builtin "object.__ne__") [.ref a, u]) (fun r s' => ∃ b : Bool, r = .bool b ∧ EP X pins σ Q (.bool b) s') X.xe s := by
    refine wpAny_call (codeAny_call_builtin PySem.F.cmp_object.ne.plain PySem.F.cmpEntry_ne (PySem.W.check_slot PySem.F.cmpKind_ne PySem.F.cmpSplit_ne (J.type.andThen (PySem.W.looks_subIn inK ho)) (PySem.F.cmpArgs_ne _ _) (wpAny_mono body ?_ fun _ _ e => e)))
    rintro fin s' ⟨b, rfl, q⟩
    exact ⟨b, rfl, q⟩
  have bound : wpAny (model X.prog X.w) X.A (callSpecialIfBound? (.ref a) (Str.ofString "__ne__") [u]) (fun r s' => ∃ b : Bool, r = some (.bool b) ∧ EP X pins σ Q (.bool b) s') X.xe s := by
    simp only [callSpecialIfBound?, bindSpecialIfBound?]
    refine wpAny_holding (wpAny_bind (wpAny_bind (wpAny_bind (J.type.here ((PySem.W.looks_findIn inK hn).here ?_)))))
    have fin : wpAny (model X.prog X.w) X.A (call (.builtin "object.__ne__") ([.ref a] ++ [u]) >>= fun v => pure (some v)) (fun r s' => ∃ b : Bool, r = some (.bool b) ∧ EP X pins σ Q (.bool b) s') X.xe s :=
      wpAny_bind (wpAny_mono callNe (fun r s' ⟨b, e, q⟩ => wpAny_pure ⟨b, by rw [e], q⟩) fun _ _ e => e)
    refine wpAny_bind (wpAny_askSetting (wpAny_ite ?_))
    split
    · refine wpAny_bind ?_
      rw [slot_ne_bind]
      exact wpAny_pure (wpAny_pure (by exact fin))
    · refine wpAny_tryCatch (wpAny_bind ?_)
      rw [slot_ne_bind]
      exact wpAny_pure (wpAny_pure (by exact fin))
  have one : wpAny (model X.prog X.w) X.A (tryCompare (.ref a) (Str.ofString "__ne__") u) (fun r s' => ∃ b : Bool, r = some (.bool b) ∧ EP X pins σ Q (.bool b) s') X.xe s := by
    unfold tryCompare
    exact wpAny_bind (wpAny_mono bound (fun r s' ⟨b, e, q⟩ => by subst e; exact wpAny_pure ⟨b, rfl, q⟩) fun _ _ e => e)
  show wpAny (model X.prog X.w) X.A (richCompare .NotEq (.ref a) u) (EP X pins σ Q) X.xe s
  unfold richCompare
  simp only [oneThing_ref]
  refine wpAny_holding (wpAny_bind (wpAny_cRoomFor hr.units0 ?_))
  refine wpAny_bind (J.type.here (wpAny_bind (tl.here ?_)))
  split
  · rename_i q
    have e : PySem.W.subIn X.K t (.ref C) = some false := by
      rcases Bool.or_eq_true_iff.mp nf with e | e
      · rw [beq_iff_eq.mp e] at q
        simp at q
      · exact beq_iff_eq.mp e
    refine wpAny_bind ((PySem.W.looks_subIn inK e).here ?_)
    simp only [Bool.false_eq_true, if_false]
    refine wpAny_bind (wpAny_mono one ?_ fun _ _ e => e)
    rintro r s' ⟨b, rfl, hq⟩
    exact wpAny_pure hq
  · refine wpAny_bind (wpAny_pure ?_)
    simp only [Bool.false_eq_true, if_false]
    refine wpAny_bind (wpAny_mono one ?_ fun _ _ e => e)
    rintro r s' ⟨b, rfl, hq⟩
    exact wpAny_pure hq
end
end Eld
set_option Elab.async false
set_option maxRecDepth 100000
set_option maxHeartbeats 4000000
set_option linter.all false
namespace Eld
open PySem PySem.Spec PyProof.Rows L2
/-! ## + - * and the minus of an own class -/
section
variable {X : Cx} {CX : CXT} {k : Nat} {f g C : Addr} {fd : FuncData} {ps : List Str} {sp : Sp} {E : XK}
theorem ep_back {pins : List (Addr × Obj)} {σ : L2.St} {Q : VK} {w : Value} {s' : Shared} (h : EP X pins σ Q w s') : PySem.W.CmpBack (EP X pins σ Q) w s' := by
  obtain ⟨z, H', I', rz, q⟩ := h
  cases z with
  | non => cases rz; exact ⟨.non, H', I', rfl, q⟩
  | bl b => cases rz; exact ⟨.bl b, H', I', rfl, q⟩
  | int i => obtain ⟨t, rfl⟩ := rz; exact ⟨.int i, H', I', ⟨t, rfl⟩, q⟩
  | str i => obtain ⟨t, rfl⟩ := rz; exact ⟨.str i, H', I', ⟨t, rfl⟩, q⟩
  | byt i => obtain ⟨t, rfl⟩ := rz; exact ⟨.byt i, H', I', ⟨t, rfl⟩, q⟩
  | flt i => obtain ⟨t, rfl⟩ := rz; exact ⟨.flt i, H', I', ⟨t, rfl⟩, q⟩
  | ref i => cases rz; exact ⟨.ref i, H', I', rfl, q⟩
  | ty i => cases rz; exact ⟨.ty i, H', I', rfl, q⟩
/-- what the written part says of an operator of the class at C: its def at f, the turned one at g -/
structure OwnOp (K : PySem.W.Frag) (C : Addr) (op : Operator) (f g : Addr) : Prop where
  first : PySem.W.selfFirst K C = true
  at_ : PySem.W.findIn K (.ref C) (PySem.dunder op.info.2) = some (some (.ref f))
  fn : PySem.W.isFn K (.ref f) = true
  rat : PySem.W.findIn K (.ref C) (PySem.dunderR op.info.2) = some (some (.ref g))
  rfn : PySem.W.isFn K (.ref g) = true
  ia : ∃ fo, PySem.W.findIn K (.type "int") (PySem.dunder op.info.2) = some fo
  ir : ∃ ro, PySem.W.findIn K (.type "int") (PySem.dunderR op.info.2) = some ro
  ci : PySem.W.subIn K (.type "int") (.ref C) = some false
  ic : PySem.W.subIn K (.ref C) (.type "int") = some false
/-- x op y, x of the class at C, y an integer or of the same class -/
def rOwnOp (C : Addr) (sp : Sp) (E : XK) : R2 := fun x y H Q => ∃ a dx fs, x = .ref a ∧ H a = some (.ins C dx fs) ∧ ((∃ i, y = .int i) ∨ ∃ b dy gs, y = .ref b ∧ H b = some (.ins C dy gs)) ∧ sp [x, y] H Q E
theorem op_ownOp {op : Operator} (O : OwnOp X.K C op f g) (F : FnG X.prog X.w X.K X.mg X.base CX k f fd ps sp) (hb : Binds X.K fd ps []) (hx : Passes CX X E) (hG : X.A.guards = some []) (hr : Room k X.A) : OpR X (binaryOp op) (rOwnOp C sp E) := by
  rintro pins s σ H x y v u Q I rx ry ⟨a, dx, fs, rfl, ea, hy, h⟩
  cases rx
  obtain ⟨mA, J, _⟩ := ins_get I.hok ea
  obtain ⟨od, J, _⟩ := J.look
  obtain ⟨m, hF⟩ := I.fr
  have go : wpAny (model X.prog X.w) X.A (call (.ref f) [.ref a, u]) (PySem.W.CmpBack (EP X pins σ Q)) X.xe s := thn (run_own F hb hx rfl hG hr I ry h) fun w s' q => ep_back q
  rcases hy with ⟨i, rfl⟩ | ⟨b, dy, gs, rfl, eb⟩
  · obtain ⟨t, rfl⟩ := ry
    obtain ⟨fo, h1⟩ := O.ia
    obtain ⟨ro, h2⟩ := O.ir
    exact PySem.W.ksp_binT hF I.ok.mod.kin J rfl O.first O.at_ O.fn O.rat (.inr ⟨g, rfl⟩) h1 h2 O.ci go
  · cases ry
    obtain ⟨mB, J2, _⟩ := ins_get I.hok eb
    obtain ⟨od2, J2, _⟩ := J2.look
    exact PySem.W.binop_K hF I.ok.mod.kin J J2.type O.first O.at_ O.fn go
end
end Eld
set_option Elab.async false
set_option maxRecDepth 100000
set_option maxHeartbeats 4000000
set_option linter.all false
namespace Eld
open PySem PySem.Spec PyProof.Rows L2
theorem int_declines {M : Model} {A : Around} {E : Value → Shared → Prop} {s : Shared} {nm : String} {fn : Int → Int → Sem Fin} {i : Int} {t : Tok} {y : Addr} {o : Obj} {Q : Fin → Shared → Prop} (ho : s.heap.get? y = some o) (hd : o.data = .plain)
    (h : Q (.done (.ret .notImplemented)) s) : wpAny M A (PySem.Builtin.Int.intBinary nm fn false ⟨[.int i t, .ref y], []⟩) Q E s := by
  unfold PySem.Builtin.Int.intBinary PySem.slotArgs PySem.Builtin.Int.intOfSelf
  simp only [List.isEmpty_nil, Bool.not_true, Bool.false_eq_true, if_false, List.length_cons, List.length_nil, asInt?, pure_bind, List.headD_cons, bne_self_eq_false]
  refine wpAny_bind (wpAny_bind (wpAny_load ho ?_))
  rw [hd]
  repeat wp_step
  exact h
section
variable {X : Cx} {CX : CXT} {k : Nat} {f g C : Addr} {fd : FuncData} {ps : List Str} {sp : Sp} {E : XK}
open PySem.W in
theorem binop_R {prog : Program} {w : World} {A : Around} {EE : Value → Shared → Prop} {K : Frag} {h₀ : Heap} {L : Addr} {m : Str → Option Value} {y : Addr} {oy : Obj} {od : Option Obj} {op : Operator} {i : Int} {t : Tok} {id : String} {B : Builtin} {s : Shared} {Q : Value → Shared → Prop} (F : Fr h₀ L s.heap m) (X₀ : K.In h₀) (I : InstAt s.heap y oy C od)
    (hd : oy.data = .plain) (O : OwnOp K C op f g) (fl : fillsNumberSlot (.type "int") op.info.2 = pure true) (sl : Slot "int" (PySem.dunder op.info.2) id) (en : entryFor table id = some B) (ar : argsOk id ⟨[.int i t, .ref y], []⟩)
    (dec : ∀ (A : Around) (E : Value → Shared → Prop) (s : Shared) (Q : Fin → Shared → Prop), s.heap.get? y = some oy → Q (.done (.ret .notImplemented)) s → wpAny (model prog w) A (B ⟨[.int i t, .ref y], []⟩) Q E s)
    (h : wpAny (model prog w) A (call (.ref g) [.ref y, .int i t]) (PySem.W.CmpBack Q) EE s) : wpAny (model prog w) A (binaryOp op (.int i t) (.ref y)) Q EE s := by
  have X := X₀.keeps F.keep
  obtain ⟨cd, rest, hcd, hm⟩ := ksp_first O.first
  have hs := O.at_
  have hr := O.rat
  have ic := O.ic
  rcases hi : op.info with ⟨sym, nm'⟩
  rw [hi] at hs hr fl sl
  dsimp only at hs hr fl sl
  have two := ksp_try X I hr O.rfn h
  have L1 : Looks (model prog w) s.heap (typeOf (.int i t)) (.type "int") := Looks.of_pure rfl
  have L2 : Looks (model prog w) s.heap (typeOf (.ref y)) (.ref C) := I.type
  have L3 : Looks (model prog w) s.heap (fillsNumberSlot (.type "int") nm') true := Looks.of_pure fl
  have L4 : Looks (model prog w) s.heap (fillsNumberSlot (.ref C) nm') true := fills_K X hcd hm hs
  have L5 : Looks (model prog w) s.heap (isSubtype (.ref C) (.type "int")) false := looks_subIn X ic
  have L6 : Looks (model prog w) s.heap (numberSlotInPython (.type "int") nm') false := Looks.of_pure rfl
  have hne : (Value.type "int" == Value.ref C) = false := Bool.eq_false_iff.mpr fun q => by cases beq_iff_eq.mp q
  have one : wpAny (model prog w) A (tryMethod (.int i t) (PySem.dunder nm') (.ref y)) (fun r s' => r = none ∧ s' = s) EE s := by
    refine wpAny_tryMethod_declines (typeIs_int s i t) sl (wpAny_call_entry sl (typeIs_int s i t) en ?_ ar)
    exact dec _ _ _ _ I.at_ ⟨_, rfl, rfl, rfl, rfl⟩
  simp only [binaryOp, hi]
  refine wpAny_holding (wpAny_bind ?_)
  unfold binaryOp1
  refine wpAny_bind (L1.here (wpAny_bind (L2.here (wpAny_bind (L3.here ?_)))))
  simp only [hne, Bool.false_eq_true, if_false]
  refine wpAny_bind (L4.here ?_)
  simp only [Bool.and_self, if_true]
  refine wpAny_bind (L5.here ?_)
  simp only [Bool.false_eq_true, if_false, pure_bind, Bool.not_false, Bool.and_self, if_true]
  refine wpAny_bind (L6.here ?_)
  simp only [Bool.false_eq_true, if_false, pure_bind, Bool.not_false, Bool.and_self, if_true]
  refine wpAny_bind (wpAny_mono one (fun r s' hr' => ?_) fun _ _ e => e)
  obtain ⟨rfl, rfl⟩ := hr'
  simp only [Bool.false_eq_true, if_false, pure_bind, Bool.not_false, Bool.and_self, if_true]
  refine wpAny_bind (wpAny_mono two (fun r s' hr' => ?_) fun _ _ e => e)
  obtain ⟨v, rfl, hq⟩ := hr'
  dsimp only
  refine wpAny_bind (wpAny_rule ?_)
  exact wpAny_pure (wpAny_pure hq)
end
end Eld
set_option Elab.async false
set_option maxRecDepth 100000
set_option maxHeartbeats 4000000
set_option linter.all false
namespace Eld
open PySem PySem.Spec PyProof.Rows L2
section
variable {X : Cx} {CX : CXT} {k : Nat} {f g C : Addr} {fd : FuncData} {ps : List Str} {sp : Sp} {E : XK}
/-- what a built-in int's operator is, and that it declines an instance -/
structure IntOp (op : Operator) : Prop where
  fills : fillsNumberSlot (.type "int") op.info.2 = pure true
  ex : ∃ (id : String) (B : Builtin), Slot "int" (PySem.dunder op.info.2) id ∧ entryFor table id = some B ∧ (∀ i t y, argsOk id ⟨[.int i t, .ref y], []⟩) ∧
    ∀ (M : Model) (A : Around) (E : Value → Shared → Prop) (s : Shared) (Q : Fin → Shared → Prop) (i : Int) (t : Tok) (y : Addr) (o : Obj), s.heap.get? y = some o → o.data = .plain → Q (.done (.ret .notImplemented)) s → wpAny M A (B ⟨[.int i t, .ref y], []⟩) Q E s
theorem intAdd : IntOp .Add := ⟨PySem.F.fills_int_add, _, _, PySem.F.slot_int_add, PySem.F.entry_int_add, fun _ _ _ => PySem.F.args_int_add_2 _ _, fun _ _ _ _ _ _ _ _ _ ho hd h => int_declines ho hd h⟩
theorem intSub : IntOp .Sub := ⟨PySem.F.fills_int_sub, _, _, PySem.F.slot_int_sub, PySem.F.entry_int_sub, fun _ _ _ => PySem.F.args_int_sub_2 _ _, fun _ _ _ _ _ _ _ _ _ ho hd h => int_declines ho hd h⟩
theorem intMul : IntOp .Mult := ⟨PySem.F.fills_int_mul, _, _, PySem.F.slot_int_mul, PySem.F.entry_int_mul, fun _ _ _ => PySem.F.args_int_mul_2 _ _, fun _ _ _ _ _ _ _ _ _ ho hd h => int_declines ho hd h⟩
/-- x op y, x an integer, y of the class at C -/
def rOwnR (C : Addr) (sp : Sp) (E : XK) : R2 := fun x y H Q => ∃ i b dx fs, x = .int i ∧ y = .ref b ∧ H b = some (.ins C dx fs) ∧ sp [y, x] H Q E
theorem op_ownR {op : Operator} (O : OwnOp X.K C op f g) (N : IntOp op) (F : FnG X.prog X.w X.K X.mg X.base CX k g fd ps sp) (hb : Binds X.K fd ps []) (hx : Passes CX X E) (hG : X.A.guards = some []) (hr : Room k X.A) : OpR X (binaryOp op) (rOwnR C sp E) := by
  rintro pins s σ H x y v u Q I rx ry ⟨i, b, dx, fs, rfl, rfl, eb, h⟩
  cases ry
  obtain ⟨t, rfl⟩ := rx
  obtain ⟨mA, J, _⟩ := ins_get I.hok eb
  obtain ⟨od, J, _⟩ := J.look
  obtain ⟨m, hF⟩ := I.fr
  obtain ⟨id, B, sl, en, ar, dec⟩ := N.ex
  exact binop_R hF I.ok.mod.kin J rfl O N.fills sl en (ar _ _ _) (fun A E s Q ho hq => dec _ A E s Q _ _ _ _ ho rfl hq) (thn (run_own (y := V.int i) F hb hx rfl hG hr I ⟨t, rfl⟩ h) fun w s' q => ep_back q)
/-- -x of the class at C -/
def rOwnN (C : Addr) (sp : Sp) (E : XK) : V → Hp → VK → Prop := fun x H Q => ∃ a dx fs, x = .ref a ∧ H a = some (.ins C dx fs) ∧ sp [x] H Q E
theorem run_own1 {B : Around} {pins : List (Addr × Obj)} {s : Shared} {σ : L2.St} {H : Hp} {a : Addr} {Q : VK} (F : FnG X.prog X.w X.K X.mg X.base CX k f fd ps sp) (hb : Binds X.K fd ps []) (hx : Passes CX X E)
    (hf : B.frames = X.A.frames) (hG : B.guards = some []) (hr : Room k B) (I : Inv X pins σ H s) (h : sp [.ref a] H Q E) : wpAny (model X.prog X.w) B (call (.ref f) [.ref a]) (EP X pins σ Q) X.xe s := by
  have e0 := I.env0
  have e1 : Env0 X.prog X.w X.K X.mg X.base B X.stack s H := ⟨hf.trans e0.frames, e0.mod, e0.bs, e0.bsz, e0.funs, e0.frf, e0.hok, e0.bare⟩
  have rv : Vals [V.ref a] [Value.ref a] := .cons rfl .nil
  have ln : ([Value.ref a] ++ ([] : List Value)).length = ps.length := F.len _ _ _ _ h
  refine wpAny_call (codeAny_mono (F.run B X.stack s H ⟨[.ref a], []⟩ ([.ref a] ++ []) [.ref a] Q E hG hr e1 (hb s [.ref a] I.kIn ln) rv h) ?_)
  intro res s' hq
  match res, hq with
  | .error e, hq => exact hx pins σ H s e s' I hq
  | .ok (.ret w), hq => exact I.after hq
theorem un_own (F : FnG X.prog X.w X.K X.mg X.base CX k f fd ps sp) (hb : Binds X.K fd ps []) (hx : Passes CX X E) (hs : PySem.W.findIn X.K (.ref C) "__neg__" = some (some (.ref f))) (hf : PySem.W.isFn X.K (.ref f) = true) (hG : X.A.guards = some []) (hr : Room k X.A) : UnR X (unaryOp .USub) (rOwnN C sp E) := by
  rintro pins s σ H x v Q I rx ⟨a, dx, fs, rfl, ea, h⟩
  cases rx
  obtain ⟨mA, J, _⟩ := ins_get I.hok ea
  obtain ⟨od, J, _⟩ := J.look
  obtain ⟨m, hF⟩ := I.fr
  exact PySem.W.ksp_neg hF I.ok.mod.kin J hs hf (run_own1 F hb hx rfl hG hr I h)
/-- str(x), x of the class at C -/
def rOwnStr (C : Addr) (sp : Sp) (E : XK) : List V → Hp → VK → Prop := fun xs H Q => ∃ a dx fs, xs = [.ref a] ∧ H a = some (.ins C dx fs) ∧ sp [.ref a] H (fun v G => ∃ y : Str, v = .str y ∧ Q (.str y) G) E
end
end Eld
set_option Elab.async false
set_option maxRecDepth 100000
set_option maxHeartbeats 4000000
set_option linter.all false
namespace Eld
open PySem PySem.Spec PyProof.Rows L2
section
variable {X : Cx} {CX : CXT} {k : Nat} {f g C : Addr} {fd : FuncData} {ps : List Str} {sp : Sp} {E : XK}
theorem call_ownStr (F : FnG X.prog X.w X.K X.mg X.base CX k f fd ps sp) (hb : Binds X.K fd ps []) (hx : Passes CX X E) (hs : PySem.W.findIn X.K (.ref C) "__str__" = some (some (.ref f))) (hf : PySem.W.isFn X.K (.ref f) = true)
    (hG : X.A.guards = some []) (hr : Room (k + 2) X.A) : CallR X (.type "str") (rOwnStr C sp E) := by
  rintro pins s σ H xs us Q I r ⟨a, dx, fs, rfl, ea, h⟩
  obtain ⟨u, rfl, ru⟩ := vals1 r
  cases ru
  obtain ⟨mA, J, _⟩ := ins_get I.hok ea
  obtain ⟨od, J, _⟩ := J.look
  have hr2 : Room k X.A.in1.in1 := (show Room (k + 1) X.A.in1 from hr.in1).in1
  have e0 := I.env0
  have e1 : Env0 X.prog X.w X.K X.mg X.base X.A.in1.in1 X.stack s H := e0.in1.in1
  have rv : Vals [V.ref a] [Value.ref a] := .cons rfl .nil
  have ln : ([Value.ref a] ++ ([] : List Value)).length = ps.length := F.len _ _ _ _ h
  refine PySem.W.kso_call hr2.units0 I.kIn J hs hf (wpAny_call (codeAny_mono (F.run X.A.in1.in1 X.stack s H ⟨[.ref a], []⟩ ([.ref a] ++ []) [.ref a] _ E (in1_guards (in1_guards hG)) hr2 e1 (hb s [.ref a] I.kIn ln) rv h) ?_))
  intro res s' hq
  match res, hq with
  | .error e, hq => exact hx pins σ H s e s' I hq
  | .ok (.ret w), hq =>
    obtain ⟨v, G, I', rv', y, rfl, q⟩ := I.after hq
    obtain ⟨t, rfl⟩ := rv'
    exact ⟨.str y, G, I', ⟨_, rfl⟩, q⟩
end
end Eld
set_option Elab.async false
set_option maxRecDepth 100000
set_option maxHeartbeats 4000000
set_option linter.all false
namespace Eld
open PySem PySem.Spec PyProof.Rows L2
section
variable {X : Cx} {CX : CXT} {k : Nat} {f g C : Addr} {fd : FuncData} {ps : List Str} {sp : Sp} {E : XK}
open PySem.W in
theorem cmp_R {prog : Program} {w : World} {A : Around} {EE : Value → Shared → Prop} {K : Frag} {y : Addr} {oy : Obj} {od : Option Obj} {i : Int} {t : Tok} {s : Shared} {Q : Value → Shared → Prop} (hu : A.units < cLine) (X : K.In s.heap) (I : InstAt s.heap y oy C od)
    (hd : oy.data = .plain) (ic : subIn K (.ref C) (.type "int") = some false) (hs : findIn K (.ref C) "__eq__" = some (some (.ref f))) (hf : isFn K (.ref f) = true)
    (h : wpAny (model prog w) A (call (.ref f) [.ref y, .int i t]) (PySem.W.CmpBack Q) EE s) : wpAny (model prog w) A (richCompare .Eq (.int i t) (.ref y)) Q EE s := by
  have one : wpAny (model prog w) A (tryCompare (.int i t) (cmpInfo .Eq).2.1 (.ref y)) (fun r s' => r = none ∧ s' = s) EE s := by
    refine wpAny_tryCompare_declines (typeIs_int s i t) PySem.F.slot_int_eq (wpAny_call_entry PySem.F.slot_int_eq (typeIs_int s i t) PySem.F.entry_int_eq ?_ (PySem.F.args_int_eq_2 _ _))
    exact int_declines I.at_ hd ⟨_, rfl, rfl, rfl, rfl⟩
  have two : wpAny (model prog w) A (tryCompare (.ref y) (cmpInfo .Eq).2.2 (.int i t)) (fun r s' => ∃ v, r = some v ∧ Q v s') EE s := by
    unfold tryCompare
    refine wpAny_bind (ifBound_K X I hs hf (wpAny_mono h (fun v s' hv => ?_) fun _ _ e => e))
    cases v <;> first | exact hv.elim | exact wpAny_pure ⟨_, rfl, hv⟩
  have L1 : Looks (model prog w) s.heap (typeOf (.int i t)) (.type "int") := Looks.of_pure rfl
  have L2 : Looks (model prog w) s.heap (typeOf (.ref y)) (.ref C) := I.type
  have ot : oneThing? .Eq (.int i t) (.ref y) = none := rfl
  unfold richCompare
  simp only [ot]
  refine wpAny_holding (wpAny_bind (wpAny_cRoomFor hu ?_))
  refine wpAny_bind (L1.here (wpAny_bind (L2.here ?_)))
  have hne : (Value.type "int" != Value.ref C) = true := by
    rw [bne_iff_ne]
    intro q
    cases q
  simp only [hne, if_true]
  refine wpAny_bind ((looks_subIn X ic).here ?_)
  simp only [Bool.false_eq_true, if_false]
  refine wpAny_bind (wpAny_mono one (fun r s' z => ?_) fun _ _ e => e)
  obtain ⟨rfl, rfl⟩ := z
  simp only [Bool.not_false, if_true]
  refine wpAny_bind (wpAny_mono two (fun r s' z => ?_) fun _ _ e => e)
  obtain ⟨v, rfl, hq⟩ := z
  exact wpAny_pure hq
theorem op_ownEqR (F : FnG X.prog X.w X.K X.mg X.base CX k f fd ps sp) (hb : Binds X.K fd ps []) (hx : Passes CX X E) (ic : PySem.W.subIn X.K (.ref C) (.type "int") = some false) (hs : PySem.W.findIn X.K (.ref C) "__eq__" = some (some (.ref f))) (hf : PySem.W.isFn X.K (.ref f) = true)
    (hG : X.A.guards = some []) (hr : Room k X.A) : OpR X (compareOp .Eq) (rOwnR C sp E) := by
  rintro pins s σ H x y v u Q I rx ry ⟨i, b, dx, fs, rfl, rfl, eb, h⟩
  cases ry
  obtain ⟨t, rfl⟩ := rx
  obtain ⟨mA, J, _⟩ := ins_get I.hok eb
  obtain ⟨od, J, _⟩ := J.look
  show wpAny (model X.prog X.w) X.A (richCompare .Eq (.int i t) (.ref b)) (EP X pins σ Q) X.xe s
  exact cmp_R hr.units0 I.kIn J rfl ic hs hf (thn (run_own (y := V.int i) F hb hx rfl hG hr I ⟨t, rfl⟩ h) fun w s' q => ep_back q)
end
end Eld
set_option Elab.async false
set_option maxRecDepth 100000
set_option maxHeartbeats 4000000
set_option linter.all false
namespace Eld
open PySem PySem.Spec PyProof.Rows L2
section
variable {X : Cx}
/-! ### a tuple of which it is known that it has no dict -/
/-- a tuple that was made of a list here: it has no dict, so its methods may be asked -/
def BareT (H : Hp) (a : Addr) (ys : List V) : Prop := ∃ o : Obj, H a = some (.frz o (.tup ys)) ∧ o.dict = none
theorem BareT.sq {K : PySem.W.Frag} {H : Hp} {a : Addr} {ys : List V} (h : BareT H a ys) : SqT K H a ys := by
  obtain ⟨o, e, _⟩ := h
  exact .inl (.inr ⟨o, e⟩)
/-- tuple(l) of a list, the new tuple being known as one without a dict -/
def rTupleB (K : PySem.W.Frag) : List V → Hp → VK → Prop := fun xs H Q => ∃ p ys, xs = [.ref p] ∧ SqL K H p ys ∧ ∀ l (o : Obj), H l = none → o.dict = none → Q (.ref l) (upd H l (.frz o (.tup ys)))
theorem call_tupleB : CallR X (.type "tuple") (rTupleB X.K) := by
  intro pins s σ H xs us Q I r h
  obtain ⟨p, ys, rfl, hq, q⟩ := h
  obtain ⟨u, rfl, rx⟩ := vals1 r
  cases rx
  obtain ⟨its, r', pl, hz⟩ := I.list hq
  have hlen := r'.length
  refine call_tuple_list pl.isList (fun h' kp => ?_) (by simp only [List.size_toArray] <;> omega)
  have I1 : Inv X pins σ H { s with heap := h' } := I.kept (t' := s.toks) kp
  have I2 : Inv X pins σ (upd H h'.objs.size (.frz { cls := .type "tuple", data := .seq its.toArray } (.tup ys))) { s with heap := h'.push { cls := .type "tuple", data := .seq its.toArray } } :=
    I1.laid (t' := s.toks) (fun b o e => Heap.get?_push_of_some _ e) (Nat.le_refl _) (show ObjOk X.prog X.w _ _ _ (.frz _ (.tup ys)) from ⟨Heap.get?_push_size _ rfl, hz, its, r', IsTup.new _ _⟩)
  exact ⟨.ref h'.objs.size, _, I2, rfl, q _ _ (I1.hok.fresh (Nat.le_refl _)) rfl⟩
/-- o.m(e, ..) of such a tuple -/
def tTM (r : V → List V → Hp → VK → Prop) (to : TE) (t : TA) : TE := fun σ H Q => to σ H fun x H1 => (∃ a ys, x = .ref a ∧ BareT H1 a ys) ∧ t σ H1 fun xs H2 => r x xs H2 Q
variable {o e : Expr} {es : List Expr} {to : TE} {t : TA} {name : Str} {apos cpos : Pos} {id : String} {r : V → List V → Hp → VK → Prop}
theorem pe_tm (pa : PlainAttrs "tuple") (slot : Slot "tuple" name id) (hty : typeOf (.builtin id) = pure (.type "method_descriptor")) (hm : MtR X id r) (ho : PE X o to) (ha : PA X (e :: es) t)
    (hbase : attributeBase o name X.env (eval o X.env) = eval o X.env := by rfl)
    (hfew : ((backTo cpos (starEach (e :: es) X.env)).all (fun x => !x.1) && (backToKw cpos (keywordEach [] X.env)).all (fun x => x.1.isSome)
      && decide ((e :: es).length + ([] : List Keyword).length + (if ([] : List Keyword).isEmpty then 0 else 1) < 30)) = true := by rfl)
    (hline : (apos.endLine == cpos.line) = true := by rfl) (hs : starEach (e :: es) X.env = (false, eval e X.env) :: starEach es X.env := by rfl) (hplain : (backTo cpos (starEach es X.env)).any (·.1) = false := by rfl) :
    PE X (.Call (.Attribute o name apos) (e :: es) [] cpos) (tTM r to t) := by
  refine ⟨fun pins s σ H Q I h => ?_⟩
  refine wpAny_Call_method_late hbase hfew hline rfl (thn (ho.run pins s σ H _ I h) fun v s1 ⟨x, H1, I1, r1, ty, q1⟩ => ?_)
  obtain ⟨a, ys, rfl, ob, hob, hd⟩ := ty
  cases r1
  obtain ⟨g1, _, its, _, ob', g2, c2, _⟩ := (show ObjOk X.prog X.w H1 s1.heap a (.frz ob (.tup ys)) from I1.hok a _ hob)
  have h1 : s1.TypeIs (.ref a) "tuple" := ⟨ob', g2, c2⟩
  have h2 : ∀ b, Value.ref a = .ref b → ∃ ob, s1.heap.get? b = some ob ∧ ob.dict = none := fun b e => by cases e; exact ⟨ob, g1, hd⟩
  refine ⟨"tuple", id, pa, slot, hty, h1, h2, ?_⟩
  have hA := ha.run cpos pins s1 σ H1 _ I1 q1
  rw [hs] at hA ⊢
  refine Calls.callWith_builtin (by show (false || (backTo cpos (starEach es X.env)).any (·.1)) = false; rw [hplain] <;> rfl) (Calls.evalArgs_plain ?_)
  exact thn hA fun us s2 ⟨vs, H2, I2, r2, q2⟩ => hm pins s2 σ H2 (.ref a) vs (.ref a) us Q I2 rfl r2 q2
end
end Eld
set_option Elab.async false
set_option maxRecDepth 100000
set_option maxHeartbeats 4000000
set_option linter.all false
namespace Eld
open PySem PySem.Spec PyProof.Rows L2
/-! ## defs, methods and classes by name, and how they are called -/
section
variable (P : Program) (w : World) (K : PySem.W.Frag) (mg : Str → Option Value) (base : Heap)
/-- the def x, called with n values by place and the names ks -/
def DefD (k : Nat) (x : Str) (n : Nat) (ks : List Str) (gV : List V → List V → List V) (sp : Sp) : Prop :=
  ∃ (f : Addr) (fd : FuncData) (ps : List Str) (g : List Value → List Value → List Value), mg x = some (.ref f) ∧ PySem.W.keepIn K (.ref f) = true ∧ FnG P w K mg base CX0 k f fd ps sp ∧ KBn K fd ps n ks g gV
/-- the method m of the class at C; n counts self -/
def MetD (k : Nat) (C : Addr) (m : Str) (n : Nat) (ks : List Str) (gV : List V → List V → List V) (sp : Sp) : Prop :=
  ∃ (f : Addr) (fd : FuncData) (ps : List Str) (g : List Value → List Value → List Value), Cls K C ∧ Meth K C m f ∧ FnG P w K mg base CX0 k f fd ps sp ∧ KBn K fd ps n ks g gV
/-- the class x at C, made with n values by place and the names ks -/
def MakD (k : Nat) (x : Str) (C : Addr) (n : Nat) (ks : List Str) (gV : List V → List V → List V) (sp : Sp) : Prop :=
  ∃ (f : Addr) (fd : FuncData) (ps : List Str) (g : List Value → List Value → List Value), mg x = some (.ref C) ∧ Mk K C f ∧ FnG P w K mg base CX0 k f fd ps sp ∧ KBn K fd ps (n + 1) ks g gV
end
abbrev byPlace : List V → List V → List V := fun xs _ => xs
theorem kbn_place {K : PySem.W.Frag} {fd : FuncData} {ps : List Str} (b : Binds K fd ps []) (n : Nat) (h : n = ps.length) : KBn K fd ps n [] (fun us _ => us) byPlace := by
  refine ⟨fun s us ws X l1 l2 => ?_, fun r _ => r⟩
  have ew : ws = [] := List.eq_nil_of_length_eq_zero l2
  subst ew
  have := b s us X (by rw [List.append_nil, l1, h])
  simpa using this
/-- by names: h as in Fun.binds, «fun _ _ _ _ _ _ us ws h1 h2 => match us, ws, h1, h2 with | [_], [_], _, _ => rfl» -/
theorem Fun_kbn {K : PySem.W.Frag} {x ql : Str} {st : Stmt} {f : Addr} {fd : FuncData} {ps : List Str} (F : Fun K x ql st f fd) (n : Nat) (ks : List Str) (g : List Value → List Value → List Value) (gV : List V → List V → List V)
    (rel : ∀ {vs : List V} {us : List Value} {zs : List V} {ws : List Value}, Vals vs us → Vals zs ws → Vals (gV vs zs) (g us ws))
    (h : ∀ (kV doc pm : Value) (an : Option Addr) (cdv ct : Value) (us ws : List Value), us.length = n → ws.length = ks.length →
      bindArgs (PySem.W.fnOf x ql (defArgs st) (defBody st) (defScope st) .none kV doc pm an cdv ct) ⟨us, ks.zip ws⟩ = pure (ps.zip (g us ws))) : KBn K fd ps n ks g gV := by
  obtain ⟨oc, od, kV, doc, pm, an, cdv, ct, osl, rfl, lk, hcd⟩ := F.ex
  exact ⟨fun s us ws X l1 l2 => BindsTo.of_eq (h kV doc pm an cdv ct us ws l1 l2), rel⟩
section
variable {X : Cx} {ks : List Str} {k j n : Nat} {gV : List V → List V → List V} {sp : Sp} {x m : Str} {C : Addr} {p pos apos : Pos} {e o : Expr} {es : List Expr} {kws : List Keyword} {ta : TE} {t tk : TA}
theorem DefD.callV (d : DefD X.prog X.w X.K X.mg X.base k x n ks gV sp) (hG : X.A.guards = some []) (hr : Room j X.A) (hk : k ≤ j) : ∃ f, X.mg x = some (.ref f) ∧ PySem.W.keepIn X.K (.ref f) = true ∧ CallV X (.ref f) ks (rFn n ks.length gV sp E0) := by
  obtain ⟨f, fd, ps, g, hm, kp, F, b⟩ := d
  exact ⟨f, hm, kp, callV_fn F b pass0 hG (hr.mono hk)⟩
theorem MetD.callV (d : MetD X.prog X.w X.K X.mg X.base k C m n ks gV sp) (hG : X.A.guards = some []) (hr : Room j X.A) (hk : k ≤ j) : ∃ f, Cls X.K C ∧ Meth X.K C m f ∧ CallV X (.ref f) ks (rFn n ks.length gV sp E0) := by
  obtain ⟨f, fd, ps, g, hc, hm, F, b⟩ := d
  exact ⟨f, hc, hm, callV_fn F b pass0 hG (hr.mono hk)⟩
theorem MakD.callV (d : MakD X.prog X.w X.K X.mg X.base k x C n ks gV sp) (hG : X.A.guards = some []) (hr : Room j X.A) (hk : k + 1 ≤ j) : X.mg x = some (.ref C) ∧ PySem.W.keepIn X.K (.ref C) = true ∧ CallV X (.ref C) ks (rMk C n ks.length gV sp E0) := by
  obtain ⟨f, fd, ps, g, hm, M, F, b⟩ := d
  exact ⟨hm, M.kp, callV_mk M F b pass0 hG (hr.mono hk)⟩

theorem pd_pos (d : DefD X.prog X.w X.K X.mg X.base k x n [] gV sp) (hG : X.A.guards = some []) (hr : Room j X.A) (hk : k ≤ j) (hg : Gl X x) (ha : PA X (e :: es) t) (hd : (x == ("__debug__" : Str)) = false := by decide)
    (he : starEach (e :: es) X.env = (false, eval e X.env) :: starEach es X.env := by rfl) (hp : (backTo pos (starEach es X.env)).any (·.1) = false := by rfl) : PE X (.Call (.Name x p) (e :: es) [] pos) (tCl (rFn n 0 gV sp E0) t tNil) := by
  obtain ⟨f, hm, kp, c⟩ := d.callV hG hr hk
  exact pn_pos c hg hm kp ha hd he hp
theorem pd_none (d : DefD X.prog X.w X.K X.mg X.base k x n [] gV sp) (hG : X.A.guards = some []) (hr : Room j X.A) (hk : k ≤ j) (hg : Gl X x) (hd : (x == ("__debug__" : Str)) = false := by decide) :
    PE X (.Call (.Name x p) [] [] pos) (tCl (rFn n 0 gV sp E0) tNil tNil) := by
  obtain ⟨f, hm, kp, c⟩ := d.callV hG hr hk
  exact pn_none c hg hm kp hd
theorem pd_kw0 (d : DefD X.prog X.w X.K X.mg X.base k x n ks gV sp) (hG : X.A.guards = some []) (hr : Room j X.A) (hk : k ≤ j) (hg : Gl X x) (hkw : PK X kws tk) (hall : (backToKw pos (keywordEach kws X.env)).all (·.1.isSome) = true := by rfl)
    (hks : (backToKw pos (keywordEach kws X.env)).filterMap (·.1) = ks := by rfl) (hd : (x == ("__debug__" : Str)) = false := by decide)
    (hp : ((backTo pos (starEach [] X.env)).any (·.1) || (backToKw pos (keywordEach kws X.env)).any (·.1.isNone)) = false := by rfl) : PE X (.Call (.Name x p) [] kws pos) (tCl (rFn n ks.length gV sp E0) tNil tk) := by
  obtain ⟨f, hm, kp, c⟩ := d.callV hG hr hk
  exact pn_kw0 c hg hm kp hkw hall hks hd hp
theorem pd_kw (d : DefD X.prog X.w X.K X.mg X.base k x n ks gV sp) (hG : X.A.guards = some []) (hr : Room j X.A) (hk : k ≤ j) (hg : Gl X x) (ha : PA X (e :: es) t) (hkw : PK X kws tk) (hall : (backToKw pos (keywordEach kws X.env)).all (·.1.isSome) = true := by rfl)
    (hks : (backToKw pos (keywordEach kws X.env)).filterMap (·.1) = ks := by rfl) (hd : (x == ("__debug__" : Str)) = false := by decide) (he : starEach (e :: es) X.env = (false, eval e X.env) :: starEach es X.env := by rfl)
    (hp : ((backTo pos (starEach (e :: es) X.env)).any (·.1) || (backToKw pos (keywordEach kws X.env)).any (·.1.isNone)) = false := by rfl) : PE X (.Call (.Name x p) (e :: es) kws pos) (tCl (rFn n ks.length gV sp E0) t tk) := by
  obtain ⟨f, hm, kp, c⟩ := d.callV hG hr hk
  exact pn_kw c hg hm kp ha hkw hall hks hd he hp
theorem pk_pos (d : MakD X.prog X.w X.K X.mg X.base k x C n [] gV sp) (hG : X.A.guards = some []) (hr : Room j X.A) (hk : k + 1 ≤ j) (hg : Gl X x) (ha : PA X (e :: es) t) (hd : (x == ("__debug__" : Str)) = false := by decide)
    (he : starEach (e :: es) X.env = (false, eval e X.env) :: starEach es X.env := by rfl) (hp : (backTo pos (starEach es X.env)).any (·.1) = false := by rfl) : PE X (.Call (.Name x p) (e :: es) [] pos) (tCl (rMk C n 0 gV sp E0) t tNil) := by
  obtain ⟨hm, kp, c⟩ := d.callV hG hr hk
  exact pn_pos c hg hm kp ha hd he hp
theorem pk_kw0 (d : MakD X.prog X.w X.K X.mg X.base k x C n ks gV sp) (hG : X.A.guards = some []) (hr : Room j X.A) (hk : k + 1 ≤ j) (hg : Gl X x) (hkw : PK X kws tk) (hall : (backToKw pos (keywordEach kws X.env)).all (·.1.isSome) = true := by rfl)
    (hks : (backToKw pos (keywordEach kws X.env)).filterMap (·.1) = ks := by rfl) (hd : (x == ("__debug__" : Str)) = false := by decide)
    (hp : ((backTo pos (starEach [] X.env)).any (·.1) || (backToKw pos (keywordEach kws X.env)).any (·.1.isNone)) = false := by rfl) : PE X (.Call (.Name x p) [] kws pos) (tCl (rMk C n ks.length gV sp E0) tNil tk) := by
  obtain ⟨hm, kp, c⟩ := d.callV hG hr hk
  exact pn_kw0 c hg hm kp hkw hall hks hd hp
variable {pl : Sem Bool}
theorem pq_pos (d : MetD X.prog X.w X.K X.mg X.base k C m n [] gV sp) (hG : X.A.guards = some []) (hr : Room j X.A) (hk : k ≤ j) (ho : PE X o ta) (ha : PA X (e :: es) t) (he : starEach (e :: es) X.env = (false, eval e X.env) :: starEach es X.env := by rfl)
    (hp : (backTo pos (starEach es X.env)).any (·.1) = false := by rfl) (ht : eval (.Call (.Attribute o m apos) (e :: es) [] pos) X.env = (do
      let ov ← eval o X.env
      standAt apos.atName
      let (f, first) ← holding [ov] (getMethod ov m pl)
      callWith pos f first (backTo pos (starEach (e :: es) X.env)) (backToKw pos (keywordEach [] X.env))) := by rfl) : PE X (.Call (.Attribute o m apos) (e :: es) [] pos) (tMt C m (rFn n 0 gV sp E0) ta t tNil) := by
  obtain ⟨f, hc, hm, c⟩ := d.callV hG hr hk
  exact pm_pos c hc hm ho ha he hp ht
theorem pq_none (d : MetD X.prog X.w X.K X.mg X.base k C m n [] gV sp) (hG : X.A.guards = some []) (hr : Room j X.A) (hk : k ≤ j) (ho : PE X o ta) (ht : eval (.Call (.Attribute o m apos) [] [] pos) X.env = (do
      let ov ← eval o X.env
      standAt apos.atName
      let (f, first) ← holding [ov] (getMethod ov m pl)
      callWith pos f first (backTo pos (starEach [] X.env)) (backToKw pos (keywordEach [] X.env))) := by rfl) : PE X (.Call (.Attribute o m apos) [] [] pos) (tMt C m (rFn n 0 gV sp E0) ta tNil tNil) := by
  obtain ⟨f, hc, hm, c⟩ := d.callV hG hr hk
  exact pm_none c hc hm ho ht
theorem pq_kw0 (d : MetD X.prog X.w X.K X.mg X.base k C m n ks gV sp) (hG : X.A.guards = some []) (hr : Room j X.A) (hk : k ≤ j) (ho : PE X o ta) (hkw : PK X kws tk) (hall : (backToKw pos (keywordEach kws X.env)).all (·.1.isSome) = true := by rfl)
    (hks : (backToKw pos (keywordEach kws X.env)).filterMap (·.1) = ks := by rfl)
    (hp : ((backTo pos (starEach [] X.env)).any (·.1) || (backToKw pos (keywordEach kws X.env)).any (·.1.isNone)) = false := by rfl) (ht : eval (.Call (.Attribute o m apos) [] kws pos) X.env = (do
      let ov ← eval o X.env
      standAt apos.atName
      let (f, first) ← holding [ov] (getMethod ov m pl)
      callWith pos f first (backTo pos (starEach [] X.env)) (backToKw pos (keywordEach kws X.env))) := by rfl) : PE X (.Call (.Attribute o m apos) [] kws pos) (tMt C m (rFn n ks.length gV sp E0) ta tNil tk) := by
  obtain ⟨f, hc, hm, c⟩ := d.callV hG hr hk
  exact pm_kw0 c hc hm ho hkw hall hks hp ht
end

/-! ## built-ins, their readings by name -/
section
variable {X : Cx}
def rInt1 : List V → Hp → VK → Prop := fun xs H Q => (∃ i, xs = [.int i] ∧ Q (.int i) H) ∨ ∃ k, xs = [.bl k] ∧ Q (.int (if k then 1 else 0)) H
theorem c_int : CallR X (.type "int") rInt1 := call_int1
def rAbs : List V → Hp → VK → Prop := fun xs H Q => ∃ i, xs = [.int i] ∧ Q (.int (if i < 0 then -i else i)) H
theorem c_abs : CallR X (.builtin "abs") rAbs := call_abs
def rMax2 : List V → Hp → VK → Prop := fun xs H Q => ∃ i j, xs = [.int i, .int j] ∧ Q (.int (if j > i then j else i)) H
theorem c_max2 (hc : X.calm = true) : CallR X (.builtin "max") rMax2 := call_max2 hc
def rMin2 : List V → Hp → VK → Prop := fun xs H Q => ∃ i j, xs = [.int i, .int j] ∧ Q (.int (if j < i then j else i)) H
theorem c_min2 (hc : X.calm = true) : CallR X (.builtin "min") rMin2 := call_min2 hc
def rBool1 : List V → Hp → VK → Prop := fun xs H Q => (∃ i, xs = [.int i] ∧ Q (.bl (i != 0)) H) ∨ ∃ k, xs = [.bl k] ∧ Q (.bl k) H
theorem c_bool : CallR X (.type "bool") rBool1 := call_bool1
def rStrI : List V → Hp → VK → Prop := fun xs H Q => ∃ i, xs = [.int i] ∧ i.natAbs.log2 < 1920 ∧ Q (.str (toString i)) H
theorem c_str : CallR X (.type "str") rStrI := call_str_int
def rLen (K : PySem.W.Frag) : List V → Hp → VK → Prop := fun xs H Q => ∃ x n, xs = [x] ∧ LenV K x H n ∧ Q (.int n) H
theorem c_len : CallR X (.builtin "len") (rLen X.K) := call_len
def rListOf (K : PySem.W.Frag) : List V → Hp → VK → Prop := fun xs H Q => ∃ p ys, xs = [.ref p] ∧ (SqL K H p ys ∨ SqT K H p ys) ∧ ∀ l, H l = none → Q (.ref l) (upd H l (.lst ys))
theorem c_list : CallR X (.type "list") (rListOf X.K) := call_list_of
def rTupleOf (K : PySem.W.Frag) : List V → Hp → VK → Prop := fun xs H Q => ∃ p ys, xs = [.ref p] ∧ ((SqL K H p ys ∧ ∀ l, H l = none → Q (.ref l) (upd H l (.tup ys))) ∨ (SqT K H p ys ∧ Q (.ref p) H))
theorem c_tuple : CallR X (.type "tuple") (rTupleOf X.K) := call_tuple_of
def rIntS : List V → Hp → VK → Prop := fun xs H Q => ∃ a n, xs = [.str a] ∧ PySem.intText? a = some n ∧ a.length ≤ 640 ∧ Q (.int n) H
theorem c_intS : CallR X (.type "int") rIntS := call_int_str
end

theorem pe_cls {X : Cx} {x : Str} {pos : Pos} {C : Addr} (hg : Gl X x) (hm : X.mg x = some (.ref C)) (hd : (x == ("__debug__" : Str)) = false := by decide) : PE X (.Name x pos) (tC (.ref C)) := pe_glob hg hm rfl hd
/-! ## readings, step by step -/
section
variable {σ : L2.St} {H : Hp} {Q : VK} {D : Ends} {K : PySem.W.Frag} {E : XK}
theorem r_seq {t : TS} {u : TS} (h : t { D with nx := u D } σ H) : tSeq t u D σ H := h
theorem r_asgN {te : TE} {i : Nat} (h : te σ H fun x H1 => D.nx (σ.set i (some x)) H1) : tAsg te (gName i) D σ H := h
theorem r_asg {te : TE} {g : TG} (h : te σ H fun x H1 => g x σ H1 D.nx) : tAsg te g D σ H := h
theorem r_gname {i : Nat} {v : V} {q : L2.St → Hp → Prop} (h : q (σ.set i (some v)) H) : gName i v σ H q := h
theorem r_gsub {to ti : TE} {t : TSet} {x : V} {q : L2.St → Hp → Prop} (h : to σ H fun o H1 => ti σ H1 fun i H2 => t o i x H2 fun H3 => q σ H3) : gSub to ti t x σ H q := h
theorem r_var {i : Nat} {v : V} (e : σ[i]? = some (some v)) (h : Q v H) : tVar i σ H Q := ⟨v, e, h⟩
theorem r_c {v : V} (h : Q v H) : tC v σ H Q := h
theorem r_op {r : R2} {ta tb : TE} (h : ta σ H fun x H1 => tb σ H1 fun y H2 => r x y H2 Q) : tOp r ta tb σ H Q := h
theorem r_un {r : V → Hp → VK → Prop} {ta : TE} (h : ta σ H fun x H1 => r x H1 Q) : tUn r ta σ H Q := h
theorem r_u {g : Int → V} {i : Int} (h : Q (g i) H) : rU g (.int i) H Q := ⟨i, rfl, h⟩
theorem r_i0 {g : Int → Int → V} {i j : Int} (h : Q (g i j) H) : rI0 g (.int i) (.int j) H Q := ⟨i, j, rfl, rfl, h⟩
theorem r_i {C : Int → Int → Prop} {g : Int → Int → V} {i j : Int} (hc : C i j) (h : Q (g i j) H) : rI C g (.int i) (.int j) H Q := ⟨i, j, rfl, rfl, hc, h⟩
theorem r_eqI {i j : Int} (h : Q (.bl (decide (V.int i = V.int j))) H) : rEq (.int i) (.int j) H Q := ⟨rfl, h⟩
theorem r_neI {i j : Int} (h : Q (.bl (!decide (V.int i = V.int j))) H) : rNe (.int i) (.int j) H Q := ⟨rfl, h⟩
theorem r_eqB {i j : Bool} (h : Q (.bl (decide (V.bl i = V.bl j))) H) : rEq (.bl i) (.bl j) H Q := ⟨rfl, h⟩
theorem r_neB {i j : Bool} (h : Q (.bl (!decide (V.bl i = V.bl j))) H) : rNe (.bl i) (.bl j) H Q := ⟨rfl, h⟩
theorem r_eqS {i j : Str} (h : Q (.bl (decide (V.str i = V.str j))) H) : rEq (.str i) (.str j) H Q := ⟨rfl, h⟩
theorem r_neS {i j : Str} (h : Q (.bl (!decide (V.str i = V.str j))) H) : rNe (.str i) (.str j) H Q := ⟨rfl, h⟩
theorem r_cb {r : List V → Hp → VK → Prop} {t : TA} (h : t σ H fun xs H1 => r xs H1 Q) : tCB r t σ H Q := h
theorem r_cl {r : List V → List V → Hp → VK → Prop} {t tk : TA} (h : t σ H fun xs H1 => tk σ H1 fun ys H2 => r xs ys H2 Q) : tCl r t tk σ H Q := h
theorem r_fn {n m : Nat} {gV : List V → List V → List V} {sp : Sp} {xs ys : List V} (h1 : xs.length = n) (h2 : ys.length = m) (h : sp (gV xs ys) H Q E) : rFn n m gV sp E xs ys H Q := ⟨h1, h2, h⟩
theorem r_mk {C : Addr} {n m : Nat} {gV : List V → List V → List V} {sp : Sp} {xs ys : List V} (h1 : xs.length = n) (h2 : ys.length = m)
    (h : ∀ x dx, H x = none → H dx = none → dx ≠ x → sp (gV (.ref x :: xs) ys) (upd (upd H dx (.own x)) x (.ins C dx [])) (fun v G => v = .non ∧ Q (.ref x) G) E) : rMk C n m gV sp E xs ys H Q := ⟨h1, h2, h⟩
theorem r_mt {C : Addr} {m : Str} {r : List V → List V → Hp → VK → Prop} {ta : TE} {t tk : TA} (h : ta σ H fun x H1 => ∃ a dx fs, x = .ref a ∧ H1 a = some (.ins C dx fs) ∧ List.lookup m fs = none ∧ t σ H1 fun xs H2 => tk σ H2 fun ys H3 => r (.ref a :: xs) ys H3 Q) : tMt C m r ta t tk σ H Q := h
theorem r_cons {ta : TE} {tr : TA} {q : List V → Hp → Prop} (h : ta σ H fun x H1 => tr σ H1 fun xs H2 => q (x :: xs) H2) : tCons ta tr σ H q := h
theorem r_nil {q : List V → Hp → Prop} (h : q [] H) : tNil σ H q := h
theorem r_test {t : TE} {q : Bool → Hp → Prop} (h : t σ H fun x H1 => ∃ k, x = .bl k ∧ q k H1) : tTest t σ H q := h
theorem r_tb {t : TE} {q : Bool → Hp → Prop} (h : t σ H fun x H1 => ∃ k, x = .bl k ∧ q k H1) : tB t σ H q := h
theorem r_bl {b : Bool} {q : Bool → Prop} (h : q b) : ∃ k, V.bl b = V.bl k ∧ q k := ⟨b, rfl, h⟩
theorem r_and {t u : TT} {q : Bool → Hp → Prop} (h : t σ H fun c H1 => if c = true then u σ H1 q else q false H1) : tAnd t u σ H q := h
theorem r_or {t u : TT} {q : Bool → Hp → Prop} (h : t σ H fun c H1 => if c = true then q true H1 else u σ H1 q) : tOr t u σ H q := h
theorem r_not {t : TT} {q : Bool → Hp → Prop} (h : t σ H fun c H1 => q (!c) H1) : tNot t σ H q := h
theorem r_andV {ta tb : TE} (h : ta σ H fun x H1 => ∃ c, x = .bl c ∧ if c = true then tb σ H1 Q else Q (.bl false) H1) : tAndV ta tb σ H Q := h
theorem r_orV {ta tb : TE} (h : ta σ H fun x H1 => ∃ c, x = .bl c ∧ if c = true then Q (.bl true) H1 else tb σ H1 Q) : tOrV ta tb σ H Q := h
theorem r_notV {ta : TE} (h : ta σ H fun x H1 => ∃ c, x = .bl c ∧ Q (.bl (!c)) H1) : tNotV ta σ H Q := h
theorem r_ifX {c : TT} {ta tb : TE} (h : c σ H fun k H1 => if k = true then ta σ H1 Q else tb σ H1 Q) : tIf c ta tb σ H Q := h
theorem r_ifs {c : TT} {t u : TS} (h : c σ H fun b H1 => if b = true then t D σ H1 else u D σ H1) : tIfS c t u D σ H := h
theorem r_chain {r r' : R2} {ta tb tc : TE} (h : ta σ H fun x H1 => tb σ H1 fun y H2 => r x y H2 fun z H3 => ∃ k, z = .bl k ∧ (if k = true then tc σ H3 fun w' H4 => r' y w' H4 Q else Q (.bl false) H3)) : tChain r r' ta tb tc σ H Q := h
theorem r_ret {te : TE} (h : te σ H D.rt) : tRet te D σ H := h
theorem r_next (h : D.nx σ H) : tNext D σ H := h
theorem r_drop {te : TE} (h : te σ H fun _ H1 => D.nx σ H1) : tDrop te D σ H := h
theorem r_ixL {p : Addr} {xs : List V} {i : Int} {v : V} (h : SqL K H p xs) (e : atI xs i = some v) (q : Q v H) : rIxL K (.ref p) (.int i) H Q := ⟨p, xs, i, v, rfl, rfl, h, e, q⟩
theorem r_ixT {p : Addr} {xs : List V} {i : Int} {v : V} (h : SqT K H p xs) (e : atI xs i = some v) (q : Q v H) : rIxT K (.ref p) (.int i) H Q := ⟨p, xs, i, v, rfl, rfl, h, e, q⟩
theorem r_setL {p : Addr} {xs : List V} {k : Int} {j : Nat} {v : V} {q : Hp → Prop} (h : H p = some (.lst xs)) (e : ixN xs.length k = some j) (hq : q (upd H p (.lst (xs.set j v)))) : rSetL (.ref p) (.int k) v H q := ⟨p, xs, k, j, rfl, rfl, h, e, hq⟩
theorem r_int1 {i : Int} (h : Q (.int i) H) : rInt1 [.int i] H Q := .inl ⟨i, rfl, h⟩
theorem r_abs {i : Int} (h : Q (.int (if i < 0 then -i else i)) H) : rAbs [.int i] H Q := ⟨i, rfl, h⟩
theorem r_max2 {i j : Int} (h : Q (.int (if j > i then j else i)) H) : rMax2 [.int i, .int j] H Q := ⟨i, j, rfl, h⟩
theorem r_min2 {i j : Int} (h : Q (.int (if j < i then j else i)) H) : rMin2 [.int i, .int j] H Q := ⟨i, j, rfl, h⟩
theorem r_boolB {k : Bool} (h : Q (.bl k) H) : rBool1 [.bl k] H Q := .inr ⟨k, rfl, h⟩
theorem r_strI {i : Int} (hi : i.natAbs.log2 < 1920) (h : Q (.str (toString i)) H) : rStrI [.int i] H Q := ⟨i, rfl, hi, h⟩
theorem r_lenL {p : Addr} {xs : List V} (hs : SqL K H p xs) (h : Q (.int (xs.length : Nat)) H) : rLen K [.ref p] H Q := ⟨.ref p, xs.length, rfl, .inl ⟨xs, hs, rfl⟩, h⟩
theorem r_lenT {p : Addr} {xs : List V} (hs : SqT K H p xs) (h : Q (.int (xs.length : Nat)) H) : rLen K [.ref p] H Q := ⟨.ref p, xs.length, rfl, .inr ⟨xs, hs, rfl⟩, h⟩
theorem r_lenS {y : Str} (hy : y.length ≤ sizeLine) (h : Q (.int (y.length : Nat)) H) : rLen K [.str y] H Q := ⟨.str y, y.length, rfl, ⟨hy, rfl⟩, h⟩
theorem r_listL {p : Addr} {ys : List V} (hs : SqL K H p ys) (h : ∀ l, H l = none → Q (.ref l) (upd H l (.lst ys))) : rListOf K [.ref p] H Q := ⟨p, ys, rfl, .inl hs, h⟩
theorem r_listT {p : Addr} {ys : List V} (hs : SqT K H p ys) (h : ∀ l, H l = none → Q (.ref l) (upd H l (.lst ys))) : rListOf K [.ref p] H Q := ⟨p, ys, rfl, .inr hs, h⟩
theorem r_tupleL {p : Addr} {ys : List V} (hs : SqL K H p ys) (h : ∀ l, H l = none → Q (.ref l) (upd H l (.tup ys))) : rTupleOf K [.ref p] H Q := ⟨p, ys, rfl, .inl ⟨hs, h⟩⟩
theorem r_tupleT {p : Addr} {ys : List V} (hs : SqT K H p ys) (h : Q (.ref p) H) : rTupleOf K [.ref p] H Q := ⟨p, ys, rfl, .inr ⟨hs, h⟩⟩
theorem r_isiB {x : V} {t T : String} {b : Bool} (ty : TyX K H x (.type t)) (hk : kitB t T = some b) (h : Q (.bl b) H) : rIsi K [x, .ty T] H Q := ⟨x, .ty T, .type t, .type T, b, rfl, .ty T, ty, kit_ty hk, h⟩
theorem r_isiO {x : V} {t : Value} {C : Addr} {b : Bool} (ty : TyX K H x t) (hk : PySem.W.kitOne K t (.ref C) = some b) (h : Q (.bl b) H) : rIsi K [x, .ref C] H Q := ⟨x, .ref C, t, .ref C, b, rfl, .own C, ty, hk, h⟩
theorem r_tup {t : TA} (h : t σ H fun xs H1 => xs.length ≤ sizeLine ∧ ∀ p, H1 p = none → Q (.ref p) (upd H1 p (.tup xs))) : tTup t σ H Q := h
theorem r_lst {t : TA} (h : t σ H fun xs H1 => xs.length ≤ sizeLine ∧ ∀ p, H1 p = none → Q (.ref p) (upd H1 p (.lst xs))) : tLst t σ H Q := h
theorem r_rng1 {t : TA} {R : It → Hp → Prop} (h : t σ H fun vs H1 => ∃ j : Int, vs = [.int j] ∧ -(2 ^ 62) ≤ j ∧ j < 2 ^ 62 ∧ R (Itr 0 j.toNat) H1) : iRng1 t σ H R := h
theorem r_rng2 {t : TA} {R : It → Hp → Prop} (h : t σ H fun vs H1 => ∃ i j : Int, vs = [.int i, .int j] ∧ (-(2 ^ 62) ≤ i ∧ i < 2 ^ 62 ∧ -(2 ^ 62) ≤ j ∧ j < 2 ^ 62) ∧ R (Itr i (j - i).toNat) H1) : iRng2 t σ H R := h
theorem r_sfld {ta tv : TE} {f : Str} (h : tv σ H fun y H1 => ta σ H1 fun x H2 => ∃ a C dx fs, x = .ref a ∧ H2 a = some (.ins C dx fs) ∧ Cls K C ∧ NoAttr K C f ∧ fs.length < 1000 ∧ D.nx σ (upd H2 a (.ins C dx (putF f y fs)))) : sFld K ta tv f D σ H := h
theorem r_m0 {r : V → List V → Hp → VK → Prop} {to : TE} (h : to σ H fun x H1 => (∃ a, x = .str a) ∧ r x [] H1 Q) : tM0 r to σ H Q := h
theorem r_m1 {r : V → List V → Hp → VK → Prop} {to te : TE} (h : to σ H fun x H1 => (∃ a, x = .str a) ∧ te σ H1 fun y H2 => r x [y] H2 Q) : tM1 r to te σ H Q := h
theorem r_fld {ta : TE} {f : Str} (h : tFld K ta f σ H Q) : tFld K ta f σ H Q := h
end
end Eld
set_option Elab.async false
set_option maxRecDepth 100000
set_option maxHeartbeats 4000000
set_option linter.all false
namespace Eld
open PySem PySem.Spec PyProof.Rows L2
/-! ## zip of a list and a tuple -/
def ItzM (K : PySem.W.Frag) (a b : Addr) : It where
  go := fun i H => ∃ xs ys x y, SqL K H a xs ∧ SqT K H b ys ∧ xs[i]? = some x ∧ ys[i]? = some y
  yld := fun i H v H' => ∃ T x y, v = .ref T ∧ H T = none ∧ H' = upd H T (.tup [x, y]) ∧ (∀ xs, SqL K H a xs → xs[i]? = some x) ∧ ∀ ys, SqT K H b ys → ys[i]? = some y
  stop := fun i H => ∃ xs ys, SqL K H a xs ∧ SqT K H b ys ∧ i = xs.length ∧ i = ys.length
/-- the five records of such a zip at its i-th turn -/
structure ZRec (z TI TO i1 i2 a b : Addr) (i : Nat) (h : Heap) : Prop where
  zz : IsZip h z TI TO .none
  ti : IsTupOf2 h TI (.ref i1) (.ref i2)
  to : ∃ x y, IsTupOf2 h TO x y
  l1 : h.IsListIter i1 a i
  l2 : h.IsTupleIter i2 b i
theorem list_inj {X : Cx} {pins : List (Addr × Obj)} {σ : L2.St} {H : Hp} {s : Shared} {a : Addr} {xs ys : List V} (I : Inv X pins σ H s) (h1 : SqL X.K H a xs) (h2 : SqL X.K H a ys) : xs = ys := I.list_inj h1 h2
theorem zrec_turn {P : Program} {w : World} {K : PySem.W.Frag} {elts : List Expr} {kk : Nat} {tpos : Pos} {a b z TI TO i1 i2 : Addr} (S : ZipSep2 z TI TO i1 i2 [i1, a] [i2, b]) (n1 : a ≠ i1) (n2 : b ≠ i2) :
    Turn P w K (.Tuple elts kk tpos) (ItzM K a b) [z, TI, TO, i1, i2] z (ZRec z TI TO i1 i2 a b) := by
  have five : ∀ {c : Addr}, c ∈ [z, TI, TO, i1, i2] → c = z ∨ c = TI ∨ c = TO ∨ c = i1 ∨ c = i2 := fun h => by simpa using h
  have there : ∀ (i : Nat) (h : Heap), ZRec z TI TO i1 i2 a b i h → ∀ c ∈ [z, TI, TO, i1, i2], ∃ o, h.get? c = some o ∧ ∀ v, o.data ≠ .cell v := by
    rintro i h ⟨hz, ht, ⟨x, y, ho⟩, ⟨o1, e1, _, d1⟩, ⟨o2, e2, _, d2⟩⟩ c hc
    rcases five hc with rfl | rfl | rfl | rfl | rfl
    · exact ⟨_, hz, fun v q => nomatch q⟩
    · exact ⟨_, ht, fun v q => nomatch q⟩
    · exact ⟨_, ho, fun v q => nomatch q⟩
    · exact ⟨o1, e1, fun v q => by rw [d1] at q; cases q⟩
    · exact ⟨o2, e2, fun v q => by rw [d2] at q; cases q⟩
  refine ⟨by simp, there, ?_, ?_, ?_, fun A i s Q E st h => wpAny_pyIter_zip st.zz h⟩
  · rintro i h h' ⟨hz, ht, ⟨x, y, ho⟩, h1, h2⟩ k
    exact ⟨k z (by simp) _ hz, k TI (by simp) _ ht, ⟨x, y, k TO (by simp) _ ho⟩, h1.at fun o q => k i1 (by simp) o q, h2.at fun o q => k i2 (by simp) o q⟩
  · rintro X rfl rfl rfl calm i pins s σ H E I fp st ⟨xs, ys, x, y, qx, qy, hx, hy⟩
    obtain ⟨hz, ht, ⟨x0, y0, ho⟩, h1, h2⟩ := id st
    obtain ⟨its, rv, pl, _⟩ := I.list qx
    obtain ⟨jts, rw', pt, _⟩ := I.tuple qy
    obtain ⟨u, hu, ru⟩ := rv.get hx
    obtain ⟨v, hv, rv'⟩ := rw'.get hy
    have hnd : X.A.in1.handled = none := I.ok.hd calm
    have lu : i < its.toArray.size := by simpa using (List.getElem?_eq_some_iff.mp hu).1
    have lv : i < jts.toArray.size := by simpa using (List.getElem?_eq_some_iff.mp hv).1
    have zl : z < s.heap.objs.size := Heap.lt_size hz
    refine wpAny_pyNext_zipD2_item S (Draws.list hnd i1 a n1 its.toArray) (Draws.tuple hnd i2 b n2 jts.toArray) hz ht ho ⟨h1, pl.isList⟩ ⟨h2, pt⟩ lu lv ?_
    intro x1 x2 h' tk e1 e2 hz' ho' st1 st2 hT sz keep
    have e1' : x1 = u := by
      have e : its.toArray[i]? = some x1 := e1
      rw [List.getElem?_toArray, hu] at e
      exact (Option.some.inj e).symm
    have e2' : x2 = v := by
      have e : jts.toArray[i]? = some x2 := e2
      rw [List.getElem?_toArray, hv] at e
      exact (Option.some.inj e).symm
    subst e1' e2'
    refine ⟨_, rfl, wpAny_letOwnedTupleGo_zip (s := { s with heap := h', toks := tk }) hz' ?_⟩
    intro h3 hz3 sb
    have hT3 : h3.get? s.heap.objs.size = some { cls := .type "tuple", data := .seq #[x1, x2] } := (sb.2 _ (Nat.ne_of_gt zl)).trans hT
    have ok : ObjOk X.prog X.w (upd H s.heap.objs.size (.tup [x, y])) h3 s.heap.objs.size (.tup [x, y]) := ⟨by show 2 ≤ sizeLine; decide, [x1, x2], .cons ru (.cons rv' .nil), ⟨_, hT3, rfl, _, rfl⟩⟩
    have same : ∀ c o, c ∉ [z, TI, TO, i1, i2] → s.heap.get? c = some o → h3.get? c = some o := by
      intro c o nc e
      have g : ∀ d ∈ [z, TI, TO, i1, i2], c ≠ d := fun d hd e' => nc (e' ▸ hd)
      exact (sb.2 c (g z (by simp))).trans (keep c o (g z (by simp)) (g TO (by simp)) (g i1 (by simp)) (g i2 (by simp)) e)
    have J := I.turnedNew (t' := tk) same fp (Nat.le_refl _) ok
    refine ⟨.ref s.heap.objs.size, _, J, rfl, ⟨_, x, y, rfl, I.hok.fresh (Nat.le_refl _), rfl, ?_, ?_⟩, ?_, ?_⟩
    · intro l hl
      rw [list_inj I hl qx]
      exact hx
    · intro l hl
      rw [I.tuple_inj hl qy]
      exact hy
    · refine ⟨hz3, ?_, ⟨x1, x2, ?_⟩, ?_, ?_⟩
      · exact (sb.2 _ S.TIz).trans (keep _ _ S.TIz S.TITO S.TIi1 S.TIi2 ht)
      · exact (sb.2 _ S.TOz).trans ho'
      · exact st1.1.at fun o q => (sb.2 _ (Ne.symm S.zi1)).trans q
      · exact st2.1.at fun o q => (sb.2 _ (Ne.symm S.zi2)).trans q
    · intro c hc
      obtain ⟨o, e, _⟩ := there i s.heap st c hc
      rw [upd_ne (Nat.ne_of_lt (Heap.lt_size e))]
      exact (fp c hc).1
  · rintro X rfl rfl rfl calm i pins s σ H E I fp st ⟨xs, ys, qx, qy, ex, ey⟩
    obtain ⟨hz, ht, ⟨x0, y0, ho⟩, h1, h2⟩ := id st
    obtain ⟨its, rv, pl, _⟩ := I.list qx
    obtain ⟨jts, rw', pt, _⟩ := I.tuple qy
    have hnd : X.A.in1.handled = none := I.ok.hd calm
    have l1 := rv.length
    have l2 := rw'.length
    refine wpAny_pyNext_zipD2_end S (Draws.list hnd i1 a n1 its.toArray) (Draws.tuple hnd i2 b n2 jts.toArray) hz ht ho ⟨h1, pl.isList⟩ ⟨h2, pt⟩ (by simp; omega) (by simp; omega) (.inl (by simp; omega)) ?_
    intro h' tk keep
    refine ⟨rfl, I.turnedL (t' := tk) (ch := [z, TI, TO, i1, i2]) ?_ fp⟩
    intro c o nc e
    have g : ∀ d ∈ [z, TI, TO, i1, i2], c ≠ d := fun d hd e' => nc (e' ▸ hd)
    exact keep c o (g z (by simp)) (g TO (by simp)) (g i1 (by simp)) (g i2 (by simp)) e
def iZipM (K : PySem.W.Frag) (ta : TA) : TI := fun σ H R => ta σ H fun vs H1 => ∃ a b xs ys, vs = [.ref a, .ref b] ∧ SqL K H1 a xs ∧ SqT K H1 b ys ∧ R (ItzM K a b) H1
theorem pi_zipM {X : Cx} {e e2 : Expr} {ta : TA} {p pos tpos : Pos} {elts : List Expr} {kk : Nat} (hg : Gl X "zip") (hm : X.mg "zip" = none) (ha : PA X [e, e2] ta)
    (h2 : starEach [e, e2] X.env = (false, eval e X.env) :: starEach [e2] X.env := by rfl) (h3 : (backTo pos (starEach [e2] X.env)).any (·.1) = false := by rfl) : PI X (.Tuple elts kk tpos) (.Call (.Name "zip" p) [e, e2] [] pos) (iZipM X.K ta) := by
  constructor
  intro pins s σ H R I h
  refine Call_ (ld_blt I hg hm PyProof.Rows.boot_zip (PyProof.Rows.callWith_type1 (thn (ha.run pos pins s σ H _ I h) ?_) h2 h3))
  rintro us s1 ⟨vs, H1, I1, r1, a, b, xs, ys, rfl, qx, qy, q⟩
  obtain ⟨u1, u2, rfl, ra, rb⟩ := vals2 r1
  cases ra
  cases rb
  obtain ⟨its, rv, pl, _⟩ := I1.list qx
  obtain ⟨jts, rw', pt, _⟩ := I1.tuple qy
  have la : a < s1.heap.objs.size := pl.lt
  have lb : b < s1.heap.objs.size := by
    obtain ⟨o, e, _⟩ := id pt
    exact Heap.lt_size e
  refine zip_begins2 (begins_list a its.toArray) (begins_tuple b jts.toArray) pl.isList pt ?_
  intro h' hz ht ho g1 g2 sz keep
  have I2 : Inv X pins σ H1 { s1 with heap := h' } := I1.kept (t' := s1.toks) keep
  refine wpAny_pyIter_zip hz ⟨s1.heap.objs.size + 4, [s1.heap.objs.size + 4, s1.heap.objs.size + 2, s1.heap.objs.size + 3, s1.heap.objs.size, s1.heap.objs.size + 1], _, _, H1, rfl, I2,
    zrec_turn (zip_sep2 (N := s1.heap.objs.size) (fp1 := [a]) (fp2 := [b]) (by simpa using la) (by simpa using lb)) (Nat.ne_of_lt la) (Nat.ne_of_lt (Nat.lt_succ_of_lt lb)), ⟨hz, ht, ⟨_, _, ho⟩, ⟨_, g1, rfl, rfl⟩, ⟨_, g2, rfl, rfl⟩⟩, ?_, q⟩
  intro c hc
  have hle : s1.heap.objs.size ≤ c := by
    have e : c = s1.heap.objs.size + 4 ∨ c = s1.heap.objs.size + 2 ∨ c = s1.heap.objs.size + 3 ∨ c = s1.heap.objs.size ∨ c = s1.heap.objs.size + 1 := by simpa using hc
    rcases e with rfl | rfl | rfl | rfl | rfl
    all_goals first | exact Nat.le_refl _ | exact Nat.le_add_right _ _
  exact I1.fpOk hle (I1.hok.fresh hle)
/-- over such a zip, the items as they are -/
theorem it_zipM {K : PySem.W.Frag} {a b : Addr} {xs ys : List V} {H0 : Hp} {Stop : Hp → Prop} {Turn : (Hp → Prop) → V → Hp → Prop} (hl : xs.length = ys.length) (Pv : Nat → Hp → Prop) (h0 : Pv 0 H0) (hq : ∀ i H, i ≤ xs.length → Pv i H → SqL K H a xs ∧ SqT K H b ys)
    (hs : ∀ i x y T H, xs[i]? = some x → ys[i]? = some y → Pv i H → H T = none → Turn (Pv (i + 1)) (.ref T) (upd H T (.tup [x, y]))) (hd : ∀ H, Pv xs.length H → Stop H) :
    ∃ W : Nat → Nat → Hp → Prop, (∃ m, W 0 m H0) ∧ ∀ i m H, W i m H → ((ItzM K a b).stop i H ∧ Stop H) ∨ ((ItzM K a b).go i H ∧ ∃ Nx : Hp → Prop, (∀ H', Nx H' → ∃ m', m' < m ∧ W (i + 1) m' H') ∧ ∀ x H', (ItzM K a b).yld i H x H' → Turn Nx x H') := by
  refine ⟨fun i m H => m + i = xs.length ∧ Pv i H, ⟨xs.length, rfl, h0⟩, ?_⟩
  rintro i m H ⟨e, p⟩
  obtain ⟨q1, q2⟩ := hq i H (by omega) p
  cases m with
  | zero =>
    have e' : i = xs.length := by omega
    subst e'
    exact .inl ⟨⟨xs, ys, q1, q2, rfl, hl⟩, hd H p⟩
  | succ m =>
    have l1 : i < xs.length := by omega
    have l2 : i < ys.length := by omega
    refine .inr ⟨⟨xs, ys, _, _, q1, q2, List.getElem?_eq_getElem l1, List.getElem?_eq_getElem l2⟩, Pv (i + 1), fun H' p' => ⟨m, Nat.lt_succ_self _, by omega, p'⟩, ?_⟩
    rintro x H' ⟨T, x', y', rfl, nT, rfl, f1, f2⟩
    exact hs i x' y' T H (f1 xs q1) (f2 ys q2) p nT
theorem it_zipT {K : PySem.W.Frag} {a b : Addr} {xs ys : List V} {H0 : Hp} {Stop : Hp → Prop} {Turn : (Hp → Prop) → V → Hp → Prop} (hl : xs.length = ys.length) (Pv : Nat → Hp → Prop) (h0 : Pv 0 H0) (hq : ∀ i H, i ≤ xs.length → Pv i H → SqT K H a xs ∧ SqT K H b ys)
    (hs : ∀ i x y T H, xs[i]? = some x → ys[i]? = some y → Pv i H → H T = none → Turn (Pv (i + 1)) (.ref T) (upd H T (.tup [x, y]))) (hd : ∀ H, Pv xs.length H → Stop H) :
    ∃ W : Nat → Nat → Hp → Prop, (∃ m, W 0 m H0) ∧ ∀ i m H, W i m H → ((RZ.ItzT K a b).stop i H ∧ Stop H) ∨ ((RZ.ItzT K a b).go i H ∧ ∃ Nx : Hp → Prop, (∀ H', Nx H' → ∃ m', m' < m ∧ W (i + 1) m' H') ∧ ∀ x H', (RZ.ItzT K a b).yld i H x H' → Turn Nx x H') := by
  refine ⟨fun i m H => m + i = xs.length ∧ Pv i H, ⟨xs.length, rfl, h0⟩, ?_⟩
  rintro i m H ⟨e, p⟩
  obtain ⟨q1, q2⟩ := hq i H (by omega) p
  cases m with
  | zero =>
    have e' : i = xs.length := by omega
    subst e'
    exact .inl ⟨⟨xs, ys, q1, q2, .inl (Nat.le_refl _)⟩, hd H p⟩
  | succ m =>
    have l1 : i < xs.length := by omega
    have l2 : i < ys.length := by omega
    refine .inr ⟨⟨xs, ys, _, _, q1, q2, List.getElem?_eq_getElem l1, List.getElem?_eq_getElem l2⟩, Pv (i + 1), fun H' p' => ⟨m, Nat.lt_succ_self _, by omega, p'⟩, ?_⟩
    rintro x H' ⟨T, x', y', rfl, nT, rfl, f1, f2⟩
    exact hs i x' y' T H (f1 xs q1) (f2 ys q2) p nT
end Eld
set_option Elab.async false
set_option maxRecDepth 100000
set_option maxHeartbeats 4000000
set_option linter.all false
namespace Eld
open PySem PySem.Spec PyProof.Rows L2
/-! ## try with several clauses, each with a name for the exception or without one -/
abbrev Suit := Addr → Value → Option Addr → TS
/-- the clauses' names cleared on the way out -/
def clr (o : Option Nat) (D : Ends) : Ends := match o with
  | none => D
  | some i => { nx := fun τ G => D.nx (τ.set i none) G, rt := D.rt, bk := fun τ G => D.bk (τ.set i none) G, ct := fun τ G => D.ct (τ.set i none) G }
def nam (o : Option Nat) (e : Addr) (τ : L2.St) : L2.St := match o with
  | none => τ
  | some i => τ.set i (some (.ref e))
/-- what the clauses wish of an exception, one after another -/
def wMix (K : PySem.W.Frag) (Wo : WX) (D : Ends) : List (Value × Option Nat × Suit) → WX
  | [] => Wo
  | (c, o, ts) :: r => fun cls d τ G => ∃ b, PySem.W.exmOne K cls c = some b ∧ (b = true → ∀ e, G e = none → ts e cls d (clr o D) (nam o e τ) G) ∧ (b = false → wMix K Wo D r cls d τ G)
inductive HdsM (X : Cx) : List ExceptHandler → List (Value × Option Nat × Suit) → Prop
  | nil : HdsM X [] []
  | bare {x : Str} {c : Value} {ts : Suit} {b0 : Stmt} {su : List Stmt} {p1 p2 : Pos} {hs : List ExceptHandler} {l : List (Value × Option Nat × Suit)} (hc : Names X x c)
      (h : ∀ (e : Addr) (oe : Obj) (cls : Value) (d : Option Addr) (pn : List (Addr × Obj)), Zc cls d oe → (∃ vs, oe.data = .fields vs) → PSs (X.suite e ((e, oe) :: pn)) (b0 :: su) (ts e cls d)) (r : HdsM X hs l) :
      HdsM X (.ExceptHandler (some (.Name x p1)) none (b0 :: su) p2 :: hs) ((c, none, ts) :: l)
  | named {x n : Str} {c : Value} {i : Nat} {ts : Suit} {b0 : Stmt} {su : List Stmt} {p1 p2 : Pos} {hs : List ExceptHandler} {l : List (Value × Option Nat × Suit)} (hN : X.N.Nodup) (hi : X.N[i]? = some n) (hl : X.env.kindOf n = some .local) (hc : Names X x c)
      (h : ∀ (e : Addr) (oe : Obj) (cls : Value) (d : Option Addr) (pn : List (Addr × Obj)), Zc cls d oe → (∃ vs, oe.data = .fields vs) → PSs (X.suite e ((e, oe) :: pn)) (b0 :: su) (ts e cls d)) (r : HdsM X hs l) :
      HdsM X (.ExceptHandler (some (.Name x p1)) (some n) (b0 :: su) p2 :: hs) ((c, some i, ts) :: l)
section
variable {X : Cx} {body : List Stmt} {h0 : ExceptHandler} {hds : List ExceptHandler} {l : List (Value × Option Nat × Suit)} {pos : Pos} {tb : WX → TS} {Wo : WX}
theorem ps_try_mix (st : X.stack = X.env :: X.outer) (fr : X.env.frame = some X.env.locals) (tk : Takes X Wo)
    (bo : ∀ (W : WX) (pn : List (Addr × Obj)) (xe : Value → Shared → Prop), Takes (X.tr pn xe) W → PassesOwn (model X.prog X.w) X.A X.env xe → PSs (X.tr pn xe) body (tb W))
    (hh : HdsM X (h0 :: hds) l) : PS X (.Try body (h0 :: hds) [] [] pos) (fun D σ H => tb (wMix X.K Wo D l) D σ H) := by
  constructor
  intro pins s σ H D I q
  have ok := I.ok
  have frs_ : X.A.frames = some (X.env :: X.outer) := st ▸ ok.frames
  let out : Value → Shared → Prop := fun u t => wpAny (model X.prog X.w) X.A (noteFrame u X.env) (fun _ t2 => wpAny (model X.prog X.w) X.A (setFlight u none) (fun _ t3 => wpAny (model X.prog X.w) X.A (handleBy u X.env (h0 :: hds)) (SP X pins D) X.xe t3) X.xe t2) X.xe t
  have tko : Takes (X.tr (X.pn ++ pins) out) (wMix X.K Wo D l) := by
    rintro u t ⟨e, BB, s0, pins', τ, G, cls, d, rfl, J0, nb, up, sky, na, os, ag, w⟩
    have J : Inv X pins τ G s0 := J0.ofTry ok
    have sk2 : Sky BB (X.env :: X.outer) e (Zc cls d) X.env.locals t.heap := st ▸ sky
    refine Sky.land Zc.steady frs_ fr sk2 ?_
    intro g3 f3 u3
    have J3 : Inv X pins τ G { t with heap := g3 } := J.landed nb f3.1 (up.trans u3) os ag
    obtain ⟨o3, v3, e3, z3, d3⟩ := f3.there
    have off : e ∉ frs (X.env :: X.outer) := by
      intro hm
      obtain ⟨_, o', e', hnf⟩ := f3.2.2.1.mem hm
      rw [e3] at e'
      cases e'
      exact hnf _ d3
    have nL : e ≠ X.env.locals := by
      intro z
      exact off (List.mem_filterMap.mpr ⟨X.env, List.mem_cons_self, z ▸ fr⟩)
    have nF : e ∉ X.fs := by
      intro hm
      obtain ⟨a1, a2, a3⟩ := List.mem_filterMap.mp hm
      exact off (List.mem_filterMap.mpr ⟨a1, List.mem_cons_of_mem _ a2, a3⟩)
    have S3 := J3.suite e3 d3 na nL nF
    have all : ∀ (hs' : List ExceptHandler) (l' : List (Value × Option Nat × Suit)), HdsM X hs' l' → wMix X.K Wo D l' cls d τ G → wpAny (model X.prog X.w) X.A (handleBy (.ref e) X.env hs') (SP X pins D) X.xe { t with heap := g3 } := by
      intro hs' l' hk
      have LT : PySem.W.Looks (model X.prog X.w) g3 (typeOf (.ref e)) cls := fun A Q E s k q => wpAny_typeOf_ref (k _ _ e3) (by rw [z3.1]; exact q)
      have ask : ∀ {x : Str} {c : Value} {p1 : Pos}, Names X x c → ∀ {Q E : Value → Shared → Prop}, Q c { t with heap := g3 } → wpAny (model X.prog X.w) (X.A.mark (some (.ref e))) (eval (.Name x p1) X.env) Q E { t with heap := g3 } := by
        rintro x c p1 ⟨hg, hdbg, hm | ⟨hm, hv, hnn⟩⟩ Q E q
        · exact ld_glob (X := X.suite e ((e, o3) :: (X.pn ++ pins))) S3 hg hm q hdbg
        · exact ld_blt (X := X.suite e ((e, o3) :: (X.pn ++ pins))) S3 hg hm hv q hnn hdbg
      induction hk with
      | nil =>
        intro w
        refine wpAny_handleBy_nil ?_
        obtain ⟨_, _, _, oe, vs, T, _, _, he, _, hd, h1, _⟩ := id f3
        unfold PySem.passOn
        refine wpAny_bind (wpAny_field he hd h1 ?_)
        rw [if_neg (show ¬ ((Value.ref T == Value.none) = true) by simp)]
        have last : wpAny (model X.prog X.w) X.A (setFlight (.ref e) X.env.frame) (fun _ t4 => wpAny (model X.prog X.w) X.A (throw (.ref e) : Sem Flow) (SP X pins D) X.xe t4) X.xe { t with heap := g3 } := by
          rw [fr]
          refine HandSPX.setFlight_upZ f3 ?_
          intro g4 f4 u4
          refine wpAny_throw (tk _ _ ?_)
          exact ⟨e, BB, s0, pins, τ, G, cls, d, rfl, J, nb, (up.trans u3).trans u4, .inr (.inr (st ▸ f4)), na, os, ag, w⟩
        first | exact wpAny_bind (wpAny_pure (wpAny_bind last)) | exact wpAny_bind last
      | @bare x c ts b0 su p1 p2 hs2 l2 hc hsu r ih =>
        rintro ⟨b, hb1, yes, no⟩
        have LM := PySem.W.exm_one (M := model X.prog X.w) (J3.kIn) LT hb1
        refine wpAny_handleBy_cons (codeAny_handlers_test (ask hc (LM.here ?_))) (by intro q; cases q)
        cases b with
        | false => exact ih (no rfl)
        | true =>
          refine codeAny_handlers_suite (HandSPX.lands_againZ f3 ?_)
          intro g4 f4 u4
          have J4 : Inv X pins τ G { t with heap := g4 } := J.landed nb f4.1 ((up.trans u3).trans u4) os ag
          obtain ⟨o4, v4, e4, z4, d4⟩ := f4.there
          have S4 := J4.suite e4 d4 na nL nF
          refine wpAny_mono ((hsu e o4 cls d (X.pn ++ pins) z4 ⟨_, d4⟩).run [] _ _ G _ S4 (yes rfl e na)) ?_ (fun _ _ z => False.elim z)
          intro fl t6 hq
          cases fl with
          | next => exact let ⟨τ6, G6, S6, q6⟩ := hq; ⟨τ6, G6, S6.unsuite ok, q6⟩
          | brk => exact let ⟨τ6, G6, S6, q6⟩ := hq; ⟨τ6, G6, S6.unsuite ok, q6⟩
          | cont => exact let ⟨τ6, G6, S6, q6⟩ := hq; ⟨τ6, G6, S6.unsuite ok, q6⟩
          | ret u => exact let ⟨x6, τ6, G6, S6, r6, q6⟩ := hq; ⟨x6, τ6, G6, S6.unsuite ok, r6, q6⟩
      | @named x n c i ts b0 su p1 p2 hs2 l2 hN hi hl hc hsu r ih =>
        rintro ⟨b, hb1, yes, no⟩
        have LM := PySem.W.exm_one (M := model X.prog X.w) (J3.kIn) LT hb1
        refine wpAny_handleBy_cons (codeAny_handlers_test (ask hc (LM.here ?_))) (by intro q; cases q)
        cases b with
        | false => exact ih (no rfl)
        | true =>
          refine codeAny_handlers_suite_as (HandSPX.lands_againZ f3 ?_)
          intro g4 f4 u4
          have J4 : Inv X pins τ G { t with heap := g4 } := J.landed nb f4.1 ((up.trans u3).trans u4) os ag
          obtain ⟨o4, v4, e4, z4, d4⟩ := f4.there
          have S4 := J4.suite e4 d4 na nL nF
          refine store_ok (X := X.suite e ((e, o4) :: (X.pn ++ pins))) (v := .ref e) S4 hN hi (.inl hl) rfl ?_ (.inr hl)
          intro t5 S5
          refine wpAny_mono ((hsu e o4 cls d (X.pn ++ pins) z4 ⟨_, d4⟩).run [] t5 _ G _ S5 (yes rfl e na)) ?_ (fun _ _ z => False.elim z)
          intro fl t6 hq
          have gone : ∀ {τ6 : L2.St} {G6 : Hp} {Q : Shared → Prop}, Inv (X.suite e ((e, o4) :: (X.pn ++ pins))) [] τ6 G6 t6 → (∀ t7, Inv X pins (τ6.set i none) G6 t7 → Q t7) →
              wpAny (model X.prog X.w) X.A (do bindName X.env n .none; unbindBehindTheSuite X.env n p2) (fun _ t7 => Q t7) X.xe t6 := by
            intro τ6 G6 Q S6 hq
            exact gone_ok (S6.unsuite ok) hN hi hl hq
          cases fl with
          | next =>
            obtain ⟨_, _, S6, q6⟩ := hq
            exact gone S6 fun t7 J7 => ⟨_, _, J7, q6⟩
          | brk =>
            obtain ⟨_, _, S6, q6⟩ := hq
            exact gone S6 fun t7 J7 => ⟨_, _, J7, q6⟩
          | cont =>
            obtain ⟨_, _, S6, q6⟩ := hq
            exact gone S6 fun t7 J7 => ⟨_, _, J7, q6⟩
          | ret u =>
            obtain ⟨_, _, _, S6, r6, q6⟩ := hq
            exact gone S6 fun t7 J7 => ⟨_, _, _, J7, r6, q6⟩
    exact all _ _ hh w
  refine wpAny_Try_except (wpAny_mono ((bo _ (X.pn ++ pins) out tko PassesOwn.looking).run [] s σ H D (I.toTry _) q) ?_ (fun _ _ h => h))
  intro fl t1 hq
  cases fl with
  | next => exact let ⟨τ, G, J, q⟩ := hq; wpAny_execs_nil ⟨τ, G, J.ofTry ok, q⟩
  | brk => exact let ⟨τ, G, J, q⟩ := hq; ⟨τ, G, J.ofTry ok, q⟩
  | cont => exact let ⟨τ, G, J, q⟩ := hq; ⟨τ, G, J.ofTry ok, q⟩
  | ret u => exact let ⟨x, τ, G, J, r, q⟩ := hq; ⟨x, τ, G, J.ofTry ok, r, q⟩
end
end Eld
set_option Elab.async false
set_option maxRecDepth 100000
set_option maxHeartbeats 4000000
set_option linter.all false
namespace Eld
open PySem PySem.Spec PyProof.Rows L2
/-! ## defs that may raise, and their calls, the wish of an exception hanging on the slots -/
section
variable {P : Program} {w : World} {K : PySem.W.Frag} {mg : Str → Option Value} {base : Heap}
theorem okGX {x ql : Str} {st : Stmt} {f : Addr} {fd : FuncData} {N ps : List Str} {k : Nat} {sp : Sp} (F : Fun K x ql st f fd) (S : FnScope N ps (defScope st)) (ln : ∀ vs H Q E, sp vs H Q E → vs.length = ps.length)
    (bo : ∀ (cdv : Value) (B : Around) (up : List Env) (z : Shared) (H : Hp) (vs : List V) (Q : VK) (E : XK), (B.deeper (envOfC ql (defScope st) z.heap.objs.size f cdv)).guards = some [] → Room k (B.deeper (envOfC ql (defScope st) z.heap.objs.size f cdv)) → sp vs H Q E →
      ∃ t, PSs (cxOf (L2.CX P w) P w K mg base N ql (defScope st) f cdv B up z H E) (defBody st) t ∧ t { nx := fun _ G => Q .non G, rt := Q } (start N vs) H) : FnG P w K mg base (L2.CX P w) (k + 1) f fd ps sp := by
  obtain ⟨oc, od, kV, doc, pm, an, cdv, ct, osl, rfl, lk, cd⟩ := F.ex
  refine fnG_of lk cd S ln ?_
  intro B up z H vs Q E gd rm hs
  exact bo cdv B up z H vs Q E gd rm hs
end
/-- called with the values xs by place and ys by the names ks -/
def CallVS (X : Cx) (fv : Value) (ks : List Str) (r : L2.St → List V → List V → Hp → VK → Prop) : Prop :=
  ∀ (pins : List (Addr × Obj)) (s : Shared) (σ : L2.St) (H : Hp) (xs ys : List V) (us ws : List Value) (Q : VK), Inv X pins σ H s → Vals xs us → Vals ys ws → r σ xs ys H Q →
    wpAny (model X.prog X.w) X.A (call fv us (ks.zip ws)) (EP X pins σ Q) X.xe s
section
variable {X : Cx} {CX : CXT} {k n : Nat} {f C : Addr} {fd : FuncData} {ps ks : List Str} {sp : Sp} {E : L2.St → XK} {g : List Value → List Value → List Value} {gV : List V → List V → List V}
def rFnS (n m : Nat) (gV : List V → List V → List V) (sp : Sp) (E : L2.St → XK) : L2.St → List V → List V → Hp → VK → Prop := fun σ xs ys H Q => xs.length = n ∧ ys.length = m ∧ sp (gV xs ys) H Q (E σ)
theorem callVS_fn (F : FnG X.prog X.w X.K X.mg X.base CX k f fd ps sp) (hb : KBn X.K fd ps n ks g gV) (hx : ∀ σ, PassesAt CX X σ (E σ)) (hG : X.A.guards = some []) (hr : Room k X.A) : CallVS X (.ref f) ks (rFnS n ks.length gV sp E) := by
  rintro pins s σ H xs ys us ws Q I rx ry ⟨l1, l2, h⟩
  have e1 : us.length = n := rx.length ▸ l1
  have e2 : ws.length = ks.length := ry.length ▸ l2
  refine wpAny_call (codeAny_mono (F.run X.A X.stack s H ⟨us, ks.zip ws⟩ (g us ws) (gV xs ys) Q (E σ) hG hr I.env0 (hb.to s us ws I.kIn e1 e2) (hb.rel rx ry) h) ?_)
  intro res s' hq
  match res, hq with
  | .error e, hq => exact hx σ pins H s e s' I hq
  | .ok (.ret u), hq => exact I.after hq
def rMkS (C : Addr) (n m : Nat) (gV : List V → List V → List V) (sp : Sp) (E : L2.St → XK) : L2.St → List V → List V → Hp → VK → Prop := fun σ xs ys H Q => xs.length = n ∧ ys.length = m ∧
  ∀ x dx, H x = none → H dx = none → dx ≠ x → sp (gV (.ref x :: xs) ys) (upd (upd H dx (.own x)) x (.ins C dx [])) (fun v G => v = .non ∧ Q (.ref x) G) (E σ)
theorem callVS_mk (M : Mk X.K C f) (F : FnG X.prog X.w X.K X.mg X.base CX k f fd ps sp) (hb : KBn X.K fd ps (n + 1) ks g gV) (hx : ∀ σ, PassesAt CX X σ (E σ)) (hG : X.A.guards = some []) (hr : Room (k + 1) X.A) : CallVS X (.ref C) ks (rMkS C n ks.length gV sp E) := by
  rintro pins s σ H xs ys us ws Q I rx ry ⟨l1, l2, h⟩
  have e1 : (Value.ref (s.heap.objs.size + 1) :: us).length = n + 1 := by
    rw [List.length_cons, ← rx.length, l1]
  have e2 : ws.length = ks.length := ry.length ▸ l2
  have hs := h (s.heap.objs.size + 1) s.heap.objs.size (I.hok.fresh (Nat.le_succ _)) (I.hok.fresh (Nat.le_refl _)) (Nat.ne_of_lt (Nat.lt_succ_self _))
  have J := Inv.made (C := C) I
  have rx' : Vals (V.ref (s.heap.objs.size + 1) :: xs) (Value.ref (s.heap.objs.size + 1) :: us) := .cons rfl rx
  refine wpAny_call (make_map (f := f) I.kIn M.makes M.init (beq_iff_eq.mp M.fn) (codeAny_mono (F.run _ X.stack _ _ ⟨Value.ref (s.heap.objs.size + 1) :: us, ks.zip ws⟩ _ _ _ (E σ) (make_guards hG) (hr.make C us (ks.zip ws))
    (J.env0.make C us (ks.zip ws)) (hb.to _ _ ws J.kIn e1 e2) (hb.rel rx' ry) hs) ?_))
  intro res s' hq
  match res, hq with
  | .error e, hq => exact hx σ pins _ _ e s' J hq
  | .ok (.ret u), hq =>
    obtain ⟨v, G, I', rv, ev, q⟩ := J.after hq
    subst ev
    exact ⟨rv, ⟨V.ref (s.heap.objs.size + 1), G, I', rfl, q⟩⟩
end
/-- the reading of a call -/
def tClS (r : L2.St → List V → List V → Hp → VK → Prop) (t tk : TA) : TE := fun σ H Q => t σ H fun xs H1 => tk σ H1 fun ys H2 => r σ xs ys H2 Q
section
variable {X : Cx} {ks : List Str} {fv : Value} {r : L2.St → List V → List V → Hp → VK → Prop} {x m : Str} {p pos apos : Pos} {e o : Expr} {es : List Expr} {kws : List Keyword} {ta : TE} {t tk : TA}
/-- f(e, ..) -/
theorem pn_posS (c : CallVS X fv [] r) (hg : Gl X x) (hm : X.mg x = some fv) (hk : PySem.W.keepIn X.K fv = true) (ha : PA X (e :: es) t) (hd : (x == ("__debug__" : Str)) = false := by decide)
    (he : starEach (e :: es) X.env = (false, eval e X.env) :: starEach es X.env := by rfl) (hp : (backTo pos (starEach es X.env)).any (·.1) = false := by rfl) : PE X (.Call (.Name x p) (e :: es) [] pos) (tClS r t tNil) := by
  constructor
  intro pins s σ H Q I h
  exact wpAny_Call_Name_kw (ld_glob I hg hm (PySem.W.callWith_K (h₀ := X.base) I.ok.mod.kin hk (thn (ha.run pos pins s σ H _ I h) fun us s1 ⟨xs, H1, I1, rx, q⟩ => ⟨I1.kIn, c pins s1 σ H1 xs [] us [] Q I1 rx .nil q⟩) he hp) hd)
/-- f() -/
theorem pn_noneS (c : CallVS X fv [] r) (hg : Gl X x) (hm : X.mg x = some fv) (hk : PySem.W.keepIn X.K fv = true) (hd : (x == ("__debug__" : Str)) = false := by decide) : PE X (.Call (.Name x p) [] [] pos) (tClS r tNil tNil) := by
  constructor
  intro pins s σ H Q I h
  exact wpAny_Call_Name_kw (ld_glob I hg hm (PySem.W.callWith_K0 I.kIn hk (c pins s σ H [] [] [] [] Q I .nil .nil h)) hd)
/-- f(e, .., k = v, ..) -/
theorem pn_kwS (c : CallVS X fv ks r) (hg : Gl X x) (hm : X.mg x = some fv) (hk : PySem.W.keepIn X.K fv = true) (ha : PA X (e :: es) t) (hkw : PK X kws tk) (hall : (backToKw pos (keywordEach kws X.env)).all (·.1.isSome) = true := by rfl)
    (hks : (backToKw pos (keywordEach kws X.env)).filterMap (·.1) = ks := by rfl) (hd : (x == ("__debug__" : Str)) = false := by decide) (he : starEach (e :: es) X.env = (false, eval e X.env) :: starEach es X.env := by rfl)
    (hp : ((backTo pos (starEach (e :: es) X.env)).any (·.1) || (backToKw pos (keywordEach kws X.env)).any (·.1.isNone)) = false := by rfl) : PE X (.Call (.Name x p) (e :: es) kws pos) (tClS r t tk) := by
  constructor
  intro pins s σ H Q I h
  subst hks
  exact wpAny_Call_Name_kw (ld_glob I hg hm (PySem.W.callWith_KW (h₀ := X.base) I.ok.mod.kin hk hall (thn (ha.run pos pins s σ H _ I h) fun us s1 ⟨xs, H1, I1, rx, q⟩ =>
    thn (hkw.run pos pins s1 σ H1 _ I1 q) fun ws s2 ⟨ys, H2, I2, ry, q2⟩ => ⟨I2.kIn, c pins s2 σ H2 xs ys us ws Q I2 rx ry q2⟩) hp he) hd)
/-- f(k = v, ..) -/
theorem pn_kw0S (c : CallVS X fv ks r) (hg : Gl X x) (hm : X.mg x = some fv) (hk : PySem.W.keepIn X.K fv = true) (hkw : PK X kws tk) (hall : (backToKw pos (keywordEach kws X.env)).all (·.1.isSome) = true := by rfl)
    (hks : (backToKw pos (keywordEach kws X.env)).filterMap (·.1) = ks := by rfl) (hd : (x == ("__debug__" : Str)) = false := by decide)
    (hp : ((backTo pos (starEach [] X.env)).any (·.1) || (backToKw pos (keywordEach kws X.env)).any (·.1.isNone)) = false := by rfl) : PE X (.Call (.Name x p) [] kws pos) (tClS r tNil tk) := by
  constructor
  intro pins s σ H Q I h
  subst hks
  exact wpAny_Call_Name_kw (ld_glob I hg hm (PySem.W.callWith_KW0 (h₀ := X.base) I.ok.mod.kin hk hall (thn (hkw.run pos pins s σ H _ I h) fun ws s2 ⟨ys, H2, I2, ry, q2⟩ => ⟨I2.kIn, c pins s2 σ H2 [] ys [] ws Q I2 .nil ry q2⟩) hp) hd)
/-- o.m(..): o is an instance of the class at C -/
def tMtS (C : Addr) (m : Str) (r : L2.St → List V → List V → Hp → VK → Prop) (ta : TE) (t tk : TA) : TE := fun σ H Q => ta σ H fun x H1 => ∃ a dx fs, x = .ref a ∧ H1 a = some (.ins C dx fs) ∧ List.lookup m fs = none ∧
  t σ H1 fun xs H2 => tk σ H2 fun ys H3 => r σ (.ref a :: xs) ys H3 Q
variable {C f : Addr} {pl : Sem Bool}
theorem pm_posS (c : CallVS X (.ref f) [] r) (hc : Cls X.K C) (hm : Meth X.K C m f) (ho : PE X o ta) (ha : PA X (e :: es) t) (he : starEach (e :: es) X.env = (false, eval e X.env) :: starEach es X.env := by rfl) (hp : (backTo pos (starEach es X.env)).any (·.1) = false := by rfl)
    (ht : eval (.Call (.Attribute o m apos) (e :: es) [] pos) X.env = (do
      let ov ← eval o X.env
      standAt apos.atName
      let (f, first) ← holding [ov] (getMethod ov m pl)
      callWith pos f first (backTo pos (starEach (e :: es) X.env)) (backToKw pos (keywordEach [] X.env))) := by rfl) : PE X (.Call (.Attribute o m apos) (e :: es) [] pos) (tMtS C m r ta t tNil) := by
  constructor
  intro pins s σ H Q I h
  refine PySem.W.methodCall_KW (pl := pl) (thn (ho.run pins s σ H _ I h) ?_) ht
  rintro u s1 ⟨y, H1, I1, ry, a, dx, fs, rfl, ea, l, q⟩
  obtain rfl : u = Value.ref a := ry
  exact getmeth_ok I1 ea hc hm l (PySem.W.callWith_K (first := [.ref a]) (h₀ := X.base) I.ok.mod.kin hm.kp (thn (ha.run pos pins s1 σ H1 _ I1 q) fun us s2 ⟨xs, H2, I2, rx, q2⟩ => ⟨I2.kIn, c pins s2 σ H2 _ [] (.ref a :: us) [] Q I2 (.cons (show RelV (V.ref a) (Value.ref a) from rfl) rx) .nil q2⟩) he hp)
theorem pm_noneS (c : CallVS X (.ref f) [] r) (hc : Cls X.K C) (hm : Meth X.K C m f) (ho : PE X o ta)
    (ht : eval (.Call (.Attribute o m apos) [] [] pos) X.env = (do
      let ov ← eval o X.env
      standAt apos.atName
      let (f, first) ← holding [ov] (getMethod ov m pl)
      callWith pos f first (backTo pos (starEach [] X.env)) (backToKw pos (keywordEach [] X.env))) := by rfl) : PE X (.Call (.Attribute o m apos) [] [] pos) (tMtS C m r ta tNil tNil) := by
  constructor
  intro pins s σ H Q I h
  refine PySem.W.methodCall_KW (pl := pl) (thn (ho.run pins s σ H _ I h) ?_) ht
  rintro u s1 ⟨y, H1, I1, ry, a, dx, fs, rfl, ea, l, q⟩
  obtain rfl : u = Value.ref a := ry
  exact getmeth_ok I1 ea hc hm l (PySem.W.callWith_K0 (first := [.ref a]) I1.kIn hm.kp (c pins s1 σ H1 _ [] [.ref a] [] Q I1 (.cons (show RelV (V.ref a) (Value.ref a) from rfl) .nil) .nil q))
theorem pm_kw0S (c : CallVS X (.ref f) ks r) (hc : Cls X.K C) (hm : Meth X.K C m f) (ho : PE X o ta) (hkw : PK X kws tk) (hall : (backToKw pos (keywordEach kws X.env)).all (·.1.isSome) = true := by rfl)
    (hks : (backToKw pos (keywordEach kws X.env)).filterMap (·.1) = ks := by rfl)
    (hp : ((backTo pos (starEach [] X.env)).any (·.1) || (backToKw pos (keywordEach kws X.env)).any (·.1.isNone)) = false := by rfl)
    (ht : eval (.Call (.Attribute o m apos) [] kws pos) X.env = (do
      let ov ← eval o X.env
      standAt apos.atName
      let (f, first) ← holding [ov] (getMethod ov m pl)
      callWith pos f first (backTo pos (starEach [] X.env)) (backToKw pos (keywordEach kws X.env))) := by rfl) : PE X (.Call (.Attribute o m apos) [] kws pos) (tMtS C m r ta tNil tk) := by
  constructor
  intro pins s σ H Q I h
  subst hks
  refine PySem.W.methodCall_KW (pl := pl) (thn (ho.run pins s σ H _ I h) ?_) ht
  rintro u s1 ⟨y, H1, I1, ry, a, dx, fs, rfl, ea, l, q⟩
  obtain rfl : u = Value.ref a := ry
  exact getmeth_ok I1 ea hc hm l (PySem.W.callWith_KW0 (first := [.ref a]) (h₀ := X.base) I.ok.mod.kin hm.kp hall (thn (hkw.run pos pins s1 σ H1 _ I1 q) fun ws s2 ⟨ys, H2, I2, ry', q2⟩ => ⟨I2.kIn, c pins s2 σ H2 _ ys [.ref a] ws Q I2 (.cons (show RelV (V.ref a) (Value.ref a) from rfl) .nil) ry' q2⟩) hp)
end
end Eld
set_option Elab.async false
set_option maxRecDepth 100000
set_option maxHeartbeats 4000000
set_option linter.all false
namespace Eld
open PySem PySem.Spec PyProof.Rows L2
/-! ## data with empty dicts in it -/
mutual
inductive Dx (K : PySem.W.Frag) (H : Hp) : V → PyData → Prop
  | non : Dx K H .non .none
  | bl (b : Bool) : Dx K H (.bl b) (.bool b)
  | int (i : Int) : Dx K H (.int i) (.int i)
  | str (x : Str) : Dx K H (.str x) (.str x)
  | lst {a : Addr} {xs : List V} {ds : List PyData} (h : H a = some (.lst xs)) (r : DxAll K H xs ds) : Dx K H (.ref a) (.list ds)
  | tup {a : Addr} {xs : List V} {ds : List PyData} (h : H a = some (.tup xs)) (r : DxAll K H xs ds) : Dx K H (.ref a) (.tuple ds)
  | emp {a : Addr} (h : H a = some (.dK [])) : Dx K H (.ref a) (.dict [])
inductive DxAll (K : PySem.W.Frag) (H : Hp) : List V → List PyData → Prop
  | nil : DxAll K H [] []
  | cons {v : V} {vs : List V} {d : PyData} {ds : List PyData} (h : Dx K H v d) (r : DxAll K H vs ds) : DxAll K H (v :: vs) (d :: ds)
end
section
variable {K : PySem.W.Frag} {H H' : Hp}
mutual
theorem Dx.same (s : Same H H') : ∀ (d : PyData) (v : V), Dx K H v d → Dx K H' v d
  | .none, _, h => by cases h; exact .non
  | .bool b, _, h => by cases h; exact .bl b
  | .int i, _, h => by cases h; exact .int i
  | .str x, _, h => by cases h; exact .str x
  | .list ds, _, h => by
    cases h with
    | lst e r => exact .lst (s _ _ e) (DxAll.same s ds _ r)
  | .tuple ds, _, h => by
    cases h with
    | tup e r => exact .tup (s _ _ e) (DxAll.same s ds _ r)
  | .dict _, _, h => by
    cases h with
    | emp e => exact .emp (s _ _ e)
theorem DxAll.same (s : Same H H') : ∀ (ds : List PyData) (vs : List V), DxAll K H vs ds → DxAll K H' vs ds
  | [], _, h => by cases h; exact .nil
  | d :: ds, _, h => by
    cases h with
    | cons h r => exact .cons (Dx.same s d _ h) (DxAll.same s ds _ r)
end
/-- the type's name -/
def tyD : PyData → String
  | .none => "NoneType"
  | .bool _ => "bool"
  | .int _ => "int"
  | .str _ => "str"
  | .list _ => "list"
  | .tuple _ => "tuple"
  | .dict _ => "dict"
theorem Dx.ty : ∀ {v : V} {d : PyData}, Dx K H v d → TyX K H v (.type (tyD d))
  | _, _, .non => .base .non
  | _, _, .bl b => .base (.bl b)
  | _, _, .int i => .base (.int i)
  | _, _, .str x => .base (.str x)
  | _, _, .lst h _ => .base (.lst h)
  | _, _, .tup h _ => .base (.tup h)
  | _, _, .emp h => .base (.dK h)
mutual
/-- no dict in it: plain data -/
theorem Dx.plain : ∀ (d : PyData) (v : V), Dx K H v d → d.hasDict = false → Dp K H v d
  | .none, _, h, _ => by cases h; exact .non
  | .bool b, _, h, _ => by cases h; exact .bl b
  | .int i, _, h, _ => by cases h; exact .int i
  | .str x, _, h, _ => by cases h; exact .str x
  | .list ds, _, h, n => by
    cases h with
    | lst e r => exact .lst (SqL.of e) (DxAll.plain ds _ r (by simpa [PyData.hasDict] using n))
  | .tuple ds, _, h, n => by
    cases h with
    | tup e r => exact .tup (SqT.of e) (DxAll.plain ds _ r (by simpa [PyData.hasDict] using n))
  | .dict _, _, h, n => by simp [PyData.hasDict] at n
theorem DxAll.plain : ∀ (ds : List PyData) (vs : List V), DxAll K H vs ds → PyData.hasDictAll ds = false → DpAll K H vs ds
  | [], _, h, _ => by cases h; exact .nil
  | d :: ds, _, h, n => by
    simp only [PyData.hasDictAll, Bool.or_eq_false_iff] at n
    cases h with
    | cons h r => exact .cons (Dx.plain d _ h n.1) (DxAll.plain ds _ r n.2)
end
theorem DxAll.length : ∀ {vs : List V} {ds : List PyData}, DxAll K H vs ds → vs.length = ds.length
  | _, _, .nil => rfl
  | _, _, .cons _ r => by rw [List.length_cons, List.length_cons, DxAll.length r]
theorem DxAll.at_ : ∀ {vs : List V} {ds : List PyData} {i : Nat} {v : V}, DxAll K H vs ds → vs[i]? = some v → ∃ d, ds[i]? = some d ∧ Dx K H v d
  | _, _, _, _, .nil, e => by simp at e
  | _, _, 0, _, .cons h _, e => by cases e; exact ⟨_, rfl, h⟩
  | _, _, i + 1, _, .cons _ r, e => DxAll.at_ (i := i) r (by simpa using e)
end
section
variable {X : Cx} {pins : List (Addr × Obj)} {σ : L2.St} {H : Hp} {s : Shared}
/-- the table of modules is there ahead of all -/
def ModsD (base : Heap) : Prop := ∃ o : Obj, base.get? sysModules = some o
theorem not_mods (I : Inv X pins σ H s) (m : ModsD X.base) {a : Addr} {o : HO} (e : H a = some o) : a ≠ sysModules := by
  rintro rfl
  obtain ⟨o', k⟩ := m
  rw [(I.bs _ _ k).2] at e
  cases e
mutual
theorem Dx.reads (I : Inv X pins σ H s) (m : ModsD X.base) : ∀ (d : PyData) (v : V) (u : Value), Dx X.K H v d → RelV v u → ∃ as, Reads s.heap u d as ∧ sysModules ∉ as
  | .none, _, _, h, r => by
    cases h
    cases r
    exact ⟨_, .none, by simp⟩
  | .bool b, _, _, h, r => by
    cases h
    cases r
    exact ⟨_, .bool b, by simp⟩
  | .int i, _, _, h, r => by
    cases h
    obtain ⟨t, rfl⟩ := r
    exact ⟨_, .int i t, by simp⟩
  | .str x, _, _, h, r => by
    cases h
    obtain ⟨t, rfl⟩ := r
    exact ⟨_, .str x t, by simp⟩
  | .list ds, _, _, h, r => by
    cases h with
    | lst e ra =>
      cases r
      obtain ⟨its, rv, ⟨o, n, ho, hc, _, hd⟩, _⟩ := I.list (SqL.of e)
      obtain ⟨as, hr, hn⟩ := DxAll.reads I m ds _ its ra rv
      refine ⟨_, .list ho hc hd hr, ?_⟩
      simp only [List.mem_cons, not_or]
      exact ⟨fun z => not_mods I m e z.symm, hn⟩
  | .tuple ds, _, _, h, r => by
    cases h with
    | tup e ra =>
      cases r
      obtain ⟨its, rv, ⟨o, ho, hc, n, hd⟩, _⟩ := I.tuple (SqT.of e)
      obtain ⟨as, hr, hn⟩ := DxAll.reads I m ds _ its ra rv
      exact ⟨_, .tuple ho hc hd hr, hn⟩
  | .dict _, _, _, h, r => by
    cases h with
    | @emp a e =>
      cases r
      obtain ⟨_, ns, vs, kv, o, es, ep, ho, ex, hd, _, pr, _⟩ := (show ObjOk X.prog X.w H s.heap a (.dK []) from I.hok a _ e)
      cases kv
      have el : es.toList = [] := by
        cases h2 : es.toList with
        | nil => rfl
        | cons z zs => rw [h2] at pr; cases pr
      refine ⟨_, .dict (as := []) (bs := []) ho ex.1 hd (by rw [el]; exact .nil) (by rw [el]; exact .nil), ?_⟩
      simp only [List.nil_append, List.append_nil, List.mem_singleton]
      intro z
      rw [z] at ns
      simp at ns
theorem DxAll.reads (I : Inv X pins σ H s) (m : ModsD X.base) : ∀ (ds : List PyData) (vs : List V) (us : List Value), DxAll X.K H vs ds → Vals vs us → ∃ as, ReadsAll s.heap us ds as ∧ sysModules ∉ as
  | [], _, _, h, r => by
    cases h
    cases r
    exact ⟨_, .nil, by simp⟩
  | d :: ds, _, _, h, r => by
    cases h with
    | cons h1 h2 =>
      cases r with
      | cons r1 r2 =>
        obtain ⟨as, q1, n1⟩ := Dx.reads I m d _ _ h1 r1
        obtain ⟨bs, q2, n2⟩ := DxAll.reads I m ds _ _ h2 r2
        refine ⟨_, .cons q1 q2, ?_⟩
        simp only [List.mem_append, not_or]
        exact ⟨n1, n2⟩
end
def rReprX (K : PySem.W.Frag) : List V → Hp → VK → Prop := fun xs H Q => ∃ a d, xs = [.ref a] ∧ Dx K H (.ref a) d ∧ d.showable = true ∧ d.depth ≤ 60 ∧ d.shown.length ≤ sizeLine ∧ Q (.str d.shown) H
theorem call_reprX (m : ModsD X.base) (hG : X.A.guards = some []) (hu : X.A.units + 64 < cLine) : CallR X (.builtin "repr") (rReprX X.K) := by
  rintro pins s σ H xs us Q I r ⟨a, d, rfl, dx, sh, dd, sz, q⟩
  obtain ⟨u, rfl, ru⟩ := vals1 r
  obtain ⟨as, rd, nm⟩ := Dx.reads I m d _ u dx ru
  cases ru
  exact repr_of_reads' rd sh (fun _ => nm) hG (by omega) (fun _ _ e => e) (fun h' u tk hk => ⟨.str d.shown, H, I.kept hk, ⟨_, rfl⟩, q⟩) sz
end
end Eld
set_option Elab.async false
set_option maxRecDepth 100000
set_option maxHeartbeats 4000000
set_option linter.all false
namespace Eld
open PySem L2
/-! ## what k02's parts say for any row: readings, walks, heaps, the box of draws -/
theorem r_yes {σ : L2.St} {H : Hp} {q : Bool → Hp → Prop} (h : q true H) : tYes σ H q := h
theorem iteNT {A B : Prop} (h : B) : if (!true) = true then A else B := by
  rw [if_neg (by decide)]
  exact h
theorem iteNF {A B : Prop} (h : A) : if (!false) = true then A else B := by
  rw [if_pos (by decide)]
  exact h
theorem pe_ty {X : Cx} {x : Str} {pos : Pos} (T : String) (hg : Gl X x) (hm : X.mg x = none) (hv : bootBuiltins x = some (.type T)) (hn : x ≠ "__name__" := by decide) (hd : (x == ("__debug__" : Str)) = false := by decide) : PE X (.Name x pos) (tC (.ty T)) := pe_bltn hg hm hv rfl hn hd
theorem pe_gc {X : Cx} {x : Str} {v : V} {pos : Pos} (hg : Gl X x) (h : ∃ u, X.mg x = some u ∧ RelV v u) (hd : (x == ("__debug__" : Str)) = false := by decide) : PE X (.Name x pos) (tC v) := by
  obtain ⟨u, hm, r⟩ := h
  exact pe_glob hg hm r hd
/-! ## walks of anything: an invariant over the turn and the heap -/
section
variable {K : PySem.W.Frag} {a : Addr} {xs : List V} {H0 : Hp} {Stop : Hp → Prop} {Turn : (Hp → Prop) → V → Hp → Prop}
theorem it_list (Pv : Nat → Hp → Prop) (h0 : Pv 0 H0) (hl : ∀ i H, i ≤ xs.length → Pv i H → SqL K H a xs) (hs : ∀ i x H, xs[i]? = some x → Pv i H → Turn (Pv (i + 1)) x H) (hd : ∀ H, Pv xs.length H → Stop H) :
    ∃ W : Nat → Nat → Hp → Prop, (∃ m, W 0 m H0) ∧ ∀ i m H, W i m H → ((Itl K a).stop i H ∧ Stop H) ∨ ((Itl K a).go i H ∧ ∃ Nx : Hp → Prop, (∀ H', Nx H' → ∃ m', m' < m ∧ W (i + 1) m' H') ∧ ∀ x H', (Itl K a).yld i H x H' → Turn Nx x H') := by
  refine ⟨fun i m H => m + i = xs.length ∧ Pv i H, ⟨xs.length, rfl, h0⟩, ?_⟩
  rintro i m H ⟨e, p⟩
  have q := hl i H (by omega) p
  cases m with
  | zero =>
    have e' : i = xs.length := by omega
    subst e'
    exact .inl ⟨⟨xs, q, Nat.le_refl _⟩, hd H p⟩
  | succ m =>
    have lt : i < xs.length := by omega
    refine .inr ⟨⟨xs, xs[i], q, List.getElem?_eq_getElem lt⟩, Pv (i + 1), fun H' p' => ⟨m, Nat.lt_succ_self _, by omega, p'⟩, ?_⟩
    rintro x H' ⟨rfl, y⟩
    exact hs i x _ (y xs q) p
theorem it_tup (Pv : Nat → Hp → Prop) (h0 : Pv 0 H0) (hl : ∀ i H, i ≤ xs.length → Pv i H → SqT K H a xs) (hs : ∀ i x H, xs[i]? = some x → Pv i H → Turn (Pv (i + 1)) x H) (hd : ∀ H, Pv xs.length H → Stop H) :
    ∃ W : Nat → Nat → Hp → Prop, (∃ m, W 0 m H0) ∧ ∀ i m H, W i m H → ((Itt K a).stop i H ∧ Stop H) ∨ ((Itt K a).go i H ∧ ∃ Nx : Hp → Prop, (∀ H', Nx H' → ∃ m', m' < m ∧ W (i + 1) m' H') ∧ ∀ x H', (Itt K a).yld i H x H' → Turn Nx x H') := by
  refine ⟨fun i m H => m + i = xs.length ∧ Pv i H, ⟨xs.length, rfl, h0⟩, ?_⟩
  rintro i m H ⟨e, p⟩
  have q := hl i H (by omega) p
  cases m with
  | zero =>
    have e' : i = xs.length := by omega
    subst e'
    exact .inl ⟨⟨xs, q, Nat.le_refl _⟩, hd H p⟩
  | succ m =>
    have lt : i < xs.length := by omega
    refine .inr ⟨⟨xs, xs[i], q, List.getElem?_eq_getElem lt⟩, Pv (i + 1), fun H' p' => ⟨m, Nat.lt_succ_self _, by omega, p'⟩, ?_⟩
    rintro x H' ⟨rfl, y⟩
    exact hs i x _ (y xs q) p
theorem it_range {lo : Int} {n : Nat} (Pv : Nat → Hp → Prop) (h0 : Pv 0 H0) (hs : ∀ i H, i < n → Pv i H → Turn (Pv (i + 1)) (.int (lo + i)) H) (hd : ∀ H, Pv n H → Stop H) :
    ∃ W : Nat → Nat → Hp → Prop, (∃ m, W 0 m H0) ∧ ∀ i m H, W i m H → ((Itr lo n).stop i H ∧ Stop H) ∨ ((Itr lo n).go i H ∧ ∃ Nx : Hp → Prop, (∀ H', Nx H' → ∃ m', m' < m ∧ W (i + 1) m' H') ∧ ∀ x H', (Itr lo n).yld i H x H' → Turn Nx x H') := by
  refine ⟨fun i m H => m + i = n ∧ Pv i H, ⟨n, rfl, h0⟩, ?_⟩
  rintro i m H ⟨e, p⟩
  cases m with
  | zero =>
    have e' : i = n := by omega
    subst e'
    exact .inl ⟨Nat.le_refl _, hd H p⟩
  | succ m =>
    refine .inr ⟨by show i < n; omega, Pv (i + 1), fun H' p' => ⟨m, Nat.lt_succ_self _, by omega, p'⟩, ?_⟩
    rintro x H' ⟨rfl, rfl⟩
    exact hs i _ (by omega) p
end
theorem Same.upd_new {H : Hp} {p : Addr} {o : HO} (h : H p = none) : Same H (upd H p o) := fun b u e => by rw [upd_ne (ne_of_none e h)]; exact e
/-- a list D that is made while all of G stands -/
theorem Same.over {G H : Hp} {D : Addr} {o : HO} (s : Same G H) (d : G D = none) : Same G (upd H D o) := fun b u e => by
  rw [upd_ne (ne_of_none e d)]
  exact s b u e
/-- the box of draws at b: a great number, its flag, its rest, how many draws so far (at most n) -/
def BoxAt (H : Hp) (b : Addr) (n : Nat) : Prop := ∃ (g m c : Int) (t : Bool), H b = some (.lst [.int g, .bl t, .int m, .int c]) ∧ 0 ≤ g ∧ 0 ≤ m ∧ m < 2147483648 ∧ 0 ≤ c ∧ c ≤ n
def But (b : Addr) (H H' : Hp) : Prop := ∀ a o, a ≠ b → H a = some o → H' a = some o
theorem SqL.same {K : PySem.W.Frag} {H H' : Hp} {a : Addr} {xs : List V} (h : SqL K H a xs) (s : Same H H') : SqL K H' a xs := by
  rcases h with (e | ⟨o, e⟩) | q
  · exact .inl (.inl (s _ _ e))
  · exact .inl (.inr ⟨o, s _ _ e⟩)
  · exact .inr q
theorem BoxAt.mono {H : Hp} {b : Addr} {n m : Nat} (h : BoxAt H b n) (l : n ≤ m) : BoxAt H b m := by
  obtain ⟨g, m', c, t, h1, h2, h3, h4, h5, h6⟩ := h
  exact ⟨g, m', c, t, h1, h2, h3, h4, h5, by omega⟩
theorem BoxAt.same {H H' : Hp} {b : Addr} {n : Nat} (h : BoxAt H b n) (s : Same H H') : BoxAt H' b n := by
  obtain ⟨g, m', c, t, h1, r⟩ := h
  exact ⟨g, m', c, t, s _ _ h1, r⟩
/-- a list of this length stands apart from a box -/
theorem BoxAt.ne {H : Hp} {b a : Addr} {n : Nat} {o : HO} (h : BoxAt H b n) (e : H a = some o) (d : ∀ g m c t, o ≠ .lst [.int g, .bl t, .int m, .int c]) : a ≠ b := by
  obtain ⟨g, m', c, t, h1, r⟩ := h
  exact ne_of e h1 (d _ _ _ _)
theorem But.of {b : Addr} {H H' : Hp} (s : Same H H') : But b H H' := fun a o _ e => s a o e
theorem But.refl {b : Addr} (H : Hp) : But b H H := fun _ _ _ e => e
theorem But.trans {b : Addr} {H H' H'' : Hp} (s : But b H H') (t : But b H' H'') : But b H H'' := fun a o n e => t a o n (s a o n e)
theorem if_both {c : Bool} {ta tb : TE} {σ : L2.St} {H : Hp} {Q : VK} (R : VK → Prop) (hA : c = true → ∀ Q, R Q → ta σ H Q) (hB : c = false → ∀ Q, R Q → tb σ H Q) (h : R Q) : if c = true then ta σ H Q else tb σ H Q := by
  cases c with
  | true => exact hA rfl Q h
  | false => exact hB rfl Q h
theorem r_for {wi : TI} {g : TG} {tb : TS} {D : Ends} {σ : L2.St} {H : Hp} (h : wi σ H fun J H1 => ∃ W : Nat → Nat → L2.St → Hp → Prop, (∃ m, W 0 m σ H1) ∧ ∀ i m σ H, W i m σ H →
    (J.stop i H ∧ D.nx σ H) ∨ (J.go i H ∧ ∃ N : L2.St → Hp → Prop, (∀ σ' H', N σ' H' → ∃ m', m' < m ∧ W (i + 1) m' σ' H') ∧ ∀ x H', J.yld i H x H' → g x σ H' fun σ2 H2 => tb { D with nx := N, ct := N, bk := D.nx } σ2 H2)) : tFor wi g tb D σ H := h
theorem r_lc {wi : TI} {g : TG} {tt : TT} {te : TE} {vs : List Nat} {σ : L2.St} {H : Hp} {Q : VK} (h : wi σ H fun J H1 => ∀ D, H1 D = none → ∃ W : Nat → Nat → Hp → Prop, (∃ m, W 0 m (upd H1 D (.lst []))) ∧ ∀ i m H, W i m H →
    (J.stop i H ∧ Q (.ref D) H) ∨ (J.go i H ∧ ∃ Nx : Hp → Prop, (∀ H', Nx H' → ∃ m', m' < m ∧ W (i + 1) m' H') ∧ ∀ x H', J.yld i H x H' → g x (wipe σ vs) H' fun σ2 H2 => wipe σ2 vs = wipe σ vs ∧ tt σ2 H2 fun b H3 =>
      if b = true then te σ2 H3 fun y H4 => ∃ acc, H4 D = some (.lst acc) ∧ acc.length < sizeLine ∧ Nx (upd H4 D (.lst (acc ++ [y]))) else Nx H3)) : tLc wi g tt te vs σ H Q := h
theorem r_il {K : PySem.W.Frag} {tl : TE} {σ : L2.St} {H : Hp} {R : It → Hp → Prop} (h : tl σ H fun x H1 => ∃ a, x = .ref a ∧ (∃ xs, SqL K H1 a xs) ∧ R (Itl K a) H1) : iList K tl σ H R := h
theorem r_par {i j : Nat} {ta : TA} {D : Ends} {σ : L2.St} {H : Hp} (h : ta σ H fun vs H1 => ∃ v w, vs = [v, w] ∧ D.nx ((σ.set i (some v)).set j (some w)) H1) : tPar i j ta D σ H := h
end Eld
set_option Elab.async false
set_option maxRecDepth 100000
set_option maxHeartbeats 4000000
set_option linter.all false
namespace Eld
open PySem PySem.Spec PyProof.Rows L2
/-! ## the package's errors with the one attribute given -/
def gv (v : V) : List (Str × V) := [("given", v)]
def spErr (C : Addr) : Sp := fun vs H Q _ => ∃ a v, vs = [.ref a, v] ∧ H a = some (exo a C none) ∧ ∀ dx, H dx = none → dx ≠ a → Q .non (upd (upd H dx (exd dx (gv v))) a (exo a C (some dx)))
section
variable (P : Program) (w : World) (K : PySem.W.Frag) (mg : Str → Option Value) (base : Heap)
/-- the error class x at C -/
def ErrD (x : Str) (C : Addr) : Prop := ∃ (f : Addr) (fd : FuncData), mg x = some (.ref C) ∧ OexC K C ∧ PySem.W.findIn K (.ref C) "__init__" = some (some (.ref f)) ∧ PySem.W.typeIn K (.ref f) = some (.type "function") ∧
  PySem.W.findIn K (.ref C) "given" = some none ∧ FnOk P w K mg base CX0 1 f fd ["self", "given"] (spErr C) ∧ Binds K fd ["self", "given"] []
end
section
variable {X : Cx} {x : Str} {C : Addr} {W : WX} {e : Expr} {es : List Expr} {ta : TA} {p pos pos2 : Pos}
/-- raise x(e) -/
theorem ps_err (d : ErrD X.prog X.w X.K X.mg X.base x C) (hc : X.calm = true) (tk : Takes X W) (hr : Room 2 X.A) (hg : Gl X x) (ha : PA X (e :: es) ta)
    (hd : (x == ("__debug__" : Str)) = false := by decide) (he : starEach (e :: es) X.env = (false, eval e X.env) :: starEach es X.env := by rfl) (hp : (backTo pos (starEach es X.env)).any (·.1) = false := by rfl) :
    PS X (.Raise (some (.Call (.Name x p) (e :: es) [] pos)) none pos2) (fun _ σ H => tMkO C (spErr C) [] ta σ H fun cls d G => W cls d σ G) := by
  obtain ⟨f, fd, gm, T, iC, tI, _, F, b⟩ := d
  exact ps_raise hc tk (pmk_oex (CX := CX0) (ds := []) (dvs := []) T iC tI F hr b .nil pass0 hg gm ha hd he hp)
end
theorem exo_exd {a d C : Addr} {o : Option Addr} : True := trivial
theorem err_done {H1 : Hp} {C : Addr} {v : V} {Qx : XK} (h : ∀ d G, H1 d = none → Same H1 G → G d = some (.xd (gv v)) → Qx (.ref C) (some d) G) :
    ([v] : List V).length ≤ 1000 ∧ ∀ a, H1 a = none → spErr C (.ref a :: ([v] ++ [])) (upd H1 a (exo a C none)) (fun u H2 => u = .non ∧ ∃ (d : Addr) (fs : List (Str × V)), H2 a = some (exo a C (some d)) ∧ H2 d = some (exd d fs) ∧ H1 d = none ∧ Qx (.ref C) (some d) (upd (del H2 a) d (.xd fs))) fun _ _ _ => False := by
  refine ⟨by show 1 ≤ 1000; decide, fun a ha => ⟨a, v, rfl, upd_same, fun dx hdx hne => ⟨rfl, dx, gv v, upd_same, ?_, ?_, ?_⟩⟩⟩
  · rw [upd_ne hne]
    exact upd_same
  · rw [upd_ne hne] at hdx
    exact hdx
  · rw [upd_ne hne] at hdx
    refine h dx _ hdx (fun b o e => ?_) upd_same
    rw [upd_ne (ne_of_none e hdx), del_ne (ne_of_none e ha), upd_ne (ne_of_none e ha), upd_ne (ne_of_none e hdx), upd_ne (ne_of_none e ha)]
    exact e
end Eld
set_option Elab.async false
set_option maxRecDepth 100000
set_option maxHeartbeats 4000000
set_option linter.all false
namespace Eld
open PySem PySem.Spec PyProof.Rows L2
/-! ## defs, methods and classes by name that may raise -/
section
variable (P : Program) (w : World) (K : PySem.W.Frag) (mg : Str → Option Value) (base : Heap)
def DefX (k : Nat) (x : Str) (n : Nat) (ks : List Str) (gV : List V → List V → List V) (sp : Sp) : Prop :=
  ∃ (f : Addr) (fd : FuncData) (ps : List Str) (g : List Value → List Value → List Value), mg x = some (.ref f) ∧ PySem.W.keepIn K (.ref f) = true ∧ FnG P w K mg base (L2.CX P w) k f fd ps sp ∧ KBn K fd ps n ks g gV
def MetX (k : Nat) (C : Addr) (m : Str) (n : Nat) (ks : List Str) (gV : List V → List V → List V) (sp : Sp) : Prop :=
  ∃ (f : Addr) (fd : FuncData) (ps : List Str) (g : List Value → List Value → List Value), Cls K C ∧ Meth K C m f ∧ FnG P w K mg base (L2.CX P w) k f fd ps sp ∧ KBn K fd ps n ks g gV
def MakX (k : Nat) (x : Str) (C : Addr) (n : Nat) (ks : List Str) (gV : List V → List V → List V) (sp : Sp) : Prop :=
  ∃ (f : Addr) (fd : FuncData) (ps : List Str) (g : List Value → List Value → List Value), mg x = some (.ref C) ∧ Mk K C f ∧ FnG P w K mg base (L2.CX P w) k f fd ps sp ∧ KBn K fd ps (n + 1) ks g gV
end
section
variable {X : Cx} {W : WX} {ks : List Str} {k j n : Nat} {gV : List V → List V → List V} {sp : Sp} {x m : Str} {C : Addr} {p pos apos : Pos} {e o : Expr} {es : List Expr} {ta : TE} {t : TA} {pl : Sem Bool}
theorem pdX_pos (d : DefX X.prog X.w X.K X.mg X.base k x n [] gV sp) (tk : Takes X W) (hG : X.A.guards = some []) (hr : Room j X.A) (hk : k ≤ j) (hg : Gl X x) (ha : PA X (e :: es) t) (hd : (x == ("__debug__" : Str)) = false := by decide)
    (he : starEach (e :: es) X.env = (false, eval e X.env) :: starEach es X.env := by rfl) (hp : (backTo pos (starEach es X.env)).any (·.1) = false := by rfl) : PE X (.Call (.Name x p) (e :: es) [] pos) (tClS (rFnS n 0 gV sp (WE W)) t tNil) := by
  obtain ⟨f, fd, ps, g, hm, kp, F, b⟩ := d
  exact pn_posS (callVS_fn F b (fun σ => passAt tk σ) hG (hr.mono hk)) hg hm kp ha hd he hp
theorem pkX_pos (d : MakX X.prog X.w X.K X.mg X.base k x C n [] gV sp) (tk : Takes X W) (hG : X.A.guards = some []) (hr : Room j X.A) (hk : k + 1 ≤ j) (hg : Gl X x) (ha : PA X (e :: es) t) (hd : (x == ("__debug__" : Str)) = false := by decide)
    (he : starEach (e :: es) X.env = (false, eval e X.env) :: starEach es X.env := by rfl) (hp : (backTo pos (starEach es X.env)).any (·.1) = false := by rfl) : PE X (.Call (.Name x p) (e :: es) [] pos) (tClS (rMkS C n 0 gV sp (WE W)) t tNil) := by
  obtain ⟨f, fd, ps, g, hm, M, F, b⟩ := d
  exact pn_posS (callVS_mk M F b (fun σ => passAt tk σ) hG (hr.mono hk)) hg hm M.kp ha hd he hp
theorem pqX_pos (d : MetX X.prog X.w X.K X.mg X.base k C m n [] gV sp) (tk : Takes X W) (hG : X.A.guards = some []) (hr : Room j X.A) (hk : k ≤ j) (ho : PE X o ta) (ha : PA X (e :: es) t) (he : starEach (e :: es) X.env = (false, eval e X.env) :: starEach es X.env := by rfl)
    (hp : (backTo pos (starEach es X.env)).any (·.1) = false := by rfl) (ht : eval (.Call (.Attribute o m apos) (e :: es) [] pos) X.env = (do
      let ov ← eval o X.env
      standAt apos.atName
      let (f, first) ← holding [ov] (getMethod ov m pl)
      callWith pos f first (backTo pos (starEach (e :: es) X.env)) (backToKw pos (keywordEach [] X.env))) := by rfl) : PE X (.Call (.Attribute o m apos) (e :: es) [] pos) (tMtS C m (rFnS n 0 gV sp (WE W)) ta t tNil) := by
  obtain ⟨f, fd, ps, g, hc, hm, F, b⟩ := d
  exact pm_posS (callVS_fn F b (fun σ => passAt tk σ) hG (hr.mono hk)) hc hm ho ha he hp ht
end
section
variable {σ : L2.St} {H : Hp} {Q : VK} {E : L2.St → XK}
theorem r_clS {r : L2.St → List V → List V → Hp → VK → Prop} {t tk : TA} (h : t σ H fun xs H1 => tk σ H1 fun ys H2 => r σ xs ys H2 Q) : tClS r t tk σ H Q := h
theorem r_fnS {n m : Nat} {gV : List V → List V → List V} {sp : Sp} {xs ys : List V} (h1 : xs.length = n) (h2 : ys.length = m) (h : sp (gV xs ys) H Q (E σ)) : rFnS n m gV sp E σ xs ys H Q := ⟨h1, h2, h⟩
theorem r_mkS {C : Addr} {n m : Nat} {gV : List V → List V → List V} {sp : Sp} {xs ys : List V} (h1 : xs.length = n) (h2 : ys.length = m)
    (h : ∀ x dx, H x = none → H dx = none → dx ≠ x → sp (gV (.ref x :: xs) ys) (upd (upd H dx (.own x)) x (.ins C dx [])) (fun v G => v = .non ∧ Q (.ref x) G) (E σ)) : rMkS C n m gV sp E σ xs ys H Q := ⟨h1, h2, h⟩
theorem r_mtS {C : Addr} {m : Str} {r : L2.St → List V → List V → Hp → VK → Prop} {ta : TE} {t tk : TA} (h : ta σ H fun x H1 => ∃ a dx fs, x = .ref a ∧ H1 a = some (.ins C dx fs) ∧ List.lookup m fs = none ∧ t σ H1 fun xs H2 => tk σ H2 fun ys H3 => r σ (.ref a :: xs) ys H3 Q) : tMtS C m r ta t tk σ H Q := h
end
end Eld
set_option Elab.async false
set_option maxRecDepth 100000
set_option maxHeartbeats 4000000
set_option linter.all false
namespace Eld
open PySem PySem.Spec PyProof.Rows L2
section
variable {P : Program} {w : World} {K : PySem.W.Frag} {mg mb : Str → Option Value} {CX : CXT} {k : Nat} {fa a : Addr} {fd : FuncData} {x : Str} {sp : Sp} {z : Shared} {vs : List Value} {ns : List Int}
/-- from an abstract heap G in which at most the script is told -/
theorem law_fromM (G : Hp) (only : Only G) (here : ∀ b, G b ≠ none → b = a) (notK : G a ≠ none → K.lookup a = none) (seen : SqL K G a (ns.map V.int)) (ok : HOk P w G z.heap)
    (inK : K.In z.heap) (gl : z.heap.Ns mainGlobals mg) (bn : z.heap.Ns builtinsNs mb) (bb : ∀ y : Str, y ≠ "__name__" → mb y = bootBuiltins y) (nolim : z.heap.NoLimit) (gens : z.gens = #[])
    (ha : z.heap.get? a = some { cls := .type "list", data := .seq vs.toArray }) (rm : Room k callerA) (hmod : ∃ mm, z.heap.Ns sysModules mm) (F : ∀ base : Heap, K.In base → base.Ns mainGlobals mg → ModsD base → FnG P w K mg base CX k fa fd [x] sp)
    (bt : ∀ (s : Shared) (u : Value), BindsTo s fd ⟨[u], []⟩ [(x, u)]) (want : sp [.ref a] G (fun v _ => v = .bl true) fun _ _ _ => False) (noErr : ∀ e z', CX [] G z (fun _ _ _ => False) e z' → False) :
    codeAny (model P w) callerA (.call (.ref fa) ⟨[.ref a], []⟩) (LawR z) z := by
  have out : ∀ {b : Addr} {o : Obj}, z.heap.get? b = some o → b ≠ a → G b = none := fun {b o} _ ne => by
    cases q : G b with
    | none => rfl
    | some u => exact absurd (here b (by rw [q]; exact Option.some_ne_none u)) ne
  have off : ∀ {b : Addr} {m : Str → Option Value}, z.heap.Ns b m → (hidT z.heap G).Ns b m := by
    rintro b m ⟨o, es, ep, e, d, r⟩
    have ne : b ≠ a := by
      rintro rfl
      have e' := ha.symm.trans e
      cases e'
      cases d
    exact ⟨o, es, ep, hidT_get e (out e ne), d, r⟩
  have kb : K.In (hidT z.heap G) := by
    intro b o e
    have e1 := inK b o e
    refine hidT_get e1 ?_
    by_cases q : G b = none
    · exact q
    · have eb := here b q
      subst eb
      rw [notK q] at e
      cases e
  obtain ⟨mc, l1, l2⟩ := nolim
  have hmB : ModsD (hidT z.heap G) := by
    obtain ⟨mm, hm⟩ := hmod
    obtain ⟨o, es, ep, e, _⟩ := off hm
    exact ⟨o, e⟩
  have md : Mod K mg (hidT z.heap G) := ⟨kb, off gl, ⟨mb, off bn, bb⟩, ⟨mc, off l1, l2⟩⟩
  have env : Env0 P w K mg (hidT z.heap G) callerA [] z G :=
    { frames := rfl, mod := md, bs := fun b o e => of_hidT e, bsz := Nat.le_of_eq (hidT_size _ _), funs := trivial, frf := fun b hb => (List.not_mem_nil hb).elim, hok := ok, bare := .of_eq gens }
  refine codeAny_mono ((F _ kb (off gl) hmB).run callerA [] z G ⟨[.ref a], []⟩ [.ref a] [.ref a] _ _ rfl rm env (bt z (.ref a)) (.cons rfl .nil) want) ?_
  intro r z' q
  match r, q with
  | .error e, q => exact (noErr e z' q).elim
  | .ok (.ret u), ⟨v, G', os, bare, un, ok', rv, q⟩ =>
    cases (show v = .bl true from q)
    cases (show u = Value.bool true from rv)
    refine ⟨rfl, OldK.of_keep ?_, os, bare⟩
    intro b o e
    rcases only b with n | ⟨ob, xs, n⟩
    · exact un.keep b o e n (fun h => (List.not_mem_nil h).elim) (fun h => (List.not_mem_nil h).elim)
    · have e1 := (ok b _ n).1
      have e2 := (ok' b _ (un.frzs b ob _ n)).1
      exact e2.trans (e1.symm.trans e)
theorem law_callM (inK : K.In z.heap) (gl : z.heap.Ns mainGlobals mg) (bn : z.heap.Ns builtinsNs mb) (bb : ∀ y : Str, y ≠ "__name__" → mb y = bootBuiltins y) (nolim : z.heap.NoLimit) (gens : z.gens = #[])
    (ha : z.heap.get? a = some { cls := .type "list", data := .seq vs.toArray }) (hi : IntsAre vs ns) (hl : ns.length ≤ sizeLine) (rm : Room k callerA)
    (hmod : ∃ mm, z.heap.Ns sysModules mm) (F : ∀ base : Heap, K.In base → base.Ns mainGlobals mg → ModsD base → FnG P w K mg base CX k fa fd [x] sp) (bt : ∀ (s : Shared) (u : Value), BindsTo s fd ⟨[u], []⟩ [(x, u)])
    (want : ∀ G : Hp, Only G → SqL K G a (ns.map V.int) → sp [.ref a] G (fun v _ => v = .bl true) fun _ _ _ => False) (noErr : ∀ G e z', CX [] G z (fun _ _ _ => False) e z' → False) :
    codeAny (model P w) callerA (.call (.ref fa) ⟨[.ref a], []⟩) (LawR z) z := by
  have rv := vals_ints hi
  have small : (ns.map V.int).length ≤ sizeLine := by rw [List.length_map]; exact hl
  cases hk : K.lookup a with
  | none =>
    let ob : Obj := { cls := .type "list", data := .seq vs.toArray }
    let G : Hp := fun b => if b = a then some (.frz ob (.lst (ns.map V.int))) else none
    have ga : G a = some (.frz ob (.lst (ns.map V.int))) := if_pos rfl
    have gn : ∀ b, b ≠ a → G b = none := fun b h => if_neg h
    have only : Only G := fun b => (Classical.em (b = a)).elim (fun h => .inr ⟨ob, _, h ▸ ga⟩) fun h => .inl (gn b h)
    have seen : SqL K G a (ns.map V.int) := .inl (.inr ⟨ob, ga⟩)
    refine law_fromM G only (fun b h => Classical.byContradiction fun n => h (gn b n)) (fun _ => hk) seen ?_ inK gl bn bb nolim gens ha rm hmod F bt (want G only seen) (noErr G)
    intro b u e
    by_cases h : b = a
    · subst h
      rw [ga] at e
      cases e
      exact ⟨ha, small, vs, _, rv, ha⟩
    · rw [gn b h] at e
      cases e
  | some o =>
    have e := inK a o hk
    rw [ha] at e
    cases e
    have seen : SqL K (fun _ => none) a (ns.map V.int) := .inr ⟨_, vs.toArray, _, hk, rfl, rfl, rfl, by rw [List.size_toArray, hi.length]; exact hl, by simpa using rv⟩
    exact law_fromM (fun _ => none) (fun _ => .inl rfl) (fun _ h => absurd rfl h) (fun h => absurd rfl h) seen (fun _ _ e => by cases e) inK gl bn bb nolim gens ha rm hmod F bt (want _ (fun _ => .inl rfl) seen) (noErr _)
end
/-- the goal that the head leaves -/
theorem walk_M {l : PySem.W.OpenLaw} {n k : Nat} {q : Program} {loose : List Str} {XP : (Str → Option Value) → Heap → Prop} {YP : World → Heap → Prop} {d : DefRec} {K : Params → PySem.W.Frag} {sp : PySem.W.Frag → Sp} {x : Str}
    (hn : l.most = some n) (n2 : n ≤ sizeLine) (hd : d.params.defaults = []) (rm : Room k callerA) (hi : importsNone q = true) (hY : ∀ (w : World) (h : Heap), YP w h → (K w.params).In h)
    (F : ∀ (w : World) (mg : Str → Option Value) (fa : Addr) (h : Heap), (K w.params).In h → h.Ns mainGlobals mg → mg d.name = some (.ref fa) →
      ∃ fd : FuncData, (∀ (s : Shared) (u : Value), BindsTo s fd ⟨[u], []⟩ [(x, u)]) ∧ ∀ base : Heap, (K w.params).In base → base.Ns mainGlobals mg → ModsD base → FnG l.prog w (K w.params) mg base CX0 k fa fd [x] (sp (K w.params)))
    (want : ∀ (w : World) (G : Hp) (a : Addr) (ns : List Int), ns.length ≤ n → SqL (K w.params) G a (ns.map V.int) → sp (K w.params) [.ref a] G (fun v _ => v = .bl true) fun _ _ _ => False) :
    PySem.W.WalkO q loose XP YP l.row.toRowW d [] (fun f vs => PySem.call f vs) := by
  refine Att.attach_call hn hd ?_
  intro w s₀ s₁ mg mb fa o pm cd doc a vs ns G Y ho hdt hcd hmg hobj hints hlen hg
  obtain ⟨fd, hb, hF⟩ := F w mg fa _ (hY w _ Y) G.T.g hmg
  exact law_callM (CX := CX0) (hY w _ Y) G.T.g G.T.b G.T.builtins G.T.nolimit hg hobj hints (Nat.le_trans hlen n2) rm (let ⟨mm, hm, _⟩ := (G.T.seer hi).mods; ⟨mm, hm⟩) hF hb (fun G _ h => want w G a ns hlen h) fun _ _ _ h => h.elim
end Eld
set_option Elab.async false
set_option maxRecDepth 100000
set_option maxHeartbeats 4000000
set_option linter.all false
namespace Eld
open PySem PySem.Spec PyProof.Rows L2
/-- an own exception without fields of its own, at C -/
structure Exc0 (K : PySem.W.Frag) (C : Addr) : Prop where
  q : PySem.W.excIn K C [.type "ValueError", .type "Exception", .type "BaseException", .type "object"] "ValueError.__new__" = true
  kC : PySem.W.keepIn K (.ref C) = true
  exC : PySem.W.subIn K (.ref C) (.type "BaseException") = some true
  tyC : PySem.W.typeIn K (.ref C) = some (.type "type")
section
variable {X : Cx} {C : Addr} {x : Str} {p pos pos2 : Pos} {W : WX}
/-- x() -/
theorem pmk_own0 (T : Exc0 X.K C) (gC : X.mg x = some (.ref C)) (hg : Gl X x) (hdb : (x == ("__debug__" : Str)) = false := by decide) : PMk X (.Call (.Name x p) [] [] pos) (fun _ H Q => Q (.ref C) none H) := by
  intro pins s σ H Q I h
  refine wpAny_Call_Name_kw (ld_glob I hg gC ?_ hdb)
  refine PySem.W.callWith_K0 I.kIn T.kC ?_
  obtain ⟨bm, N, nm, qn, bs, hdct, sn, sub, ab, col, dd, k0, k1, k2, k3, k5, mN, hC, hN, hni, TT⟩ := exc_obj I.kIn T.q
  refine wpAny_call_exc_subT PySem.F.excBase_ValueError TT hC hN hni (fun h' e hm => ?_) (by show 0 ≤ sizeLine; rw [sizeLine_eq]; omega)
  exact mk_of I hm (raises_own T.exC T.tyC) h (I.hok.gone hm.new)
/-- raise x() -/
theorem ps_err0 (T : Exc0 X.K C) (gC : X.mg x = some (.ref C)) (hc : X.calm = true) (tk : Takes X W) (hg : Gl X x) (hdb : (x == ("__debug__" : Str)) = false := by decide) :
    PS X (.Raise (some (.Call (.Name x p) [] [] pos)) none pos2) (fun _ σ H => W (.ref C) none σ H) := ps_raise hc tk (pmk_own0 T gC hg hdb)
end
end Eld
set_option Elab.async false
set_option linter.all false
namespace Eld
/-! ## quotients in lowest terms -/
def gcdI (a b : Int) : Int := ((Nat.gcd a.natAbs b.natAbs : Nat) : Int)
def sgI (a b : Int) : Int := if b < 0 then -gcdI a b else gcdI a b
def lowT (a b : Int) : Int := a.fdiv (sgI a b)
def lowB (a b : Int) : Int := b.fdiv (sgI a b)
/-- a top and a bottom in lowest terms -/
structure Low (n d : Int) : Prop where
  pos : 0 < d
  cop : Nat.gcd n.natAbs d.natAbs = 1
theorem gcdI_pos {a b : Int} (h : b ≠ 0) : 0 < gcdI a b := by
  have : 0 < Nat.gcd a.natAbs b.natAbs := Nat.gcd_pos_of_pos_right _ (Int.natAbs_pos.mpr h)
  unfold gcdI
  omega
theorem gcdI_left (a b : Int) : gcdI a b ∣ a := Int.natAbs_dvd_natAbs.mp (show a.natAbs.gcd b.natAbs ∣ a.natAbs from Nat.gcd_dvd_left _ _)
theorem gcdI_right (a b : Int) : gcdI a b ∣ b := Int.natAbs_dvd_natAbs.mp (show a.natAbs.gcd b.natAbs ∣ b.natAbs from Nat.gcd_dvd_right _ _)
theorem sgI_ne {a b : Int} (h : b ≠ 0) : sgI a b ≠ 0 := by
  have := gcdI_pos (a := a) h
  unfold sgI
  split <;> omega
theorem sgI_left (a b : Int) : sgI a b ∣ a := by
  unfold sgI
  split
  · exact Int.neg_dvd.mpr (gcdI_left a b)
  · exact gcdI_left a b
theorem sgI_right (a b : Int) : sgI a b ∣ b := by
  unfold sgI
  split
  · exact Int.neg_dvd.mpr (gcdI_right a b)
  · exact gcdI_right a b
theorem lowT_mul (a b : Int) : lowT a b * sgI a b = a := by
  unfold lowT
  rw [Int.fdiv_eq_ediv_of_dvd (sgI_left a b)]
  exact Int.ediv_mul_cancel (sgI_left a b)
theorem lowB_mul (a b : Int) : lowB a b * sgI a b = b := by
  unfold lowB
  rw [Int.fdiv_eq_ediv_of_dvd (sgI_right a b)]
  exact Int.ediv_mul_cancel (sgI_right a b)
theorem sgI_abs (a b : Int) : (sgI a b).natAbs = Nat.gcd a.natAbs b.natAbs := by
  unfold sgI gcdI
  split
  · rw [Int.natAbs_neg]
    exact Int.natAbs_natCast _
  · exact Int.natAbs_natCast _
theorem low_low {a b : Int} (h : b ≠ 0) : Low (lowT a b) (lowB a b) := by
  have e1 := lowT_mul a b
  have e2 := lowB_mul a b
  have hs := sgI_ne (a := a) h
  have hg := gcdI_pos (a := a) h
  constructor
  · unfold sgI at e2 hs
    split at e2
    · rename_i hb
      rcases Int.lt_trichotomy 0 (lowB a b) with q | q | q
      · exact q
      · rw [← q] at e2; omega
      · have := Int.mul_pos_of_neg_of_neg q (show -gcdI a b < 0 by omega)
        omega
    · rename_i hb
      rcases Int.lt_trichotomy 0 (lowB a b) with q | q | q
      · exact q
      · rw [← q] at e2; omega
      · have := Int.mul_neg_of_neg_of_pos q hg
        omega
  · have f1 : (lowT a b).natAbs * Nat.gcd a.natAbs b.natAbs = a.natAbs := by rw [← sgI_abs, ← Int.natAbs_mul, e1]
    have f2 : (lowB a b).natAbs * Nat.gcd a.natAbs b.natAbs = b.natAbs := by rw [← sgI_abs, ← Int.natAbs_mul, e2]
    have gp : 0 < Nat.gcd a.natAbs b.natAbs := Nat.gcd_pos_of_pos_right _ (Int.natAbs_pos.mpr h)
    have key : Nat.gcd ((lowT a b).natAbs * Nat.gcd a.natAbs b.natAbs) ((lowB a b).natAbs * Nat.gcd a.natAbs b.natAbs) = Nat.gcd a.natAbs b.natAbs := by rw [f1, f2]
    rw [Nat.gcd_mul_right] at key
    exact Nat.eq_of_mul_eq_mul_right gp (by rw [key, Nat.one_mul])
/-- two in lowest terms that are one quotient -/
theorem Low.uniq {n d n' d' : Int} (h : Low n d) (h' : Low n' d') (e : n * d' = n' * d) : n = n' ∧ d = d' := by
  have p := h.pos
  have p' := h'.pos
  have en : n.natAbs * d'.natAbs = n'.natAbs * d.natAbs := by rw [← Int.natAbs_mul, ← Int.natAbs_mul, e]
  have c1 : Nat.Coprime d.natAbs n.natAbs := (Nat.gcd_comm _ _).trans h.cop
  have c2 : Nat.Coprime d'.natAbs n'.natAbs := (Nat.gcd_comm _ _).trans h'.cop
  have d1 : d.natAbs ∣ d'.natAbs := c1.dvd_of_dvd_mul_left (by rw [en]; exact Nat.dvd_mul_left _ _)
  have d2 : d'.natAbs ∣ d.natAbs := c2.dvd_of_dvd_mul_left (by rw [← en]; exact Nat.dvd_mul_left _ _)
  have ed : d.natAbs = d'.natAbs := Nat.dvd_antisymm d1 d2
  have ed' : d = d' := by omega
  refine ⟨?_, ed'⟩
  rw [ed'] at e
  exact Int.eq_of_mul_eq_mul_right (by omega) e
theorem low_eq {a b c d : Int} (hb : b ≠ 0) (hd : d ≠ 0) (e : a * d = c * b) : lowT a b = lowT c d ∧ lowB a b = lowB c d := by
  refine Low.uniq (low_low hb) (low_low hd) ?_
  have e1 := lowT_mul a b
  have e2 := lowB_mul a b
  have e3 := lowT_mul c d
  have e4 := lowB_mul c d
  have s1 := sgI_ne (a := a) hb
  have s2 := sgI_ne (a := c) hd
  have k : (lowT a b * lowB c d) * (sgI a b * sgI c d) = (lowT c d * lowB a b) * (sgI a b * sgI c d) := by
    calc (lowT a b * lowB c d) * (sgI a b * sgI c d) = (lowT a b * sgI a b) * (lowB c d * sgI c d) := by ac_rfl
      _ = a * d := by rw [e1, e4]
      _ = c * b := e
      _ = (lowT c d * sgI c d) * (lowB a b * sgI a b) := by rw [e3, e2]
      _ = (lowT c d * lowB a b) * (sgI a b * sgI c d) := by ac_rfl
  exact Int.eq_of_mul_eq_mul_right (Int.mul_ne_zero s1 s2) k
theorem low_id {n d : Int} (h : Low n d) : lowT n d = n ∧ lowB n d = d := by
  have p := h.pos
  have hd : d ≠ 0 := by omega
  have s : sgI n d = 1 := by
    unfold sgI gcdI
    rw [h.cop, if_neg (by omega)]
    rfl
  have e1 := lowT_mul n d
  have e2 := lowB_mul n d
  rw [s, Int.mul_one] at e1 e2
  exact ⟨e1, e2⟩
theorem low_neg {a b : Int} (h : b ≠ 0) : lowT (-a) b = -lowT a b ∧ lowB (-a) b = lowB a b := by
  have l1 := low_low (a := -a) h
  have l2 := low_low (a := a) h
  have l3 : Low (-lowT a b) (lowB a b) := ⟨l2.pos, by rw [Int.natAbs_neg]; exact l2.cop⟩
  refine l1.uniq l3 ?_
  have e1 := lowT_mul (-a) b
  have e2 := lowB_mul (-a) b
  have e3 := lowT_mul a b
  have e4 := lowB_mul a b
  have s1 := sgI_ne (a := -a) h
  have s2 := sgI_ne (a := a) h
  have k : (lowT (-a) b * lowB a b) * (sgI (-a) b * sgI a b) = (-lowT a b * lowB (-a) b) * (sgI (-a) b * sgI a b) := by
    calc (lowT (-a) b * lowB a b) * (sgI (-a) b * sgI a b) = (lowT (-a) b * sgI (-a) b) * (lowB a b * sgI a b) := by ac_rfl
      _ = -a * b := by rw [e1, e4]
      _ = -(lowT a b * sgI a b) * (lowB (-a) b * sgI (-a) b) := by rw [e3, e2]
      _ = (-lowT a b * sgI a b) * (lowB (-a) b * sgI (-a) b) := by rw [Int.neg_mul (lowT a b) (sgI a b)]
      _ = (-lowT a b * lowB (-a) b) * (sgI (-a) b * sgI a b) := by ac_rfl
  exact Int.eq_of_mul_eq_mul_right (Int.mul_ne_zero s1 s2) k
theorem lowT_le {a b : Int} (h : b ≠ 0) : (lowT a b).natAbs ≤ a.natAbs := by
  have e1 : (lowT a b).natAbs * (sgI a b).natAbs = a.natAbs := by rw [← Int.natAbs_mul, lowT_mul]
  have : 0 < (sgI a b).natAbs := Int.natAbs_pos.mpr (sgI_ne h)
  rw [← e1]
  exact Nat.le_mul_of_pos_right _ this
theorem lowB_le {a b : Int} (h : b ≠ 0) : (lowB a b).natAbs ≤ b.natAbs := by
  have e1 : (lowB a b).natAbs * (sgI a b).natAbs = b.natAbs := by rw [← Int.natAbs_mul, lowB_mul]
  have : 0 < (sgI a b).natAbs := Int.natAbs_pos.mpr (sgI_ne h)
  rw [← e1]
  exact Nat.le_mul_of_pos_right _ this
theorem low_int (a : Int) : Low a 1 := ⟨by decide, by show Nat.gcd a.natAbs 1 = 1; exact Nat.gcd_one_right _⟩
end Eld
set_option Elab.async false
set_option maxRecDepth 100000
set_option maxHeartbeats 4000000
set_option linter.all false
namespace Eld
open PySem PySem.Spec PyProof.Rows L2
section
variable (P : Program) (w : World) (K : PySem.W.Frag) (mg : Str → Option Value) (base : Heap)
/-- x op y by the class's own def -/
def OpA (k : Nat) (op : Operator) (C : Addr) (sp : Sp) : Prop := ∃ (f g : Addr) (fd : FuncData), OwnOp K C op f g ∧ FnG P w K mg base CX0 k f fd ["self", "other"] sp ∧ Binds K fd ["self", "other"] []
/-- the turned one -/
def OpT (k : Nat) (op : Operator) (C : Addr) (sp : Sp) : Prop := ∃ (f g : Addr) (fd : FuncData), OwnOp K C op f g ∧ FnG P w K mg base CX0 k g fd ["self", "other"] sp ∧ Binds K fd ["self", "other"] []
/-- -x -/
def NegA (k : Nat) (C : Addr) (sp : Sp) : Prop := ∃ (f : Addr) (fd : FuncData), PySem.W.findIn K (.ref C) "__neg__" = some (some (.ref f)) ∧ PySem.W.isFn K (.ref f) = true ∧ FnG P w K mg base CX0 k f fd ["self"] sp ∧ Binds K fd ["self"] []
/-- str(x) -/
def StrA (k : Nat) (C : Addr) (sp : Sp) : Prop := ∃ (f : Addr) (fd : FuncData), PySem.W.findIn K (.ref C) "__str__" = some (some (.ref f)) ∧ PySem.W.isFn K (.ref f) = true ∧ FnG P w K mg base CX0 k f fd ["self"] sp ∧ Binds K fd ["self"] []
/-- x == y -/
def EqA (k : Nat) (C : Addr) (sp : Sp) : Prop := ∃ (f : Addr) (fd : FuncData), PySem.W.findIn K (.ref C) "__eq__" = some (some (.ref f)) ∧ PySem.W.isFn K (.ref f) = true ∧ PySem.W.findIn K (.ref C) "__ne__" = some (some (.builtin "object.__ne__")) ∧ PySem.W.subIn K (.ref C) (.type "object") = some true ∧
  PySem.W.subIn K (.ref C) (.type "int") = some false ∧ FnG P w K mg base CX0 k f fd ["self", "other"] sp ∧ Binds K fd ["self", "other"] []
end
section
variable {X : Cx} {k j : Nat} {op : Operator} {C : Addr} {sp spR : Sp}
theorem o_A (d : OpA X.prog X.w X.K X.mg X.base k op C sp) (hG : X.A.guards = some []) (hr : Room j X.A) (hk : k ≤ j) : OpR X (binaryOp op) (rOwnOp C sp fun _ _ _ => False) := by
  obtain ⟨f, g, fd, O, F, b⟩ := d
  exact op_ownOp O F b pass0 hG (hr.mono hk)
def rNN (C : Addr) (spA spR : Sp) : R2 := fun x y H Q => rOwnOp C spA (fun _ _ _ => False) x y H Q ∨ rOwnR C spR (fun _ _ _ => False) x y H Q
theorem o_N (d : OpA X.prog X.w X.K X.mg X.base k op C sp) (e : OpT X.prog X.w X.K X.mg X.base k op C spR) (N : IntOp op) (hG : X.A.guards = some []) (hr : Room j X.A) (hk : k ≤ j) : OpR X (binaryOp op) (rNN C sp spR) := by
  intro pins s σ H x y v u Q I rx ry h
  rcases h with h | h
  · exact o_A d hG hr hk pins s σ H x y v u Q I rx ry h
  · obtain ⟨f, g, fd, O, F, b⟩ := e
    exact op_ownR O N F b pass0 hG (hr.mono hk) pins s σ H x y v u Q I rx ry h
theorem o_neg (d : NegA X.prog X.w X.K X.mg X.base k C sp) (hG : X.A.guards = some []) (hr : Room j X.A) (hk : k ≤ j) : UnR X (unaryOp .USub) (rOwnN C sp fun _ _ _ => False) := by
  obtain ⟨f, fd, h1, h2, F, b⟩ := d
  exact un_own F b pass0 h1 h2 hG (hr.mono hk)
theorem o_str (d : StrA X.prog X.w X.K X.mg X.base k C sp) (hG : X.A.guards = some []) (hr : Room j X.A) (hk : k + 2 ≤ j) : CallR X (.type "str") (rOwnStr C sp fun _ _ _ => False) := by
  obtain ⟨f, fd, h1, h2, F, b⟩ := d
  exact call_ownStr F b pass0 h1 h2 hG (hr.mono hk)
theorem o_eq (d : EqA X.prog X.w X.K X.mg X.base k C sp) (hG : X.A.guards = some []) (hr : Room j X.A) (hk : k ≤ j) : OpR X (compareOp .Eq) (rOwnC X.K C sp fun _ _ _ => False) := by
  obtain ⟨f, fd, h1, h2, _, _, _, F, b⟩ := d
  exact op_ownEq F b pass0 h1 h2 hG (hr.mono hk)
def rEqN (K : PySem.W.Frag) (C : Addr) (sp : Sp) : R2 := fun x y H Q => rOwnC K C sp (fun _ _ _ => False) x y H Q ∨ rOwnR C sp (fun _ _ _ => False) x y H Q
theorem o_eqN (d : EqA X.prog X.w X.K X.mg X.base k C sp) (hG : X.A.guards = some []) (hr : Room j X.A) (hk : k ≤ j) : OpR X (compareOp .Eq) (rEqN X.K C sp) := by
  intro pins s σ H x y v u Q I rx ry h
  rcases h with h | h
  · exact o_eq d hG hr hk pins s σ H x y v u Q I rx ry h
  · obtain ⟨f, fd, h1, h2, _, _, ic, F, b⟩ := d
    exact op_ownEqR F b pass0 ic h1 h2 hG (hr.mono hk) pins s σ H x y v u Q I rx ry h
theorem o_ne (d : EqA X.prog X.w X.K X.mg X.base k C sp) (hG : X.A.guards = some []) (hr : Room j X.A) (hk : k + 1 ≤ j) : OpR X (compareOp .NotEq) (rOwnNe X.K C sp fun _ _ _ => False) := by
  obtain ⟨f, fd, h1, h2, hn, ho, _, F, b⟩ := d
  exact op_ownNe F b pass0 h1 h2 hn ho hG (hr.mono hk)
/-! ### // by any divisor, gcd and lcm -/
def CDivZ (_ j : Int) : Prop := j ≠ 0 ∧ j.natAbs.log2 < 9000
theorem op_fdivZ : OpR X (binaryOp .FloorDiv) (rI CDivZ fun i j => .int (i.fdiv j)) := opI fun i j _ _ _ _ _ hc q => floordiv_int hc.1 q (.inl (PyProof.noPylong_of_log2 hc.2))
def rLcm : List V → Hp → VK → Prop := fun vs H Q => ∃ a b : Int, vs = [.int a, .int b] ∧ a.natAbs < 2 ^ 2000 ∧ b.natAbs < 2 ^ 2000 ∧ Q (.int ((Nat.lcm a.natAbs b.natAbs : Nat) : Int)) H
theorem log2_of {n k : Nat} (h : n < 2 ^ k) (h0 : 0 < k) : n.log2 < k := by
  rcases Nat.eq_zero_or_pos n with e | e
  · subst e
    rw [Nat.log2_zero]
    exact h0
  · exact (Nat.log2_lt (Nat.ne_of_gt e)).mpr h
theorem cr_lcm : CallR X (.builtin "math.lcm") rLcm := by
  intro pins s σ H vs us Q I r h
  obtain ⟨a, b, rfl, ha, hb, q⟩ := h
  obtain ⟨t, u, rfl⟩ := Vals.int2 r
  have one : Nat.lcm 1 a.natAbs = a.natAbs := Nat.lcm_one_left _
  have m1 : max 1 a.natAbs < 2 ^ 2000 := Nat.max_lt.mpr ⟨by decide, ha⟩
  have m2 : max a.natAbs b.natAbs < 2 ^ 2000 := Nat.max_lt.mpr ⟨ha, hb⟩
  have hl : (Nat.lcm a.natAbs b.natAbs).log2 < bitsLine := by
    have : Nat.lcm a.natAbs b.natAbs < 2 ^ 4000 := by
      refine Nat.lt_of_le_of_lt (Nat.div_le_self _ _) ?_
      rw [show (4000 : Nat) = 2000 + 2000 from rfl, Nat.pow_add]
      exact Nat.mul_lt_mul'' ha hb
    exact Nat.lt_trans (log2_of this (by decide)) (by decide)
  refine call_function_meets PySem.W.MGF.kind_lcm PySem.W.MGF.plain_lcm PySem.W.MGF.entry_lcm (PySem.W.MGF.args_lcm _ _) (PySem.W.mg_run_lcm a t b u ?_ ?_ ?_).meets ?_
  · have := log2_of m1 (by decide)
    omega
  · have := log2_of m2 (by decide)
    omega
  · rw [one, Int.natAbs_natCast]
    exact hl
  · rw [one]
    exact ⟨.int _, H, I.tok _, ⟨_, rfl⟩, q⟩
end
end Eld
set_option Elab.async false
set_option maxRecDepth 100000
set_option maxHeartbeats 4000000
set_option linter.all false
namespace PySem
open Builtin SeqAt
open AutoSeq1 (wpAny_loadPart')
open MeetsSeq MeetsSeq2 MeetsSeq3 SeqRoads2
/-! ## != of two lists of two, whose second items are compared by a def -/
section
variable {prog : Program} {w : World} {A : Around} {R : Result → Shared → Prop} {s : Shared} {l b : Addr} {x0 x1 y0 y1 : Value} {n n2 : Nat} {dd dd2 : Option Addr} {sl sl2 : Array (Option Value)}
abbrev FinOf (prog : Program) (w : World) (A : Around) (R : Result → Shared → Prop) : Fin → Shared → Prop := fun fin s' => match fin with | .done f => R (.ok f) s' | .again c' => c'.quiet = true ∧ codeAny (model prog w) A c' R s'
theorem eld_loop2 (hl : s.heap.get? l = some { cls := .type "list", dict := dd, data := .seq #[x0, x1] n, slots := sl }) (hb : s.heap.get? b = some { cls := .type "list", dict := dd2, data := .seq #[y0, y1] n2, slots := sl2 }) (h : R (.ok (.ret (.bool false))) s) :
    wpAny (model prog w) A.in1 (Builtin.«list.__eq__.loop» ⟨[.ref l, .ref b, rawInt 2, rawInt 3], []⟩) (FinOf prog w A R) (fun e s' => R (.error e) s') s := by
  obtain ⟨hp, g, d, tk, os⟩ := s
  wp_walk using wpAny_loadPart' hl, wpAny_loadPart' hb
  exact h
theorem eld_loop1 {I1 I2 : Array Value} (e1 : I1 = #[x0, x1]) (e2 : I2 = #[y0, y1]) (hl : s.heap.get? l = some { cls := .type "list", dict := dd, data := .seq I1 n, slots := sl }) (hb : s.heap.get? b = some { cls := .type "list", dict := dd2, data := .seq I2 n2, slots := sl2 })
    (h : wpAny (model prog w) A.in1 (eqBool x1 y1) (fun k s' => k = true ∧ (∃ n dd sl u0 u1, s'.heap.get? l = some { cls := .type "list", dict := dd, data := .seq #[u0, u1] n, slots := sl }) ∧ (∃ n dd sl u0 u1, s'.heap.get? b = some { cls := .type "list", dict := dd, data := .seq #[u0, u1] n, slots := sl }) ∧ R (.ok (.ret (.bool false))) s') (fun e s' => R (.error e) s') s) :
    wpAny (model prog w) A.in1 (Builtin.«list.__eq__.loop» ⟨[.ref l, .ref b, rawInt 1, rawInt 3], []⟩) (FinOf prog w A R) (fun e s' => R (.error e) s') s := by
  obtain ⟨hp, g, d, tk, os⟩ := s
  wp_walk using wpAny_loadPart' hl, wpAny_loadPart' hb
  have hi1 : I1[Int.toNat 1]? = some x1 := by subst e1; rfl
  have hi2 : I2[Int.toNat 1]? = some y1 := by subst e2; rfl
  rw [hi1, hi2]
  refine wpAny_bind (wpAny_mono h ?_ fun _ _ e => e)
  rintro k s' ⟨rfl, ⟨m, dm, ml, u0, u1, h1⟩, ⟨m2, dm2, ml2, v0, v1, h2⟩, hr⟩
  wp_walk
  exact ⟨plainId_quiet plain_eq_loop _, codeAny_builtin entry_eq_loop (by
    rw [Around.under_plainId plain_eq_loop _]
    exact eld_loop2 h1 h2 hr)⟩
theorem eld_loop0 {I1 I2 : Array Value} (e1 : I1 = #[x0, x1]) (e2 : I2 = #[y0, y1]) (hl : s.heap.get? l = some { cls := .type "list", dict := dd, data := .seq I1 n, slots := sl }) (hb : s.heap.get? b = some { cls := .type "list", dict := dd2, data := .seq I2 n2, slots := sl2 }) (h0 : EqAt A.in1 s x0 y0 true)
    (h : wpAny (model prog w) A.in1 (eqBool x1 y1) (fun k s' => k = true ∧ (∃ n dd sl u0 u1, s'.heap.get? l = some { cls := .type "list", dict := dd, data := .seq #[u0, u1] n, slots := sl }) ∧ (∃ n dd sl u0 u1, s'.heap.get? b = some { cls := .type "list", dict := dd, data := .seq #[u0, u1] n, slots := sl }) ∧ R (.ok (.ret (.bool false))) s') (fun e s' => R (.error e) s') s) :
    wpAny (model prog w) A.in1 (Builtin.«list.__eq__.loop» ⟨[.ref l, .ref b, rawInt 0, rawInt 3], []⟩) (FinOf prog w A R) (fun e s' => R (.error e) s') s := by
  obtain ⟨hp, g, d, tk, os⟩ := s
  wp_walk using wpAny_loadPart' hl, wpAny_loadPart' hb
  have hi1 : I1[Int.toNat 0]? = some x0 := by subst e1; rfl
  have hi2 : I2[Int.toNat 0]? = some y0 := by subst e2; rfl
  rw [hi1, hi2]
  refine wpAny_bind (h0 prog w _ _ ?_)
  wp_walk
  exact ⟨plainId_quiet plain_eq_loop _, codeAny_builtin entry_eq_loop (by
    rw [Around.under_plainId plain_eq_loop _]
    exact eld_loop1 e1 e2 hl hb h)⟩
theorem eld_ne (hl : s.heap.get? l = some { cls := .type "list", dict := dd, data := .seq #[x0, x1] n, slots := sl }) (hb : s.heap.get? b = some { cls := .type "list", dict := dd2, data := .seq #[y0, y1] n2, slots := sl2 }) (h0 : EqAt A.in1 s x0 y0 true)
    (h : wpAny (model prog w) A.in1 (eqBool x1 y1) (fun k s' => k = true ∧ (∃ n dd sl u0 u1, s'.heap.get? l = some { cls := .type "list", dict := dd, data := .seq #[u0, u1] n, slots := sl }) ∧ (∃ n dd sl u0 u1, s'.heap.get? b = some { cls := .type "list", dict := dd, data := .seq #[u0, u1] n, slots := sl }) ∧ R (.ok (.ret (.bool false))) s') (fun e s' => R (.error e) s') s) :
    wpAny (model prog w) A.in1 (Builtin.«list.__ne__» ⟨[.ref l, .ref b], []⟩) (FinOf prog w A R) (fun e s' => R (.error e) s') s := by
  obtain ⟨hp, g, d, tk, os⟩ := s
  have f3 := AutoSeq1.sub_list_list
  have hne : ¬ ((#[x0, x1] : Array Value).size != (#[y0, y1] : Array Value).size) = true := by simp
  wp_walk using wpAny_loadPart' hl, wpAny_loadPart' hb
  exact ⟨plainId_quiet plain_eq_loop _, codeAny_builtin entry_eq_loop (by
    rw [Around.under_plainId plain_eq_loop _]
    exact eld_loop0 rfl rfl hl hb h0 h)⟩
theorem eld_ne_list {Q E : Value → Shared → Prop} (hl : s.heap.get? l = some { cls := .type "list", dict := dd, data := .seq #[x0, x1] n, slots := sl }) (hb : s.heap.get? b = some { cls := .type "list", dict := dd2, data := .seq #[y0, y1] n2, slots := sl2 }) (hu : A.units < cLine) (h0 : EqAt A.in1 s x0 y0 true)
    (h : wpAny (model prog w) A.in1 (eqBool x1 y1) (fun k s' => k = true ∧ (∃ n dd sl u0 u1, s'.heap.get? l = some { cls := .type "list", dict := dd, data := .seq #[u0, u1] n, slots := sl }) ∧ (∃ n dd sl u0 u1, s'.heap.get? b = some { cls := .type "list", dict := dd, data := .seq #[u0, u1] n, slots := sl }) ∧ Q (.bool false) s') E s) :
    wpAny (model prog w) A (compareOp .NotEq (.ref l) (.ref b)) Q E s := by
  refine wpAny_richCompare_same_room (op := .NotEq) (T := "list") (id := "list.__ne__") ⟨_, hl, rfl⟩ ⟨_, hb, rfl⟩ F.slot_list_ne ?_ hu
  refine wpAny_call (codeAny_call_builtin F.slot_list_ne.plain F.entry_list_ne (F.slot_list_ne.check _ _ _ _ _ _ _ _ ⟨_, hl, rfl⟩ (F.args_list_ne_2 _ _) ?_))
  refine eld_ne (R := wants (fun v s' => v ≠ .notImplemented ∧ Q v s') E) hl hb h0 ?_
  refine wpAny_mono h ?_ fun _ _ e => e
  rintro k s' ⟨e, h1, h2, q⟩
  exact ⟨e, h1, h2, (fun z => by cases z), q⟩
end
end PySem
namespace Eld
open PySem PySem.Spec PyProof.Rows L2
section
variable {X : Cx} {CX : CXT} {k : Nat} {f C : Addr} {fd : FuncData} {ps : List Str} {sp : Sp} {E : XK}
def rNeL2 (K : PySem.W.Frag) (C : Addr) (sp : Sp) (E : XK) : R2 := fun x y H Q => ∃ (a b : Addr) (z : Str) (p q dx : Addr) (fs : List (Str × V)) (t : Value), x = .ref a ∧ y = .ref b ∧ H a = some (.lst [.str z, .ref p]) ∧ H b = some (.lst [.str z, .ref q]) ∧ p ≠ q ∧ H p = some (.ins C dx fs) ∧ TyX K H (.ref q) t ∧ PySem.W.notFirst K C t = true ∧
  sp [.ref p, .ref q] H (fun v G => v = .bl true ∧ Same H G ∧ Q (.bl false) G) E
theorem two_at {K : PySem.W.Frag} {pins : List (Addr × Obj)} {s : Shared} {σ : L2.St} {H : Hp} {a : Addr} {z : Str} {p : Addr} (I : Inv X pins σ H s) (h : H a = some (.lst [.str z, .ref p])) : ∃ n dd sl t, s.heap.get? a = some { cls := .type "list", dict := dd, data := .seq #[.str z t, .ref p] n, slots := sl } := by
  obtain ⟨its, r, ht, hz⟩ := I.list (SqL.of h)
  obtain ⟨⟨cls, dd, data, sl⟩, ho, hc, n, hd⟩ := ht.isList
  simp only at hc hd
  subst hc hd
  cases r with
  | cons r1 rs =>
    obtain ⟨t, rfl⟩ := r1
    cases rs with
    | cons r2 rs =>
      cases r2
      cases rs
      exact ⟨n, dd, sl, t, ho⟩
theorem op_neL2 (F : FnG X.prog X.w X.K X.mg X.base CX k f fd ps sp) (hb : Binds X.K fd ps []) (hx : Passes CX X E) (hs : PySem.W.findIn X.K (.ref C) "__eq__" = some (some (.ref f))) (hf : PySem.W.isFn X.K (.ref f) = true)
    (hG : X.A.guards = some []) (hr : Room (k + 1) X.A) : OpR X (compareOp .NotEq) (rNeL2 X.K C sp E) := by
  rintro pins s σ H x y v u Q I rx ry ⟨a, b, z, p, q, dx, fs, t, rfl, rfl, ea, eb, npq, ep, ty, nf, h⟩
  cases rx
  cases ry
  obtain ⟨n, dd, sl, tk, h1⟩ := two_at (K := X.K) I ea
  obtain ⟨n2, dd2, sl2, tk2, h2⟩ := two_at (K := X.K) I eb
  refine eld_ne_list h1 h2 hr.units0 ?_ ?_
  · have := SeqAt.EqAt.str_str (A := X.A.in1) (s := s) z tk z tk2
    rw [show (z == z) = true from beq_self_eq_true z] at this
    exact this
  · obtain ⟨mA, J, _⟩ := ins_get I.hok ep
    obtain ⟨od, J, _⟩ := J.look
    obtain ⟨G, Z, pp, _⟩ := kit_of I (show RelV (.ref q) (.ref q) from rfl) ty
    obtain ⟨m, hF⟩ := I.fr
    unfold eqBool
    refine wpAny_holding ?_
    refine wpAny_ite_split (fun hab => absurd (by have := eq_of_beq hab; injection this) npq) (fun _ => ?_)
    refine wpAny_bind (PySem.W.cmp_K (op := .Eq) hr.in1.units0 hF I.ok.mod.kin J (Z.ty _ _ I.kIn pp) nf hs hf (thn (run_own F hb hx rfl (in1_guards hG) hr.in1 I (show RelV (.ref q) (.ref q) from rfl) h) ?_))
    rintro w s' ⟨zz, H', I', rz, rfl, sm, q⟩
    cases rz
    refine wpAny_truthy_bool ⟨rfl, ?_, ?_, .bl false, H', I', rfl, q⟩
    · obtain ⟨n, dd, sl, t, h⟩ := two_at (K := X.K) I' (sm _ _ ea)
      exact ⟨n, dd, sl, _, _, h⟩
    · obtain ⟨n, dd, sl, t, h⟩ := two_at (K := X.K) I' (sm _ _ eb)
      exact ⟨n, dd, sl, _, _, h⟩
end
section
variable {X : Cx} {C : Addr} {sp : Sp} {k j : Nat}
theorem o_neL2 (d : EqA X.prog X.w X.K X.mg X.base k C sp) (hG : X.A.guards = some []) (hr : Room j X.A) (hk : k + 1 ≤ j) : OpR X (compareOp .NotEq) (rNeL2 X.K C sp fun _ _ _ => False) := by
  obtain ⟨f, fd, h1, h2, hn, ho, _, F, b⟩ := d
  exact op_neL2 F b pass0 h1 h2 hG (hr.mono hk)
end
end Eld
set_option Elab.async false
set_option maxRecDepth 100000
set_option maxHeartbeats 4000000
set_option linter.all false
namespace Eld
open PySem L2
local macro_rules | `(tactic| walk_at "r1") => `(tactic| with_reducible first
  | refine r_seq ?_ | refine r_asgN ?_ | refine r_asg ?_ | refine r_gname ?_ | refine r_gsub ?_ | refine r_var rfl ?_ | refine r_c ?_ | refine r_op ?_ | refine r_un ?_ | refine r_u ?_ | refine r_i0 ?_ | refine r_cb ?_ | refine r_cons ?_ | refine r_nil ?_ | refine r_cl ?_ | refine r_fn rfl rfl ?_ | refine r_mt ?_
  | refine r_test ?_ | refine r_tb ?_ | refine r_bl ?_ | refine r_and ?_ | refine r_or ?_ | refine r_not ?_ | refine r_andV ?_ | refine r_orV ?_ | refine r_notV ?_ | refine r_ifX ?_ | refine r_ifs ?_ | refine r_chain ?_ | refine r_ret ?_ | refine r_next ?_ | refine r_drop ?_ | refine iteT ?_ | refine iteF ?_ | refine iteNT ?_ | refine iteNF ?_
  | refine r_int1 ?_ | refine r_boolB ?_ | refine r_eqI ?_ | refine r_neI ?_ | refine r_eqB ?_ | refine r_neB ?_ | refine r_eqS ?_ | refine r_neS ?_ | refine r_abs ?_ | refine r_max2 ?_ | refine r_min2 ?_ | refine r_yes ?_ | refine r_tup ?_ | refine r_sfld ?_ | refine r_m0 ?_ | refine r_m1 ?_ | refine r_lst ?_ | refine r_rng1 ?_ | refine r_rng2 ?_ | refine r_ixL (SqL.of (by assumption)) rfl ?_)
local macro_rules | `(tactic| walk_at "r") => `(tactic| repeat (first | walk_at "r1" | ((with_reducible refine r_var ?hv ?_); (case hv => rfl))))

def top (i : Nat) : Stmt := PySem.Challenge.pw_endlots_k01_ratios.main.body.getD i (.Pass ⟨0, 0, 0, 0⟩)
abbrev s_InvalidNumber___init__ : Stmt := inClass (top 3) 0
theorem sc_InvalidNumber___init__ : FnScope ["self", "given"] ["self", "given"] (defScope s_InvalidNumber___init__) := ⟨rfl, rfl, rfl, by decide +kernel, rfl, by decide +kernel, by decide +kernel⟩
abbrev s_InvalidLine___init__ : Stmt := inClass (top 4) 0
theorem sc_InvalidLine___init__ : FnScope ["self", "given"] ["self", "given"] (defScope s_InvalidLine___init__) := ⟨rfl, rfl, rfl, by decide +kernel, rfl, by decide +kernel, by decide +kernel⟩
abbrev s_is_integer : Stmt := top 7
theorem sc_is_integer : FnScope ["value"] ["value"] (defScope s_is_integer) := ⟨rfl, rfl, rfl, by decide +kernel, rfl, by decide +kernel, by decide +kernel⟩
abbrev s_is_digits : Stmt := top 8
theorem sc_is_digits : FnScope ["word"] ["word"] (defScope s_is_digits) := ⟨rfl, rfl, rfl, by decide +kernel, rfl, by decide +kernel, by decide +kernel⟩
abbrev s_Ratio___init__ : Stmt := inClass (top 10) 0
theorem sc_Ratio___init__ : FnScope ["self", "top", "bottom", "shared"] ["self", "top", "bottom"] (defScope s_Ratio___init__) := ⟨rfl, rfl, rfl, by decide +kernel, rfl, by decide +kernel, by decide +kernel⟩
abbrev s_Ratio___eq__ : Stmt := inClass (top 10) 1
theorem sc_Ratio___eq__ : FnScope ["self", "other", "number"] ["self", "other"] (defScope s_Ratio___eq__) := ⟨rfl, rfl, rfl, by decide +kernel, rfl, by decide +kernel, by decide +kernel⟩
abbrev s_Ratio___str__ : Stmt := inClass (top 10) 2
theorem sc_Ratio___str__ : FnScope ["self"] ["self"] (defScope s_Ratio___str__) := ⟨rfl, rfl, rfl, by decide +kernel, rfl, by decide +kernel, by decide +kernel⟩
abbrev s_Ratio___neg__ : Stmt := inClass (top 10) 3
theorem sc_Ratio___neg__ : FnScope ["self"] ["self"] (defScope s_Ratio___neg__) := ⟨rfl, rfl, rfl, by decide +kernel, rfl, by decide +kernel, by decide +kernel⟩
abbrev s_Ratio___add__ : Stmt := inClass (top 10) 4
theorem sc_Ratio___add__ : FnScope ["self", "other", "number"] ["self", "other"] (defScope s_Ratio___add__) := ⟨rfl, rfl, rfl, by decide +kernel, rfl, by decide +kernel, by decide +kernel⟩
abbrev s_Ratio___radd__ : Stmt := inClass (top 10) 5
theorem sc_Ratio___radd__ : FnScope ["self", "other"] ["self", "other"] (defScope s_Ratio___radd__) := ⟨rfl, rfl, rfl, by decide +kernel, rfl, by decide +kernel, by decide +kernel⟩
abbrev s_Ratio___sub__ : Stmt := inClass (top 10) 6
theorem sc_Ratio___sub__ : FnScope ["self", "other", "number"] ["self", "other"] (defScope s_Ratio___sub__) := ⟨rfl, rfl, rfl, by decide +kernel, rfl, by decide +kernel, by decide +kernel⟩
abbrev s_Ratio___rsub__ : Stmt := inClass (top 10) 7
theorem sc_Ratio___rsub__ : FnScope ["self", "other"] ["self", "other"] (defScope s_Ratio___rsub__) := ⟨rfl, rfl, rfl, by decide +kernel, rfl, by decide +kernel, by decide +kernel⟩
abbrev s_Ratio___mul__ : Stmt := inClass (top 10) 8
theorem sc_Ratio___mul__ : FnScope ["self", "other", "number"] ["self", "other"] (defScope s_Ratio___mul__) := ⟨rfl, rfl, rfl, by decide +kernel, rfl, by decide +kernel, by decide +kernel⟩
abbrev s_Ratio___rmul__ : Stmt := inClass (top 10) 9
theorem sc_Ratio___rmul__ : FnScope ["self", "other"] ["self", "other"] (defScope s_Ratio___rmul__) := ⟨rfl, rfl, rfl, by decide +kernel, rfl, by decide +kernel, by decide +kernel⟩
abbrev s_Ratio_over : Stmt := inClass (top 10) 10
theorem sc_Ratio_over : FnScope ["self", "number", "divisor"] ["self", "number"] (defScope s_Ratio_over) := ⟨rfl, rfl, rfl, by decide +kernel, rfl, by decide +kernel, by decide +kernel⟩
abbrev s_Ratio_below : Stmt := inClass (top 10) 11
theorem sc_Ratio_below : FnScope ["self", "number", "bound"] ["self", "number"] (defScope s_Ratio_below) := ⟨rfl, rfl, rfl, by decide +kernel, rfl, by decide +kernel, by decide +kernel⟩
abbrev s_is_number : Stmt := top 11
theorem sc_is_number : FnScope ["value"] ["value"] (defScope s_is_number) := ⟨rfl, rfl, rfl, by decide +kernel, rfl, by decide +kernel, by decide +kernel⟩
abbrev s_as_ratio : Stmt := top 12
theorem sc_as_ratio : FnScope ["value"] ["value"] (defScope s_as_ratio) := ⟨rfl, rfl, rfl, by decide +kernel, rfl, by decide +kernel, by decide +kernel⟩
abbrev s_read_number : Stmt := top 13
theorem sc_read_number : FnScope ["line", "number", "top", "slash", "bottom"] ["line"] (defScope s_read_number) := ⟨rfl, rfl, rfl, by decide +kernel, rfl, by decide +kernel, by decide +kernel⟩
abbrev s_on_one_bottom : Stmt := top 14
theorem sc_on_one_bottom : FnScope ["numbers", "ratios", "bottom", "ratio", "number"] ["numbers"] (defScope s_on_one_bottom) := ⟨rfl, rfl, rfl, by decide +kernel, rfl, by decide +kernel, by decide +kernel⟩
abbrev s_total : Stmt := top 15
theorem sc_total : FnScope ["numbers", "tops", "bottom"] ["numbers"] (defScope s_total) := ⟨rfl, rfl, rfl, by decide +kernel, rfl, by decide +kernel, by decide +kernel⟩
abbrev s_greatest : Stmt := top 16
theorem sc_greatest : FnScope ["numbers", "tops", "bottom"] ["numbers"] (defScope s_greatest) := ⟨rfl, rfl, rfl, by decide +kernel, rfl, by decide +kernel, by decide +kernel⟩
abbrev s_smallest : Stmt := top 17
theorem sc_smallest : FnScope ["numbers", "tops", "bottom"] ["numbers"] (defScope s_smallest) := ⟨rfl, rfl, rfl, by decide +kernel, rfl, by decide +kernel, by decide +kernel⟩
abbrev s__law_cell : Stmt := top 19
theorem sc__law_cell : FnScope ["script", "k"] ["script", "k"] (defScope s__law_cell) := ⟨rfl, rfl, rfl, by decide +kernel, rfl, by decide +kernel, by decide +kernel⟩
abbrev s__law_box : Stmt := top 20
theorem sc__law_box : FnScope ["great"] ["great"] (defScope s__law_box) := ⟨rfl, rfl, rfl, by decide +kernel, rfl, by decide +kernel, by decide +kernel⟩
abbrev s__law_take : Stmt := top 21
theorem sc__law_take : FnScope ["box", "many", "mixed", "digit"] ["box", "many"] (defScope s__law_take) := ⟨rfl, rfl, rfl, by decide +kernel, rfl, by decide +kernel, by decide +kernel⟩
abbrev s__law_shared : Stmt := top 22
theorem sc__law_shared : FnScope ["one", "other", "left", "rest"] ["one", "other"] (defScope s__law_shared) := ⟨rfl, rfl, rfl, by decide +kernel, rfl, by decide +kernel, by decide +kernel⟩
abbrev s__law_low : Stmt := top 23
theorem sc__law_low : FnScope ["top", "bottom", "shared"] ["top", "bottom"] (defScope s__law_low) := ⟨rfl, rfl, rfl, by decide +kernel, rfl, by decide +kernel, by decide +kernel⟩
abbrev s__law_top : Stmt := top 24
theorem sc__law_top : FnScope ["box", "way", "number"] ["box"] (defScope s__law_top) := ⟨rfl, rfl, rfl, by decide +kernel, rfl, by decide +kernel, by decide +kernel⟩
abbrev s__law_bottom : Stmt := top 25
theorem sc__law_bottom : FnScope ["box", "number"] ["box"] (defScope s__law_bottom) := ⟨rfl, rfl, rfl, by decide +kernel, rfl, by decide +kernel, by decide +kernel⟩
abbrev s__law_numbers : Stmt := top 26
theorem sc__law_numbers : FnScope ["box", "found", "k", "way", "times", "top", "bottom"] ["box"] (defScope s__law_numbers) := ⟨rfl, rfl, rfl, by decide +kernel, rfl, by decide +kernel, by decide +kernel⟩
abbrev s__law_made : Stmt := top 27
theorem sc__law_made : FnScope ["pair"] ["pair"] (defScope s__law_made) := ⟨rfl, rfl, rfl, by decide +kernel, rfl, by decide +kernel, by decide +kernel⟩
abbrev s__law_worth : Stmt := top 28
theorem sc__law_worth : FnScope ["pair"] ["pair"] (defScope s__law_worth) := ⟨rfl, rfl, rfl, by decide +kernel, rfl, by decide +kernel, by decide +kernel⟩
abbrev s__law_is : Stmt := top 29
theorem sc__law_is : FnScope ["ratio", "pair"] ["ratio", "pair"] (defScope s__law_is) := ⟨rfl, rfl, rfl, by decide +kernel, rfl, by decide +kernel, by decide +kernel⟩
abbrev s__law_says : Stmt := top 30
theorem sc__law_says : FnScope ["value", "due"] ["value", "due"] (defScope s__law_says) := ⟨rfl, rfl, rfl, by decide +kernel, rfl, by decide +kernel, by decide +kernel⟩
abbrev s__law_line : Stmt := top 31
theorem sc__law_line : FnScope ["pair"] ["pair"] (defScope s__law_line) := ⟨rfl, rfl, rfl, by decide +kernel, rfl, by decide +kernel, by decide +kernel⟩
abbrev s__law_two_right : Stmt := top 32
theorem sc__law_two_right : FnScope ["one", "other", "times", "same", "first", "second", "plus", "minus", "top", "bottom", "more", "under"] ["one", "other"] (defScope s__law_two_right) := ⟨rfl, rfl, rfl, by decide +kernel, rfl, by decide +kernel, by decide +kernel⟩
abbrev s__law_alone_right : Stmt := top 33
theorem sc__law_alone_right : FnScope ["box", "pair", "ratio", "line", "odd", "truths", "top", "bottom"] ["box", "pair"] (defScope s__law_alone_right) := ⟨rfl, rfl, rfl, by decide +kernel, rfl, by decide +kernel, by decide +kernel⟩
abbrev s__law_lists_right : Stmt := top 34
theorem sc__law_lists_right : FnScope ["box", "pairs", "many", "some", "pair", "numbers", "kept", "turn", "plus", "most", "least", "top", "bottom", "k"] ["box", "pairs"] (defScope s__law_lists_right) := ⟨rfl, rfl, rfl, by decide +kernel, rfl, by decide +kernel, by decide +kernel⟩
abbrev s__law_met : Stmt := top 35
theorem sc__law_met : FnScope ["way", "one", "other", "e"] ["way", "one", "other"] (defScope s__law_met) := ⟨rfl, rfl, rfl, by decide +kernel, rfl, by decide +kernel, by decide +kernel⟩
abbrev s__law_refused_right : Stmt := top 36
theorem sc__law_refused_right : FnScope ["box", "pair", "odds", "way", "grown", "told", "odd", "more", "good", "one", "other", "due"] ["box", "pair"] (defScope s__law_refused_right) := ⟨rfl, rfl, rfl, by decide +kernel, rfl, by decide +kernel, by decide +kernel⟩
abbrev s__law_bad_lines : Stmt := top 37
theorem sc__law_bad_lines : FnScope ["box", "pair", "found", "top", "bottom", "line", "size"] ["box", "pair"] (defScope s__law_bad_lines) := ⟨rfl, rfl, rfl, by decide +kernel, rfl, by decide +kernel, by decide +kernel⟩
abbrev s__law_lines_right : Stmt := top 38
theorem sc__law_lines_right : FnScope ["box", "pair", "found", "bad"] ["box", "pair"] (defScope s__law_lines_right) := ⟨rfl, rfl, rfl, by decide +kernel, rfl, by decide +kernel, by decide +kernel⟩
abbrev s__law_right : Stmt := top 39
theorem sc__law_right : FnScope ["box", "pairs", "one", "other"] ["box"] (defScope s__law_right) := ⟨rfl, rfl, rfl, by decide +kernel, rfl, by decide +kernel, by decide +kernel⟩
abbrev s_law : Stmt := top 40
theorem sc_law : FnScope ["script", "k"] ["script"] (defScope s_law) := ⟨rfl, rfl, rfl, by decide +kernel, rfl, by decide +kernel, by decide +kernel⟩
structure Zs (K : PySem.W.Frag) (mg : Str → Option Value) (C cz : Addr) : Prop where
  isinstance_ : mg "isinstance" = none
  int_ : mg "int" = none
  bool_ : mg "bool" = none
  str_ : mg "str" = none
  list_ : mg "list" = none
  tuple_ : mg "tuple" = none
  len_ : mg "len" = none
  abs_ : mg "abs" = none
  max_ : mg "max" = none
  min_ : mg "min" = none
  sum_ : mg "sum" = none
  repr_ : mg "repr" = none
  range_ : mg "range" = none
  gcd_ : mg "gcd" = some (.builtin "math.gcd")
  lcm_ : mg "lcm" = some (.builtin "math.lcm")
  cRatio : mg "Ratio" = some (.ref C)
  cByZero : mg "ByZero" = some (.ref cz)
  xByZero : Exc0 K cz
/-! ## a Ratio -/
def rtF (n d : Int) : List (Str × V) := [("top", .int n), ("bottom", .int d)]
theorem look_cons {x k : Str} {v : V} {r : List (Str × V)} : List.lookup x ((k, v) :: r) = if x = k then some v else List.lookup x r := by
  by_cases h : x = k
  · rw [if_pos h]
    simp [List.lookup, h]
  · rw [if_neg h]
    have : (x == k) = false := by simpa using h
    simp [List.lookup, this]
theorem ne_tb : ¬ (("top" : Str) = "bottom") := by decide +kernel
theorem rt_top (n d : Int) : (rtF n d).lookup ("top" : Str) = some (.int n) := by unfold rtF; rw [look_cons, if_pos rfl]
theorem rt_bot (n d : Int) : (rtF n d).lookup ("bottom" : Str) = some (.int d) := by unfold rtF; rw [look_cons, if_neg (Ne.symm ne_tb), look_cons, if_pos rfl]
theorem rt_no (n d : Int) {m : Str} (h1 : ¬ m = "top") (h2 : ¬ m = "bottom") : (rtF n d).lookup m = none := by unfold rtF; rw [look_cons, if_neg h1, look_cons, if_neg h2]; rfl
theorem put1 (n : Int) : putF "top" (V.int n) [] = ([(("top" : Str), V.int n)] : List (Str × V)) := rfl
theorem put2 (n d : Int) : putF "bottom" (V.int d) [(("top" : Str), V.int n)] = rtF n d := by
  show (if ("top" : Str) = "bottom" then [(("top" : Str), V.int d)] else (("top" : Str), V.int n) :: putF "bottom" (V.int d) []) = rtF n d
  rw [if_neg ne_tb]
  rfl
/-- a Ratio with this top and bottom stands at p -/
def RatAt (C : Addr) (H : Hp) (p : Addr) (n d : Int) : Prop := ∃ dx, H p = some (.ins C dx (rtF n d))
theorem RatAt.same {C : Addr} {H H' : Hp} {p : Addr} {n d : Int} (h : RatAt C H p n d) (s : Same H H') : RatAt C H' p n d := by
  obtain ⟨dx, e⟩ := h
  exact ⟨dx, s _ _ e⟩
/-- a number: an integer or a Ratio -/
def NumAt (C : Addr) (H : Hp) (v : V) (n d : Int) : Prop := (v = .int n ∧ d = 1) ∨ ∃ p, v = .ref p ∧ RatAt C H p n d
theorem NumAt.same {C : Addr} {H H' : Hp} {v : V} {n d : Int} (h : NumAt C H v n d) (s : Same H H') : NumAt C H' v n d := by
  rcases h with h | ⟨p, e, r⟩
  · exact .inl h
  · exact .inr ⟨p, e, r.same s⟩
/-- the kinds of values that are spoken of -/
inductive Kind (C : Addr) : Value → Prop
  | non : Kind C (.type "NoneType")
  | bl : Kind C (.type "bool")
  | int : Kind C (.type "int")
  | str : Kind C (.type "str")
  | lst : Kind C (.type "list")
  | tup : Kind C (.type "tuple")
  | dic : Kind C (.type "dict")
  | rat : Kind C (.ref C)
/-- what the top has written of the class -/
structure Sc (K : PySem.W.Frag) (C : Addr) : Prop where
  cl : Cls K C
  nT : NoAttr K C "top"
  nB : NoAttr K C "bottom"
  ha : PySem.W.findIn K (.ref C) "__class__" = some (some (.builtin "object.__class__"))
  hn : PySem.W.specialIn K (.builtin "object.__class__") "__get__" = some (some (.builtin "getset_descriptor.__get__"))
  ht : PySem.W.takesIn K (.builtin "object.__class__") = some true
  hm : PySem.W.mroIn K C (.type "object") = some true
  kC : PySem.W.kitOne K (.ref C) (.ref C) = some true
  kN : PySem.W.kitOne K (.type "NoneType") (.ref C) = some false
  kL : PySem.W.kitOne K (.type "list") (.ref C) = some false
  kT : PySem.W.kitOne K (.type "tuple") (.ref C) = some false
  kS : PySem.W.kitOne K (.type "str") (.ref C) = some false
  kI : PySem.W.kitOne K (.type "int") (.ref C) = some false
  kB : PySem.W.kitOne K (.type "bool") (.ref C) = some false
  kD : PySem.W.kitOne K (.type "dict") (.ref C) = some false
  cI : PySem.W.kitOne K (.ref C) (.type "int") = some false
  cB : PySem.W.kitOne K (.ref C) (.type "bool") = some false
  cS : PySem.W.kitOne K (.ref C) (.type "str") = some false
  nf : ∀ t, Kind C t → PySem.W.notFirst K C t = true
theorem Sc.ty {K : PySem.W.Frag} {C dx : Addr} {H : Hp} {p : Addr} {fs : List (Str × V)} (S : Sc K C) (e : H p = some (.ins C dx fs)) : TyX K H (.ref p) (.ref C) := .base (.ins e S.cl S.ha S.hn S.ht S.hm)
def isI (t : Value) : Bool := decide (t = .type "int")
def isN (C : Addr) (t : Value) : Bool := decide (t = .ref C) || isI t
theorem r_isiT {K : PySem.W.Frag} {H : Hp} {Q : VK} {x : V} {t : Value} {T : String} {b : Bool} (ty : TyX K H x t) (hk : PySem.W.kitOne K t (.type T) = some b) (h : Q (.bl b) H) : rIsi K [x, .ty T] H Q := ⟨x, .ty T, t, .type T, b, rfl, .ty T, ty, hk, h⟩
def spIsInt (C : Addr) (K : PySem.W.Frag) : Sp := fun vs H Q _ => ∃ v t, vs = [v] ∧ TyX K H v t ∧ Kind C t ∧ Q (.bl (isI t)) H
def spIsNum (C : Addr) (K : PySem.W.Frag) : Sp := fun vs H Q _ => ∃ v t, vs = [v] ∧ TyX K H v t ∧ Kind C t ∧ Q (.bl (isN C t)) H
def spIsDigits : Sp := fun vs H Q _ => ∃ a, vs = [.str a] ∧ Q (.bl (Txt.isascii a && Txt.isdigit a)) H
section
variable {P : Program} {w : World} {K : PySem.W.Frag} {mg : Str → Option Value} {base : Heap} {C cz : Addr}
theorem ok_is_integer {f : Addr} {fd : FuncData} (F : Fun K "is_integer" "is_integer" s_is_integer f fd) (Z : Zs K mg C cz) (S : Sc K C) : FnG P w K mg base CX0 1 f fd ["value"] (spIsInt C K) := by
  refine okG F sc_is_integer (fun vs H Q E h => ?_) (fun cdv B up z H vs Q E hG hr h => ?_)
  · obtain ⟨v, t, rfl, _⟩ := h
    rfl
  · obtain ⟨v, t, rfl, ty, kd, k⟩ := h
    refine ⟨_, (pss_one (ps_ret (pe_and (pe_callB call_isi (by rfl) Z.isinstance_ (by decide +kernel) (pa_cons (pv 0) (pa_cons (pe_ty "int" (by rfl) Z.int_ (by decide +kernel)) pa_nil))) (pe_one (pe_not (pe_callB call_isi (by rfl) Z.isinstance_ (by decide +kernel) (pa_cons (pv 0) (pa_cons (pe_ty "bool" (by rfl) Z.bool_ (by decide +kernel)) pa_nil)))))))), ?_⟩
    walk_at "r"
    cases kd with
    | rat =>
      refine r_isiT ty S.cI ?_
      walk_at "r"
      exact k
    | int =>
      refine r_isiB (b := true) ty (by decide +kernel) ?_
      walk_at "r"
      refine r_isiB (b := false) ty (by decide +kernel) ?_
      walk_at "r"
      exact k
    | bl =>
      refine r_isiB (b := true) ty (by decide +kernel) ?_
      walk_at "r"
      refine r_isiB (b := true) ty (by decide +kernel) ?_
      walk_at "r"
      exact k
    | _ =>
      refine r_isiB (b := false) ty (by decide +kernel) ?_
      walk_at "r"
      exact k
theorem ok_is_digits {f : Addr} {fd : FuncData} (F : Fun K "is_digits" "is_digits" s_is_digits f fd) : FnG P w K mg base CX0 1 f fd ["word"] spIsDigits := by
  refine okG F sc_is_digits (fun vs H Q E h => ?_) (fun cdv B up z H vs Q E hG hr h => ?_)
  · obtain ⟨a, rfl, _⟩ := h
    rfl
  · obtain ⟨a, rfl, k⟩ := h
    refine ⟨_, (pss_one (ps_ret (pe_and (pe_m0 PySem.F.slot_str_isascii PySem.F.type_str_isascii mt_isascii (pv 0)) (pe_one (pe_m0 PySem.F.slot_str_isdigit PySem.F.type_str_isdigit mt_isdigit (pv 0)))))), ?_⟩
    walk_at "r"
    refine ⟨⟨a, rfl⟩, a, rfl, rfl, trivial, ?_⟩
    cases c : Txt.isascii a with
    | true =>
      walk_at "r"
      refine ⟨⟨a, rfl⟩, a, rfl, rfl, trivial, ?_⟩
      rw [c, Bool.true_and] at k
      exact k
    | false =>
      walk_at "r"
      rw [c, Bool.false_and] at k
      exact k
theorem ok_is_number {f : Addr} {fd : FuncData} (F : Fun K "is_number" "is_number" s_is_number f fd) (Z : Zs K mg C cz) (S : Sc K C) (d_is_integer : DefD P w K mg base 1 "is_integer" 1 [] byPlace (spIsInt C K)) : FnG P w K mg base CX0 2 f fd ["value"] (spIsNum C K) := by
  refine okG F sc_is_number (fun vs H Q E h => ?_) (fun cdv B up z H vs Q E hG hr h => ?_)
  · obtain ⟨v, t, rfl, _⟩ := h
    rfl
  · obtain ⟨v, t, rfl, ty, kd, k⟩ := h
    refine ⟨_, (pss_one (ps_ret (pe_or (pe_callB call_isi (by rfl) Z.isinstance_ (by decide +kernel) (pa_cons (pv 0) (pa_cons (pe_cls (by rfl) Z.cRatio) pa_nil))) (pe_one (pd_pos d_is_integer hG hr (by decide) (by rfl) (pa_cons (pv 0) pa_nil)))))), ?_⟩
    walk_at "r"
    cases kd with
    | rat =>
      refine r_isiO (b := true) ty S.kC ?_
      walk_at "r"
      have e : isN C (.ref C) = true := by simp [isN]
      rw [e] at k
      exact k
    | non =>
      refine r_isiO (b := false) ty S.kN ?_
      walk_at "r"
      exact ⟨v, _, rfl, ty, .non, k⟩
    | bl =>
      refine r_isiO (b := false) ty S.kB ?_
      walk_at "r"
      exact ⟨v, _, rfl, ty, .bl, k⟩
    | int =>
      refine r_isiO (b := false) ty S.kI ?_
      walk_at "r"
      exact ⟨v, _, rfl, ty, .int, k⟩
    | str =>
      refine r_isiO (b := false) ty S.kS ?_
      walk_at "r"
      exact ⟨v, _, rfl, ty, .str, k⟩
    | lst =>
      refine r_isiO (b := false) ty S.kL ?_
      walk_at "r"
      exact ⟨v, _, rfl, ty, .lst, k⟩
    | tup =>
      refine r_isiO (b := false) ty S.kT ?_
      walk_at "r"
      exact ⟨v, _, rfl, ty, .tup, k⟩
    | dic =>
      refine r_isiO (b := false) ty S.kD ?_
      walk_at "r"
      exact ⟨v, _, rfl, ty, .dic, k⟩
end
end Eld
set_option Elab.async false
set_option maxRecDepth 100000
set_option maxHeartbeats 4000000
set_option linter.all false
namespace Eld
open PySem L2
local macro_rules | `(tactic| walk_at "r1") => `(tactic| with_reducible first
  | refine r_seq ?_ | refine r_asgN ?_ | refine r_asg ?_ | refine r_gname ?_ | refine r_gsub ?_ | refine r_var rfl ?_ | refine r_c ?_ | refine r_op ?_ | refine r_un ?_ | refine r_u ?_ | refine r_i0 ?_ | refine r_cb ?_ | refine r_cons ?_ | refine r_nil ?_ | refine r_cl ?_ | refine r_fn rfl rfl ?_ | refine r_mt ?_
  | refine r_test ?_ | refine r_tb ?_ | refine r_bl ?_ | refine r_and ?_ | refine r_or ?_ | refine r_not ?_ | refine r_andV ?_ | refine r_orV ?_ | refine r_notV ?_ | refine r_ifX ?_ | refine r_ifs ?_ | refine r_chain ?_ | refine r_ret ?_ | refine r_next ?_ | refine r_drop ?_ | refine iteT ?_ | refine iteF ?_ | refine iteNT ?_ | refine iteNF ?_
  | refine r_int1 ?_ | refine r_boolB ?_ | refine r_eqI ?_ | refine r_neI ?_ | refine r_eqB ?_ | refine r_neB ?_ | refine r_eqS ?_ | refine r_neS ?_ | refine r_abs ?_ | refine r_max2 ?_ | refine r_min2 ?_ | refine r_yes ?_ | refine r_tup ?_ | refine r_sfld ?_ | refine r_m0 ?_ | refine r_m1 ?_ | refine r_lst ?_ | refine r_rng1 ?_ | refine r_rng2 ?_ | refine r_ixL (SqL.of (by assumption)) rfl ?_)
local macro_rules | `(tactic| walk_at "r") => `(tactic| repeat (first | walk_at "r1" | ((with_reducible refine r_var ?hv ?_); (case hv => rfl))))

theorem r_mkO {C : Addr} {sp : Sp} {dvs : List V} {ta : TA} {σ : L2.St} {H : Hp} {Q : XK} (h : ta σ H fun vs H1 => vs.length ≤ 1000 ∧ ∀ a, H1 a = none → sp (.ref a :: (vs ++ dvs)) (upd H1 a (exo a C none)) (fun v H2 => v = .non ∧ ∃ (d : Addr) (fs : List (Str × V)), H2 a = some (exo a C (some d)) ∧ H2 d = some (exd d fs) ∧ H1 d = none ∧ Q (.ref C) (some d) (upd (del H2 a) d (.xd fs))) fun _ _ _ => False) : tMkO C sp dvs ta σ H Q := h
local macro_rules | `(tactic| walk_at "r1") => `(tactic| with_reducible first | refine r_clS ?_ | refine r_fnS rfl rfl ?_ | refine r_mtS ?_ | refine r_mkO ?_)
/-- an error of the class at C with v, in a heap that has all of H -/
def errE (E : XK) (C : Addr) (v : V) (H : Hp) : Prop := ∀ d G, H d = none → Same H G → G d = some (.xd (gv v)) → E (.ref C) (some d) G
theorem errE.same {E : XK} {C : Addr} {v : V} {H H' : Hp} (h : errE E C v H) (s : Same H H') : errE E C v H' := fun d G n t g => h d G (s.free n) (s.trans t) g
def spErrI (C : Addr) : Sp := spErr C
def spRatI (C Ce cz : Addr) (K : PySem.W.Frag) : Sp := fun vs H Q E => ∃ p a b dx, vs = [.ref p, a, b] ∧ H p = some (.ins C dx []) ∧
  ((∃ x y, a = .int x ∧ b = .int y ∧ y ≠ 0 ∧ y.natAbs < 2 ^ 4000 ∧ ∀ H', (∀ c o, c ≠ p → H c = some o → H' c = some o) → RatAt C H' p (lowT x y) (lowB x y) → Q .non H') ∨
   (∃ t, TyX K H a t ∧ Kind C t ∧ isI t = false ∧ errE E Ce a H) ∨
   (∃ x t, a = .int x ∧ TyX K H b t ∧ Kind C t ∧ isI t = false ∧ errE E Ce b H) ∨
   (∃ x, a = .int x ∧ b = .int 0 ∧ E (.ref cz) none H))
theorem sg_small {x y : Int} (h : y ≠ 0) (hy : y.natAbs < 2 ^ 4000) : (sgI x y).natAbs.log2 < 9000 := by
  rw [sgI_abs]
  have : Nat.gcd x.natAbs y.natAbs ≤ y.natAbs := Nat.le_of_dvd (Int.natAbs_pos.mpr h) (Nat.gcd_dvd_right _ _)
  exact Nat.lt_trans (log2_of (Nat.lt_of_le_of_lt this hy) (by decide)) (by decide)
section
variable {P : Program} {w : World} {K : PySem.W.Frag} {mg : Str → Option Value} {base : Heap} {C Ce cz : Addr}
theorem ok_InvalidNumber {f : Addr} {fd : FuncData} (F : Fun K "__init__" "InvalidNumber.__init__" s_InvalidNumber___init__ f fd) (T : OexC K C) (hg : PySem.W.findIn K (.ref C) "given" = some none) : FnOk P w K mg base CX0 1 f fd ["self", "given"] (spErr C) := by
  refine F.ok sc_InvalidNumber___init__ (fun vs H Q E h => ?_) (fun cdv B up z H vs Q E hr h => ⟨_, (pss_one (ps_ost (pv 0) (pv 1))), ?_⟩)
  · obtain ⟨a, v, rfl, _⟩ := h
    rfl
  · obtain ⟨a, v, rfl, ha, k⟩ := h
    exact ⟨_, rfl, _, rfl, a, C, rfl, T, hg, .inl ⟨ha, fun dx n e => k dx n e⟩⟩
theorem ok_InvalidLine {f : Addr} {fd : FuncData} (F : Fun K "__init__" "InvalidLine.__init__" s_InvalidLine___init__ f fd) (T : OexC K C) (hg : PySem.W.findIn K (.ref C) "given" = some none) : FnOk P w K mg base CX0 1 f fd ["self", "given"] (spErr C) := by
  refine F.ok sc_InvalidLine___init__ (fun vs H Q E h => ?_) (fun cdv B up z H vs Q E hr h => ⟨_, (pss_one (ps_ost (pv 0) (pv 1))), ?_⟩)
  · obtain ⟨a, v, rfl, _⟩ := h
    rfl
  · obtain ⟨a, v, rfl, ha, k⟩ := h
    exact ⟨_, rfl, _, rfl, a, C, rfl, T, hg, .inl ⟨ha, fun dx n e => k dx n e⟩⟩
/-- a def with defaults, as it stands behind the top -/
structure FunV (K : PySem.W.Frag) (x ql : Str) (st : Stmt) (f : Addr) (fd : FuncData) : Prop where
  ex : ∃ (oc : Value) (od : Option Addr) (dV kV doc pm : Value) (an : Option Addr) (cdv ct : Value) (osl : Array (Option Value)), fd = PySem.W.fnOf x ql (defArgs st) (defBody st) (defScope st) dV kV doc pm an cdv ct ∧ K.lookup f = some ⟨oc, od, .func fd, osl⟩ ∧ PySem.W.codeIn K cdv ql = true
theorem okGXV {x ql : Str} {st : Stmt} {f : Addr} {fd : FuncData} {N ps : List Str} {k : Nat} {sp : Sp} (F : FunV K x ql st f fd) (S : FnScope N ps (defScope st)) (ln : ∀ vs H Q E, sp vs H Q E → vs.length = ps.length)
    (bo : ∀ (cdv : Value) (B : Around) (up : List Env) (z : Shared) (H : Hp) (vs : List V) (Q : VK) (E : XK), (B.deeper (PyProof.Rows.envOfC ql (defScope st) z.heap.objs.size f cdv)).guards = some [] → Room k (B.deeper (PyProof.Rows.envOfC ql (defScope st) z.heap.objs.size f cdv)) → sp vs H Q E →
      ∃ t, PSs (cxOf (L2.CX P w) P w K mg base N ql (defScope st) f cdv B up z H E) (defBody st) t ∧ t { nx := fun _ G => Q .non G, rt := Q } (start N vs) H) : FnG P w K mg base (L2.CX P w) (k + 1) f fd ps sp := by
  obtain ⟨oc, od, dV, kV, doc, pm, an, cdv, ct, osl, rfl, lk, cd⟩ := F.ex
  refine fnG_of lk cd S ln ?_
  intro B up z H vs Q E gd rm hs
  exact bo cdv B up z H vs Q E gd rm hs
theorem ok_init {f : Addr} {fd : FuncData} (F : FunV K "__init__" "Ratio.__init__" s_Ratio___init__ f fd) (Z : Zs K mg C cz) (S : Sc K C) (d_is_integer : DefD P w K mg base 1 "is_integer" 1 [] byPlace (spIsInt C K)) (d_InvalidNumber : ErrD P w K mg base "InvalidNumber" Ce) : FnG P w K mg base (L2.CX P w) 3 f fd ["self", "top", "bottom"] (spRatI C Ce cz K) := by
  refine okGXV F sc_Ratio___init__ (fun vs H Q E h => ?_) (fun cdv B up z H vs Q E hG hr h => ?_)
  · obtain ⟨p, a, b, dx, rfl, _⟩ := h
    rfl
  refine ⟨_, (pss_cons (ps_if (pt_not (pt_val (pd_pos d_is_integer hG hr (by decide) (by rfl) (pa_cons (pv 1) pa_nil)))) (pss_one (ps_err d_InvalidNumber rfl (takes_of rfl rfl rfl rfl) (hr.mono (by decide)) (by rfl) (pa_cons (pv 1) pa_nil))) pss_nil)
  (pss_cons (ps_if (pt_not (pt_val (pd_pos d_is_integer hG hr (by decide) (by rfl) (pa_cons (pv 2) pa_nil)))) (pss_one (ps_err d_InvalidNumber rfl (takes_of rfl rfl rfl rfl) (hr.mono (by decide)) (by rfl) (pa_cons (pv 2) pa_nil))) pss_nil)
  (pss_cons (ps_if (pt_cmpR op_eq (pv 2) pe_int (nomark _)) (pss_one (ps_err0 Z.xByZero Z.cByZero rfl (takes_of rfl rfl rfl rfl) (by rfl))) pss_nil)
  (pss_cons (ps_set (i := 3) sc_Ratio___init__.nd rfl (by first | exact Or.inl rfl | exact Or.inr rfl) (pe_callBfun cr_gcd (by rfl) Z.gcd_ (pa_cons (pv 1) (pa_cons (pv 2) pa_nil))))
  (pss_cons (ps_if (pt_cmpR op_lt (pv 2) pe_int (nomark _)) (pss_one (ps_set (i := 3) sc_Ratio___init__.nd rfl (by first | exact Or.inl rfl | exact Or.inr rfl) (pe_un un_neg (pv 3)))) pss_nil)
  (pss_cons (ps_fld (pv 0) (pe_op op_fdivZ (pv 1) (pv 3)) rfl)
  (pss_one (ps_fld (pv 0) (pe_op op_fdivZ (pv 2) (pv 3)) rfl)))))))), ?_⟩
  obtain ⟨p, a, b, dx, rfl, hp, h⟩ := h
  have int_ : ∀ x : Int, isI (.type "int") = true := fun _ => by decide +kernel
  rcases h with ⟨x, y, rfl, rfl, hy, hs, k⟩ | ⟨t, ty, kd, ni, k⟩ | ⟨x, t, rfl, ty, kd, ni, k⟩ | ⟨x, rfl, rfl, k⟩
  · walk_at "r"
    refine ⟨_, _, rfl, .base (.int x), .int, ?_⟩
    rw [int_ x]
    walk_at "r"
    refine ⟨_, _, rfl, .base (.int y), .int, ?_⟩
    rw [int_ x]
    walk_at "r"
    rw [decide_eq_false (show ¬ V.int y = V.int 0 from fun e => hy (V.int.inj e))]
    walk_at "r"
    refine ⟨x, y, rfl, ?_⟩
    walk_at "r"
    have hs9 := sg_small (x := x) hy hs
    have hs0 := sgI_ne (a := x) hy
    refine ite2 (fun c => ?_) (fun c => ?_)
    · walk_at "r"
      have es : -((x.natAbs.gcd y.natAbs : Nat) : Int) = sgI x y := by unfold sgI gcdI; rw [if_pos (of_decide_eq_true c)]
      rw [es]
      refine r_i ⟨hs0, hs9⟩ ?_
      walk_at "r"
      refine ⟨p, C, dx, [], rfl, hp, S.cl, S.nT, by show 0 < 1000; decide, ?_⟩
      rw [put1]
      have p3 : (upd H p (.ins C dx [("top", V.int (x.fdiv (sgI x y)))])) p = some (.ins C dx [("top", V.int (x.fdiv (sgI x y)))]) := upd_same
      walk_at "r"
      refine r_i ⟨hs0, hs9⟩ ?_
      walk_at "r"
      refine ⟨p, C, dx, _, rfl, p3, S.cl, S.nB, by show 1 < 1000; decide, ?_⟩
      rw [put2]
      exact k _ (fun c o n e => by rw [upd_ne n, upd_ne n]; exact e) ⟨dx, upd_same⟩
    · walk_at "r"
      have es : ((x.natAbs.gcd y.natAbs : Nat) : Int) = sgI x y := by unfold sgI gcdI; rw [if_neg fun h => c (decide_eq_true h)]
      rw [es]
      refine r_i ⟨hs0, hs9⟩ ?_
      walk_at "r"
      refine ⟨p, C, dx, [], rfl, hp, S.cl, S.nT, by show 0 < 1000; decide, ?_⟩
      rw [put1]
      have p3 : (upd H p (.ins C dx [("top", V.int (x.fdiv (sgI x y)))])) p = some (.ins C dx [("top", V.int (x.fdiv (sgI x y)))]) := upd_same
      walk_at "r"
      refine r_i ⟨hs0, hs9⟩ ?_
      walk_at "r"
      refine ⟨p, C, dx, _, rfl, p3, S.cl, S.nB, by show 1 < 1000; decide, ?_⟩
      rw [put2]
      exact k _ (fun c o n e => by rw [upd_ne n, upd_ne n]; exact e) ⟨dx, upd_same⟩
  · walk_at "r"
    refine ⟨_, _, rfl, ty, kd, ?_⟩
    rw [ni]
    walk_at "r"
    exact err_done k
  · walk_at "r"
    refine ⟨_, _, rfl, .base (.int x), .int, ?_⟩
    rw [int_ x]
    walk_at "r"
    refine ⟨_, _, rfl, ty, kd, ?_⟩
    rw [ni]
    walk_at "r"
    exact err_done k
  · walk_at "r"
    refine ⟨_, _, rfl, .base (.int x), .int, ?_⟩
    rw [int_ x]
    walk_at "r"
    refine ⟨_, _, rfl, .base (.int 0), .int, ?_⟩
    rw [int_ x]
    walk_at "r"
    rw [decide_eq_true rfl]
    walk_at "r"
    exact k
end
end Eld
set_option Elab.async false
set_option maxRecDepth 100000
set_option maxHeartbeats 4000000
set_option linter.all false
namespace Eld
open PySem L2
local macro_rules | `(tactic| walk_at "r1") => `(tactic| with_reducible first
  | refine r_seq ?_ | refine r_asgN ?_ | refine r_asg ?_ | refine r_gname ?_ | refine r_gsub ?_ | refine r_var rfl ?_ | refine r_c ?_ | refine r_op ?_ | refine r_un ?_ | refine r_u ?_ | refine r_i0 ?_ | refine r_cb ?_ | refine r_cons ?_ | refine r_nil ?_ | refine r_cl ?_ | refine r_fn rfl rfl ?_ | refine r_mt ?_
  | refine r_test ?_ | refine r_tb ?_ | refine r_bl ?_ | refine r_and ?_ | refine r_or ?_ | refine r_not ?_ | refine r_andV ?_ | refine r_orV ?_ | refine r_notV ?_ | refine r_ifX ?_ | refine r_ifs ?_ | refine r_chain ?_ | refine r_ret ?_ | refine r_next ?_ | refine r_drop ?_ | refine iteT ?_ | refine iteF ?_ | refine iteNT ?_ | refine iteNF ?_
  | refine r_int1 ?_ | refine r_boolB ?_ | refine r_eqI ?_ | refine r_neI ?_ | refine r_eqB ?_ | refine r_neB ?_ | refine r_eqS ?_ | refine r_neS ?_ | refine r_abs ?_ | refine r_max2 ?_ | refine r_min2 ?_ | refine r_yes ?_ | refine r_tup ?_ | refine r_sfld ?_ | refine r_m0 ?_ | refine r_m1 ?_ | refine r_lst ?_ | refine r_rng1 ?_ | refine r_rng2 ?_ | refine r_ixL (SqL.of (by assumption)) rfl ?_)
local macro_rules | `(tactic| walk_at "r") => `(tactic| repeat (first | walk_at "r1" | ((with_reducible refine r_var ?hv ?_); (case hv => rfl))))

/-- o.f of an instance that is told -/
theorem r_fldI {K : PySem.W.Frag} {σ : L2.St} {H : Hp} {Q : VK} {ta : TE} {f : Str} (h : ta σ H fun x H1 => ∃ a C dx fs v, x = .ref a ∧ H1 a = some (.ins C dx fs) ∧ Cls K C ∧ NoAttr K C f ∧ fs.lookup f = some v ∧ Q v H1) : tFld K ta f σ H Q := h
local macro_rules | `(tactic| walk_at "r1") => `(tactic| with_reducible first | refine r_clS ?_ | refine r_fnS rfl rfl ?_ | refine r_mtS ?_ | refine r_mkO ?_)
theorem r_fT {K : PySem.W.Frag} {C : Addr} {σ : L2.St} {H : Hp} {p : Addr} {n d : Int} {Q : VK} {i : Nat} (S : Sc K C) (h : RatAt C H p n d) (hv : σ[i]? = some (some (.ref p))) (q : Q (.int n) H) : tFld K (tVar i) "top" σ H Q := by
  obtain ⟨dx, e⟩ := h
  exact r_fldI (r_var hv ⟨p, C, dx, _, _, rfl, e, S.cl, S.nT, rt_top n d, q⟩)
theorem r_fB {K : PySem.W.Frag} {C : Addr} {σ : L2.St} {H : Hp} {p : Addr} {n d : Int} {Q : VK} {i : Nat} (S : Sc K C) (h : RatAt C H p n d) (hv : σ[i]? = some (some (.ref p))) (q : Q (.int d) H) : tFld K (tVar i) "bottom" σ H Q := by
  obtain ⟨dx, e⟩ := h
  exact r_fldI (r_var hv ⟨p, C, dx, _, _, rfl, e, S.cl, S.nB, rt_bot n d, q⟩)
/-- the class's last argument, where it is left out -/
def def1 (xs _ : List V) : List V := xs ++ [.int 1]
/-- of a size that products are made of -/
def Sm (n : Int) : Prop := n.natAbs < 2 ^ 1500
theorem Sm.mul {a b : Int} (ha : Sm a) (hb : Sm b) : CMulW a b := wide_mul ha hb (by decide) (by decide) (by decide)
theorem Sm.prod {a b : Int} (ha : Sm a) (hb : Sm b) : (a * b).natAbs < 2 ^ 4000 := Nat.lt_trans (wide_lt ha hb) (show (2 : Nat) ^ (1500 + 1500) < 2 ^ 4000 by decide +kernel)
theorem emp_app (x : Str) : Str.empty ++ x = x := PySem.Str.empty_append x
theorem app_len (x y : Str) : (x ++ y).length = x.length + y.length := PySem.Str.length_append x y
theorem r_js {t : TE} {ts : List TE} {acc : Str} {σ : L2.St} {H : Hp} {Q : Str → Hp → Prop} (h : t σ H fun x H1 => ∃ y : Str, x = .str y ∧ (acc ++ y).length ≤ sizeLine ∧ tJs ts (acc ++ y) σ H1 Q) : tJs (t :: ts) acc σ H Q := h
theorem r_js0 {acc : Str} {σ : L2.St} {H : Hp} {Q : Str → Hp → Prop} (h : Q acc H) : tJs [] acc σ H Q := h
theorem r_fmt {te : TE} {σ : L2.St} {H : Hp} {Q : VK} (h : te σ H fun x H1 => (∃ y : Str, x = .str y ∧ y.length ≤ sizeLine ∧ Q (.str y) H1) ∨ ∃ i : Int, x = .int i ∧ i.natAbs.log2 < 1920 ∧ Q (.str (toString i)) H1) : tFmt te σ H Q := h
def numS (i : Int) : Str := (toString i : String)
def lineR (n d : Int) : Str := if d = 1 then numS n else numS n ++ ("/" : Str) ++ numS d
theorem TyX.same {K : PySem.W.Frag} {H H' : Hp} {v : V} {t : Value} (h : TyX K H v t) (s : Same H H') : TyX K H' v t := by
  cases h with
  | base b =>
    cases b with
    | non => exact .base .non
    | bl x => exact .base (.bl x)
    | int i => exact .base (.int i)
    | str x => exact .base (.str x)
    | flt x => exact .base (.flt x)
    | lst e => exact .base (.lst (s _ _ e))
    | frz e => exact .base (.frz (s _ _ e))
    | tup e => exact .base (.tup (s _ _ e))
    | dK e => exact .base (.dK (s _ _ e))
    | dT e => exact .base (.dT (s _ _ e))
    | ins e cl ha hn htk hm => exact .base (.ins (s _ _ e) cl ha hn htk hm)
  | byt b => exact .byt b
  | set e => exact .set (s _ _ e)
  | kList e c => exact .kList e c
  | kTuple e c => exact .kTuple e c
  | kDict e c => exact .kDict e c
  | fTuple e => exact .fTuple (s _ _ e)
  | fDict e => exact .fDict (s _ _ e)
theorem NumAt.ty {K : PySem.W.Frag} {C : Addr} {H : Hp} {v : V} {n d : Int} (S : Sc K C) (h : NumAt C H v n d) : ∃ t, TyX K H v t ∧ Kind C t ∧ isN C t = true := by
  rcases h with ⟨rfl, _⟩ | ⟨p, rfl, dx, e⟩
  · exact ⟨_, .base (.int n), .int, by simp [isN, isI]⟩
  · exact ⟨_, S.ty e, .rat, by simp [isN]⟩
def spAsRat (C Ce : Addr) (K : PySem.W.Frag) : Sp := fun vs H Q E => ∃ v, vs = [v] ∧
  ((∃ n d, NumAt C H v n d ∧ ∀ H' p, Same H H' → RatAt C H' p n d → Q (.ref p) H') ∨ ∃ t, TyX K H v t ∧ Kind C t ∧ isN C t = false ∧ errE E Ce v H)
def spEq (C : Addr) (K : PySem.W.Frag) : Sp := fun vs H Q _ => ∃ p y n d, vs = [.ref p, y] ∧ RatAt C H p n d ∧
  ((∃ n' d', NumAt C H y n' d' ∧ ∀ H', Same H H' → Q (.bl (decide (n = n') && decide (d = d'))) H') ∨ ∃ t, TyX K H y t ∧ Kind C t ∧ isN C t = false ∧ Q (.bl false) H)
def spStr (C : Addr) : Sp := fun vs H Q _ => ∃ p n d, vs = [.ref p] ∧ RatAt C H p n d ∧ Sm n ∧ Sm d ∧ Q (.str (lineR n d)) H

def spAdd (C : Addr) : Sp := fun vs H Q _ => ∃ p y n d n' d', vs = [.ref p, y] ∧ RatAt C H p n d ∧ NumAt C H y n' d' ∧ Sm n ∧ Sm d ∧ Sm n' ∧ Sm d' ∧ d ≠ 0 ∧ d' ≠ 0 ∧ ∀ H' q, Same H H' → RatAt C H' q (lowT (n * d' + n' * d) (d * d')) (lowB (n * d' + n' * d) (d * d')) → Q (.ref q) H'
def spSub (C : Addr) : Sp := fun vs H Q _ => ∃ p y n d n' d', vs = [.ref p, y] ∧ RatAt C H p n d ∧ NumAt C H y n' d' ∧ Sm n ∧ Sm d ∧ Sm n' ∧ Sm d' ∧ d ≠ 0 ∧ d' ≠ 0 ∧ ∀ H' q, Same H H' → RatAt C H' q (lowT (n * d' - n' * d) (d * d')) (lowB (n * d' - n' * d) (d * d')) → Q (.ref q) H'
def spMul (C : Addr) : Sp := fun vs H Q _ => ∃ p y n d n' d', vs = [.ref p, y] ∧ RatAt C H p n d ∧ NumAt C H y n' d' ∧ Sm n ∧ Sm d ∧ Sm n' ∧ Sm d' ∧ d ≠ 0 ∧ d' ≠ 0 ∧ ∀ H' q, Same H H' → RatAt C H' q (lowT (n * n') (d * d')) (lowB (n * n') (d * d')) → Q (.ref q) H'
def spNeg (C : Addr) : Sp := fun vs H Q _ => ∃ p n d, vs = [.ref p] ∧ RatAt C H p n d ∧ Sm d ∧ Low n d ∧ ∀ H' q, Same H H' → RatAt C H' q (-n) d → Q (.ref q) H'
section
variable {P : Program} {w : World} {K : PySem.W.Frag} {mg : Str → Option Value} {base : Heap} {C Ce cz : Addr}
/-- Ratio(x, y) -/
theorem r_rat {σ : L2.St} {H : Hp} {Q : VK} {E : L2.St → XK} {x y : Int} (hy : y ≠ 0) (hs : y.natAbs < 2 ^ 4000) (k : ∀ H' q, Same H H' → RatAt C H' q (lowT x y) (lowB x y) → Q (.ref q) H') : rMkS C 2 0 byPlace (spRatI C Ce cz K) E σ [.int x, .int y] [] H Q := by
  refine r_mkS rfl rfl fun q dx2 hx hdx hne => ?_
  have new : Same H (upd (upd H dx2 (.own q)) q (.ins C dx2 [])) := fun b o e => by
    rw [upd_ne (ne_of_none e hx), upd_ne (ne_of_none e hdx)]
    exact e
  exact ⟨q, _, _, dx2, rfl, upd_same, .inl ⟨x, y, rfl, rfl, hy, hs, fun H5 s5 r5 => ⟨rfl, k H5 q (fun b o e => s5 b o (ne_of_none e hx) (new _ _ e)) r5⟩⟩⟩
theorem ok_as_ratio {f : Addr} {fd : FuncData} (F : Fun K "as_ratio" "as_ratio" s_as_ratio f fd) (Z : Zs K mg C cz) (S : Sc K C) (k_Ratio1 : MakX P w K mg base 3 "Ratio" C 1 [] def1 (spRatI C Ce cz K)) : FnG P w K mg base (L2.CX P w) 5 f fd ["value"] (spAsRat C Ce K) := by
  refine okGX F sc_as_ratio (fun vs H Q E h => ?_) (fun cdv B up z H vs Q E hG hr h => ?_)
  · obtain ⟨v, rfl, _⟩ := h
    rfl
  refine ⟨_, (pss_cons (ps_if (pt_val (pe_callB call_isi (by rfl) Z.isinstance_ (by decide +kernel) (pa_cons (pv 0) (pa_cons (pe_cls (by rfl) Z.cRatio) pa_nil)))) (pss_one (ps_ret (pv 0))) pss_nil)
  (pss_one (ps_ret (pkX_pos k_Ratio1 (takes_of rfl rfl rfl rfl) hG hr (by decide) (by rfl) (pa_cons (pv 0) pa_nil))))), ?_⟩
  obtain ⟨v, rfl, h⟩ := h
  have make : ∀ (v : V) (A B : Prop), True := fun _ _ _ => trivial
  rcases h with ⟨n, d, (⟨rfl, rfl⟩ | ⟨p, rfl, dx, e⟩), k⟩ | ⟨t, ty, kd, nn, k⟩
  · walk_at "r"
    refine r_isiO (b := false) (.base (.int n)) S.kI ?_
    walk_at "r"
    refine r_mkS rfl rfl fun x dx2 hx hdx hne => ?_
    have new : Same H (upd (upd H dx2 (.own x)) x (.ins C dx2 [])) := fun b o e => by
      rw [upd_ne (ne_of_none e hx), upd_ne (ne_of_none e hdx)]
      exact e
    obtain ⟨l1, l2⟩ := low_id (low_int n)
    refine ⟨x, _, _, dx2, rfl, upd_same, .inl ⟨n, 1, rfl, rfl, by decide, by decide, fun H5 s5 r5 => ⟨rfl, ?_⟩⟩⟩
    rw [l1, l2] at r5
    exact k H5 x (fun b o e => s5 b o (ne_of_none e hx) (new _ _ e)) r5
  · walk_at "r"
    refine r_isiO (b := true) (S.ty e) S.kC ?_
    walk_at "r"
    exact k H p (Same.refl H) ⟨dx, e⟩
  · walk_at "r"
    have kt : PySem.W.kitOne K t (.ref C) = some false := by
      cases kd with
      | non => exact S.kN
      | bl => exact S.kB
      | int => simp [isN, isI] at nn
      | str => exact S.kS
      | lst => exact S.kL
      | tup => exact S.kT
      | dic => exact S.kD
      | rat => simp [isN] at nn
    refine r_isiO (b := false) ty kt ?_
    walk_at "r"
    refine r_mkS rfl rfl fun x dx2 hx hdx hne => ?_
    have new : Same H (upd (upd H dx2 (.own x)) x (.ins C dx2 [])) := fun b o e => by
      rw [upd_ne (ne_of_none e hx), upd_ne (ne_of_none e hdx)]
      exact e
    have ni : isI t = false := by
      simp only [isN, Bool.or_eq_false_iff] at nn
      exact nn.2
    exact ⟨x, _, _, dx2, rfl, upd_same, .inr (.inl ⟨t, TyX.same ty new, kd, ni, k.same new⟩)⟩
theorem ok_eq {f : Addr} {fd : FuncData} (F : Fun K "__eq__" "Ratio.__eq__" s_Ratio___eq__ f fd) (S : Sc K C) (d_is_number : DefD P w K mg base 2 "is_number" 1 [] byPlace (spIsNum C K)) (d_as_ratio : DefX P w K mg base 5 "as_ratio" 1 [] byPlace (spAsRat C Ce K)) : FnG P w K mg base CX0 6 f fd ["self", "other"] (spEq C K) := by
  refine okG F sc_Ratio___eq__ (fun vs H Q E h => ?_) (fun cdv B up z H vs Q E hG hr h => ?_)
  · obtain ⟨p, y, n, d, rfl, _⟩ := h
    rfl
  refine ⟨_, (pss_cons (ps_if (pt_not (pt_val (pd_pos d_is_number hG hr (by decide) (by rfl) (pa_cons (pv 1) pa_nil)))) (pss_one (ps_ret pe_bl)) pss_nil)
  (pss_cons (ps_set (i := 2) sc_Ratio___eq__.nd rfl (by first | exact Or.inl rfl | exact Or.inr rfl) (pdX_pos d_as_ratio takes0 hG hr (by decide) (by rfl) (pa_cons (pv 1) pa_nil)))
  (pss_one (ps_ret (pe_and (pe_cmpR op_eq (pe_fld (pv 0) rfl) (pe_fld (pv 2) rfl) (nomark _)) (pe_one (pe_cmpR op_eq (pe_fld (pv 0) rfl) (pe_fld (pv 2) rfl) (nomark _)))))))), ?_⟩
  obtain ⟨p, y, n, d, rfl, rp, h⟩ := h
  walk_at "r"
  rcases h with ⟨n', d', hy, k⟩ | ⟨t, ty, kd, nn, k⟩
  · obtain ⟨t, ty, kd, nn⟩ := hy.ty S
    refine ⟨_, t, rfl, ty, kd, ?_⟩
    rw [nn]
    walk_at "r"
    refine ⟨_, rfl, .inl ⟨n', d', hy, fun H1 q s1 rq => ?_⟩⟩
    walk_at "r"
    refine r_fT S (rp.same s1) rfl ?_
    walk_at "r"
    refine r_fT S rq rfl ?_
    walk_at "r"
    have k1 := k H1 s1
    by_cases c : n = n'
    case neg =>
      rw [decide_eq_false (show ¬ V.int n = V.int n' from fun e => c (V.int.inj e))]
      rw [decide_eq_false c, Bool.false_and] at k1
      walk_at "r"
      exact k1
    rw [decide_eq_true (show V.int n = V.int n' by rw [c])]
    rw [decide_eq_true c, Bool.true_and] at k1
    walk_at "r"
    refine r_fB S (rp.same s1) rfl ?_
    walk_at "r"
    refine r_fB S rq rfl ?_
    walk_at "r"
    by_cases c : d = d'
    case neg =>
      rw [decide_eq_false (show ¬ V.int d = V.int d' from fun e => c (V.int.inj e))]
      rw [decide_eq_false c] at k1
      exact k1
    rw [decide_eq_true (show V.int d = V.int d' by rw [c])]
    rw [decide_eq_true c] at k1
    exact k1
  · refine ⟨_, t, rfl, ty, kd, ?_⟩
    rw [nn]
    walk_at "r"
    exact k
theorem ok_str {f : Addr} {fd : FuncData} (F : Fun K "__str__" "Ratio.__str__" s_Ratio___str__ f fd) (Z : Zs K mg C cz) (S : Sc K C) : FnG P w K mg base CX0 1 f fd ["self"] (spStr C) := by
  refine okG F sc_Ratio___str__ (fun vs H Q E h => ?_) (fun cdv B up z H vs Q E hG hr h => ?_)
  · obtain ⟨p, n, d, rfl, _⟩ := h
    rfl
  refine ⟨_, (pss_cons (ps_if (pt_cmpR op_eq (pe_fld (pv 0) rfl) pe_int (nomark _)) (pss_one (ps_ret (pe_callTy c_str (by rfl) Z.str_ (by decide +kernel) (pa_cons (pe_fld (pv 0) rfl) pa_nil)))) pss_nil)
  (pss_one (ps_ret (pe_joined (.cons (pe_fmt (pe_fld (pv 0) rfl)) (.cons pe_str (.cons (pe_fmt (pe_fld (pv 0) rfl)) .nil))))))), ?_⟩
  obtain ⟨p, n, d, rfl, rp, hn, hd, k⟩ := h
  have ln : n.natAbs.log2 < 1920 := Nat.lt_trans (log2_of hn (by decide)) (by decide)
  have ld : d.natAbs.log2 < 1920 := Nat.lt_trans (log2_of hd (by decide)) (by decide)
  walk_at "r"
  refine r_fB S rp rfl ?_
  walk_at "r"
  by_cases c : d = 1
  · rw [decide_eq_true (show V.int d = V.int 1 by rw [c])]
    walk_at "r"
    refine r_fT S rp rfl ?_
    walk_at "r"
    refine r_strI ln ?_
    unfold lineR at k
    rw [if_pos c] at k
    exact k
  · rw [decide_eq_false (show ¬ V.int d = V.int 1 from fun e => c (V.int.inj e))]
    walk_at "r"
    have l1 := PyProof.Rows.int_text_len_1921 ln
    have l2 := PyProof.Rows.int_text_len_1921 ld
    refine r_js (r_fmt ?_)
    refine r_fT S rp rfl ?_
    refine .inr ⟨n, rfl, ln, _, rfl, ?_, ?_⟩
    · rw [emp_app, sizeLine_eq]
      exact Nat.le_trans l1 (by decide)
    refine r_js (r_c ?_)
    refine ⟨_, rfl, ?_, ?_⟩
    · rw [emp_app, app_len, sizeLine_eq]
      show (numS n).length + 1 ≤ _
      have : (numS n).length ≤ 1921 := l1
      omega
    refine r_js (r_fmt ?_)
    refine r_fB S rp rfl ?_
    refine .inr ⟨d, rfl, ld, _, rfl, ?_, ?_⟩
    · rw [emp_app, app_len, app_len, sizeLine_eq]
      show (numS n).length + 1 + (numS d).length ≤ _
      have : (numS n).length ≤ 1921 := l1
      have : (numS d).length ≤ 1921 := l2
      omega
    refine r_js0 ?_
    rw [emp_app]
    unfold lineR at k
    rw [if_neg c] at k
    exact k
theorem ok_neg {f : Addr} {fd : FuncData} (F : Fun K "__neg__" "Ratio.__neg__" s_Ratio___neg__ f fd) (Z : Zs K mg C cz) (S : Sc K C) (k_Ratio : MakX P w K mg base 3 "Ratio" C 2 [] byPlace (spRatI C Ce cz K)) : FnG P w K mg base CX0 5 f fd ["self"] (spNeg C) := by
  refine okG F sc_Ratio___neg__ (fun vs H Q E h => ?_) (fun cdv B up z H vs Q E hG hr h => ?_)
  · obtain ⟨p, n, d, rfl, _⟩ := h
    rfl
  refine ⟨_, (pss_one (ps_ret (pkX_pos k_Ratio takes0 hG hr (by decide) (by rfl) (pa_cons (pe_un un_neg (pe_fld (pv 0) rfl)) (pa_cons (pe_fld (pv 0) rfl) pa_nil))))), ?_⟩
  obtain ⟨p, n, d, rfl, rp, hd, lo, k⟩ := h
  have d0 : d ≠ 0 := by have := lo.pos; omega
  have lo' : Low (-n) d := ⟨lo.pos, by rw [Int.natAbs_neg]; exact lo.cop⟩
  obtain ⟨l1, l2⟩ := low_id lo'
  walk_at "r"
  refine r_fT S rp rfl ?_
  walk_at "r"
  refine r_fB S rp rfl ?_
  walk_at "r"
  refine r_rat d0 (Nat.lt_trans hd (show (2 : Nat) ^ 1500 < 2 ^ 4000 by decide +kernel)) fun H5 x s5 r5 => ?_
  rw [l1, l2] at r5
  exact k H5 x s5 r5
theorem ok_add {f : Addr} {fd : FuncData} (F : Fun K "__add__" "Ratio.__add__" s_Ratio___add__ f fd) (Z : Zs K mg C cz) (S : Sc K C) (k_Ratio : MakX P w K mg base 3 "Ratio" C 2 [] byPlace (spRatI C Ce cz K)) (d_is_number : DefD P w K mg base 2 "is_number" 1 [] byPlace (spIsNum C K)) (d_as_ratio : DefX P w K mg base 5 "as_ratio" 1 [] byPlace (spAsRat C Ce K)) : FnG P w K mg base CX0 6 f fd ["self", "other"] (spAdd C) := by
  refine okG F sc_Ratio___add__ (fun vs H Q E h => ?_) (fun cdv B up z H vs Q E hG hr h => ?_)
  · obtain ⟨p, y, n, d, n', d', rfl, _⟩ := h
    rfl
  refine ⟨_, (pss_cons (ps_if (pt_not (pt_val (pd_pos d_is_number hG hr (by decide) (by rfl) (pa_cons (pv 1) pa_nil)))) (pss_one ps_never) pss_nil)
  (pss_cons (ps_set (i := 2) sc_Ratio___add__.nd rfl (by first | exact Or.inl rfl | exact Or.inr rfl) (pdX_pos d_as_ratio takes0 hG hr (by decide) (by rfl) (pa_cons (pv 1) pa_nil)))
  (pss_one (ps_ret (pkX_pos k_Ratio takes0 hG hr (by decide) (by rfl) (pa_cons (pe_op op_add (pe_op op_mulW (pe_fld (pv 0) rfl) (pe_fld (pv 2) rfl)) (pe_op op_mulW (pe_fld (pv 2) rfl) (pe_fld (pv 0) rfl))) (pa_cons (pe_op op_mulW (pe_fld (pv 0) rfl) (pe_fld (pv 2) rfl)) pa_nil))))))), ?_⟩
  obtain ⟨p, y, n, d, n', d', rfl, rp, hy, hn, hd, hn', hd', d0, d0', k⟩ := h
  obtain ⟨t, ty, kd, nn⟩ := hy.ty S
  walk_at "r"
  refine ⟨_, t, rfl, ty, kd, ?_⟩
  rw [nn]
  walk_at "r"
  refine ⟨_, rfl, .inl ⟨n', d', hy, fun H1 q s1 rq => ?_⟩⟩
  walk_at "r"
  refine r_fT S (rp.same s1) rfl ?_
  walk_at "r"
  refine r_fB S rq rfl ?_
  walk_at "r"
  refine r_i (hn.mul hd') ?_
  walk_at "r"
  refine r_fT S rq rfl ?_
  walk_at "r"
  refine r_fB S (rp.same s1) rfl ?_
  walk_at "r"
  refine r_i (hn'.mul hd) ?_
  walk_at "r"
  refine r_fB S (rp.same s1) rfl ?_
  walk_at "r"
  refine r_fB S rq rfl ?_
  walk_at "r"
  refine r_i (hd.mul hd') ?_
  walk_at "r"
  refine r_rat (Int.mul_ne_zero d0 d0') (hd.prod hd') fun H5 x s5 r5 => ?_
  exact k H5 x (s1.trans s5) r5
theorem ok_sub {f : Addr} {fd : FuncData} (F : Fun K "__sub__" "Ratio.__sub__" s_Ratio___sub__ f fd) (Z : Zs K mg C cz) (S : Sc K C) (k_Ratio : MakX P w K mg base 3 "Ratio" C 2 [] byPlace (spRatI C Ce cz K)) (d_is_number : DefD P w K mg base 2 "is_number" 1 [] byPlace (spIsNum C K)) (d_as_ratio : DefX P w K mg base 5 "as_ratio" 1 [] byPlace (spAsRat C Ce K)) : FnG P w K mg base CX0 6 f fd ["self", "other"] (spSub C) := by
  refine okG F sc_Ratio___sub__ (fun vs H Q E h => ?_) (fun cdv B up z H vs Q E hG hr h => ?_)
  · obtain ⟨p, y, n, d, n', d', rfl, _⟩ := h
    rfl
  refine ⟨_, (pss_cons (ps_if (pt_not (pt_val (pd_pos d_is_number hG hr (by decide) (by rfl) (pa_cons (pv 1) pa_nil)))) (pss_one ps_never) pss_nil)
  (pss_cons (ps_set (i := 2) sc_Ratio___sub__.nd rfl (by first | exact Or.inl rfl | exact Or.inr rfl) (pdX_pos d_as_ratio takes0 hG hr (by decide) (by rfl) (pa_cons (pv 1) pa_nil)))
  (pss_one (ps_ret (pkX_pos k_Ratio takes0 hG hr (by decide) (by rfl) (pa_cons (pe_op op_sub (pe_op op_mulW (pe_fld (pv 0) rfl) (pe_fld (pv 2) rfl)) (pe_op op_mulW (pe_fld (pv 2) rfl) (pe_fld (pv 0) rfl))) (pa_cons (pe_op op_mulW (pe_fld (pv 0) rfl) (pe_fld (pv 2) rfl)) pa_nil))))))), ?_⟩
  obtain ⟨p, y, n, d, n', d', rfl, rp, hy, hn, hd, hn', hd', d0, d0', k⟩ := h
  obtain ⟨t, ty, kd, nn⟩ := hy.ty S
  walk_at "r"
  refine ⟨_, t, rfl, ty, kd, ?_⟩
  rw [nn]
  walk_at "r"
  refine ⟨_, rfl, .inl ⟨n', d', hy, fun H1 q s1 rq => ?_⟩⟩
  walk_at "r"
  refine r_fT S (rp.same s1) rfl ?_
  walk_at "r"
  refine r_fB S rq rfl ?_
  walk_at "r"
  refine r_i (hn.mul hd') ?_
  walk_at "r"
  refine r_fT S rq rfl ?_
  walk_at "r"
  refine r_fB S (rp.same s1) rfl ?_
  walk_at "r"
  refine r_i (hn'.mul hd) ?_
  walk_at "r"
  refine r_fB S (rp.same s1) rfl ?_
  walk_at "r"
  refine r_fB S rq rfl ?_
  walk_at "r"
  refine r_i (hd.mul hd') ?_
  walk_at "r"
  refine r_rat (Int.mul_ne_zero d0 d0') (hd.prod hd') fun H5 x s5 r5 => ?_
  exact k H5 x (s1.trans s5) r5
theorem ok_mul {f : Addr} {fd : FuncData} (F : Fun K "__mul__" "Ratio.__mul__" s_Ratio___mul__ f fd) (Z : Zs K mg C cz) (S : Sc K C) (k_Ratio : MakX P w K mg base 3 "Ratio" C 2 [] byPlace (spRatI C Ce cz K)) (d_is_number : DefD P w K mg base 2 "is_number" 1 [] byPlace (spIsNum C K)) (d_as_ratio : DefX P w K mg base 5 "as_ratio" 1 [] byPlace (spAsRat C Ce K)) : FnG P w K mg base CX0 6 f fd ["self", "other"] (spMul C) := by
  refine okG F sc_Ratio___mul__ (fun vs H Q E h => ?_) (fun cdv B up z H vs Q E hG hr h => ?_)
  · obtain ⟨p, y, n, d, n', d', rfl, _⟩ := h
    rfl
  refine ⟨_, (pss_cons (ps_if (pt_not (pt_val (pd_pos d_is_number hG hr (by decide) (by rfl) (pa_cons (pv 1) pa_nil)))) (pss_one ps_never) pss_nil)
  (pss_cons (ps_set (i := 2) sc_Ratio___mul__.nd rfl (by first | exact Or.inl rfl | exact Or.inr rfl) (pdX_pos d_as_ratio takes0 hG hr (by decide) (by rfl) (pa_cons (pv 1) pa_nil)))
  (pss_one (ps_ret (pkX_pos k_Ratio takes0 hG hr (by decide) (by rfl) (pa_cons (pe_op op_mulW (pe_fld (pv 0) rfl) (pe_fld (pv 2) rfl)) (pa_cons (pe_op op_mulW (pe_fld (pv 0) rfl) (pe_fld (pv 2) rfl)) pa_nil))))))), ?_⟩
  obtain ⟨p, y, n, d, n', d', rfl, rp, hy, hn, hd, hn', hd', d0, d0', k⟩ := h
  obtain ⟨t, ty, kd, nn⟩ := hy.ty S
  walk_at "r"
  refine ⟨_, t, rfl, ty, kd, ?_⟩
  rw [nn]
  walk_at "r"
  refine ⟨_, rfl, .inl ⟨n', d', hy, fun H1 q s1 rq => ?_⟩⟩
  walk_at "r"
  refine r_fT S (rp.same s1) rfl ?_
  walk_at "r"
  refine r_fT S rq rfl ?_
  walk_at "r"
  refine r_i (hn.mul hn') ?_
  walk_at "r"
  refine r_fB S (rp.same s1) rfl ?_
  walk_at "r"
  refine r_fB S rq rfl ?_
  walk_at "r"
  refine r_i (hd.mul hd') ?_
  walk_at "r"
  refine r_rat (Int.mul_ne_zero d0 d0') (hd.prod hd') fun H5 x s5 r5 => ?_
  exact k H5 x (s1.trans s5) r5
end
end Eld
set_option Elab.async false
set_option maxRecDepth 100000
set_option maxHeartbeats 4000000
set_option linter.all false
namespace Eld
open PySem L2
local macro_rules | `(tactic| walk_at "r1") => `(tactic| with_reducible first
  | refine r_seq ?_ | refine r_asgN ?_ | refine r_asg ?_ | refine r_gname ?_ | refine r_gsub ?_ | refine r_var rfl ?_ | refine r_c ?_ | refine r_op ?_ | refine r_un ?_ | refine r_u ?_ | refine r_i0 ?_ | refine r_cb ?_ | refine r_cons ?_ | refine r_nil ?_ | refine r_cl ?_ | refine r_fn rfl rfl ?_ | refine r_mt ?_
  | refine r_test ?_ | refine r_tb ?_ | refine r_bl ?_ | refine r_and ?_ | refine r_or ?_ | refine r_not ?_ | refine r_andV ?_ | refine r_orV ?_ | refine r_notV ?_ | refine r_ifX ?_ | refine r_ifs ?_ | refine r_chain ?_ | refine r_ret ?_ | refine r_next ?_ | refine r_drop ?_ | refine iteT ?_ | refine iteF ?_ | refine iteNT ?_ | refine iteNF ?_
  | refine r_int1 ?_ | refine r_boolB ?_ | refine r_eqI ?_ | refine r_neI ?_ | refine r_eqB ?_ | refine r_neB ?_ | refine r_eqS ?_ | refine r_neS ?_ | refine r_abs ?_ | refine r_max2 ?_ | refine r_min2 ?_ | refine r_yes ?_ | refine r_tup ?_ | refine r_sfld ?_ | refine r_m0 ?_ | refine r_m1 ?_ | refine r_lst ?_ | refine r_rng1 ?_ | refine r_rng2 ?_ | refine r_ixL (SqL.of (by assumption)) rfl ?_)
local macro_rules | `(tactic| walk_at "r") => `(tactic| repeat (first | walk_at "r1" | ((with_reducible refine r_var ?hv ?_); (case hv => rfl))))

local macro_rules | `(tactic| walk_at "r1") => `(tactic| with_reducible first | refine r_clS ?_ | refine r_fnS rfl rfl ?_ | refine r_mtS ?_ | refine r_mkO ?_)
def spRsub (C : Addr) : Sp := fun vs H Q _ => ∃ p y n d n' d', vs = [.ref p, y] ∧ RatAt C H p n d ∧ NumAt C H y n' d' ∧ Sm n ∧ Sm d ∧ Sm n' ∧ Sm d' ∧ Low n d ∧ d' ≠ 0 ∧ ∀ H' q, Same H H' → RatAt C H' q (lowT ((-n) * d' + n' * d) (d * d')) (lowB ((-n) * d' + n' * d) (d * d')) → Q (.ref q) H'
def spOver (C Ce cz : Addr) (K : PySem.W.Frag) : Sp := fun vs H Q E => ∃ p y n d, vs = [.ref p, y] ∧ RatAt C H p n d ∧ Sm n ∧ Sm d ∧ d ≠ 0 ∧
  ((∃ n' d', NumAt C H y n' d' ∧ Sm n' ∧ Sm d' ∧ n' ≠ 0 ∧ ∀ H' q, Same H H' → RatAt C H' q (lowT (n * d') (d * n')) (lowB (n * d') (d * n')) → Q (.ref q) H') ∨
   (∃ d', NumAt C H y 0 d' ∧ Sm d' ∧ ∀ H', Same H H' → E (.ref cz) none H') ∨ ∃ t, TyX K H y t ∧ Kind C t ∧ isN C t = false ∧ errE E Ce y H)
def spBelow (C Ce : Addr) (K : PySem.W.Frag) : Sp := fun vs H Q E => ∃ p y n d, vs = [.ref p, y] ∧ RatAt C H p n d ∧ Sm n ∧ Sm d ∧
  ((∃ n' d', NumAt C H y n' d' ∧ Sm n' ∧ Sm d' ∧ ∀ H', Same H H' → Q (.bl (decide (n * d' < n' * d))) H') ∨ ∃ t, TyX K H y t ∧ Kind C t ∧ isN C t = false ∧ errE E Ce y H)
section
variable {P : Program} {w : World} {K : PySem.W.Frag} {mg : Str → Option Value} {base : Heap} {C Ce cz : Addr}
theorem own_R {sp : Sp} {E : XK} {H : Hp} {Q : VK} {p : Addr} {y : V} {n d n' d' : Int} (rp : RatAt C H p n d) (hy : NumAt C H y n' d') (h : sp [.ref p, y] H Q E) : rOwnOp C sp E (.ref p) y H Q := by
  obtain ⟨dx, e⟩ := rp
  refine ⟨p, dx, _, rfl, e, ?_, h⟩
  rcases hy with ⟨rfl, _⟩ | ⟨b, rfl, dy, e2⟩
  · exact .inl ⟨_, rfl⟩
  · exact .inr ⟨b, dy, _, rfl, e2⟩

theorem ok_radd {f : Addr} {fd : FuncData} (F : Fun K "__radd__" "Ratio.__radd__" s_Ratio___radd__ f fd) (d_add : OpA P w K mg base 6 .Add C (spAdd C)) : FnG P w K mg base CX0 7 f fd ["self", "other"] (spAdd C) := by
  refine okG F sc_Ratio___radd__ (fun vs H Q E h => ?_) (fun cdv B up z H vs Q E hG hr h => ?_)
  · obtain ⟨p, y, n, d, n', d', rfl, _⟩ := h
    rfl
  refine ⟨_, (pss_one (ps_ret (pe_op (o_A d_add hG hr (by decide)) (pv 0) (pv 1)))), ?_⟩
  obtain ⟨p, y, n, d, n', d', rfl, rp, hy, hr⟩ := h
  walk_at "r"
  exact own_R rp hy ⟨p, y, n, d, n', d', rfl, rp, hy, hr⟩
theorem ok_rmul {f : Addr} {fd : FuncData} (F : Fun K "__rmul__" "Ratio.__rmul__" s_Ratio___rmul__ f fd) (d_mul : OpA P w K mg base 6 .Mult C (spMul C)) : FnG P w K mg base CX0 7 f fd ["self", "other"] (spMul C) := by
  refine okG F sc_Ratio___rmul__ (fun vs H Q E h => ?_) (fun cdv B up z H vs Q E hG hr h => ?_)
  · obtain ⟨p, y, n, d, n', d', rfl, _⟩ := h
    rfl
  refine ⟨_, (pss_one (ps_ret (pe_op (o_A d_mul hG hr (by decide)) (pv 0) (pv 1)))), ?_⟩
  obtain ⟨p, y, n, d, n', d', rfl, rp, hy, hr⟩ := h
  walk_at "r"
  exact own_R rp hy ⟨p, y, n, d, n', d', rfl, rp, hy, hr⟩
theorem ok_rsub {f : Addr} {fd : FuncData} (F : Fun K "__rsub__" "Ratio.__rsub__" s_Ratio___rsub__ f fd) (d_add : OpA P w K mg base 6 .Add C (spAdd C)) (d_neg : NegA P w K mg base 5 C (spNeg C)) : FnG P w K mg base CX0 7 f fd ["self", "other"] (spRsub C) := by
  refine okG F sc_Ratio___rsub__ (fun vs H Q E h => ?_) (fun cdv B up z H vs Q E hG hr h => ?_)
  · obtain ⟨p, y, n, d, n', d', rfl, _⟩ := h
    rfl
  refine ⟨_, (pss_one (ps_ret (pe_op (o_A d_add hG hr (by decide)) (pe_un (o_neg d_neg hG hr (by decide)) (pv 0)) (pv 1)))), ?_⟩
  obtain ⟨p, y, n, d, n', d', rfl, rp, hy, hn, hd, hn', hd', lo, d0', k⟩ := h
  have d0 : d ≠ 0 := by have := lo.pos; omega
  walk_at "r"
  obtain ⟨dx, e⟩ := rp
  refine ⟨p, dx, _, rfl, e, p, n, d, rfl, ⟨dx, e⟩, hd, lo, fun H1 q s1 rq => ?_⟩
  walk_at "r"
  have hn2 : Sm (-n) := by unfold Sm; rw [Int.natAbs_neg]; exact hn
  exact own_R rq (hy.same s1) ⟨q, y, -n, d, n', d', rfl, rq, hy.same s1, hn2, hd, hn', hd', d0, d0', fun H2 r s2 rr => k H2 r (s1.trans s2) rr⟩
theorem ok_over {f : Addr} {fd : FuncData} (F : Fun K "over" "Ratio.over" s_Ratio_over f fd) (Z : Zs K mg C cz) (S : Sc K C) (k_Ratio : MakX P w K mg base 3 "Ratio" C 2 [] byPlace (spRatI C Ce cz K)) (d_as_ratio : DefX P w K mg base 5 "as_ratio" 1 [] byPlace (spAsRat C Ce K)) : FnG P w K mg base (L2.CX P w) 6 f fd ["self", "number"] (spOver C Ce cz K) := by
  refine okGX F sc_Ratio_over (fun vs H Q E h => ?_) (fun cdv B up z H vs Q E hG hr h => ?_)
  · obtain ⟨p, y, n, d, rfl, _⟩ := h
    rfl
  refine ⟨_, (pss_cons (ps_set (i := 2) sc_Ratio_over.nd rfl (by first | exact Or.inl rfl | exact Or.inr rfl) (pdX_pos d_as_ratio (takes_of rfl rfl rfl rfl) hG hr (by decide) (by rfl) (pa_cons (pv 1) pa_nil)))
  (pss_one (ps_ret (pkX_pos k_Ratio (takes_of rfl rfl rfl rfl) hG hr (by decide) (by rfl) (pa_cons (pe_op op_mulW (pe_fld (pv 0) rfl) (pe_fld (pv 2) rfl)) (pa_cons (pe_op op_mulW (pe_fld (pv 0) rfl) (pe_fld (pv 2) rfl)) pa_nil)))))), ?_⟩
  obtain ⟨p, y, n, d, rfl, rp, hn, hd, d0, h⟩ := h
  walk_at "r"
  rcases h with ⟨n', d', hy, hn', hd', n0', k⟩ | ⟨d', hy, hd', k⟩ | ⟨t, ty, kd, nn, k⟩
  · refine ⟨_, rfl, .inl ⟨n', d', hy, fun H1 q s1 rq => ?_⟩⟩
    walk_at "r"
    refine r_fT S (rp.same s1) rfl ?_
    walk_at "r"
    refine r_fB S rq rfl ?_
    walk_at "r"
    refine r_i (hn.mul hd') ?_
    walk_at "r"
    refine r_fB S (rp.same s1) rfl ?_
    walk_at "r"
    refine r_fT S rq rfl ?_
    walk_at "r"
    refine r_i (hd.mul hn') ?_
    walk_at "r"
    exact r_rat (Int.mul_ne_zero d0 n0') (hd.prod hn') fun H5 x s5 r5 => k H5 x (s1.trans s5) r5
  · refine ⟨_, rfl, .inl ⟨0, d', hy, fun H1 q s1 rq => ?_⟩⟩
    walk_at "r"
    refine r_fT S (rp.same s1) rfl ?_
    walk_at "r"
    refine r_fB S rq rfl ?_
    walk_at "r"
    refine r_i (hn.mul hd') ?_
    walk_at "r"
    refine r_fB S (rp.same s1) rfl ?_
    walk_at "r"
    refine r_fT S rq rfl ?_
    walk_at "r"
    refine r_i (hd.mul (show Sm 0 from Nat.two_pow_pos 1500)) ?_
    walk_at "r"
    rw [Int.mul_zero]
    refine r_mkS rfl rfl fun x dx2 hx hdx hne => ?_
    have new : Same H1 (upd (upd H1 dx2 (.own x)) x (.ins C dx2 [])) := fun b o e => by
      rw [upd_ne (ne_of_none e hx), upd_ne (ne_of_none e hdx)]
      exact e
    exact ⟨x, _, _, dx2, rfl, upd_same, .inr (.inr (.inr ⟨_, rfl, rfl, k _ (s1.trans new)⟩))⟩
  · exact ⟨_, rfl, .inr ⟨t, ty, kd, nn, k⟩⟩
theorem ok_below {f : Addr} {fd : FuncData} (F : Fun K "below" "Ratio.below" s_Ratio_below f fd) (S : Sc K C) (d_as_ratio : DefX P w K mg base 5 "as_ratio" 1 [] byPlace (spAsRat C Ce K)) : FnG P w K mg base (L2.CX P w) 6 f fd ["self", "number"] (spBelow C Ce K) := by
  refine okGX F sc_Ratio_below (fun vs H Q E h => ?_) (fun cdv B up z H vs Q E hG hr h => ?_)
  · obtain ⟨p, y, n, d, rfl, _⟩ := h
    rfl
  refine ⟨_, (pss_cons (ps_set (i := 2) sc_Ratio_below.nd rfl (by first | exact Or.inl rfl | exact Or.inr rfl) (pdX_pos d_as_ratio (takes_of rfl rfl rfl rfl) hG hr (by decide) (by rfl) (pa_cons (pv 1) pa_nil)))
  (pss_one (ps_ret (pe_cmpR op_lt (pe_op op_mulW (pe_fld (pv 0) rfl) (pe_fld (pv 2) rfl)) (pe_op op_mulW (pe_fld (pv 2) rfl) (pe_fld (pv 0) rfl)) (nomark _))))), ?_⟩
  obtain ⟨p, y, n, d, rfl, rp, hn, hd, h⟩ := h
  walk_at "r"
  rcases h with ⟨n', d', hy, hn', hd', k⟩ | ⟨t, ty, kd, nn, k⟩
  · refine ⟨_, rfl, .inl ⟨n', d', hy, fun H1 q s1 rq => ?_⟩⟩
    walk_at "r"
    refine r_fT S (rp.same s1) rfl ?_
    walk_at "r"
    refine r_fB S rq rfl ?_
    walk_at "r"
    refine r_i (hn.mul hd') ?_
    walk_at "r"
    refine r_fT S rq rfl ?_
    walk_at "r"
    refine r_fB S (rp.same s1) rfl ?_
    walk_at "r"
    refine r_i (hn'.mul hd) ?_
    walk_at "r"
    exact k H1 s1
  · exact ⟨_, rfl, .inr ⟨t, ty, kd, nn, k⟩⟩
end
end Eld
set_option Elab.async false
set_option maxRecDepth 100000
set_option maxHeartbeats 4000000
set_option linter.all false
namespace Eld
open PySem L2
local macro_rules | `(tactic| walk_at "r1") => `(tactic| with_reducible first
  | refine r_seq ?_ | refine r_asgN ?_ | refine r_asg ?_ | refine r_gname ?_ | refine r_gsub ?_ | refine r_var rfl ?_ | refine r_c ?_ | refine r_op ?_ | refine r_un ?_ | refine r_u ?_ | refine r_i0 ?_ | refine r_cb ?_ | refine r_cons ?_ | refine r_nil ?_ | refine r_cl ?_ | refine r_fn rfl rfl ?_ | refine r_mt ?_
  | refine r_test ?_ | refine r_tb ?_ | refine r_bl ?_ | refine r_and ?_ | refine r_or ?_ | refine r_not ?_ | refine r_andV ?_ | refine r_orV ?_ | refine r_notV ?_ | refine r_ifX ?_ | refine r_ifs ?_ | refine r_chain ?_ | refine r_ret ?_ | refine r_next ?_ | refine r_drop ?_ | refine iteT ?_ | refine iteF ?_ | refine iteNT ?_ | refine iteNF ?_
  | refine r_int1 ?_ | refine r_boolB ?_ | refine r_eqI ?_ | refine r_neI ?_ | refine r_eqB ?_ | refine r_neB ?_ | refine r_eqS ?_ | refine r_neS ?_ | refine r_abs ?_ | refine r_max2 ?_ | refine r_min2 ?_ | refine r_yes ?_ | refine r_tup ?_ | refine r_sfld ?_ | refine r_m0 ?_ | refine r_m1 ?_ | refine r_lst ?_ | refine r_rng1 ?_ | refine r_rng2 ?_ | refine r_ixL (SqL.of (by assumption)) rfl ?_)
local macro_rules | `(tactic| walk_at "r") => `(tactic| repeat (first | walk_at "r1" | ((with_reducible refine r_var ?hv ?_); (case hv => rfl))))

local macro_rules | `(tactic| walk_at "r1") => `(tactic| with_reducible first | refine r_clS ?_ | refine r_fnS rfl rfl ?_ | refine r_mtS ?_ | refine r_mkO ?_)
/-- numbers, as values -/
def NumsAt (C : Addr) (H : Hp) (vs : List V) (qs : List (Int × Int)) : Prop := vs.length = qs.length ∧ ∀ (i : Nat) (v : V) (q : Int × Int), vs[i]? = some v → qs[i]? = some q → NumAt C H v q.1 q.2
theorem NumsAt.same {C : Addr} {H H' : Hp} {vs : List V} {qs : List (Int × Int)} (h : NumsAt C H vs qs) (s : Same H H') : NumsAt C H' vs qs := ⟨h.1, fun i v q a b => (h.2 i v q a b).same s⟩
def lcmN (qs : List (Int × Int)) : Nat := qs.foldl (fun a q => Nat.lcm a q.2.natAbs) 1
theorem lcm_le (a b : Nat) : Nat.lcm a b ≤ a * b := Nat.div_le_self _ _
theorem foldl_le : ∀ (qs : List (Int × Int)) (a : Nat), (∀ q ∈ qs, q.2.natAbs < 2 ^ 400) → qs.foldl (fun a q => Nat.lcm a q.2.natAbs) a ≤ a * 2 ^ (400 * qs.length)
  | [], a, _ => by simp
  | q :: qs, a, h => by
    have h1 := foldl_le qs (Nat.lcm a q.2.natAbs) fun x m => h x (List.mem_cons_of_mem _ m)
    have h2 : Nat.lcm a q.2.natAbs ≤ a * 2 ^ 400 := Nat.le_trans (lcm_le _ _) (Nat.mul_le_mul_left _ (Nat.le_of_lt (h q (List.mem_cons_self ..))))
    rw [List.foldl_cons, List.length_cons]
    calc _ ≤ _ := h1
      _ ≤ (a * 2 ^ 400) * 2 ^ (400 * qs.length) := Nat.mul_le_mul_right _ h2
      _ = a * 2 ^ (400 * (qs.length + 1)) := by rw [Nat.mul_assoc, ← Nat.pow_add]; congr 2; omega
theorem lcmN_lt {qs : List (Int × Int)} (h : ∀ q ∈ qs, q.2.natAbs < 2 ^ 400) (l : qs.length ≤ 4) : lcmN qs < 2 ^ 2000 := by
  have h1 := foldl_le qs 1 h
  rw [Nat.one_mul] at h1
  refine Nat.lt_of_le_of_lt h1 ?_
  exact Nat.pow_lt_pow_right (by decide) (by omega)
theorem foldl_pos : ∀ (qs : List (Int × Int)) (a : Nat), 0 < a → (∀ q ∈ qs, 0 < q.2) → 0 < qs.foldl (fun a q => Nat.lcm a q.2.natAbs) a
  | [], a, ha, _ => ha
  | q :: qs, a, ha, h => by
    rw [List.foldl_cons]
    have := h q (List.mem_cons_self ..)
    exact foldl_pos qs _ (Nat.lcm_pos ha (by omega)) fun x m => h x (List.mem_cons_of_mem _ m)
theorem lcmN_pos {qs : List (Int × Int)} (h : ∀ q ∈ qs, 0 < q.2) : 0 < lcmN qs := foldl_pos qs 1 (by decide) h
theorem lcmN_take {qs : List (Int × Int)} {i : Nat} {q : Int × Int} (h : qs[i]? = some q) : lcmN (qs.take (i + 1)) = Nat.lcm (lcmN (qs.take i)) q.2.natAbs := by
  unfold lcmN
  rw [List.take_add_one, h, List.foldl_append]
  rfl
/-- the tops over the least common bottom -/
def topsN (qs : List (Int × Int)) : List Int := qs.map fun q => q.1 * (((lcmN qs : Nat) : Int) / q.2)
def Nums4 (qs : List (Int × Int)) : Prop := qs.length ≤ 4 ∧ ∀ q ∈ qs, 0 < q.2 ∧ q.1.natAbs < 2 ^ 400 ∧ q.2.natAbs < 2 ^ 400
theorem ref_get {ts : List Addr} {i : Nat} {x : V} (h : (ts.map V.ref)[i]? = some x) : ∃ t, ts[i]? = some t ∧ x = .ref t := by
  rw [List.getElem?_map] at h
  cases e : ts[i]? with
  | none => rw [e] at h; cases h
  | some z => rw [e] at h; exact ⟨z, rfl, (Option.some.inj h).symm⟩
theorem take_next {α : Type} {l : List α} {k : Nat} {x : α} (h : l[k]? = some x) : l.take (k + 1) = l.take k ++ [x] := by rw [List.take_add_one, h]; rfl
def spOob (C : Addr) : Sp := fun vs H Q _ => ∃ (a : Addr) (ns : List V) (qs : List (Int × Int)), vs = [.ref a] ∧ (H a = some (.lst ns) ∨ H a = some (.tup ns)) ∧ NumsAt C H ns qs ∧ Nums4 qs ∧
  ∀ H' t l, Same H H' → H' t = some (.tup [.ref l, .int ((lcmN qs : Nat) : Int)]) → H' l = some (.lst ((topsN qs).map V.int)) → Q (.ref t) H'
def rats (C : Addr) (H : Hp) (ps : List Addr) (qs : List (Int × Int)) : Prop := ∀ (j : Nat) (p : Addr) (q : Int × Int), ps[j]? = some p → qs[j]? = some q → RatAt C H p q.1 q.2
section
variable {P : Program} {w : World} {K : PySem.W.Frag} {mg : Str → Option Value} {base : Heap} {C Ce cz : Addr}
theorem ok_oob {f : Addr} {fd : FuncData} (F : Fun K "on_one_bottom" "on_one_bottom" s_on_one_bottom f fd) (Z : Zs K mg C cz) (S : Sc K C) (d_as_ratio : DefX P w K mg base 5 "as_ratio" 1 [] byPlace (spAsRat C Ce K)) : FnG P w K mg base CX0 6 f fd ["numbers"] (spOob C) := by
  refine okG F sc_on_one_bottom (fun vs H Q E h => ?_) (fun cdv B up z H vs Q E hG hr h => ?_)
  · obtain ⟨a, ns, qs, rfl, _⟩ := h
    rfl
  obtain ⟨a, ns, qs, rfl, ha, hn, ⟨l4, hq⟩, k⟩ := h
  have hb : ∀ q ∈ qs, q.2.natAbs < 2 ^ 400 := fun q m => (hq q m).2.2
  have hp0 : ∀ q ∈ qs, 0 < q.2 := fun q m => (hq q m).1
  rcases ha with ha | ha
  · refine ⟨_, (pss_cons (ps_setLc (i := 1) (own := [("number", 4)]) (tt := tYes) rfl sc_on_one_bottom.nd rfl rfl (sw_true rfl rfl rfl (by decide +kernel)) (pi_list (pv 0)) (blkOk_by (N := ["numbers", "ratios", "bottom", "ratio", "number"]) (sc := defScope s_on_one_bottom) (by decide +kernel)) (fun _ _ _ _ _ => (pg_name (i := 4) sc_on_one_bottom.nd rfl (by first | exact Or.inl rfl | exact Or.inr rfl))) (fun _ _ _ _ _ => pts_nil) (fun _ _ _ _ _ => (pdX_pos d_as_ratio takes0 hG hr (by decide) (by rfl) (pa_cons (pv 4) pa_nil))))
  (pss_cons (ps_set (i := 2) sc_on_one_bottom.nd rfl (by first | exact Or.inl rfl | exact Or.inr rfl) pe_int)
  (pss_cons (ps_for PassesOwn.never rfl (pi_list (pv 1)) (pg_name (i := 3) sc_on_one_bottom.nd rfl (by first | exact Or.inl rfl | exact Or.inr rfl))
  (pss_one (ps_set (i := 2) sc_on_one_bottom.nd rfl (by first | exact Or.inl rfl | exact Or.inr rfl) (pe_callBfun cr_lcm (by rfl) Z.lcm_ (pa_cons (pv 2) (pa_cons (pe_fld (pv 3) rfl) pa_nil))))))
  (pss_one (ps_ret (pe_tup (pa_cons (pe_lc (own := [("ratio", 3)]) (tt := tYes) rfl sc_on_one_bottom.nd (pi_list (pv 1)) (blkOk_by (N := ["numbers", "ratios", "bottom", "ratio", "number"]) (sc := defScope s_on_one_bottom) (by decide +kernel)) (fun _ _ _ _ _ => (pg_name (i := 3) sc_on_one_bottom.nd rfl (by first | exact Or.inl rfl | exact Or.inr rfl))) (fun _ _ _ _ _ => pts_nil) (fun _ _ _ _ _ => (pe_op op_mulW (show PE _ _ (tFld K (tVar 3) "top") from pe_fld (pv 3) rfl) (pe_op op_fdivW (pv 2) (show PE _ _ (tFld K (tVar 3) "bottom") from pe_fld (pv 3) rfl))))) (pa_cons (pv 2) pa_nil)))))))), ?_⟩
    walk_at "r"
    refine r_lc ?_
    walk_at "r"
    refine ⟨_, rfl, a, rfl, ⟨_, SqL.of ha⟩, fun D hD => ?_⟩
    refine it_list (xs := ns) (fun i A => Same H A ∧ ∃ ps : List Addr, ps.length = i ∧ A D = some (.lst (ps.map V.ref)) ∧ rats C A ps qs) ⟨Same.upd_new hD, [], rfl, upd_same, fun _ _ _ e => by cases e⟩ (fun i A _ p => SqL.of (p.1 _ _ ha)) (fun i x A hx p => ?_) (fun A p => ?_)
    · obtain ⟨sA, ps, hl, dA, hr⟩ := p
      have il : i < ns.length := (List.getElem?_eq_some_iff.mp hx).1
      have iq : i < qs.length := hn.1 ▸ il
      have hx2 : qs[i]? = some qs[i] := List.getElem?_eq_getElem iq
      have nx := (hn.2 i x _ hx hx2).same sA
      refine r_gname ⟨rfl, ?_⟩
      walk_at "r"
      refine ⟨x, rfl, .inl ⟨_, _, nx, fun A2 p s2 rp => ?_⟩⟩
      have d2 := s2 _ _ dA
      refine ⟨ps.map V.ref, d2, by rw [List.length_map, sizeLine_eq]; omega, fun b o e => ?_, ps ++ [p], by rw [List.length_append, hl]; rfl, by rw [upd_same, List.map_append]; rfl, fun j p' q e1 e2 => ?_⟩
      · rw [upd_ne (ne_of_none e hD)]
        exact s2 _ _ (sA _ _ e)
      · have r2 : RatAt C A2 p' q.1 q.2 := by
          by_cases c : j < ps.length
          · rw [List.getElem?_append_left c] at e1
            exact (hr j p' q e1 e2).same s2
          · have cj : j = i := by
              have := (List.getElem?_eq_some_iff.mp e1).1
              rw [List.length_append] at this
              simp at this
              omega
            subst cj
            rw [hx2] at e2
            cases e2
            rw [List.getElem?_append_right (by omega), hl, Nat.sub_self] at e1
            cases e1
            exact rp
        obtain ⟨dx, e⟩ := r2
        exact ⟨dx, by rw [upd_ne (ne_of e d2 (by intro z; cases z))]; exact e⟩
    obtain ⟨sA, ps, hl, dA, hr⟩ := p
    have hlq : ps.length = qs.length := hl.trans hn.1
    walk_at "r"
    with_reducible refine r_for ?_
    walk_at "r"
    refine ⟨_, rfl, D, rfl, ⟨_, SqL.of dA⟩, for_list (K := K) (a := D) (xs := ps.map V.ref) (fun i τ T => ∃ v3 : Option V, τ = [some (.ref a), some (.ref D), some (.int ((lcmN (qs.take i) : Nat) : Int)), v3, none] ∧ T = A) ⟨none, rfl, rfl⟩ (fun i τ T _ q => ?_) ?_ ?_⟩
    · obtain ⟨_, _, rfl⟩ := q
      exact SqL.of dA
    · rintro i x τ T hx ⟨v3, rfl, rfl⟩
      obtain ⟨p, hp, rfl⟩ := ref_get hx
      have iq : i < qs.length := hlq ▸ (List.getElem?_eq_some_iff.mp hp).1
      have hx2 : qs[i]? = some qs[i] := List.getElem?_eq_getElem iq
      have rp := hr i p _ hp hx2
      have mq : qs[i] ∈ qs := List.getElem_mem iq
      walk_at "r"
      refine r_fB S rp rfl ?_
      walk_at "r"
      have lt1 : lcmN (qs.take i) < 2 ^ 2000 := lcmN_lt (fun q m => hb q (List.mem_of_mem_take m)) (by rw [List.length_take]; omega)
      refine ⟨_, _, rfl, by rw [Int.natAbs_natCast]; exact lt1, Nat.lt_trans (hb _ mq) (Nat.pow_lt_pow_right (by decide) (by decide)), ?_⟩
      walk_at "r"
      rw [Int.natAbs_natCast, ← lcmN_take hx2]
      exact ⟨_, rfl, rfl⟩
    · rintro τ T ⟨v3, rfl, rfl⟩
      rw [List.length_map, hlq, List.take_length]
      have lt1 := lcmN_lt hb l4
      have lp := lcmN_pos hp0
      walk_at "r"
      refine r_lc ?_
      walk_at "r"
      refine ⟨_, rfl, D, rfl, ⟨_, SqL.of dA⟩, fun D2 hD2 => ?_⟩
      refine it_list (xs := ps.map V.ref) (fun i A2 => Same T A2 ∧ A2 D2 = some (.lst (((topsN qs).take i).map V.int))) ⟨Same.upd_new hD2, upd_same⟩ (fun i A2 _ p => SqL.of (p.1 _ _ dA)) (fun i x A2 hx p => ?_) (fun A2 p => ?_)
      · obtain ⟨s2, d2⟩ := p
        obtain ⟨p, hp, rfl⟩ := ref_get hx
        have iq : i < qs.length := hlq ▸ (List.getElem?_eq_some_iff.mp hp).1
        have hx2 : qs[i]? = some qs[i] := List.getElem?_eq_getElem iq
        have rp := (hr i p _ hp hx2).same s2
        have mq : qs[i] ∈ qs := List.getElem_mem iq
        have q0 := hp0 _ mq
        refine r_gname ⟨rfl, ?_⟩
        walk_at "r"
        refine r_fT S rp rfl ?_
        walk_at "r"
        refine r_fB S rp rfl ?_
        walk_at "r"
        refine r_i ⟨q0, Nat.lt_trans (log2_of (hb _ mq) (by decide)) (by decide)⟩ ?_
        walk_at "r"
        have dle : (((lcmN qs : Nat) : Int) / qs[i].2).natAbs < 2 ^ 2000 := by
          refine Nat.lt_of_le_of_lt ?_ lt1
          have h1 : ((lcmN qs : Nat) : Int) / qs[i].2 ≤ ((lcmN qs : Nat) : Int) := Int.ediv_le_self _ (Int.natCast_nonneg _)
          have h2 : 0 ≤ ((lcmN qs : Nat) : Int) / qs[i].2 := Int.ediv_nonneg (Int.natCast_nonneg _) (by omega)
          omega
        refine r_i (wide_mul (hq _ mq).2.1 dle (by decide) (by decide) (by decide)) ?_
        have tl : (topsN qs)[i]? = some (qs[i].1 * (((lcmN qs : Nat) : Int) / qs[i].2)) := by
          unfold topsN
          rw [List.getElem?_map, hx2]
          rfl
        refine ⟨_, d2, by rw [List.length_map, List.length_take, sizeLine_eq]; omega, Same.over s2 hD2, ?_⟩
        rw [upd_same, take_next tl, List.map_append]
        rfl
      · obtain ⟨s2, d2⟩ := p
        rw [List.length_map, hlq, show qs.length = (topsN qs).length from (List.length_map ..).symm, List.take_length] at d2
        walk_at "r"
        refine ⟨by show 2 ≤ sizeLine; decide, fun t nt => ?_⟩
        have st := Same.upd_new (o := .tup [.ref D2, .int ((lcmN qs : Nat) : Int)]) nt
        exact k _ t D2 ((sA.trans s2).trans st) upd_same (st _ _ d2)
  · refine ⟨_, (pss_cons (ps_setLc (i := 1) (own := [("number", 4)]) (tt := tYes) rfl sc_on_one_bottom.nd rfl rfl (sw_true rfl rfl rfl (by decide +kernel)) (pi_tup (pv 0)) (blkOk_by (N := ["numbers", "ratios", "bottom", "ratio", "number"]) (sc := defScope s_on_one_bottom) (by decide +kernel)) (fun _ _ _ _ _ => (pg_name (i := 4) sc_on_one_bottom.nd rfl (by first | exact Or.inl rfl | exact Or.inr rfl))) (fun _ _ _ _ _ => pts_nil) (fun _ _ _ _ _ => (pdX_pos d_as_ratio takes0 hG hr (by decide) (by rfl) (pa_cons (pv 4) pa_nil))))
  (pss_cons (ps_set (i := 2) sc_on_one_bottom.nd rfl (by first | exact Or.inl rfl | exact Or.inr rfl) pe_int)
  (pss_cons (ps_for PassesOwn.never rfl (pi_list (pv 1)) (pg_name (i := 3) sc_on_one_bottom.nd rfl (by first | exact Or.inl rfl | exact Or.inr rfl))
  (pss_one (ps_set (i := 2) sc_on_one_bottom.nd rfl (by first | exact Or.inl rfl | exact Or.inr rfl) (pe_callBfun cr_lcm (by rfl) Z.lcm_ (pa_cons (pv 2) (pa_cons (pe_fld (pv 3) rfl) pa_nil))))))
  (pss_one (ps_ret (pe_tup (pa_cons (pe_lc (own := [("ratio", 3)]) (tt := tYes) rfl sc_on_one_bottom.nd (pi_list (pv 1)) (blkOk_by (N := ["numbers", "ratios", "bottom", "ratio", "number"]) (sc := defScope s_on_one_bottom) (by decide +kernel)) (fun _ _ _ _ _ => (pg_name (i := 3) sc_on_one_bottom.nd rfl (by first | exact Or.inl rfl | exact Or.inr rfl))) (fun _ _ _ _ _ => pts_nil) (fun _ _ _ _ _ => (pe_op op_mulW (show PE _ _ (tFld K (tVar 3) "top") from pe_fld (pv 3) rfl) (pe_op op_fdivW (pv 2) (show PE _ _ (tFld K (tVar 3) "bottom") from pe_fld (pv 3) rfl))))) (pa_cons (pv 2) pa_nil)))))))), ?_⟩
    walk_at "r"
    refine r_lc ?_
    walk_at "r"
    refine ⟨_, rfl, a, rfl, ⟨_, SqT.of ha⟩, fun D hD => ?_⟩
    refine it_tup (xs := ns) (fun i A => Same H A ∧ ∃ ps : List Addr, ps.length = i ∧ A D = some (.lst (ps.map V.ref)) ∧ rats C A ps qs) ⟨Same.upd_new hD, [], rfl, upd_same, fun _ _ _ e => by cases e⟩ (fun i A _ p => SqT.of (p.1 _ _ ha)) (fun i x A hx p => ?_) (fun A p => ?_)
    · obtain ⟨sA, ps, hl, dA, hr⟩ := p
      have il : i < ns.length := (List.getElem?_eq_some_iff.mp hx).1
      have iq : i < qs.length := hn.1 ▸ il
      have hx2 : qs[i]? = some qs[i] := List.getElem?_eq_getElem iq
      have nx := (hn.2 i x _ hx hx2).same sA
      refine r_gname ⟨rfl, ?_⟩
      walk_at "r"
      refine ⟨x, rfl, .inl ⟨_, _, nx, fun A2 p s2 rp => ?_⟩⟩
      have d2 := s2 _ _ dA
      refine ⟨ps.map V.ref, d2, by rw [List.length_map, sizeLine_eq]; omega, fun b o e => ?_, ps ++ [p], by rw [List.length_append, hl]; rfl, by rw [upd_same, List.map_append]; rfl, fun j p' q e1 e2 => ?_⟩
      · rw [upd_ne (ne_of_none e hD)]
        exact s2 _ _ (sA _ _ e)
      · have r2 : RatAt C A2 p' q.1 q.2 := by
          by_cases c : j < ps.length
          · rw [List.getElem?_append_left c] at e1
            exact (hr j p' q e1 e2).same s2
          · have cj : j = i := by
              have := (List.getElem?_eq_some_iff.mp e1).1
              rw [List.length_append] at this
              simp at this
              omega
            subst cj
            rw [hx2] at e2
            cases e2
            rw [List.getElem?_append_right (by omega), hl, Nat.sub_self] at e1
            cases e1
            exact rp
        obtain ⟨dx, e⟩ := r2
        exact ⟨dx, by rw [upd_ne (ne_of e d2 (by intro z; cases z))]; exact e⟩
    obtain ⟨sA, ps, hl, dA, hr⟩ := p
    have hlq : ps.length = qs.length := hl.trans hn.1
    walk_at "r"
    with_reducible refine r_for ?_
    walk_at "r"
    refine ⟨_, rfl, D, rfl, ⟨_, SqL.of dA⟩, for_list (K := K) (a := D) (xs := ps.map V.ref) (fun i τ T => ∃ v3 : Option V, τ = [some (.ref a), some (.ref D), some (.int ((lcmN (qs.take i) : Nat) : Int)), v3, none] ∧ T = A) ⟨none, rfl, rfl⟩ (fun i τ T _ q => ?_) ?_ ?_⟩
    · obtain ⟨_, _, rfl⟩ := q
      exact SqL.of dA
    · rintro i x τ T hx ⟨v3, rfl, rfl⟩
      obtain ⟨p, hp, rfl⟩ := ref_get hx
      have iq : i < qs.length := hlq ▸ (List.getElem?_eq_some_iff.mp hp).1
      have hx2 : qs[i]? = some qs[i] := List.getElem?_eq_getElem iq
      have rp := hr i p _ hp hx2
      have mq : qs[i] ∈ qs := List.getElem_mem iq
      walk_at "r"
      refine r_fB S rp rfl ?_
      walk_at "r"
      have lt1 : lcmN (qs.take i) < 2 ^ 2000 := lcmN_lt (fun q m => hb q (List.mem_of_mem_take m)) (by rw [List.length_take]; omega)
      refine ⟨_, _, rfl, by rw [Int.natAbs_natCast]; exact lt1, Nat.lt_trans (hb _ mq) (Nat.pow_lt_pow_right (by decide) (by decide)), ?_⟩
      walk_at "r"
      rw [Int.natAbs_natCast, ← lcmN_take hx2]
      exact ⟨_, rfl, rfl⟩
    · rintro τ T ⟨v3, rfl, rfl⟩
      rw [List.length_map, hlq, List.take_length]
      have lt1 := lcmN_lt hb l4
      have lp := lcmN_pos hp0
      walk_at "r"
      refine r_lc ?_
      walk_at "r"
      refine ⟨_, rfl, D, rfl, ⟨_, SqL.of dA⟩, fun D2 hD2 => ?_⟩
      refine it_list (xs := ps.map V.ref) (fun i A2 => Same T A2 ∧ A2 D2 = some (.lst (((topsN qs).take i).map V.int))) ⟨Same.upd_new hD2, upd_same⟩ (fun i A2 _ p => SqL.of (p.1 _ _ dA)) (fun i x A2 hx p => ?_) (fun A2 p => ?_)
      · obtain ⟨s2, d2⟩ := p
        obtain ⟨p, hp, rfl⟩ := ref_get hx
        have iq : i < qs.length := hlq ▸ (List.getElem?_eq_some_iff.mp hp).1
        have hx2 : qs[i]? = some qs[i] := List.getElem?_eq_getElem iq
        have rp := (hr i p _ hp hx2).same s2
        have mq : qs[i] ∈ qs := List.getElem_mem iq
        have q0 := hp0 _ mq
        refine r_gname ⟨rfl, ?_⟩
        walk_at "r"
        refine r_fT S rp rfl ?_
        walk_at "r"
        refine r_fB S rp rfl ?_
        walk_at "r"
        refine r_i ⟨q0, Nat.lt_trans (log2_of (hb _ mq) (by decide)) (by decide)⟩ ?_
        walk_at "r"
        have dle : (((lcmN qs : Nat) : Int) / qs[i].2).natAbs < 2 ^ 2000 := by
          refine Nat.lt_of_le_of_lt ?_ lt1
          have h1 : ((lcmN qs : Nat) : Int) / qs[i].2 ≤ ((lcmN qs : Nat) : Int) := Int.ediv_le_self _ (Int.natCast_nonneg _)
          have h2 : 0 ≤ ((lcmN qs : Nat) : Int) / qs[i].2 := Int.ediv_nonneg (Int.natCast_nonneg _) (by omega)
          omega
        refine r_i (wide_mul (hq _ mq).2.1 dle (by decide) (by decide) (by decide)) ?_
        have tl : (topsN qs)[i]? = some (qs[i].1 * (((lcmN qs : Nat) : Int) / qs[i].2)) := by
          unfold topsN
          rw [List.getElem?_map, hx2]
          rfl
        refine ⟨_, d2, by rw [List.length_map, List.length_take, sizeLine_eq]; omega, Same.over s2 hD2, ?_⟩
        rw [upd_same, take_next tl, List.map_append]
        rfl
      · obtain ⟨s2, d2⟩ := p
        rw [List.length_map, hlq, show qs.length = (topsN qs).length from (List.length_map ..).symm, List.take_length] at d2
        walk_at "r"
        refine ⟨by show 2 ≤ sizeLine; decide, fun t nt => ?_⟩
        have st := Same.upd_new (o := .tup [.ref D2, .int ((lcmN qs : Nat) : Int)]) nt
        exact k _ t D2 ((sA.trans s2).trans st) upd_same (st _ _ d2)
end
end Eld
set_option Elab.async false
set_option maxRecDepth 100000
set_option maxHeartbeats 4000000
set_option linter.all false
namespace Eld
open PySem L2
local macro_rules | `(tactic| walk_at "r1") => `(tactic| with_reducible first
  | refine r_seq ?_ | refine r_asgN ?_ | refine r_asg ?_ | refine r_gname ?_ | refine r_gsub ?_ | refine r_var rfl ?_ | refine r_c ?_ | refine r_op ?_ | refine r_un ?_ | refine r_u ?_ | refine r_i0 ?_ | refine r_cb ?_ | refine r_cons ?_ | refine r_nil ?_ | refine r_cl ?_ | refine r_fn rfl rfl ?_ | refine r_mt ?_
  | refine r_test ?_ | refine r_tb ?_ | refine r_bl ?_ | refine r_and ?_ | refine r_or ?_ | refine r_not ?_ | refine r_andV ?_ | refine r_orV ?_ | refine r_notV ?_ | refine r_ifX ?_ | refine r_ifs ?_ | refine r_chain ?_ | refine r_ret ?_ | refine r_next ?_ | refine r_drop ?_ | refine iteT ?_ | refine iteF ?_ | refine iteNT ?_ | refine iteNF ?_
  | refine r_int1 ?_ | refine r_boolB ?_ | refine r_eqI ?_ | refine r_neI ?_ | refine r_eqB ?_ | refine r_neB ?_ | refine r_eqS ?_ | refine r_neS ?_ | refine r_abs ?_ | refine r_max2 ?_ | refine r_min2 ?_ | refine r_yes ?_ | refine r_tup ?_ | refine r_sfld ?_ | refine r_m0 ?_ | refine r_m1 ?_ | refine r_lst ?_ | refine r_rng1 ?_ | refine r_rng2 ?_ | refine r_ixL (SqL.of (by assumption)) rfl ?_)
local macro_rules | `(tactic| walk_at "r") => `(tactic| repeat (first | walk_at "r1" | ((with_reducible refine r_var ?hv ?_); (case hv => rfl))))

local macro_rules | `(tactic| walk_at "r1") => `(tactic| with_reducible first | refine r_clS ?_ | refine r_fnS rfl rfl ?_ | refine r_mtS ?_ | refine r_mkO ?_)
def spTotal (C : Addr) : Sp := fun vs H Q _ => ∃ (a : Addr) (ns : List V) (qs : List (Int × Int)), vs = [.ref a] ∧ (H a = some (.lst ns) ∨ H a = some (.tup ns)) ∧ NumsAt C H ns qs ∧ Nums4 qs ∧
  ∀ H' q, Same H H' → RatAt C H' q (lowT (topsN qs).sum ((lcmN qs : Nat) : Int)) (lowB (topsN qs).sum ((lcmN qs : Nat) : Int)) → Q (.ref q) H'
def spMost (C : Addr) : Sp := fun vs H Q _ => ∃ (a : Addr) (ns : List V) (qs : List (Int × Int)), vs = [.ref a] ∧ (H a = some (.lst ns) ∨ H a = some (.tup ns)) ∧ NumsAt C H ns qs ∧ Nums4 qs ∧ 0 < qs.length ∧
  ∀ m, m ∈ topsN qs → (∀ y ∈ topsN qs, y ≤ m) → ∀ H' q, Same H H' → RatAt C H' q (lowT m ((lcmN qs : Nat) : Int)) (lowB m ((lcmN qs : Nat) : Int)) → Q (.ref q) H'
def spLeast (C : Addr) : Sp := fun vs H Q _ => ∃ (a : Addr) (ns : List V) (qs : List (Int × Int)), vs = [.ref a] ∧ (H a = some (.lst ns) ∨ H a = some (.tup ns)) ∧ NumsAt C H ns qs ∧ Nums4 qs ∧ 0 < qs.length ∧
  ∀ m, m ∈ topsN qs → (∀ y ∈ topsN qs, m ≤ y) → ∀ H' q, Same H H' → RatAt C H' q (lowT m ((lcmN qs : Nat) : Int)) (lowB m ((lcmN qs : Nat) : Int)) → Q (.ref q) H'
section
variable {P : Program} {w : World} {K : PySem.W.Frag} {mg : Str → Option Value} {base : Heap} {C Ce cz : Addr}
theorem ok_total {f : Addr} {fd : FuncData} (F : Fun K "total" "total" s_total f fd) (Z : Zs K mg C cz) (k_Ratio : MakX P w K mg base 3 "Ratio" C 2 [] byPlace (spRatI C Ce cz K)) (d_on_one_bottom : DefD P w K mg base 6 "on_one_bottom" 1 [] byPlace (spOob C)) : FnG P w K mg base CX0 7 f fd ["numbers"] (spTotal C) := by
  refine okG F sc_total (fun vs H Q E h => ?_) (fun cdv B up z H vs Q E hG hr h => ?_)
  · obtain ⟨a, ns, qs, rfl, _⟩ := h
    rfl
  refine ⟨_, (pss_cons (ps_asg (pd_pos d_on_one_bottom hG hr (by decide) (by rfl) (pa_cons (pv 0) pa_nil)) (by (refine (show PG _ _ (gTup K 2 (gCons (gName 1) (gCons (gName 2) gNil))) from ?_); refine pg_tup rfl (pgs_cons ?_ (pgs_cons ?_ pgs_nil)); exact (pg_name (i := 1) sc_total.nd rfl (by first | exact Or.inl rfl | exact Or.inr rfl)); exact (pg_name (i := 2) sc_total.nd rfl (by first | exact Or.inl rfl | exact Or.inr rfl)))))
  (pss_one (ps_ret (pkX_pos k_Ratio takes0 hG hr (by decide) (by rfl) (pa_cons (pe_callB (show CallR _ _ (rSum K) from cr_sum rfl) (by rfl) Z.sum_ (by decide +kernel) (pa_cons (pv 1) pa_nil)) (pa_cons (pv 2) pa_nil)))))), ?_⟩
  obtain ⟨a, ns, qs, rfl, ha, hn, h4, k⟩ := h
  have hp0 : ∀ q ∈ qs, 0 < q.2 := fun q m => (h4.2 q m).1
  have lp := lcmN_pos hp0
  have lt := lcmN_lt (fun q m => (h4.2 q m).2.2) h4.1
  have l0 : ((lcmN qs : Nat) : Int) ≠ 0 := by omega
  have l40 : ((lcmN qs : Nat) : Int).natAbs < 2 ^ 4000 := by rw [Int.natAbs_natCast]; exact Nat.lt_trans lt (Nat.pow_lt_pow_right (by decide) (by decide))
  walk_at "r"
  refine ⟨a, ns, qs, rfl, ha, hn, h4, fun H1 t l s1 ht hl2 => ?_⟩
  walk_at "r"
  refine ⟨t, _, rfl, SqT.of ht, rfl, _, _, rfl, ?_⟩
  walk_at "r"
  refine ⟨_, _, rfl, ?_⟩
  walk_at "r"
  refine ⟨rfl, ?_⟩
  walk_at "r"
  refine ⟨l, topsN qs, rfl, SqL.of hl2, ?_⟩
  walk_at "r"
  exact r_rat l0 l40 fun H5 x s5 r5 => k H5 x (s1.trans s5) r5
theorem ok_greatest {f : Addr} {fd : FuncData} (F : Fun K "greatest" "greatest" s_greatest f fd) (Z : Zs K mg C cz) (k_Ratio : MakX P w K mg base 3 "Ratio" C 2 [] byPlace (spRatI C Ce cz K)) (d_on_one_bottom : DefD P w K mg base 6 "on_one_bottom" 1 [] byPlace (spOob C)) : FnG P w K mg base CX0 7 f fd ["numbers"] (spMost C) := by
  refine okG F sc_greatest (fun vs H Q E h => ?_) (fun cdv B up z H vs Q E hG hr h => ?_)
  · obtain ⟨a, ns, qs, rfl, _⟩ := h
    rfl
  refine ⟨_, (pss_cons (ps_asg (pd_pos d_on_one_bottom hG hr (by decide) (by rfl) (pa_cons (pv 0) pa_nil)) (by (refine (show PG _ _ (gTup K 2 (gCons (gName 1) (gCons (gName 2) gNil))) from ?_); refine pg_tup rfl (pgs_cons ?_ (pgs_cons ?_ pgs_nil)); exact (pg_name (i := 1) sc_greatest.nd rfl (by first | exact Or.inl rfl | exact Or.inr rfl)); exact (pg_name (i := 2) sc_greatest.nd rfl (by first | exact Or.inl rfl | exact Or.inr rfl)))))
  (pss_one (ps_ret (pkX_pos k_Ratio takes0 hG hr (by decide) (by rfl) (pa_cons (pe_callB (show CallR _ _ (rMax K) from cr_max rfl) (by rfl) Z.max_ (by decide +kernel) (pa_cons (pv 1) pa_nil)) (pa_cons (pv 2) pa_nil)))))), ?_⟩
  obtain ⟨a, ns, qs, rfl, ha, hn, h4, hl, k⟩ := h
  have hp0 : ∀ q ∈ qs, 0 < q.2 := fun q m => (h4.2 q m).1
  have lp := lcmN_pos hp0
  have lt := lcmN_lt (fun q m => (h4.2 q m).2.2) h4.1
  have l0 : ((lcmN qs : Nat) : Int) ≠ 0 := by omega
  have l40 : ((lcmN qs : Nat) : Int).natAbs < 2 ^ 4000 := by rw [Int.natAbs_natCast]; exact Nat.lt_trans lt (Nat.pow_lt_pow_right (by decide) (by decide))
  walk_at "r"
  refine ⟨a, ns, qs, rfl, ha, hn, h4, fun H1 t l s1 ht hl2 => ?_⟩
  walk_at "r"
  refine ⟨t, _, rfl, SqT.of ht, rfl, _, _, rfl, ?_⟩
  walk_at "r"
  refine ⟨_, _, rfl, ?_⟩
  walk_at "r"
  refine ⟨rfl, ?_⟩
  walk_at "r"
  refine ⟨l, topsN qs, rfl, SqL.of hl2, by unfold topsN; rw [List.length_map]; exact hl, fun m hm hle => ?_⟩
  walk_at "r"
  exact r_rat l0 l40 fun H5 x s5 r5 => k m hm hle H5 x (s1.trans s5) r5
theorem ok_smallest {f : Addr} {fd : FuncData} (F : Fun K "smallest" "smallest" s_smallest f fd) (Z : Zs K mg C cz) (k_Ratio : MakX P w K mg base 3 "Ratio" C 2 [] byPlace (spRatI C Ce cz K)) (d_on_one_bottom : DefD P w K mg base 6 "on_one_bottom" 1 [] byPlace (spOob C)) : FnG P w K mg base CX0 7 f fd ["numbers"] (spLeast C) := by
  refine okG F sc_smallest (fun vs H Q E h => ?_) (fun cdv B up z H vs Q E hG hr h => ?_)
  · obtain ⟨a, ns, qs, rfl, _⟩ := h
    rfl
  refine ⟨_, (pss_cons (ps_asg (pd_pos d_on_one_bottom hG hr (by decide) (by rfl) (pa_cons (pv 0) pa_nil)) (by (refine (show PG _ _ (gTup K 2 (gCons (gName 1) (gCons (gName 2) gNil))) from ?_); refine pg_tup rfl (pgs_cons ?_ (pgs_cons ?_ pgs_nil)); exact (pg_name (i := 1) sc_smallest.nd rfl (by first | exact Or.inl rfl | exact Or.inr rfl)); exact (pg_name (i := 2) sc_smallest.nd rfl (by first | exact Or.inl rfl | exact Or.inr rfl)))))
  (pss_one (ps_ret (pkX_pos k_Ratio takes0 hG hr (by decide) (by rfl) (pa_cons (pe_callB (show CallR _ _ (rMin K) from cr_min rfl) (by rfl) Z.min_ (by decide +kernel) (pa_cons (pv 1) pa_nil)) (pa_cons (pv 2) pa_nil)))))), ?_⟩
  obtain ⟨a, ns, qs, rfl, ha, hn, h4, hl, k⟩ := h
  have hp0 : ∀ q ∈ qs, 0 < q.2 := fun q m => (h4.2 q m).1
  have lp := lcmN_pos hp0
  have lt := lcmN_lt (fun q m => (h4.2 q m).2.2) h4.1
  have l0 : ((lcmN qs : Nat) : Int) ≠ 0 := by omega
  have l40 : ((lcmN qs : Nat) : Int).natAbs < 2 ^ 4000 := by rw [Int.natAbs_natCast]; exact Nat.lt_trans lt (Nat.pow_lt_pow_right (by decide) (by decide))
  walk_at "r"
  refine ⟨a, ns, qs, rfl, ha, hn, h4, fun H1 t l s1 ht hl2 => ?_⟩
  walk_at "r"
  refine ⟨t, _, rfl, SqT.of ht, rfl, _, _, rfl, ?_⟩
  walk_at "r"
  refine ⟨_, _, rfl, ?_⟩
  walk_at "r"
  refine ⟨rfl, ?_⟩
  walk_at "r"
  refine ⟨l, topsN qs, rfl, SqL.of hl2, by unfold topsN; rw [List.length_map]; exact hl, fun m hm hle => ?_⟩
  walk_at "r"
  exact r_rat l0 l40 fun H5 x s5 r5 => k m hm hle H5 x (s1.trans s5) r5
end
end Eld
set_option Elab.async false
set_option maxRecDepth 100000
set_option maxHeartbeats 4000000
set_option linter.all false
namespace Eld
open PySem L2
local macro_rules | `(tactic| walk_at "r1") => `(tactic| with_reducible first
  | refine r_seq ?_ | refine r_asgN ?_ | refine r_asg ?_ | refine r_gname ?_ | refine r_gsub ?_ | refine r_var rfl ?_ | refine r_c ?_ | refine r_op ?_ | refine r_un ?_ | refine r_u ?_ | refine r_i0 ?_ | refine r_cb ?_ | refine r_cons ?_ | refine r_nil ?_ | refine r_cl ?_ | refine r_fn rfl rfl ?_ | refine r_mt ?_
  | refine r_test ?_ | refine r_tb ?_ | refine r_bl ?_ | refine r_and ?_ | refine r_or ?_ | refine r_not ?_ | refine r_andV ?_ | refine r_orV ?_ | refine r_notV ?_ | refine r_ifX ?_ | refine r_ifs ?_ | refine r_chain ?_ | refine r_ret ?_ | refine r_next ?_ | refine r_drop ?_ | refine iteT ?_ | refine iteF ?_ | refine iteNT ?_ | refine iteNF ?_
  | refine r_int1 ?_ | refine r_boolB ?_ | refine r_eqI ?_ | refine r_neI ?_ | refine r_eqB ?_ | refine r_neB ?_ | refine r_eqS ?_ | refine r_neS ?_ | refine r_abs ?_ | refine r_max2 ?_ | refine r_min2 ?_ | refine r_yes ?_ | refine r_tup ?_ | refine r_sfld ?_ | refine r_m0 ?_ | refine r_m1 ?_ | refine r_lst ?_ | refine r_rng1 ?_ | refine r_rng2 ?_ | refine r_ixL (SqL.of (by assumption)) rfl ?_)
local macro_rules | `(tactic| walk_at "r") => `(tactic| repeat (first | walk_at "r1" | ((with_reducible refine r_var ?hv ?_); (case hv => rfl))))

local macro_rules | `(tactic| walk_at "r1") => `(tactic| with_reducible first | refine r_clS ?_ | refine r_fnS rfl rfl ?_ | refine r_mtS ?_ | refine r_mkO ?_ | refine r_par ?_)
/-! ## the law's own tools -/
def spTake : Sp := fun vs H Q _ => ∃ (b : Addr) (many : Int) (n : Nat), vs = [.ref b, .int many] ∧ BoxAt H b n ∧ n < 4000000 ∧ 0 < many ∧ many < 1073741824 ∧
  ∀ (r : Int) (H' : Hp), 0 ≤ r → r < many → BoxAt H' b (n + 1) → But b H H' → Q (.int r) H'
def spCell (K : PySem.W.Frag) : Sp := fun vs H Q _ => ∃ (a : Addr) (ns : List Int) (k : Nat), vs = [.ref a, .int (k : Nat)] ∧ k < 100 ∧ ns.length ≤ sizeLine ∧ SqL K H a (ns.map V.int) ∧ ∀ r H', Same H H' → Q (.int r) H'
def spBox : Sp := fun vs H Q _ => ∃ g, vs = [.int g] ∧ ∀ b H', Same H H' → H b = none → BoxAt H' b 0 → Q (.ref b) H'
section
variable {P : Program} {w : World} {K : PySem.W.Frag} {mg : Str → Option Value} {base : Heap} {C cz : Addr}
theorem ok_take {f : Addr} {fd : FuncData} (F : Fun K "_law_take" "_law_take" s__law_take f fd) (Z : Zs K mg C cz) : FnG P w K mg base CX0 1 f fd ["box", "many"] spTake := by
  refine okG F sc__law_take (fun vs H Q E h => ?_) (fun cdv B up z H vs Q E hG hr h => ?_)
  · obtain ⟨b, many, n, rfl, _⟩ := h
    rfl
  · obtain ⟨b, many, n, rfl, ⟨g, m, c, t, hb, hg, hm, hm2, hc, hcn⟩, hn, h0, h1, k⟩ := h
    refine ⟨_, (pss_cons (ps_if (PW.pt (pw_and (pt_val (pe_ix (show IxR _ (rIxL K) from ix_list) (pv 0) pe_int (fun _ _ => rfl))) (pw_and1 (pt_cmpR op_gt (pe_ix (show IxR _ (rIxL K) from ix_list) (pv 0) pe_int (fun _ _ => rfl)) pe_int (nomark _))))) (pss_cons (ps_set (i := 3) sc__law_take.nd rfl (by first | exact Or.inl rfl | exact Or.inr rfl) (pe_op op_mod (pe_callTy c_int (by rfl) Z.int_ (by decide +kernel) (pa_cons (pe_ix (show IxR _ (rIxL K) from ix_list) (pv 0) pe_int (fun _ _ => rfl)) pa_nil)) (pv 1)))
  (pss_cons (ps_asg (pe_op op_fdiv (pe_ix (show IxR _ (rIxL K) from ix_list) (pv 0) pe_int (fun _ _ => rfl)) (pv 1)) (pg_sub (pv 0) pe_int set_list))
  (pss_one (ps_ret (pv 3))))) pss_nil)
  (pss_cons (ps_asg (pe_op op_add (pe_ix (show IxR _ (rIxL K) from ix_list) (pv 0) pe_int (fun _ _ => rfl)) pe_int) (pg_sub (pv 0) pe_int set_list))
  (pss_cons (ps_set (i := 2) sc__law_take.nd rfl (by first | exact Or.inl rfl | exact Or.inr rfl) (pe_op op_mod (pe_callTy c_int (by rfl) Z.int_ (by decide +kernel) (pa_cons (pe_op op_pow (pe_op op_add (pe_op op_add (pe_ix (show IxR _ (rIxL K) from ix_list) (pv 0) pe_int (fun _ _ => rfl)) (pe_op op_mul pe_int (pe_ix (show IxR _ (rIxL K) from ix_list) (pv 0) pe_int (fun _ _ => rfl)))) pe_int) pe_int) pa_nil)) pe_int))
  (pss_one (ps_ret (pe_op op_mod (pe_op op_fdiv (pe_op op_mod (pe_callTy c_int (by rfl) Z.int_ (by decide +kernel) (pa_cons (pe_op op_pow (pe_op op_add (pe_op op_mul (pv 2) pe_int) (pe_op op_mul pe_int (pe_ix (show IxR _ (rIxL K) from ix_list) (pv 0) pe_int (fun _ _ => rfl)))) pe_int) pa_nil)) pe_int) pe_int) (pv 1))))))), ?_⟩
    have fin : ∀ g' c' : Int, 0 ≤ g' → 0 ≤ c' → c' ≤ n + 1 → ∀ o, o = (HO.lst [.int g', .bl t, .int m, .int c']) → BoxAt (upd H b o) b (n + 1) := fun g' c' h1 h2 h3 o e => by
      subst e
      exact ⟨g', m, c', t, upd_same, h1, hm, hm2, h2, h3⟩
    have but : ∀ o, But b H (upd H b o) := fun o a u ha e => by rw [upd_ne ha]; exact e
    walk_at "r"
    refine ite2 (fun ht => ?_) (fun ht => ?_)
    walk_at "r"
    refine ite2 (fun hp => ?_) (fun hp => ?_)
    · walk_at "r"
      refine r_i h0 ?_
      walk_at "r"
      refine r_i ⟨h0, h1⟩ ?_
      walk_at "r"
      refine r_setL hb rfl ?_
      walk_at "r"
      exact k _ _ (Int.emod_nonneg _ (by omega)) (Int.emod_lt_of_pos _ h0) (fin (g / many) c (Int.ediv_nonneg hg (by omega)) hc (by omega) _ rfl) (but _)
    all_goals
      walk_at "r"
      refine r_setL hb rfl ?_
      have hb2 : (upd H b (.lst [.int g, .bl t, .int m, .int (c + 1)])) b = some (.lst [.int g, .bl t, .int m, .int (c + 1)]) := upd_same
      walk_at "r"
      refine r_ixL (SqL.of hb2) rfl ?_
      walk_at "r"
      refine r_ixL (SqL.of hb2) rfl ?_
      walk_at "r"
      refine r_i (.inl ⟨by decide, by decide⟩) ?_
      walk_at "r"
      refine r_i ⟨by decide, by decide, by omega⟩ ?_
      walk_at "r"
      refine r_i (by decide) ?_
      walk_at "r"
      have hm0 := Int.emod_nonneg ((m + 15485867 * (c + 1) + 179425033) ^ (5 : Int).toNat) (show (2147483647 : Int) ≠ 0 by decide)
      have hm1 := Int.emod_lt_of_pos ((m + 15485867 * (c + 1) + 179425033) ^ (5 : Int).toNat) (show (0 : Int) < 2147483647 by decide)
      generalize (m + 15485867 * (c + 1) + 179425033) ^ (5 : Int).toNat % 2147483647 = mixed at hm0 hm1 ⊢
      refine r_i (.inl ⟨by omega, by omega⟩) ?_
      walk_at "r"
      refine r_ixL (SqL.of hb2) rfl ?_
      walk_at "r"
      refine r_i (.inl ⟨by decide, by decide⟩) ?_
      walk_at "r"
      refine r_i ⟨by decide, by decide, by omega⟩ ?_
      walk_at "r"
      refine r_i (by decide) ?_
      walk_at "r"
      refine r_i ⟨by decide, by decide⟩ ?_
      walk_at "r"
      refine r_i h0 ?_
      exact k _ _ (Int.emod_nonneg _ (by omega)) (Int.emod_lt_of_pos _ h0) (fin g (c + 1) hg (by omega) (by omega) _ rfl) (but _)
theorem ok_cell {f : Addr} {fd : FuncData} (F : Fun K "_law_cell" "_law_cell" s__law_cell f fd) (Z : Zs K mg C cz) : FnG P w K mg base CX0 1 f fd ["script", "k"] (spCell K) := by
  refine okG F sc__law_cell (fun vs H Q E h => ?_) (fun cdv B up z H vs Q E hG hr h => ?_)
  · obtain ⟨a, ns, k, rfl, _⟩ := h
    rfl
  · obtain ⟨a, ns, k, rfl, hk, hz, ha, q⟩ := h
    refine ⟨_, (pss_one (ps_ret (pe_ifExp (pt_cmpR op_lt (pv 1) (pe_callB (show CallR _ _ (rLen K) from c_len) (by rfl) Z.len_ (by decide +kernel) (pa_cons (pv 0) pa_nil)) (nomark _)) (pe_ix (show IxR _ (rIxL K) from ix_list) (pv 0) (pv 1) (fun _ _ => rfl)) (pe_op op_add (pe_op op_add (pe_op op_mul pe_int (pv 1)) pe_int) (pe_op op_mod (pe_callB (cr_sum rfl) (by rfl) Z.sum_ (by decide +kernel) (pa_cons (pe_slice (show SlR _ (rSlL K) from sl_list) (pv 0) po_none (po_some pe_int)) pa_nil)) pe_int))))), ?_⟩
    walk_at "r"
    refine r_lenL ha ?_
    walk_at "r"
    refine ite2 (fun c => ?_) (fun c => ?_)
    · rw [List.length_map] at c
      have c' : k < ns.length := by simpa using c
      walk_at "r"
      refine r_ixL ha (atI_nat (v := .int ns[k]) (by rw [List.getElem?_map, List.getElem?_eq_getElem c']; rfl)) ?_
      exact q _ _ (Same.refl H)
    · walk_at "r"
      refine r_i (.inl ⟨by decide, by decide⟩) ?_
      walk_at "r"
      refine ⟨.ref a, rfl, 1, rfl, a, ns.map V.int, rfl, ha, fun p hp => ?_⟩
      refine ⟨p, (cutV (ns.map V.int) none (some 1)).map (fun v => match v with | .int i => i | _ => 0), rfl, SqL.of ?_, ?_⟩
      · rw [upd_same]
        have : ∀ l : List V, (∀ x ∈ l, ∃ i, x = V.int i) → (l.map (fun v => match v with | .int i => i | _ => (0 : Int))).map V.int = l := by
          intro l hl
          induction l with
          | nil => rfl
          | cons x l ih =>
            obtain ⟨i, rfl⟩ := hl x (List.mem_cons_self ..)
            rw [List.map_cons, List.map_cons, ih fun y hy => hl y (List.mem_cons_of_mem _ hy)]
        rw [this]
        intro x hx
        have h1 := List.mem_of_mem_drop (List.mem_of_mem_take hx)
        obtain ⟨i, _, e⟩ := List.mem_map.mp h1
        exact ⟨i, e.symm⟩
      · walk_at "r"
        refine r_i (by decide) ?_
        walk_at "r"
        exact q _ _ (Same.upd_new hp)
theorem ok_box {f : Addr} {fd : FuncData} (F : Fun K "_law_box" "_law_box" s__law_box f fd) (Z : Zs K mg C cz) : FnG P w K mg base CX0 1 f fd ["great"] spBox := by
  refine okG F sc__law_box (fun vs H Q E h => ?_) (fun cdv B up z H vs Q E hG hr h => ?_)
  · obtain ⟨g, rfl, _⟩ := h
    rfl
  · obtain ⟨g, rfl, q⟩ := h
    refine ⟨_, (pss_one (ps_ret (pe_lst (pa_cons (pe_callB c_abs (by rfl) Z.abs_ (by decide +kernel) (pa_cons (pv 0) pa_nil)) (pa_cons (pe_cmpR op_ge (pe_callB c_abs (by rfl) Z.abs_ (by decide +kernel) (pa_cons (pv 0) pa_nil)) (pe_op op_pow pe_int pe_int) (nomark _)) (pa_cons (pe_op op_mod (pe_callTy c_int (by rfl) Z.int_ (by decide +kernel) (pa_cons (pe_callB c_abs (by rfl) Z.abs_ (by decide +kernel) (pa_cons (pv 0) pa_nil)) pa_nil)) pe_int) (pa_cons pe_int pa_nil))))))), ?_⟩
    walk_at "r"
    have nn : 0 ≤ (if g < 0 then -g else g) := by split <;> omega
    refine r_i ⟨by decide, by decide, by decide⟩ ?_
    walk_at "r"
    refine r_i (by decide) ?_
    walk_at "r"
    refine ⟨by show 4 ≤ sizeLine; decide, fun p hp => ?_⟩
    exact q p _ (Same.upd_new hp) hp ⟨_, _, 0, _, upd_same, nn, Int.emod_nonneg _ (by decide), Int.lt_of_lt_of_le (Int.emod_lt_of_pos _ (by decide)) (by decide), by decide, by decide⟩
/-! ## the law's own numbers -/
def spShared : Sp := fun vs H Q _ => ∃ a b : Int, vs = [.int a, .int b] ∧ Q (.int (gcdI a b)) H
def spLow : Sp := fun vs H Q _ => ∃ a b : Int, vs = [.int a, .int b] ∧ b ≠ 0 ∧ b.natAbs < 2 ^ 4000 ∧ ∀ t H', Same H H' → H' t = some (.tup [.int (lowT a b), .int (lowB a b)]) → Q (.ref t) H'
/-- what the law draws: of at most this size -/
def Dr (n : Int) : Prop := n.natAbs < 2 ^ 90
def spTop : Sp := fun vs H Q _ => ∃ (b : Addr) (n : Nat), vs = [.ref b] ∧ BoxAt H b n ∧ n < 3000000 ∧ ∀ t H', Dr t → BoxAt H' b (n + 10) → But b H H' → Q (.int t) H'
def spBot : Sp := fun vs H Q _ => ∃ (b : Addr) (n : Nat), vs = [.ref b] ∧ BoxAt H b n ∧ n < 3000000 ∧ ∀ t H', Dr t → t ≠ 0 → BoxAt H' b (n + 11) → But b H H' → Q (.int t) H'
theorem r_while {c : TT} {tb : TS} {D : Ends} {σ : L2.St} {H : Hp} (h : ∃ W : Nat → L2.St → Hp → Prop, (∃ m, W m σ H) ∧ ∀ m σ H, W m σ H → c σ H fun b H1 => if b = true then ∃ N : L2.St → Hp → Prop, (∀ σ' H', N σ' H' → ∃ m', m' < m ∧ W m' σ' H') ∧ tb { D with nx := N, ct := N, bk := D.nx } σ H1 else D.nx σ H1) : tWhile c tb D σ H := h
theorem ok_shared {f : Addr} {fd : FuncData} (F : Fun K "_law_shared" "_law_shared" s__law_shared f fd) (Z : Zs K mg C cz) : FnG P w K mg base CX0 1 f fd ["one", "other"] spShared := by
  refine okG F sc__law_shared (fun vs H Q E h => ?_) (fun cdv B up z H vs Q E hG hr h => ?_)
  · obtain ⟨a, b, rfl, _⟩ := h
    rfl
  obtain ⟨a, b, rfl, k⟩ := h
  refine ⟨_, (pss_cons (ps_par rfl sc__law_shared.nd (i := 2) (j := 3) rfl rfl (by decide) rfl rfl (pa_cons (pe_callB c_abs (by rfl) Z.abs_ (by decide +kernel) (pa_cons (pv 0) pa_nil)) (pa_cons (pe_callB c_abs (by rfl) Z.abs_ (by decide +kernel) (pa_cons (pv 1) pa_nil)) pa_nil)) rfl)
  (pss_cons (ps_while PassesOwn.never (pt_cmpR op_ne (pv 3) pe_int (nomark _)) (pss_one (ps_par rfl sc__law_shared.nd (i := 2) (j := 3) rfl rfl (by decide) rfl rfl (pa_cons (pv 3) (pa_cons (pe_op op_mod (pe_callTy c_int (by rfl) Z.int_ (by decide +kernel) (pa_cons (pv 2) pa_nil)) (pv 3)) pa_nil)) rfl)))
  (pss_one (ps_ret (pv 2))))), ?_⟩
  walk_at "r"
  refine ⟨_, _, rfl, ?_⟩
  walk_at "r"
  have nn : ∀ x : Int, (if x < 0 then -x else x) = (x.natAbs : Int) := fun x => by split <;> omega
  rw [nn a, nn b]
  refine r_while ⟨fun m τ T => ∃ l r : Nat, τ = [some (.int a), some (.int b), some (.int (l : Nat)), some (.int (r : Nat))] ∧ T = H ∧ r = m ∧ Nat.gcd l r = Nat.gcd a.natAbs b.natAbs, ⟨_, _, _, rfl, rfl, rfl, rfl⟩, ?_⟩
  rintro m τ T ⟨l, r, rfl, rfl, rfl, hg⟩
  walk_at "r"
  by_cases c : r = 0
  · rw [decide_eq_true (show V.int (r : Nat) = V.int 0 by rw [c]; rfl)]
    walk_at "r"
    subst c
    rw [Nat.gcd_zero_right] at hg
    unfold gcdI at k
    rw [← hg] at k
    exact k
  · rw [decide_eq_false (show ¬ V.int (r : Nat) = V.int 0 from fun e => c (by have := V.int.inj e; omega))]
    walk_at "r"
    refine ⟨fun τ' T' => ∃ l' r' : Nat, τ' = [some (.int a), some (.int b), some (.int (l' : Nat)), some (.int (r' : Nat))] ∧ T' = T ∧ r' < r ∧ Nat.gcd l' r' = Nat.gcd a.natAbs b.natAbs, ?_, ?_⟩
    · rintro τ' T' ⟨l', r', rfl, rfl, lt, e⟩
      exact ⟨r', lt, l', r', rfl, rfl, rfl, e⟩
    walk_at "r"
    refine r_i (show (0 : Int) < (r : Nat) by omega) ?_
    walk_at "r"
    refine ⟨_, _, rfl, ?_⟩
    refine ⟨r, l % r, by rw [Int.natCast_emod]; rfl, rfl, Nat.mod_lt _ (by omega), ?_⟩
    rw [← hg, Nat.gcd_comm l r, Nat.gcd_rec r l, Nat.gcd_comm]
theorem ok_low {f : Addr} {fd : FuncData} (F : Fun K "_law_low" "_law_low" s__law_low f fd) (d__law_shared : DefD P w K mg base 1 "_law_shared" 2 [] byPlace spShared) : FnG P w K mg base CX0 2 f fd ["top", "bottom"] spLow := by
  refine okG F sc__law_low (fun vs H Q E h => ?_) (fun cdv B up z H vs Q E hG hr h => ?_)
  · obtain ⟨a, b, rfl, _⟩ := h
    rfl
  obtain ⟨a, b, rfl, b0, bs, k⟩ := h
  have hs9 := sg_small (x := a) b0 bs
  have hs0 := sgI_ne (a := a) b0
  refine ⟨_, (pss_cons (ps_set (i := 2) sc__law_low.nd rfl (by first | exact Or.inl rfl | exact Or.inr rfl) (pd_pos d__law_shared hG hr (by decide) (by rfl) (pa_cons (pv 0) (pa_cons (pv 1) pa_nil))))
  (pss_cons (ps_set (i := 2) sc__law_low.nd rfl (by first | exact Or.inl rfl | exact Or.inr rfl) (pe_ifExp (pt_cmpR op_lt (pv 1) pe_int (nomark _)) (pe_op op_sub pe_int (pv 2)) (pv 2)))
  (pss_one (ps_ret (pe_tup (pa_cons (pe_op op_fdivZ (pv 0) (pv 2)) (pa_cons (pe_op op_fdivZ (pv 1) (pv 2)) pa_nil))))))), ?_⟩
  walk_at "r"
  refine ⟨a, b, rfl, ?_⟩
  walk_at "r"
  refine if_both (fun Q => Q (.int (sgI a b)) H) (fun c Q q => ?_) (fun c Q q => ?_) ?_
  · walk_at "r"
    have e : 0 - gcdI a b = sgI a b := by unfold sgI; rw [if_pos (of_decide_eq_true c)]; omega
    rw [e]
    exact q
  · walk_at "r"
    have e : gcdI a b = sgI a b := by unfold sgI; rw [if_neg (of_decide_eq_false c)]
    rw [e]
    exact q
  walk_at "r"
  refine r_i ⟨hs0, hs9⟩ ?_
  walk_at "r"
  refine r_i ⟨hs0, hs9⟩ ?_
  walk_at "r"
  refine ⟨by show 2 ≤ sizeLine; decide, fun t nt => ?_⟩
  exact k t _ (Same.upd_new nt) upd_same
theorem ok_top {f : Addr} {fd : FuncData} (F : Fun K "_law_top" "_law_top" s__law_top f fd) (d__law_take : DefD P w K mg base 1 "_law_take" 2 [] byPlace spTake) : FnG P w K mg base CX0 2 f fd ["box"] spTop := by
  refine okG F sc__law_top (fun vs H Q E h => ?_) (fun cdv B up z H vs Q E hG hr h => ?_)
  · obtain ⟨b, n, rfl, _⟩ := h
    rfl
  obtain ⟨b, n, rfl, hb, hn, k⟩ := h
  refine ⟨_, (pss_cons (ps_set (i := 1) sc__law_top.nd rfl (by first | exact Or.inl rfl | exact Or.inr rfl) (pd_pos d__law_take hG hr (by decide) (by rfl) (pa_cons (pv 0) (pa_cons pe_int pa_nil))))
  (pss_cons (ps_if (pt_cmpR op_eq (pv 1) pe_int (nomark _)) (pss_one (ps_ret pe_int)) pss_nil)
  (pss_cons (ps_set (i := 2) sc__law_top.nd rfl (by first | exact Or.inl rfl | exact Or.inr rfl) (pe_ix (show IxR _ (rIxL K) from ix_list) (pe_lst (pa_cons pe_int (pa_cons (pe_op op_add pe_int (pd_pos d__law_take hG hr (by decide) (by rfl) (pa_cons (pv 0) (pa_cons pe_int pa_nil)))) (pa_cons (pe_op op_add pe_int (pd_pos d__law_take hG hr (by decide) (by rfl) (pa_cons (pv 0) (pa_cons pe_int pa_nil)))) (pa_cons (pe_op op_add pe_int (pd_pos d__law_take hG hr (by decide) (by rfl) (pa_cons (pv 0) (pa_cons pe_int pa_nil)))) (pa_cons (pe_op op_pow pe_int pe_int) pa_nil)))))) (pd_pos d__law_take hG hr (by decide) (by rfl) (pa_cons (pv 0) (pa_cons pe_int pa_nil))) (fun _ _ => rfl)))
  (pss_cons (ps_if (pt_cmpR op_eq (pv 1) pe_int (nomark _)) (pss_one (ps_set (i := 2) sc__law_top.nd rfl (by first | exact Or.inl rfl | exact Or.inr rfl) (pe_op op_add (pe_op op_mulW (pv 2) (pe_op op_add (pe_op op_pow pe_int pe_int) (pd_pos d__law_take hG hr (by decide) (by rfl) (pa_cons (pv 0) (pa_cons (pe_op op_pow pe_int pe_int) pa_nil))))) (pd_pos d__law_take hG hr (by decide) (by rfl) (pa_cons (pv 0) (pa_cons pe_int pa_nil)))))) pss_nil)
  (pss_one (ps_ret (pe_op op_mulW (pv 2) (pe_ix (show IxR _ (rIxL K) from ix_list) (pe_lst (pa_cons pe_int (pa_cons pe_int (pa_cons (pe_un un_neg pe_int) pa_nil)))) (pd_pos d__law_take hG hr (by decide) (by rfl) (pa_cons (pv 0) (pa_cons pe_int pa_nil))) (fun _ _ => rfl))))))))), ?_⟩
  walk_at "r"
  refine ⟨b, _, n, rfl, hb, by omega, by decide, by decide, fun w0 H0 w00 w01 b0 t0 => ?_⟩
  walk_at "r"
  by_cases cw : w0 = 0
  · rw [decide_eq_true (show V.int w0 = V.int 0 by rw [cw])]
    walk_at "r"
    exact k 0 H0 (by show (0 : Int).natAbs < 2 ^ 90; decide) (b0.mono (by omega)) t0
  rw [decide_eq_false (show ¬ V.int w0 = V.int 0 from fun e => cw (V.int.inj e))]
  walk_at "r"
  refine ⟨b, _, _, rfl, b0, by omega, by decide, by decide, fun x1 H1 x10 x11 b1 t1 => ?_⟩
  walk_at "r"
  refine ⟨b, _, _, rfl, b1, by omega, by decide, by decide, fun x2 H2 x20 x21 b2 t2 => ?_⟩
  walk_at "r"
  refine ⟨b, _, _, rfl, b2, by omega, by decide, by decide, fun x3 H3 x30 x31 b3 t3 => ?_⟩
  walk_at "r"
  refine r_i ⟨by decide, by decide, by decide⟩ ?_
  walk_at "r"
  refine ⟨by show 5 ≤ sizeLine; decide, fun l nl => ?_⟩
  have s4 := Same.upd_new (o := .lst [.int 1, .int (1 + x1), .int (1 + x2), .int (1 + x3), .int (10 ^ (9 : Int).toNat)]) nl
  have g4 : (upd H3 l (.lst [.int 1, .int (1 + x1), .int (1 + x2), .int (1 + x3), .int (10 ^ (9 : Int).toNat)])) l = some (.lst [.int 1, .int (1 + x1), .int (1 + x2), .int (1 + x3), .int (10 ^ (9 : Int).toNat)]) := upd_same
  generalize upd H3 l (.lst [.int 1, .int (1 + x1), .int (1 + x2), .int (1 + x3), .int (10 ^ (9 : Int).toNat)]) = H4 at s4 g4 ⊢
  walk_at "r"
  refine ⟨b, _, _, rfl, b3.same s4, by omega, by decide, by decide, fun r5 H5 r50 r51 b5 t5 => ?_⟩
  have g5 := t5 _ _ ((b3.same s4).ne g4 (by intro _ _ _ _ e; cases e)) g4
  have bt5 : But b H H5 := ((((t0.trans t1).trans t2).trans t3).trans (But.of s4)).trans t5
  obtain ⟨r5, rfl⟩ := Int.eq_ofNat_of_zero_le r50
  have pick : ∃ m : Int, ([.int 1, .int (1 + x1), .int (1 + x2), .int (1 + x3), .int (10 ^ (9 : Int).toNat)] : List V)[r5]? = some (.int m) ∧ 0 < m ∧ m ≤ 1000000000 := by
    obtain rfl | rfl | rfl | rfl | rfl : r5 = 0 ∨ r5 = 1 ∨ r5 = 2 ∨ r5 = 3 ∨ r5 = 4 := by omega
    · exact ⟨_, rfl, by decide, by decide⟩
    · exact ⟨_, rfl, by omega, by omega⟩
    · exact ⟨_, rfl, by omega, by omega⟩
    · exact ⟨_, rfl, by omega, by omega⟩
    · exact ⟨_, rfl, by decide, by decide⟩
  obtain ⟨m, pm, m0, m9⟩ := pick
  refine r_ixL (SqL.of g5) (atI_nat pm) ?_
  walk_at "r"
  by_cases c1 : w0 = 1
  · rw [decide_eq_true (show V.int w0 = V.int 1 by rw [c1])]
    walk_at "r"
    refine r_i ⟨by decide, by decide, by decide⟩ ?_
    walk_at "r"
    refine r_i ⟨by decide, by decide, by decide⟩ ?_
    walk_at "r"
    refine ⟨b, _, _, rfl, b5, by omega, by decide, by decide, fun x6 H6 x60 x61 b6 t6 => ?_⟩
    have x61 : x6 < 1000000 := x61
    walk_at "r"
    have e17 : (10 : Int) ^ (17 : Int).toNat = 100000000000000000 := by decide
    rw [e17]
    have mm : m.natAbs < 2 ^ 30 := by omega
    have mx : (100000000000000000 + x6).natAbs < 2 ^ 57 := by omega
    refine r_i (wide_mul mm mx (by decide) (by decide) (by decide)) ?_
    walk_at "r"
    refine ⟨b, _, _, rfl, b6, by omega, by decide, by decide, fun x7 H7 x70 x71 b7 t7 => ?_⟩
    walk_at "r"
    have big : (m * (100000000000000000 + x6) + x7).natAbs < 2 ^ 90 := by
      have h1 : (m * (100000000000000000 + x6)).natAbs < 2 ^ (30 + 57) := wide_lt mm mx
      have h2 : x7.natAbs < 7 := by omega
      have h3 : (m * (100000000000000000 + x6) + x7).natAbs ≤ (m * (100000000000000000 + x6)).natAbs + x7.natAbs := Int.natAbs_add_le _ _
      have h4 : (2 : Nat) ^ (30 + 57) + 7 < 2 ^ 90 := by decide
      omega
    have bt7 : But b H H7 := (bt5.trans t6).trans t7
    refine ⟨by show 3 ≤ sizeLine; decide, fun l2 nl2 => ?_⟩
    have s8 := Same.upd_new (o := .lst [.int 1, .int 1, .int (-1)]) nl2
    have g8 : (upd H7 l2 (.lst [.int 1, .int 1, .int (-1)])) l2 = some (.lst [.int 1, .int 1, .int (-1)]) := upd_same
    generalize upd H7 l2 (.lst [.int 1, .int 1, .int (-1)]) = H8 at s8 g8 ⊢
    walk_at "r"
    refine ⟨b, _, _, rfl, b7.same s8, by omega, by decide, by decide, fun r9 H9 r90 r91 b9 t9 => ?_⟩
    have g9 := t9 _ _ ((b7.same s8).ne g8 (by intro _ _ _ _ e; cases e)) g8
    obtain ⟨r9, rfl⟩ := Int.eq_ofNat_of_zero_le r90
    have pick2 : ∃ u : Int, ([.int 1, .int 1, .int (-1)] : List V)[r9]? = some (.int u) ∧ (u = 1 ∨ u = -1) := by
      obtain rfl | rfl | rfl : r9 = 0 ∨ r9 = 1 ∨ r9 = 2 := by omega
      · exact ⟨_, rfl, .inl rfl⟩
      · exact ⟨_, rfl, .inl rfl⟩
      · exact ⟨_, rfl, .inr rfl⟩
    obtain ⟨u, pu, u1⟩ := pick2
    refine r_ixL (SqL.of g9) (atI_nat pu) ?_
    have um : ((m * (100000000000000000 + x6) + x7) * u).natAbs = ((m * (100000000000000000 + x6) + x7)).natAbs := by rcases u1 with rfl | rfl <;> omega
    have us : u.natAbs < 2 ^ 2 := by rcases u1 with rfl | rfl <;> decide
    refine r_i (wide_mul big us (by decide) (by decide) (by decide)) ?_
    exact k _ _ (by show _ < _; rw [um]; exact big) (b9.mono (by omega)) ((bt7.trans (But.of s8)).trans t9)
  · rw [decide_eq_false (show ¬ V.int w0 = V.int 1 from fun e => c1 (V.int.inj e))]
    walk_at "r"
    have big : m.natAbs < 2 ^ 90 := by omega
    refine ⟨by show 3 ≤ sizeLine; decide, fun l2 nl2 => ?_⟩
    have s8 := Same.upd_new (o := .lst [.int 1, .int 1, .int (-1)]) nl2
    have g8 : (upd H5 l2 (.lst [.int 1, .int 1, .int (-1)])) l2 = some (.lst [.int 1, .int 1, .int (-1)]) := upd_same
    generalize upd H5 l2 (.lst [.int 1, .int 1, .int (-1)]) = H8 at s8 g8 ⊢
    walk_at "r"
    refine ⟨b, _, _, rfl, b5.same s8, by omega, by decide, by decide, fun r9 H9 r90 r91 b9 t9 => ?_⟩
    have g9 := t9 _ _ ((b5.same s8).ne g8 (by intro _ _ _ _ e; cases e)) g8
    obtain ⟨r9, rfl⟩ := Int.eq_ofNat_of_zero_le r90
    have pick2 : ∃ u : Int, ([.int 1, .int 1, .int (-1)] : List V)[r9]? = some (.int u) ∧ (u = 1 ∨ u = -1) := by
      obtain rfl | rfl | rfl : r9 = 0 ∨ r9 = 1 ∨ r9 = 2 := by omega
      · exact ⟨_, rfl, .inl rfl⟩
      · exact ⟨_, rfl, .inl rfl⟩
      · exact ⟨_, rfl, .inr rfl⟩
    obtain ⟨u, pu, u1⟩ := pick2
    refine r_ixL (SqL.of g9) (atI_nat pu) ?_
    have um : (m * u).natAbs = (m).natAbs := by rcases u1 with rfl | rfl <;> omega
    have us : u.natAbs < 2 ^ 2 := by rcases u1 with rfl | rfl <;> decide
    refine r_i (wide_mul big us (by decide) (by decide) (by decide)) ?_
    exact k _ _ (by show _ < _; rw [um]; exact big) (b9.mono (by omega)) ((bt5.trans (But.of s8)).trans t9)
theorem ok_bottom {f : Addr} {fd : FuncData} (F : Fun K "_law_bottom" "_law_bottom" s__law_bottom f fd) (d__law_take : DefD P w K mg base 1 "_law_take" 2 [] byPlace spTake) (d__law_top : DefD P w K mg base 2 "_law_top" 1 [] byPlace spTop) : FnG P w K mg base CX0 3 f fd ["box"] spBot := by
  refine okG F sc__law_bottom (fun vs H Q E h => ?_) (fun cdv B up z H vs Q E hG hr h => ?_)
  · obtain ⟨b, n, rfl, _⟩ := h
    rfl
  obtain ⟨b, n, rfl, hb, hn, k⟩ := h
  refine ⟨_, (pss_cons (ps_set (i := 1) sc__law_bottom.nd rfl (by first | exact Or.inl rfl | exact Or.inr rfl) (pd_pos d__law_top hG hr (by decide) (by rfl) (pa_cons (pv 0) pa_nil)))
  (pss_one (ps_ret (pe_ifExp (pt_cmpR op_ne (pv 1) pe_int (nomark _)) (pv 1) (pe_op op_add pe_int (pd_pos d__law_take hG hr (by decide) (by rfl) (pa_cons (pv 0) (pa_cons pe_int pa_nil)))))))), ?_⟩
  walk_at "r"
  refine ⟨b, n, rfl, hb, hn, fun t H1 dt b1 t1 => ?_⟩
  walk_at "r"
  by_cases c : t = 0
  · rw [decide_eq_true (show V.int t = V.int 0 by rw [c])]
    walk_at "r"
    refine ⟨b, _, _, rfl, b1, by omega, by decide, by decide, fun x H2 x0 x1 b2 t2 => ?_⟩
    walk_at "r"
    exact k _ _ (by show _ < _; omega) (by omega) b2 (t1.trans t2)
  · rw [decide_eq_false (show ¬ V.int t = V.int 0 from fun e => c (V.int.inj e))]
    walk_at "r"
    exact k t H1 dt c (b1.mono (by omega)) t1
end
end Eld
set_option Elab.async false
set_option maxRecDepth 100000
set_option maxHeartbeats 4000000
set_option linter.all false
namespace Eld
open PySem L2
local macro_rules | `(tactic| walk_at "r1") => `(tactic| with_reducible first
  | refine r_seq ?_ | refine r_asgN ?_ | refine r_asg ?_ | refine r_gname ?_ | refine r_gsub ?_ | refine r_var rfl ?_ | refine r_c ?_ | refine r_op ?_ | refine r_un ?_ | refine r_u ?_ | refine r_i0 ?_ | refine r_cb ?_ | refine r_cons ?_ | refine r_nil ?_ | refine r_cl ?_ | refine r_fn rfl rfl ?_ | refine r_mt ?_
  | refine r_test ?_ | refine r_tb ?_ | refine r_bl ?_ | refine r_and ?_ | refine r_or ?_ | refine r_not ?_ | refine r_andV ?_ | refine r_orV ?_ | refine r_notV ?_ | refine r_ifX ?_ | refine r_ifs ?_ | refine r_chain ?_ | refine r_ret ?_ | refine r_next ?_ | refine r_drop ?_ | refine iteT ?_ | refine iteF ?_ | refine iteNT ?_ | refine iteNF ?_
  | refine r_int1 ?_ | refine r_boolB ?_ | refine r_eqI ?_ | refine r_neI ?_ | refine r_eqB ?_ | refine r_neB ?_ | refine r_eqS ?_ | refine r_neS ?_ | refine r_abs ?_ | refine r_max2 ?_ | refine r_min2 ?_ | refine r_yes ?_ | refine r_tup ?_ | refine r_sfld ?_ | refine r_m0 ?_ | refine r_m1 ?_ | refine r_lst ?_ | refine r_rng1 ?_ | refine r_rng2 ?_ | refine r_ixL (SqL.of (by assumption)) rfl ?_)
local macro_rules | `(tactic| walk_at "r") => `(tactic| repeat (first | walk_at "r1" | ((with_reducible refine r_var ?hv ?_); (case hv => rfl))))

local macro_rules | `(tactic| walk_at "r1") => `(tactic| with_reducible first | refine r_clS ?_ | refine r_fnS rfl rfl ?_ | refine r_mtS ?_ | refine r_mkO ?_ | refine r_par ?_)
theorem ints_dp {K : PySem.W.Frag} {H : Hp} : ∀ zs : List Int, DpAll K H (zs.map V.int) (zs.map PyData.int)
  | [] => .nil
  | z :: zs => .cons (.int z) (ints_dp zs)
def tupD (r : List Int) : PyData := .tuple (r.map PyData.int)
theorem tup_dp {K : PySem.W.Frag} {H : Hp} {t : Addr} {r : List Int} (h : H t = some (.tup (r.map V.int))) : Dp K H (.ref t) (tupD r) := .tup (SqT.of h) (ints_dp r)
theorem lst_dp {K : PySem.W.Frag} {H : Hp} {t : Addr} {r : List Int} (h : H t = some (.lst (r.map V.int))) : Dp K H (.ref t) (.list (r.map PyData.int)) := .lst (SqL.of h) (ints_dp r)
theorem ints_eqv : ∀ a b : List Int, PyData.eqvAll (a.map PyData.int) (b.map PyData.int) = decide (a = b)
  | [], [] => by simp [PyData.eqvAll]
  | [], b :: bs => by simp [PyData.eqvAll]
  | a :: as, [] => by simp [PyData.eqvAll]
  | a :: as, b :: bs => by
    have ih := ints_eqv as bs
    simp only [List.map_cons, PyData.eqvAll, PyData.eqv, ih]
    by_cases h : a = b
    · subst h
      simp
    · simp [h]
theorem tup_eqv (a b : List Int) : PyData.eqv (tupD a) (tupD b) = decide (a = b) := by
  simp only [tupD, PyData.eqv]
  exact ints_eqv a b
theorem lst_eqv (a b : List Int) : PyData.eqv (.list (a.map PyData.int)) (.list (b.map PyData.int)) = decide (a = b) := by
  simp only [PyData.eqv]
  exact ints_eqv a b
theorem ints_lay : ∀ a : List Int, PyData.canLayAll0 (a.map PyData.int) = true
  | [] => by simp [PyData.canLayAll0]
  | a :: as => by simp [PyData.canLayAll0, PyData.canLay0, ints_lay as]
theorem ints_depth : ∀ a : List Int, PyData.depthAll (a.map PyData.int) = 0
  | [] => by simp [PyData.depthAll]
  | a :: as => by simp [PyData.depthAll, PyData.depth, ints_depth as]
theorem tup_shaped (a : List Int) : SeqAt.shaped (tupD a) = true := by
  simp [SeqAt.shaped, tupD, PyData.canLay0, PyData.depth, ints_lay, ints_depth]
theorem lst_shaped (a : List Int) : SeqAt.shaped (.list (a.map PyData.int)) = true := by
  simp [SeqAt.shaped, PyData.canLay0, PyData.depth, ints_lay, ints_depth]
/-! ## pairs: a top and a bottom or None -/
def pvO : Option Int → V
  | none => .non
  | some b => .int b
def PairAt (H : Hp) (t : Addr) (a : Int) (ob : Option Int) : Prop := H t = some (.tup [.int a, pvO ob])
def wT (a : Int) (ob : Option Int) : Int := lowT a (ob.getD 1)
def wB (a : Int) (ob : Option Int) : Int := lowB a (ob.getD 1)
/-- a pair of which a number is made -/
def Good (a : Int) (ob : Option Int) : Prop := a.natAbs < 2 ^ 100 ∧ ∀ b, ob = some b → b ≠ 0 ∧ b.natAbs < 2 ^ 100
theorem Good.bot {a : Int} {ob : Option Int} (h : Good a ob) : ob.getD 1 ≠ 0 ∧ (ob.getD 1).natAbs < 2 ^ 100 := by
  cases ob with
  | none => exact ⟨by decide, by decide⟩
  | some b => exact h.2 b rfl
theorem Good.sm {a : Int} {ob : Option Int} (h : Good a ob) : Sm (wT a ob) ∧ Sm (wB a ob) ∧ Low (wT a ob) (wB a ob) ∧ (wT a ob).natAbs < 2 ^ 100 ∧ (wB a ob).natAbs < 2 ^ 100 := by
  obtain ⟨b0, bs⟩ := h.bot
  have h1 : (wT a ob).natAbs < 2 ^ 100 := Nat.lt_of_le_of_lt (lowT_le b0) h.1
  have h2 : (wB a ob).natAbs < 2 ^ 100 := Nat.lt_of_le_of_lt (lowB_le b0) bs
  have h3 : (2 : Nat) ^ 100 < 2 ^ 1500 := by decide +kernel
  exact ⟨Nat.lt_trans h1 h3, Nat.lt_trans h2 h3, low_low b0, h1, h2⟩
def spMade (C : Addr) : Sp := fun vs H Q _ => ∃ t a ob, vs = [.ref t] ∧ PairAt H t a ob ∧ Good a ob ∧ ∀ H' v, Same H H' → ((∃ p, ob ≠ none ∧ v = .ref p ∧ RatAt C H' p (wT a ob) (wB a ob)) ∨ (ob = none ∧ v = .int a)) → Q v H'
def spWorth : Sp := fun vs H Q _ => ∃ t a ob, vs = [.ref t] ∧ PairAt H t a ob ∧ Good a ob ∧ ∀ t' H', Same H H' → H' t' = some (.tup [.int (wT a ob), .int (wB a ob)]) → Q (.ref t') H'
def spIs (C : Addr) : Sp := fun vs H Q _ => ∃ p t n d, vs = [.ref p, .ref t] ∧ RatAt C H p n d ∧ H t = some (.tup [.int n, .int d]) ∧ ∀ H', Same H H' → Q (.bl true) H'
def spSays : Sp := fun vs H Q _ => ∃ b, vs = [.bl b, .bl b] ∧ Q (.bl true) H
def spLine : Sp := fun vs H Q _ => ∃ t n d, vs = [.ref t] ∧ H t = some (.tup [.int n, .int d]) ∧ Sm n ∧ Sm d ∧ Q (.str (lineR n d)) H
section
variable {P : Program} {w : World} {K : PySem.W.Frag} {mg : Str → Option Value} {base : Heap} {C Ce cz : Addr}
theorem ok_made {f : Addr} {fd : FuncData} (F : Fun K "_law_made" "_law_made" s__law_made f fd) (k_Ratio : MakX P w K mg base 3 "Ratio" C 2 [] byPlace (spRatI C Ce cz K)) : FnG P w K mg base CX0 5 f fd ["pair"] (spMade C) := by
  refine okG F sc__law_made (fun vs H Q E h => ?_) (fun cdv B up z H vs Q E hG hr h => ?_)
  · obtain ⟨t, a, ob, rfl, _⟩ := h
    rfl
  refine ⟨_, (pss_one (ps_ret (pe_ifExp (pt_cmpR op_isN (pe_ix (show IxR _ (rIxT K) from ix_tup) (pv 0) pe_int (fun _ _ => rfl)) pe_non (nomark _)) (pe_ix (show IxR _ (rIxT K) from ix_tup) (pv 0) pe_int (fun _ _ => rfl)) (pkX_pos k_Ratio takes0 hG hr (by decide) (by rfl) (pa_cons (pe_ix (show IxR _ (rIxT K) from ix_tup) (pv 0) pe_int (fun _ _ => rfl)) (pa_cons (pe_ix (show IxR _ (rIxT K) from ix_tup) (pv 0) pe_int (fun _ _ => rfl)) pa_nil)))))), ?_⟩
  obtain ⟨t, a, ob, rfl, ht, hg, k⟩ := h
  obtain ⟨b0, bs⟩ := hg.bot
  walk_at "r"
  refine r_ixT (SqT.of ht) rfl ?_
  walk_at "r"
  cases ob with
  | none =>
    refine ⟨rfl, ?_⟩
    walk_at "r"
    rw [decide_eq_true (show pvO none = V.non from rfl)]
    walk_at "r"
    refine r_ixT (SqT.of ht) rfl ?_
    exact k H _ (Same.refl H) (.inr ⟨rfl, rfl⟩)
  | some b =>
    refine ⟨rfl, ?_⟩
    walk_at "r"
    rw [decide_eq_false (show ¬ pvO (some b) = V.non from fun e => by cases e)]
    walk_at "r"
    refine r_ixT (SqT.of ht) rfl ?_
    walk_at "r"
    refine r_ixT (SqT.of ht) rfl ?_
    walk_at "r"
    exact r_rat b0 (Nat.lt_trans bs (by decide +kernel)) fun H5 x s5 r5 => k H5 _ s5 (.inl ⟨x, by simp, rfl, r5⟩)
theorem ok_worth {f : Addr} {fd : FuncData} (F : Fun K "_law_worth" "_law_worth" s__law_worth f fd) (d__law_low : DefD P w K mg base 2 "_law_low" 2 [] byPlace spLow) : FnG P w K mg base CX0 3 f fd ["pair"] spWorth := by
  refine okG F sc__law_worth (fun vs H Q E h => ?_) (fun cdv B up z H vs Q E hG hr h => ?_)
  · obtain ⟨t, a, ob, rfl, _⟩ := h
    rfl
  refine ⟨_, (pss_one (ps_ret (pd_pos d__law_low hG hr (by decide) (by rfl) (pa_cons (pe_ix (show IxR _ (rIxT K) from ix_tup) (pv 0) pe_int (fun _ _ => rfl)) (pa_cons (pe_ifExp (pt_cmpR op_isN (pe_ix (show IxR _ (rIxT K) from ix_tup) (pv 0) pe_int (fun _ _ => rfl)) pe_non (nomark _)) pe_int (pe_ix (show IxR _ (rIxT K) from ix_tup) (pv 0) pe_int (fun _ _ => rfl))) pa_nil))))), ?_⟩
  obtain ⟨t, a, ob, rfl, ht, hg, k⟩ := h
  obtain ⟨b0, bs⟩ := hg.bot
  walk_at "r"
  refine r_ixT (SqT.of ht) rfl ?_
  walk_at "r"
  refine r_ixT (SqT.of ht) rfl ?_
  walk_at "r"
  cases ob with
  | none =>
    refine ⟨rfl, ?_⟩
    walk_at "r"
    rw [decide_eq_true (show pvO none = V.non from rfl)]
    walk_at "r"
    exact ⟨a, 1, rfl, b0, by decide +kernel, fun t' H' s' ht' => k t' H' s' ht'⟩
  | some b =>
    refine ⟨rfl, ?_⟩
    walk_at "r"
    rw [decide_eq_false (show ¬ pvO (some b) = V.non from fun e => by cases e)]
    walk_at "r"
    refine r_ixT (SqT.of ht) rfl ?_
    walk_at "r"
    exact ⟨a, b, rfl, b0, Nat.lt_trans bs (by decide +kernel), fun t' H' s' ht' => k t' H' s' ht'⟩
theorem ok_is {f : Addr} {fd : FuncData} (F : Fun K "_law_is" "_law_is" s__law_is f fd) (Z : Zs K mg C cz) (S : Sc K C) : FnG P w K mg base CX0 1 f fd ["ratio", "pair"] (spIs C) := by
  refine okG F sc__law_is (fun vs H Q E h => ?_) (fun cdv B up z H vs Q E hG hr h => ?_)
  · obtain ⟨p, t, n, d, rfl, _⟩ := h
    rfl
  have hu : (B.deeper (PyProof.Rows.envOfC "_law_is" (defScope s__law_is) z.heap.objs.size f cdv)).units + 64 < cLine := by have := hr.un; omega
  refine ⟨_, (pss_cons (ps_if (PW.pt (pw_or (pt_not (pt_val (pe_callB call_isi (by rfl) Z.isinstance_ (by decide +kernel) (pa_cons (pv 0) (pa_cons (pe_cls (by rfl) Z.cRatio) pa_nil))))) (pw_or (pt_val (pe_callB call_isi (by rfl) Z.isinstance_ (by decide +kernel) (pa_cons (pe_fld (pv 0) rfl) (pa_cons (pe_ty "bool" (by rfl) Z.bool_ (by decide +kernel)) pa_nil)))) (pw_or1 (pt_val (pe_callB call_isi (by rfl) Z.isinstance_ (by decide +kernel) (pa_cons (pe_fld (pv 0) rfl) (pa_cons (pe_ty "bool" (by rfl) Z.bool_ (by decide +kernel)) pa_nil)))))))) (pss_one (ps_ret pe_bl)) pss_nil)
  (pss_one (ps_ret (pe_and (pe_callB call_isi (by rfl) Z.isinstance_ (by decide +kernel) (pa_cons (pe_fld (pv 0) rfl) (pa_cons (pe_ty "int" (by rfl) Z.int_ (by decide +kernel)) pa_nil))) (pe_and (pe_callB call_isi (by rfl) Z.isinstance_ (by decide +kernel) (pa_cons (pe_fld (pv 0) rfl) (pa_cons (pe_ty "int" (by rfl) Z.int_ (by decide +kernel)) pa_nil))) (pe_one (pe_cmpR (show OpR _ _ (rEqD K) from op_eqD hu) (pe_tup (pa_cons (pe_fld (pv 0) rfl) (pa_cons (pe_fld (pv 0) rfl) pa_nil))) (pv 1) (nomark _)))))))), ?_⟩
  obtain ⟨p, t, n, d, rfl, rp, ht, k⟩ := h
  obtain ⟨dx, ep⟩ := rp
  have rp : RatAt C H p n d := ⟨dx, ep⟩
  walk_at "r"
  refine r_isiO (b := true) (S.ty ep) S.kC ?_
  walk_at "r"
  refine r_fT S rp rfl ?_
  walk_at "r"
  refine r_isiB (b := false) (.base (.int n)) (by decide +kernel) ?_
  walk_at "r"
  refine r_fB S rp rfl ?_
  walk_at "r"
  refine r_isiB (b := false) (.base (.int d)) (by decide +kernel) ?_
  walk_at "r"
  refine r_fT S rp rfl ?_
  walk_at "r"
  refine r_isiB (b := true) (.base (.int n)) (by decide +kernel) ?_
  walk_at "r"
  refine r_fB S rp rfl ?_
  walk_at "r"
  refine r_isiB (b := true) (.base (.int d)) (by decide +kernel) ?_
  walk_at "r"
  refine r_fT S rp rfl ?_
  walk_at "r"
  refine r_fB S rp rfl ?_
  walk_at "r"
  refine ⟨by show 2 ≤ sizeLine; decide, fun u nu => ?_⟩
  have su := Same.upd_new (o := .tup [.int n, .int d]) nu
  walk_at "r"
  refine ⟨tupD [n, d], tupD [n, d], tup_dp (r := [n, d]) upd_same, tup_dp (r := [n, d]) (su _ _ ht), tup_shaped _, tup_shaped _, ?_⟩
  rw [tup_eqv, decide_eq_true rfl]
  exact k _ su
theorem ok_says {f : Addr} {fd : FuncData} (F : Fun K "_law_says" "_law_says" s__law_says f fd) (Z : Zs K mg C cz) : FnG P w K mg base CX0 1 f fd ["value", "due"] spSays := by
  refine okG F sc__law_says (fun vs H Q E h => ?_) (fun cdv B up z H vs Q E hG hr h => ?_)
  · obtain ⟨b, rfl, _⟩ := h
    rfl
  refine ⟨_, (pss_one (ps_ret (pe_and (pe_callB call_isi (by rfl) Z.isinstance_ (by decide +kernel) (pa_cons (pv 0) (pa_cons (pe_ty "bool" (by rfl) Z.bool_ (by decide +kernel)) pa_nil))) (pe_one (pe_cmpR op_eq (pv 0) (pv 1) (nomark _)))))), ?_⟩
  obtain ⟨b, rfl, k⟩ := h
  walk_at "r"
  refine r_isiB (b := true) (.base (.bl b)) (by decide +kernel) ?_
  walk_at "r"
  rw [decide_eq_true rfl]
  exact k
theorem ok_line {f : Addr} {fd : FuncData} (F : Fun K "_law_line" "_law_line" s__law_line f fd) (Z : Zs K mg C cz) : FnG P w K mg base CX0 1 f fd ["pair"] spLine := by
  refine okG F sc__law_line (fun vs H Q E h => ?_) (fun cdv B up z H vs Q E hG hr h => ?_)
  · obtain ⟨t, n, d, rfl, _⟩ := h
    rfl
  refine ⟨_, (pss_one (ps_ret (pe_ifExp (pt_cmpR op_eq (pe_ix (show IxR _ (rIxT K) from ix_tup) (pv 0) pe_int (fun _ _ => rfl)) pe_int (nomark _)) (pe_callTy c_str (by rfl) Z.str_ (by decide +kernel) (pa_cons (pe_ix (show IxR _ (rIxT K) from ix_tup) (pv 0) pe_int (fun _ _ => rfl)) pa_nil)) (pe_op op_add_str (pe_op op_add_str (pe_callTy c_str (by rfl) Z.str_ (by decide +kernel) (pa_cons (pe_ix (show IxR _ (rIxT K) from ix_tup) (pv 0) pe_int (fun _ _ => rfl)) pa_nil)) pe_str) (pe_callTy c_str (by rfl) Z.str_ (by decide +kernel) (pa_cons (pe_ix (show IxR _ (rIxT K) from ix_tup) (pv 0) pe_int (fun _ _ => rfl)) pa_nil)))))), ?_⟩
  obtain ⟨t, n, d, rfl, ht, hn, hd, k⟩ := h
  have ln : n.natAbs.log2 < 1920 := Nat.lt_trans (log2_of hn (by decide)) (by decide)
  have ld : d.natAbs.log2 < 1920 := Nat.lt_trans (log2_of hd (by decide)) (by decide)
  have l1 : (numS n).length ≤ 1921 := PyProof.Rows.int_text_len_1921 ln
  have l2 : (numS d).length ≤ 1921 := PyProof.Rows.int_text_len_1921 ld
  walk_at "r"
  refine r_ixT (SqT.of ht) rfl ?_
  walk_at "r"
  by_cases c : d = 1
  · rw [decide_eq_true (show V.int d = V.int 1 by rw [c])]
    walk_at "r"
    refine r_ixT (SqT.of ht) rfl ?_
    walk_at "r"
    refine r_strI ln ?_
    unfold lineR at k
    rw [if_pos c] at k
    exact k
  · rw [decide_eq_false (show ¬ V.int d = V.int 1 from fun e => c (V.int.inj e))]
    walk_at "r"
    refine r_ixT (SqT.of ht) rfl ?_
    walk_at "r"
    refine r_strI ln ?_
    walk_at "r"
    refine ⟨_, _, rfl, rfl, by rw [sizeLine_eq]; show (numS n).length + 1 ≤ _; omega, ?_⟩
    walk_at "r"
    refine r_ixT (SqT.of ht) rfl ?_
    walk_at "r"
    refine r_strI ld ?_
    walk_at "r"
    refine ⟨_, _, rfl, rfl, by rw [app_len, sizeLine_eq]; show (numS n).length + 1 + (numS d).length ≤ _; omega, ?_⟩
    unfold lineR at k
    rw [if_neg c] at k
    exact k
end
end Eld
set_option Elab.async false
set_option maxRecDepth 100000
set_option maxHeartbeats 4000000
set_option linter.all false
namespace Eld
open PySem L2
local macro_rules | `(tactic| walk_at "r1") => `(tactic| with_reducible first
  | refine r_seq ?_ | refine r_asgN ?_ | refine r_asg ?_ | refine r_gname ?_ | refine r_gsub ?_ | refine r_var rfl ?_ | refine r_c ?_ | refine r_op ?_ | refine r_un ?_ | refine r_u ?_ | refine r_i0 ?_ | refine r_cb ?_ | refine r_cons ?_ | refine r_nil ?_ | refine r_cl ?_ | refine r_fn rfl rfl ?_ | refine r_mt ?_
  | refine r_test ?_ | refine r_tb ?_ | refine r_bl ?_ | refine r_and ?_ | refine r_or ?_ | refine r_not ?_ | refine r_andV ?_ | refine r_orV ?_ | refine r_notV ?_ | refine r_ifX ?_ | refine r_ifs ?_ | refine r_chain ?_ | refine r_ret ?_ | refine r_next ?_ | refine r_drop ?_ | refine iteT ?_ | refine iteF ?_ | refine iteNT ?_ | refine iteNF ?_
  | refine r_int1 ?_ | refine r_boolB ?_ | refine r_eqI ?_ | refine r_neI ?_ | refine r_eqB ?_ | refine r_neB ?_ | refine r_eqS ?_ | refine r_neS ?_ | refine r_abs ?_ | refine r_max2 ?_ | refine r_min2 ?_ | refine r_yes ?_ | refine r_tup ?_ | refine r_sfld ?_ | refine r_m0 ?_ | refine r_m1 ?_ | refine r_lst ?_ | refine r_rng1 ?_ | refine r_rng2 ?_ | refine r_ixL (SqL.of (by assumption)) rfl ?_)
local macro_rules | `(tactic| walk_at "r") => `(tactic| repeat (first | walk_at "r1" | ((with_reducible refine r_var ?hv ?_); (case hv => rfl))))

local macro_rules | `(tactic| walk_at "r1") => `(tactic| with_reducible first | refine r_clS ?_ | refine r_fnS rfl rfl ?_ | refine r_mtS ?_ | refine r_mkO ?_ | refine r_par ?_)
/-- pairs stand at these places -/
def PairsAt (H : Hp) (ts : List Addr) (ps : List (Int × Option Int)) : Prop := ts.length = ps.length ∧ ∀ (i : Nat) (t : Addr) (q : Int × Option Int), ts[i]? = some t → ps[i]? = some q → PairAt H t q.1 q.2
theorem PairsAt.to {H H' : Hp} {ts : List Addr} {ps : List (Int × Option Int)} (h : PairsAt H ts ps) (s : ∀ a x, H a = some (.tup x) → H' a = some (.tup x)) : PairsAt H' ts ps := ⟨h.1, fun i t q a b => s _ _ (h.2 i t q a b)⟩
theorem PairsAt.push {H : Hp} {ts : List Addr} {ps : List (Int × Option Int)} {t : Addr} {a : Int} {ob : Option Int} (h : PairsAt H ts ps) (e : PairAt H t a ob) : PairsAt H (ts ++ [t]) (ps ++ [(a, ob)]) := by
  refine ⟨by simp [h.1], fun i u q x y => ?_⟩
  by_cases c : i < ts.length
  · rw [List.getElem?_append_left c] at x
    rw [List.getElem?_append_left (h.1 ▸ c)] at y
    exact h.2 i u q x y
  · have c1 : i = ts.length := by
      have := (List.getElem?_eq_some_iff.mp x).1
      simp at this
      omega
    subst c1
    simp at x
    rw [h.1] at y
    simp at y
    subst x y
    exact e
def pdO : Option Int → PyData
  | none => .none
  | some b => .int b
def pairD (q : Int × Option Int) : PyData := .tuple [.int q.1, pdO q.2]
theorem pair_dp {K : PySem.W.Frag} {H : Hp} {t : Addr} {a : Int} {ob : Option Int} (h : PairAt H t a ob) : Dp K H (.ref t) (pairD (a, ob)) := by
  refine .tup (SqT.of h) (.cons (.int a) (.cons ?_ .nil))
  cases ob with
  | none => exact .non
  | some b => exact .int b
theorem pairs_dp {K : PySem.W.Frag} {H : Hp} : ∀ {ts : List Addr} {ps : List (Int × Option Int)}, PairsAt H ts ps → DpAll K H (ts.map V.ref) (ps.map pairD)
  | [], [], _ => .nil
  | [], _ :: _, h => absurd h.1 (by simp)
  | _ :: _, [], h => absurd h.1 (by simp)
  | t :: ts, (a, ob) :: ps, h => .cons (pair_dp (h.2 0 t (a, ob) rfl rfl)) (pairs_dp ⟨by simpa using h.1, fun i u q x y => h.2 (i + 1) u q (by simpa using x) (by simpa using y)⟩)
theorem pairs_lay : ∀ ps : List (Int × Option Int), PyData.canLayAll0 (ps.map pairD) = true
  | [] => by simp [PyData.canLayAll0]
  | (a, none) :: ps => by simp [PyData.canLayAll0, pairD, pdO, PyData.canLay0, pairs_lay ps]
  | (a, some b) :: ps => by simp [PyData.canLayAll0, pairD, pdO, PyData.canLay0, pairs_lay ps]
theorem pairs_depth : ∀ ps : List (Int × Option Int), PyData.depthAll (ps.map pairD) ≤ 1
  | [] => by simp [PyData.depthAll]
  | (a, none) :: ps => by
    have := pairs_depth ps
    simp only [List.map_cons, PyData.depthAll, pairD, pdO, PyData.depth]
    omega
  | (a, some b) :: ps => by
    have := pairs_depth ps
    simp only [List.map_cons, PyData.depthAll, pairD, pdO, PyData.depth]
    omega
theorem pairs_shaped (ps : List (Int × Option Int)) : SeqAt.shaped (.list (ps.map pairD)) = true := by
  have h := pairs_depth ps
  have h2 : PyData.depth (.list (ps.map pairD)) ≤ 64 := by
    simp only [PyData.depth]
    omega
  simp only [SeqAt.shaped, PyData.canLay0, pairs_lay, Bool.true_and, decide_eq_true_eq]
  exact h2
/-- the size of what is drawn behind i turns -/
def Sz (i : Nat) (q : Int × Option Int) : Prop := q.1.natAbs < 2 ^ (90 + 2 * i) ∧ ∀ b, q.2 = some b → b ≠ 0 ∧ b.natAbs < 2 ^ (90 + 2 * i)
theorem Sz.mono {i j : Nat} {q : Int × Option Int} (h : Sz i q) (l : i ≤ j) : Sz j q := by
  have p : (2 : Nat) ^ (90 + 2 * i) ≤ 2 ^ (90 + 2 * j) := Nat.pow_le_pow_right (by decide) (by omega)
  exact ⟨Nat.lt_of_lt_of_le h.1 p, fun b e => ⟨(h.2 b e).1, Nat.lt_of_lt_of_le (h.2 b e).2 p⟩⟩
def spNumbers : Sp := fun vs H Q _ => ∃ (b : Addr) (n : Nat), vs = [.ref b] ∧ BoxAt H b n ∧ n < 2000000 ∧ ∀ D ts ps H', ts.length = 4 → H' D = some (.lst (ts.map V.ref)) → PairsAt H' ts ps → (∀ q ∈ ps, Good q.1 q.2) → BoxAt H' b (n + 120) → But b H H' → Q (.ref D) H'
section
variable {P : Program} {w : World} {K : PySem.W.Frag} {mg : Str → Option Value} {base : Heap} {C Ce cz : Addr}
theorem ok_numbers {f : Addr} {fd : FuncData} (F : Fun K "_law_numbers" "_law_numbers" s__law_numbers f fd) (Z : Zs K mg C cz) (d__law_take : DefD P w K mg base 1 "_law_take" 2 [] byPlace spTake) (d__law_top : DefD P w K mg base 2 "_law_top" 1 [] byPlace spTop) (d__law_bottom : DefD P w K mg base 3 "_law_bottom" 1 [] byPlace spBot) : FnG P w K mg base CX0 4 f fd ["box"] spNumbers := by
  refine okG F sc__law_numbers (fun vs H Q E h => ?_) (fun cdv B up z H vs Q E hG hr h => ?_)
  · obtain ⟨b, n, rfl, _⟩ := h
    rfl
  have hu : (B.deeper (PyProof.Rows.envOfC "_law_numbers" (defScope s__law_numbers) z.heap.objs.size f cdv)).units + 64 < cLine := by have := hr.un; omega
  refine ⟨_, (pss_cons (ps_set (i := 1) sc__law_numbers.nd rfl (by first | exact Or.inl rfl | exact Or.inr rfl) (pe_lst pa_nil))
  (pss_cons (ps_for PassesOwn.never rfl (pi_range1 (by rfl) Z.range_ (pa_cons pe_int pa_nil)) (pg_name (i := 2) sc__law_numbers.nd rfl (by first | exact Or.inl rfl | exact Or.inr rfl))
  (pss_cons (ps_set (i := 3) sc__law_numbers.nd rfl (by first | exact Or.inl rfl | exact Or.inr rfl) (pd_pos d__law_take hG hr (by decide) (by rfl) (pa_cons (pv 0) (pa_cons pe_int pa_nil))))
  (pss_one (ps_if (pt_cmpR op_eq (pv 3) pe_int (nomark _)) (pss_one (ps_expr (pe_bm PySem.F.plainAttrs_list PySem.F.slot_list_append PySem.F.type_list_append mt_append (pv 1) (pa_cons (pe_tup (pa_cons (pd_pos d__law_top hG hr (by decide) (by rfl) (pa_cons (pv 0) pa_nil)) (pa_cons pe_non pa_nil))) pa_nil)))) (pss_one (ps_if (PW.pt (pw_and (pt_cmpR op_eq (pv 3) pe_int (nomark _)) (pw_and1 (pt_cmpR (show OpR _ _ (rNeD K) from op_neD hu) (pv 1) (pe_lst pa_nil) (nomark _))))) (pss_cons (ps_asg (pe_ix (show IxR _ (rIxL K) from ix_list) (pv 1) (pd_pos d__law_take hG hr (by decide) (by rfl) (pa_cons (pv 0) (pa_cons (pe_callB (show CallR _ _ (rLen K) from c_len) (by rfl) Z.len_ (by decide +kernel) (pa_cons (pv 1) pa_nil)) pa_nil))) (fun _ _ => rfl)) (by (refine (show PG _ _ (gTup K 2 (gCons (gName 5) (gCons (gName 6) gNil))) from ?_); refine pg_tup rfl (pgs_cons ?_ (pgs_cons ?_ pgs_nil)); exact (pg_name (i := 5) sc__law_numbers.nd rfl (by first | exact Or.inl rfl | exact Or.inr rfl)); exact (pg_name (i := 6) sc__law_numbers.nd rfl (by first | exact Or.inl rfl | exact Or.inr rfl)))))
  (pss_cons (ps_set (i := 4) sc__law_numbers.nd rfl (by first | exact Or.inl rfl | exact Or.inr rfl) (pe_ix (show IxR _ (rIxL K) from ix_list) (pe_lst (pa_cons pe_int (pa_cons (pe_un un_neg pe_int) (pa_cons (pe_un un_neg pe_int) (pa_cons pe_int pa_nil))))) (pd_pos d__law_take hG hr (by decide) (by rfl) (pa_cons (pv 0) (pa_cons pe_int pa_nil))) (fun _ _ => rfl)))
  (pss_one (ps_expr (pe_bm PySem.F.plainAttrs_list PySem.F.slot_list_append PySem.F.type_list_append mt_append (pv 1) (pa_cons (pe_tup (pa_cons (pe_op op_mulW (pv 5) (pv 4)) (pa_cons (pe_op op_mulW (pe_ifExp (pt_cmpR op_isN (pv 6) pe_non (nomark _)) pe_int (pv 6)) (pv 4)) pa_nil))) pa_nil)))))) (pss_one (ps_expr (pe_bm PySem.F.plainAttrs_list PySem.F.slot_list_append PySem.F.type_list_append mt_append (pv 1) (pa_cons (pe_tup (pa_cons (pd_pos d__law_top hG hr (by decide) (by rfl) (pa_cons (pv 0) pa_nil)) (pa_cons (pd_pos d__law_bottom hG hr (by decide) (by rfl) (pa_cons (pv 0) pa_nil)) pa_nil))) pa_nil))))))))))
  (pss_one (ps_ret (pv 1))))), ?_⟩
  obtain ⟨b, n, rfl, hb, hn, k⟩ := h
  walk_at "r"
  refine ⟨by show 0 ≤ sizeLine; decide, fun D nD => ?_⟩
  have sD := Same.upd_new (o := .lst []) nD
  have gD : (upd H D (.lst [])) D = some (.lst []) := upd_same
  generalize upd H D (.lst []) = H1 at sD gD ⊢
  have nDb : D ≠ b := by
    rintro rfl
    obtain ⟨_, _, _, _, e, _⟩ := hb
    rw [nD] at e
    cases e
  walk_at "r"
  with_reducible refine r_for ?_
  walk_at "r"
  refine ⟨_, rfl, by decide, by decide, ?_⟩
  refine for_range (fun i τ T => ∃ (v2 v3 v4 v5 v6 : Option V) (ts : List Addr) (ps : List (Int × Option Int)), τ = [some (.ref b), some (.ref D), v2, v3, v4, v5, v6] ∧ ts.length = i ∧ T D = some (.lst (ts.map V.ref)) ∧ PairsAt T ts ps ∧ (∀ q ∈ ps, Sz i q) ∧ BoxAt T b (n + 30 * i) ∧ ∀ a o, a ≠ b → a ≠ D → H1 a = some o → T a = some o)
    ⟨none, none, none, none, none, [], [], rfl, rfl, gD, ⟨rfl, fun i t q e => by simp at e⟩, (fun q m => by cases m), hb.same sD, fun a o _ _ e => e⟩ ?_ ?_
  · rintro i τ T hi ⟨v2, v3, v4, v5, v6, ts, ps, rfl, hl, dT, pT, zT, bT, oT⟩
    have i4 : i < 4 := hi
    have lp : ps.length = i := pT.1 ▸ hl
    walk_at "r"
    refine ⟨b, _, _, rfl, bT, by omega, by decide, by decide, fun wy T1 w0 w1 b1 t1 => ?_⟩
    have d1 := t1 _ _ nDb dT
    have p1 : PairsAt T1 ts ps := pT.to fun a x e => t1 _ _ (by rintro rfl; obtain ⟨_, _, _, _, e', _⟩ := bT; rw [e] at e'; cases e') e
    have o1 : ∀ a o, a ≠ b → a ≠ D → H1 a = some o → T1 a = some o := fun a o x y e => t1 _ _ x (oT a o x y e)
    walk_at "r"
    have fin : ∀ (T4 : Hp) (t : Addr) (a : Int) (ob : Option Int) (v2 v3 v4 v5 v6 : Option V), T4 D = some (.lst (ts.map V.ref)) → PairsAt T4 ts ps → PairAt T4 t a ob → Sz (i + 1) (a, ob) → BoxAt T4 b (n + 30 * (i + 1)) → (∀ a o, a ≠ b → a ≠ D → H1 a = some o → T4 a = some o) →
        ∃ (v2' v3' v4' v5' v6' : Option V) (ts' : List Addr) (ps' : List (Int × Option Int)), [some (V.ref b), some (.ref D), v2, v3, v4, v5, v6] = [some (.ref b), some (.ref D), v2', v3', v4', v5', v6'] ∧ ts'.length = i + 1 ∧ (upd T4 D (.lst (ts.map V.ref ++ [.ref t]))) D = some (.lst (ts'.map V.ref)) ∧
          PairsAt (upd T4 D (.lst (ts.map V.ref ++ [.ref t]))) ts' ps' ∧ (∀ q ∈ ps', Sz (i + 1) q) ∧ BoxAt (upd T4 D (.lst (ts.map V.ref ++ [.ref t]))) b (n + 30 * (i + 1)) ∧ ∀ a o, a ≠ b → a ≠ D → H1 a = some o → (upd T4 D (.lst (ts.map V.ref ++ [.ref t]))) a = some o := by
      intro T4 t a ob v2 v3 v4 v5 v6 hd hp ha hs hb4 ho
      have keep : ∀ (c : Addr) (o : HO), c ≠ D → T4 c = some o → (upd T4 D (.lst (ts.map V.ref ++ [.ref t]))) c = some o := fun c o ne e => by rw [upd_ne ne]; exact e
      refine ⟨_, _, _, _, _, ts ++ [t], ps ++ [(a, ob)], rfl, by rw [List.length_append, hl]; rfl, by rw [upd_same, List.map_append]; rfl, (hp.push ha).to fun c x e => keep _ _ (ne_of e hd (by intro z; cases z)) e, fun q m => ?_, ?_, fun c o x y e => keep _ _ y (ho c o x y e)⟩
      · rcases List.mem_append.mp m with m | m
        · exact (zT q m).mono (by omega)
        · obtain rfl := List.mem_singleton.mp m
          exact hs
      · obtain ⟨g, m, c, t', e, r⟩ := hb4
        exact ⟨g, m, c, t', keep _ _ (Ne.symm nDb) e, r⟩
    by_cases c0 : wy = 0
    · rw [decide_eq_true (show V.int wy = V.int 0 by rw [c0])]
      walk_at "r"
      refine ⟨_, rfl, .inl ⟨rfl, _, SqL.of d1⟩, ?_⟩
      walk_at "r"
      refine ⟨b, _, rfl, b1, by omega, fun x T2 dx b2 t2 => ?_⟩
      have d2 := t2 _ _ nDb d1
      have p2 : PairsAt T2 ts ps := p1.to fun a x e => t2 _ _ (by rintro rfl; obtain ⟨_, _, _, _, e', _⟩ := b1; rw [e] at e'; cases e') e
      have o2 : ∀ a o, a ≠ b → a ≠ D → H1 a = some o → T2 a = some o := fun a o x y e => t2 _ _ x (o1 a o x y e)
      walk_at "r"
      refine ⟨by show 2 ≤ sizeLine; decide, fun u nu => ?_⟩
      have su := Same.upd_new (o := .tup [.int x, .non]) nu
      have gu : (upd T2 u (.tup [.int x, .non])) u = some (.tup [.int x, .non]) := upd_same
      generalize upd T2 u (.tup [.int x, .non]) = T9 at su gu ⊢
      refine ⟨D, _, .ref u, rfl, rfl, su _ _ d2, by rw [List.length_map, sizeLine_eq]; omega, ?_⟩
      walk_at "r"
      exact fin T9 u x none _ _ _ _ _ (su _ _ d2) (p2.to fun a x e => su _ _ e) gu ⟨Nat.lt_of_lt_of_le dx (Nat.pow_le_pow_right (by decide) (by omega)), fun b e => by cases e⟩ ((b2.mono (by omega)).same su) (fun a o x y e => su _ _ (o2 a o x y e))
    rw [decide_eq_false (show ¬ V.int wy = V.int 0 from fun e => c0 (V.int.inj e))]
    walk_at "r"
    by_cases c1 : wy = 1 ∧ i ≠ 0
    · obtain ⟨c1, i0⟩ := c1
      rw [decide_eq_true (show V.int wy = V.int 1 by rw [c1])]
      walk_at "r"
      refine ⟨by show 0 ≤ sizeLine; decide, fun e0 ne0 => ?_⟩
      have s2 := Same.upd_new (o := .lst []) ne0
      have g2 : (upd T1 e0 (.lst [])) e0 = some (.lst []) := upd_same
      generalize upd T1 e0 (.lst []) = T2 at s2 g2 ⊢
      have d2 := s2 _ _ d1
      have p2 : PairsAt T2 ts ps := p1.to fun a x e => s2 _ _ e
      have o2 : ∀ a o, a ≠ b → a ≠ D → H1 a = some o → T2 a = some o := fun a o x y e => s2 _ _ (o1 a o x y e)
      have b2 := b1.same s2
      refine ⟨.list (ps.map pairD), .list [], .lst (SqL.of d2) (pairs_dp p2), .lst (SqL.of g2) .nil, pairs_shaped _, by decide +kernel, ?_⟩
      have ne : (!PyData.eqv (.list (ps.map pairD)) (.list [])) = true := by
        cases ps with
        | nil => simp at lp; omega
        | cons q qs => simp [PyData.eqv, PyData.eqvAll]
      rw [ne]
      walk_at "r"
      refine r_lenL (SqL.of d2) ?_
      rw [List.length_map, hl]
      walk_at "r"
      refine ⟨b, _, _, rfl, b2, by omega, by omega, by omega, fun r T3 r0 r1 b3 t3 => ?_⟩
      have d3 := t3 _ _ nDb d2
      have p3 : PairsAt T3 ts ps := p2.to fun a x e => t3 _ _ (by rintro rfl; obtain ⟨_, _, _, _, e', _⟩ := b2; rw [e] at e'; cases e') e
      have o3 : ∀ a o, a ≠ b → a ≠ D → H1 a = some o → T3 a = some o := fun a o x y e => t3 _ _ x (o2 a o x y e)
      obtain ⟨r, rfl⟩ := Int.eq_ofNat_of_zero_le r0
      have rl : r < ts.length := by omega
      have rq : r < ps.length := by omega
      have tr : ts[r]? = some ts[r] := List.getElem?_eq_getElem rl
      have qr : ps[r]? = some ps[r] := List.getElem?_eq_getElem rq
      have pr := p3.2 r _ _ tr qr
      have zr := zT _ (List.getElem_mem rq)
      generalize ps[r] = q at qr pr zr
      obtain ⟨a, ob⟩ := q
      refine r_ixL (SqL.of d3) (atI_nat (v := .ref ts[r]) (by rw [List.getElem?_map, tr]; rfl)) ?_
      walk_at "r"
      refine ⟨_, _, rfl, SqT.of pr, rfl, _, _, rfl, ?_⟩
      walk_at "r"
      refine ⟨_, _, rfl, ?_⟩
      walk_at "r"
      refine ⟨rfl, ?_⟩
      walk_at "r"
      refine ⟨by show 4 ≤ sizeLine; decide, fun y ny => ?_⟩
      have s4 := Same.upd_new (o := .lst [.int 2, .int (-1), .int (-3), .int 1]) ny
      have g4 : (upd T3 y (.lst [.int 2, .int (-1), .int (-3), .int 1])) y = some (.lst [.int 2, .int (-1), .int (-3), .int 1]) := upd_same
      generalize upd T3 y (.lst [.int 2, .int (-1), .int (-3), .int 1]) = T4 at s4 g4 ⊢
      have d4 := s4 _ _ d3
      have p4 : PairsAt T4 ts ps := p3.to fun a x e => s4 _ _ e
      have o4 : ∀ a o, a ≠ b → a ≠ D → H1 a = some o → T4 a = some o := fun a o x y e => s4 _ _ (o3 a o x y e)
      have b4 := b3.same s4
      walk_at "r"
      refine ⟨b, _, _, rfl, b4, by omega, by decide, by decide, fun r5 T5 r50 r51 b5 t5 => ?_⟩
      have d5 := t5 _ _ nDb d4
      have p5 : PairsAt T5 ts ps := p4.to fun a x e => t5 _ _ (by rintro rfl; obtain ⟨_, _, _, _, e', _⟩ := b4; rw [e] at e'; cases e') e
      have o5 : ∀ a o, a ≠ b → a ≠ D → H1 a = some o → T5 a = some o := fun a o x y e => t5 _ _ x (o4 a o x y e)
      have g5 := t5 _ _ (b4.ne g4 (by intro _ _ _ _ e; cases e)) g4
      obtain ⟨r5, rfl⟩ := Int.eq_ofNat_of_zero_le r50
      have pick : ∃ m : Int, ([.int 2, .int (-1), .int (-3), .int 1] : List V)[r5]? = some (.int m) ∧ m ≠ 0 ∧ m.natAbs < 2 ^ 2 := by
        obtain rfl | rfl | rfl | rfl : r5 = 0 ∨ r5 = 1 ∨ r5 = 2 ∨ r5 = 3 := by omega
        · exact ⟨_, rfl, by decide, by decide⟩
        · exact ⟨_, rfl, by decide, by decide⟩
        · exact ⟨_, rfl, by decide, by decide⟩
        · exact ⟨_, rfl, by decide, by decide⟩
      obtain ⟨m, pm, m0, m4⟩ := pick
      refine r_ixL (SqL.of g5) (atI_nat pm) ?_
      walk_at "r"
      refine ⟨_, rfl, .inl ⟨rfl, _, SqL.of d5⟩, ?_⟩
      walk_at "r"
      have sz1 : (a * m).natAbs < 2 ^ (90 + 2 * (i + 1)) := by
        have := wide_lt zr.1 m4
        rw [show 90 + 2 * (i + 1) = 90 + 2 * i + 2 by omega]
        exact this
      refine r_i (wide_mul zr.1 m4 (by omega) (by decide) (by omega)) ?_
      walk_at "r"
      have zb : ob.getD 1 ≠ 0 ∧ (ob.getD 1).natAbs < 2 ^ (90 + 2 * i) := by
        cases ob with
        | none => exact ⟨by decide, Nat.one_lt_two_pow (by omega)⟩
        | some b' => exact zr.2 b' rfl
      have sz2 : (ob.getD 1 * m).natAbs < 2 ^ (90 + 2 * (i + 1)) := by
        have := wide_lt zb.2 m4
        rw [show 90 + 2 * (i + 1) = 90 + 2 * i + 2 by omega]
        exact this
      refine ⟨rfl, ?_⟩
      walk_at "r"
      refine if_both (fun Q => Q (.int (ob.getD 1)) T5) (fun c Q q => ?_) (fun c Q q => ?_) ?_
      · cases ob with
        | none =>
          walk_at "r"
          exact q
        | some b' => exact absurd (of_decide_eq_true c) (fun e => by cases e)
      · cases ob with
        | none => exact absurd rfl (of_decide_eq_false c)
        | some b' =>
          walk_at "r"
          exact q
      walk_at "r"
      refine r_i (wide_mul zb.2 m4 (by omega) (by decide) (by omega)) ?_
      walk_at "r"
      refine ⟨by show 2 ≤ sizeLine; decide, fun u nu => ?_⟩
      have su := Same.upd_new (o := .tup [.int (a * m), .int (ob.getD 1 * m)]) nu
      have gu : (upd T5 u (.tup [.int (a * m), .int (ob.getD 1 * m)])) u = some (.tup [.int (a * m), .int (ob.getD 1 * m)]) := upd_same
      generalize upd T5 u (.tup [.int (a * m), .int (ob.getD 1 * m)]) = T9 at su gu ⊢
      refine ⟨D, _, .ref u, rfl, rfl, su _ _ d5, by rw [List.length_map, sizeLine_eq]; omega, ?_⟩
      walk_at "r"
      exact fin T9 u (a * m) (some (ob.getD 1 * m)) _ _ _ _ _ (su _ _ d5) (p5.to fun a x e => su _ _ e) gu ⟨sz1, fun b' e => by cases e; exact ⟨Int.mul_ne_zero zb.1 m0, sz2⟩⟩ ((b5.mono (by omega)).same su) (fun a o x y e => su _ _ (o5 a o x y e))
    · by_cases c2 : wy = 1
      · have i0 : i = 0 := Classical.byContradiction fun h => c1 ⟨c2, h⟩
        rw [decide_eq_true (show V.int wy = V.int 1 by rw [c2])]
        walk_at "r"
        refine ⟨by show 0 ≤ sizeLine; decide, fun e0 ne0 => ?_⟩
        have s2 := Same.upd_new (o := .lst []) ne0
        have g2 : (upd T1 e0 (.lst [])) e0 = some (.lst []) := upd_same
        generalize upd T1 e0 (.lst []) = T2 at s2 g2 ⊢
        have d2 := s2 _ _ d1
        have p2 : PairsAt T2 ts ps := p1.to fun a x e => s2 _ _ e
        have o2 : ∀ a o, a ≠ b → a ≠ D → H1 a = some o → T2 a = some o := fun a o x y e => s2 _ _ (o1 a o x y e)
        have b2 := b1.same s2
        refine ⟨.list (ps.map pairD), .list [], .lst (SqL.of d2) (pairs_dp p2), .lst (SqL.of g2) .nil, pairs_shaped _, by decide +kernel, ?_⟩
        have ne : (!PyData.eqv (.list (ps.map pairD)) (.list [])) = false := by
          cases ps with
          | nil => simp [PyData.eqv, PyData.eqvAll]
          | cons q qs => simp at lp; omega
        rw [ne]
        walk_at "r"
        refine ⟨_, rfl, .inl ⟨rfl, _, SqL.of d2⟩, ?_⟩
        walk_at "r"
        refine ⟨b, _, rfl, b2, by omega, fun x T3 dx b3 t3 => ?_⟩
        have d3 := t3 _ _ nDb d2
        have p3 : PairsAt T3 ts ps := p2.to fun a x e => t3 _ _ (by rintro rfl; obtain ⟨_, _, _, _, e', _⟩ := b2; rw [e] at e'; cases e') e
        have o3 : ∀ a o, a ≠ b → a ≠ D → H1 a = some o → T3 a = some o := fun a o x y e => t3 _ _ x (o2 a o x y e)
        walk_at "r"
        refine ⟨b, _, rfl, b3, by omega, fun y T4 dy y0 b4 t4 => ?_⟩
        have d4 := t4 _ _ nDb d3
        have p4 : PairsAt T4 ts ps := p3.to fun a x e => t4 _ _ (by rintro rfl; obtain ⟨_, _, _, _, e', _⟩ := b3; rw [e] at e'; cases e') e
        have o4 : ∀ a o, a ≠ b → a ≠ D → H1 a = some o → T4 a = some o := fun a o x y e => t4 _ _ x (o3 a o x y e)
        walk_at "r"
        have pw : (2 : Nat) ^ 90 ≤ 2 ^ (90 + 2 * (i + 1)) := Nat.pow_le_pow_right (by decide) (by omega)
        refine ⟨by show 2 ≤ sizeLine; decide, fun u nu => ?_⟩
        have su := Same.upd_new (o := .tup [.int x, .int y]) nu
        have gu : (upd T4 u (.tup [.int x, .int y])) u = some (.tup [.int x, .int y]) := upd_same
        generalize upd T4 u (.tup [.int x, .int y]) = T9 at su gu ⊢
        refine ⟨D, _, .ref u, rfl, rfl, su _ _ d4, by rw [List.length_map, sizeLine_eq]; omega, ?_⟩
        walk_at "r"
        exact fin T9 u x (some y) _ _ _ _ _ (su _ _ d4) (p4.to fun a x e => su _ _ e) gu ⟨Nat.lt_of_lt_of_le dx pw, fun b' e => by cases e; exact ⟨y0, Nat.lt_of_lt_of_le dy pw⟩⟩ ((b4.mono (by omega)).same su) (fun a o x y e => su _ _ (o4 a o x y e))
      · rw [decide_eq_false (show ¬ V.int wy = V.int 1 from fun e => c2 (V.int.inj e))]
        walk_at "r"
        refine ⟨_, rfl, .inl ⟨rfl, _, SqL.of d1⟩, ?_⟩
        walk_at "r"
        refine ⟨b, _, rfl, b1, by omega, fun x T2 dx b2 t2 => ?_⟩
        have d2 := t2 _ _ nDb d1
        have p2 : PairsAt T2 ts ps := p1.to fun a x e => t2 _ _ (by rintro rfl; obtain ⟨_, _, _, _, e', _⟩ := b1; rw [e] at e'; cases e') e
        have o2 : ∀ a o, a ≠ b → a ≠ D → H1 a = some o → T2 a = some o := fun a o x y e => t2 _ _ x (o1 a o x y e)
        walk_at "r"
        refine ⟨b, _, rfl, b2, by omega, fun y T3 dy y0 b3 t3 => ?_⟩
        have d3 := t3 _ _ nDb d2
        have p3 : PairsAt T3 ts ps := p2.to fun a x e => t3 _ _ (by rintro rfl; obtain ⟨_, _, _, _, e', _⟩ := b2; rw [e] at e'; cases e') e
        have o3 : ∀ a o, a ≠ b → a ≠ D → H1 a = some o → T3 a = some o := fun a o x y e => t3 _ _ x (o2 a o x y e)
        walk_at "r"
        have pw : (2 : Nat) ^ 90 ≤ 2 ^ (90 + 2 * (i + 1)) := Nat.pow_le_pow_right (by decide) (by omega)
        refine ⟨by show 2 ≤ sizeLine; decide, fun u nu => ?_⟩
        have su := Same.upd_new (o := .tup [.int x, .int y]) nu
        have gu : (upd T3 u (.tup [.int x, .int y])) u = some (.tup [.int x, .int y]) := upd_same
        generalize upd T3 u (.tup [.int x, .int y]) = T9 at su gu ⊢
        refine ⟨D, _, .ref u, rfl, rfl, su _ _ d3, by rw [List.length_map, sizeLine_eq]; omega, ?_⟩
        walk_at "r"
        exact fin T9 u x (some y) _ _ _ _ _ (su _ _ d3) (p3.to fun a x e => su _ _ e) gu ⟨Nat.lt_of_lt_of_le dx pw, fun b' e => by cases e; exact ⟨y0, Nat.lt_of_lt_of_le dy pw⟩⟩ ((b3.mono (by omega)).same su) (fun a o x y e => su _ _ (o3 a o x y e))
  · rintro τ T ⟨v2, v3, v4, v5, v6, ts, ps, rfl, hl, dT, pT, zT, bT, oT⟩
    walk_at "r"
    refine k D ts ps T hl dT pT (fun q m => ?_) bT fun a o na e => oT a o na (ne_of_none e nD) (sD _ _ e)
    have z := (zT q m)
    exact ⟨Nat.lt_of_lt_of_le z.1 (by decide), fun b' e => ⟨(z.2 b' e).1, Nat.lt_of_lt_of_le (z.2 b' e).2 (by decide)⟩⟩
end
end Eld
set_option Elab.async false
set_option maxRecDepth 100000
set_option maxHeartbeats 4000000
set_option linter.all false
namespace Eld
open PySem L2
local macro_rules | `(tactic| walk_at "r1") => `(tactic| with_reducible first
  | refine r_seq ?_ | refine r_asgN ?_ | refine r_asg ?_ | refine r_gname ?_ | refine r_gsub ?_ | refine r_var rfl ?_ | refine r_c ?_ | refine r_op ?_ | refine r_un ?_ | refine r_u ?_ | refine r_i0 ?_ | refine r_cb ?_ | refine r_cons ?_ | refine r_nil ?_ | refine r_cl ?_ | refine r_fn rfl rfl ?_ | refine r_mt ?_
  | refine r_test ?_ | refine r_tb ?_ | refine r_bl ?_ | refine r_and ?_ | refine r_or ?_ | refine r_not ?_ | refine r_andV ?_ | refine r_orV ?_ | refine r_notV ?_ | refine r_ifX ?_ | refine r_ifs ?_ | refine r_chain ?_ | refine r_ret ?_ | refine r_next ?_ | refine r_drop ?_ | refine iteT ?_ | refine iteF ?_ | refine iteNT ?_ | refine iteNF ?_
  | refine r_int1 ?_ | refine r_boolB ?_ | refine r_eqI ?_ | refine r_neI ?_ | refine r_eqB ?_ | refine r_neB ?_ | refine r_eqS ?_ | refine r_neS ?_ | refine r_abs ?_ | refine r_max2 ?_ | refine r_min2 ?_ | refine r_yes ?_ | refine r_tup ?_ | refine r_sfld ?_ | refine r_m0 ?_ | refine r_m1 ?_ | refine r_lst ?_ | refine r_rng1 ?_ | refine r_rng2 ?_ | refine r_ixL (SqL.of (by assumption)) rfl ?_)
local macro_rules | `(tactic| walk_at "r") => `(tactic| repeat (first | walk_at "r1" | ((with_reducible refine r_var ?hv ?_); (case hv => rfl))))

abbrev byBoth : List V → List V → List V := fun xs ys => xs ++ ys
section
variable {X : Cx} {W : WX} {ks : List Str} {k j n : Nat} {gV : List V → List V → List V} {sp : Sp} {x m : Str} {C : Addr} {p pos apos : Pos} {e o : Expr} {kws : List Keyword} {ta : TE} {tkk : TA} {pl : Sem Bool}
theorem pqX_kw0 (d : MetX X.prog X.w X.K X.mg X.base k C m n ks gV sp) (tk : Takes X W) (hG : X.A.guards = some []) (hr : Room j X.A) (hk : k ≤ j) (ho : PE X o ta) (hkw : PK X kws tkk) (hn : n = 1) (hall : (backToKw pos (keywordEach kws X.env)).all (·.1.isSome) = true := by rfl)
    (hks : (backToKw pos (keywordEach kws X.env)).filterMap (·.1) = ks := by rfl)
    (hp : ((backTo pos (starEach [] X.env)).any (·.1) || (backToKw pos (keywordEach kws X.env)).any (·.1.isNone)) = false := by rfl)
    (ht : eval (.Call (.Attribute o m apos) [] kws pos) X.env = (do
      let ov ← eval o X.env
      standAt apos.atName
      let (f, first) ← holding [ov] (getMethod ov m pl)
      callWith pos f first (backTo pos (starEach [] X.env)) (backToKw pos (keywordEach kws X.env))) := by rfl) : PE X (.Call (.Attribute o m apos) [] kws pos) (tMtS C m (rFnS n ks.length gV sp (WE W)) ta tNil tkk) := by
  obtain ⟨f, fd, ps, g, hc, hm, F, b⟩ := d
  exact pm_kw0S (callVS_fn F b (fun σ => passAt tk σ) hG (hr.mono hk)) hc hm ho hkw hall hks hp ht
end
local macro_rules | `(tactic| walk_at "r1") => `(tactic| with_reducible first | refine r_clS ?_ | refine r_fnS rfl rfl ?_ | refine r_mtS ?_ | refine r_mkO ?_ | refine r_par ?_)
def spTwo : Sp := fun vs H Q _ => ∃ t1 t2 a ob a' ob', vs = [.ref t1, .ref t2] ∧ PairAt H t1 a ob ∧ PairAt H t2 a' ob' ∧ ob ≠ none ∧ Good a ob ∧ Good a' ob' ∧ ∀ H', Same H H' → Q (.bl true) H'
theorem notI (T : Value) : True := trivial
theorem s100 : (2 : Nat) ^ 100 < 2 ^ 1500 := by decide +kernel
section
variable {P : Program} {w : World} {K : PySem.W.Frag} {mg : Str → Option Value} {base : Heap} {C Ce cz : Addr}
theorem made_num {H : Hp} {v : V} {a : Int} {ob : Option Int} (h : (∃ p, ob ≠ none ∧ v = .ref p ∧ RatAt C H p (wT a ob) (wB a ob)) ∨ (ob = none ∧ v = .int a)) : NumAt C H v (wT a ob) (wB a ob) := by
  rcases h with ⟨p, _, rfl, r⟩ | ⟨rfl, rfl⟩
  · exact .inr ⟨p, rfl, r⟩
  · obtain ⟨l1, l2⟩ := low_id (low_int a)
    exact .inl ⟨by unfold wT; rw [Option.getD_none, l1], by unfold wB; rw [Option.getD_none, l2]⟩
/-- v op first, v any number -/
theorem own_N {spA spR : Sp} {H : Hp} {Q : VK} {p : Addr} {v : V} {n d n' d' : Int} (r1 : RatAt C H p n d) (hv : NumAt C H v n' d') (h1 : ∀ q, v = .ref q → RatAt C H q n' d' → spA [.ref q, .ref p] H Q (fun _ _ _ => False)) (h2 : ∀ i, v = .int i → n' = i → d' = 1 → spR [.ref p, .int i] H Q (fun _ _ _ => False)) : rNN C spA spR v (.ref p) H Q := by
  rcases hv with ⟨rfl, e⟩ | ⟨q, rfl, r2⟩
  · obtain ⟨dx, ex⟩ := r1
    exact .inr ⟨n', p, dx, _, rfl, rfl, ex, h2 n' rfl rfl e⟩
  · exact .inl (own_R r2 (.inr ⟨p, rfl, r1⟩) (h1 q rfl r2))
end
section
variable {K : PySem.W.Frag} {C : Addr} {H : Hp} {Q : VK} {p : Addr} {v : V} {n d n' d' : Int}
theorem nn_add (r1 : RatAt C H p n d) (hv : NumAt C H v n' d') (sn : Sm n) (sd : Sm d) (sn' : Sm n') (sd' : Sm d') (d0 : d ≠ 0) (d0' : d' ≠ 0) (k : ∀ H' q, Same H H' → RatAt C H' q (lowT (n * d' + n' * d) (d * d')) (lowB (n * d' + n' * d) (d * d')) → Q (.ref q) H') : rNN C (spAdd C) (spAdd C) v (.ref p) H Q := by
  refine own_N r1 hv (fun q e r2 => ?_) (fun i e en ed => ?_)
  · refine ⟨q, .ref p, n', d', n, d, rfl, r2, .inr ⟨p, rfl, r1⟩, sn', sd', sn, sd, d0', d0, fun H' x s rx => ?_⟩
    rw [Int.add_comm, Int.mul_comm d' d] at rx
    exact k H' x s rx
  · subst e
    exact ⟨p, .int i, n, d, n', d', rfl, r1, hv, sn, sd, sn', sd', d0, d0', k⟩
theorem nn_mul (r1 : RatAt C H p n d) (hv : NumAt C H v n' d') (sn : Sm n) (sd : Sm d) (sn' : Sm n') (sd' : Sm d') (d0 : d ≠ 0) (d0' : d' ≠ 0) (k : ∀ H' q, Same H H' → RatAt C H' q (lowT (n * n') (d * d')) (lowB (n * n') (d * d')) → Q (.ref q) H') : rNN C (spMul C) (spMul C) v (.ref p) H Q := by
  refine own_N r1 hv (fun q e r2 => ?_) (fun i e en ed => ?_)
  · refine ⟨q, .ref p, n', d', n, d, rfl, r2, .inr ⟨p, rfl, r1⟩, sn', sd', sn, sd, d0', d0, fun H' x s rx => ?_⟩
    rw [Int.mul_comm n' n, Int.mul_comm d' d] at rx
    exact k H' x s rx
  · subst e
    exact ⟨p, .int i, n, d, n', d', rfl, r1, hv, sn, sd, sn', sd', d0, d0', k⟩
theorem nn_sub (r1 : RatAt C H p n d) (hv : NumAt C H v n' d') (sn : Sm n) (sd : Sm d) (sn' : Sm n') (sd' : Sm d') (lo : Low n d) (d0' : d' ≠ 0) (k : ∀ H' q, Same H H' → RatAt C H' q (-lowT (n * d' - n' * d) (d * d')) (lowB (n * d' - n' * d) (d * d')) → Q (.ref q) H') : rNN C (spSub C) (spRsub C) v (.ref p) H Q := by
  have d0 : d ≠ 0 := by have := lo.pos; omega
  obtain ⟨l1, l2⟩ := low_neg (a := n * d' - n' * d) (Int.mul_ne_zero d0 d0')
  refine own_N r1 hv (fun q e r2 => ?_) (fun i e en ed => ?_)
  · refine ⟨q, .ref p, n', d', n, d, rfl, r2, .inr ⟨p, rfl, r1⟩, sn', sd', sn, sd, d0', d0, fun H' x s rx => ?_⟩
    rw [show n' * d - n * d' = -(n * d' - n' * d) by omega, Int.mul_comm d' d, l1, l2] at rx
    exact k H' x s rx
  · subst e
    refine ⟨p, .int i, n, d, n', d', rfl, r1, hv, sn, sd, sn', sd', lo, d0', fun H' x s rx => ?_⟩
    rw [show (-n) * d' + n' * d = -(n * d' - n' * d) by rw [Int.neg_mul]; omega, l1, l2] at rx
    exact k H' x s rx
theorem nn_eq1 (S : Sc K C) (r1 : RatAt C H p n d) (hv : NumAt C H v n' d') (k : ∀ H', Same H H' → Q (.bl (decide (n = n') && decide (d = d'))) H') : rOwnC K C (spEq C K) (fun _ _ _ => False) (.ref p) v H Q := by
  obtain ⟨dx, e⟩ := r1
  obtain ⟨t, ty, kd, _⟩ := hv.ty S
  exact ⟨p, dx, _, t, rfl, e, ty, S.nf t kd, p, v, n, d, rfl, ⟨dx, e⟩, .inl ⟨n', d', hv, k⟩⟩
theorem nn_eq (S : Sc K C) (r1 : RatAt C H p n d) (hv : NumAt C H v n' d') (k : ∀ H', Same H H' → Q (.bl (decide (n = n') && decide (d = d'))) H') : rEqN K C (spEq C K) v (.ref p) H Q := by
  obtain ⟨dx, e⟩ := r1
  rcases hv with ⟨rfl, ed⟩ | ⟨q, rfl, dq, eq⟩
  · exact .inr ⟨n', p, dx, _, rfl, rfl, e, p, .int n', n, d, rfl, ⟨dx, e⟩, .inl ⟨n', d', .inl ⟨rfl, ed⟩, k⟩⟩
  · refine .inl ⟨q, dq, _, _, rfl, eq, S.ty e, S.nf _ .rat, q, .ref p, n', d', rfl, ⟨dq, eq⟩, .inl ⟨n, d, .inr ⟨p, rfl, dx, e⟩, fun H' s => ?_⟩⟩
    have := k H' s
    rw [show (decide (n' = n) && decide (d' = d)) = (decide (n = n') && decide (d = d')) by rw [Bool.eq_iff_iff]; simp only [Bool.and_eq_true, decide_eq_true_eq]; exact ⟨fun ⟨x, y⟩ => ⟨x.symm, y.symm⟩, fun ⟨x, y⟩ => ⟨x.symm, y.symm⟩⟩]
    exact this
end
section
variable {P : Program} {w : World} {K : PySem.W.Frag} {mg : Str → Option Value} {base : Heap} {C Ce cz : Addr}
theorem ok_two {f : Addr} {fd : FuncData} (F : Fun K "_law_two_right" "_law_two_right" s__law_two_right f fd) (Z : Zs K mg C cz) (S : Sc K C) (d__law_made : DefD P w K mg base 5 "_law_made" 1 [] byPlace (spMade C)) (d__law_worth : DefD P w K mg base 3 "_law_worth" 1 [] byPlace spWorth) (d__law_low : DefD P w K mg base 2 "_law_low" 2 [] byPlace spLow) (d__law_is : DefD P w K mg base 1 "_law_is" 2 [] byPlace (spIs C)) (d__law_says : DefD P w K mg base 1 "_law_says" 2 [] byPlace spSays) (d__law_line : DefD P w K mg base 1 "_law_line" 1 [] byPlace spLine)
    (d_add : OpA P w K mg base 7 .Add C (spAdd C)) (d_radd : OpT P w K mg base 7 .Add C (spAdd C)) (d_sub : OpA P w K mg base 7 .Sub C (spSub C)) (d_rsub : OpT P w K mg base 7 .Sub C (spRsub C)) (d_mul : OpA P w K mg base 7 .Mult C (spMul C)) (d_rmul : OpT P w K mg base 7 .Mult C (spMul C))
    (d_eq : EqA P w K mg base 6 C (spEq C K)) (d_str : StrA P w K mg base 1 C (spStr C)) (m_over : MetX P w K mg base 6 C "over" 2 [] byPlace (spOver C Ce cz K)) (m_below_number : MetX P w K mg base 6 C "below" 1 ["number"] byBoth (spBelow C Ce K)) : FnG P w K mg base CX0 8 f fd ["one", "other"] spTwo := by
  refine okG F sc__law_two_right (fun vs H Q E h => ?_) (fun cdv B up z H vs Q E hG hr h => ?_)
  · obtain ⟨t1, t2, a, ob, a', ob', rfl, _⟩ := h
    rfl
  have hu : (B.deeper (PyProof.Rows.envOfC "_law_two_right" (defScope s__law_two_right) z.heap.objs.size f cdv)).units + 64 < cLine := by have := hr.un; omega
  refine ⟨_, (pss_cons (ps_par rfl sc__law_two_right.nd (i := 4) (j := 5) rfl rfl (by decide) rfl rfl (pa_cons (pd_pos d__law_made hG hr (by decide) (by rfl) (pa_cons (pv 0) pa_nil)) (pa_cons (pd_pos d__law_made hG hr (by decide) (by rfl) (pa_cons (pv 1) pa_nil)) pa_nil)) rfl)
  (pss_cons (ps_asg (pe_tup (pa_cons (pd_pos d__law_worth hG hr (by decide) (by rfl) (pa_cons (pv 0) pa_nil)) (pa_cons (pd_pos d__law_worth hG hr (by decide) (by rfl) (pa_cons (pv 1) pa_nil)) pa_nil))) (by (refine (show PG _ _ (gTup K 2 (gCons (gTup K 2 (gCons (gName 8) (gCons (gName 9) gNil))) (gCons (gTup K 2 (gCons (gName 10) (gCons (gName 11) gNil))) gNil))) from ?_); refine pg_tup rfl (pgs_cons ?_ (pgs_cons ?_ pgs_nil)); exact (by (refine (show PG _ _ (gTup K 2 (gCons (gName 8) (gCons (gName 9) gNil))) from ?_); refine pg_tup rfl (pgs_cons ?_ (pgs_cons ?_ pgs_nil)); exact (pg_name (i := 8) sc__law_two_right.nd rfl (by first | exact Or.inl rfl | exact Or.inr rfl)); exact (pg_name (i := 9) sc__law_two_right.nd rfl (by first | exact Or.inl rfl | exact Or.inr rfl)))); exact (by (refine (show PG _ _ (gTup K 2 (gCons (gName 10) (gCons (gName 11) gNil))) from ?_); refine pg_tup rfl (pgs_cons ?_ (pgs_cons ?_ pgs_nil)); exact (pg_name (i := 10) sc__law_two_right.nd rfl (by first | exact Or.inl rfl | exact Or.inr rfl)); exact (pg_name (i := 11) sc__law_two_right.nd rfl (by first | exact Or.inl rfl | exact Or.inr rfl)))))))
  (pss_cons (ps_par rfl sc__law_two_right.nd (i := 6) (j := 7) rfl rfl (by decide) rfl rfl (pa_cons (pd_pos d__law_low hG hr (by decide) (by rfl) (pa_cons (pe_op op_add (pe_op op_mulW (pv 8) (pv 11)) (pe_op op_mulW (pv 10) (pv 9))) (pa_cons (pe_op op_mulW (pv 9) (pv 11)) pa_nil))) (pa_cons (pd_pos d__law_low hG hr (by decide) (by rfl) (pa_cons (pe_op op_sub (pe_op op_mulW (pv 8) (pv 11)) (pe_op op_mulW (pv 10) (pv 9))) (pa_cons (pe_op op_mulW (pv 9) (pv 11)) pa_nil))) pa_nil)) rfl)
  (pss_cons (ps_if (PW.pt (pw_or (pt_not (pt_val (pd_pos d__law_is hG hr (by decide) (by rfl) (pa_cons (pe_op (o_N d_add d_radd intAdd hG hr (by decide)) (pv 4) (pv 5)) (pa_cons (pv 6) pa_nil))))) (pw_or1 (pt_not (pt_val (pd_pos d__law_is hG hr (by decide) (by rfl) (pa_cons (pe_op (o_N d_add d_radd intAdd hG hr (by decide)) (pv 5) (pv 4)) (pa_cons (pv 6) pa_nil)))))))) (pss_one (ps_ret pe_bl)) pss_nil)
  (pss_cons (ps_if (PW.pt (pw_or (pt_not (pt_val (pd_pos d__law_is hG hr (by decide) (by rfl) (pa_cons (pe_op (o_N d_sub d_rsub intSub hG hr (by decide)) (pv 4) (pv 5)) (pa_cons (pv 7) pa_nil))))) (pw_or1 (pt_not (pt_val (pd_pos d__law_is hG hr (by decide) (by rfl) (pa_cons (pe_op (o_N d_sub d_rsub intSub hG hr (by decide)) (pv 5) (pv 4)) (pa_cons (pe_tup (pa_cons (pe_op op_sub pe_int (pe_ix (show IxR _ (rIxT K) from ix_tup) (pv 7) pe_int (fun _ _ => rfl))) (pa_cons (pe_ix (show IxR _ (rIxT K) from ix_tup) (pv 7) pe_int (fun _ _ => rfl)) pa_nil))) pa_nil)))))))) (pss_one (ps_ret pe_bl)) pss_nil)
  (pss_cons (ps_set (i := 2) sc__law_two_right.nd rfl (by first | exact Or.inl rfl | exact Or.inr rfl) (pd_pos d__law_low hG hr (by decide) (by rfl) (pa_cons (pe_op op_mulW (pv 8) (pv 10)) (pa_cons (pe_op op_mulW (pv 9) (pv 11)) pa_nil))))
  (pss_cons (ps_if (PW.pt (pw_or (pt_not (pt_val (pd_pos d__law_is hG hr (by decide) (by rfl) (pa_cons (pe_op (o_N d_mul d_rmul intMul hG hr (by decide)) (pv 4) (pv 5)) (pa_cons (pv 2) pa_nil))))) (pw_or1 (pt_not (pt_val (pd_pos d__law_is hG hr (by decide) (by rfl) (pa_cons (pe_op (o_N d_mul d_rmul intMul hG hr (by decide)) (pv 5) (pv 4)) (pa_cons (pv 2) pa_nil)))))))) (pss_one (ps_ret pe_bl)) pss_nil)
  (pss_cons (ps_if (PW.pt (pw_and (pt_cmpR op_ne (pv 10) pe_int (nomark _)) (pw_and1 (pt_not (pt_val (pd_pos d__law_is hG hr (by decide) (by rfl) (pa_cons (pqX_pos m_over takes0 hG hr (by decide) (pv 4) (pa_cons (pv 5) pa_nil)) (pa_cons (pd_pos d__law_low hG hr (by decide) (by rfl) (pa_cons (pe_op op_mulW (pv 8) (pv 11)) (pa_cons (pe_op op_mulW (pv 9) (pv 10)) pa_nil))) pa_nil)))))))) (pss_one (ps_ret pe_bl)) pss_nil)
  (pss_cons (ps_if (pt_not (pt_val (pd_pos d__law_says hG hr (by decide) (by rfl) (pa_cons (pqX_kw0 m_below_number takes0 hG hr (by decide) (pv 4) (pk_cons (pv 5) pk_nil) rfl) (pa_cons (pe_cmpR op_lt (pe_op op_mulW (pv 8) (pv 11)) (pe_op op_mulW (pv 10) (pv 9)) (nomark _)) pa_nil))))) (pss_one (ps_ret pe_bl)) pss_nil)
  (pss_cons (ps_set (i := 3) sc__law_two_right.nd rfl (by first | exact Or.inl rfl | exact Or.inr rfl) (pe_cmpR (show OpR _ _ (rEqD K) from op_eqD hu) (pe_tup (pa_cons (pv 8) (pa_cons (pv 9) pa_nil))) (pe_tup (pa_cons (pv 10) (pa_cons (pv 11) pa_nil))) (nomark _)))
  (pss_cons (ps_if (PW.pt (pw_or (pt_cmpR op_ne (pe_callTy c_bool (by rfl) Z.bool_ (by decide +kernel) (pa_cons (pe_cmpR (o_eqN d_eq hG hr (by decide)) (pv 4) (pv 5) (nomark _)) pa_nil)) (pv 3) (nomark _)) (pw_or (pt_cmpR op_ne (pe_callTy c_bool (by rfl) Z.bool_ (by decide +kernel) (pa_cons (pe_cmpR (o_eqN d_eq hG hr (by decide)) (pv 5) (pv 4) (nomark _)) pa_nil)) (pv 3) (nomark _)) (pw_or1 (pt_cmpR op_eq (pe_callTy c_bool (by rfl) Z.bool_ (by decide +kernel) (pa_cons (pe_cmpR (o_ne d_eq hG hr (by decide)) (pv 4) (pv 5) (nomark _)) pa_nil)) (pv 3) (nomark _)))))) (pss_one (ps_ret pe_bl)) pss_nil)
  (pss_one (ps_ret (pe_and (pd_pos d__law_is hG hr (by decide) (by rfl) (pa_cons (pv 4) (pa_cons (pe_tup (pa_cons (pv 8) (pa_cons (pv 9) pa_nil))) pa_nil))) (pe_and (pd_pos d__law_is hG hr (by decide) (by rfl) (pa_cons (pe_op (o_N d_add d_radd intAdd hG hr (by decide)) (pv 4) (pv 5)) (pa_cons (pv 6) pa_nil))) (pe_one (pe_cmpR op_eq (pd_pos d__law_line hG hr (by decide) (by rfl) (pa_cons (pe_tup (pa_cons (pv 8) (pa_cons (pv 9) pa_nil))) pa_nil)) (pe_callTy (o_str d_str hG hr (by decide)) (by rfl) Z.str_ (by decide +kernel) (pa_cons (pv 4) pa_nil)) (nomark _)))))))))))))))))), ?_⟩
  obtain ⟨t1, t2, a, ob, a', ob', rfl, pt1, pt2, hob, g1, g2, k⟩ := h
  obtain ⟨sn, sd, lo, hn, hd⟩ := g1.sm
  obtain ⟨sn', sd', lo', hn', hd'⟩ := g2.sm
  have d0 : wB a ob ≠ 0 := by have := lo.pos; omega
  have d0' : wB a' ob' ≠ 0 := by have := lo'.pos; omega
  walk_at "r"
  refine ⟨t1, a, ob, rfl, pt1, g1, fun H1 v1 s1 hv1 => ?_⟩
  walk_at "r"
  refine ⟨t2, a', ob', rfl, s1 _ _ pt2, g2, fun H2 v2 s2 hv2 => ?_⟩
  walk_at "r"
  have num2 := made_num hv2
  obtain ⟨p1, r1⟩ : ∃ p1, v1 = .ref p1 ∧ RatAt C H2 p1 (wT a ob) (wB a ob) := by
    rcases hv1 with ⟨p, _, e, r⟩ | ⟨e, _⟩
    · exact ⟨p, e, r.same s2⟩
    · exact absurd e hob
  obtain ⟨rfl, r1⟩ := r1
  clear hv1 hv2
  refine ⟨_, _, rfl, ?_⟩
  walk_at "r"
  refine ⟨t1, a, ob, rfl, s2 _ _ (s1 _ _ pt1), g1, fun w1 H3 s3 hw1 => ?_⟩
  walk_at "r"
  refine ⟨t2, a', ob', rfl, s3 _ _ (s2 _ _ (s1 _ _ pt2)), g2, fun w2 H4 s4 hw2 => ?_⟩
  walk_at "r"
  have hw1 := s4 _ _ hw1
  have r4 := (r1.same s3).same s4
  have num4 := (num2.same s3).same s4
  have s04 := ((s1.trans s2).trans s3).trans s4
  clear num2 r1 s1 s2 s3 s4
  generalize wT a ob = n at *
  generalize wB a ob = d at *
  generalize wT a' ob' = n' at *
  generalize wB a' ob' = d' at *
  refine ⟨by show 2 ≤ sizeLine; decide, fun u nu => ?_⟩
  have s5 := Same.upd_new (o := .tup [.ref w1, .ref w2]) nu
  have g5 : (upd H4 u (.tup [.ref w1, .ref w2])) u = some (.tup [.ref w1, .ref w2]) := upd_same
  generalize upd H4 u (.tup [.ref w1, .ref w2]) = H5 at s5 g5 ⊢
  walk_at "r"
  refine ⟨u, _, rfl, SqT.of g5, rfl, _, _, rfl, ?_⟩
  refine ⟨w1, _, rfl, SqT.of (s5 _ _ hw1), rfl, _, _, rfl, ?_⟩
  walk_at "r"
  refine ⟨_, _, rfl, ?_⟩
  walk_at "r"
  refine ⟨rfl, ?_⟩
  refine ⟨_, _, rfl, ?_⟩
  refine ⟨w2, _, rfl, SqT.of (s5 _ _ hw2), rfl, _, _, rfl, ?_⟩
  walk_at "r"
  refine ⟨_, _, rfl, ?_⟩
  walk_at "r"
  refine ⟨rfl, rfl, ?_⟩
  walk_at "r"
  have r5 := r4.same s5
  have num5 := num4.same s5
  have s05 := s04.trans s5
  clear r4 num4 s04 s5 g5 hw1 hw2
  have dd0 : d * d' ≠ 0 := Int.mul_ne_zero d0 d0'
  have dds := sd.prod sd'
  refine r_i (sn.mul sd') ?_
  walk_at "r"
  refine r_i (sn'.mul sd) ?_
  walk_at "r"
  refine r_i (sd.mul sd') ?_
  walk_at "r"
  refine ⟨_, _, rfl, dd0, dds, fun tp H6 s6 gp => ?_⟩
  walk_at "r"
  refine r_i (sn.mul sd') ?_
  walk_at "r"
  refine r_i (sn'.mul sd) ?_
  walk_at "r"
  refine r_i (sd.mul sd') ?_
  walk_at "r"
  refine ⟨_, _, rfl, dd0, dds, fun tm H7 s7 gm => ?_⟩
  walk_at "r"
  refine ⟨_, _, rfl, ?_⟩
  walk_at "r"
  have s57 := s6.trans s7
  have gp7 := s7 _ _ gp
  refine .inl (own_R (r5.same s57) (num5.same s57) ⟨p1, v2, n, d, n', d', rfl, r5.same s57, num5.same s57, sn, sd, sn', sd', d0, d0', fun H8 q8 s8 rq8 => ?_⟩)
  have s58 := s57.trans s8
  walk_at "r"
  refine ⟨q8, tp, _, _, rfl, rq8, s8 _ _ gp7, fun H9 s9 => ?_⟩
  have s59 := s58.trans s9
  walk_at "r"
  refine nn_add (r5.same s59) (num5.same s59) sn sd sn' sd' d0 d0' (fun H10 q10 s10 rq10 => ?_)
  have s510 := s59.trans s10
  walk_at "r"
  refine ⟨q10, tp, _, _, rfl, rq10, (s8.trans (s9.trans s10)) _ _ gp7, fun H11 s11 => ?_⟩
  have s511 := s510.trans s11
  have s711 := s8.trans (s9.trans (s10.trans s11))
  have gm11 := s711 _ _ gm
  walk_at "r"
  refine .inl (own_R (r5.same s511) (num5.same s511) ⟨p1, v2, n, d, n', d', rfl, r5.same s511, num5.same s511, sn, sd, sn', sd', d0, d0', fun H12 q12 s12 rq12 => ?_⟩)
  walk_at "r"
  refine ⟨q12, tm, _, _, rfl, rq12, s12 _ _ gm11, fun H13 s13 => ?_⟩
  have s513 := s511.trans (s12.trans s13)
  have gm13 := (s12.trans s13) _ _ gm11
  walk_at "r"
  refine nn_sub (r5.same s513) (num5.same s513) sn sd sn' sd' lo d0' (fun H14 q14 s14 rq14 => ?_)
  have s514 := s513.trans s14
  walk_at "r"
  refine r_ixT (SqT.of (s14 _ _ gm13)) rfl ?_
  walk_at "r"
  refine r_ixT (SqT.of (s14 _ _ gm13)) rfl ?_
  walk_at "r"
  refine ⟨by show 2 ≤ sizeLine; decide, fun u2 nu2 => ?_⟩
  rw [Int.zero_sub]
  have s15 := Same.upd_new (o := .tup [.int (-lowT (n * d' - n' * d) (d * d')), .int (lowB (n * d' - n' * d) (d * d'))]) nu2
  have g15 : (upd H14 u2 (.tup [.int (-lowT (n * d' - n' * d) (d * d')), .int (lowB (n * d' - n' * d) (d * d'))])) u2 = some (.tup [.int (-lowT (n * d' - n' * d) (d * d')), .int (lowB (n * d' - n' * d) (d * d'))]) := upd_same
  generalize upd H14 u2 (.tup [.int (-lowT (n * d' - n' * d) (d * d')), .int (lowB (n * d' - n' * d) (d * d'))]) = H15 at s15 g15 ⊢
  walk_at "r"
  refine ⟨q14, u2, _, _, rfl, rq14.same s15, g15, fun H16 s16 => ?_⟩
  have s516 := s514.trans (s15.trans s16)
  walk_at "r"
  refine r_i (sn.mul sn') ?_
  walk_at "r"
  refine r_i (sd.mul sd') ?_
  walk_at "r"
  refine ⟨_, _, rfl, dd0, dds, fun tt H17 s17 gt => ?_⟩
  have s517 := s516.trans s17
  walk_at "r"
  refine .inl (own_R (r5.same s517) (num5.same s517) ⟨p1, v2, n, d, n', d', rfl, r5.same s517, num5.same s517, sn, sd, sn', sd', d0, d0', fun H18 q18 s18 rq18 => ?_⟩)
  walk_at "r"
  refine ⟨q18, tt, _, _, rfl, rq18, s18 _ _ gt, fun H19 s19 => ?_⟩
  have s519 := s517.trans (s18.trans s19)
  walk_at "r"
  refine nn_mul (r5.same s519) (num5.same s519) sn sd sn' sd' d0 d0' (fun H20 q20 s20 rq20 => ?_)
  walk_at "r"
  refine ⟨q20, tt, _, _, rfl, rq20, (s18.trans (s19.trans s20)) _ _ gt, fun H21 s21 => ?_⟩
  have s521 := s519.trans (s20.trans s21)
  have gp21 : H21 tp = _ := (s711.trans (s12.trans (s13.trans (s14.trans (s15.trans (s16.trans (s17.trans (s18.trans (s19.trans (s20.trans s21)))))))))) _ _ gp7
  clear gm gm11 gm13 g15 gt rq20 rq18 rq14 rq12 rq10 rq8 gp gp7 s57 s58 s59 s510 s511 s513 s514 s516 s517 s519 s711
  walk_at "r"
  by_cases n0 : n' = 0
  · rw [decide_eq_true (show V.int n' = V.int 0 by rw [n0])]
    walk_at "r"
    obtain ⟨dx0, e0⟩ := r5.same s521
    refine ⟨p1, dx0, _, rfl, e0, rt_no _ _ (by decide +kernel) (by decide +kernel), ?_⟩
    walk_at "r"
    refine ⟨p1, v2, n, d, by rfl, r5.same s521, sn, sd, .inl ⟨n', d', num5.same s521, sn', sd', fun J1 j1 => ?_⟩⟩
    walk_at "r"
    refine r_i (sn.mul sd') ?_
    walk_at "r"
    refine r_i (sn'.mul sd) ?_
    walk_at "r"
    refine ⟨_, rfl, ?_⟩
    walk_at "r"
    refine ⟨by show 2 ≤ sizeLine; decide, fun u3 nu3 => ?_⟩
    have j2 := Same.upd_new (o := .tup [.int n, .int d]) nu3
    have f2 : (upd J1 u3 (.tup [.int n, .int d])) u3 = some (.tup [.int n, .int d]) := upd_same
    generalize upd J1 u3 (.tup [.int n, .int d]) = J2 at j2 f2 ⊢
    walk_at "r"
    refine ⟨by show 2 ≤ sizeLine; decide, fun u4 nu4 => ?_⟩
    have j3 := Same.upd_new (o := .tup [.int n', .int d']) nu4
    have f3 : (upd J2 u4 (.tup [.int n', .int d'])) u4 = some (.tup [.int n', .int d']) := upd_same
    generalize upd J2 u4 (.tup [.int n', .int d']) = J3 at j3 f3 ⊢
    walk_at "r"
    refine ⟨tupD [n, d], tupD [n', d'], tup_dp (r := [n, d]) (j3 _ _ f2), tup_dp (r := [n', d']) f3, tup_shaped _, tup_shaped _, ?_⟩
    have sm : decide ([n, d] = [n', d']) = (decide (n = n') && decide (d = d')) := by
      rw [Bool.eq_iff_iff]
      simp
    rw [tup_eqv, sm]
    walk_at "r"
    have t3 := s521.trans (j1.trans (j2.trans j3))
    have gp3 := (j1.trans (j2.trans j3)) _ _ gp21
    refine .inl (nn_eq1 S (r5.same t3) (num5.same t3) (fun J4 j4 => ?_))
    have t4 := t3.trans j4
    walk_at "r"
    rw [decide_eq_true rfl]
    walk_at "r"
    refine nn_eq S (r5.same t4) (num5.same t4) (fun J5 j5 => ?_)
    have t5 := t4.trans j5
    walk_at "r"
    rw [decide_eq_true rfl]
    walk_at "r"
    obtain ⟨dx5, e5⟩ := r5.same t5
    obtain ⟨ty5, yt5, kd5, _⟩ := (num5.same t5).ty S
    refine ⟨p1, dx5, _, ty5, rfl, e5, yt5, S.nf _ kd5, p1, v2, n, d, rfl, ⟨dx5, e5⟩, .inl ⟨n', d', num5.same t5, fun J6 j6 => ⟨_, rfl, ?_⟩⟩⟩
    have t6 := t5.trans j6
    walk_at "r"
    rw [decide_eq_false (show ¬ V.bl (!(decide (n = n') && decide (d = d'))) = V.bl (decide (n = n') && decide (d = d')) from fun e => by have := V.bl.inj e; revert this; cases (decide (n = n') && decide (d = d')) <;> decide)]
    walk_at "r"
    refine ⟨by show 2 ≤ sizeLine; decide, fun u7 nu7 => ?_⟩
    have j7 := Same.upd_new (o := .tup [.int n, .int d]) nu7
    have f7 : (upd J6 u7 (.tup [.int n, .int d])) u7 = some (.tup [.int n, .int d]) := upd_same
    generalize upd J6 u7 (.tup [.int n, .int d]) = J7 at j7 f7 ⊢
    have t7 := t6.trans j7
    walk_at "r"
    refine ⟨p1, u7, _, _, rfl, r5.same t7, f7, fun J8 j8 => ?_⟩
    have t8 := t7.trans j8
    walk_at "r"
    refine .inl (own_R (r5.same t8) (num5.same t8) ⟨p1, v2, n, d, n', d', rfl, r5.same t8, num5.same t8, sn, sd, sn', sd', d0, d0', fun J9 q9 j9 rq9 => ?_⟩)
    have t9 := t8.trans j9
    walk_at "r"
    refine ⟨q9, tp, _, _, rfl, rq9, (j4.trans (j5.trans (j6.trans (j7.trans (j8.trans j9))))) _ _ gp3, fun J10 j10 => ?_⟩
    have t10 := t9.trans j10
    walk_at "r"
    refine ⟨by show 2 ≤ sizeLine; decide, fun u11 nu11 => ?_⟩
    have j11 := Same.upd_new (o := .tup [.int n, .int d]) nu11
    have f11 : (upd J10 u11 (.tup [.int n, .int d])) u11 = some (.tup [.int n, .int d]) := upd_same
    generalize upd J10 u11 (.tup [.int n, .int d]) = J11 at j11 f11 ⊢
    have t11 := t10.trans j11
    walk_at "r"
    refine ⟨u11, n, d, rfl, f11, sn, sd, ?_⟩
    walk_at "r"
    obtain ⟨dx11, e11⟩ := r5.same t11
    refine ⟨p1, dx11, _, rfl, e11, p1, n, d, rfl, ⟨dx11, e11⟩, sn, sd, _, rfl, ?_⟩
    walk_at "r"
    rw [decide_eq_true rfl]
    exact k _ (s05.trans t11)
  · rw [decide_eq_false (show ¬ V.int n' = V.int 0 from fun e => n0 (V.int.inj e))]
    walk_at "r"
    obtain ⟨dxa, ea⟩ := r5.same s521
    refine ⟨p1, dxa, _, rfl, ea, rt_no _ _ (by decide +kernel) (by decide +kernel), ?_⟩
    walk_at "r"
    refine ⟨p1, v2, n, d, rfl, r5.same s521, sn, sd, d0, .inl ⟨n', d', num5.same s521, sn', sd', n0, fun G1 qg a1 rg => ?_⟩⟩
    walk_at "r"
    refine r_i (sn.mul sd') ?_
    walk_at "r"
    refine r_i (sd.mul sn') ?_
    walk_at "r"
    refine ⟨_, _, rfl, Int.mul_ne_zero d0 n0, sd.prod sn', fun tg G2 a2 gg => ?_⟩
    walk_at "r"
    refine ⟨qg, tg, _, _, rfl, rg.same a2, gg, fun G3 a3 => ?_⟩
    have sG := s521.trans (a1.trans (a2.trans a3))
    have gpG := (a1.trans (a2.trans a3)) _ _ gp21
    walk_at "r"
    obtain ⟨dx0, e0⟩ := r5.same sG
    refine ⟨p1, dx0, _, rfl, e0, rt_no _ _ (by decide +kernel) (by decide +kernel), ?_⟩
    walk_at "r"
    refine ⟨p1, v2, n, d, by rfl, r5.same sG, sn, sd, .inl ⟨n', d', num5.same sG, sn', sd', fun J1 j1 => ?_⟩⟩
    walk_at "r"
    refine r_i (sn.mul sd') ?_
    walk_at "r"
    refine r_i (sn'.mul sd) ?_
    walk_at "r"
    refine ⟨_, rfl, ?_⟩
    walk_at "r"
    refine ⟨by show 2 ≤ sizeLine; decide, fun u3 nu3 => ?_⟩
    have j2 := Same.upd_new (o := .tup [.int n, .int d]) nu3
    have f2 : (upd J1 u3 (.tup [.int n, .int d])) u3 = some (.tup [.int n, .int d]) := upd_same
    generalize upd J1 u3 (.tup [.int n, .int d]) = J2 at j2 f2 ⊢
    walk_at "r"
    refine ⟨by show 2 ≤ sizeLine; decide, fun u4 nu4 => ?_⟩
    have j3 := Same.upd_new (o := .tup [.int n', .int d']) nu4
    have f3 : (upd J2 u4 (.tup [.int n', .int d'])) u4 = some (.tup [.int n', .int d']) := upd_same
    generalize upd J2 u4 (.tup [.int n', .int d']) = J3 at j3 f3 ⊢
    walk_at "r"
    refine ⟨tupD [n, d], tupD [n', d'], tup_dp (r := [n, d]) (j3 _ _ f2), tup_dp (r := [n', d']) f3, tup_shaped _, tup_shaped _, ?_⟩
    have sm : decide ([n, d] = [n', d']) = (decide (n = n') && decide (d = d')) := by
      rw [Bool.eq_iff_iff]
      simp
    rw [tup_eqv, sm]
    walk_at "r"
    have t3 := sG.trans (j1.trans (j2.trans j3))
    have gp3 := (j1.trans (j2.trans j3)) _ _ gpG
    refine .inl (nn_eq1 S (r5.same t3) (num5.same t3) (fun J4 j4 => ?_))
    have t4 := t3.trans j4
    walk_at "r"
    rw [decide_eq_true rfl]
    walk_at "r"
    refine nn_eq S (r5.same t4) (num5.same t4) (fun J5 j5 => ?_)
    have t5 := t4.trans j5
    walk_at "r"
    rw [decide_eq_true rfl]
    walk_at "r"
    obtain ⟨dx5, e5⟩ := r5.same t5
    obtain ⟨ty5, yt5, kd5, _⟩ := (num5.same t5).ty S
    refine ⟨p1, dx5, _, ty5, rfl, e5, yt5, S.nf _ kd5, p1, v2, n, d, rfl, ⟨dx5, e5⟩, .inl ⟨n', d', num5.same t5, fun J6 j6 => ⟨_, rfl, ?_⟩⟩⟩
    have t6 := t5.trans j6
    walk_at "r"
    rw [decide_eq_false (show ¬ V.bl (!(decide (n = n') && decide (d = d'))) = V.bl (decide (n = n') && decide (d = d')) from fun e => by have := V.bl.inj e; revert this; cases (decide (n = n') && decide (d = d')) <;> decide)]
    walk_at "r"
    refine ⟨by show 2 ≤ sizeLine; decide, fun u7 nu7 => ?_⟩
    have j7 := Same.upd_new (o := .tup [.int n, .int d]) nu7
    have f7 : (upd J6 u7 (.tup [.int n, .int d])) u7 = some (.tup [.int n, .int d]) := upd_same
    generalize upd J6 u7 (.tup [.int n, .int d]) = J7 at j7 f7 ⊢
    have t7 := t6.trans j7
    walk_at "r"
    refine ⟨p1, u7, _, _, rfl, r5.same t7, f7, fun J8 j8 => ?_⟩
    have t8 := t7.trans j8
    walk_at "r"
    refine .inl (own_R (r5.same t8) (num5.same t8) ⟨p1, v2, n, d, n', d', rfl, r5.same t8, num5.same t8, sn, sd, sn', sd', d0, d0', fun J9 q9 j9 rq9 => ?_⟩)
    have t9 := t8.trans j9
    walk_at "r"
    refine ⟨q9, tp, _, _, rfl, rq9, (j4.trans (j5.trans (j6.trans (j7.trans (j8.trans j9))))) _ _ gp3, fun J10 j10 => ?_⟩
    have t10 := t9.trans j10
    walk_at "r"
    refine ⟨by show 2 ≤ sizeLine; decide, fun u11 nu11 => ?_⟩
    have j11 := Same.upd_new (o := .tup [.int n, .int d]) nu11
    have f11 : (upd J10 u11 (.tup [.int n, .int d])) u11 = some (.tup [.int n, .int d]) := upd_same
    generalize upd J10 u11 (.tup [.int n, .int d]) = J11 at j11 f11 ⊢
    have t11 := t10.trans j11
    walk_at "r"
    refine ⟨u11, n, d, rfl, f11, sn, sd, ?_⟩
    walk_at "r"
    obtain ⟨dx11, e11⟩ := r5.same t11
    refine ⟨p1, dx11, _, rfl, e11, p1, n, d, rfl, ⟨dx11, e11⟩, sn, sd, _, rfl, ?_⟩
    walk_at "r"
    rw [decide_eq_true rfl]
    exact k _ (s05.trans t11)
end
end Eld
set_option Elab.async false
set_option maxRecDepth 100000
set_option maxHeartbeats 4000000
set_option linter.all false
namespace Eld
open PySem L2
local macro_rules | `(tactic| walk_at "r1") => `(tactic| with_reducible first
  | refine r_seq ?_ | refine r_asgN ?_ | refine r_asg ?_ | refine r_gname ?_ | refine r_gsub ?_ | refine r_var rfl ?_ | refine r_c ?_ | refine r_op ?_ | refine r_un ?_ | refine r_u ?_ | refine r_i0 ?_ | refine r_cb ?_ | refine r_cons ?_ | refine r_nil ?_ | refine r_cl ?_ | refine r_fn rfl rfl ?_ | refine r_mt ?_
  | refine r_test ?_ | refine r_tb ?_ | refine r_bl ?_ | refine r_and ?_ | refine r_or ?_ | refine r_not ?_ | refine r_andV ?_ | refine r_orV ?_ | refine r_notV ?_ | refine r_ifX ?_ | refine r_ifs ?_ | refine r_chain ?_ | refine r_ret ?_ | refine r_next ?_ | refine r_drop ?_ | refine iteT ?_ | refine iteF ?_ | refine iteNT ?_ | refine iteNF ?_
  | refine r_int1 ?_ | refine r_boolB ?_ | refine r_eqI ?_ | refine r_neI ?_ | refine r_eqB ?_ | refine r_neB ?_ | refine r_eqS ?_ | refine r_neS ?_ | refine r_abs ?_ | refine r_max2 ?_ | refine r_min2 ?_ | refine r_yes ?_ | refine r_tup ?_ | refine r_sfld ?_ | refine r_m0 ?_ | refine r_m1 ?_ | refine r_lst ?_ | refine r_rng1 ?_ | refine r_rng2 ?_ | refine r_ixL (SqL.of (by assumption)) rfl ?_)
local macro_rules | `(tactic| walk_at "r") => `(tactic| repeat (first | walk_at "r1" | ((with_reducible refine r_var ?hv ?_); (case hv => rfl))))

local macro_rules | `(tactic| walk_at "r1") => `(tactic| with_reducible first | refine r_clS ?_ | refine r_fnS rfl rfl ?_ | refine r_mtS ?_ | refine r_mkO ?_ | refine r_par ?_)
/-! ## lists of numbers -/
def wq (q : Int × Option Int) : Int × Int := (wT q.1 q.2, wB q.1 q.2)
theorem fold_dvd : ∀ (qs : List (Int × Int)) (a : Nat), a ∣ qs.foldl (fun a q => Nat.lcm a q.2.natAbs) a ∧ ∀ q ∈ qs, q.2.natAbs ∣ qs.foldl (fun a q => Nat.lcm a q.2.natAbs) a
  | [], a => ⟨Nat.dvd_refl _, fun _ m => by cases m⟩
  | q :: qs, a => by
    obtain ⟨h1, h2⟩ := fold_dvd qs (Nat.lcm a q.2.natAbs)
    refine ⟨Nat.dvd_trans (Nat.dvd_lcm_left _ _) h1, fun x m => ?_⟩
    rcases List.mem_cons.mp m with rfl | m
    · exact Nat.dvd_trans (Nat.dvd_lcm_right _ _) h1
    · exact h2 x m
theorem lcmN_dvd {qs : List (Int × Int)} {q : Int × Int} (h : q ∈ qs) : q.2 ∣ ((lcmN qs : Nat) : Int) :=
  Int.natAbs_dvd_natAbs.mp (show q.2.natAbs ∣ ((lcmN qs : Nat) : Int).natAbs from (Int.natAbs_natCast (lcmN qs)).symm ▸ (fold_dvd qs 1).2 q h)
theorem plus_step {x y t b L S : Int} (hy : y ≠ 0) (hb : b ≠ 0) (hL : L ≠ 0) (e : x * L = y * S) (db : b ∣ L) : lowT (x * b + t * y) (y * b) = lowT (S + t * (L / b)) L ∧ lowB (x * b + t * y) (y * b) = lowB (S + t * (L / b)) L := by
  obtain ⟨c, rfl⟩ := db
  rw [Int.mul_ediv_cancel_left c hb]
  refine low_eq (Int.mul_ne_zero hy hb) hL ?_
  have e1 : (x * b + t * y) * (b * c) = b * (x * (b * c)) + t * y * (b * c) := by rw [Int.add_mul]; congr 1; ac_rfl
  have e2 : (S + t * c) * (y * b) = b * (y * S) + t * y * (b * c) := by rw [Int.add_mul]; congr 1 <;> ac_rfl
  rw [e1, e2, e]
theorem low_ratio (S L : Int) : lowT S L * L = lowB S L * S := by
  have h1 := lowT_mul S L
  have h2 := lowB_mul S L
  have : lowT S L * (lowB S L * sgI S L) = lowB S L * (lowT S L * sgI S L) := by ac_rfl
  rw [h2, h1] at this
  exact this
theorem low_zero {L : Int} (h : L ≠ 0) : lowT 0 L = 0 ∧ lowB 0 L = 1 := by
  obtain ⟨a, b⟩ := low_eq (a := 0) (b := L) (c := 0) (d := 1) h (by decide) (by simp)
  obtain ⟨c, d⟩ := low_id (low_int 0)
  exact ⟨a.trans c, b.trans d⟩
/-- the sum of the first tops -/
def sumN (qs : List (Int × Int)) (i : Nat) : Int := ((topsN qs).take i).sum
theorem sumN_next {qs : List (Int × Int)} {i : Nat} {q : Int × Int} (h : qs[i]? = some q) : sumN qs (i + 1) = sumN qs i + q.1 * (((lcmN qs : Nat) : Int) / q.2) := by
  unfold sumN
  rw [List.take_add_one, show (topsN qs)[i]? = some (q.1 * (((lcmN qs : Nat) : Int) / q.2)) by unfold topsN; rw [List.getElem?_map, h]; rfl, List.sum_append]
  simp
theorem sumN_all (qs : List (Int × Int)) : sumN qs qs.length = (topsN qs).sum := by
  unfold sumN
  rw [show qs.length = (topsN qs).length by unfold topsN; rw [List.length_map], List.take_length]
/-- the greatest, or the least, of some numbers: `s` is 1 or -1 -/
def Best (s : Int) (qs : List (Int × Int)) (t b : Int) : Prop := (t, b) ∈ qs ∧ ∀ q ∈ qs, s * (q.1 * b) ≤ s * (t * q.2)
theorem best_next {s t b t' b' : Int} {qs : List (Int × Int)} (h : Best s qs t b) (hp : ∀ q ∈ qs, 0 < q.2) (hb : 0 < b') :
    (s * (t * b') < s * (t' * b) → Best s (qs ++ [(t', b')]) t' b') ∧ (¬ s * (t * b') < s * (t' * b) → Best s (qs ++ [(t', b')]) t b) := by
  have b0 : 0 < b := hp _ h.1
  refine ⟨fun lt => ⟨by simp, fun q m => ?_⟩, fun nl => ⟨List.mem_append_left _ h.1, fun q m => ?_⟩⟩
  · rcases List.mem_append.mp m with m | m
    · have h1 := Int.mul_le_mul_of_nonneg_right (h.2 q m) (Int.le_of_lt hb)
      have q0 := hp q m
      have h2 := Int.mul_le_mul_of_nonneg_right (Int.le_of_lt lt) (Int.le_of_lt q0)
      have e1 : s * (q.1 * b) * b' = s * (q.1 * b') * b := by ac_rfl
      have e2 : s * (t * q.2) * b' = s * (t * b') * q.2 := by ac_rfl
      have e3 : s * (t' * b) * q.2 = s * (t' * q.2) * b := by ac_rfl
      rw [e1, e2] at h1
      rw [e3] at h2
      exact Int.le_of_mul_le_mul_right (Int.le_trans h1 h2) b0
    · obtain rfl := List.mem_singleton.mp m
      exact Int.le_refl _
  · rcases List.mem_append.mp m with m | m
    · exact h.2 q m
    · obtain rfl := List.mem_singleton.mp m
      exact Int.not_lt.mp nl
theorem best_one (s t b : Int) : Best s [(t, b)] t b := ⟨List.mem_singleton.mpr rfl, fun q m => by obtain rfl := List.mem_singleton.mp m; exact Int.le_refl _⟩
theorem best_top {s t b : Int} {qs : List (Int × Int)} (h : Best s qs t b) (hp : ∀ q ∈ qs, 0 < q.2) : t * (((lcmN qs : Nat) : Int) / b) ∈ topsN qs ∧ ∀ y ∈ topsN qs, s * y ≤ s * (t * (((lcmN qs : Nat) : Int) / b)) := by
  refine ⟨List.mem_map.mpr ⟨_, h.1, rfl⟩, fun y m => ?_⟩
  obtain ⟨q, mq, rfl⟩ := List.mem_map.mp m
  have b0 : 0 < b := hp _ h.1
  have q0 := hp q mq
  obtain ⟨c, ec⟩ := lcmN_dvd mq
  obtain ⟨c', ec'⟩ := lcmN_dvd h.1
  have e1 : ((lcmN qs : Nat) : Int) / q.2 = c := by rw [ec, Int.mul_ediv_cancel_left _ (by omega)]
  have e2 : ((lcmN qs : Nat) : Int) / b = c' := by rw [ec']; exact Int.mul_ediv_cancel_left _ (by omega)
  rw [e1, e2]
  have L0 : (0 : Int) ≤ ((lcmN qs : Nat) : Int) := Int.natCast_nonneg _
  have h1 := Int.mul_le_mul_of_nonneg_right (h.2 q mq) L0
  have e3 : s * (q.1 * b) * ((lcmN qs : Nat) : Int) = s * (q.1 * c) * (b * q.2) := by rw [ec]; ac_rfl
  have e4 : s * (t * q.2) * ((lcmN qs : Nat) : Int) = s * (t * c') * (b * q.2) := by rw [ec']; show s * (t * q.2) * (b * c') = _; ac_rfl
  rw [e3, e4] at h1
  exact Int.le_of_mul_le_mul_right h1 (Int.mul_pos b0 q0)
theorem best_low {s t b : Int} {qs : List (Int × Int)} (h : Best s qs t b) (hp : ∀ q ∈ qs, 0 < q.2) (lo : Low t b) : lowT (t * (((lcmN qs : Nat) : Int) / b)) ((lcmN qs : Nat) : Int) = t ∧ lowB (t * (((lcmN qs : Nat) : Int) / b)) ((lcmN qs : Nat) : Int) = b := by
  have b0 : 0 < b := hp _ h.1
  have lp := lcmN_pos hp
  obtain ⟨c', ec'⟩ := lcmN_dvd h.1
  have ec' : ((lcmN qs : Nat) : Int) = b * c' := ec'
  have e2 : ((lcmN qs : Nat) : Int) / b = c' := by rw [ec']; exact Int.mul_ediv_cancel_left _ (by omega)
  obtain ⟨a, d⟩ := low_eq (a := t * (((lcmN qs : Nat) : Int) / b)) (b := ((lcmN qs : Nat) : Int)) (c := t) (d := b) (by omega) (by omega) (by rw [e2, ec']; ac_rfl)
  obtain ⟨x, y⟩ := low_id lo
  exact ⟨a.trans x, d.trans y⟩
theorem foldl_le1 : ∀ (qs : List (Int × Int)) (a : Nat), (∀ q ∈ qs, q.2.natAbs < 2 ^ 100) → qs.foldl (fun a q => Nat.lcm a q.2.natAbs) a ≤ a * 2 ^ (100 * qs.length)
  | [], a, _ => by simp
  | q :: qs, a, h => by
    have h1 := foldl_le1 qs (Nat.lcm a q.2.natAbs) fun x m => h x (List.mem_cons_of_mem _ m)
    have h2 : Nat.lcm a q.2.natAbs ≤ a * 2 ^ 100 := Nat.le_trans (lcm_le _ _) (Nat.mul_le_mul_left _ (Nat.le_of_lt (h q (List.mem_cons_self ..))))
    rw [List.foldl_cons, List.length_cons]
    calc _ ≤ _ := h1
      _ ≤ (a * 2 ^ 100) * 2 ^ (100 * qs.length) := Nat.mul_le_mul_right _ h2
      _ = a * 2 ^ (100 * (qs.length + 1)) := by rw [Nat.mul_assoc, ← Nat.pow_add]; congr 2; omega
theorem lcmN_le1 {qs : List (Int × Int)} (h : ∀ q ∈ qs, q.2.natAbs < 2 ^ 100) (l : qs.length ≤ 4) : lcmN qs ≤ 2 ^ 400 := by
  have h1 := foldl_le1 qs 1 h
  rw [Nat.one_mul] at h1
  exact Nat.le_trans h1 (Nat.pow_le_pow_right (by decide) (by omega))
theorem sumN_le {qs : List (Int × Int)} (h : ∀ q ∈ qs, q.1.natAbs < 2 ^ 100 ∧ 0 < q.2 ∧ q.2.natAbs < 2 ^ 100) (l : qs.length ≤ 4) : ∀ i, i ≤ qs.length → (sumN qs i).natAbs ≤ i * 2 ^ 500
  | 0, _ => by simp [sumN]
  | i + 1, li => by
    have ih := sumN_le h l i (by omega)
    have lq : i < qs.length := by omega
    have hx : qs[i]? = some qs[i] := List.getElem?_eq_getElem lq
    obtain ⟨b1, b2, b3⟩ := h _ (List.getElem_mem lq)
    rw [sumN_next hx]
    have h1 := lcmN_le1 (fun q m => (h q m).2.2) l
    have h2 : (((lcmN qs : Nat) : Int) / qs[i].2).natAbs ≤ 2 ^ 400 := by
      refine Nat.le_trans ?_ h1
      have h1 : ((lcmN qs : Nat) : Int) / qs[i].2 ≤ ((lcmN qs : Nat) : Int) := Int.ediv_le_self _ (Int.natCast_nonneg _)
      have h2 : 0 ≤ ((lcmN qs : Nat) : Int) / qs[i].2 := Int.ediv_nonneg (Int.natCast_nonneg _) (by omega)
      omega
    have h3 : (qs[i].1 * (((lcmN qs : Nat) : Int) / qs[i].2)).natAbs ≤ 2 ^ 500 := by
      rw [Int.natAbs_mul, show (2 : Nat) ^ 500 = 2 ^ 100 * 2 ^ 400 from (Nat.pow_add 2 100 400)]
      exact Nat.mul_le_mul (Nat.le_of_lt b1) h2
    refine Nat.le_trans (Int.natAbs_add_le _ _) ?_
    rw [Nat.add_mul, Nat.one_mul]
    exact Nat.add_le_add ih h3
def MostAt (s : Int) (H : Hp) (v : V) (qs : List (Int × Int)) : Prop := (qs = [] ∧ v = .non) ∨ ∃ u t b, v = .ref u ∧ H u = some (.tup [.int t, .int b]) ∧ Best s qs t b
theorem MostAt.same {s : Int} {H H' : Hp} {v : V} {qs : List (Int × Int)} (h : MostAt s H v qs) (e : Same H H') : MostAt s H' v qs := by
  rcases h with h | ⟨u, t, b, h1, h2, h3⟩
  · exact .inl h
  · exact .inr ⟨u, t, b, h1, e _ _ h2, h3⟩
/-- equality of anything made of numbers: own, or of plain values -/
def rEqA (K : PySem.W.Frag) (C : Addr) (sp : Sp) : R2 := fun x y H Q => rEqN K C sp x y H Q ∨ rEq x y H Q
theorem o_eqA {X : Cx} {C : Addr} {sp : Sp} {k j : Nat} (d : EqA X.prog X.w X.K X.mg X.base k C sp) (hG : X.A.guards = some []) (hr : Room j X.A) (hk : k ≤ j) : OpR X (compareOp .Eq) (rEqA X.K C sp) := by
  intro pins s σ H x y v u Q I rx ry h
  rcases h with h | h
  · exact o_eqN d hG hr hk pins s σ H x y v u Q I rx ry h
  · exact op_eq pins s σ H x y v u Q I rx ry h
theorem cut_lo (xs : List V) (k : Nat) (h : k ≤ xs.length) : cutV xs none (some (k : Int)) = xs.take k := by
  unfold cutV
  rw [HT.sIx_none, HT.sIx_nat, Nat.min_eq_left h, List.drop_zero, Nat.sub_zero]
theorem r_sl {r : V → Option Int → Option Int → Hp → VK → Prop} {te : TE} {tl th : TO} {σ : L2.St} {H : Hp} {Q : VK} (h : te σ H fun x H1 => tl σ H1 fun l H2 => th σ H2 fun u H3 => r x l u H3 Q) : L2.tSl r te tl th σ H Q := h
theorem r_po0 {σ : L2.St} {H : Hp} {R : Option Int → Hp → Prop} (h : R none H) : tNoPart σ H R := h
theorem r_po1 {te : TE} {σ : L2.St} {H : Hp} {R : Option Int → Hp → Prop} (h : te σ H fun v H1 => ∃ i, v = .int i ∧ R (some i) H1) : tPart te σ H R := h
theorem r_slL {K : PySem.W.Frag} {a : Addr} {xs : List V} {lo hi : Option Int} {H : Hp} {Q : VK} (hx : SqL K H a xs) (h : ∀ p, H p = none → Q (.ref p) (upd H p (.lst (cutV xs lo hi)))) : rSlL K (.ref a) lo hi H Q := ⟨a, xs, rfl, hx, h⟩
def spLists : Sp := fun vs H Q _ => ∃ (b l : Addr) (n : Nat) (ts : List Addr) (ps : List (Int × Option Int)), vs = [.ref b, .ref l] ∧ BoxAt H b n ∧ n < 3000000 ∧ l ≠ b ∧ ts.length = 4 ∧ H l = some (.lst (ts.map V.ref)) ∧ PairsAt H ts ps ∧ (∀ q ∈ ps, Good q.1 q.2) ∧
  ∀ H', BoxAt H' b (n + 1) → But b H H' → Q (.bl true) H'
section
variable {P : Program} {w : World} {K : PySem.W.Frag} {mg : Str → Option Value} {base : Heap} {C Ce cz : Addr}
theorem ok_lists {f : Addr} {fd : FuncData} (F : Fun K "_law_lists_right" "_law_lists_right" s__law_lists_right f fd) (Z : Zs K mg C cz) (S : Sc K C) (d__law_take : DefD P w K mg base 1 "_law_take" 2 [] byPlace spTake) (d__law_made : DefD P w K mg base 5 "_law_made" 1 [] byPlace (spMade C)) (d__law_worth : DefD P w K mg base 3 "_law_worth" 1 [] byPlace spWorth) (d__law_low : DefD P w K mg base 2 "_law_low" 2 [] byPlace spLow) (d__law_is : DefD P w K mg base 1 "_law_is" 2 [] byPlace (spIs C)) (d_eq : EqA P w K mg base 6 C (spEq C K))
    (d_total : DefD P w K mg base 7 "total" 1 [] byPlace (spTotal C)) (d_total_numbers : DefD P w K mg base 7 "total" 0 ["numbers"] byBoth (spTotal C)) (d_greatest : DefD P w K mg base 7 "greatest" 1 [] byPlace (spMost C)) (d_greatest_numbers : DefD P w K mg base 7 "greatest" 0 ["numbers"] byBoth (spMost C)) (d_smallest : DefD P w K mg base 7 "smallest" 1 [] byPlace (spLeast C)) (d_smallest_numbers : DefD P w K mg base 7 "smallest" 0 ["numbers"] byBoth (spLeast C)) : FnG P w K mg base CX0 8 f fd ["box", "pairs"] spLists := by
  refine okG F sc__law_lists_right (fun vs H Q E h => ?_) (fun cdv B up z H vs Q E hG hr h => ?_)
  · obtain ⟨b, l, n, ts, ps, rfl, _⟩ := h
    rfl
  have hu : (B.deeper (PyProof.Rows.envOfC "_law_lists_right" (defScope s__law_lists_right) z.heap.objs.size f cdv)).units + 64 < cLine := by have := hr.un; omega
  refine ⟨_, (pss_cons (ps_set (i := 2) sc__law_lists_right.nd rfl (by first | exact Or.inl rfl | exact Or.inr rfl) (pd_pos d__law_take hG hr (by decide) (by rfl) (pa_cons (pv 0) (pa_cons pe_int pa_nil))))
  (pss_cons (ps_set (i := 3) sc__law_lists_right.nd rfl (by first | exact Or.inl rfl | exact Or.inr rfl) (pe_slice (show SlR _ (rSlL K) from sl_list) (pv 1) po_none (po_some (pv 2))))
  (pss_cons (ps_asg (pe_tup (pa_cons (pe_tup (pa_cons pe_int (pa_cons pe_int pa_nil))) (pa_cons pe_non (pa_cons pe_non pa_nil)))) (by (refine (show PG _ _ (gTup K 3 (gCons (gName 8) (gCons (gName 9) (gCons (gName 10) gNil)))) from ?_); refine pg_tup rfl (pgs_cons ?_ (pgs_cons ?_ (pgs_cons ?_ pgs_nil))); exact (pg_name (i := 8) sc__law_lists_right.nd rfl (by first | exact Or.inl rfl | exact Or.inr rfl)); exact (pg_name (i := 9) sc__law_lists_right.nd rfl (by first | exact Or.inl rfl | exact Or.inr rfl)); exact (pg_name (i := 10) sc__law_lists_right.nd rfl (by first | exact Or.inl rfl | exact Or.inr rfl)))))
  (pss_cons (ps_for PassesOwn.never rfl (pi_list (pv 3)) (pg_name (i := 4) sc__law_lists_right.nd rfl (by first | exact Or.inl rfl | exact Or.inr rfl))
  (pss_cons (ps_asg (pd_pos d__law_worth hG hr (by decide) (by rfl) (pa_cons (pv 4) pa_nil)) (by (refine (show PG _ _ (gTup K 2 (gCons (gName 11) (gCons (gName 12) gNil))) from ?_); refine pg_tup rfl (pgs_cons ?_ (pgs_cons ?_ pgs_nil)); exact (pg_name (i := 11) sc__law_lists_right.nd rfl (by first | exact Or.inl rfl | exact Or.inr rfl)); exact (pg_name (i := 12) sc__law_lists_right.nd rfl (by first | exact Or.inl rfl | exact Or.inr rfl)))))
  (pss_cons (ps_set (i := 8) sc__law_lists_right.nd rfl (by first | exact Or.inl rfl | exact Or.inr rfl) (pd_pos d__law_low hG hr (by decide) (by rfl) (pa_cons (pe_op op_add (pe_op op_mulW (pe_ix (show IxR _ (rIxT K) from ix_tup) (pv 8) pe_int (fun _ _ => rfl)) (pv 12)) (pe_op op_mulW (pv 11) (pe_ix (show IxR _ (rIxT K) from ix_tup) (pv 8) pe_int (fun _ _ => rfl)))) (pa_cons (pe_op op_mulW (pe_ix (show IxR _ (rIxT K) from ix_tup) (pv 8) pe_int (fun _ _ => rfl)) (pv 12)) pa_nil))))
  (pss_cons (ps_if (PW.pt (pw_or (pt_cmpR op_isN (pv 9) pe_non (nomark _)) (pw_or1 (pt_cmpR op_lt (pe_op op_mulW (pe_ix (show IxR _ (rIxT K) from ix_tup) (pv 9) pe_int (fun _ _ => rfl)) (pv 12)) (pe_op op_mulW (pv 11) (pe_ix (show IxR _ (rIxT K) from ix_tup) (pv 9) pe_int (fun _ _ => rfl))) (nomark _))))) (pss_one (ps_set (i := 9) sc__law_lists_right.nd rfl (by first | exact Or.inl rfl | exact Or.inr rfl) (pe_tup (pa_cons (pv 11) (pa_cons (pv 12) pa_nil))))) pss_nil)
  (pss_one (ps_if (PW.pt (pw_or (pt_cmpR op_isN (pv 10) pe_non (nomark _)) (pw_or1 (pt_cmpR op_lt (pe_op op_mulW (pv 11) (pe_ix (show IxR _ (rIxT K) from ix_tup) (pv 10) pe_int (fun _ _ => rfl))) (pe_op op_mulW (pe_ix (show IxR _ (rIxT K) from ix_tup) (pv 10) pe_int (fun _ _ => rfl)) (pv 12)) (nomark _))))) (pss_one (ps_set (i := 10) sc__law_lists_right.nd rfl (by first | exact Or.inl rfl | exact Or.inr rfl) (pe_tup (pa_cons (pv 11) (pa_cons (pv 12) pa_nil))))) pss_nil))))))
  (pss_cons (ps_set (i := 5) sc__law_lists_right.nd rfl (by first | exact Or.inl rfl | exact Or.inr rfl) (pe_lc (own := [("pair", 4)]) (tt := tYes) rfl sc__law_lists_right.nd (pi_list (pv 3)) (blkOk_by (N := ["box", "pairs", "many", "some", "pair", "numbers", "kept", "turn", "plus", "most", "least", "top", "bottom", "k"]) (sc := defScope s__law_lists_right) (by decide +kernel)) (fun _ _ _ _ _ => (pg_name (i := 4) sc__law_lists_right.nd rfl (by first | exact Or.inl rfl | exact Or.inr rfl))) (fun _ _ _ _ _ => pts_nil) (fun _ _ _ _ _ => (pd_pos d__law_made hG hr (by decide) (by rfl) (pa_cons (pv 4) pa_nil)))))
  (pss_cons (ps_set (i := 6) sc__law_lists_right.nd rfl (by first | exact Or.inl rfl | exact Or.inr rfl) (pe_callTy (show CallR _ _ (rListOf K) from c_list) (by rfl) Z.list_ (by decide +kernel) (pa_cons (pv 5) pa_nil)))
  (pss_cons (ps_for PassesOwn.never rfl (pi_range1 (by rfl) Z.range_ (pa_cons pe_int pa_nil)) (pg_name (i := 7) sc__law_lists_right.nd rfl (by first | exact Or.inl rfl | exact Or.inr rfl))
  (pss_cons (ps_if (PW.pt (pw_or (pt_not (pt_val (pd_pos d__law_is hG hr (by decide) (by rfl) (pa_cons (pd_pos d_total hG hr (by decide) (by rfl) (pa_cons (pv 5) pa_nil)) (pa_cons (pv 8) pa_nil))))) (pw_or1 (pt_not (pt_val (pd_pos d__law_is hG hr (by decide) (by rfl) (pa_cons (pd_kw0 d_total_numbers hG hr (by decide) (by rfl) (pk_cons (pe_callTy (show CallR _ _ (rTupleOf K) from c_tuple) (by rfl) Z.tuple_ (by decide +kernel) (pa_cons (pv 5) pa_nil)) pk_nil)) (pa_cons (pv 8) pa_nil)))))))) (pss_one (ps_ret pe_bl)) pss_nil)
  (pss_cons (ps_if (PW.pt (pw_and (pt_cmpR op_gt (pv 2) pe_int (nomark _)) (pw_and1 (pt_not (PW.pt (pw_and (pt_val (pd_pos d__law_is hG hr (by decide) (by rfl) (pa_cons (pd_pos d_greatest hG hr (by decide) (by rfl) (pa_cons (pv 5) pa_nil)) (pa_cons (pv 9) pa_nil)))) (pw_and1 (pt_val (pd_pos d__law_is hG hr (by decide) (by rfl) (pa_cons (pd_kw0 d_smallest_numbers hG hr (by decide) (by rfl) (pk_cons (pe_callTy (show CallR _ _ (rTupleOf K) from c_tuple) (by rfl) Z.tuple_ (by decide +kernel) (pa_cons (pv 5) pa_nil)) pk_nil)) (pa_cons (pv 10) pa_nil))))))))))) (pss_one (ps_ret pe_bl)) pss_nil)
  (pss_one (ps_if (PW.pt (pw_and (pt_cmpR op_gt (pv 2) pe_int (nomark _)) (pw_and1 (pt_not (PW.pt (pw_and (pt_val (pd_pos d__law_is hG hr (by decide) (by rfl) (pa_cons (pd_kw0 d_greatest_numbers hG hr (by decide) (by rfl) (pk_cons (pe_callTy (show CallR _ _ (rTupleOf K) from c_tuple) (by rfl) Z.tuple_ (by decide +kernel) (pa_cons (pv 5) pa_nil)) pk_nil)) (pa_cons (pv 9) pa_nil)))) (pw_and1 (pt_val (pd_pos d__law_is hG hr (by decide) (by rfl) (pa_cons (pd_pos d_smallest hG hr (by decide) (by rfl) (pa_cons (pv 5) pa_nil)) (pa_cons (pv 10) pa_nil))))))))))) (pss_one (ps_ret pe_bl)) pss_nil)))))
  (pss_one (ps_ret (pe_and (pe_cmpR op_eq (pe_callB (show CallR _ _ (rLen K) from c_len) (by rfl) Z.len_ (by decide +kernel) (pa_cons (pv 5) pa_nil)) (pv 2) (nomark _)) (pe_one (pe_cmpR (show OpR _ _ (rEqD K) from op_eqD hu) (pe_lc (own := [("k", 13)]) (tt := _) rfl sc__law_lists_right.nd (pi_range1 (by rfl) Z.range_ (pa_cons (pv 2) pa_nil)) (blkOk_by (N := ["box", "pairs", "many", "some", "pair", "numbers", "kept", "turn", "plus", "most", "least", "top", "bottom", "k"]) (sc := defScope s__law_lists_right) (by decide +kernel)) (fun _ _ _ _ _ => (pg_name (i := 13) sc__law_lists_right.nd rfl (by first | exact Or.inl rfl | exact Or.inr rfl))) (fun _ _ _ _ _ => (pts_one (pt_not (pt_cmpR (show OpR _ _ (rEqA K C (spEq C K)) from o_eqA (k := 6) (j := 7) d_eq hG hr (by decide)) (pe_ix (show IxR _ (rIxL K) from ix_list) (pv 5) (pv 13) (fun _ _ => rfl)) (pe_ix (show IxR _ (rIxL K) from ix_list) (pv 6) (pv 13) (fun _ _ => rfl)) (nomark _))))) (fun _ _ _ _ _ => (pv 13))) (pe_lst pa_nil) (nomark _))))))))))))), ?_⟩
  obtain ⟨b, l, n, ts, ps, rfl, hb, hn, lb, l4, hl, hp, hg, k⟩ := h
  walk_at "r"
  refine ⟨b, _, _, rfl, hb, by omega, by decide, by decide, fun m H1 m0 m5 b1 t1 => ?_⟩
  have l1 := t1 _ _ lb hl
  have p1 : PairsAt H1 ts ps := hp.to fun a x e => t1 _ _ (by rintro rfl; obtain ⟨_, _, _, _, e', _⟩ := hb; rw [e] at e'; cases e') e
  obtain ⟨m, rfl⟩ := Int.eq_ofNat_of_zero_le m0
  have m4 : m ≤ 4 := by omega
  walk_at "r"
  refine r_sl ?_
  walk_at "r"
  refine r_po0 (r_po1 ?_)
  walk_at "r"
  refine ⟨_, rfl, r_slL (SqL.of l1) fun c nc => ?_⟩
  rw [cut_lo _ m (by rw [List.length_map, l4]; exact m4), ← List.map_take]
  have sc := Same.upd_new (o := .lst ((ts.take m).map V.ref)) nc
  have gc : (upd H1 c (.lst ((ts.take m).map V.ref))) c = some (.lst ((ts.take m).map V.ref)) := upd_same
  generalize upd H1 c (.lst ((ts.take m).map V.ref)) = H2 at sc gc ⊢
  have p2 : PairsAt H2 (ts.take m) (ps.take m) := by
    have p2 := p1.to fun a x e => sc _ _ e
    refine ⟨by rw [List.length_take, List.length_take, p2.1], fun i t q a b => ?_⟩
    rw [List.getElem?_take] at a b
    split at a
    · rename_i h
      rw [if_pos h] at b
      exact p2.2 i t q a b
    · cases a
  have lm : (ts.take m).length = m := by rw [List.length_take, l4]; omega
  have g2 : ∀ q ∈ ps.take m, Good q.1 q.2 := fun q h => hg q (List.mem_of_mem_take h)
  generalize ts.take m = us at *
  generalize ps.take m = rs at *
  have lr : rs.length = m := p2.1 ▸ lm
  walk_at "r"
  refine ⟨by show 2 ≤ sizeLine; decide, fun u nu => ?_⟩
  have s3 := Same.upd_new (o := .tup [.int 0, .int 1]) nu
  have g3 : (upd H2 u (.tup [.int 0, .int 1])) u = some (.tup [.int 0, .int 1]) := upd_same
  generalize upd H2 u (.tup [.int 0, .int 1]) = H3 at s3 g3 ⊢
  walk_at "r"
  refine ⟨by show 3 ≤ sizeLine; decide, fun u' nu' => ?_⟩
  have s4 := Same.upd_new (o := .tup [.ref u, .non, .non]) nu'
  have g4 : (upd H3 u' (.tup [.ref u, .non, .non])) u' = some (.tup [.ref u, .non, .non]) := upd_same
  generalize upd H3 u' (.tup [.ref u, .non, .non]) = H4 at s4 g4 ⊢
  walk_at "r"
  refine ⟨u', _, rfl, SqT.of g4, rfl, _, _, rfl, ?_⟩
  walk_at "r"
  refine ⟨_, _, rfl, ?_⟩
  walk_at "r"
  refine ⟨_, _, rfl, ?_⟩
  walk_at "r"
  refine ⟨rfl, ?_⟩
  have pp4 := s4 _ _ g3
  have p4 : PairsAt H4 us rs := p2.to fun a x e => s4 _ _ (s3 _ _ e)
  have b4 : BoxAt H4 b (n + 1) := ((b1.same sc).same s3).same s4
  have t4 : But b H H4 := fun a o x e => s4 _ _ (s3 _ _ (sc _ _ (t1 a o x e)))
  have c4 : H4 c = some (.lst (us.map V.ref)) := s4 _ _ (s3 _ _ gc)
  clear s3 g3 g4 s4 nu nu' sc gc p2 b1 p1 l1
  -- the worths
  have hq : ∀ q ∈ rs.map wq, q.1.natAbs < 2 ^ 100 ∧ 0 < q.2 ∧ q.2.natAbs < 2 ^ 100 ∧ Low q.1 q.2 := by
    intro q mq
    obtain ⟨r, mr, rfl⟩ := List.mem_map.mp mq
    obtain ⟨_, _, lo, x, y⟩ := (g2 r mr).sm
    exact ⟨x, lo.pos, y, lo⟩
  have lq : (rs.map wq).length = m := by rw [List.length_map, lr]
  have hq' : ∀ q ∈ rs.map wq, q.1.natAbs < 2 ^ 100 ∧ 0 < q.2 ∧ q.2.natAbs < 2 ^ 100 := fun q h => ⟨(hq q h).1, (hq q h).2.1, (hq q h).2.2.1⟩
  have hp0 : ∀ q ∈ rs.map wq, 0 < q.2 := fun q h => (hq q h).2.1
  have lp := lcmN_pos hp0
  have ll := lcmN_le1 (fun q h => (hq q h).2.2.1) (lq ▸ m4)
  have L0 : ((lcmN (rs.map wq) : Nat) : Int) ≠ 0 := by omega
  have Lsm : ((lcmN (rs.map wq) : Nat) : Int).natAbs < 2 ^ 1500 := by rw [Int.natAbs_natCast]; exact Nat.lt_of_le_of_lt ll (Nat.pow_lt_pow_right (by decide) (by decide))
  have sS : ∀ i, i ≤ m → Sm (lowT (sumN (rs.map wq) i) ((lcmN (rs.map wq) : Nat) : Int)) ∧ Sm (lowB (sumN (rs.map wq) i) ((lcmN (rs.map wq) : Nat) : Int)) := fun i hi => by
    have h1 := sumN_le hq' (lq ▸ m4) i (lq ▸ hi)
    have h2 : i * 2 ^ 500 < 2 ^ 1500 := Nat.lt_of_le_of_lt (Nat.mul_le_mul_right _ (show i ≤ 4 by omega)) (by decide +kernel)
    exact ⟨Nat.lt_of_le_of_lt (lowT_le L0) (Nat.lt_of_le_of_lt h1 h2), Nat.lt_of_le_of_lt (lowB_le L0) Lsm⟩
  walk_at "r"
  with_reducible refine r_for ?_
  walk_at "r"
  refine ⟨_, rfl, c, rfl, ⟨_, SqL.of c4⟩, for_list (K := K) (a := c) (xs := us.map V.ref) (fun i τ T => ∃ (v4 v11 v12 : Option V) (pl : Addr) (mo le : V), τ = [some (.ref b), some (.ref l), some (.int (m : Nat)), some (.ref c), v4, none, none, none, some (.ref pl), some mo, some le, v11, v12, none] ∧ Same H4 T ∧
      T pl = some (.tup [.int (lowT (sumN (rs.map wq) i) ((lcmN (rs.map wq) : Nat) : Int)), .int (lowB (sumN (rs.map wq) i) ((lcmN (rs.map wq) : Nat) : Int))]) ∧ MostAt 1 T mo ((rs.map wq).take i) ∧ MostAt (-1) T le ((rs.map wq).take i)) ⟨none, none, none, u, .non, .non, rfl, Same.refl _, ?_, .inl ⟨rfl, rfl⟩, .inl ⟨rfl, rfl⟩⟩ (fun i τ T _ q => ?_) ?_ ?_⟩
  · obtain ⟨x, y⟩ := low_zero L0
    rw [show sumN (rs.map wq) 0 = 0 from rfl, x, y]
    exact pp4
  · obtain ⟨_, _, _, _, _, _, _, s, _⟩ := q
    exact SqL.of (s _ _ c4)
  · rintro i x τ T hx ⟨v4, v11, v12, pl, mo, le, rfl, sT, hpl, hmo, hle⟩
    obtain ⟨t, ht, rfl⟩ := ref_get hx
    have iu : i < us.length := (List.getElem?_eq_some_iff.mp ht).1
    have ir : i < rs.length := p4.1 ▸ iu
    have hr2 : rs[i]? = some rs[i] := List.getElem?_eq_getElem ir
    have pt := sT _ _ (p4.2 i t _ ht hr2)
    have gt := g2 _ (List.getElem_mem ir)
    have hq2 : (rs.map wq)[i]? = some (wq rs[i]) := by rw [List.getElem?_map, hr2]; rfl
    have gq := hq _ (List.mem_of_getElem? hq2)
    generalize rs[i] = r at *
    obtain ⟨a, ob⟩ := r
    walk_at "r"
    refine ⟨t, a, ob, rfl, pt, gt, fun w T1 s1 hw => ?_⟩
    have hn1 := sumN_next hq2
    have hstep := plus_step (x := lowT (sumN (rs.map wq) i) ((lcmN (rs.map wq) : Nat) : Int)) (y := lowB (sumN (rs.map wq) i) ((lcmN (rs.map wq) : Nat) : Int)) (t := (wq (a, ob)).1) (b := (wq (a, ob)).2) (S := sumN (rs.map wq) i) (by have := (low_low (a := sumN (rs.map wq) i) L0).pos; omega) (by have := gq.2.1; omega) L0 (low_ratio _ _) (lcmN_dvd (List.mem_of_getElem? hq2))
    rw [← hn1] at hstep
    have tk : (rs.map wq).take (i + 1) = (rs.map wq).take i ++ [wq (a, ob)] := take_next hq2
    have hp0' : ∀ q ∈ (rs.map wq).take i, 0 < q.2 := fun q h => hp0 q (List.mem_of_mem_take h)
    have hmost : ∀ s t b : Int, Best s ((rs.map wq).take i) t b → (s * (t * (wq (a, ob)).2) < s * ((wq (a, ob)).1 * b) → Best s ((rs.map wq).take (i + 1)) (wq (a, ob)).1 (wq (a, ob)).2) ∧ (¬ s * (t * (wq (a, ob)).2) < s * ((wq (a, ob)).1 * b) → Best s ((rs.map wq).take (i + 1)) t b) := fun s t b h => by
      rw [tk]
      exact best_next h hp0' gq.2.1
    have hone : ∀ s : Int, (rs.map wq).take i = [] → Best s ((rs.map wq).take (i + 1)) (wq (a, ob)).1 (wq (a, ob)).2 := fun s e => by
      rw [tk, e]
      exact best_one s _ _
    clear tk hn1
    obtain ⟨sx, sy⟩ := sS i (by omega)
    have y0 : lowB (sumN (rs.map wq) i) ((lcmN (rs.map wq) : Nat) : Int) ≠ 0 := by have := (low_low (a := sumN (rs.map wq) i) L0).pos; omega
    have hbs : ∀ q ∈ (rs.map wq).take i, Sm q.1 ∧ Sm q.2 := fun q h => ⟨Nat.lt_trans (hq q (List.mem_of_mem_take h)).1 s100, Nat.lt_trans (hq q (List.mem_of_mem_take h)).2.2.1 s100⟩
    have st : Sm (wq (a, ob)).1 := Nat.lt_trans gq.1 s100
    have sb : Sm (wq (a, ob)).2 := Nat.lt_trans gq.2.2.1 s100
    have b0 : (wq (a, ob)).2 ≠ 0 := by have := gq.2.1; omega
    change T1 w = some (.tup [.int (wq (a, ob)).1, .int (wq (a, ob)).2]) at hw
    generalize (wq (a, ob)).1 = tt at *
    generalize (wq (a, ob)).2 = bb at *
    walk_at "r"
    refine ⟨w, _, rfl, SqT.of hw, rfl, _, _, rfl, ?_⟩
    walk_at "r"
    refine ⟨_, _, rfl, ?_⟩
    walk_at "r"
    refine ⟨rfl, ?_⟩
    walk_at "r"
    have s1' := hpl
    have hpl1 := s1 _ _ hpl
    refine r_ixT (SqT.of hpl1) rfl ?_
    walk_at "r"
    refine r_i (sx.mul sb) ?_
    walk_at "r"
    refine r_ixT (SqT.of hpl1) rfl ?_
    walk_at "r"
    refine r_i (st.mul sy) ?_
    walk_at "r"
    refine r_ixT (SqT.of hpl1) rfl ?_
    walk_at "r"
    refine r_i (sy.mul sb) ?_
    walk_at "r"
    refine ⟨_, _, rfl, Int.mul_ne_zero y0 b0, sy.prod sb, fun pl' T2 s2 hp2 => ?_⟩
    rw [hstep.1, hstep.2] at hp2
    walk_at "r"
    have hmo2 := (hmo.same s1).same s2
    have hle2 := (hle.same s1).same s2
    have sT2 := (sT.trans s1).trans s2
    clear hmo hle s1 hpl1 s1'
    refine Or.elim hmo2 ?c1 ?c2
    case' c1 =>
      rintro ⟨e0, rfl⟩
      refine ⟨rfl, ?_⟩
      rw [decide_eq_true (show V.non = V.non from rfl)]
      walk_at "r"
      refine ⟨by show 2 ≤ sizeLine; decide, fun w5 nw5 => ?_⟩
      have s5 := Same.upd_new (o := .tup [.int tt, .int bb]) nw5
      have g5 : (upd T2 w5 (.tup [.int tt, .int bb])) w5 = some (.tup [.int tt, .int bb]) := upd_same
      generalize upd T2 w5 (.tup [.int tt, .int bb]) = T5 at s5 g5 ⊢
      have mo5 : MostAt 1 T5 (.ref w5) ((rs.map wq).take (i + 1)) := .inr ⟨w5, tt, bb, rfl, g5, hone 1 e0⟩
    case' c2 =>
      rintro ⟨u1, t1, b1, rfl, hu1, hb1⟩
      refine ⟨rfl, ?_⟩
      rw [decide_eq_false (show ¬ V.ref u1 = V.non from fun e => by cases e)]
      obtain ⟨st1, sb1⟩ := hbs _ hb1.1
      walk_at "r"
      refine r_ixT (SqT.of hu1) rfl ?_
      walk_at "r"
      refine r_i (st1.mul sb) ?_
      walk_at "r"
      refine r_ixT (SqT.of hu1) rfl ?_
      walk_at "r"
      refine r_i (st.mul sb1) ?_
      walk_at "r"
      refine (Decidable.em (t1 * bb < tt * b1)).elim ?c3 ?c4
      case' c3 =>
        intro lt
        rw [decide_eq_true lt]
        walk_at "r"
        refine ⟨by show 2 ≤ sizeLine; decide, fun w5 nw5 => ?_⟩
        have s5 := Same.upd_new (o := .tup [.int tt, .int bb]) nw5
        have g5 : (upd T2 w5 (.tup [.int tt, .int bb])) w5 = some (.tup [.int tt, .int bb]) := upd_same
        generalize upd T2 w5 (.tup [.int tt, .int bb]) = T5 at s5 g5 ⊢
        have mo5 : MostAt 1 T5 (.ref w5) ((rs.map wq).take (i + 1)) := .inr ⟨w5, tt, bb, rfl, g5, (hmost 1 _ _ hb1).1 (by rw [Int.one_mul, Int.one_mul]; exact lt)⟩
      case' c4 =>
        intro lt
        rw [decide_eq_false lt]
        have s5 := Same.refl T2
        have mo5 : MostAt 1 T2 (.ref u1) ((rs.map wq).take (i + 1)) := .inr ⟨u1, t1, b1, rfl, hu1, (hmost 1 _ _ hb1).2 (by rw [Int.one_mul, Int.one_mul]; exact lt)⟩
    all_goals
      have le5 := hle2.same s5
      have hp5 := s5 _ _ hp2
      have sT5 := sT2.trans s5
      clear hle2 hp2 sT2
      walk_at "r"
      rcases le5 with ⟨e0', rfl⟩ | ⟨u6, t6, b6, rfl, hu6, hb6⟩
      · refine ⟨rfl, ?_⟩
        rw [decide_eq_true (show V.non = V.non from rfl)]
        walk_at "r"
        refine ⟨by show 2 ≤ sizeLine; decide, fun w7 nw7 => ?_⟩
        have s7 := Same.upd_new (o := .tup [.int tt, .int bb]) nw7
        exact ⟨_, _, _, _, _, _, rfl, sT5.trans s7, s7 _ _ hp5, mo5.same s7, .inr ⟨w7, tt, bb, rfl, upd_same, hone (-1) e0'⟩⟩
      · refine ⟨rfl, ?_⟩
        rw [decide_eq_false (show ¬ V.ref u6 = V.non from fun e => by cases e)]
        obtain ⟨st6, sb6⟩ := hbs _ hb6.1
        walk_at "r"
        refine r_ixT (SqT.of hu6) rfl ?_
        walk_at "r"
        refine r_i (st.mul sb6) ?_
        walk_at "r"
        refine r_ixT (SqT.of hu6) rfl ?_
        walk_at "r"
        refine r_i (st6.mul sb) ?_
        walk_at "r"
        by_cases lt6 : tt * b6 < t6 * bb
        · rw [decide_eq_true lt6]
          walk_at "r"
          refine ⟨by show 2 ≤ sizeLine; decide, fun w7 nw7 => ?_⟩
          have s7 := Same.upd_new (o := .tup [.int tt, .int bb]) nw7
          exact ⟨_, _, _, _, _, _, rfl, sT5.trans s7, s7 _ _ hp5, mo5.same s7, .inr ⟨w7, tt, bb, rfl, upd_same, (hmost (-1) _ _ hb6).1 (by omega)⟩⟩
        · rw [decide_eq_false lt6]
          walk_at "r"
          exact ⟨_, _, _, _, _, _, rfl, sT5, hp5, mo5, .inr ⟨u6, t6, b6, rfl, hu6, (hmost (-1) _ _ hb6).2 (by omega)⟩⟩
  · rintro τ T ⟨v4, v11, v12, pl, mo, le, rfl, sT, hpl, hmo, hle⟩
    rw [List.length_map, lm] at hpl hmo hle
    rw [show m = (rs.map wq).length from lq.symm, sumN_all] at hpl
    rw [List.take_of_length_le (by omega)] at hmo hle
    have cT := sT _ _ c4
    have pT : PairsAt T us rs := p4.to fun a x e => sT _ _ e
    have bT := b4.same sT
    have tT : But b H T := fun a o x e => sT _ _ (t4 a o x e)
    clear sT c4 p4 b4 t4 pp4
    have h4 : Nums4 (rs.map wq) := ⟨by omega, fun q h => ⟨(hq q h).2.1, Nat.lt_trans (hq q h).1 (by decide +kernel), Nat.lt_trans (hq q h).2.2.1 (by decide +kernel)⟩⟩
    walk_at "r"
    refine r_lc ?_
    walk_at "r"
    refine ⟨_, rfl, c, rfl, ⟨_, SqL.of cT⟩, fun D hD => ?_⟩
    refine it_list (xs := us.map V.ref) (fun i A => Same T A ∧ ∃ ns : List V, ns.length = i ∧ A D = some (.lst ns) ∧ NumsAt C A ns ((rs.map wq).take i)) ⟨Same.upd_new hD, [], rfl, upd_same, rfl, fun _ _ _ e => by cases e⟩ (fun i A _ p => SqL.of (p.1 _ _ cT)) (fun i x A hx p => ?_) (fun A p => ?_)
    · obtain ⟨sA, ns, hl, dA, hN⟩ := p
      obtain ⟨t, ht, rfl⟩ := ref_get hx
      have iu : i < us.length := (List.getElem?_eq_some_iff.mp ht).1
      have ir : i < rs.length := pT.1 ▸ iu
      have hr2 : rs[i]? = some rs[i] := List.getElem?_eq_getElem ir
      have pt := sA _ _ (pT.2 i t _ ht hr2)
      have gt := g2 _ (List.getElem_mem ir)
      have hq2 : (rs.map wq)[i]? = some (wq rs[i]) := by rw [List.getElem?_map, hr2]; rfl
      have tk : (rs.map wq).take (i + 1) = (rs.map wq).take i ++ [wq rs[i]] := take_next hq2
      refine r_gname ⟨rfl, ?_⟩
      walk_at "r"
      refine ⟨t, _, _, rfl, pt, gt, fun A2 v s2 hv => ?_⟩
      have nv := made_num hv
      have d2 := s2 _ _ dA
      refine ⟨ns, d2, by rw [sizeLine_eq]; omega, Same.over (sA.trans s2) hD, ns ++ [v], by rw [List.length_append, hl]; rfl, upd_same, by rw [tk, List.length_append, List.length_append, hN.1]; rfl, fun j y q e1 e2 => ?_⟩
      have r2 : NumAt C A2 y q.1 q.2 := by
        rw [tk] at e2
        by_cases cj : j < ns.length
        · rw [List.getElem?_append_left cj] at e1
          rw [List.getElem?_append_left (hN.1 ▸ cj)] at e2
          exact (hN.2 j y q e1 e2).same s2
        · have cj : j = ns.length := by
            have := (List.getElem?_eq_some_iff.mp e1).1
            rw [List.length_append] at this
            simp at this
            omega
          subst cj
          rw [List.getElem?_append_right (by omega), Nat.sub_self] at e1
          rw [List.getElem?_append_right (by rw [hN.1]; omega), hN.1, Nat.sub_self] at e2
          cases e1
          cases e2
          exact nv
      rcases r2 with ⟨x1, x2⟩ | ⟨p, e, dx, ex⟩
      · exact .inl ⟨x1, x2⟩
      · exact .inr ⟨p, e, dx, by rw [upd_ne (ne_of ex d2 (by intro z; cases z))]; exact ex⟩
    obtain ⟨sA, ns, hl, dA, hN⟩ := p
    rw [List.length_map, lm] at hl hN
    rw [List.take_of_length_le (by omega)] at hN
    have hpl := sA _ _ hpl
    have hmo := hmo.same sA
    have hle := hle.same sA
    have bA := bT.same sA
    have tA : But b H A := fun a o x e => sA _ _ (tT a o x e)
    clear sA cT pT bT tT hD
    walk_at "r"
    refine r_listL (SqL.of dA) fun kp nkp => ?_
    have sk := Same.upd_new (o := .lst ns) nkp
    have gk : (upd A kp (.lst ns)) kp = some (.lst ns) := upd_same
    generalize upd A kp (.lst ns) = H6 at sk gk ⊢
    walk_at "r"
    with_reducible refine r_for ?_
    walk_at "r"
    have dN := sk _ _ dA
    have hN := hN.same sk
    have hpl := sk _ _ hpl
    have bA := bA.same sk
    have tA : But b H H6 := fun a o x e => sk _ _ (tA a o x e)
    have hM : 0 < m → ∃ u t b, mo = .ref u ∧ H6 u = some (.tup [.int t, .int b]) ∧ ∀ (H' : Hp) (q : Addr) (x : Int), x ∈ topsN (rs.map wq) → (∀ y ∈ topsN (rs.map wq), y ≤ x) → RatAt C H' q (lowT x ((lcmN (rs.map wq) : Nat) : Int)) (lowB x ((lcmN (rs.map wq) : Nat) : Int)) → RatAt C H' q t b := by
      intro m0
      rcases hmo with ⟨e, _⟩ | ⟨u, t, b, e, hu, hb⟩
      · rw [e] at lq; simp at lq; omega
      · refine ⟨u, t, b, e, sk _ _ hu, fun H' q x hx hxl rq => ?_⟩
        obtain ⟨m1, m2⟩ := best_top hb hp0
        have e1 : x = t * (((lcmN (rs.map wq) : Nat) : Int) / b) := by
          have := m2 x hx
          have := hxl _ m1
          omega
        obtain ⟨y1, y2⟩ := best_low hb hp0 (hq _ hb.1).2.2.2
        rw [e1, y1, y2] at rq
        exact rq
    have hL : 0 < m → ∃ u t b, le = .ref u ∧ H6 u = some (.tup [.int t, .int b]) ∧ ∀ (H' : Hp) (q : Addr) (x : Int), x ∈ topsN (rs.map wq) → (∀ y ∈ topsN (rs.map wq), x ≤ y) → RatAt C H' q (lowT x ((lcmN (rs.map wq) : Nat) : Int)) (lowB x ((lcmN (rs.map wq) : Nat) : Int)) → RatAt C H' q t b := by
      intro m0
      rcases hle with ⟨e, _⟩ | ⟨u, t, b, e, hu, hb⟩
      · rw [e] at lq; simp at lq; omega
      · refine ⟨u, t, b, e, sk _ _ hu, fun H' q x hx hxl rq => ?_⟩
        obtain ⟨m1, m2⟩ := best_top hb hp0
        have e1 : x = t * (((lcmN (rs.map wq) : Nat) : Int) / b) := by
          have := m2 x hx
          have := hxl _ m1
          omega
        obtain ⟨y1, y2⟩ := best_low hb hp0 (hq _ hb.1).2.2.2
        rw [e1, y1, y2] at rq
        exact rq
    clear hmo hle sk dA
    refine ⟨_, rfl, by decide, by decide, ?_⟩
    refine for_range (fun i τ T => ∃ v7 : Option V, τ = [some (.ref b), some (.ref l), some (.int (m : Nat)), some (.ref c), v4, some (.ref D), some (.ref kp), v7, some (.ref pl), some mo, some le, v11, v12, none] ∧ Same H6 T) ⟨none, rfl, Same.refl _⟩ ?_ ?_
    · rintro i τ T hi ⟨v7, rfl, sT⟩
      walk_at "r"
      refine ⟨D, ns, _, rfl, .inl (sT _ _ dN), hN.same sT, h4, fun T1 q1 s1 rq1 => ?_⟩
      have t1 := sT.trans s1
      walk_at "r"
      refine ⟨q1, pl, _, _, rfl, rq1, t1 _ _ hpl, fun T2 s2 => ?_⟩
      have t2 := t1.trans s2
      walk_at "r"
      refine r_tupleL (SqL.of (t2 _ _ dN)) fun k3 nk3 => ?_
      have s3 := Same.upd_new (o := .tup ns) nk3
      have g3 : (upd T2 k3 (.tup ns)) k3 = some (.tup ns) := upd_same
      generalize upd T2 k3 (.tup ns) = T3 at s3 g3 ⊢
      have t3 := t2.trans s3
      walk_at "r"
      refine ⟨k3, ns, _, rfl, .inr g3, hN.same t3, h4, fun T4 q4 s4 rq4 => ?_⟩
      have t4 := t3.trans s4
      walk_at "r"
      refine ⟨q4, pl, _, _, rfl, rq4, t4 _ _ hpl, fun T5 s5 => ?_⟩
      have t5 := t4.trans s5
      walk_at "r"
      by_cases m0 : 0 < m
      · obtain ⟨ug, tg, bg, rfl, hug, hM⟩ := hM m0
        obtain ⟨ul, tl, bl, rfl, hul, hL⟩ := hL m0
        rw [decide_eq_true (show (0 : Int) < (m : Int) by omega)]
        walk_at "r"
        refine ⟨D, ns, _, rfl, .inl (t5 _ _ dN), hN.same t5, h4, by omega, fun x hx hxl T6 q6 s6 rq6 => ?_⟩
        have t6 := t5.trans s6
        walk_at "r"
        refine ⟨q6, ug, _, _, rfl, hM _ _ x hx hxl rq6, t6 _ _ hug, fun T7 s7 => ?_⟩
        have t7 := t6.trans s7
        walk_at "r"
        refine r_tupleL (SqL.of (t7 _ _ dN)) fun k8 nk8 => ?_
        have s8 := Same.upd_new (o := .tup ns) nk8
        have g8 : (upd T7 k8 (.tup ns)) k8 = some (.tup ns) := upd_same
        generalize upd T7 k8 (.tup ns) = T8 at s8 g8 ⊢
        have t8 := t7.trans s8
        walk_at "r"
        refine ⟨k8, ns, _, rfl, .inr g8, hN.same t8, h4, by omega, fun x9 hx9 hxl9 T9 q9 s9 rq9 => ?_⟩
        have t9 := t8.trans s9
        walk_at "r"
        refine ⟨q9, ul, _, _, rfl, hL _ _ x9 hx9 hxl9 rq9, t9 _ _ hul, fun T10 s10 => ?_⟩
        have t10 := t9.trans s10
        walk_at "r"
        rw [decide_eq_true (show (0 : Int) < (m : Int) by omega)]
        walk_at "r"
        refine r_tupleL (SqL.of (t10 _ _ dN)) fun k11 nk11 => ?_
        have s11 := Same.upd_new (o := .tup ns) nk11
        have g11 : (upd T10 k11 (.tup ns)) k11 = some (.tup ns) := upd_same
        generalize upd T10 k11 (.tup ns) = T11 at s11 g11 ⊢
        have t11 := t10.trans s11
        walk_at "r"
        refine ⟨k11, ns, _, rfl, .inr g11, hN.same t11, h4, by omega, fun x12 hx12 hxl12 T12 q12 s12 rq12 => ?_⟩
        have t12 := t11.trans s12
        walk_at "r"
        refine ⟨q12, ug, _, _, rfl, hM _ _ x12 hx12 hxl12 rq12, t12 _ _ hug, fun T13 s13 => ?_⟩
        have t13 := t12.trans s13
        walk_at "r"
        refine ⟨D, ns, _, rfl, .inl (t13 _ _ dN), hN.same t13, h4, by omega, fun x14 hx14 hxl14 T14 q14 s14 rq14 => ?_⟩
        have t14 := t13.trans s14
        walk_at "r"
        refine ⟨q14, ul, _, _, rfl, hL _ _ x14 hx14 hxl14 rq14, t14 _ _ hul, fun T15 s15 => ?_⟩
        have t15 := t14.trans s15
        walk_at "r"
        exact ⟨_, rfl, t15⟩
      · rw [decide_eq_false (show ¬ (0 : Int) < (m : Int) by omega)]
        walk_at "r"
        rw [decide_eq_false (show ¬ (0 : Int) < (m : Int) by omega)]
        walk_at "r"
        exact ⟨_, rfl, t5⟩
    · rintro τ T ⟨v7, rfl, sT⟩
      have dT := sT _ _ dN
      have kT := sT _ _ gk
      have hN := hN.same sT
      have bT := bA.same sT
      have tT : But b H T := fun a o x e => sT _ _ (tA a o x e)
      walk_at "r"
      refine r_lenL (SqL.of dT) ?_
      walk_at "r"
      rw [decide_eq_true (show V.int (ns.length : Nat) = V.int (m : Nat) by rw [hl])]
      walk_at "r"
      refine r_lc ?_
      walk_at "r"
      refine ⟨_, rfl, by omega, by omega, fun E1 nE1 => ?_⟩
      refine it_range (n := m) (fun i A => Same T A ∧ A E1 = some (.lst [])) ⟨Same.upd_new nE1, upd_same⟩ (fun i A hi p => ?_) (fun A p => ?_)
      · obtain ⟨sA, eA⟩ := p
        have il : i < ns.length := by omega
        have iq : i < (rs.map wq).length := by omega
        have x1 : ns[i]? = some ns[i] := List.getElem?_eq_getElem il
        have x2 : (rs.map wq)[i]? = some (rs.map wq)[i] := List.getElem?_eq_getElem iq
        have nv := (hN.2 i _ _ x1 x2).same sA
        generalize ns[i] = y at *
        generalize (rs.map wq)[i] = q at *
        refine r_gname ⟨rfl, ?_⟩
        rw [Int.zero_add]
        walk_at "r"
        refine r_ixL (SqL.of (sA _ _ dT)) (atI_nat (v := y) x1) ?_
        walk_at "r"
        refine r_ixL (SqL.of (sA _ _ kT)) (atI_nat (v := y) x1) ?_
        walk_at "r"
        rcases nv with ⟨rfl, ed⟩ | ⟨p, rfl, rp⟩
        · refine .inr ⟨rfl, _, rfl, ?_⟩
          rw [decide_eq_true rfl]
          exact iteNT ⟨sA, eA⟩
        · refine .inl (.inl (nn_eq1 S rp (.inr ⟨p, rfl, rp⟩) (fun A1 s1 => ⟨_, rfl, ?_⟩)))
          rw [decide_eq_true rfl, decide_eq_true rfl]
          exact iteNT ⟨sA.trans s1, s1 _ _ eA⟩
      · obtain ⟨sA, eA⟩ := p
        walk_at "r"
        refine ⟨by show 0 ≤ sizeLine; decide, fun e9 ne9 => ?_⟩
        have s9 := Same.upd_new (o := .lst []) ne9
        have g9 : (upd A e9 (.lst [])) e9 = some (.lst []) := upd_same
        generalize upd A e9 (.lst []) = A9 at s9 g9 ⊢
        refine ⟨.list [], .list [], .lst (SqL.of (s9 _ _ eA)) .nil, .lst (SqL.of g9) .nil, by decide +kernel, by decide +kernel, ?_⟩
        have sf := sA.trans s9
        exact k _ (bT.same sf) (fun a o x e => sf _ _ (tT a o x e))
end
end Eld
set_option Elab.async false
set_option maxRecDepth 100000
set_option maxHeartbeats 4000000
set_option linter.all false
namespace Eld
open PySem L2
local macro_rules | `(tactic| walk_at "r1") => `(tactic| with_reducible first
  | refine r_seq ?_ | refine r_asgN ?_ | refine r_asg ?_ | refine r_gname ?_ | refine r_gsub ?_ | refine r_var rfl ?_ | refine r_c ?_ | refine r_op ?_ | refine r_un ?_ | refine r_u ?_ | refine r_i0 ?_ | refine r_cb ?_ | refine r_cons ?_ | refine r_nil ?_ | refine r_cl ?_ | refine r_fn rfl rfl ?_ | refine r_mt ?_
  | refine r_test ?_ | refine r_tb ?_ | refine r_bl ?_ | refine r_and ?_ | refine r_or ?_ | refine r_not ?_ | refine r_andV ?_ | refine r_orV ?_ | refine r_notV ?_ | refine r_ifX ?_ | refine r_ifs ?_ | refine r_chain ?_ | refine r_ret ?_ | refine r_next ?_ | refine r_drop ?_ | refine iteT ?_ | refine iteF ?_ | refine iteNT ?_ | refine iteNF ?_
  | refine r_int1 ?_ | refine r_boolB ?_ | refine r_eqI ?_ | refine r_neI ?_ | refine r_eqB ?_ | refine r_neB ?_ | refine r_eqS ?_ | refine r_neS ?_ | refine r_abs ?_ | refine r_max2 ?_ | refine r_min2 ?_ | refine r_yes ?_ | refine r_tup ?_ | refine r_sfld ?_ | refine r_m0 ?_ | refine r_m1 ?_ | refine r_lst ?_ | refine r_rng1 ?_ | refine r_rng2 ?_ | refine r_ixL (SqL.of (by assumption)) rfl ?_)
local macro_rules | `(tactic| walk_at "r") => `(tactic| repeat (first | walk_at "r1" | ((with_reducible refine r_var ?hv ?_); (case hv => rfl))))

open SX (S S_len S_cat S_inj num_S partition_some partition_none par_head par_head_none int_S)
local macro_rules | `(tactic| walk_at "r1") => `(tactic| with_reducible first | refine r_clS ?_ | refine r_fnS rfl rfl ?_ | refine r_mtS ?_ | refine r_mkO ?_ | refine r_par ?_)
/-! ## lines of numbers, as codes -/
def isD (c : Nat) : Bool := decide (48 ≤ c) && decide (c ≤ 57)
def isNum (l : List Nat) : Bool := !l.isEmpty && l.all isD
theorem uni_digit : ∀ c : Nat, c < 128 → Unicode.isDigit c = isD c := by decide +kernel
theorem dig_S (l : List Nat) : (Txt.isascii (S l) && Txt.isdigit (S l)) = isNum l := by
  have h1 : Txt.isascii (S l) = l.all (· < 128) := by unfold Txt.isascii S; simp
  have h2 : Txt.isdigit (S l) = (!l.isEmpty && l.all Unicode.isDigit) := by
    unfold Txt.isdigit
    rw [S_len]
    congr 1
    · cases l <;> simp
    · simp [S]
  rw [h1, h2]
  unfold isNum
  by_cases h : l.all (· < 128) = true
  · rw [h, Bool.true_and]
    congr 1
    rw [Bool.eq_iff_iff, List.all_eq_true, List.all_eq_true]
    rw [List.all_eq_true] at h
    exact ⟨fun g c m => by rw [← uni_digit c (of_decide_eq_true (h c m))]; exact g c m, fun g c m => by rw [uni_digit c (of_decide_eq_true (h c m))]; exact g c m⟩
  · rw [Bool.not_eq_true] at h
    rw [h, Bool.false_and]
    symm
    rw [Bool.and_eq_false_iff]
    right
    rw [Bool.eq_false_iff]
    intro g
    rw [← Bool.not_eq_true, List.all_eq_true] at h
    rw [List.all_eq_true] at g
    refine h fun c m => decide_eq_true ?_
    have := g c m
    unfold isD at this
    simp at this
    omega
theorem isNum_iff {l : List Nat} : isNum l = true ↔ l ≠ [] ∧ NumText.AllDigits l := by
  unfold isNum
  rw [Bool.and_eq_true, List.all_eq_true]
  refine ⟨fun ⟨a, b⟩ => ⟨by cases l <;> simp_all, fun c m => by have := b c m; unfold isD at this; simpa using this⟩, fun ⟨a, b⟩ => ⟨by cases l <;> simp_all, fun c m => by have := b c m; unfold isD; simpa using this⟩⟩
theorem val_lt : ∀ (cs : List Nat) (a : Nat), NumText.AllDigits cs → cs.foldl (fun acc c => acc * 10 + (c - 48)) a < (a + 1) * 10 ^ cs.length
  | [], a, _ => by simp
  | c :: cs, a, h => by
    have ih := val_lt cs (a * 10 + (c - 48)) fun x m => h x (List.mem_cons_of_mem _ m)
    have hc := h c (List.mem_cons_self ..)
    rw [List.foldl_cons, List.length_cons]
    refine Nat.lt_of_lt_of_le ih ?_
    rw [Nat.pow_succ, Nat.mul_comm (10 ^ cs.length) 10, ← Nat.mul_assoc]
    exact Nat.mul_le_mul_right _ (by omega)
theorem digits_lt {cs : List Nat} (h : NumText.AllDigits cs) : NumText.digitsVal cs < 10 ^ cs.length := by
  have := val_lt cs 0 h
  rw [Nat.zero_add, Nat.one_mul] at this
  exact this
/-- the codes of an integer -/
def numI (n : Int) : List Nat := if n < 0 then 45 :: TL.numL n.natAbs else TL.numL n.natAbs
theorem numS_S (n : Int) : numS n = S (numI n) := by
  unfold numS numI
  cases n with
  | ofNat k => exact num_S k
  | negSucc k =>
    rw [if_pos (Int.negSucc_lt_zero k)]
    refine TL.ext_tl ?_
    have h1 := TL.tl_num (k + 1)
    rw [TL.tl_ofString] at h1 ⊢
    show ((toString (Int.negSucc k)).toList.map Char.toNat) = 45 :: TL.numL (k + 1)
    rw [← h1]
    show (("-" ++ (toString (k + 1))).toList.map Char.toNat) = _
    rw [String.toList_append, List.map_append]
    rfl
def lineL (n d : Int) : List Nat := if d = 1 then numI n else numI n ++ 47 :: TL.numL d.natAbs
theorem line_S {n d : Int} (h : 0 < d) : lineR n d = S (lineL n d) := by
  unfold lineR lineL
  split
  · exact numS_S n
  · have : numI d = TL.numL d.natAbs := by unfold numI; rw [if_neg (by omega)]
    rw [numS_S, numS_S, this, show ("/" : Str) = S [47] by decide +kernel, S_cat, S_cat, List.append_assoc]
    rfl
theorem cut_at (x : Nat) : ∀ l : List Nat, x ∉ l ∨ ∃ p q, l = p ++ x :: q ∧ x ∉ p
  | [] => .inl (by simp)
  | c :: l => by
    by_cases h : c = x
    · exact .inr ⟨[], l, by rw [h]; rfl, by simp⟩
    · rcases cut_at x l with g | ⟨p, q, e, g⟩
      · exact .inl (by simp [g, Ne.symm h])
      · exact .inr ⟨c :: p, q, by rw [e]; rfl, by simp [g, Ne.symm h]⟩
theorem part_no {l : List Nat} (h : 47 ∉ l) : Txt.partition (S l) (S [47]) = (S l, S [], S []) := partition_none (by simp) (par_head_none h)
theorem part_at {p q : List Nat} (h : 47 ∉ p) : Txt.partition (S (p ++ 47 :: q)) (S [47]) = (S p, S [47], S q) := partition_some (by simp) (par_head (sep := []) q h)
/-- what is behind a sign -/
def unsigned : List Nat → List Nat
  | [] => []
  | c :: l => if c = 45 then l else c :: l
theorem rem_S (l : List Nat) : Txt.removeprefix (S l) (S [45]) = S (unsigned l) := by
  cases l with
  | nil => decide +kernel
  | cons c l =>
    rw [StrLaws.removeprefix_eq]
    have hs : Builtin.Str.subAt (S (c :: l)) (S [45]) 0 = decide (c = 45) := by
      rw [Bool.eq_iff_iff, decide_eq_true_eq]
      simp [Builtin.Str.subAt, S, Str.length]
    rw [hs, S_len, S_len]
    by_cases h : c = 45
    · rw [decide_eq_true h]
      simp [unsigned, h, S]
    · rw [decide_eq_false h]
      simp [unsigned, h]
/-- the integer of a text of digits, perhaps behind a sign -/
def valI (t : List Nat) : Int := if t.head? = some 45 then -((NumText.digitsVal (unsigned t) : Nat) : Int) else ((NumText.digitsVal t : Nat) : Int)
theorem int_val {t : List Nat} (h : isNum (unsigned t) = true) (hl : t.length ≤ 4300) : intText? (S t) = some (valI t) ∧ (valI t).natAbs < 10 ^ t.length := by
  obtain ⟨h1, h2⟩ := isNum_iff.mp h
  cases t with
  | nil => exact absurd rfl h1
  | cons c l =>
    by_cases e : c = 45
    · subst e
      have eu : unsigned (45 :: l) = l := rfl
      rw [eu] at h1 h2
      have ev : valI (45 :: l) = -((NumText.digitsVal l : Nat) : Int) := rfl
      rw [ev]
      refine ⟨PySem.intText_neg (cs := l) rfl h2 h1 (by rw [S_len]; exact hl), ?_⟩
      rw [Int.natAbs_neg, Int.natAbs_natCast, List.length_cons]
      exact Nat.lt_of_lt_of_le (digits_lt h2) (Nat.pow_le_pow_right (by decide) (by omega))
    · have eu : unsigned (c :: l) = c :: l := by simp [unsigned, e]
      rw [eu] at h1 h2
      have ev : valI (c :: l) = ((NumText.digitsVal (c :: l) : Nat) : Int) := by simp [valI, e]
      rw [ev]
      refine ⟨PySem.intText_digits (x := S (c :: l)) h2 h1 (by rw [S_len]; exact hl), ?_⟩
      rw [Int.natAbs_natCast]
      exact digits_lt h2
theorem numL_num (n : Nat) : isNum (TL.numL n) = true := isNum_iff.mpr ⟨TL.numL_ne n, TL.numL_digits n⟩
theorem numI_un (n : Int) : unsigned (numI n) = TL.numL n.natAbs ∧ valI (numI n) = n := by
  unfold numI
  by_cases h : n < 0
  · rw [if_pos h]
    refine ⟨rfl, ?_⟩
    show -((NumText.digitsVal (TL.numL n.natAbs) : Nat) : Int) = n
    rw [TL.numL_val]
    omega
  · rw [if_neg h]
    have h45 : 45 ∉ TL.numL n.natAbs := TL.numL_free (by decide)
    have hv := TL.numL_val n.natAbs
    cases e : TL.numL n.natAbs with
    | nil => exact absurd e (TL.numL_ne _)
    | cons c l =>
      rw [e] at h45 hv
      have ce : ¬ c = 45 := fun z => h45 (z ▸ List.mem_cons_self ..)
      refine ⟨by simp [unsigned, ce], ?_⟩
      simp only [valI, List.head?_cons, Option.some.injEq, ce, if_false]
      rw [hv]
      omega
theorem numI_free (n : Int) : 47 ∉ numI n := by
  have := TL.numL_free (n := n.natAbs) (s := 47) (by decide)
  unfold numI
  split
  · simp [this]
  · exact this
theorem numI_len {n : Int} (h : n.natAbs < 10 ^ 150) : (numI n).length ≤ 151 := by
  have := TL.numL_len (by decide) h
  unfold numI
  split
  · rw [List.length_cons]; omega
  · omega
/-- a text that is the line of no number -/
def NoLine (a : List Nat) : Prop := ∀ n d : Int, Low n d → a ≠ lineL n d
def spRead (C Ce : Addr) (K : PySem.W.Frag) : Sp := fun vs H Q E => ∃ v, vs = [v] ∧
  ((∃ n d, v = .str (S (lineL n d)) ∧ Low n d ∧ n.natAbs < 10 ^ 150 ∧ d.natAbs < 10 ^ 150 ∧ ∀ H' p, Same H H' → RatAt C H' p n d → Q (.ref p) H') ∨
   (∃ t, TyX K H v t ∧ Kind C t ∧ t ≠ .type "str" ∧ errE E Ce v H) ∨ ∃ a, v = .str (S a) ∧ a.length ≤ 400 ∧ NoLine a ∧ errE E Ce v H)
section
variable {P : Program} {w : World} {K : PySem.W.Frag} {mg : Str → Option Value} {base : Heap} {C Ce Cn cz : Addr}
theorem ok_read {f : Addr} {fd : FuncData} (F : Fun K "read_number" "read_number" s_read_number f fd) (Z : Zs K mg C cz) (Sx : Sc K C) (d_is_digits : DefD P w K mg base 1 "is_digits" 1 [] byPlace spIsDigits) (k_Ratio : MakX P w K mg base 3 "Ratio" C 2 [] byPlace (spRatI C Cn cz K)) (d_str : StrA P w K mg base 1 C (spStr C)) (d_InvalidLine : ErrD P w K mg base "InvalidLine" Ce) : FnG P w K mg base (L2.CX P w) 5 f fd ["line"] (spRead C Ce K) := by
  refine okGX F sc_read_number (fun vs H Q E h => ?_) (fun cdv B up z H vs Q E hG hr h => ?_)
  · obtain ⟨v, rfl, _⟩ := h
    rfl
  refine ⟨_, (pss_cons (ps_if (pt_not (pt_val (pe_callB call_isi (by rfl) Z.isinstance_ (by decide +kernel) (pa_cons (pv 0) (pa_cons (pe_ty "str" (by rfl) Z.str_ (by decide +kernel)) pa_nil))))) (pss_one (ps_err d_InvalidLine rfl (takes_of rfl rfl rfl rfl) (hr.mono (by decide)) (by rfl) (pa_cons (pv 0) pa_nil))) pss_nil)
  (pss_cons (ps_asg (pe_m1 PySem.F.slot_str_partition PySem.F.type_str_partition mt_partition (pv 0) pe_str) (by (refine (show PG _ _ (gTup K 3 (gCons (gName 2) (gCons (gName 3) (gCons (gName 4) gNil)))) from ?_); refine pg_tup rfl (pgs_cons ?_ (pgs_cons ?_ (pgs_cons ?_ pgs_nil))); exact (pg_name (i := 2) sc_read_number.nd rfl (by first | exact Or.inl rfl | exact Or.inr rfl)); exact (pg_name (i := 3) sc_read_number.nd rfl (by first | exact Or.inl rfl | exact Or.inr rfl)); exact (pg_name (i := 4) sc_read_number.nd rfl (by first | exact Or.inl rfl | exact Or.inr rfl)))))
  (pss_cons (ps_if (pt_cmpR op_eq (pv 3) pe_str (nomark _)) (pss_one (ps_set (i := 4) sc_read_number.nd rfl (by first | exact Or.inl rfl | exact Or.inr rfl) pe_str)) pss_nil)
  (pss_cons (ps_if (PW.pt (pw_or (pt_not (pt_val (pd_pos d_is_digits hG hr (by decide) (by rfl) (pa_cons (pe_m1 PySem.F.slot_str_removeprefix PySem.F.type_str_removeprefix mt_removeprefix (pv 2) pe_str) pa_nil)))) (pw_or (pt_not (pt_val (pd_pos d_is_digits hG hr (by decide) (by rfl) (pa_cons (pv 4) pa_nil)))) (pw_or1 (pt_cmpR op_eq (pe_callTy c_intS (by rfl) Z.int_ (by decide +kernel) (pa_cons (pv 4) pa_nil)) pe_int (nomark _)))))) (pss_one (ps_err d_InvalidLine rfl (takes_of rfl rfl rfl rfl) (hr.mono (by decide)) (by rfl) (pa_cons (pv 0) pa_nil))) pss_nil)
  (pss_cons (ps_set (i := 1) sc_read_number.nd rfl (by first | exact Or.inl rfl | exact Or.inr rfl) (pkX_pos k_Ratio takes0 hG hr (by decide) (by rfl) (pa_cons (pe_callTy c_intS (by rfl) Z.int_ (by decide +kernel) (pa_cons (pv 2) pa_nil)) (pa_cons (pe_callTy c_intS (by rfl) Z.int_ (by decide +kernel) (pa_cons (pv 4) pa_nil)) pa_nil))))
  (pss_cons (ps_if (pt_cmpR op_ne (pe_callTy (o_str d_str hG hr (by decide)) (by rfl) Z.str_ (by decide +kernel) (pa_cons (pv 1) pa_nil)) (pv 0) (nomark _)) (pss_one (ps_err d_InvalidLine rfl (takes_of rfl rfl rfl rfl) (hr.mono (by decide)) (by rfl) (pa_cons (pv 0) pa_nil))) pss_nil)
  (pss_one (ps_ret (pv 1))))))))), ?_⟩
  obtain ⟨v, rfl, h⟩ := h
  walk_at "r"
  have core : (∃ t, TyX K H v t ∧ Kind C t ∧ t ≠ .type "str" ∧ errE E Ce v H) ∨ ∃ (a tt b0 bb : List Nat) (sl : Str), v = .str (S a) ∧ a.length ≤ 400 ∧ Txt.partition (S a) (S [47]) = (S tt, sl, S b0) ∧ ((sl = S [] ∧ bb = [49]) ∨ (sl = S [47] ∧ bb = b0)) ∧ tt.length ≤ 400 ∧ bb.length ≤ 400 ∧
      ((isNum (unsigned tt) = false ∨ isNum bb = false ∨ NumText.digitsVal bb = 0) → errE E Ce (.str (S a)) H) ∧
      (isNum (unsigned tt) = true → isNum bb = true → NumText.digitsVal bb ≠ 0 →
        (lineL (lowT (valI tt) ((NumText.digitsVal bb : Nat) : Int)) (lowB (valI tt) ((NumText.digitsVal bb : Nat) : Int)) = a ∧ ∀ H' p, Same H H' → RatAt C H' p (lowT (valI tt) ((NumText.digitsVal bb : Nat) : Int)) (lowB (valI tt) ((NumText.digitsVal bb : Nat) : Int)) → Q (.ref p) H') ∨
        (lineL (lowT (valI tt) ((NumText.digitsVal bb : Nat) : Int)) (lowB (valI tt) ((NumText.digitsVal bb : Nat) : Int)) ≠ a ∧ errE E Ce (.str (S a)) H)) := by
    rcases h with ⟨n, d, rfl, lo, sn, sd, k⟩ | h | ⟨a, rfl, la, nl, k⟩
    · have ln := numI_len sn
      have dp := lo.pos
      obtain ⟨u1, u2⟩ := numI_un n
      have hN : isNum (unsigned (numI n)) = true := by rw [u1]; exact numL_num _
      obtain ⟨z1, z2⟩ := low_id lo
      have dl : (TL.numL d.natAbs).length ≤ 150 := TL.numL_len (by decide) sd
      by_cases c : d = 1
      · have el : lineL n d = numI n := by unfold lineL; rw [if_pos c]
        refine .inr ⟨lineL n d, numI n, [], [49], S [], rfl, by rw [el]; omega, by rw [el]; exact part_no (numI_free n), .inl ⟨rfl, rfl⟩, by omega, by decide, fun e => ?_, fun _ _ _ => .inl ?_⟩
        · rcases e with e | e | e
          · rw [hN] at e; cases e
          · exact absurd e (by decide)
          · exact absurd e (by decide)
        · have e1 : ((NumText.digitsVal [49] : Nat) : Int) = d := by rw [c]; rfl
          rw [e1, u2, z1, z2]
          exact ⟨rfl, k⟩
      · have el : lineL n d = numI n ++ 47 :: TL.numL d.natAbs := by unfold lineL; rw [if_neg c]
        have e1 : ((NumText.digitsVal (TL.numL d.natAbs) : Nat) : Int) = d := by rw [TL.numL_val]; omega
        refine .inr ⟨lineL n d, numI n, TL.numL d.natAbs, TL.numL d.natAbs, S [47], rfl, by rw [el, List.length_append, List.length_cons]; omega, by rw [el]; exact part_at (numI_free n), .inr ⟨rfl, rfl⟩, by omega, by omega, fun e => ?_, fun _ _ _ => .inl ?_⟩
        · rcases e with e | e | e
          · rw [hN] at e; cases e
          · rw [numL_num] at e; cases e
          · rw [TL.numL_val] at e; omega
        · rw [e1, u2, z1, z2]
          exact ⟨rfl, k⟩
    · exact .inl h
    · have fin : ∀ (tt bb : List Nat), isNum (unsigned tt) = true → isNum bb = true → NumText.digitsVal bb ≠ 0 → lineL (lowT (valI tt) ((NumText.digitsVal bb : Nat) : Int)) (lowB (valI tt) ((NumText.digitsVal bb : Nat) : Int)) ≠ a := fun tt bb _ _ h0 e => nl _ _ (low_low (by omega)) e.symm
      rcases cut_at 47 a with g | ⟨p, q, e, g⟩
      · exact .inr ⟨a, a, [], [49], S [], rfl, la, part_no g, .inl ⟨rfl, rfl⟩, la, by decide, fun _ => k, fun x y z => .inr ⟨fin _ _ x y z, k⟩⟩
      · have ll : p.length + (q.length + 1) ≤ 400 := by rw [e, List.length_append, List.length_cons] at la; exact la
        exact .inr ⟨a, p, q, q, S [47], rfl, la, by rw [e]; exact part_at g, .inr ⟨rfl, rfl⟩, by omega, by omega, fun _ => k, fun x y z => .inr ⟨fin _ _ x y z, k⟩⟩
  clear h
  rcases core with ⟨t, ty, kd, ns, k⟩ | ⟨a, tt, b0, bb, sl, rfl, la, ep, hs, lt, lb, f1, f2⟩
  · have go : ∀ {Qx : VK}, Qx (.bl false) H → rIsi K [v, .ty "str"] H Qx := fun {Qx} q => by
      cases kd with
      | rat => exact r_isiT ty Sx.cS q
      | str => exact absurd rfl ns
      | _ => exact r_isiB (b := false) ty (by decide +kernel) q
    refine go ?_
    walk_at "r"
    exact err_done k
  refine r_isiB (b := true) (.base (.str _)) (by decide +kernel) ?_
  walk_at "r"
  refine ⟨⟨_, rfl⟩, ?_⟩
  walk_at "r"
  refine ⟨_, _, rfl, rfl, by decide +kernel, by rw [S_len, sizeLine_eq]; omega, fun p np => ?_⟩
  rw [show ("/" : Str) = S [47] by decide +kernel, ep]
  have sp := Same.upd_new (o := .tup [.str (S tt), .str sl, .str (S b0)]) np
  have gp : (upd H p (.tup [.str (S tt), .str sl, .str (S b0)])) p = some (.tup [.str (S tt), .str sl, .str (S b0)]) := upd_same
  generalize upd H p (.tup [.str (S tt), .str sl, .str (S b0)]) = H1 at sp gp ⊢
  walk_at "r"
  refine ⟨p, _, rfl, SqT.of gp, rfl, _, _, rfl, ?_⟩
  walk_at "r"
  refine ⟨_, _, rfl, ?_⟩
  walk_at "r"
  refine ⟨_, _, rfl, ?_⟩
  walk_at "r"
  refine ⟨rfl, ?_⟩
  walk_at "r"
  refine Or.elim hs ?c1 ?c2
  case' c1 =>
    rintro ⟨rfl, hbb⟩
    rw [decide_eq_true (show V.str (S []) = V.str (Str.ofString "") from congrArg V.str (by decide +kernel))]
    walk_at "r"
    rw [show (Str.ofString "1") = S bb by rw [hbb]; decide +kernel]
    clear hbb
  case' c2 =>
    rintro ⟨rfl, rfl⟩
    rw [decide_eq_false (show ¬ V.str (S [47]) = V.str (Str.ofString "") from fun e => absurd (V.str.inj e) (by decide +kernel))]
    walk_at "r"
  all_goals
    clear hs
    refine ⟨⟨_, rfl⟩, ?_⟩
    walk_at "r"
    refine ⟨_, _, rfl, rfl, by rw [S_len, sizeLine_eq]; omega, ?_⟩
    rw [show (Str.ofString "-") = S [45] by decide +kernel, rem_S]
    walk_at "r"
    refine ⟨_, rfl, ?_⟩
    rw [dig_S]
    cases hT : isNum (unsigned tt)
    · walk_at "r"
      exact err_done ((f1 (.inl hT)).same sp)
    · walk_at "r"
      refine ⟨_, rfl, ?_⟩
      rw [dig_S]
      cases hB : isNum bb
      · walk_at "r"
        exact err_done ((f1 (.inr (.inl hB))).same sp)
      · obtain ⟨bn, bd⟩ := isNum_iff.mp hB
        have ib : intText? (S bb) = some ((NumText.digitsVal bb : Nat) : Int) := PySem.intText_digits (x := S bb) bd bn (by rw [S_len]; omega)
        have vb := digits_lt bd
        obtain ⟨it, vt⟩ := int_val hT (by omega)
        have p400 : (10 : Nat) ^ 400 < 2 ^ 1500 := by decide +kernel
        have vb' : NumText.digitsVal bb < 2 ^ 1500 := Nat.lt_of_lt_of_le vb (Nat.le_trans (Nat.pow_le_pow_right (by decide) lb) (Nat.le_of_lt p400))
        have vt' : (valI tt).natAbs < 2 ^ 1500 := Nat.lt_of_lt_of_le vt (Nat.le_trans (Nat.pow_le_pow_right (by decide) lt) (Nat.le_of_lt p400))
        walk_at "r"
        refine ⟨_, _, rfl, ib, by rw [S_len]; omega, ?_⟩
        walk_at "r"
        by_cases h0 : NumText.digitsVal bb = 0
        · rw [decide_eq_true (show V.int ((NumText.digitsVal bb : Nat) : Int) = V.int 0 by rw [h0]; rfl)]
          walk_at "r"
          exact err_done ((f1 (.inr (.inr h0))).same sp)
        · rw [decide_eq_false (show ¬ V.int ((NumText.digitsVal bb : Nat) : Int) = V.int 0 from fun e => h0 (by have := V.int.inj e; omega))]
          have f2' := f2 hT hB h0
          have y0 : ((NumText.digitsVal bb : Nat) : Int) ≠ 0 := by omega
          have ys : (((NumText.digitsVal bb : Nat) : Int)).natAbs < 2 ^ 1500 := by rw [Int.natAbs_natCast]; exact vb'
          walk_at "r"
          refine ⟨_, _, rfl, it, by rw [S_len]; omega, ?_⟩
          walk_at "r"
          refine ⟨_, _, rfl, ib, by rw [S_len]; omega, ?_⟩
          walk_at "r"
          generalize valI tt = x at *
          generalize ((NumText.digitsVal bb : Nat) : Int) = y at *
          refine r_rat y0 (Nat.lt_trans ys (by decide +kernel)) fun H2 q s2 rq => ?_
          have lo := low_low (a := x) y0
          obtain ⟨dq, eq⟩ := rq
          walk_at "r"
          refine ⟨q, dq, _, rfl, eq, q, _, _, rfl, ⟨dq, eq⟩, Nat.lt_of_le_of_lt (lowT_le y0) vt', Nat.lt_of_le_of_lt (lowB_le y0) ys, _, rfl, ?_⟩
          rw [line_S lo.pos]
          walk_at "r"
          rcases f2' with ⟨e, k⟩ | ⟨e, k⟩
          · rw [e, decide_eq_true rfl]
            walk_at "r"
            exact k _ _ (sp.trans s2) ⟨dq, eq⟩
          · rw [decide_eq_false (show ¬ V.str (S (lineL (lowT x y) (lowB x y))) = V.str (S a) from fun z => e (S_inj (V.str.inj z)))]
            walk_at "r"
            exact err_done (k.same (sp.trans s2))
end
end Eld
set_option Elab.async false
set_option maxRecDepth 100000
set_option maxHeartbeats 4000000
set_option linter.all false
namespace Eld
open PySem L2
local macro_rules | `(tactic| walk_at "r1") => `(tactic| with_reducible first
  | refine r_seq ?_ | refine r_asgN ?_ | refine r_asg ?_ | refine r_gname ?_ | refine r_gsub ?_ | refine r_var rfl ?_ | refine r_c ?_ | refine r_op ?_ | refine r_un ?_ | refine r_u ?_ | refine r_i0 ?_ | refine r_cb ?_ | refine r_cons ?_ | refine r_nil ?_ | refine r_cl ?_ | refine r_fn rfl rfl ?_ | refine r_mt ?_
  | refine r_test ?_ | refine r_tb ?_ | refine r_bl ?_ | refine r_and ?_ | refine r_or ?_ | refine r_not ?_ | refine r_andV ?_ | refine r_orV ?_ | refine r_notV ?_ | refine r_ifX ?_ | refine r_ifs ?_ | refine r_chain ?_ | refine r_ret ?_ | refine r_next ?_ | refine r_drop ?_ | refine iteT ?_ | refine iteF ?_ | refine iteNT ?_ | refine iteNF ?_
  | refine r_int1 ?_ | refine r_boolB ?_ | refine r_eqI ?_ | refine r_neI ?_ | refine r_eqB ?_ | refine r_neB ?_ | refine r_eqS ?_ | refine r_neS ?_ | refine r_abs ?_ | refine r_max2 ?_ | refine r_min2 ?_ | refine r_yes ?_ | refine r_tup ?_ | refine r_sfld ?_ | refine r_m0 ?_ | refine r_m1 ?_ | refine r_lst ?_ | refine r_rng1 ?_ | refine r_rng2 ?_ | refine r_ixL (SqL.of (by assumption)) rfl ?_)
local macro_rules | `(tactic| walk_at "r") => `(tactic| repeat (first | walk_at "r1" | ((with_reducible refine r_var ?hv ?_); (case hv => rfl))))

section
variable {X : Cx} {W : WX} {ks : List Str} {k j n : Nat} {gV : List V → List V → List V} {sp : Sp} {x m : Str} {C : Addr} {p pos apos : Pos} {e o : Expr} {kws : List Keyword} {tkk : TA}
theorem pdX_kw0 (d : DefX X.prog X.w X.K X.mg X.base k x n ks gV sp) (tk : Takes X W) (hG : X.A.guards = some []) (hr : Room j X.A) (hk : k ≤ j) (hg : Gl X x) (hkw : PK X kws tkk) (hall : (backToKw pos (keywordEach kws X.env)).all (·.1.isSome) = true := by rfl)
    (hks : (backToKw pos (keywordEach kws X.env)).filterMap (·.1) = ks := by rfl) (hd : (x == ("__debug__" : Str)) = false := by decide)
    (hp : ((backTo pos (starEach [] X.env)).any (·.1) || (backToKw pos (keywordEach kws X.env)).any (·.1.isNone)) = false := by rfl) : PE X (.Call (.Name x p) [] kws pos) (tClS (rFnS n ks.length gV sp (WE W)) tNil tkk) := by
  obtain ⟨f, fd, ps, g, hm, kp, F, b⟩ := d
  exact pn_kw0S (callVS_fn F b (fun σ => passAt tk σ) hG (hr.mono hk)) hg hm kp hkw hall hks hd hp
theorem pkX_kw0 (d : MakX X.prog X.w X.K X.mg X.base k x C n ks gV sp) (tk : Takes X W) (hG : X.A.guards = some []) (hr : Room j X.A) (hk : k + 1 ≤ j) (hg : Gl X x) (hkw : PK X kws tkk) (hall : (backToKw pos (keywordEach kws X.env)).all (·.1.isSome) = true := by rfl)
    (hks : (backToKw pos (keywordEach kws X.env)).filterMap (·.1) = ks := by rfl) (hd : (x == ("__debug__" : Str)) = false := by decide)
    (hp : ((backTo pos (starEach [] X.env)).any (·.1) || (backToKw pos (keywordEach kws X.env)).any (·.1.isNone)) = false := by rfl) : PE X (.Call (.Name x p) [] kws pos) (tClS (rMkS C n ks.length gV sp (WE W)) tNil tkk) := by
  obtain ⟨f, fd, ps, g, hm, M, F, b⟩ := d
  exact pn_kw0S (callVS_mk M F b (fun σ => passAt tk σ) hG (hr.mono hk)) hg hm M.kp hkw hall hks hd hp
end
local macro_rules | `(tactic| walk_at "r1") => `(tactic| with_reducible first | refine r_clS ?_ | refine r_fnS rfl rfl ?_ | refine r_mtS ?_ | refine r_mkO ?_ | refine r_par ?_)
/-- by the keywords bottom and top -/
def botTop (xs ys : List V) : List V := xs ++ ys.reverse
/-- Ratio, however it is called: the arguments are put in place -/
theorem r_ratK {C Ce cz : Addr} {K : PySem.W.Frag} {σ : L2.St} {H : Hp} {Q : VK} {E : L2.St → XK} {n m : Nat} {gV : List V → List V → List V} {us ws : List V} {x y : Int} (hn : us.length = n) (hm : ws.length = m) (hg : ∀ v, gV (v :: us) ws = [v, .int x, .int y]) (hy : y ≠ 0) (hs : y.natAbs < 2 ^ 4000) (k : ∀ H' q, Same H H' → RatAt C H' q (lowT x y) (lowB x y) → Q (.ref q) H') : rMkS C n m gV (spRatI C Ce cz K) E σ us ws H Q := by
  refine r_mkS hn hm fun q dx2 hx hdx hne => ?_
  have new : Same H (upd (upd H dx2 (.own q)) q (.ins C dx2 [])) := fun b o e => by
    rw [upd_ne (ne_of_none e hx), upd_ne (ne_of_none e hdx)]
    exact e
  rw [hg]
  exact ⟨q, _, _, dx2, rfl, upd_same, .inl ⟨x, y, rfl, rfl, hy, hs, fun H5 s5 r5 => ⟨rfl, k H5 q (fun b o e => s5 b o (ne_of_none e hx) (new _ _ e)) r5⟩⟩⟩
/-- a value that is no number -/
def Odd (C : Addr) (K : PySem.W.Frag) (H : Hp) (v : V) : Prop := ∃ t, TyX K H v t ∧ Kind C t ∧ isN C t = false
theorem Odd.same {C : Addr} {K : PySem.W.Frag} {H H' : Hp} {v : V} (h : Odd C K H v) (s : Same H H') : Odd C K H' v := by
  obtain ⟨t, a, b, c⟩ := h
  exact ⟨t, TyX.same a s, b, c⟩
theorem odd_non {C : Addr} {K : PySem.W.Frag} {H : Hp} : Odd C K H .non := ⟨_, .base .non, .non, rfl⟩
theorem odd_bl {C : Addr} {K : PySem.W.Frag} {H : Hp} (b : Bool) : Odd C K H (.bl b) := ⟨_, .base (.bl b), .bl, rfl⟩
theorem odd_str {C : Addr} {K : PySem.W.Frag} {H : Hp} (b : Str) : Odd C K H (.str b) := ⟨_, .base (.str b), .str, rfl⟩
theorem odd_lst {C : Addr} {K : PySem.W.Frag} {H : Hp} {a : Addr} {xs : List V} (h : H a = some (.lst xs)) : Odd C K H (.ref a) := ⟨_, .base (.lst h), .lst, rfl⟩
theorem odd_tup {C : Addr} {K : PySem.W.Frag} {H : Hp} {a : Addr} {xs : List V} (h : H a = some (.tup xs)) : Odd C K H (.ref a) := ⟨_, .base (.tup h), .tup, rfl⟩
theorem odd_dK {C : Addr} {K : PySem.W.Frag} {H : Hp} {a : Addr} {xs : List (Key × V)} (h : H a = some (.dK xs)) : Odd C K H (.ref a) := ⟨_, .base (.dK h), .dic, rfl⟩
section
variable {K : PySem.W.Frag} {C : Addr} {H : Hp} {Q : VK} {p : Addr} {v : V} {n d : Int}
theorem eq_odd (S : Sc K C) (r1 : RatAt C H p n d) (hv : Odd C K H v) (k : Q (.bl false) H) : rEqN K C (spEq C K) (.ref p) v H Q := by
  obtain ⟨dx, e⟩ := r1
  obtain ⟨t, ty, kd, nn⟩ := hv
  exact .inl ⟨p, dx, _, t, rfl, e, ty, S.nf t kd, p, v, n, d, rfl, ⟨dx, e⟩, .inr ⟨t, ty, kd, nn, k⟩⟩
end
def spAlone : Sp := fun vs H Q _ => ∃ (b t : Addr) (n : Nat) (a : Int) (ob : Option Int), vs = [.ref b, .ref t] ∧ BoxAt H b n ∧ n < 3000000 ∧ PairAt H t a ob ∧ Good a ob ∧ ∀ H', BoxAt H' b (n + 1) → But b H H' → Q (.bl true) H'
section
variable {P : Program} {w : World} {K : PySem.W.Frag} {mg : Str → Option Value} {base : Heap} {C Ce Cl cz : Addr}
theorem ok_alone {f : Addr} {fd : FuncData} (F : Fun K "_law_alone_right" "_law_alone_right" s__law_alone_right f fd) (Z : Zs K mg C cz) (S : Sc K C) (d__law_worth : DefD P w K mg base 3 "_law_worth" 1 [] byPlace spWorth) (k_Ratio_bottom_top : MakX P w K mg base 3 "Ratio" C 0 ["bottom", "top"] botTop (spRatI C Ce cz K)) (d__law_line : DefD P w K mg base 1 "_law_line" 1 [] byPlace spLine) (d__law_is : DefD P w K mg base 1 "_law_is" 2 [] byPlace (spIs C)) (d_neg : NegA P w K mg base 5 C (spNeg C)) (d_str : StrA P w K mg base 1 C (spStr C))
    (d_read_number : DefX P w K mg base 5 "read_number" 1 [] byPlace (spRead C Cl K)) (d_read_number_line : DefX P w K mg base 5 "read_number" 0 ["line"] byBoth (spRead C Cl K)) (d_as_ratio : DefX P w K mg base 5 "as_ratio" 1 [] byPlace (spAsRat C Ce K)) (d_as_ratio_value : DefX P w K mg base 5 "as_ratio" 0 ["value"] byBoth (spAsRat C Ce K)) (d__law_made : DefD P w K mg base 5 "_law_made" 1 [] byPlace (spMade C)) (k_Ratio1 : MakX P w K mg base 3 "Ratio" C 1 [] def1 (spRatI C Ce cz K)) (k_Ratio : MakX P w K mg base 3 "Ratio" C 2 [] byPlace (spRatI C Ce cz K))
    (d_is_number : DefD P w K mg base 2 "is_number" 1 [] byPlace (spIsNum C K)) (d_is_number_value : DefD P w K mg base 2 "is_number" 0 ["value"] byBoth (spIsNum C K)) (d__law_take : DefD P w K mg base 1 "_law_take" 2 [] byPlace spTake) (d_eq : EqA P w K mg base 6 C (spEq C K)) : FnG P w K mg base CX0 8 f fd ["box", "pair"] spAlone := by
  refine okG F sc__law_alone_right (fun vs H Q E h => ?_) (fun cdv B up z H vs Q E hG hr h => ?_)
  · obtain ⟨b, t, n, a, ob, rfl, _⟩ := h
    rfl
  refine ⟨_, (pss_cons (ps_asg (pd_pos d__law_worth hG hr (by decide) (by rfl) (pa_cons (pv 1) pa_nil)) (by (refine (show PG _ _ (gTup K 2 (gCons (gName 6) (gCons (gName 7) gNil))) from ?_); refine pg_tup rfl (pgs_cons ?_ (pgs_cons ?_ pgs_nil)); exact (pg_name (i := 6) sc__law_alone_right.nd rfl (by first | exact Or.inl rfl | exact Or.inr rfl)); exact (pg_name (i := 7) sc__law_alone_right.nd rfl (by first | exact Or.inl rfl | exact Or.inr rfl)))))
  (pss_cons (ps_set (i := 2) sc__law_alone_right.nd rfl (by first | exact Or.inl rfl | exact Or.inr rfl) (pkX_kw0 k_Ratio_bottom_top takes0 hG hr (by decide) (by rfl) (pk_cons (pe_ifExp (pt_cmpR op_isN (pe_ix (show IxR _ (rIxT K) from ix_tup) (pv 1) pe_int (fun _ _ => rfl)) pe_non (nomark _)) pe_int (pe_ix (show IxR _ (rIxT K) from ix_tup) (pv 1) pe_int (fun _ _ => rfl))) (pk_cons (pe_ix (show IxR _ (rIxT K) from ix_tup) (pv 1) pe_int (fun _ _ => rfl)) pk_nil))))
  (pss_cons (ps_set (i := 3) sc__law_alone_right.nd rfl (by first | exact Or.inl rfl | exact Or.inr rfl) (pd_pos d__law_line hG hr (by decide) (by rfl) (pa_cons (pe_tup (pa_cons (pv 6) (pa_cons (pv 7) pa_nil))) pa_nil)))
  (pss_cons (ps_if (PW.pt (pw_or (pt_not (pt_val (pd_pos d__law_is hG hr (by decide) (by rfl) (pa_cons (pv 2) (pa_cons (pe_tup (pa_cons (pv 6) (pa_cons (pv 7) pa_nil))) pa_nil))))) (pw_or (pt_not (pt_val (pd_pos d__law_is hG hr (by decide) (by rfl) (pa_cons (pe_un (o_neg d_neg hG hr (by decide)) (pv 2)) (pa_cons (pe_tup (pa_cons (pe_op op_sub pe_int (pv 6)) (pa_cons (pv 7) pa_nil))) pa_nil))))) (pw_or1 (pt_cmpR op_ne (pe_callTy (o_str d_str hG hr (by decide)) (by rfl) Z.str_ (by decide +kernel) (pa_cons (pv 2) pa_nil)) (pv 3) (nomark _)))))) (pss_one (ps_ret pe_bl)) pss_nil)
  (pss_cons (ps_if (PW.pt (pw_or (pt_not (pt_val (pd_pos d__law_is hG hr (by decide) (by rfl) (pa_cons (pdX_pos d_read_number takes0 hG hr (by decide) (by rfl) (pa_cons (pv 3) pa_nil)) (pa_cons (pe_tup (pa_cons (pv 6) (pa_cons (pv 7) pa_nil))) pa_nil))))) (pw_or1 (pt_not (pt_val (pd_pos d__law_is hG hr (by decide) (by rfl) (pa_cons (pdX_kw0 d_read_number_line takes0 hG hr (by decide) (by rfl) (pk_cons (pe_callTy (o_str d_str hG hr (by decide)) (by rfl) Z.str_ (by decide +kernel) (pa_cons (pe_un (o_neg d_neg hG hr (by decide)) (pe_un (o_neg d_neg hG hr (by decide)) (pv 2))) pa_nil)) pk_nil)) (pa_cons (pe_tup (pa_cons (pv 6) (pa_cons (pv 7) pa_nil))) pa_nil)))))))) (pss_one (ps_ret pe_bl)) pss_nil)
  (pss_cons (ps_if (PW.pt (pw_or (pt_not (pt_val (pd_pos d__law_is hG hr (by decide) (by rfl) (pa_cons (pdX_kw0 d_as_ratio_value takes0 hG hr (by decide) (by rfl) (pk_cons (pd_pos d__law_made hG hr (by decide) (by rfl) (pa_cons (pv 1) pa_nil)) pk_nil)) (pa_cons (pe_tup (pa_cons (pv 6) (pa_cons (pv 7) pa_nil))) pa_nil))))) (pw_or1 (pt_not (pt_val (pd_pos d__law_is hG hr (by decide) (by rfl) (pa_cons (pdX_pos d_as_ratio takes0 hG hr (by decide) (by rfl) (pa_cons (pv 2) pa_nil)) (pa_cons (pe_tup (pa_cons (pv 6) (pa_cons (pv 7) pa_nil))) pa_nil)))))))) (pss_one (ps_ret pe_bl)) pss_nil)
  (pss_cons (ps_if (PW.pt (pw_or (pt_not (pt_val (pd_pos d__law_is hG hr (by decide) (by rfl) (pa_cons (pkX_pos k_Ratio1 takes0 hG hr (by decide) (by rfl) (pa_cons (pe_ix (show IxR _ (rIxT K) from ix_tup) (pv 1) pe_int (fun _ _ => rfl)) pa_nil)) (pa_cons (pe_tup (pa_cons (pe_ix (show IxR _ (rIxT K) from ix_tup) (pv 1) pe_int (fun _ _ => rfl)) (pa_cons pe_int pa_nil))) pa_nil))))) (pw_or (pt_cmpR op_notBl (pd_pos d_is_number hG hr (by decide) (by rfl) (pa_cons (pv 2) pa_nil)) pe_bl (nomark _)) (pw_or1 (pt_cmpR op_notBl (pd_pos d_is_number hG hr (by decide) (by rfl) (pa_cons (pe_ix (show IxR _ (rIxT K) from ix_tup) (pv 1) pe_int (fun _ _ => rfl)) pa_nil)) pe_bl (nomark _)))))) (pss_one (ps_ret pe_bl)) pss_nil)
  (pss_cons (ps_for PassesOwn.never rfl (pi_list (pe_lst (pa_cons pe_non (pa_cons pe_str (pa_cons (pv 3) (pa_cons (pe_lst (pa_cons (pv 6) pa_nil)) (pa_cons (pe_tup (pa_cons (pv 6) (pa_cons (pv 7) pa_nil))) (pa_cons (pe_lst pa_nil) (pa_cons pe_dnewK (pa_cons (pe_lst (pa_cons (pv 2) pa_nil)) pa_nil)))))))))) (pg_name (i := 4) sc__law_alone_right.nd rfl (by first | exact Or.inl rfl | exact Or.inr rfl))
  (pss_one (ps_if (PW.pt (pw_or (pt_cmpR (o_eqN d_eq hG hr (by decide)) (pv 2) (pv 4) (nomark _)) (pw_or1 (pt_cmpR op_notBl (pd_pos d_is_number hG hr (by decide) (by rfl) (pa_cons (pv 4) pa_nil)) pe_bl (nomark _))))) (pss_one (ps_ret pe_bl)) pss_nil)))
  (pss_cons (ps_set (i := 5) sc__law_alone_right.nd rfl (by first | exact Or.inl rfl | exact Or.inr rfl) (pe_lst (pa_cons pe_bl (pa_cons pe_bl pa_nil))))
  (pss_cons (ps_if (PW.pt (pw_or (pt_cmpR (o_eqN d_eq hG hr (by decide)) (pv 2) (pe_ix (show IxR _ (rIxL K) from ix_list) (pv 5) (pd_pos d__law_take hG hr (by decide) (by rfl) (pa_cons (pv 0) (pa_cons pe_int pa_nil))) (fun _ _ => rfl)) (nomark _)) (pw_or (pt_cmpR (o_eqN d_eq hG hr (by decide)) (pkX_pos k_Ratio1 takes0 hG hr (by decide) (by rfl) (pa_cons pe_int pa_nil)) (pe_ix (show IxR _ (rIxL K) from ix_list) (pv 5) pe_int (fun _ _ => rfl)) (nomark _)) (pw_or1 (pt_cmpR (o_eqN d_eq hG hr (by decide)) (pkX_pos k_Ratio takes0 hG hr (by decide) (by rfl) (pa_cons pe_int (pa_cons pe_int pa_nil))) (pe_ix (show IxR _ (rIxL K) from ix_list) (pv 5) pe_int (fun _ _ => rfl)) (nomark _)))))) (pss_one (ps_ret pe_bl)) pss_nil)
  (pss_one (ps_ret (pe_and (pe_cmpR op_isBl (pd_pos d_is_number hG hr (by decide) (by rfl) (pa_cons (pe_ix (show IxR _ (rIxL K) from ix_list) (pv 5) pe_int (fun _ _ => rfl)) pa_nil)) pe_bl (nomark _)) (pe_one (pe_cmpR op_isBl (pd_kw0 d_is_number_value hG hr (by decide) (by rfl) (pk_cons (pe_ix (show IxR _ (rIxL K) from ix_list) (pv 5) pe_int (fun _ _ => rfl)) pk_nil)) pe_bl (nomark _)))))))))))))))), ?_⟩
  obtain ⟨b, t, n, a, ob, rfl, hb, hn, pt, hg, k⟩ := h
  walk_at "r"
  refine ⟨t, a, ob, rfl, pt, hg, fun w1 H1 s1 hw1 => ?_⟩
  walk_at "r"
  refine ⟨w1, _, rfl, SqT.of hw1, rfl, _, _, rfl, ?_⟩
  walk_at "r"
  refine ⟨_, _, rfl, ?_⟩
  walk_at "r"
  refine ⟨rfl, ?_⟩
  obtain ⟨sn, sd, lo, hn1, hd1⟩ := hg.sm
  obtain ⟨b0, bs⟩ := hg.bot
  have d0 : wB a ob ≠ 0 := by have := lo.pos; omega
  have lA : n + 1 < 4000000 := by omega
  have num : ∀ {G : Hp} {p : Addr}, RatAt C G p (wT a ob) (wB a ob) → NumAt C G (.ref p) (wT a ob) (wB a ob) := fun r => .inr ⟨_, rfl, r⟩
  have p100 : (2 : Nat) ^ 100 < 10 ^ 150 := by decide +kernel
  have hn3 := Nat.lt_trans hn1 p100
  have hd3 := Nat.lt_trans hd1 p100
  have pt1 := s1 _ _ pt
  have t1 : But b H H1 := fun a o x e => s1 _ _ e
  have b1 := hb.same s1
  clear hw1 s1 hb pt
  walk_at "r"
  refine r_ixT (SqT.of pt1) rfl ?_
  walk_at "r"
  refine ⟨rfl, ?_⟩
  have hob : ob = none ∨ ∃ b', ob = some b' := by
    cases ob with
    | none => exact .inl rfl
    | some x => exact .inr ⟨x, rfl⟩
  refine Or.elim hob ?c1 ?c2
  case' c1 =>
    intro e0
    rw [decide_eq_true (show pvO ob = V.non by rw [e0]; rfl)]
    walk_at "r"
    refine r_ixT (SqT.of pt1) rfl ?_
    walk_at "r"
    refine r_ratK (x := a) (y := ob.getD 1) rfl rfl (fun v => by rw [e0]; rfl) b0 (Nat.lt_trans bs (by decide +kernel)) fun H2 p s2 r2 => ?_
    clear e0
  case' c2 =>
    rintro ⟨b', e0⟩
    rw [decide_eq_false (show ¬ pvO ob = V.non by rw [e0]; exact fun z => by cases z)]
    walk_at "r"
    refine r_ixT (SqT.of pt1) rfl ?_
    walk_at "r"
    refine r_ixT (SqT.of pt1) rfl ?_
    walk_at "r"
    refine r_ratK (x := a) (y := ob.getD 1) rfl rfl (fun v => by rw [e0]; rfl) b0 (Nat.lt_trans bs (by decide +kernel)) fun H2 p s2 r2 => ?_
    clear e0
  all_goals
    have r2 : RatAt C H2 p (wT a ob) (wB a ob) := r2
    have t2 : But b H H2 := fun a o x e => s2 _ _ (t1 a o x e)
    have pt2 := s2 _ _ pt1
    have b2 := b1.same s2
    clear s2 t1 pt1 b1 hob
    walk_at "r"
    refine ⟨by show 2 ≤ sizeLine; decide, fun u3 n3 => ?_⟩
    have s3 := Same.upd_new (o := .tup [.int (wT a ob), .int (wB a ob)]) n3
    have g3 : (upd H2 u3 (.tup [.int (wT a ob), .int (wB a ob)])) u3 = some (.tup [.int (wT a ob), .int (wB a ob)]) := upd_same
    generalize upd H2 u3 (.tup [.int (wT a ob), .int (wB a ob)]) = H3 at s3 g3 ⊢
    walk_at "r"
    refine ⟨u3, _, _, rfl, g3, sn, sd, ?_⟩
    walk_at "r"
    refine ⟨by show 2 ≤ sizeLine; decide, fun u4 n4 => ?_⟩
    have s4 := Same.upd_new (o := .tup [.int (wT a ob), .int (wB a ob)]) n4
    have g4 : (upd H3 u4 (.tup [.int (wT a ob), .int (wB a ob)])) u4 = some (.tup [.int (wT a ob), .int (wB a ob)]) := upd_same
    generalize upd H3 u4 (.tup [.int (wT a ob), .int (wB a ob)]) = H4 at s4 g4 ⊢
    have q4 := s3.trans s4
    walk_at "r"
    refine ⟨p, u4, _, _, rfl, r2.same q4, g4, fun H5 s5 => ?_⟩
    have q5 := q4.trans s5
    walk_at "r"
    obtain ⟨dx5, e5⟩ := r2.same q5
    refine ⟨p, dx5, _, rfl, e5, p, _, _, rfl, ⟨dx5, e5⟩, sd, lo, fun H6 x6 s6 r6 => ?_⟩
    have q6 := q5.trans s6
    walk_at "r"
    rw [Int.zero_sub]
    refine ⟨by show 2 ≤ sizeLine; decide, fun u7 n7 => ?_⟩
    have s7 := Same.upd_new (o := .tup [.int (-(wT a ob)), .int (wB a ob)]) n7
    have g7 : (upd H6 u7 (.tup [.int (-(wT a ob)), .int (wB a ob)])) u7 = some (.tup [.int (-(wT a ob)), .int (wB a ob)]) := upd_same
    generalize upd H6 u7 (.tup [.int (-(wT a ob)), .int (wB a ob)]) = H7 at s7 g7 ⊢
    have q7 := q6.trans s7
    walk_at "r"
    refine ⟨x6, u7, _, _, rfl, r6.same s7, g7, fun H8 s8 => ?_⟩
    have q8 := q7.trans s8
    walk_at "r"
    obtain ⟨dx8, e8⟩ := r2.same q8
    refine ⟨p, dx8, _, rfl, e8, p, _, _, rfl, ⟨dx8, e8⟩, sn, sd, _, rfl, ?_⟩
    walk_at "r"
    rw [decide_eq_true rfl]
    walk_at "r"
    refine ⟨_, rfl, .inl ⟨_, _, congrArg V.str (line_S lo.pos), lo, hn3, hd3, fun H9 x9 s9 r9 => ?_⟩⟩
    have q9 := q8.trans s9
    walk_at "r"
    refine ⟨by show 2 ≤ sizeLine; decide, fun u10 n10 => ?_⟩
    have s10 := Same.upd_new (o := .tup [.int (wT a ob), .int (wB a ob)]) n10
    have g10 : (upd H9 u10 (.tup [.int (wT a ob), .int (wB a ob)])) u10 = some (.tup [.int (wT a ob), .int (wB a ob)]) := upd_same
    generalize upd H9 u10 (.tup [.int (wT a ob), .int (wB a ob)]) = H10 at s10 g10 ⊢
    have q10 := q9.trans s10
    walk_at "r"
    refine ⟨x9, u10, _, _, rfl, r9.same s10, g10, fun H11 s11 => ?_⟩
    have q11 := q10.trans s11
    walk_at "r"
    obtain ⟨dx11, e11⟩ := r2.same q11
    refine ⟨p, dx11, _, rfl, e11, p, _, _, rfl, ⟨dx11, e11⟩, sd, lo, fun H12 x12 s12 r12 => ?_⟩
    have q12 := q11.trans s12
    walk_at "r"
    have lo' : Low (-(wT a ob)) (wB a ob) := by
      have h := low_low (a := -(wT a ob)) d0
      obtain ⟨z1, z2⟩ := low_neg (a := wT a ob) d0
      obtain ⟨z3, z4⟩ := low_id lo
      rw [z1, z2, z3, z4] at h
      exact h
    obtain ⟨dx12, e12⟩ := r12
    refine ⟨x12, dx12, _, rfl, e12, x12, _, _, rfl, ⟨dx12, e12⟩, sd, lo', fun H13 x13 s13 r13 => ?_⟩
    have q13 := q12.trans s13
    rw [Int.neg_neg] at r13
    walk_at "r"
    obtain ⟨dx13, e13⟩ := r13
    refine ⟨x13, dx13, _, rfl, e13, x13, _, _, rfl, ⟨dx13, e13⟩, sn, sd, _, rfl, ?_⟩
    walk_at "r"
    refine ⟨_, rfl, .inl ⟨_, _, congrArg V.str (line_S lo.pos), lo, hn3, hd3, fun H14 x14 s14 r14 => ?_⟩⟩
    have q14 := q13.trans s14
    walk_at "r"
    refine ⟨by show 2 ≤ sizeLine; decide, fun u15 n15 => ?_⟩
    have s15 := Same.upd_new (o := .tup [.int (wT a ob), .int (wB a ob)]) n15
    have g15 : (upd H14 u15 (.tup [.int (wT a ob), .int (wB a ob)])) u15 = some (.tup [.int (wT a ob), .int (wB a ob)]) := upd_same
    generalize upd H14 u15 (.tup [.int (wT a ob), .int (wB a ob)]) = H15 at s15 g15 ⊢
    have q15 := q14.trans s15
    walk_at "r"
    refine ⟨x14, u15, _, _, rfl, r14.same s15, g15, fun H16 s16 => ?_⟩
    have q16 := q15.trans s16
    walk_at "r"
    refine ⟨t, a, ob, rfl, q16 _ _ pt2, hg, fun H17 v17 s17 hv17 => ?_⟩
    have q17 := q16.trans s17
    walk_at "r"
    refine ⟨_, rfl, .inl ⟨_, _, made_num hv17, fun H18 x18 s18 r18 => ?_⟩⟩
    have q18 := q17.trans s18
    walk_at "r"
    refine ⟨by show 2 ≤ sizeLine; decide, fun u19 n19 => ?_⟩
    have s19 := Same.upd_new (o := .tup [.int (wT a ob), .int (wB a ob)]) n19
    have g19 : (upd H18 u19 (.tup [.int (wT a ob), .int (wB a ob)])) u19 = some (.tup [.int (wT a ob), .int (wB a ob)]) := upd_same
    generalize upd H18 u19 (.tup [.int (wT a ob), .int (wB a ob)]) = H19 at s19 g19 ⊢
    have q19 := q18.trans s19
    walk_at "r"
    refine ⟨x18, u19, _, _, rfl, r18.same s19, g19, fun H20 s20 => ?_⟩
    have q20 := q19.trans s20
    walk_at "r"
    refine ⟨_, rfl, .inl ⟨_, _, num (r2.same q20), fun H21 x21 s21 r21 => ?_⟩⟩
    have q21 := q20.trans s21
    walk_at "r"
    refine ⟨by show 2 ≤ sizeLine; decide, fun u22 n22 => ?_⟩
    have s22 := Same.upd_new (o := .tup [.int (wT a ob), .int (wB a ob)]) n22
    have g22 : (upd H21 u22 (.tup [.int (wT a ob), .int (wB a ob)])) u22 = some (.tup [.int (wT a ob), .int (wB a ob)]) := upd_same
    generalize upd H21 u22 (.tup [.int (wT a ob), .int (wB a ob)]) = H22 at s22 g22 ⊢
    have q22 := q21.trans s22
    walk_at "r"
    refine ⟨x21, u22, _, _, rfl, r21.same s22, g22, fun H23 s23 => ?_⟩
    have q23 := q22.trans s23
    walk_at "r"
    refine r_ixT (SqT.of (q23 _ _ pt2)) rfl ?_
    walk_at "r"
    refine r_ratK (x := a) (y := 1) rfl rfl (fun v => rfl) (by decide) (by decide +kernel) fun H24 x24 s24 r24 => ?_
    have q24 := q23.trans s24
    rw [(low_id (low_int a)).1, (low_id (low_int a)).2] at r24
    walk_at "r"
    refine r_ixT (SqT.of (q24 _ _ pt2)) rfl ?_
    walk_at "r"
    refine ⟨by show 2 ≤ sizeLine; decide, fun u25 n25 => ?_⟩
    have s25 := Same.upd_new (o := .tup [.int a, .int 1]) n25
    have g25 : (upd H24 u25 (.tup [.int a, .int 1])) u25 = some (.tup [.int a, .int 1]) := upd_same
    generalize upd H24 u25 (.tup [.int a, .int 1]) = H25 at s25 g25 ⊢
    have q25 := q24.trans s25
    walk_at "r"
    refine ⟨x24, u25, _, _, rfl, r24.same s25, g25, fun H26 s26 => ?_⟩
    have q26 := q25.trans s26
    walk_at "r"
    obtain ⟨dx26, e26⟩ := r2.same q26
    refine ⟨_, _, rfl, S.ty e26, .rat, ?_⟩
    rw [show isN C (.ref C) = true by simp [isN]]
    walk_at "r"
    refine ⟨_, _, rfl, rfl, ?_⟩
    walk_at "r"
    rw [decide_eq_true rfl]
    walk_at "r"
    refine r_ixT (SqT.of (q26 _ _ pt2)) rfl ?_
    walk_at "r"
    refine ⟨_, _, rfl, .base (.int a), .int, ?_⟩
    rw [show isN C (.type "int") = true by simp [isN, isI]]
    walk_at "r"
    refine ⟨_, _, rfl, rfl, ?_⟩
    rw [decide_eq_true rfl]
    walk_at "r"
    with_reducible refine r_for ?_
    refine r_il ?_
    walk_at "r"
    refine ⟨by show 1 ≤ sizeLine; decide, fun u31 n31 => ?_⟩
    have s31 := Same.upd_new (o := .lst [.int (wT a ob)]) n31
    have g31 : (upd H26 u31 (.lst [.int (wT a ob)])) u31 = some (.lst [.int (wT a ob)]) := upd_same
    generalize upd H26 u31 (.lst [.int (wT a ob)]) = H31 at s31 g31 ⊢
    have q31 := q26.trans s31
    walk_at "r"
    refine ⟨by show 2 ≤ sizeLine; decide, fun u32 n32 => ?_⟩
    have s32 := Same.upd_new (o := .tup [.int (wT a ob), .int (wB a ob)]) n32
    have g32 : (upd H31 u32 (.tup [.int (wT a ob), .int (wB a ob)])) u32 = some (.tup [.int (wT a ob), .int (wB a ob)]) := upd_same
    generalize upd H31 u32 (.tup [.int (wT a ob), .int (wB a ob)]) = H32 at s32 g32 ⊢
    have q32 := q31.trans s32
    walk_at "r"
    refine ⟨by show 0 ≤ sizeLine; decide, fun u33 n33 => ?_⟩
    have s33 := Same.upd_new (o := .lst []) n33
    have g33 : (upd H32 u33 (.lst [])) u33 = some (.lst []) := upd_same
    generalize upd H32 u33 (.lst []) = H33 at s33 g33 ⊢
    have q33 := q32.trans s33
    walk_at "r"
    refine fun u34 n34 => ?_
    have s34 := Same.upd_new (o := .dK []) n34
    have g34 : (upd H33 u34 (.dK [])) u34 = some (.dK []) := upd_same
    generalize upd H33 u34 (.dK []) = H34 at s34 g34 ⊢
    have q34 := q33.trans s34
    walk_at "r"
    refine ⟨by show 1 ≤ sizeLine; decide, fun u35 n35 => ?_⟩
    have s35 := Same.upd_new (o := .lst [.ref p]) n35
    have g35 : (upd H34 u35 (.lst [.ref p])) u35 = some (.lst [.ref p]) := upd_same
    generalize upd H34 u35 (.lst [.ref p]) = H35 at s35 g35 ⊢
    have q35 := q34.trans s35
    walk_at "r"
    refine ⟨by show 8 ≤ sizeLine; decide, fun u36 n36 => ?_⟩
    have s36 := Same.upd_new (o := .lst [.non, .str (Str.ofString ""), .str (lineR (wT a ob) (wB a ob)), .ref u31, .ref u32, .ref u33, .ref u34, .ref u35]) n36
    have g36 : (upd H35 u36 (.lst [.non, .str (Str.ofString ""), .str (lineR (wT a ob) (wB a ob)), .ref u31, .ref u32, .ref u33, .ref u34, .ref u35])) u36 = some (.lst [.non, .str (Str.ofString ""), .str (lineR (wT a ob) (wB a ob)), .ref u31, .ref u32, .ref u33, .ref u34, .ref u35]) := upd_same
    have od : ∀ x ∈ ([.non, .str (Str.ofString ""), .str (lineR (wT a ob) (wB a ob)), .ref u31, .ref u32, .ref u33, .ref u34, .ref u35] : List V), Odd C K (upd H35 u36 (.lst [.non, .str (Str.ofString ""), .str (lineR (wT a ob) (wB a ob)), .ref u31, .ref u32, .ref u33, .ref u34, .ref u35])) x := by
      intro x hx
      refine Odd.same (H := H35) ?_ s36
      have h31 := (s32.trans (s33.trans (s34.trans s35))) _ _ g31
      have h32 := (s33.trans (s34.trans s35)) _ _ g32
      have h33 := (s34.trans s35) _ _ g33
      have h34 := s35 _ _ g34
      simp only [List.mem_cons, List.not_mem_nil, or_false] at hx
      rcases hx with rfl | rfl | rfl | rfl | rfl | rfl | rfl | rfl
      · exact odd_non
      · exact odd_str _
      · exact odd_str _
      · exact odd_lst h31
      · exact odd_tup h32
      · exact odd_lst h33
      · exact odd_dK h34
      · exact odd_lst g35
    generalize upd H35 u36 (.lst [.non, .str (Str.ofString ""), .str (lineR (wT a ob) (wB a ob)), .ref u31, .ref u32, .ref u33, .ref u34, .ref u35]) = H36 at s36 g36 od ⊢
    have q36 := q35.trans s36
    have r36 := r2.same q36
    have b36 := b2.same q36
    have t36 : But b H H36 := fun a o x e => q36 _ _ (t2 a o x e)
    generalize ([.non, .str (Str.ofString ""), .str (lineR (wT a ob) (wB a ob)), .ref u31, .ref u32, .ref u33, .ref u34, .ref u35] : List V) = xs at g36 od ⊢
    clear s36 n36 n35 n34 n33 n32 n31 g31 g32 g33 g34 g35
    refine ⟨u36, rfl, ⟨_, SqL.of g36⟩, for_list (K := K) (a := u36) (xs := xs) (fun i τ T => ∃ v4 : Option V, τ = [some (.ref b), some (.ref t), some (.ref p), some (.str (lineR (wT a ob) (wB a ob))), v4, none, some (.int (wT a ob)), some (.int (wB a ob))] ∧ Same H36 T) ⟨none, rfl, Same.refl _⟩ (fun i τ T _ q => SqL.of (q.choose_spec.2 _ _ g36)) ?_ ?_⟩
    · rintro i x τ T hx ⟨v4, rfl, sT⟩
      have ox := (od x (List.mem_of_getElem? hx)).same sT
      walk_at "r"
      refine eq_odd S (r36.same sT) ox ?_
      walk_at "r"
      obtain ⟨tx, ty, kd, nn⟩ := ox
      refine ⟨_, _, rfl, ty, kd, ?_⟩
      rw [nn]
      walk_at "r"
      refine ⟨_, _, rfl, rfl, ?_⟩
      rw [decide_eq_true rfl]
      walk_at "r"
      exact ⟨_, rfl, sT⟩
    · rintro τ T ⟨v4, rfl, sT⟩
      have rT := r36.same sT
      have bT := b36.same sT
      have tT : But b H T := fun a o x e => sT _ _ (t36 a o x e)
      walk_at "r"
      refine ⟨by show 2 ≤ sizeLine; decide, fun u41 n41 => ?_⟩
      have s41 := Same.upd_new (o := .lst [.bl true, .bl false]) n41
      have g41 : (upd T u41 (.lst [.bl true, .bl false])) u41 = some (.lst [.bl true, .bl false]) := upd_same
      generalize upd T u41 (.lst [.bl true, .bl false]) = T1 at s41 g41 ⊢
      have u41b : u41 ≠ b := by
        rintro rfl
        obtain ⟨_, _, _, _, e', _⟩ := bT
        rw [n41] at e'
        cases e'
      walk_at "r"
      refine ⟨b, _, _, rfl, bT.same s41, by omega, by decide, by decide, fun m T2 m0 m2 b2' tt2 => ?_⟩
      have g2 := tt2 _ _ u41b g41
      have r2' : RatAt C T2 p (wT a ob) (wB a ob) := by
        obtain ⟨dx, e⟩ := rT.same s41
        exact ⟨dx, tt2 _ _ (by rintro rfl; obtain ⟨_, _, _, _, e', _⟩ := (bT.same s41); rw [e] at e'; cases e') e⟩
      have tT2 : But b H T2 := fun a o x e => tt2 _ _ x (s41 _ _ (tT a o x e))
      have ix : ∃ bb : Bool, ∀ {Qx : VK}, Qx (.bl bb) T2 → rIxL K (.ref u41) (.int m) T2 Qx := by
        rcases (show m = 0 ∨ m = 1 by omega) with rfl | rfl
        · exact ⟨true, fun h => r_ixL (SqL.of g2) rfl h⟩
        · exact ⟨false, fun h => r_ixL (SqL.of g2) rfl h⟩
      obtain ⟨bb, ix⟩ := ix
      refine ix ?_
      refine eq_odd S r2' (odd_bl bb) ⟨_, rfl, ?_⟩
      walk_at "r"
      refine r_ratK (x := 1) (y := 1) rfl rfl (fun v => rfl) (by decide) (by decide +kernel) fun T3 x3 s3 r3 => ?_
      have g3 := s3 _ _ g2
      walk_at "r"
      refine eq_odd S r3 (odd_bl _) ⟨_, rfl, ?_⟩
      walk_at "r"
      refine r_ratK (x := 0) (y := 5) rfl rfl (fun v => rfl) (by decide) (by decide +kernel) fun T4 x4 s4 r4 => ?_
      have g4 := s4 _ _ g3
      walk_at "r"
      refine eq_odd S r4 (odd_bl _) ⟨_, rfl, ?_⟩
      walk_at "r"
      refine ⟨_, _, rfl, .base (.bl true), .bl, ?_⟩
      rw [show isN C (.type "bool") = false from rfl]
      walk_at "r"
      refine ⟨_, _, rfl, rfl, ?_⟩
      rw [decide_eq_true rfl]
      walk_at "r"
      refine ⟨_, _, rfl, .base (.bl false), .bl, ?_⟩
      rw [show isN C (.type "bool") = false from rfl]
      walk_at "r"
      refine ⟨_, _, rfl, rfl, ?_⟩
      rw [decide_eq_true rfl]
      exact k _ ((b2'.same s3).same s4) (fun a o x e => s4 _ _ (s3 _ _ (tT2 a o x e)))
end
end Eld
set_option Elab.async false
set_option maxRecDepth 100000
set_option maxHeartbeats 4000000
set_option linter.all false
namespace Eld
open PySem L2
local macro_rules | `(tactic| walk_at "r1") => `(tactic| with_reducible first
  | refine r_seq ?_ | refine r_asgN ?_ | refine r_asg ?_ | refine r_gname ?_ | refine r_gsub ?_ | refine r_var rfl ?_ | refine r_c ?_ | refine r_op ?_ | refine r_un ?_ | refine r_u ?_ | refine r_i0 ?_ | refine r_cb ?_ | refine r_cons ?_ | refine r_nil ?_ | refine r_cl ?_ | refine r_fn rfl rfl ?_ | refine r_mt ?_
  | refine r_test ?_ | refine r_tb ?_ | refine r_bl ?_ | refine r_and ?_ | refine r_or ?_ | refine r_not ?_ | refine r_andV ?_ | refine r_orV ?_ | refine r_notV ?_ | refine r_ifX ?_ | refine r_ifs ?_ | refine r_chain ?_ | refine r_ret ?_ | refine r_next ?_ | refine r_drop ?_ | refine iteT ?_ | refine iteF ?_ | refine iteNT ?_ | refine iteNF ?_
  | refine r_int1 ?_ | refine r_boolB ?_ | refine r_eqI ?_ | refine r_neI ?_ | refine r_eqB ?_ | refine r_neB ?_ | refine r_eqS ?_ | refine r_neS ?_ | refine r_abs ?_ | refine r_max2 ?_ | refine r_min2 ?_ | refine r_yes ?_ | refine r_tup ?_ | refine r_sfld ?_ | refine r_m0 ?_ | refine r_m1 ?_ | refine r_lst ?_ | refine r_rng1 ?_ | refine r_rng2 ?_ | refine r_ixL (SqL.of (by assumption)) rfl ?_)
local macro_rules | `(tactic| walk_at "r") => `(tactic| repeat (first | walk_at "r1" | ((with_reducible refine r_var ?hv ?_); (case hv => rfl))))

open SX (S)
local macro_rules | `(tactic| walk_at "r1") => `(tactic| with_reducible first | refine r_clS ?_ | refine r_fnS rfl rfl ?_ | refine r_mtS ?_ | refine r_mkO ?_ | refine r_par ?_)
/-- what the top has written of the three errors -/
structure Errs (K : PySem.W.Frag) (mg : Str → Option Value) (ce cl cz : Addr) : Prop where
  gN : mg "InvalidNumber" = some (.ref ce)
  gZ : mg "ByZero" = some (.ref cz)
  gL : mg "InvalidLine" = some (.ref cl)
  xN : XfC K ce
  xL : XfC K cl
  nN : PySem.W.findIn K (.ref ce) "given" = some none
  nL : PySem.W.findIn K (.ref cl) "given" = some none
  eNN : PySem.W.exmOne K (.ref ce) (.ref ce) = some true
  eZN : PySem.W.exmOne K (.ref cz) (.ref ce) = some false
  eZZ : PySem.W.exmOne K (.ref cz) (.ref cz) = some true
  eLN : PySem.W.exmOne K (.ref cl) (.ref ce) = some false
  eLZ : PySem.W.exmOne K (.ref cl) (.ref cz) = some false
  eLL : PySem.W.exmOne K (.ref cl) (.ref cl) = some true
theorem gv_look (v : V) : (gv v).lookup ("given" : Str) = some v := by unfold gv; rw [look_cons, if_pos rfl]
/-- what is told, as a list -/
def outs (Q : VK) (H : Hp) (xs : List V) (H' : Hp) : Prop := ∀ l H'', H l = none → Same H' H'' → H'' l = some (.lst xs) → Q (.ref l) H''
def spMet (C : Addr) (K : PySem.W.Frag) : Sp := fun vs H Q _ => ∃ (way : Int) (one other : V), vs = [.int way, one, other] ∧
  ((way = 0 ∧ ∃ t, TyX K H one t ∧ Kind C t ∧ isI t = false ∧ ∀ H', Same H H' → outs Q H [.str "number", one] H') ∨
   (way = 0 ∧ ∃ x t, one = .int x ∧ TyX K H other t ∧ Kind C t ∧ isI t = false ∧ ∀ H', Same H H' → outs Q H [.str "number", other] H') ∨
   (way = 0 ∧ ∃ x, one = .int x ∧ other = .int 0 ∧ ∀ H', Same H H' → outs Q H [.str "zero"] H') ∨
   (way = 1 ∧ Odd C K H one ∧ ∀ H', Same H H' → outs Q H [.str "number", one] H') ∨
   (way = 1 ∧ ∃ d, NumAt C H one 0 d ∧ Sm d ∧ ∀ H', Same H H' → outs Q H [.str "zero"] H') ∨
   (way = 2 ∧ Odd C K H one ∧ ∀ H', Same H H' → outs Q H [.str "number", one] H') ∨
   (way = 2 ∧ one = .int 0 ∧ ∀ H', Same H H' → outs Q H [.str "told", .bl false] H') ∨
   (way = 3 ∧ Odd C K H one ∧ ∀ H', Same H H' → outs Q H [.str "number", one] H') ∨
   (way = 3 ∧ ∃ x, one = .int x ∧ ∀ H' p, Same H H' → RatAt C H' p x 1 → outs Q H [.str "told", .ref p] H') ∨
   (way = 4 ∧ ((∃ t, TyX K H one t ∧ Kind C t ∧ t ≠ .type "str") ∨ ∃ a, one = .str (S a) ∧ a.length ≤ 400 ∧ NoLine a) ∧ ∀ H', Same H H' → outs Q H [.str "line", one] H') ∨
   (way = 4 ∧ ∃ n d, one = .str (S (lineL n d)) ∧ Low n d ∧ n.natAbs < 10 ^ 150 ∧ d.natAbs < 10 ^ 150 ∧ ∀ H' p, Same H H' → RatAt C H' p n d → outs Q H [.str "told", .ref p] H'))
section
variable {P : Program} {w : World} {K : PySem.W.Frag} {mg : Str → Option Value} {base : Heap} {C ce cl cz : Addr}
theorem ok_met {f : Addr} {fd : FuncData} (F : Fun K "_law_met" "_law_met" s__law_met f fd) (Z : Zs K mg C cz) (Sx : Sc K C) (R : Errs K mg ce cl cz) (k_Ratio : MakX P w K mg base 3 "Ratio" C 2 [] byPlace (spRatI C ce cz K)) (m_over : MetX P w K mg base 6 C "over" 2 [] byPlace (spOver C ce cz K)) (m_below : MetX P w K mg base 6 C "below" 2 [] byPlace (spBelow C ce K))
    (d_as_ratio : DefX P w K mg base 5 "as_ratio" 1 [] byPlace (spAsRat C ce K)) (d_read_number : DefX P w K mg base 5 "read_number" 1 [] byPlace (spRead C cl K)) : FnG P w K mg base CX0 7 f fd ["way", "one", "other"] (spMet C K) := by
  refine okG F sc__law_met (fun vs H Q E h => ?_) (fun cdv B up z H vs Q E hG hr h => ?_)
  · obtain ⟨way, one, other, rfl, _⟩ := h
    rfl
  refine ⟨_, (pss_one (ps_try_mix rfl rfl takes0 (fun W pn xe tk _ =>
      (pss_cons (ps_if (pt_cmpR op_eq (pv 0) pe_int (nomark _)) (pss_one (ps_ret (pe_lst (pa_cons pe_str (pa_cons (pkX_pos k_Ratio tk hG hr (by decide) (by rfl) (pa_cons (pv 1) (pa_cons (pv 2) pa_nil))) pa_nil))))) pss_nil)
      (pss_cons (ps_if (pt_cmpR op_eq (pv 0) pe_int (nomark _)) (pss_one (ps_ret (pe_lst (pa_cons pe_str (pa_cons (pqX_pos m_over tk hG hr (by decide) (pkX_pos k_Ratio tk hG hr (by decide) (by rfl) (pa_cons pe_int (pa_cons pe_int pa_nil))) (pa_cons (pv 1) pa_nil)) pa_nil))))) pss_nil)
      (pss_cons (ps_if (pt_cmpR op_eq (pv 0) pe_int (nomark _)) (pss_one (ps_ret (pe_lst (pa_cons pe_str (pa_cons (pqX_pos m_below tk hG hr (by decide) (pkX_pos k_Ratio tk hG hr (by decide) (by rfl) (pa_cons pe_int (pa_cons pe_int pa_nil))) (pa_cons (pv 1) pa_nil)) pa_nil))))) pss_nil)
      (pss_one (ps_ret (pe_lst (pa_cons pe_str (pa_cons (pe_ifExp (pt_cmpR op_eq (pv 0) pe_int (nomark _)) (pdX_pos d_as_ratio tk hG hr (by decide) (by rfl) (pa_cons (pv 1) pa_nil)) (pdX_pos d_read_number tk hG hr (by decide) (by rfl) (pa_cons (pv 1) pa_nil))) pa_nil)))))))))
    (.named (i := 3) sc__law_met.nd rfl rfl ⟨rfl, by decide, .inl R.gN⟩ (fun e oe cls d pn hz hf => (pss_one (ps_ret (pe_lst (pa_cons pe_str (pa_cons (pe_xf R.xN R.nN hz hf (pv 3)) pa_nil))))))
    (.bare ⟨rfl, by decide, .inl R.gZ⟩ (fun e oe cls d pn hz hf => (pss_one (ps_ret (pe_lst (pa_cons pe_str pa_nil)))))
    (.named (i := 3) sc__law_met.nd rfl rfl ⟨rfl, by decide, .inl R.gL⟩ (fun e oe cls d pn hz hf => (pss_one (ps_ret (pe_lst (pa_cons pe_str (pa_cons (pe_xf R.xL R.nL hz hf (pv 3)) pa_nil)))))) .nil))))), ?_⟩
  obtain ⟨way, one, other, rfl, h⟩ := h
  rcases h with ⟨rfl, t, ty, kd, ni, k⟩ | ⟨rfl, x, t, rfl, ty, kd, ni, k⟩ | ⟨rfl, x, rfl, rfl, k⟩ | ⟨rfl, od, k⟩ | ⟨rfl, d, num, sd, k⟩ | ⟨rfl, od, k⟩ | ⟨rfl, rfl, k⟩ | ⟨rfl, od, k⟩ | ⟨rfl, x, rfl, k⟩ | ⟨rfl, bad, k⟩ | ⟨rfl, n, d, rfl, lo, sn, sd, k⟩
  · walk_at "r"
    rw [decide_eq_true rfl]
    walk_at "r"
    refine r_mkS rfl rfl fun x dx2 hx hdx hne => ?_
    have new : Same H (upd (upd H dx2 (.own x)) x (.ins C dx2 [])) := fun b o e => by
      rw [upd_ne (ne_of_none e hx), upd_ne (ne_of_none e hdx)]
      exact e
    refine ⟨x, _, _, dx2, rfl, upd_same, .inr (.inl ⟨t, TyX.same ty new, kd, ni, fun d' G nd sG gd => ?_⟩)⟩
    refine ⟨true, R.eNN, fun _ e ne => ?_, (fun q => by cases q)⟩
    walk_at "r"
    refine ⟨_, rfl, rfl, rfl, d', gv _, _, rfl, gd, gv_look _, ?_⟩
    walk_at "r"
    refine ⟨by show 2 ≤ sizeLine; decide, fun l hl => ?_⟩
    exact k _ (new.trans sG) l _ ((new.trans sG).free hl) (Same.upd_new hl) upd_same
  · walk_at "r"
    rw [decide_eq_true rfl]
    walk_at "r"
    refine r_mkS rfl rfl fun y dx2 hx hdx hne => ?_
    have new : Same H (upd (upd H dx2 (.own y)) y (.ins C dx2 [])) := fun b o e => by
      rw [upd_ne (ne_of_none e hx), upd_ne (ne_of_none e hdx)]
      exact e
    refine ⟨y, _, _, dx2, rfl, upd_same, .inr (.inr (.inl ⟨x, t, rfl, TyX.same ty new, kd, ni, fun d' G nd sG gd => ?_⟩))⟩
    refine ⟨true, R.eNN, fun _ e ne => ?_, (fun q => by cases q)⟩
    walk_at "r"
    refine ⟨_, rfl, rfl, rfl, d', gv _, _, rfl, gd, gv_look _, ?_⟩
    walk_at "r"
    refine ⟨by show 2 ≤ sizeLine; decide, fun l hl => ?_⟩
    exact k _ (new.trans sG) l _ ((new.trans sG).free hl) (Same.upd_new hl) upd_same
  · walk_at "r"
    rw [decide_eq_true rfl]
    walk_at "r"
    refine r_mkS rfl rfl fun y dx2 hx hdx hne => ?_
    have new : Same H (upd (upd H dx2 (.own y)) y (.ins C dx2 [])) := fun b o e => by
      rw [upd_ne (ne_of_none e hx), upd_ne (ne_of_none e hdx)]
      exact e
    refine ⟨y, _, _, dx2, rfl, upd_same, .inr (.inr (.inr ⟨x, rfl, rfl, ?_⟩))⟩
    refine ⟨false, R.eZN, (fun q => by cases q), fun _ => ⟨true, R.eZZ, fun _ e ne => ?_, (fun q => by cases q)⟩⟩
    walk_at "r"
    refine ⟨by show 1 ≤ sizeLine; decide, fun l hl => ?_⟩
    exact k _ new l _ (new.free hl) (Same.upd_new hl) upd_same
  · walk_at "r"
    rw [decide_eq_false (show ¬ V.int 1 = V.int 0 by decide)]
    walk_at "r"
    rw [decide_eq_true rfl]
    walk_at "r"
    refine r_rat (by decide) (by decide +kernel) fun H2 q s2 rq => ?_
    obtain ⟨dq, eq⟩ := rq
    refine ⟨q, dq, _, rfl, eq, rt_no _ _ (by decide +kernel) (by decide +kernel), ?_⟩
    walk_at "r"
    obtain ⟨t, ty, kd, nn⟩ := od.same s2
    refine ⟨q, _, _, _, rfl, ⟨dq, eq⟩, by first | decide +kernel | (unfold Sm; decide +kernel), by first | decide +kernel | (unfold Sm; decide +kernel), by first | decide +kernel | (unfold Sm; decide +kernel), .inr (.inr ⟨t, ty, kd, nn, fun d' G nd sG gd => ?_⟩)⟩
    refine ⟨true, R.eNN, fun _ e ne => ?_, (fun q => by cases q)⟩
    walk_at "r"
    refine ⟨_, rfl, rfl, rfl, d', gv _, _, rfl, gd, gv_look _, ?_⟩
    walk_at "r"
    refine ⟨by show 2 ≤ sizeLine; decide, fun l hl => ?_⟩
    exact k _ (s2.trans sG) l _ ((s2.trans sG).free hl) (Same.upd_new hl) upd_same
  · walk_at "r"
    rw [decide_eq_false (show ¬ V.int 1 = V.int 0 by decide)]
    walk_at "r"
    rw [decide_eq_true rfl]
    walk_at "r"
    refine r_rat (by decide) (by decide +kernel) fun H2 q s2 rq => ?_
    obtain ⟨dq, eq⟩ := rq
    refine ⟨q, dq, _, rfl, eq, rt_no _ _ (by decide +kernel) (by decide +kernel), ?_⟩
    walk_at "r"
    refine ⟨q, _, _, _, rfl, ⟨dq, eq⟩, by first | decide +kernel | (unfold Sm; decide +kernel), by first | decide +kernel | (unfold Sm; decide +kernel), by first | decide +kernel | (unfold Sm; decide +kernel), .inr (.inl ⟨d, num.same s2, sd, fun H3 s3 => ?_⟩)⟩
    refine ⟨false, R.eZN, (fun q => by cases q), fun _ => ⟨true, R.eZZ, fun _ e ne => ?_, (fun q => by cases q)⟩⟩
    walk_at "r"
    refine ⟨by show 1 ≤ sizeLine; decide, fun l hl => ?_⟩
    exact k _ (s2.trans s3) l _ ((s2.trans s3).free hl) (Same.upd_new hl) upd_same
  · walk_at "r"
    rw [decide_eq_false (show ¬ V.int 2 = V.int 0 by decide)]
    walk_at "r"
    rw [decide_eq_false (show ¬ V.int 2 = V.int 1 by decide)]
    walk_at "r"
    rw [decide_eq_true rfl]
    walk_at "r"
    refine r_rat (by decide) (by decide +kernel) fun H2 q s2 rq => ?_
    obtain ⟨dq, eq⟩ := rq
    refine ⟨q, dq, _, rfl, eq, rt_no _ _ (by decide +kernel) (by decide +kernel), ?_⟩
    walk_at "r"
    obtain ⟨t, ty, kd, nn⟩ := od.same s2
    refine ⟨q, _, _, _, rfl, ⟨dq, eq⟩, by first | decide +kernel | (unfold Sm; decide +kernel), by first | decide +kernel | (unfold Sm; decide +kernel), .inr ⟨t, ty, kd, nn, fun d' G nd sG gd => ?_⟩⟩
    refine ⟨true, R.eNN, fun _ e ne => ?_, (fun q => by cases q)⟩
    walk_at "r"
    refine ⟨_, rfl, rfl, rfl, d', gv _, _, rfl, gd, gv_look _, ?_⟩
    walk_at "r"
    refine ⟨by show 2 ≤ sizeLine; decide, fun l hl => ?_⟩
    exact k _ (s2.trans sG) l _ ((s2.trans sG).free hl) (Same.upd_new hl) upd_same
  · walk_at "r"
    rw [decide_eq_false (show ¬ V.int 2 = V.int 0 by decide)]
    walk_at "r"
    rw [decide_eq_false (show ¬ V.int 2 = V.int 1 by decide)]
    walk_at "r"
    rw [decide_eq_true rfl]
    walk_at "r"
    refine r_rat (by decide) (by decide +kernel) fun H2 q s2 rq => ?_
    obtain ⟨dq, eq⟩ := rq
    refine ⟨q, dq, _, rfl, eq, rt_no _ _ (by decide +kernel) (by decide +kernel), ?_⟩
    walk_at "r"
    refine ⟨q, _, _, _, rfl, ⟨dq, eq⟩, by first | decide +kernel | (unfold Sm; decide +kernel), by first | decide +kernel | (unfold Sm; decide +kernel), .inl ⟨0, 1, .inl ⟨rfl, rfl⟩, by first | decide +kernel | (unfold Sm; decide +kernel), by first | decide +kernel | (unfold Sm; decide +kernel), fun H3 s3 => ?_⟩⟩
    walk_at "r"
    refine ⟨by show 2 ≤ sizeLine; decide, fun l hl => ?_⟩
    rw [show decide (lowT 3 4 * 1 < 0 * lowB 3 4) = false by decide +kernel]
    exact k _ (s2.trans s3) l _ ((s2.trans s3).free hl) (Same.upd_new hl) upd_same
  · walk_at "r"
    rw [decide_eq_false (show ¬ V.int 3 = V.int 0 by decide)]
    walk_at "r"
    rw [decide_eq_false (show ¬ V.int 3 = V.int 1 by decide)]
    walk_at "r"
    rw [decide_eq_false (show ¬ V.int 3 = V.int 2 by decide)]
    walk_at "r"
    rw [decide_eq_true rfl]
    walk_at "r"
    obtain ⟨t, ty, kd, nn⟩ := od
    refine ⟨_, rfl, .inr ⟨t, ty, kd, nn, fun d' G nd sG gd => ?_⟩⟩
    refine ⟨true, R.eNN, fun _ e ne => ?_, (fun q => by cases q)⟩
    walk_at "r"
    refine ⟨_, rfl, rfl, rfl, d', gv _, _, rfl, gd, gv_look _, ?_⟩
    walk_at "r"
    refine ⟨by show 2 ≤ sizeLine; decide, fun l hl => ?_⟩
    exact k _ sG l _ (sG.free hl) (Same.upd_new hl) upd_same
  · walk_at "r"
    rw [decide_eq_false (show ¬ V.int 3 = V.int 0 by decide)]
    walk_at "r"
    rw [decide_eq_false (show ¬ V.int 3 = V.int 1 by decide)]
    walk_at "r"
    rw [decide_eq_false (show ¬ V.int 3 = V.int 2 by decide)]
    walk_at "r"
    rw [decide_eq_true rfl]
    walk_at "r"
    refine ⟨_, rfl, .inl ⟨x, 1, .inl ⟨rfl, rfl⟩, fun H3 p s3 rp => ?_⟩⟩
    walk_at "r"
    refine ⟨by show 2 ≤ sizeLine; decide, fun l hl => ?_⟩
    exact k _ _ s3 rp l _ (s3.free hl) (Same.upd_new hl) upd_same
  · walk_at "r"
    rw [decide_eq_false (show ¬ V.int 4 = V.int 0 by decide)]
    walk_at "r"
    rw [decide_eq_false (show ¬ V.int 4 = V.int 1 by decide)]
    walk_at "r"
    rw [decide_eq_false (show ¬ V.int 4 = V.int 2 by decide)]
    walk_at "r"
    rw [decide_eq_false (show ¬ V.int 4 = V.int 3 by decide)]
    walk_at "r"
    rcases bad with ⟨t, ty, kd, ns⟩ | ⟨a, rfl, la, nl⟩
    · refine ⟨_, rfl, .inr (.inl ⟨t, ty, kd, ns, fun d' G nd sG gd => ?_⟩)⟩
      refine ⟨false, R.eLN, (fun q => by cases q), fun _ => ⟨false, R.eLZ, (fun q => by cases q), fun _ => ⟨true, R.eLL, fun _ e ne => ?_, (fun q => by cases q)⟩⟩⟩
      walk_at "r"
      refine ⟨_, rfl, rfl, rfl, d', gv _, _, rfl, gd, gv_look _, ?_⟩
      walk_at "r"
      refine ⟨by show 2 ≤ sizeLine; decide, fun l hl => ?_⟩
      exact k _ sG l _ (sG.free hl) (Same.upd_new hl) upd_same
    · refine ⟨_, rfl, .inr (.inr ⟨a, rfl, la, nl, fun d' G nd sG gd => ?_⟩)⟩
      refine ⟨false, R.eLN, (fun q => by cases q), fun _ => ⟨false, R.eLZ, (fun q => by cases q), fun _ => ⟨true, R.eLL, fun _ e ne => ?_, (fun q => by cases q)⟩⟩⟩
      walk_at "r"
      refine ⟨_, rfl, rfl, rfl, d', gv _, _, rfl, gd, gv_look _, ?_⟩
      walk_at "r"
      refine ⟨by show 2 ≤ sizeLine; decide, fun l hl => ?_⟩
      exact k _ sG l _ (sG.free hl) (Same.upd_new hl) upd_same
  · walk_at "r"
    rw [decide_eq_false (show ¬ V.int 4 = V.int 0 by decide)]
    walk_at "r"
    rw [decide_eq_false (show ¬ V.int 4 = V.int 1 by decide)]
    walk_at "r"
    rw [decide_eq_false (show ¬ V.int 4 = V.int 2 by decide)]
    walk_at "r"
    rw [decide_eq_false (show ¬ V.int 4 = V.int 3 by decide)]
    walk_at "r"
    refine ⟨_, rfl, .inl ⟨n, d, rfl, lo, sn, sd, fun H3 p s3 rp => ?_⟩⟩
    walk_at "r"
    refine ⟨by show 2 ≤ sizeLine; decide, fun l hl => ?_⟩
    exact k _ _ s3 rp l _ (s3.free hl) (Same.upd_new hl) upd_same
end
end Eld
set_option Elab.async false
set_option maxRecDepth 100000
set_option maxHeartbeats 4000000
set_option linter.all false
namespace Eld
open PySem L2
local macro_rules | `(tactic| walk_at "r1") => `(tactic| with_reducible first
  | refine r_seq ?_ | refine r_asgN ?_ | refine r_asg ?_ | refine r_gname ?_ | refine r_gsub ?_ | refine r_var rfl ?_ | refine r_c ?_ | refine r_op ?_ | refine r_un ?_ | refine r_u ?_ | refine r_i0 ?_ | refine r_cb ?_ | refine r_cons ?_ | refine r_nil ?_ | refine r_cl ?_ | refine r_fn rfl rfl ?_ | refine r_mt ?_
  | refine r_test ?_ | refine r_tb ?_ | refine r_bl ?_ | refine r_and ?_ | refine r_or ?_ | refine r_not ?_ | refine r_andV ?_ | refine r_orV ?_ | refine r_notV ?_ | refine r_ifX ?_ | refine r_ifs ?_ | refine r_chain ?_ | refine r_ret ?_ | refine r_next ?_ | refine r_drop ?_ | refine iteT ?_ | refine iteF ?_ | refine iteNT ?_ | refine iteNF ?_
  | refine r_int1 ?_ | refine r_boolB ?_ | refine r_eqI ?_ | refine r_neI ?_ | refine r_eqB ?_ | refine r_neB ?_ | refine r_eqS ?_ | refine r_neS ?_ | refine r_abs ?_ | refine r_max2 ?_ | refine r_min2 ?_ | refine r_yes ?_ | refine r_tup ?_ | refine r_sfld ?_ | refine r_m0 ?_ | refine r_m1 ?_ | refine r_lst ?_ | refine r_rng1 ?_ | refine r_rng2 ?_ | refine r_ixL (SqL.of (by assumption)) rfl ?_)
local macro_rules | `(tactic| walk_at "r") => `(tactic| repeat (first | walk_at "r1" | ((with_reducible refine r_var ?hv ?_); (case hv => rfl))))

local macro_rules | `(tactic| walk_at "r1") => `(tactic| with_reducible first | refine r_clS ?_ | refine r_fnS rfl rfl ?_ | refine r_mtS ?_ | refine r_mkO ?_ | refine r_par ?_)
/-- what repr asks of what holds a dict or great numbers -/
def showsT (d : PyData) : Bool := d.showable && decide (d.depth ≤ 60) && decide (d.shown.length ≤ 1000)
theorem r_reprX {K : PySem.W.Frag} {H : Hp} {Q : VK} {a : Addr} {d : PyData} (h : Dx K H (.ref a) d) (ok : showsT d = true) (q : Q (.str d.shown) H) : rReprX K [.ref a] H Q := by
  simp only [showsT, Bool.and_eq_true, decide_eq_true_eq] at ok
  obtain ⟨⟨h1, h3⟩, h4⟩ := ok
  exact ⟨a, d, rfl, h, h1, h3, by rw [sizeLine_eq]; omega, q⟩
def oddsD : List PyData := [.none, .bool true, .bool false, .str "1", .str "", .list [.int 1], .tuple [.int 1, .int 2], .list [], .dict [], .str "1/2"]
def numD (d : PyData) : PyData := .list [.str "number", d]
theorem odds_show : ∀ d ∈ oddsD, showsT (numD d) = true := by decide +kernel
theorem odds_odd {C : Addr} {K : PySem.W.Frag} {H : Hp} {v : V} {d : PyData} (h : Dx K H v d) (m : d ∈ oddsD) : Odd C K H v := by
  have ty := h.ty
  simp only [oddsD, List.mem_cons, List.not_mem_nil, or_false] at m
  rcases m with rfl | rfl | rfl | rfl | rfl | rfl | rfl | rfl | rfl | rfl
  · exact ⟨_, ty, .non, rfl⟩
  · exact ⟨_, ty, .bl, rfl⟩
  · exact ⟨_, ty, .bl, rfl⟩
  · exact ⟨_, ty, .str, rfl⟩
  · exact ⟨_, ty, .str, rfl⟩
  · exact ⟨_, ty, .lst, rfl⟩
  · exact ⟨_, ty, .tup, rfl⟩
  · exact ⟨_, ty, .lst, rfl⟩
  · exact ⟨_, ty, .dic, rfl⟩
  · exact ⟨_, ty, .str, rfl⟩
theorem Odd.isI {C : Addr} {K : PySem.W.Frag} {H : Hp} {v : V} (h : Odd C K H v) : ∃ t, TyX K H v t ∧ Kind C t ∧ isI t = false := by
  obtain ⟨t, a, b, c⟩ := h
  simp only [isN, Bool.or_eq_false_iff] at c
  exact ⟨t, a, b, c.2⟩
theorem dxall_get {K : PySem.W.Frag} {H : Hp} : ∀ {xs : List V} {ds : List PyData}, DxAll K H xs ds → ∀ {i : Nat} {v : V}, xs[i]? = some v → ∃ d, d ∈ ds ∧ Dx K H v d
  | _, _, .nil, i, v, e => by cases e
  | _, _, .cons h r, 0, v, e => by cases e; exact ⟨_, List.mem_cons_self .., h⟩
  | _, _, .cons h r, i + 1, v, e => by
    obtain ⟨d, m, x⟩ := dxall_get r (i := i) e
    exact ⟨d, List.mem_cons_of_mem _ m, x⟩
theorem num_dx {K : PySem.W.Frag} {H : Hp} {l : Addr} {v : V} {d : PyData} (e : H l = some (.lst [.str "number", v])) (h : Dx K H v d) : Dx K H (.ref l) (numD d) := .lst e (.cons (.str _) (.cons h .nil))
theorem met_odd {C : Addr} {K : PySem.W.Frag} {H : Hp} {Q : VK} {E : XK} {way : Int} {v : V} (hw : way = 1 ∨ way = 2 ∨ way = 3) (h : Odd C K H v) (k : ∀ H', Same H H' → outs Q H [.str "number", v] H') : spMet C K [.int way, v, .non] H Q E := by
  refine ⟨way, v, .non, rfl, ?_⟩
  rcases hw with rfl | rfl | rfl
  · exact .inr (.inr (.inr (.inl ⟨rfl, h, k⟩)))
  · exact .inr (.inr (.inr (.inr (.inr (.inl ⟨rfl, h, k⟩)))))
  · exact .inr (.inr (.inr (.inr (.inr (.inr (.inr (.inl ⟨rfl, h, k⟩)))))))
theorem r_par3 {i j l : Nat} {ta : TA} {D : Ends} {σ : L2.St} {H : Hp} (h : ta σ H fun vs H1 => ∃ u v w, vs = [u, v, w] ∧ D.nx (((σ.set i (some u)).set j (some v)).set l (some w)) H1) : tPar3 i j l ta D σ H := h
theorem r_ratN {C Ce cz : Addr} {K : PySem.W.Frag} {σ : L2.St} {H : Hp} {Q : VK} {E : L2.St → XK} {x y : Int} (hy : y ≠ 0) (hs : y.natAbs < 2 ^ 4000) (k : ∀ H' q, H q = none → Same H H' → RatAt C H' q (lowT x y) (lowB x y) → Q (.ref q) H') : rMkS C 2 0 byPlace (spRatI C Ce cz K) E σ [.int x, .int y] [] H Q := by
  refine r_mkS rfl rfl fun q dx2 hx hdx hne => ?_
  have new : Same H (upd (upd H dx2 (.own q)) q (.ins C dx2 [])) := fun b o e => by
    rw [upd_ne (ne_of_none e hx), upd_ne (ne_of_none e hdx)]
    exact e
  exact ⟨q, _, _, dx2, rfl, upd_same, .inl ⟨x, y, rfl, rfl, hy, hs, fun H5 s5 r5 => ⟨rfl, k H5 q hx (fun b o e => s5 b o (ne_of_none e hx) (new _ _ e)) r5⟩⟩⟩
def spRefused : Sp := fun vs H Q _ => ∃ (b t : Addr) (n : Nat) (a : Int) (ob : Option Int), vs = [.ref b, .ref t] ∧ BoxAt H b n ∧ n < 3000000 ∧ PairAt H t a ob ∧ Good a ob ∧ ∀ H', BoxAt H' b (n + 2) → But b H H' → Q (.bl true) H'
section
variable {P : Program} {w : World} {K : PySem.W.Frag} {mg : Str → Option Value} {base : Heap} {C Ce cz : Addr}
theorem ok_refused {f : Addr} {fd : FuncData} (F : Fun K "_law_refused_right" "_law_refused_right" s__law_refused_right f fd) (Z : Zs K mg C cz) (S : Sc K C) (hM : ModsD base) (d__law_take : DefD P w K mg base 1 "_law_take" 2 [] byPlace spTake) (d__law_met : DefD P w K mg base 7 "_law_met" 3 [] byPlace (spMet C K)) (d__law_is : DefD P w K mg base 1 "_law_is" 2 [] byPlace (spIs C)) (k_Ratio : MakX P w K mg base 3 "Ratio" C 2 [] byPlace (spRatI C Ce cz K)) (d_eq : EqA P w K mg base 6 C (spEq C K)) : FnG P w K mg base CX0 8 f fd ["box", "pair"] spRefused := by
  refine okG F sc__law_refused_right (fun vs H Q E h => ?_) (fun cdv B up z H vs Q E hG hr h => ?_)
  · obtain ⟨b, t, n, a, ob, rfl, _⟩ := h
    rfl
  have hu : (B.deeper (PyProof.Rows.envOfC "_law_refused_right" (defScope s__law_refused_right) z.heap.objs.size f cdv)).units + 64 < cLine := by have := hr.un; omega
  refine ⟨_, (pss_cons (ps_set (i := 2) sc__law_refused_right.nd rfl (by first | exact Or.inl rfl | exact Or.inr rfl) (pe_lst (pa_cons pe_non (pa_cons pe_bl (pa_cons pe_bl (pa_cons pe_str (pa_cons pe_str (pa_cons (pe_lst (pa_cons pe_int pa_nil)) (pa_cons (pe_tup (pa_cons pe_int (pa_cons pe_int pa_nil))) (pa_cons (pe_lst pa_nil) (pa_cons pe_dnewK (pa_cons pe_str pa_nil))))))))))))
  (pss_cons (ps_par3 rfl sc__law_refused_right.nd (i := 6) (j := 7) (l := 8) rfl rfl rfl (by decide) (by decide) (by decide) rfl rfl rfl (pa_cons (pe_ix (show IxR _ (rIxL K) from ix_list) (pv 2) (pd_pos d__law_take hG hr (by decide) (by rfl) (pa_cons (pv 0) (pa_cons pe_int pa_nil))) (fun _ _ => rfl)) (pa_cons (pe_ix (show IxR _ (rIxL K) from ix_list) (pv 2) (pd_pos d__law_take hG hr (by decide) (by rfl) (pa_cons (pv 0) (pa_cons pe_int pa_nil))) (fun _ _ => rfl)) (pa_cons (pe_ix (show IxR _ (rIxT K) from ix_tup) (pv 1) pe_int (fun _ _ => rfl)) pa_nil))) rfl)
  (pss_cons (ps_for PassesOwn.never rfl (pi_list (pe_lst (pa_cons (pe_tup (pa_cons (pv 6) (pa_cons (pv 7) (pa_cons (pv 6) pa_nil)))) (pa_cons (pe_tup (pa_cons (pv 6) (pa_cons pe_int (pa_cons (pv 6) pa_nil)))) (pa_cons (pe_tup (pa_cons (pv 8) (pa_cons (pv 6) (pa_cons (pv 6) pa_nil)))) (pa_cons (pe_tup (pa_cons pe_int (pa_cons (pv 6) (pa_cons (pv 6) pa_nil)))) pa_nil)))))) (by (refine (show PG _ _ (gTup K 3 (gCons (gName 9) (gCons (gName 10) (gCons (gName 11) gNil)))) from ?_); refine pg_tup rfl (pgs_cons ?_ (pgs_cons ?_ (pgs_cons ?_ pgs_nil))); exact (pg_name (i := 9) sc__law_refused_right.nd rfl (by first | exact Or.inl rfl | exact Or.inr rfl)); exact (pg_name (i := 10) sc__law_refused_right.nd rfl (by first | exact Or.inl rfl | exact Or.inr rfl)); exact (pg_name (i := 11) sc__law_refused_right.nd rfl (by first | exact Or.inl rfl | exact Or.inr rfl))))
  (pss_one (ps_if (pt_cmpR op_ne (pe_callB (show CallR _ _ (rReprX K) from call_reprX hM hG hu) (by rfl) Z.repr_ (by decide +kernel) (pa_cons (pd_pos d__law_met hG hr (by decide) (by rfl) (pa_cons pe_int (pa_cons (pv 9) (pa_cons (pv 10) pa_nil)))) pa_nil)) (pe_callB (show CallR _ _ (rReprX K) from call_reprX hM hG hu) (by rfl) Z.repr_ (by decide +kernel) (pa_cons (pe_lst (pa_cons pe_str (pa_cons (pv 11) pa_nil))) pa_nil)) (nomark _)) (pss_one (ps_ret pe_bl)) pss_nil)))
  (pss_cons (ps_if (PW.pt (pw_or (pt_cmpR (show OpR _ _ (rNeD K) from op_neD hu) (pd_pos d__law_met hG hr (by decide) (by rfl) (pa_cons pe_int (pa_cons (pv 8) (pa_cons pe_int pa_nil)))) (pe_lst (pa_cons pe_str pa_nil)) (nomark _)) (pw_or1 (pt_cmpR (o_neL2 d_eq hG hr (by decide)) (pd_pos d__law_met hG hr (by decide) (by rfl) (pa_cons pe_int (pa_cons (pkX_pos k_Ratio takes0 hG hr (by decide) (by rfl) (pa_cons pe_int (pa_cons pe_int pa_nil))) (pa_cons pe_int pa_nil)))) (pe_lst (pa_cons pe_str (pa_cons (pkX_pos k_Ratio takes0 hG hr (by decide) (by rfl) (pa_cons pe_int (pa_cons pe_int pa_nil))) pa_nil))) (nomark _))))) (pss_one (ps_ret pe_bl)) pss_nil)
  (pss_cons (ps_for PassesOwn.never rfl (pi_list (pe_lst (pa_cons pe_int (pa_cons pe_int (pa_cons pe_int pa_nil))))) (pg_name (i := 3) sc__law_refused_right.nd rfl (by first | exact Or.inl rfl | exact Or.inr rfl))
  (pss_one (ps_if (pt_cmpR op_ne (pe_callB (show CallR _ _ (rReprX K) from call_reprX hM hG hu) (by rfl) Z.repr_ (by decide +kernel) (pa_cons (pd_pos d__law_met hG hr (by decide) (by rfl) (pa_cons (pv 3) (pa_cons (pv 6) (pa_cons pe_non pa_nil)))) pa_nil)) (pe_callB (show CallR _ _ (rReprX K) from call_reprX hM hG hu) (by rfl) Z.repr_ (by decide +kernel) (pa_cons (pe_lst (pa_cons pe_str (pa_cons (pv 6) pa_nil))) pa_nil)) (nomark _)) (pss_one (ps_ret pe_bl)) pss_nil)))
  (pss_cons (ps_if (PW.pt (pw_or (pt_cmpR (show OpR _ _ (rNeD K) from op_neD hu) (pd_pos d__law_met hG hr (by decide) (by rfl) (pa_cons pe_int (pa_cons pe_int (pa_cons pe_non pa_nil)))) (pe_lst (pa_cons pe_str pa_nil)) (nomark _)) (pw_or1 (pt_cmpR (show OpR _ _ (rNeD K) from op_neD hu) (pd_pos d__law_met hG hr (by decide) (by rfl) (pa_cons pe_int (pa_cons (pkX_pos k_Ratio takes0 hG hr (by decide) (by rfl) (pa_cons pe_int (pa_cons pe_int pa_nil))) (pa_cons pe_non pa_nil)))) (pe_lst (pa_cons pe_str pa_nil)) (nomark _))))) (pss_one (ps_ret pe_bl)) pss_nil)
  (pss_cons (ps_if (PW.pt (pw_or (pt_cmpR (show OpR _ _ (rNeD K) from op_neD hu) (pd_pos d__law_met hG hr (by decide) (by rfl) (pa_cons pe_int (pa_cons pe_int (pa_cons pe_non pa_nil)))) (pe_lst (pa_cons pe_str (pa_cons pe_bl pa_nil))) (nomark _)) (pw_or1 (pt_not (pt_val (pd_pos d__law_is hG hr (by decide) (by rfl) (pa_cons (pe_ix (show IxR _ (rIxL K) from ix_list) (pd_pos d__law_met hG hr (by decide) (by rfl) (pa_cons pe_int (pa_cons (pv 8) (pa_cons pe_non pa_nil)))) pe_int (fun _ _ => rfl)) (pa_cons (pe_tup (pa_cons (pv 8) (pa_cons pe_int pa_nil))) pa_nil)))))))) (pss_one (ps_ret pe_bl)) pss_nil)
  (pss_cons (ps_set (i := 4) sc__law_refused_right.nd rfl (by first | exact Or.inl rfl | exact Or.inr rfl) (pe_lst (pa_cons pe_int pa_nil)))
  (pss_cons (ps_set (i := 5) sc__law_refused_right.nd rfl (by first | exact Or.inl rfl | exact Or.inr rfl) (pd_pos d__law_met hG hr (by decide) (by rfl) (pa_cons pe_int (pa_cons (pv 4) (pa_cons pe_non pa_nil)))))
  (pss_cons (ps_expr (pe_bm PySem.F.plainAttrs_list PySem.F.slot_list_append PySem.F.type_list_append mt_append (pv 4) (pa_cons pe_int pa_nil)))
  (pss_one (ps_ret (pe_cmpR (show OpR _ _ (rEqD K) from op_eqD hu) (pv 5) (pe_lst (pa_cons pe_str (pa_cons (pe_lst (pa_cons pe_int (pa_cons pe_int pa_nil))) pa_nil))) (nomark _)))))))))))))), ?_⟩
  obtain ⟨b, t, n, a, ob, rfl, hb, hn, pt, hg, k⟩ := h
  have newb : ∀ {G : Hp} {m : Nat} {u : Addr}, BoxAt G b m → G u = none → u ≠ b := by
    rintro G m u h e rfl
    obtain ⟨_, _, _, _, e', _⟩ := h
    rw [e] at e'
    cases e'
  walk_at "r"
  refine ⟨by show 1 ≤ sizeLine; decide, fun u1 n1 => ?_⟩
  have s1 := Same.upd_new (o := .lst [.int 1]) n1
  have g1 : (upd H u1 (.lst [.int 1])) u1 = some (.lst [.int 1]) := upd_same
  have e1 := newb hb n1
  generalize upd H u1 (.lst [.int 1]) = H1 at s1 g1 ⊢
  walk_at "r"
  refine ⟨by show 2 ≤ sizeLine; decide, fun u2 n2 => ?_⟩
  have s2 := Same.upd_new (o := .tup [.int 1, .int 2]) n2
  have g2 : (upd H1 u2 (.tup [.int 1, .int 2])) u2 = some (.tup [.int 1, .int 2]) := upd_same
  have e2 := newb (hb.same s1) n2
  generalize upd H1 u2 (.tup [.int 1, .int 2]) = H2 at s2 g2 ⊢
  walk_at "r"
  refine ⟨by show 0 ≤ sizeLine; decide, fun u3 n3 => ?_⟩
  have s3 := Same.upd_new (o := .lst []) n3
  have g3 : (upd H2 u3 (.lst [])) u3 = some (.lst []) := upd_same
  have e3 := newb ((hb.same s1).same s2) n3
  generalize upd H2 u3 (.lst []) = H3 at s3 g3 ⊢
  walk_at "r"
  refine fun u4 n4 => ?_
  have s4 := Same.upd_new (o := .dK []) n4
  have g4 : (upd H3 u4 (.dK [])) u4 = some (.dK []) := upd_same
  have e4 := newb (((hb.same s1).same s2).same s3) n4
  generalize upd H3 u4 (.dK []) = H4 at s4 g4 ⊢
  walk_at "r"
  refine ⟨by show 10 ≤ sizeLine; decide, fun u5 n5 => ?_⟩
  generalize hxs : ([.non, .bl true, .bl false, .str (Str.ofString "1"), .str (Str.ofString ""), .ref u1, .ref u2, .ref u3, .ref u4, .str (Str.ofString "1/2")] : List V) = xs
  have lxs : xs.length = 10 := by rw [← hxs]; rfl
  have s5 := Same.upd_new (o := .lst xs) n5
  have g5 : (upd H4 u5 (.lst xs)) u5 = some (.lst xs) := upd_same
  have b4 := (((hb.same s1).same s2).same s3).same s4
  have e5 := newb b4 n5
  generalize upd H4 u5 (.lst xs) = H5 at s5 g5 ⊢
  have b5 := b4.same s5
  have q5 := s1.trans (s2.trans (s3.trans (s4.trans s5)))
  walk_at "r"
  refine r_par3 ?_
  walk_at "r"
  refine ⟨b, _, _, rfl, b5, by omega, by decide, by decide, fun i T1 i0 i10 bb1 t1 => ?_⟩
  obtain ⟨i, rfl⟩ := Int.eq_ofNat_of_zero_le i0
  have il : i < xs.length := by omega
  have x1 : xs[i]? = some xs[i] := List.getElem?_eq_getElem il
  generalize xs[i] = odd at x1
  refine r_ixL (SqL.of (t1 _ _ e5 g5)) (atI_nat x1) ?_
  walk_at "r"
  refine ⟨b, _, _, rfl, bb1, by omega, by decide, by decide, fun j T2 j0 j10 bb2 t2 => ?_⟩
  obtain ⟨j, rfl⟩ := Int.eq_ofNat_of_zero_le j0
  have jl : j < xs.length := by omega
  have x2 : xs[j]? = some xs[j] := List.getElem?_eq_getElem jl
  generalize xs[j] = more at x2
  have t12 : ∀ c o, c ≠ b → H5 c = some o → T2 c = some o := fun c o ne e => t2 _ _ ne (t1 _ _ ne e)
  refine r_ixL (SqL.of (t12 _ _ e5 g5)) (atI_nat x2) ?_
  walk_at "r"
  have dall : DxAll K T2 xs oddsD := by
    have h1 := t12 _ _ e1 ((s2.trans (s3.trans (s4.trans s5))) _ _ g1)
    have h2 := t12 _ _ e2 ((s3.trans (s4.trans s5)) _ _ g2)
    have h3 := t12 _ _ e3 ((s4.trans s5) _ _ g3)
    have h4 := t12 _ _ e4 (s5 _ _ g4)
    rw [← hxs]
    exact .cons .non (.cons (.bl _) (.cons (.bl _) (.cons (.str _) (.cons (.str _) (.cons (.lst h1 (.cons (.int _) .nil)) (.cons (.tup h2 (.cons (.int _) (.cons (.int _) .nil))) (.cons (.lst h3 .nil) (.cons (.emp h4) (.cons (.str _) .nil)))))))))
  obtain ⟨d1, md1, hd1⟩ := dxall_get dall x1
  obtain ⟨d2, md2, hd2⟩ := dxall_get dall x2
  have ptT : PairAt T2 t a ob := t12 _ _ (by rintro rfl; obtain ⟨_, _, _, _, e', _⟩ := hb; rw [pt] at e'; cases e') (q5 _ _ pt)
  have tT : But b H T2 := fun c o ne e => t12 _ _ ne (q5 _ _ e)
  have sh := odds_show d1 md1
  clear dall t12 t1 t2 x1 x2 lxs hxs g1 g2 g3 g4 g5 s1 s2 s3 s4 s5 q5 b4 b5 bb1 hb pt e1 e2 e3 e4 n1 n2 n3 n4 n5
  refine r_ixT (SqT.of ptT) rfl ?_
  walk_at "r"
  refine ⟨_, _, _, rfl, ?_⟩
  walk_at "r"
  with_reducible refine r_for ?_
  refine r_il ?_
  walk_at "r"
  refine ⟨by show 3 ≤ sizeLine; decide, fun u11 n11 => ?_⟩
  have s11 := Same.upd_new (o := .tup [odd, more, odd]) n11
  have g11 : (upd T2 u11 (.tup [odd, more, odd])) u11 = some (.tup [odd, more, odd]) := upd_same
  generalize upd T2 u11 (.tup [odd, more, odd]) = H11 at s11 g11 ⊢
  walk_at "r"
  refine ⟨by show 3 ≤ sizeLine; decide, fun u12 n12 => ?_⟩
  have s12 := Same.upd_new (o := .tup [odd, .int 0, odd]) n12
  have g12 : (upd H11 u12 (.tup [odd, .int 0, odd])) u12 = some (.tup [odd, .int 0, odd]) := upd_same
  generalize upd H11 u12 (.tup [odd, .int 0, odd]) = H12 at s12 g12 ⊢
  walk_at "r"
  refine ⟨by show 3 ≤ sizeLine; decide, fun u13 n13 => ?_⟩
  have s13 := Same.upd_new (o := .tup [.int a, odd, odd]) n13
  have g13 : (upd H12 u13 (.tup [.int a, odd, odd])) u13 = some (.tup [.int a, odd, odd]) := upd_same
  generalize upd H12 u13 (.tup [.int a, odd, odd]) = H13 at s13 g13 ⊢
  walk_at "r"
  refine ⟨by show 3 ≤ sizeLine; decide, fun u14 n14 => ?_⟩
  have s14 := Same.upd_new (o := .tup [.int 0, odd, odd]) n14
  have g14 : (upd H13 u14 (.tup [.int 0, odd, odd])) u14 = some (.tup [.int 0, odd, odd]) := upd_same
  generalize upd H13 u14 (.tup [.int 0, odd, odd]) = H14 at s14 g14 ⊢
  walk_at "r"
  refine ⟨by show 4 ≤ sizeLine; decide, fun u15 n15 => ?_⟩
  have s15 := Same.upd_new (o := .lst [.ref u11, .ref u12, .ref u13, .ref u14]) n15
  have g15 : (upd H14 u15 (.lst [.ref u11, .ref u12, .ref u13, .ref u14])) u15 = some (.lst [.ref u11, .ref u12, .ref u13, .ref u14]) := upd_same
  generalize upd H14 u15 (.lst [.ref u11, .ref u12, .ref u13, .ref u14]) = H15 at s15 g15 ⊢
  have items : ∀ x ∈ ([.ref u11, .ref u12, .ref u13, .ref u14] : List V), ∃ u one other, x = .ref u ∧ H15 u = some (.tup [one, other, odd]) ∧ (one = odd ∨ ∃ i, one = .int i ∧ other = odd) := by
    intro x hx
    simp only [List.mem_cons, List.not_mem_nil, or_false] at hx
    rcases hx with rfl | rfl | rfl | rfl
    · exact ⟨_, _, _, rfl, (s12.trans (s13.trans (s14.trans s15))) _ _ g11, .inl rfl⟩
    · exact ⟨_, _, _, rfl, (s13.trans (s14.trans s15)) _ _ g12, .inl rfl⟩
    · exact ⟨_, _, _, rfl, (s14.trans s15) _ _ g13, .inr ⟨_, rfl, rfl⟩⟩
    · exact ⟨_, _, _, rfl, s15 _ _ g14, .inr ⟨_, rfl, rfl⟩⟩
  have q15 := s11.trans (s12.trans (s13.trans (s14.trans s15)))
  have hd := Dx.same q15 _ _ hd1
  have pt15 := q15 _ _ ptT
  have b15 := bb2.same q15
  have t15 : But b H H15 := fun c o ne e => q15 _ _ (tT c o ne e)
  generalize ([.ref u11, .ref u12, .ref u13, .ref u14] : List V) = ys at items g15 ⊢
  clear s11 s12 s13 s14 s15 g11 g12 g13 g14 q15 hd1 hd2 ptT bb2 tT n11 n12 n13 n14 n15 md2
  refine ⟨u15, rfl, ⟨_, SqL.of g15⟩, for_list (K := K) (a := u15) (xs := ys) (fun i τ T => ∃ v9 v10 v11 : Option V, τ = [some (.ref b), some (.ref t), some (.ref u5), none, none, none, some odd, some more, some (.int a), v9, v10, v11] ∧ Same H15 T) ⟨none, none, none, rfl, Same.refl _⟩ (fun i τ T _ q => by obtain ⟨_, _, _, _, s⟩ := q; exact SqL.of (s _ _ g15)) ?_ ?_⟩
  · rintro i x τ T hx ⟨v9, v10, v11, rfl, sT⟩
    obtain ⟨u, one, other, rfl, gu, kind⟩ := items x (List.mem_of_getElem? hx)
    have gu := sT _ _ gu
    have hdT := Dx.same sT _ _ hd
    walk_at "r"
    refine ⟨u, _, rfl, SqT.of gu, rfl, _, _, rfl, ?_⟩
    walk_at "r"
    refine ⟨_, _, rfl, ?_⟩
    walk_at "r"
    refine ⟨_, _, rfl, ?_⟩
    walk_at "r"
    refine ⟨rfl, ?_⟩
    walk_at "r"
    have met : ∀ {Q' : VK}, (∀ H', Same T H' → outs Q' T [.str "number", odd] H') → spMet C K [.int 0, one, other] T Q' (fun _ _ _ => False) := by
      intro Q' kk
      obtain ⟨tt, ty, kd, ni⟩ := (odds_odd (C := C) hdT md1).isI
      rcases kind with rfl | ⟨i, rfl, rfl⟩
      · exact ⟨0, _, _, rfl, .inl ⟨rfl, tt, ty, kd, ni, kk⟩⟩
      · exact ⟨0, _, _, rfl, .inr (.inl ⟨rfl, i, tt, rfl, ty, kd, ni, kk⟩)⟩
    refine met fun T1 s1 l T2 nl s2 gl => ?_
    have q2 := s1.trans s2
    walk_at "r"
    refine r_reprX (num_dx gl (Dx.same q2 _ _ hdT)) sh ?_
    walk_at "r"
    refine ⟨by show 2 ≤ sizeLine; decide, fun u3 n3 => ?_⟩
    have s3 := Same.upd_new (o := .lst [.str (Str.ofString "number"), odd]) n3
    have g3 : (upd T2 u3 (.lst [.str (Str.ofString "number"), odd])) u3 = some (.lst [.str (Str.ofString "number"), odd]) := upd_same
    generalize upd T2 u3 (.lst [.str (Str.ofString "number"), odd]) = T3 at s3 g3 ⊢
    walk_at "r"
    refine r_reprX (num_dx g3 (Dx.same (q2.trans s3) _ _ hdT)) sh ?_
    walk_at "r"
    rw [decide_eq_true rfl]
    walk_at "r"
    exact ⟨_, _, _, rfl, sT.trans (q2.trans s3)⟩
  · rintro τ T ⟨v9, v10, v11, rfl, sT⟩
    have hdT := Dx.same sT _ _ hd
    have ptT := sT _ _ pt15
    have bT := b15.same sT
    have tT : But b H T := fun c o ne e => sT _ _ (t15 c o ne e)
    have od := odds_odd (C := C) hdT md1
    clear items g15 sT pt15 b15 t15 hd
    walk_at "r"
    refine ⟨0, .int a, .int 0, rfl, .inr (.inr (.inl ⟨rfl, a, rfl, rfl, fun T1 s1 l1 T2 nl1 s2 gl1 => ?_⟩))⟩
    have q2 := s1.trans s2
    walk_at "r"
    refine ⟨by show 1 ≤ sizeLine; decide, fun u21 n21 => ?_⟩
    have s21 := Same.upd_new (o := .lst [.str (Str.ofString "zero")]) n21
    have g21 : (upd T2 u21 (.lst [.str (Str.ofString "zero")])) u21 = some (.lst [.str (Str.ofString "zero")]) := upd_same
    generalize upd T2 u21 (.lst [.str (Str.ofString "zero")]) = H21 at s21 g21 ⊢
    walk_at "r"
    have q21 := q2.trans s21
    refine ⟨.list [.str "zero"], .list [.str "zero"], .lst (SqL.of (s21 _ _ gl1)) (.cons (.str _) .nil), .lst (SqL.of g21) (.cons (.str _) .nil), by decide +kernel, by decide +kernel, ?_⟩
    rw [show (!PyData.eqv (.list [.str "zero"]) (.list [.str "zero"])) = false by decide +kernel]
    walk_at "r"
    refine r_rat (by decide) (by decide +kernel) fun H22 p22 s22 r22 => ?_
    have q22 := q21.trans s22
    obtain ⟨dx22, e22⟩ := r22
    walk_at "r"
    refine ⟨0, .ref p22, .int 0, rfl, .inl ⟨rfl, _, S.ty e22, .rat, rfl, fun T23 s23 l23 T24 nl23 s24 gl23 => ?_⟩⟩
    have q24 := q22.trans (s23.trans s24)
    walk_at "r"
    refine r_ratN (by decide) (by decide +kernel) fun H25 p25 n25 s25 r25 => ?_
    have q25 := q24.trans s25
    obtain ⟨dx25, e25⟩ := r25
    walk_at "r"
    refine ⟨by show 2 ≤ sizeLine; decide, fun u26 n26 => ?_⟩
    have s26 := Same.upd_new (o := .lst [.str (Str.ofString "number"), .ref p25]) n26
    have g26 : (upd H25 u26 (.lst [.str (Str.ofString "number"), .ref p25])) u26 = some (.lst [.str (Str.ofString "number"), .ref p25]) := upd_same
    generalize upd H25 u26 (.lst [.str (Str.ofString "number"), .ref p25]) = H26 at s26 g26 ⊢
    walk_at "r"
    have q26 := q25.trans s26
    have e22' := (s23.trans (s24.trans s25)) _ _ e22
    have pne : p22 ≠ p25 := ne_of_none ((s23.trans s24) _ _ e22) n25
    refine ⟨l23, u26, "number", p22, p25, dx22, _, _, rfl, rfl, (s25.trans s26) _ _ gl23, g26, pne, s26 _ _ e22', S.ty (s26 _ _ e25), S.nf _ .rat, ?_⟩
    refine ⟨p22, .ref p25, _, _, rfl, ⟨dx22, s26 _ _ e22'⟩, .inl ⟨_, _, .inr ⟨p25, rfl, dx25, s26 _ _ e25⟩, fun H27 s27 => ⟨?_, s27, _, rfl, ?_⟩⟩⟩
    · rw [decide_eq_true rfl, decide_eq_true rfl]
      rfl
    have q27 := q26.trans s27
    clear s1 s2 s21 s22 s23 s24 s25 s26 s27 e22' e22 e25 gl23 g26 g21 gl1 q2 q21 q22 q24 q25 q26 pne nl1 n21 nl23 n25 n26
    walk_at "r"
    with_reducible refine r_for ?_
    refine r_il ?_
    walk_at "r"
    refine ⟨by show 3 ≤ sizeLine; decide, fun u31 n31 => ?_⟩
    have s31 := Same.upd_new (o := .lst [.int 1, .int 2, .int 3]) n31
    have g31 : (upd H27 u31 (.lst [.int 1, .int 2, .int 3])) u31 = some (.lst [.int 1, .int 2, .int 3]) := upd_same
    generalize upd H27 u31 (.lst [.int 1, .int 2, .int 3]) = H31 at s31 g31 ⊢
    have q31 := q27.trans s31
    have hd31 := Dx.same q31 _ _ hdT
    have pt31 := q31 _ _ ptT
    have b31 := bT.same q31
    have t31 : But b H H31 := fun c o ne e => q31 _ _ (tT c o ne e)
    clear q31 s31 n31 q27 hdT ptT bT tT od
    refine ⟨u31, rfl, ⟨_, SqL.of g31⟩, for_list (K := K) (a := u31) (xs := [.int 1, .int 2, .int 3]) (fun i τ T => ∃ v3 v9 v10 v11 : Option V, τ = [some (.ref b), some (.ref t), some (.ref u5), v3, none, none, some odd, some more, some (.int a), v9, v10, v11] ∧ Same H31 T) ⟨none, _, _, _, rfl, Same.refl _⟩ (fun i τ T _ q => by obtain ⟨_, _, _, _, _, s⟩ := q; exact SqL.of (s _ _ g31)) ?_ ?_⟩
    · rintro i x T3 T hx ⟨v3, v9, v10, v11, rfl, sT⟩
      have hdT := Dx.same sT _ _ hd31
      have hw : ∃ way : Int, x = .int way ∧ (way = 1 ∨ way = 2 ∨ way = 3) := by
        have := List.mem_of_getElem? hx
        simp only [List.mem_cons, List.not_mem_nil, or_false] at this
        rcases this with rfl | rfl | rfl
        · exact ⟨1, rfl, .inl rfl⟩
        · exact ⟨2, rfl, .inr (.inl rfl)⟩
        · exact ⟨3, rfl, .inr (.inr rfl)⟩
      obtain ⟨way, rfl, hw⟩ := hw
      walk_at "r"
      refine met_odd hw (odds_odd hdT md1) fun T1 s1 l T2 nl s2 gl => ?_
      have q2 := s1.trans s2
      walk_at "r"
      refine r_reprX (num_dx gl (Dx.same q2 _ _ hdT)) sh ?_
      walk_at "r"
      refine ⟨by show 2 ≤ sizeLine; decide, fun u3 n3 => ?_⟩
      have s3 := Same.upd_new (o := .lst [.str (Str.ofString "number"), odd]) n3
      have g3 : (upd T2 u3 (.lst [.str (Str.ofString "number"), odd])) u3 = some (.lst [.str (Str.ofString "number"), odd]) := upd_same
      generalize upd T2 u3 (.lst [.str (Str.ofString "number"), odd]) = T3 at s3 g3 ⊢
      walk_at "r"
      refine r_reprX (num_dx g3 (Dx.same (q2.trans s3) _ _ hdT)) sh ?_
      walk_at "r"
      rw [decide_eq_true rfl]
      walk_at "r"
      exact ⟨_, _, _, _, rfl, sT.trans (q2.trans s3)⟩
    · rintro T3 T ⟨v3, v9, v10, v11, rfl, sT⟩
      have ptT := sT _ _ pt31
      have bT := b31.same sT
      have tT : But b H T := fun c o ne e => sT _ _ (t31 c o ne e)
      clear hd31 pt31 b31 t31 sT g31
      walk_at "r"
      refine ⟨1, .int 0, .non, rfl, .inr (.inr (.inr (.inr (.inl ⟨rfl, 1, .inl ⟨rfl, rfl⟩, by unfold Sm; decide +kernel, fun T1 s1 l1 T2 nl1 s2 gl1 => ?_⟩))))⟩
      have q2 := s1.trans s2
      walk_at "r"
      refine ⟨by show 1 ≤ sizeLine; decide, fun u41 n41 => ?_⟩
      have s41 := Same.upd_new (o := .lst [.str (Str.ofString "zero")]) n41
      have g41 : (upd T2 u41 (.lst [.str (Str.ofString "zero")])) u41 = some (.lst [.str (Str.ofString "zero")]) := upd_same
      generalize upd T2 u41 (.lst [.str (Str.ofString "zero")]) = H41 at s41 g41 ⊢
      walk_at "r"
      have q41 := q2.trans s41
      refine ⟨.list [.str "zero"], .list [.str "zero"], .lst (SqL.of (s41 _ _ gl1)) (.cons (.str _) .nil), .lst (SqL.of g41) (.cons (.str _) .nil), by decide +kernel, by decide +kernel, ?_⟩
      rw [show (!PyData.eqv (.list [.str "zero"]) (.list [.str "zero"])) = false by decide +kernel]
      walk_at "r"
      refine r_rat (by decide) (by decide +kernel) fun H42 p42 s42 r42 => ?_
      have q42 := q41.trans s42
      rw [show lowT 0 7 = 0 by decide +kernel, show lowB 0 7 = 1 by decide +kernel] at r42
      walk_at "r"
      refine ⟨1, .ref p42, .non, rfl, .inr (.inr (.inr (.inr (.inl ⟨rfl, 1, .inr ⟨p42, rfl, r42⟩, by unfold Sm; decide +kernel, fun T43 s43 l43 T44 nl43 s44 gl43 => ?_⟩))))⟩
      have q44 := q42.trans (s43.trans s44)
      walk_at "r"
      refine ⟨by show 1 ≤ sizeLine; decide, fun u45 n45 => ?_⟩
      have s45 := Same.upd_new (o := .lst [.str (Str.ofString "zero")]) n45
      have g45 : (upd T44 u45 (.lst [.str (Str.ofString "zero")])) u45 = some (.lst [.str (Str.ofString "zero")]) := upd_same
      generalize upd T44 u45 (.lst [.str (Str.ofString "zero")]) = H45 at s45 g45 ⊢
      walk_at "r"
      have q45 := q44.trans s45
      refine ⟨.list [.str "zero"], .list [.str "zero"], .lst (SqL.of (s45 _ _ gl43)) (.cons (.str _) .nil), .lst (SqL.of g45) (.cons (.str _) .nil), by decide +kernel, by decide +kernel, ?_⟩
      rw [show (!PyData.eqv (.list [.str "zero"]) (.list [.str "zero"])) = false by decide +kernel]
      walk_at "r"
      refine ⟨2, .int 0, .non, rfl, .inr (.inr (.inr (.inr (.inr (.inr (.inl ⟨rfl, rfl, fun T46 s46 l46 T47 nl46 s47 gl46 => ?_⟩))))))⟩
      have q47 := q45.trans (s46.trans s47)
      walk_at "r"
      refine ⟨by show 2 ≤ sizeLine; decide, fun u48 n48 => ?_⟩
      have s48 := Same.upd_new (o := .lst [.str (Str.ofString "told"), .bl false]) n48
      have g48 : (upd T47 u48 (.lst [.str (Str.ofString "told"), .bl false])) u48 = some (.lst [.str (Str.ofString "told"), .bl false]) := upd_same
      generalize upd T47 u48 (.lst [.str (Str.ofString "told"), .bl false]) = H48 at s48 g48 ⊢
      walk_at "r"
      have q48 := q47.trans s48
      refine ⟨.list [.str "told", .bool false], .list [.str "told", .bool false], .lst (SqL.of (s48 _ _ gl46)) (.cons (.str _) (.cons (.bl _) .nil)), .lst (SqL.of g48) (.cons (.str _) (.cons (.bl _) .nil)), by decide +kernel, by decide +kernel, ?_⟩
      rw [show (!PyData.eqv (.list [.str "told", .bool false]) (.list [.str "told", .bool false])) = false by decide +kernel]
      walk_at "r"
      refine ⟨3, .int a, .non, rfl, .inr (.inr (.inr (.inr (.inr (.inr (.inr (.inr (.inl ⟨rfl, a, rfl, fun T49 p49 s49 r49 l49 T50 nl49 s50 gl49 => ?_⟩))))))))⟩
      have q50 := q48.trans (s49.trans s50)
      walk_at "r"
      refine ⟨by show 2 ≤ sizeLine; decide, fun u51 n51 => ?_⟩
      have s51 := Same.upd_new (o := .tup [.int a, .int 1]) n51
      have g51 : (upd T50 u51 (.tup [.int a, .int 1])) u51 = some (.tup [.int a, .int 1]) := upd_same
      generalize upd T50 u51 (.tup [.int a, .int 1]) = H51 at s51 g51 ⊢
      walk_at "r"
      have q51 := q50.trans s51
      refine ⟨p49, u51, _, _, rfl, (r49.same s50).same s51, g51, fun H52 s52 => ?_⟩
      have q52 := q51.trans s52
      walk_at "r"
      have bx := bT.same q52
      refine ⟨by show 1 ≤ sizeLine; decide, fun u53 n53 => ?_⟩
      have s53 := Same.upd_new (o := .lst [.int 1]) n53
      have g53 : (upd H52 u53 (.lst [.int 1])) u53 = some (.lst [.int 1]) := upd_same
      generalize upd H52 u53 (.lst [.int 1]) = H53 at s53 g53 ⊢
      walk_at "r"
      have q53 := q52.trans s53
      have e53 := newb bx n53
      refine ⟨3, .ref u53, .non, rfl, .inr (.inr (.inr (.inr (.inr (.inr (.inr (.inl ⟨rfl, odd_lst g53, fun T54 s54 l54 T55 nl54 s55 gl54 => ?_⟩)))))))⟩
      have g55 := (s54.trans s55) _ _ g53
      have q55 := q53.trans (s54.trans s55)
      walk_at "r"
      refine ⟨_, rfl, .inl ⟨rfl, _, SqL.of g55⟩, ?_⟩
      walk_at "r"
      refine ⟨u53, _, .int 2, rfl, rfl, g55, by show 1 < sizeLine; decide, ?_⟩
      have ne54 : l54 ≠ u53 := (ne_of_none g53 nl54).symm
      have gl' : (upd T55 u53 (.lst ([.int 1] ++ [.int 2]))) l54 = some (.lst [.str (Str.ofString "number"), .ref u53]) := by rw [upd_ne ne54]; exact gl54
      have gu' : (upd T55 u53 (.lst ([.int 1] ++ [.int 2]))) u53 = some (.lst [.int 1, .int 2]) := upd_same
      have bf : BoxAt (upd T55 u53 (.lst ([.int 1] ++ [.int 2]))) b (n + 2) := by
        obtain ⟨x1, x2, x3, x4, e, r⟩ := bx.same (s53.trans (s54.trans s55))
        exact ⟨x1, x2, x3, x4, by rw [upd_ne (Ne.symm e53)]; exact e, r⟩
      have tf : But b H (upd T55 u53 (.lst ([.int 1] ++ [.int 2]))) := fun c o ne e => by
        have e2 := q52 _ _ (tT c o ne e)
        rw [upd_ne (ne_of_none e2 n53)]
        exact (s53.trans (s54.trans s55)) _ _ e2
      generalize upd T55 u53 (.lst ([.int 1] ++ [.int 2])) = H56 at gl' gu' bf tf ⊢
      walk_at "r"
      refine ⟨by show 2 ≤ sizeLine; decide, fun u57 n57 => ?_⟩
      have s57 := Same.upd_new (o := .lst [.int 1, .int 2]) n57
      have g57 : (upd H56 u57 (.lst [.int 1, .int 2])) u57 = some (.lst [.int 1, .int 2]) := upd_same
      generalize upd H56 u57 (.lst [.int 1, .int 2]) = H57 at s57 g57 ⊢
      walk_at "r"
      refine ⟨by show 2 ≤ sizeLine; decide, fun u58 n58 => ?_⟩
      have s58 := Same.upd_new (o := .lst [.str (Str.ofString "number"), .ref u57]) n58
      have g58 : (upd H57 u58 (.lst [.str (Str.ofString "number"), .ref u57])) u58 = some (.lst [.str (Str.ofString "number"), .ref u57]) := upd_same
      generalize upd H57 u58 (.lst [.str (Str.ofString "number"), .ref u57]) = H58 at s58 g58 ⊢
      walk_at "r"
      have q58 := s57.trans s58
      refine ⟨.list [.str "number", .list [.int 1, .int 2]], .list [.str "number", .list [.int 1, .int 2]], .lst (SqL.of (q58 _ _ gl')) (.cons (.str _) (.cons (.lst (SqL.of (q58 _ _ gu')) (.cons (.int _) (.cons (.int _) .nil))) .nil)), .lst (SqL.of g58) (.cons (.str _) (.cons (.lst (SqL.of (s58 _ _ g57)) (.cons (.int _) (.cons (.int _) .nil))) .nil)), by decide +kernel, by decide +kernel, ?_⟩
      rw [show PyData.eqv (.list [.str "number", .list [.int 1, .int 2]]) (.list [.str "number", .list [.int 1, .int 2]]) = true by decide +kernel]
      exact k _ (bf.same q58) (fun c o ne e => q58 _ _ (tf c o ne e))
end
end Eld
set_option Elab.async false
set_option maxRecDepth 100000
set_option maxHeartbeats 4000000
set_option linter.all false
namespace Eld
open PySem L2
local macro_rules | `(tactic| walk_at "r1") => `(tactic| with_reducible first
  | refine r_seq ?_ | refine r_asgN ?_ | refine r_asg ?_ | refine r_gname ?_ | refine r_gsub ?_ | refine r_var rfl ?_ | refine r_c ?_ | refine r_op ?_ | refine r_un ?_ | refine r_u ?_ | refine r_i0 ?_ | refine r_cb ?_ | refine r_cons ?_ | refine r_nil ?_ | refine r_cl ?_ | refine r_fn rfl rfl ?_ | refine r_mt ?_
  | refine r_test ?_ | refine r_tb ?_ | refine r_bl ?_ | refine r_and ?_ | refine r_or ?_ | refine r_not ?_ | refine r_andV ?_ | refine r_orV ?_ | refine r_notV ?_ | refine r_ifX ?_ | refine r_ifs ?_ | refine r_chain ?_ | refine r_ret ?_ | refine r_next ?_ | refine r_drop ?_ | refine iteT ?_ | refine iteF ?_ | refine iteNT ?_ | refine iteNF ?_
  | refine r_int1 ?_ | refine r_boolB ?_ | refine r_eqI ?_ | refine r_neI ?_ | refine r_eqB ?_ | refine r_neB ?_ | refine r_eqS ?_ | refine r_neS ?_ | refine r_abs ?_ | refine r_max2 ?_ | refine r_min2 ?_ | refine r_yes ?_ | refine r_tup ?_ | refine r_sfld ?_ | refine r_m0 ?_ | refine r_m1 ?_ | refine r_lst ?_ | refine r_rng1 ?_ | refine r_rng2 ?_ | refine r_ixL (SqL.of (by assumption)) rfl ?_)
local macro_rules | `(tactic| walk_at "r") => `(tactic| repeat (first | walk_at "r1" | ((with_reducible refine r_var ?hv ?_); (case hv => rfl))))

open SX (S S_len S_cat S_inj)
local macro_rules | `(tactic| walk_at "r1") => `(tactic| with_reducible first | refine r_clS ?_ | refine r_fnS rfl rfl ?_ | refine r_mtS ?_ | refine r_mkO ?_ | refine r_par ?_)
/-! ## texts that are the line of no number -/
theorem line_no {n d : Int} (h : 47 ∉ lineL n d) : d = 1 ∧ lineL n d = numI n := by
  unfold lineL at h ⊢
  by_cases c : d = 1
  · exact ⟨c, by rw [if_pos c]⟩
  · rw [if_neg c] at h
    exact absurd (List.mem_append_right _ (List.mem_cons_self ..)) h
theorem line_at {n d : Int} {p q : List Nat} (hp : 47 ∉ p) (e : lineL n d = p ++ 47 :: q) : d ≠ 1 ∧ p = numI n ∧ q = TL.numL d.natAbs := by
  unfold lineL at e
  by_cases c : d = 1
  · rw [if_pos c] at e
    exact absurd (e ▸ List.mem_append_right _ (List.mem_cons_self ..)) (numI_free n)
  · rw [if_neg c] at e
    have h1 := part_at (q := TL.numL d.natAbs) (numI_free n)
    rw [e, part_at hp] at h1
    have h2 := congrArg Prod.fst h1
    have h3 := congrArg (fun x => x.2.2) h1
    exact ⟨c, S_inj h2, S_inj h3⟩
theorem numI_back {n : Int} {a : List Nat} (h : a = numI n) : a = numI (valI a) := by rw [h, (numI_un n).2]
theorem numL_back {n : Nat} {a : List Nat} (h : a = TL.numL n) : NumText.digitsVal a = n := by rw [h, TL.numL_val]
theorem noline_no {a : List Nat} (h47 : 47 ∉ a) (h : a ≠ numI (valI a)) : NoLine a := fun n d _ e => by
  rw [e] at h47 h
  obtain ⟨_, e2⟩ := line_no h47
  rw [e2] at h
  exact h (numI_back rfl)
theorem noline_at {p q : List Nat} (hp : 47 ∉ p) (h : p ≠ numI (valI p) ∨ q ≠ TL.numL (NumText.digitsVal q) ∨ NumText.digitsVal q ≤ 1 ∨ Nat.gcd (valI p).natAbs (NumText.digitsVal q) ≠ 1) : NoLine (p ++ 47 :: q) := fun n d lo e => by
  obtain ⟨d1, e1, e2⟩ := line_at hp e.symm
  have dp := lo.pos
  have hv := numL_back e2
  rcases h with h | h | h | h
  · exact h (numI_back e1)
  · rw [hv] at h
    exact h e2
  · omega
  · rw [hv] at h
    rw [e1, (numI_un n).2] at h
    exact h lo.2
theorem numI_chars {n : Int} {c : Nat} (h : c ∈ numI n) : c = 45 ∨ (48 ≤ c ∧ c ≤ 57) := by
  have g := TL.numL_digits n.natAbs
  unfold numI at h
  split at h
  · rcases List.mem_cons.mp h with h | h
    · exact .inl h
    · exact .inr (g c h)
  · exact .inr (g c h)
theorem line_chars {n d : Int} {c : Nat} (h : c ∈ lineL n d) : c = 45 ∨ c = 47 ∨ (48 ≤ c ∧ c ≤ 57) := by
  unfold lineL at h
  split at h
  · rcases numI_chars h with h | h
    · exact .inl h
    · exact .inr (.inr h)
  · rcases List.mem_append.mp h with h | h
    · rcases numI_chars h with h | h
      · exact .inl h
      · exact .inr (.inr h)
    · rcases List.mem_cons.mp h with h | h
      · exact .inr (.inl h)
      · exact .inr (.inr (TL.numL_digits _ c h))
theorem noline_char {a : List Nat} {c : Nat} (h : c ∈ a) (hc : ¬ (c = 45 ∨ c = 47 ∨ (48 ≤ c ∧ c ≤ 57))) : NoLine a := fun n d _ e => hc (line_chars (e ▸ h))
/-- texts that read_number refuses, and that repr shows -/
def BadS (a : List Nat) : Prop := a.length ≤ 400 ∧ a.all (· < 128) = true ∧ NoLine a
theorem line_len {n d : Int} (hn : n.natAbs < 10 ^ 100) (hd : d.natAbs < 10 ^ 100) : (lineL n d).length ≤ 202 ∧ (lineL n d).all (· < 128) = true := by
  have h1 := TL.numL_len (n := n.natAbs) (by decide) hn
  have h2 := TL.numL_len (n := d.natAbs) (by decide) hd
  have h3 : (numI n).length ≤ 101 := by
    unfold numI
    split
    · rw [List.length_cons]; omega
    · omega
  refine ⟨?_, List.all_eq_true.mpr fun c m => decide_eq_true ?_⟩
  · unfold lineL
    split
    · omega
    · rw [List.length_append, List.length_cons]; omega
  · rcases line_chars m with h | h | h <;> omega
theorem numI_asc (n : Int) : (numI n).all (· < 128) = true := List.all_eq_true.mpr fun c m => decide_eq_true (by rcases numI_chars m with h | h <;> omega)
theorem numL_asc (n : Nat) : (TL.numL n).all (· < 128) = true := List.all_eq_true.mpr fun c m => decide_eq_true (by have := TL.numL_digits n c m; omega)
theorem numI_len2 {n : Int} (h : n.natAbs < 10 ^ 100) : (numI n).length ≤ 101 := by
  have := TL.numL_len (n := n.natAbs) (by decide) h
  unfold numI
  split
  · rw [List.length_cons]; omega
  · omega
theorem numI_nat (n : Nat) : numI (n : Int) = TL.numL n := by unfold numI; rw [if_neg (by omega), Int.natAbs_natCast]
theorem numI_neg {n : Nat} : numI (-((n + 1 : Nat) : Int)) = 45 :: TL.numL (n + 1) := by unfold numI; rw [if_pos (by omega), Int.natAbs_neg, Int.natAbs_natCast]
section
variable {n d : Int} (hn : n.natAbs < 10 ^ 90) (hd : d.natAbs < 10 ^ 90) (lo : Low n d)
theorem up100 {x : Nat} (h : x < 10 ^ 90) : x < 10 ^ 100 := Nat.lt_trans h (Nat.pow_lt_pow_right (by decide) (by decide))
theorem add100 {x k : Nat} (h : x < 10 ^ 90) (hk : k ≤ 2) : x + k < 10 ^ 100 := by
  have h1 : (10 : Nat) ^ 90 + 2 ≤ 10 ^ 100 := by decide +kernel
  omega
theorem dbl100 {x : Nat} (h : x < 10 ^ 90) : x * 2 < 10 ^ 100 := by
  have h1 : (10 : Nat) ^ 90 * 2 ≤ 10 ^ 100 := by decide +kernel
  omega
include hn hd in
theorem bad1 : BadS (32 :: lineL n d) := by
  obtain ⟨l, a⟩ := line_len (up100 hn) (up100 hd)
  exact ⟨by rw [List.length_cons]; omega, by rw [List.all_cons, a]; rfl, noline_char (c := 32) (List.mem_cons_self ..) (by decide)⟩
include hn hd in
theorem bad2 (c : Nat) (hc : c = 32 ∨ c = 10) : BadS (lineL n d ++ [c]) := by
  obtain ⟨l, a⟩ := line_len (up100 hn) (up100 hd)
  refine ⟨by rw [List.length_append]; show _ + 1 ≤ _; omega, by rw [List.all_append, a]; rcases hc with rfl | rfl <;> rfl, noline_char (c := c) (List.mem_append_right _ (List.mem_cons_self ..)) (by omega)⟩
include hn in
theorem bad3 : BadS (43 :: TL.numL n.natAbs) := by
  have l := TL.numL_len (n := n.natAbs) (by decide) (up100 hn)
  exact ⟨by rw [List.length_cons]; omega, by rw [List.all_cons, numL_asc]; rfl, noline_char (c := 43) (List.mem_cons_self ..) (by decide)⟩
include hn in
theorem bad4 : BadS (48 :: TL.numL n.natAbs) := by
  have l := TL.numL_len (n := n.natAbs) (by decide) (up100 hn)
  refine ⟨by rw [List.length_cons]; omega, by rw [List.all_cons, numL_asc]; rfl, noline_no (by have := TL.numL_free (n := n.natAbs) (s := 47) (by decide); simp [this]) fun e => ?_⟩
  have hv : valI (48 :: TL.numL n.natAbs) = (n.natAbs : Int) := by
    show ((NumText.digitsVal (48 :: TL.numL n.natAbs) : Nat) : Int) = _
    rw [show NumText.digitsVal (48 :: TL.numL n.natAbs) = NumText.digitsVal (TL.numL n.natAbs) from rfl, TL.numL_val]
  rw [hv, numI_nat] at e
  have := congrArg List.length e
  rw [List.length_cons] at this
  omega
include hn hd lo in
theorem bad5 : BadS (numI n ++ 47 :: numI (0 - d - 1)) := by
  have l1 := numI_len2 (up100 hn)
  have l2 := TL.numL_len (n := d.natAbs + 1) (by decide) (add100 hd (by decide))
  have dp := lo.pos
  have e : numI (0 - d - 1) = 45 :: TL.numL (d.natAbs + 1) := by
    rw [show (0 - d - 1 : Int) = -((d.natAbs + 1 : Nat) : Int) by omega]
    exact numI_neg
  rw [e]
  refine ⟨by rw [List.length_append, List.length_cons, List.length_cons]; omega, by rw [List.all_append, numI_asc, List.all_cons, List.all_cons, numL_asc]; rfl, noline_at (numI_free n) (.inr (.inl fun z => ?_))⟩
  have := TL.numL_free (n := NumText.digitsVal (45 :: TL.numL (d.natAbs + 1))) (s := 45) (by decide)
  rw [← z] at this
  exact this (List.mem_cons_self ..)
include hn in
theorem bad6 (k : Nat) (hk : k = 48 ∨ k = 49) : BadS (numI n ++ [47, k]) := by
  have l1 := numI_len2 (up100 hn)
  refine ⟨by rw [List.length_append]; show _ + 2 ≤ _; omega, by rw [List.all_append, numI_asc]; rcases hk with rfl | rfl <;> rfl, noline_at (numI_free n) (.inr (.inr (.inl ?_)))⟩
  rcases hk with rfl | rfl <;> decide
include hn hd lo in
theorem bad7 : BadS (numI (n * 2) ++ 47 :: numI (d * 2)) := by
  have dp := lo.pos
  have n2 : (n * 2).natAbs < 10 ^ 100 := by rw [Int.natAbs_mul]; exact dbl100 hn
  have d2 : (d.natAbs * 2) < 10 ^ 100 := dbl100 hd
  have l1 := numI_len2 n2
  have l2 := TL.numL_len (n := d.natAbs * 2) (by decide) d2
  have e : numI (d * 2) = TL.numL (d.natAbs * 2) := by
    rw [show (d * 2 : Int) = ((d.natAbs * 2 : Nat) : Int) by omega]
    exact numI_nat _
  rw [e]
  refine ⟨by rw [List.length_append, List.length_cons]; omega, by rw [List.all_append, numI_asc, List.all_cons, numL_asc]; rfl, noline_at (numI_free _) (.inr (.inr (.inr ?_)))⟩
  rw [(numI_un _).2, TL.numL_val, Int.natAbs_mul, show (2 : Int).natAbs = 2 from rfl, Nat.gcd_mul_right]
  omega
include hn in
theorem bad8 : BadS (TL.numL (n.natAbs + 1) ++ 47 :: 48 :: TL.numL (n.natAbs + 2)) := by
  have l1 := TL.numL_len (n := n.natAbs + 1) (by decide) (add100 hn (by decide))
  have l2 := TL.numL_len (n := n.natAbs + 2) (by decide) (add100 hn (by decide))
  refine ⟨by rw [List.length_append, List.length_cons, List.length_cons]; omega, by rw [List.all_append, numL_asc, List.all_cons, List.all_cons, numL_asc]; rfl, noline_at (TL.numL_free (by decide)) (.inr (.inl fun z => ?_))⟩
  rw [show NumText.digitsVal (48 :: TL.numL (n.natAbs + 2)) = NumText.digitsVal (TL.numL (n.natAbs + 2)) from rfl, TL.numL_val] at z
  have := congrArg List.length z
  rw [List.length_cons] at this
  omega
include hn in
theorem bad9 : BadS (45 :: 45 :: TL.numL (n.natAbs + 1)) := by
  have l1 := TL.numL_len (n := n.natAbs + 1) (by decide) (add100 hn (by decide))
  refine ⟨by rw [List.length_cons, List.length_cons]; omega, by rw [List.all_cons, List.all_cons, numL_asc]; rfl, noline_no (by have := TL.numL_free (n := n.natAbs + 1) (s := 47) (by decide); simp [this]) fun e => ?_⟩
  have h1 := (numI_un (valI (45 :: 45 :: TL.numL (n.natAbs + 1)))).1
  rw [← e] at h1
  have h2 := TL.numL_free (n := (valI (45 :: 45 :: TL.numL (n.natAbs + 1))).natAbs) (s := 45) (by decide)
  rw [← h1] at h2
  exact h2 (List.mem_cons_self ..)
include hn hd in
theorem bad10 : BadS (lineL n d ++ [47, 49]) := by
  obtain ⟨l, a⟩ := line_len (up100 hn) (up100 hd)
  refine ⟨by rw [List.length_append]; show _ + 2 ≤ _; omega, by rw [List.all_append, a]; rfl, ?_⟩
  unfold lineL
  split
  · exact (bad6 hn 49 (.inr rfl)).2.2
  · rw [List.append_assoc]
    refine noline_at (q := TL.numL d.natAbs ++ [47, 49]) (numI_free n) (.inr (.inl fun z => ?_))
    have := TL.numL_free (n := NumText.digitsVal (TL.numL d.natAbs ++ [47, 49])) (s := 47) (by decide)
    rw [← z] at this
    exact this (List.mem_append_right _ (List.mem_cons_self ..))
end
theorem badC0 : BadS [45, 48] := ⟨by decide, by decide, noline_no (by decide) (by decide +kernel)⟩
theorem badC1 : BadS [45, 48, 47, 51] := ⟨by decide, by decide, (noline_at (p := [45, 48]) (q := [51]) (by decide) (by decide +kernel) : NoLine ([45, 48] ++ 47 :: [51]))⟩
theorem badC2 : BadS [48, 47, 49] := ⟨by decide, by decide, (noline_at (p := [48]) (q := [49]) (by decide) (by decide +kernel) : NoLine ([48] ++ 47 :: [49]))⟩
theorem badC3 : BadS [48, 47, 50] := ⟨by decide, by decide, (noline_at (p := [48]) (q := [50]) (by decide) (by decide +kernel) : NoLine ([48] ++ 47 :: [50]))⟩
theorem badC4 : BadS [] := ⟨by decide, by decide, noline_no (by decide) (by decide +kernel)⟩
theorem badC5 : BadS [47] := ⟨by decide, by decide, (noline_at (p := []) (q := []) (by decide) (by decide +kernel) : NoLine ([] ++ 47 :: []))⟩
theorem badC6 : BadS [49, 47] := ⟨by decide, by decide, (noline_at (p := [49]) (q := []) (by decide) (by decide +kernel) : NoLine ([49] ++ 47 :: []))⟩
theorem badC7 : BadS [47, 50] := ⟨by decide, by decide, (noline_at (p := []) (q := [50]) (by decide) (by decide +kernel) : NoLine ([] ++ 47 :: [50]))⟩
theorem badC8 : BadS [45] := ⟨by decide, by decide, noline_no (by decide) (by decide +kernel)⟩
theorem badC9 : BadS [49, 32, 47, 50] := ⟨by decide, by decide, noline_char (c := 32) (by decide) (by decide)⟩
theorem badC10 : BadS [49, 47, 50, 47, 51] := ⟨by decide, by decide, (noline_at (p := [49]) (q := [50, 47, 51]) (by decide) (by decide +kernel) : NoLine ([49] ++ 47 :: [50, 47, 51]))⟩
theorem badC11 : BadS [49, 47, 43, 50] := ⟨by decide, by decide, noline_char (c := 43) (by decide) (by decide)⟩
theorem badC12 : BadS [49, 47, 32, 50] := ⟨by decide, by decide, noline_char (c := 32) (by decide) (by decide)⟩
theorem badC13 : BadS [49, 95, 48] := ⟨by decide, by decide, noline_char (c := 95) (by decide) (by decide)⟩
theorem badC14 : BadS [49, 46, 48] := ⟨by decide, by decide, noline_char (c := 46) (by decide) (by decide)⟩
theorem badC15 : BadS [49, 101, 51] := ⟨by decide, by decide, noline_char (c := 101) (by decide) (by decide)⟩
theorem badC16 : BadS [111, 110, 101] := ⟨by decide, by decide, noline_char (c := 111) (by decide) (by decide)⟩
theorem badC17 : BadS [48, 120, 49] := ⟨by decide, by decide, noline_char (c := 120) (by decide) (by decide)⟩
theorem badC18 : BadS [49, 44, 50] := ⟨by decide, by decide, noline_char (c := 44) (by decide) (by decide)⟩
theorem badC19 : BadS [48, 48] := ⟨by decide, by decide, noline_no (by decide) (by decide +kernel)⟩
theorem badC20 : BadS [49, 47, 47, 50] := ⟨by decide, by decide, (noline_at (p := [49]) (q := [47, 50]) (by decide) (by decide +kernel) : NoLine ([49] ++ 47 :: [47, 50]))⟩
theorem badC21 : BadS [45, 47, 50] := ⟨by decide, by decide, (noline_at (p := [45]) (q := [50]) (by decide) (by decide +kernel) : NoLine ([45] ++ 47 :: [50]))⟩
theorem badC22 : BadS [50, 47, 45, 51] := ⟨by decide, by decide, (noline_at (p := [50]) (q := [45, 51]) (by decide) (by decide +kernel) : NoLine ([50] ++ 47 :: [45, 51]))⟩
end Eld
set_option Elab.async false
set_option maxRecDepth 100000
set_option maxHeartbeats 4000000
set_option linter.all false
namespace Eld
open PySem L2
local macro_rules | `(tactic| walk_at "r1") => `(tactic| with_reducible first
  | refine r_seq ?_ | refine r_asgN ?_ | refine r_asg ?_ | refine r_gname ?_ | refine r_gsub ?_ | refine r_var rfl ?_ | refine r_c ?_ | refine r_op ?_ | refine r_un ?_ | refine r_u ?_ | refine r_i0 ?_ | refine r_cb ?_ | refine r_cons ?_ | refine r_nil ?_ | refine r_cl ?_ | refine r_fn rfl rfl ?_ | refine r_mt ?_
  | refine r_test ?_ | refine r_tb ?_ | refine r_bl ?_ | refine r_and ?_ | refine r_or ?_ | refine r_not ?_ | refine r_andV ?_ | refine r_orV ?_ | refine r_notV ?_ | refine r_ifX ?_ | refine r_ifs ?_ | refine r_chain ?_ | refine r_ret ?_ | refine r_next ?_ | refine r_drop ?_ | refine iteT ?_ | refine iteF ?_ | refine iteNT ?_ | refine iteNF ?_
  | refine r_int1 ?_ | refine r_boolB ?_ | refine r_eqI ?_ | refine r_neI ?_ | refine r_eqB ?_ | refine r_neB ?_ | refine r_eqS ?_ | refine r_neS ?_ | refine r_abs ?_ | refine r_max2 ?_ | refine r_min2 ?_ | refine r_yes ?_ | refine r_tup ?_ | refine r_sfld ?_ | refine r_m0 ?_ | refine r_m1 ?_ | refine r_lst ?_ | refine r_rng1 ?_ | refine r_rng2 ?_ | refine r_ixL (SqL.of (by assumption)) rfl ?_)
local macro_rules | `(tactic| walk_at "r") => `(tactic| repeat (first | walk_at "r1" | ((with_reducible refine r_var ?hv ?_); (case hv => rfl))))

open SX (S S_len S_cat S_inj)
local macro_rules | `(tactic| walk_at "r1") => `(tactic| with_reducible first | refine r_clS ?_ | refine r_fnS rfl rfl ?_ | refine r_mtS ?_ | refine r_mkO ?_ | refine r_par ?_)
def lineD (d : PyData) : PyData := .list [.str "line", d]
def ShowOK (d : PyData) : Prop := d.showable = true ∧ d.depth ≤ 60 ∧ d.shown.length ≤ sizeLine
theorem show_T {d : PyData} (ok : showsT d = true) : ShowOK d := by
  simp only [showsT, Bool.and_eq_true, decide_eq_true_eq] at ok
  obtain ⟨⟨h1, h3⟩, h4⟩ := ok
  exact ⟨h1, h3, by rw [sizeLine_eq]; omega⟩
theorem show_lay {d : PyData} (h1 : d.showable = true) (h2 : d.depth ≤ 60) (h3 : d.canLay0 = true) (h4 : d.intsShort 1921 = true) (h5 : d.weight ≤ 4000) : ShowOK d := by
  refine ⟨h1, h2, ?_⟩
  have := PyData.shown_le 1921 (by decide) d (PyData.leavesShort_of_canLay0 1921 d h3 h4)
  rw [sizeLine_eq]
  omega
theorem str_ok {a : List Nat} (h : a.all (· < 128) = true) : PyData.canLay0 (.str (S a)) = true := by
  have : PyData.strOk (S a) = true := by
    unfold PyData.strOk
    rw [List.all_eq_true] at h
    simp only [S, Array.all_eq_true]
    intro i hi
    have := h a[i] (List.getElem_mem _)
    simp at this ⊢
    omega
  simpa [PyData.canLay0] using this
theorem show_str {a : List Nat} (h : BadS a) : ShowOK (lineD (.str (S a))) := by
  have hs := str_ok h.2.1
  have hl : PyData.canLay0 (.str "line") = true := by decide +kernel
  refine show_lay ?_ ?_ ?_ ?_ ?_
  · simp [lineD, PyData.showable, PyData.showableAll]
  · simp [lineD, PyData.depth, PyData.depthAll]
  · simp only [lineD, PyData.canLay0, PyData.canLayAll0] at hs hl ⊢
    rw [hs, hl]
    rfl
  · simp [lineD, PyData.intsShort, PyData.intsShortAll]
  · have e : (S a).cps.size = a.length := by simp [S]
    have e2 : (Str.ofString "line").cps.size = 4 := by decide +kernel
    simp only [lineD, PyData.weight, PyData.weightAll, e, e2]
    have := h.1
    omega
def BadV (C : Addr) (K : PySem.W.Frag) (H : Hp) (x : V) : Prop := ∃ d, Dx K H x d ∧ ShowOK (lineD d) ∧ ((∃ t, TyX K H x t ∧ Kind C t ∧ t ≠ .type "str") ∨ ∃ a, x = .str (S a) ∧ a.length ≤ 400 ∧ NoLine a)
theorem BadV.same {C : Addr} {K : PySem.W.Frag} {H H' : Hp} {x : V} (h : BadV C K H x) (s : Same H H') : BadV C K H' x := by
  obtain ⟨d, a, b, c⟩ := h
  refine ⟨d, Dx.same s _ _ a, b, ?_⟩
  rcases c with ⟨t, x, y, z⟩ | c
  · exact .inl ⟨t, TyX.same x s, y, z⟩
  · exact .inr c
theorem badv_str {C : Addr} {K : PySem.W.Frag} {H : Hp} {s : Str} {a : List Nat} (e : s = S a) (h : BadS a) : BadV C K H (.str s) := by
  subst e
  exact ⟨_, .str _, show_str h, .inr ⟨a, rfl, h.1, h.2.2⟩⟩
theorem r_strN {i : Int} {H : Hp} {Q : VK} (hi : i.natAbs.log2 < 1920) (h : Q (.str (numS i)) H) : rStrI [.int i] H Q := r_strI hi h
theorem fc {P : V → Prop} {a : V} {l : List V} (h : P a) (r : ∀ x ∈ l, P x) : ∀ x ∈ a :: l, P x := List.forall_mem_cons.mpr ⟨h, r⟩
theorem fz {P : V → Prop} : ∀ x ∈ ([] : List V), P x := fun _ m => by cases m
theorem fa {P : V → Prop} {a b : List V} (h : ∀ x ∈ a, P x) (r : ∀ x ∈ b, P x) : ∀ x ∈ a ++ b, P x := List.forall_mem_append.mpr ⟨h, r⟩
theorem ks : Str.ofString " " = S [32] ∧ Str.ofString "+" = S [43] ∧ Str.ofString "0" = S [48] ∧ Str.ofString "/" = S [47] ∧ Str.ofString "/1" = S [47, 49] ∧ Str.ofString "/0" = S [47, 48] ∧ Str.ofString "--" = S [45, 45] ∧ Str.ofString "-" = S [45] ∧ Str.ofString "\n" = S [10] := by decide +kernel
def spBad (C : Addr) (K : PySem.W.Frag) : Sp := fun vs H Q _ => ∃ (v : V) (t : Addr) (a : Int) (ob : Option Int), vs = [v, .ref t] ∧ PairAt H t a ob ∧ Good a ob ∧ ∀ H' D xs, Same H H' → H' D = some (.lst xs) → (∀ x ∈ xs, BadV C K H' x) → Q (.ref D) H'
section
variable {P : Program} {w : World} {K : PySem.W.Frag} {mg : Str → Option Value} {base : Heap} {C Ce cz : Addr}
theorem ok_bad {f : Addr} {fd : FuncData} (F : Fun K "_law_bad_lines" "_law_bad_lines" s__law_bad_lines f fd) (Z : Zs K mg C cz) (Sx : Sc K C) (d__law_worth : DefD P w K mg base 3 "_law_worth" 1 [] byPlace spWorth) (d__law_line : DefD P w K mg base 1 "_law_line" 1 [] byPlace spLine) : FnG P w K mg base CX0 4 f fd ["box", "pair"] (spBad C K) := by
  refine okG F sc__law_bad_lines (fun vs H Q E h => ?_) (fun cdv B up z H vs Q E hG hr h => ?_)
  · obtain ⟨v, t, a, ob, rfl, _⟩ := h
    rfl
  refine ⟨_, (pss_cons (ps_asg (pd_pos d__law_worth hG hr (by decide) (by rfl) (pa_cons (pv 1) pa_nil)) (by (refine (show PG _ _ (gTup K 2 (gCons (gName 3) (gCons (gName 4) gNil))) from ?_); refine pg_tup rfl (pgs_cons ?_ (pgs_cons ?_ pgs_nil)); exact (pg_name (i := 3) sc__law_bad_lines.nd rfl (by first | exact Or.inl rfl | exact Or.inr rfl)); exact (pg_name (i := 4) sc__law_bad_lines.nd rfl (by first | exact Or.inl rfl | exact Or.inr rfl)))))
  (pss_cons (ps_par rfl sc__law_bad_lines.nd (i := 5) (j := 6) rfl rfl (by decide) rfl rfl (pa_cons (pd_pos d__law_line hG hr (by decide) (by rfl) (pa_cons (pe_tup (pa_cons (pv 3) (pa_cons (pv 4) pa_nil))) pa_nil)) (pa_cons (pe_callB c_abs (by rfl) Z.abs_ (by decide +kernel) (pa_cons (pv 3) pa_nil)) pa_nil)) rfl)
  (pss_cons (ps_set (i := 2) sc__law_bad_lines.nd rfl (by first | exact Or.inl rfl | exact Or.inr rfl) (pe_lst (pa_cons (pe_op op_add_str pe_str (pv 5)) (pa_cons (pe_op op_add_str (pv 5) pe_str) (pa_cons (pe_op op_add_str pe_str (pe_callTy c_str (by rfl) Z.str_ (by decide +kernel) (pa_cons (pv 6) pa_nil))) (pa_cons (pe_op op_add_str pe_str (pe_callTy c_str (by rfl) Z.str_ (by decide +kernel) (pa_cons (pv 6) pa_nil))) (pa_cons pe_str (pa_cons pe_str (pa_cons pe_str (pa_cons pe_str (pa_cons pe_str (pa_cons pe_str (pa_cons pe_str (pa_cons pe_str (pa_cons pe_str pa_nil)))))))))))))))
  (pss_cons (ps_set (i := 2) sc__law_bad_lines.nd rfl (by first | exact Or.inl rfl | exact Or.inr rfl) (pe_op op_cat (pv 2) (pe_lst (pa_cons (pe_op op_add_str (pe_op op_add_str (pe_callTy c_str (by rfl) Z.str_ (by decide +kernel) (pa_cons (pv 3) pa_nil)) pe_str) (pe_callTy c_str (by rfl) Z.str_ (by decide +kernel) (pa_cons (pe_op op_sub (pe_op op_sub pe_int (pv 4)) pe_int) pa_nil))) (pa_cons (pe_op op_add_str (pe_callTy c_str (by rfl) Z.str_ (by decide +kernel) (pa_cons (pv 3) pa_nil)) pe_str) (pa_cons (pe_op op_add_str (pe_callTy c_str (by rfl) Z.str_ (by decide +kernel) (pa_cons (pv 3) pa_nil)) pe_str) (pa_cons (pe_op op_add_str (pe_op op_add_str (pe_callTy c_str (by rfl) Z.str_ (by decide +kernel) (pa_cons (pe_op op_mulW (pv 3) pe_int) pa_nil)) pe_str) (pe_callTy c_str (by rfl) Z.str_ (by decide +kernel) (pa_cons (pe_op op_mulW (pv 4) pe_int) pa_nil))) pa_nil)))))))
  (pss_cons (ps_set (i := 2) sc__law_bad_lines.nd rfl (by first | exact Or.inl rfl | exact Or.inr rfl) (pe_op op_cat (pv 2) (pe_lst (pa_cons (pe_op op_add_str (pe_op op_add_str (pe_callTy c_str (by rfl) Z.str_ (by decide +kernel) (pa_cons (pe_op op_add (pv 6) pe_int) pa_nil)) pe_str) (pe_callTy c_str (by rfl) Z.str_ (by decide +kernel) (pa_cons (pe_op op_add (pv 6) pe_int) pa_nil))) (pa_cons (pe_op op_add_str pe_str (pe_callTy c_str (by rfl) Z.str_ (by decide +kernel) (pa_cons (pe_op op_add (pv 6) pe_int) pa_nil))) (pa_cons (pe_op op_add_str pe_str (pe_callTy c_str (by rfl) Z.str_ (by decide +kernel) (pa_cons (pe_op op_sub (pe_op op_sub pe_int (pv 6)) pe_int) pa_nil))) (pa_cons (pe_op op_add_str (pv 5) pe_str) (pa_cons pe_str pa_nil))))))))
  (pss_cons (ps_set (i := 2) sc__law_bad_lines.nd rfl (by first | exact Or.inl rfl | exact Or.inr rfl) (pe_op op_cat (pv 2) (pe_lst (pa_cons pe_str (pa_cons pe_str (pa_cons pe_str (pa_cons pe_str (pa_cons pe_str (pa_cons pe_str (pa_cons pe_str (pa_cons pe_str (pa_cons (pe_op op_add_str (pv 5) pe_str) (pa_cons pe_str (pa_cons pe_str (pa_cons pe_str (pa_cons pe_str (pa_cons pe_str pa_nil)))))))))))))))))
  (pss_one (ps_ret (pe_op op_cat (pv 2) (pe_lst (pa_cons pe_non (pa_cons pe_int (pa_cons (pv 3) (pa_cons pe_bl (pa_cons (pe_lst (pa_cons (pv 5) pa_nil)) (pa_cons (pe_tup (pa_cons (pv 5) pa_nil)) (pa_cons (pe_lst pa_nil) (pa_cons pe_dnewK pa_nil)))))))))))))))))), ?_⟩
  obtain ⟨v, t, a, ob, rfl, pt, hg, k⟩ := h
  obtain ⟨sn, sd, lo, hn1, hd1⟩ := hg.sm
  have p90 : (2 : Nat) ^ 100 < 10 ^ 90 := by decide +kernel
  have hn := Nat.lt_trans hn1 p90
  have hd := Nat.lt_trans hd1 p90
  walk_at "r"
  refine ⟨t, a, ob, rfl, pt, hg, fun w1 H1 s1 hw1 => ?_⟩
  generalize wT a ob = n at *
  generalize wB a ob = d at *
  walk_at "r"
  refine ⟨w1, _, rfl, SqT.of hw1, rfl, _, _, rfl, ?_⟩
  walk_at "r"
  refine ⟨_, _, rfl, ?_⟩
  walk_at "r"
  refine ⟨rfl, ?_⟩
  walk_at "r"
  refine ⟨by show 2 ≤ sizeLine; decide, fun u2 n2 => ?_⟩
  have s2 := Same.upd_new (o := .tup [.int n, .int d]) n2
  have g2 : (upd H1 u2 (.tup [.int n, .int d])) u2 = some (.tup [.int n, .int d]) := upd_same
  generalize upd H1 u2 (.tup [.int n, .int d]) = H2 at s2 g2 ⊢
  walk_at "r"
  refine ⟨u2, _, _, rfl, g2, sn, sd, ?_⟩
  rw [line_S lo.pos]
  walk_at "r"
  have lln := (line_len (up100 hn) (up100 hd)).1
  have szl : sizeLine = 16777216 := sizeLine_eq
  have num : ∀ x : Int, x.natAbs < 10 ^ 150 → x.natAbs.log2 < 1920 ∧ (numS x).length ≤ 1921 := fun x hx => by
    have h1 : x.natAbs.log2 < 1920 := Nat.lt_trans (log2_of (k := 1500) (Nat.lt_of_lt_of_le hx (by decide +kernel)) (by decide)) (by decide)
    exact ⟨h1, PyProof.Rows.int_text_len_1921 h1⟩
  refine ⟨_, _, rfl, ?_⟩
  rw [show (if n < 0 then -n else n) = ((n.natAbs : Nat) : Int) by split <;> omega]
  obtain ⟨k1, k2, k3, k4, k5, k6, k7, k8, k9⟩ := ks
  have a0 := num n (Nat.lt_trans hn (Nat.pow_lt_pow_right (by decide) (by decide)))
  have lt150 : ∀ {x : Nat}, x < 10 ^ 100 → x < 10 ^ 150 := fun h => Nat.lt_trans h (Nat.pow_lt_pow_right (by decide) (by decide))
  have am := num ((n.natAbs : Nat) : Int) (by rw [Int.natAbs_natCast]; exact lt150 (up100 hn))
  have am1 := num ((n.natAbs + 1 : Nat) : Int) (by rw [Int.natAbs_natCast]; exact lt150 (add100 hn (by decide)))
  have am2 := num ((n.natAbs + 2 : Nat) : Int) (by rw [Int.natAbs_natCast]; exact lt150 (add100 hn (by decide)))
  have an1 := num (-((n.natAbs + 1 : Nat) : Int)) (by rw [Int.natAbs_neg, Int.natAbs_natCast]; exact lt150 (add100 hn (by decide)))
  have dp := lo.pos
  have ad1 := num (0 - d - 1) (by have := add100 (k := 1) hd (by decide); have := lt150 this; rw [show (0 - d - 1).natAbs = d.natAbs + 1 by omega]; exact this)
  have an2 := num (n * 2) (by rw [Int.natAbs_mul]; exact lt150 (dbl100 hn))
  have ad2 := num (d * 2) (by rw [Int.natAbs_mul]; exact lt150 (dbl100 hd))
  walk_at "r"
  refine ⟨_, _, rfl, rfl, by simp only [k1, k2, k3, k4, k5, k6, k7, k8, k9, app_len, S_len, szl, List.length_cons, List.length_nil]; omega, ?_⟩
  walk_at "r"
  refine ⟨_, _, rfl, rfl, by simp only [k1, k2, k3, k4, k5, k6, k7, k8, k9, app_len, S_len, szl, List.length_cons, List.length_nil]; omega, ?_⟩
  walk_at "r"
  refine r_strN am.1 ?_
  walk_at "r"
  refine ⟨_, _, rfl, rfl, by simp only [k1, k2, k3, k4, k5, k6, k7, k8, k9, app_len, S_len, szl, List.length_cons, List.length_nil]; omega, ?_⟩
  walk_at "r"
  refine r_strN am.1 ?_
  walk_at "r"
  refine ⟨_, _, rfl, rfl, by simp only [k1, k2, k3, k4, k5, k6, k7, k8, k9, app_len, S_len, szl, List.length_cons, List.length_nil]; omega, ?_⟩
  walk_at "r"
  refine ⟨by show 13 ≤ sizeLine; decide, fun u3 n3 => ?_⟩
  have s3 := Same.upd_new (o := .lst [.str ( Str.ofString " " ++ S (lineL n d)), .str (S (lineL n d) ++ Str.ofString " "), .str (Str.ofString "+" ++ numS ((n.natAbs : Nat) : Int)), .str (Str.ofString "0" ++ numS ((n.natAbs : Nat) : Int)), .str (Str.ofString "-0"), .str (Str.ofString "-0/3"), .str (Str.ofString "0/1"), .str (Str.ofString "0/2"), .str (Str.ofString ""), .str (Str.ofString "/"), .str (Str.ofString "1/"), .str (Str.ofString "/2"), .str (Str.ofString "-")]) n3
  have g3 : (upd H2 u3 (.lst [.str ( Str.ofString " " ++ S (lineL n d)), .str (S (lineL n d) ++ Str.ofString " "), .str (Str.ofString "+" ++ numS ((n.natAbs : Nat) : Int)), .str (Str.ofString "0" ++ numS ((n.natAbs : Nat) : Int)), .str (Str.ofString "-0"), .str (Str.ofString "-0/3"), .str (Str.ofString "0/1"), .str (Str.ofString "0/2"), .str (Str.ofString ""), .str (Str.ofString "/"), .str (Str.ofString "1/"), .str (Str.ofString "/2"), .str (Str.ofString "-")])) u3 = some (.lst [.str ( Str.ofString " " ++ S (lineL n d)), .str (S (lineL n d) ++ Str.ofString " "), .str (Str.ofString "+" ++ numS ((n.natAbs : Nat) : Int)), .str (Str.ofString "0" ++ numS ((n.natAbs : Nat) : Int)), .str (Str.ofString "-0"), .str (Str.ofString "-0/3"), .str (Str.ofString "0/1"), .str (Str.ofString "0/2"), .str (Str.ofString ""), .str (Str.ofString "/"), .str (Str.ofString "1/"), .str (Str.ofString "/2"), .str (Str.ofString "-")]) := upd_same
  generalize upd H2 u3 (.lst [.str ( Str.ofString " " ++ S (lineL n d)), .str (S (lineL n d) ++ Str.ofString " "), .str (Str.ofString "+" ++ numS ((n.natAbs : Nat) : Int)), .str (Str.ofString "0" ++ numS ((n.natAbs : Nat) : Int)), .str (Str.ofString "-0"), .str (Str.ofString "-0/3"), .str (Str.ofString "0/1"), .str (Str.ofString "0/2"), .str (Str.ofString ""), .str (Str.ofString "/"), .str (Str.ofString "1/"), .str (Str.ofString "/2"), .str (Str.ofString "-")]) = H3 at s3 g3 ⊢
  walk_at "r"
  generalize hx3 : ([.str ( Str.ofString " " ++ S (lineL n d)), .str (S (lineL n d) ++ Str.ofString " "), .str (Str.ofString "+" ++ numS ((n.natAbs : Nat) : Int)), .str (Str.ofString "0" ++ numS ((n.natAbs : Nat) : Int)), .str (Str.ofString "-0"), .str (Str.ofString "-0/3"), .str (Str.ofString "0/1"), .str (Str.ofString "0/2"), .str (Str.ofString ""), .str (Str.ofString "/"), .str (Str.ofString "1/"), .str (Str.ofString "/2"), .str (Str.ofString "-")] : List V) = X3 at g3
  refine r_strN a0.1 ?_
  walk_at "r"
  refine ⟨_, _, rfl, rfl, by simp only [k1, k2, k3, k4, k5, k6, k7, k8, k9, app_len, S_len, szl, List.length_cons, List.length_nil]; omega, ?_⟩
  walk_at "r"
  refine r_strN ad1.1 ?_
  walk_at "r"
  refine ⟨_, _, rfl, rfl, by simp only [k1, k2, k3, k4, k5, k6, k7, k8, k9, app_len, S_len, szl, List.length_cons, List.length_nil]; omega, ?_⟩
  walk_at "r"
  refine r_strN a0.1 ?_
  walk_at "r"
  refine ⟨_, _, rfl, rfl, by simp only [k1, k2, k3, k4, k5, k6, k7, k8, k9, app_len, S_len, szl, List.length_cons, List.length_nil]; omega, ?_⟩
  walk_at "r"
  refine r_strN a0.1 ?_
  walk_at "r"
  refine ⟨_, _, rfl, rfl, by simp only [k1, k2, k3, k4, k5, k6, k7, k8, k9, app_len, S_len, szl, List.length_cons, List.length_nil]; omega, ?_⟩
  walk_at "r"
  refine r_i ?_ ?_
  · exact wide_mul (show _ < 2 ^ 1500 from sn) (show _ < 2 ^ 1500 by decide +kernel) (by decide) (by decide) (by decide)
  walk_at "r"
  refine r_strN an2.1 ?_
  walk_at "r"
  refine ⟨_, _, rfl, rfl, by simp only [k1, k2, k3, k4, k5, k6, k7, k8, k9, app_len, S_len, szl, List.length_cons, List.length_nil]; omega, ?_⟩
  walk_at "r"
  refine r_i ?_ ?_
  · exact wide_mul (show _ < 2 ^ 1500 from sd) (show _ < 2 ^ 1500 by decide +kernel) (by decide) (by decide) (by decide)
  walk_at "r"
  refine r_strN ad2.1 ?_
  walk_at "r"
  refine ⟨_, _, rfl, rfl, by simp only [k1, k2, k3, k4, k5, k6, k7, k8, k9, app_len, S_len, szl, List.length_cons, List.length_nil]; omega, ?_⟩
  walk_at "r"
  refine ⟨by show 4 ≤ sizeLine; decide, fun u4 n4 => ?_⟩
  have s4 := Same.upd_new (o := .lst [.str (numS n ++ Str.ofString "/" ++ numS (0 - d - 1)), .str (numS n ++ Str.ofString "/1"), .str (numS n ++ Str.ofString "/0"), .str (numS (n * 2) ++ Str.ofString "/" ++ numS (d * 2))]) n4
  have g4 : (upd H3 u4 (.lst [.str (numS n ++ Str.ofString "/" ++ numS (0 - d - 1)), .str (numS n ++ Str.ofString "/1"), .str (numS n ++ Str.ofString "/0"), .str (numS (n * 2) ++ Str.ofString "/" ++ numS (d * 2))])) u4 = some (.lst [.str (numS n ++ Str.ofString "/" ++ numS (0 - d - 1)), .str (numS n ++ Str.ofString "/1"), .str (numS n ++ Str.ofString "/0"), .str (numS (n * 2) ++ Str.ofString "/" ++ numS (d * 2))]) := upd_same
  generalize upd H3 u4 (.lst [.str (numS n ++ Str.ofString "/" ++ numS (0 - d - 1)), .str (numS n ++ Str.ofString "/1"), .str (numS n ++ Str.ofString "/0"), .str (numS (n * 2) ++ Str.ofString "/" ++ numS (d * 2))]) = H4 at s4 g4 ⊢
  walk_at "r"
  have l3 : X3.length = 13 := by rw [← hx3]; rfl
  generalize hx4 : ([.str (numS n ++ Str.ofString "/" ++ numS (0 - d - 1)), .str (numS n ++ Str.ofString "/1"), .str (numS n ++ Str.ofString "/0"), .str (numS (n * 2) ++ Str.ofString "/" ++ numS (d * 2))] : List V) = X4 at g4
  have l4 : X4.length = 4 := by rw [← hx4]; rfl
  refine ⟨u3, u4, _, _, rfl, rfl, s4 _ _ g3, g4, by simp only [List.length_append, szl]; omega, fun u5 n5 => ?_⟩
  have s5 := Same.upd_new (o := .lst (X3 ++ X4)) n5
  have g5 : (upd H4 u5 (.lst (X3 ++ X4))) u5 = some (.lst (X3 ++ X4)) := upd_same
  generalize upd H4 u5 (.lst (X3 ++ X4)) = H5 at s5 g5 ⊢
  walk_at "r"
  rw [show ((n.natAbs : Nat) : Int) + 1 = ((n.natAbs + 1 : Nat) : Int) by omega]
  refine r_strN am1.1 ?_
  walk_at "r"
  refine ⟨_, _, rfl, rfl, by simp only [k1, k2, k3, k4, k5, k6, k7, k8, k9, app_len, S_len, szl, List.length_cons, List.length_nil]; omega, ?_⟩
  walk_at "r"
  rw [show ((n.natAbs : Nat) : Int) + 2 = ((n.natAbs + 2 : Nat) : Int) by omega]
  refine r_strN am2.1 ?_
  walk_at "r"
  refine ⟨_, _, rfl, rfl, by simp only [k1, k2, k3, k4, k5, k6, k7, k8, k9, app_len, S_len, szl, List.length_cons, List.length_nil]; omega, ?_⟩
  walk_at "r"
  rw [show ((n.natAbs : Nat) : Int) + 1 = ((n.natAbs + 1 : Nat) : Int) by omega]
  refine r_strN am1.1 ?_
  walk_at "r"
  refine ⟨_, _, rfl, rfl, by simp only [k1, k2, k3, k4, k5, k6, k7, k8, k9, app_len, S_len, szl, List.length_cons, List.length_nil]; omega, ?_⟩
  walk_at "r"
  rw [show 0 - ((n.natAbs : Nat) : Int) - 1 = -((n.natAbs + 1 : Nat) : Int) by omega]
  refine r_strN an1.1 ?_
  walk_at "r"
  refine ⟨_, _, rfl, rfl, by simp only [k1, k2, k3, k4, k5, k6, k7, k8, k9, app_len, S_len, szl, List.length_cons, List.length_nil]; omega, ?_⟩
  walk_at "r"
  refine ⟨_, _, rfl, rfl, by simp only [k1, k2, k3, k4, k5, k6, k7, k8, k9, app_len, S_len, szl, List.length_cons, List.length_nil]; omega, ?_⟩
  walk_at "r"
  refine ⟨by show 5 ≤ sizeLine; decide, fun u6 n6 => ?_⟩
  have s6 := Same.upd_new (o := .lst [.str (numS ((n.natAbs + 1 : Nat) : Int) ++ Str.ofString "/0" ++ numS ((n.natAbs + 2 : Nat) : Int)), .str (Str.ofString "--" ++ numS ((n.natAbs + 1 : Nat) : Int)), .str (Str.ofString "-" ++ numS (-((n.natAbs + 1 : Nat) : Int))), .str (S (lineL n d) ++ Str.ofString "/1"), .str (Str.ofString "1 /2")]) n6
  have g6 : (upd H5 u6 (.lst [.str (numS ((n.natAbs + 1 : Nat) : Int) ++ Str.ofString "/0" ++ numS ((n.natAbs + 2 : Nat) : Int)), .str (Str.ofString "--" ++ numS ((n.natAbs + 1 : Nat) : Int)), .str (Str.ofString "-" ++ numS (-((n.natAbs + 1 : Nat) : Int))), .str (S (lineL n d) ++ Str.ofString "/1"), .str (Str.ofString "1 /2")])) u6 = some (.lst [.str (numS ((n.natAbs + 1 : Nat) : Int) ++ Str.ofString "/0" ++ numS ((n.natAbs + 2 : Nat) : Int)), .str (Str.ofString "--" ++ numS ((n.natAbs + 1 : Nat) : Int)), .str (Str.ofString "-" ++ numS (-((n.natAbs + 1 : Nat) : Int))), .str (S (lineL n d) ++ Str.ofString "/1"), .str (Str.ofString "1 /2")]) := upd_same
  generalize upd H5 u6 (.lst [.str (numS ((n.natAbs + 1 : Nat) : Int) ++ Str.ofString "/0" ++ numS ((n.natAbs + 2 : Nat) : Int)), .str (Str.ofString "--" ++ numS ((n.natAbs + 1 : Nat) : Int)), .str (Str.ofString "-" ++ numS (-((n.natAbs + 1 : Nat) : Int))), .str (S (lineL n d) ++ Str.ofString "/1"), .str (Str.ofString "1 /2")]) = H6 at s6 g6 ⊢
  walk_at "r"
  generalize hx6 : ([.str (numS ((n.natAbs + 1 : Nat) : Int) ++ Str.ofString "/0" ++ numS ((n.natAbs + 2 : Nat) : Int)), .str (Str.ofString "--" ++ numS ((n.natAbs + 1 : Nat) : Int)), .str (Str.ofString "-" ++ numS (-((n.natAbs + 1 : Nat) : Int))), .str (S (lineL n d) ++ Str.ofString "/1"), .str (Str.ofString "1 /2")] : List V) = X6 at g6
  have l6 : X6.length = 5 := by rw [← hx6]; rfl
  refine ⟨u5, u6, _, _, rfl, rfl, s6 _ _ g5, g6, by simp only [List.length_append, szl]; omega, fun u7 n7 => ?_⟩
  have s7 := Same.upd_new (o := .lst ((X3 ++ X4) ++ X6)) n7
  have g7 : (upd H6 u7 (.lst ((X3 ++ X4) ++ X6))) u7 = some (.lst ((X3 ++ X4) ++ X6)) := upd_same
  generalize upd H6 u7 (.lst ((X3 ++ X4) ++ X6)) = H7 at s7 g7 ⊢
  walk_at "r"
  refine ⟨_, _, rfl, rfl, by simp only [k1, k2, k3, k4, k5, k6, k7, k8, k9, app_len, S_len, szl, List.length_cons, List.length_nil]; omega, ?_⟩
  walk_at "r"
  refine ⟨by show 14 ≤ sizeLine; decide, fun u8 n8 => ?_⟩
  have s8 := Same.upd_new (o := .lst [.str (Str.ofString "1/2/3"), .str (Str.ofString "1/+2"), .str (Str.ofString "1/ 2"), .str (Str.ofString "1_0"), .str (Str.ofString "1.0"), .str (Str.ofString "1e3"), .str (Str.ofString "one"), .str (Str.ofString "0x1"), .str (S (lineL n d) ++ Str.ofString "\n"), .str (Str.ofString "1,2"), .str (Str.ofString "00"), .str (Str.ofString "1//2"), .str (Str.ofString "-/2"), .str (Str.ofString "2/-3")]) n8
  have g8 : (upd H7 u8 (.lst [.str (Str.ofString "1/2/3"), .str (Str.ofString "1/+2"), .str (Str.ofString "1/ 2"), .str (Str.ofString "1_0"), .str (Str.ofString "1.0"), .str (Str.ofString "1e3"), .str (Str.ofString "one"), .str (Str.ofString "0x1"), .str (S (lineL n d) ++ Str.ofString "\n"), .str (Str.ofString "1,2"), .str (Str.ofString "00"), .str (Str.ofString "1//2"), .str (Str.ofString "-/2"), .str (Str.ofString "2/-3")])) u8 = some (.lst [.str (Str.ofString "1/2/3"), .str (Str.ofString "1/+2"), .str (Str.ofString "1/ 2"), .str (Str.ofString "1_0"), .str (Str.ofString "1.0"), .str (Str.ofString "1e3"), .str (Str.ofString "one"), .str (Str.ofString "0x1"), .str (S (lineL n d) ++ Str.ofString "\n"), .str (Str.ofString "1,2"), .str (Str.ofString "00"), .str (Str.ofString "1//2"), .str (Str.ofString "-/2"), .str (Str.ofString "2/-3")]) := upd_same
  generalize upd H7 u8 (.lst [.str (Str.ofString "1/2/3"), .str (Str.ofString "1/+2"), .str (Str.ofString "1/ 2"), .str (Str.ofString "1_0"), .str (Str.ofString "1.0"), .str (Str.ofString "1e3"), .str (Str.ofString "one"), .str (Str.ofString "0x1"), .str (S (lineL n d) ++ Str.ofString "\n"), .str (Str.ofString "1,2"), .str (Str.ofString "00"), .str (Str.ofString "1//2"), .str (Str.ofString "-/2"), .str (Str.ofString "2/-3")]) = H8 at s8 g8 ⊢
  walk_at "r"
  generalize hx8 : ([.str (Str.ofString "1/2/3"), .str (Str.ofString "1/+2"), .str (Str.ofString "1/ 2"), .str (Str.ofString "1_0"), .str (Str.ofString "1.0"), .str (Str.ofString "1e3"), .str (Str.ofString "one"), .str (Str.ofString "0x1"), .str (S (lineL n d) ++ Str.ofString "\n"), .str (Str.ofString "1,2"), .str (Str.ofString "00"), .str (Str.ofString "1//2"), .str (Str.ofString "-/2"), .str (Str.ofString "2/-3")] : List V) = X8 at g8
  have l8 : X8.length = 14 := by rw [← hx8]; rfl
  refine ⟨u7, u8, _, _, rfl, rfl, s8 _ _ g7, g8, by simp only [List.length_append, szl]; omega, fun u9 n9 => ?_⟩
  have s9 := Same.upd_new (o := .lst ((X3 ++ X4 ++ X6) ++ X8)) n9
  have g9 : (upd H8 u9 (.lst ((X3 ++ X4 ++ X6) ++ X8))) u9 = some (.lst ((X3 ++ X4 ++ X6) ++ X8)) := upd_same
  generalize upd H8 u9 (.lst ((X3 ++ X4 ++ X6) ++ X8)) = H9 at s9 g9 ⊢
  walk_at "r"
  refine ⟨by show 1 ≤ sizeLine; decide, fun u10 n10 => ?_⟩
  have s10 := Same.upd_new (o := .lst [.str (S (lineL n d))]) n10
  have g10 : (upd H9 u10 (.lst [.str (S (lineL n d))])) u10 = some (.lst [.str (S (lineL n d))]) := upd_same
  generalize upd H9 u10 (.lst [.str (S (lineL n d))]) = H10 at s10 g10 ⊢
  walk_at "r"
  refine ⟨by show 1 ≤ sizeLine; decide, fun u11 n11 => ?_⟩
  have s11 := Same.upd_new (o := .tup [.str (S (lineL n d))]) n11
  have g11 : (upd H10 u11 (.tup [.str (S (lineL n d))])) u11 = some (.tup [.str (S (lineL n d))]) := upd_same
  generalize upd H10 u11 (.tup [.str (S (lineL n d))]) = H11 at s11 g11 ⊢
  walk_at "r"
  refine ⟨by show 0 ≤ sizeLine; decide, fun u12 n12 => ?_⟩
  have s12 := Same.upd_new (o := .lst []) n12
  have g12 : (upd H11 u12 (.lst [])) u12 = some (.lst []) := upd_same
  generalize upd H11 u12 (.lst []) = H12 at s12 g12 ⊢
  walk_at "r"
  refine fun u13 n13 => ?_
  have s13 := Same.upd_new (o := .dK []) n13
  have g13 : (upd H12 u13 (.dK [])) u13 = some (.dK []) := upd_same
  generalize upd H12 u13 (.dK []) = H13 at s13 g13 ⊢
  walk_at "r"
  refine ⟨by show 8 ≤ sizeLine; decide, fun u14 n14 => ?_⟩
  have s14 := Same.upd_new (o := .lst [.non, .int 0, .int n, .bl true, .ref u10, .ref u11, .ref u12, .ref u13]) n14
  have g14 : (upd H13 u14 (.lst [.non, .int 0, .int n, .bl true, .ref u10, .ref u11, .ref u12, .ref u13])) u14 = some (.lst [.non, .int 0, .int n, .bl true, .ref u10, .ref u11, .ref u12, .ref u13]) := upd_same
  generalize upd H13 u14 (.lst [.non, .int 0, .int n, .bl true, .ref u10, .ref u11, .ref u12, .ref u13]) = H14 at s14 g14 ⊢
  walk_at "r"
  refine ⟨u9, u14, _, _, rfl, rfl, (s10.trans (s11.trans (s12.trans (s13.trans s14)))) _ _ g9, g14, by simp only [List.length_append, szl]; show _ + 8 ≤ _; omega, fun u15 n15 => ?_⟩
  have s15 := Same.upd_new (o := .lst (X3 ++ X4 ++ X6 ++ X8 ++ [.non, .int 0, .int n, .bl true, .ref u10, .ref u11, .ref u12, .ref u13])) n15
  have g15 : (upd H14 u15 (.lst (X3 ++ X4 ++ X6 ++ X8 ++ [.non, .int 0, .int n, .bl true, .ref u10, .ref u11, .ref u12, .ref u13]))) u15 = some (.lst (X3 ++ X4 ++ X6 ++ X8 ++ [.non, .int 0, .int n, .bl true, .ref u10, .ref u11, .ref u12, .ref u13])) := upd_same
  generalize upd H14 u15 (.lst (X3 ++ X4 ++ X6 ++ X8 ++ [.non, .int 0, .int n, .bl true, .ref u10, .ref u11, .ref u12, .ref u13])) = HF at s15 g15 ⊢
  have p3 : ∀ x ∈ X3, BadV C K HF x := by
    rw [← hx3]
    exact (fc (badv_str (by rw [k1, S_cat]; rfl) (bad1 hn hd)) (fc (badv_str (by rw [k1, S_cat]) (bad2 hn hd 32 (.inl rfl))) (fc (badv_str (by rw [k2, numS_S, numI_nat, S_cat]; rfl) (bad3 hn)) (fc (badv_str (by rw [k3, numS_S, numI_nat, S_cat]; rfl) (bad4 hn)) (fc (badv_str (by decide +kernel) badC0) (fc (badv_str (by decide +kernel) badC1) (fc (badv_str (by decide +kernel) badC2) (fc (badv_str (by decide +kernel) badC3) (fc (badv_str (by decide +kernel) badC4) (fc (badv_str (by decide +kernel) badC5) (fc (badv_str (by decide +kernel) badC6) (fc (badv_str (by decide +kernel) badC7) (fc (badv_str (by decide +kernel) badC8) fz)))))))))))))
  have p4 : ∀ x ∈ X4, BadV C K HF x := by
    rw [← hx4]
    exact (fc (badv_str (by rw [k4, numS_S, numS_S, S_cat, S_cat, List.append_assoc]; rfl) (bad5 hn hd lo)) (fc (badv_str (by rw [k5, numS_S, S_cat]) (bad6 hn 49 (.inr rfl))) (fc (badv_str (by rw [k6, numS_S, S_cat]) (bad6 hn 48 (.inl rfl))) (fc (badv_str (by rw [k4, numS_S, numS_S, S_cat, S_cat, List.append_assoc]; rfl) (bad7 hn hd lo)) fz))))
  have p6 : ∀ x ∈ X6, BadV C K HF x := by
    rw [← hx6]
    exact (fc (badv_str (by rw [k6, numS_S, numS_S, numI_nat, numI_nat, S_cat, S_cat, List.append_assoc]; rfl) (bad8 hn)) (fc (badv_str (by rw [k7, numS_S, numI_nat, S_cat]; rfl) (bad9 hn)) (fc (badv_str (by rw [k8, numS_S, numI_neg, S_cat]; rfl) (bad9 hn)) (fc (badv_str (by rw [k5, S_cat]) (bad10 hn hd)) (fc (badv_str (by decide +kernel) badC9) fz)))))
  have p8 : ∀ x ∈ X8, BadV C K HF x := by
    rw [← hx8]
    exact (fc (badv_str (by decide +kernel) badC10) (fc (badv_str (by decide +kernel) badC11) (fc (badv_str (by decide +kernel) badC12) (fc (badv_str (by decide +kernel) badC13) (fc (badv_str (by decide +kernel) badC14) (fc (badv_str (by decide +kernel) badC15) (fc (badv_str (by decide +kernel) badC16) (fc (badv_str (by decide +kernel) badC17) (fc (badv_str (by rw [k9, S_cat]) (bad2 hn hd 10 (.inr rfl))) (fc (badv_str (by decide +kernel) badC18) (fc (badv_str (by decide +kernel) badC19) (fc (badv_str (by decide +kernel) badC20) (fc (badv_str (by decide +kernel) badC21) (fc (badv_str (by decide +kernel) badC22) fz))))))))))))))
  have e10 := (s11.trans (s12.trans (s13.trans (s14.trans s15)))) _ _ g10
  have e11 := (s12.trans (s13.trans (s14.trans s15))) _ _ g11
  have e12 := (s13.trans (s14.trans s15)) _ _ g12
  have e13 := (s14.trans s15) _ _ g13
  obtain ⟨lln, las⟩ := line_len (up100 hn) (up100 hd)
  have hs := str_ok las
  have hl : PyData.canLay0 (.str "line") = true := by decide +kernel
  have e1 : (S (lineL n d)).cps.size = (lineL n d).length := by simp [S]
  have e2 : (Str.ofString "line").cps.size = 4 := by decide +kernel
  have sL : ShowOK (lineD (.list [.str (S (lineL n d))])) := by
    refine show_lay ?_ ?_ ?_ ?_ ?_
    · simp [lineD, PyData.showable, PyData.showableAll]
    · simp [lineD, PyData.depth, PyData.depthAll]
    · simp only [lineD, PyData.canLay0, PyData.canLayAll0] at hs hl ⊢
      rw [hs, hl]
      rfl
    · simp [lineD, PyData.intsShort, PyData.intsShortAll]
    · simp only [lineD, PyData.weight, PyData.weightAll, e1, e2]
      omega
  have sT : ShowOK (lineD (.tuple [.str (S (lineL n d))])) := by
    refine show_lay ?_ ?_ ?_ ?_ ?_
    · simp [lineD, PyData.showable, PyData.showableAll]
    · simp [lineD, PyData.depth, PyData.depthAll]
    · simp only [lineD, PyData.canLay0, PyData.canLayAll0] at hs hl ⊢
      rw [hs, hl]
      rfl
    · simp [lineD, PyData.intsShort, PyData.intsShortAll]
    · simp only [lineD, PyData.weight, PyData.weightAll, e1, e2]
      omega
  have sI : ShowOK (lineD (.int n)) := by
    refine show_lay ?_ ?_ ?_ ?_ ?_
    · simp [lineD, PyData.showable, PyData.showableAll, a0.1]
    · simp [lineD, PyData.depth, PyData.depthAll]
    · simp only [lineD, PyData.canLay0, PyData.canLayAll0] at hl ⊢
      rw [hl]
      rfl
    · simp only [lineD, PyData.intsShort, PyData.intsShortAll, Bool.true_and, Bool.and_true, decide_eq_true_eq]
      exact a0.2
    · simp only [lineD, PyData.weight, PyData.weightAll, e2]
      have := a0.1
      split <;> omega
  have p10 : ∀ x ∈ ([.non, .int 0, .int n, .bl true, .ref u10, .ref u11, .ref u12, .ref u13] : List V), BadV C K HF x :=
    fc ⟨.none, .non, show_T (by decide +kernel), .inl ⟨_, .base .non, .non, fun e => absurd (Value.type.inj e) (by decide)⟩⟩ (fc ⟨.int 0, .int 0, show_T (by decide +kernel), .inl ⟨_, .base (.int 0), .int, fun e => absurd (Value.type.inj e) (by decide)⟩⟩ (fc ⟨.int n, .int n, sI, .inl ⟨_, .base (.int n), .int, fun e => absurd (Value.type.inj e) (by decide)⟩⟩
      (fc ⟨.bool true, .bl true, show_T (by decide +kernel), .inl ⟨_, .base (.bl true), .bl, fun e => absurd (Value.type.inj e) (by decide)⟩⟩ (fc ⟨_, .lst e10 (.cons (.str _) .nil), sL, .inl ⟨_, .base (.lst e10), .lst, fun e => absurd (Value.type.inj e) (by decide)⟩⟩ (fc ⟨_, .tup e11 (.cons (.str _) .nil), sT, .inl ⟨_, .base (.tup e11), .tup, fun e => absurd (Value.type.inj e) (by decide)⟩⟩
      (fc ⟨_, .lst e12 .nil, show_T (by decide +kernel), .inl ⟨_, .base (.lst e12), .lst, fun e => absurd (Value.type.inj e) (by decide)⟩⟩ (fc ⟨_, .emp e13, show_T (by decide +kernel), .inl ⟨_, .base (.dK e13), .dic, fun e => absurd (Value.type.inj e) (by decide)⟩⟩ fz)))))))
  exact k HF u15 _ (s1.trans (s2.trans (s3.trans (s4.trans (s5.trans (s6.trans (s7.trans (s8.trans (s9.trans (s10.trans (s11.trans (s12.trans (s13.trans (s14.trans s15)))))))))))))) g15 (fa (fa (fa (fa p3 p4) p6) p8) p10)
end
end Eld
set_option Elab.async false
set_option maxRecDepth 100000
set_option maxHeartbeats 4000000
set_option linter.all false
namespace Eld
open PySem L2
local macro_rules | `(tactic| walk_at "r1") => `(tactic| with_reducible first
  | refine r_seq ?_ | refine r_asgN ?_ | refine r_asg ?_ | refine r_gname ?_ | refine r_gsub ?_ | refine r_var rfl ?_ | refine r_c ?_ | refine r_op ?_ | refine r_un ?_ | refine r_u ?_ | refine r_i0 ?_ | refine r_cb ?_ | refine r_cons ?_ | refine r_nil ?_ | refine r_cl ?_ | refine r_fn rfl rfl ?_ | refine r_mt ?_
  | refine r_test ?_ | refine r_tb ?_ | refine r_bl ?_ | refine r_and ?_ | refine r_or ?_ | refine r_not ?_ | refine r_andV ?_ | refine r_orV ?_ | refine r_notV ?_ | refine r_ifX ?_ | refine r_ifs ?_ | refine r_chain ?_ | refine r_ret ?_ | refine r_next ?_ | refine r_drop ?_ | refine iteT ?_ | refine iteF ?_ | refine iteNT ?_ | refine iteNF ?_
  | refine r_int1 ?_ | refine r_boolB ?_ | refine r_eqI ?_ | refine r_neI ?_ | refine r_eqB ?_ | refine r_neB ?_ | refine r_eqS ?_ | refine r_neS ?_ | refine r_abs ?_ | refine r_max2 ?_ | refine r_min2 ?_ | refine r_yes ?_ | refine r_tup ?_ | refine r_sfld ?_ | refine r_m0 ?_ | refine r_m1 ?_ | refine r_lst ?_ | refine r_rng1 ?_ | refine r_rng2 ?_ | refine r_ixL (SqL.of (by assumption)) rfl ?_)
local macro_rules | `(tactic| walk_at "r") => `(tactic| repeat (first | walk_at "r1" | ((with_reducible refine r_var ?hv ?_); (case hv => rfl))))

open SX (S S_len S_cat S_inj)
local macro_rules | `(tactic| walk_at "r1") => `(tactic| with_reducible first | refine r_clS ?_ | refine r_fnS rfl rfl ?_ | refine r_mtS ?_ | refine r_mkO ?_ | refine r_par ?_)
def spLines : Sp := fun vs H Q _ => ∃ (v : V) (t : Addr) (a : Int) (ob : Option Int), vs = [v, .ref t] ∧ PairAt H t a ob ∧ Good a ob ∧ ∀ H', Same H H' → Q (.bl true) H'
theorem r_reprD {K : PySem.W.Frag} {H : Hp} {Q : VK} {a : Addr} {d : PyData} (h : Dx K H (.ref a) d) (ok : ShowOK d) (q : Q (.str d.shown) H) : rReprX K [.ref a] H Q := ⟨a, d, rfl, h, ok.1, ok.2.1, ok.2.2, q⟩
section
variable {P : Program} {w : World} {K : PySem.W.Frag} {mg : Str → Option Value} {base : Heap} {C Ce cz : Addr}
theorem ok_lines {f : Addr} {fd : FuncData} (F : Fun K "_law_lines_right" "_law_lines_right" s__law_lines_right f fd) (Z : Zs K mg C cz) (hM : ModsD base) (d__law_bad_lines : DefD P w K mg base 4 "_law_bad_lines" 2 [] byPlace (spBad C K)) (d__law_met : DefD P w K mg base 7 "_law_met" 3 [] byPlace (spMet C K)) (d__law_is : DefD P w K mg base 1 "_law_is" 2 [] byPlace (spIs C)) (d__law_line : DefD P w K mg base 1 "_law_line" 1 [] byPlace spLine) (d__law_worth : DefD P w K mg base 3 "_law_worth" 1 [] byPlace spWorth) : FnG P w K mg base CX0 8 f fd ["box", "pair"] spLines := by
  refine okG F sc__law_lines_right (fun vs H Q E h => ?_) (fun cdv B up z H vs Q E hG hr h => ?_)
  · obtain ⟨v, t, a, ob, rfl, _⟩ := h
    rfl
  have hu : (B.deeper (PyProof.Rows.envOfC "_law_lines_right" (defScope s__law_lines_right) z.heap.objs.size f cdv)).units + 64 < cLine := by have := hr.un; omega
  refine ⟨_, (pss_cons (ps_set (i := 2) sc__law_lines_right.nd rfl (by first | exact Or.inl rfl | exact Or.inr rfl) (pd_pos d__law_bad_lines hG hr (by decide) (by rfl) (pa_cons (pv 0) (pa_cons (pv 1) pa_nil))))
  (pss_cons (ps_for PassesOwn.never rfl (pi_list (pv 2)) (pg_name (i := 3) sc__law_lines_right.nd rfl (by first | exact Or.inl rfl | exact Or.inr rfl))
  (pss_one (ps_if (pt_cmpR op_ne (pe_callB (show CallR _ _ (rReprX K) from call_reprX hM hG hu) (by rfl) Z.repr_ (by decide +kernel) (pa_cons (pd_pos d__law_met hG hr (by decide) (by rfl) (pa_cons pe_int (pa_cons (pv 3) (pa_cons pe_non pa_nil)))) pa_nil)) (pe_callB (show CallR _ _ (rReprX K) from call_reprX hM hG hu) (by rfl) Z.repr_ (by decide +kernel) (pa_cons (pe_lst (pa_cons pe_str (pa_cons (pv 3) pa_nil))) pa_nil)) (nomark _)) (pss_one (ps_ret pe_bl)) pss_nil)))
  (pss_one (ps_ret (pd_pos d__law_is hG hr (by decide) (by rfl) (pa_cons (pe_ix (show IxR _ (rIxL K) from ix_list) (pd_pos d__law_met hG hr (by decide) (by rfl) (pa_cons pe_int (pa_cons (pd_pos d__law_line hG hr (by decide) (by rfl) (pa_cons (pd_pos d__law_worth hG hr (by decide) (by rfl) (pa_cons (pv 1) pa_nil)) pa_nil)) (pa_cons pe_non pa_nil)))) pe_int (fun _ _ => rfl)) (pa_cons (pd_pos d__law_worth hG hr (by decide) (by rfl) (pa_cons (pv 1) pa_nil)) pa_nil))))))), ?_⟩
  obtain ⟨v, t, a, ob, rfl, pt, hg, k⟩ := h
  obtain ⟨sn, sd, lo, hn1, hd1⟩ := hg.sm
  have p100 : (2 : Nat) ^ 100 < 10 ^ 150 := by decide +kernel
  have hn3 := Nat.lt_trans hn1 p100
  have hd3 := Nat.lt_trans hd1 p100
  walk_at "r"
  refine ⟨v, t, a, ob, rfl, pt, hg, fun H1 D xs s1 g1 hbad => ?_⟩
  have pt1 := s1 _ _ pt
  walk_at "r"
  with_reducible refine r_for ?_
  walk_at "r"
  refine ⟨_, rfl, D, rfl, ⟨_, SqL.of g1⟩, for_list (K := K) (a := D) (xs := xs) (fun i τ T => ∃ v3 : Option V, τ = [some v, some (.ref t), some (.ref D), v3] ∧ Same H1 T) ⟨none, rfl, Same.refl _⟩ (fun i τ T _ q => SqL.of (q.choose_spec.2 _ _ g1)) ?_ ?_⟩
  · rintro i x τ T hx ⟨v3, rfl, sT⟩
    obtain ⟨d, hdx, sh, bad⟩ := (hbad x (List.mem_of_getElem? hx)).same sT
    walk_at "r"
    refine ⟨4, x, .non, rfl, .inr (.inr (.inr (.inr (.inr (.inr (.inr (.inr (.inr (.inl ⟨rfl, bad, fun T1 s1 l T2 nl s2 gl => ?_⟩)))))))))⟩
    have q2 := s1.trans s2
    walk_at "r"
    refine r_reprD (d := lineD d) (.lst gl (.cons (.str _) (.cons (Dx.same q2 _ _ hdx) .nil))) sh ?_
    walk_at "r"
    refine ⟨by show 2 ≤ sizeLine; decide, fun u3 n3 => ?_⟩
    have s3 := Same.upd_new (o := .lst [.str (Str.ofString "line"), x]) n3
    have g3 : (upd T2 u3 (.lst [.str (Str.ofString "line"), x])) u3 = some (.lst [.str (Str.ofString "line"), x]) := upd_same
    generalize upd T2 u3 (.lst [.str (Str.ofString "line"), x]) = T3 at s3 g3 ⊢
    walk_at "r"
    refine r_reprD (d := lineD d) (.lst g3 (.cons (.str _) (.cons (Dx.same (q2.trans s3) _ _ hdx) .nil))) sh ?_
    walk_at "r"
    rw [decide_eq_true rfl]
    walk_at "r"
    exact ⟨_, rfl, sT.trans (q2.trans s3)⟩
  · rintro τ T ⟨v3, rfl, sT⟩
    walk_at "r"
    refine ⟨t, a, ob, rfl, sT _ _ pt1, hg, fun w1 T1 s1' hw1 => ?_⟩
    have q1 := sT.trans s1'
    walk_at "r"
    refine ⟨w1, _, _, rfl, hw1, sn, sd, ?_⟩
    rw [line_S lo.pos]
    walk_at "r"
    refine ⟨4, _, .non, rfl, .inr (.inr (.inr (.inr (.inr (.inr (.inr (.inr (.inr (.inr ⟨rfl, _, _, rfl, lo, hn3, hd3, fun T2 p s2 rp l T3 nl s3 gl => ?_⟩)))))))))⟩
    have q3 := q1.trans (s2.trans s3)
    walk_at "r"
    refine ⟨t, a, ob, rfl, q3 _ _ pt1, hg, fun w4 T4 s4 hw4 => ?_⟩
    have q4 := q3.trans s4
    walk_at "r"
    refine ⟨p, w4, _, _, rfl, (rp.same s3).same s4, hw4, fun T5 s5 => ?_⟩
    exact k _ (s1.trans (q4.trans s5))
def spRight : Sp := fun vs H Q _ => ∃ b, vs = [.ref b] ∧ BoxAt H b 0 ∧ ∀ H', But b H H' → Q (.bl true) H'
theorem ok_right {f : Addr} {fd : FuncData} (F : Fun K "_law_right" "_law_right" s__law_right f fd) (Z : Zs K mg C cz) (d__law_numbers : DefD P w K mg base 4 "_law_numbers" 1 [] byPlace spNumbers) (d__law_alone_right : DefD P w K mg base 8 "_law_alone_right" 2 [] byPlace spAlone) (d__law_two_right : DefD P w K mg base 8 "_law_two_right" 2 [] byPlace spTwo) (d__law_lists_right : DefD P w K mg base 8 "_law_lists_right" 2 [] byPlace spLists) (d__law_refused_right : DefD P w K mg base 8 "_law_refused_right" 2 [] byPlace spRefused) (d__law_lines_right : DefD P w K mg base 8 "_law_lines_right" 2 [] byPlace spLines) (d__law_take : DefD P w K mg base 1 "_law_take" 2 [] byPlace spTake) : FnG P w K mg base CX0 9 f fd ["box"] spRight := by
  refine okG F sc__law_right (fun vs H Q E h => ?_) (fun cdv B up z H vs Q E hG hr h => ?_)
  · obtain ⟨b, rfl, _⟩ := h
    rfl
  refine ⟨_, (pss_cons (ps_set (i := 1) sc__law_right.nd rfl (by first | exact Or.inl rfl | exact Or.inr rfl) (pd_pos d__law_numbers hG hr (by decide) (by rfl) (pa_cons (pv 0) pa_nil)))
  (pss_cons (ps_for PassesOwn.never rfl (pi_list (pv 1)) (pg_name (i := 2) sc__law_right.nd rfl (by first | exact Or.inl rfl | exact Or.inr rfl))
  (pss_cons (ps_if (pt_not (pt_val (pd_pos d__law_alone_right hG hr (by decide) (by rfl) (pa_cons (pv 0) (pa_cons (pv 2) pa_nil))))) (pss_one (ps_ret pe_bl)) pss_nil)
  (pss_one (ps_for PassesOwn.never rfl (pi_list (pv 1)) (pg_name (i := 3) sc__law_right.nd rfl (by first | exact Or.inl rfl | exact Or.inr rfl))
  (pss_one (ps_if (PW.pt (pw_and (pt_cmpR op_notN (pe_ix (show IxR _ (rIxT K) from ix_tup) (pv 2) pe_int (fun _ _ => rfl)) pe_non (nomark _)) (pw_and1 (pt_not (pt_val (pd_pos d__law_two_right hG hr (by decide) (by rfl) (pa_cons (pv 2) (pa_cons (pv 3) pa_nil)))))))) (pss_one (ps_ret pe_bl)) pss_nil))))))
  (pss_cons (ps_if (PW.pt (pw_or (pt_not (pt_val (pd_pos d__law_lists_right hG hr (by decide) (by rfl) (pa_cons (pv 0) (pa_cons (pv 1) pa_nil))))) (pw_or1 (pt_not (pt_val (pd_pos d__law_refused_right hG hr (by decide) (by rfl) (pa_cons (pv 0) (pa_cons (pe_ix (show IxR _ (rIxL K) from ix_list) (pv 1) (pd_pos d__law_take hG hr (by decide) (by rfl) (pa_cons (pv 0) (pa_cons pe_int pa_nil))) (fun _ _ => rfl)) pa_nil)))))))) (pss_one (ps_ret pe_bl)) pss_nil)
  (pss_one (ps_ret (pd_pos d__law_lines_right hG hr (by decide) (by rfl) (pa_cons (pv 0) (pa_cons (pe_ix (show IxR _ (rIxL K) from ix_list) (pv 1) (pd_pos d__law_take hG hr (by decide) (by rfl) (pa_cons (pv 0) (pa_cons pe_int pa_nil))) (fun _ _ => rfl)) pa_nil)))))))), ?_⟩
  obtain ⟨b, rfl, hb, k⟩ := h
  walk_at "r"
  refine ⟨b, 0, rfl, hb, by decide, fun D ts ps H1 l4 hD hP hGd b1 t1 => ?_⟩
  have Db : D ≠ b := by
    rintro rfl
    obtain ⟨_, _, _, _, e, _⟩ := b1
    rw [hD] at e
    cases ts with
    | nil => cases l4
    | cons x r => cases e
  have keepP : ∀ {G : Hp}, But b H1 G → PairsAt G ts ps := fun h => hP.to fun c x e => h _ _ (by rintro rfl; obtain ⟨_, _, _, _, e', _⟩ := b1; rw [e] at e'; cases e') e
  have lps : ps.length = 4 := hP.1 ▸ l4
  walk_at "r"
  with_reducible refine r_for ?_
  walk_at "r"
  refine ⟨_, rfl, D, rfl, ⟨_, SqL.of hD⟩, for_list (K := K) (a := D) (xs := ts.map V.ref) (fun i τ T => ∃ v2 v3 : Option V, τ = [some (.ref b), some (.ref D), v2, v3] ∧ BoxAt T b (120 + i) ∧ But b H1 T) ⟨none, none, rfl, b1, fun _ _ _ e => e⟩ (fun i τ T _ q => by obtain ⟨_, _, _, _, tT⟩ := q; exact SqL.of (tT _ _ Db hD)) ?_ ?_⟩
  · rintro i x τ T hx ⟨v2, v3, rfl, bT, tT⟩
    obtain ⟨t, ht, rfl⟩ := ref_get hx
    have iu : i < ts.length := (List.getElem?_eq_some_iff.mp ht).1
    have ir : i < ps.length := by omega
    have hr2 : ps[i]? = some ps[i] := List.getElem?_eq_getElem ir
    have gt := hGd _ (List.getElem_mem ir)
    walk_at "r"
    refine ⟨b, t, _, _, _, rfl, bT, by omega, (keepP tT).2 i t _ ht hr2, gt, fun T1 bT1 tT1 => ?_⟩
    have t1' : But b H1 T1 := fun c o ne e => tT1 _ _ ne (tT _ _ ne e)
    walk_at "r"
    with_reducible refine r_for ?_
    walk_at "r"
    refine ⟨_, rfl, D, rfl, ⟨_, SqL.of (t1' _ _ Db hD)⟩, for_list (K := K) (a := D) (xs := ts.map V.ref) (fun j τ G => ∃ v3 : Option V, τ = [some (.ref b), some (.ref D), some (.ref t), v3] ∧ Same T1 G) ⟨_, rfl, Same.refl _⟩ (fun j τ G _ q => SqL.of (q.choose_spec.2 _ _ (t1' _ _ Db hD))) ?_ ?_⟩
    · rintro j y τ G hy ⟨v3', rfl, sG⟩
      obtain ⟨t', ht', rfl⟩ := ref_get hy
      have ju : j < ts.length := (List.getElem?_eq_some_iff.mp ht').1
      have jr : j < ps.length := by omega
      have hr3 : ps[j]? = some ps[j] := List.getElem?_eq_getElem jr
      have gt' := hGd _ (List.getElem_mem jr)
      have p1 := sG _ _ ((keepP t1').2 i t _ ht hr2)
      have p2 := sG _ _ ((keepP t1').2 j t' _ ht' hr3)
      walk_at "r"
      refine r_ixT (SqT.of p1) rfl ?_
      walk_at "r"
      refine ⟨rfl, ?_⟩
      by_cases c : ps[i].2 = none
      · rw [decide_eq_true (show pvO ps[i].2 = V.non by rw [c]; rfl)]
        walk_at "r"
        exact ⟨_, rfl, sG⟩
      · rw [decide_eq_false (show ¬ pvO ps[i].2 = V.non from fun e => c (by revert e; cases ps[i].2 with | none => intro _; rfl | some z => intro e; cases e))]
        walk_at "r"
        refine ⟨t, t', _, _, _, _, rfl, p1, p2, c, gt, gt', fun G1 s1 => ?_⟩
        walk_at "r"
        exact ⟨_, rfl, sG.trans s1⟩
    · rintro τ G ⟨v3', rfl, sG⟩
      exact ⟨_, _, rfl, by have := bT1.same sG; exact this, fun c o ne e => sG _ _ (t1' _ _ ne e)⟩
  · rintro τ T ⟨v2, v3, rfl, bT, tT⟩
    rw [List.length_map, l4] at bT
    walk_at "r"
    refine ⟨b, D, _, ts, ps, rfl, bT, by omega, Db, l4, tT _ _ Db hD, keepP tT, hGd, fun T1 bT1 tT1 => ?_⟩
    have t1' : But b H1 T1 := fun c o ne e => tT1 _ _ ne (tT _ _ ne e)
    walk_at "r"
    refine ⟨b, _, _, rfl, bT1, by omega, by decide, by decide, fun r T2 r0 r4 bT2 tT2 => ?_⟩
    have t2' : But b H1 T2 := fun c o ne e => tT2 _ _ ne (t1' _ _ ne e)
    obtain ⟨r, rfl⟩ := Int.eq_ofNat_of_zero_le r0
    have ru : r < ts.length := by omega
    have hts : ts[r]? = some ts[r] := List.getElem?_eq_getElem ru
    have hps : ps[r]? = some ps[r] := List.getElem?_eq_getElem (by omega)
    refine r_ixL (SqL.of (t2' _ _ Db hD)) (atI_nat (v := .ref ts[r]) (by rw [List.getElem?_map, hts]; rfl)) ?_
    walk_at "r"
    refine ⟨b, ts[r], _, _, _, rfl, bT2, by omega, (keepP t2').2 r _ _ hts hps, hGd _ (List.mem_of_getElem? hps), fun T3 bT3 tT3 => ?_⟩
    have t3' : But b H1 T3 := fun c o ne e => tT3 _ _ ne (t2' _ _ ne e)
    walk_at "r"
    refine ⟨b, _, _, rfl, bT3, by omega, by decide, by decide, fun q T4 q0 q4 bT4 tT4 => ?_⟩
    have t4' : But b H1 T4 := fun c o ne e => tT4 _ _ ne (t3' _ _ ne e)
    obtain ⟨q, rfl⟩ := Int.eq_ofNat_of_zero_le q0
    have qu : q < ts.length := by omega
    have hts' : ts[q]? = some ts[q] := List.getElem?_eq_getElem qu
    have hps' : ps[q]? = some ps[q] := List.getElem?_eq_getElem (by omega)
    refine r_ixL (SqL.of (t4' _ _ Db hD)) (atI_nat (v := .ref ts[q]) (by rw [List.getElem?_map, hts']; rfl)) ?_
    walk_at "r"
    refine ⟨_, ts[q], _, _, rfl, (keepP t4').2 q _ _ hts' hps', hGd _ (List.mem_of_getElem? hps'), fun T5 s5 => ?_⟩
    exact k _ (fun c o ne e => s5 _ _ (t4' _ _ ne (t1 _ _ ne e)))
def spLaw (K : PySem.W.Frag) : Sp := fun vs H Q _ => ∃ (a : Addr) (ns : List Int), vs = [.ref a] ∧ ns.length ≤ sizeLine ∧ SqL K H a (ns.map V.int) ∧ ∀ G, Q (.bl true) G
theorem ok_law {f : Addr} {fd : FuncData} (F : Fun K "law" "law" s_law f fd) (Z : Zs K mg C cz) (d__law_cell : DefD P w K mg base 1 "_law_cell" 2 [] byPlace (spCell K)) (d__law_box : DefD P w K mg base 1 "_law_box" 1 [] byPlace spBox)
    (d__law_right : DefD P w K mg base 9 "_law_right" 1 [] byPlace spRight) : FnG P w K mg base CX0 10 f fd ["script"] (spLaw K) := by
  refine okG F sc_law (fun vs H Q E h => ?_) (fun cdv B up z H vs Q E hG hr h => ?_)
  · obtain ⟨a, ns, rfl, _⟩ := h
    rfl
  · obtain ⟨a, ns, rfl, hl, ha, k⟩ := h
    refine ⟨_, (pss_cons (ps_for PassesOwn.never rfl (pi_range1 (by rfl) Z.range_ (pa_cons (pe_callB (c_max2 rfl) (by rfl) Z.max_ (by decide +kernel) (pa_cons pe_int (pa_cons (pe_callB (c_min2 rfl) (by rfl) Z.min_ (by decide +kernel) (pa_cons pe_int (pa_cons (pe_callB (show CallR _ _ (rLen K) from c_len) (by rfl) Z.len_ (by decide +kernel) (pa_cons (pv 0) pa_nil)) pa_nil))) pa_nil))) pa_nil)) (pg_name (i := 1) sc_law.nd rfl (by first | exact Or.inl rfl | exact Or.inr rfl))
  (pss_one (ps_if (pt_not (pt_val (pd_pos d__law_right hG hr (by decide) (by rfl) (pa_cons (pd_pos d__law_box hG hr (by decide) (by rfl) (pa_cons (pd_pos d__law_cell hG hr (by decide) (by rfl) (pa_cons (pv 0) (pa_cons (pv 1) pa_nil))) pa_nil)) pa_nil)))) (pss_one (ps_ret pe_bl)) pss_nil)))
  (pss_one (ps_ret pe_bl))), ?_⟩
    refine r_seq ?_
    refine r_for ?_
    walk_at "r"
    refine r_lenL ha ?_
    walk_at "r"
    generalize hm : (if (if ((ns.map V.int).length : Int) < 4 then ((ns.map V.int).length : Int) else 4) > 2 then (if ((ns.map V.int).length : Int) < 4 then ((ns.map V.int).length : Int) else 4) else 2) = m
    have m4 : 0 ≤ m ∧ m ≤ 4 := by rw [← hm]; split <;> split <;> omega
    refine ⟨_, rfl, by omega, by omega, ?_⟩
    refine for_range (fun i τ G => ∃ v1 : Option V, τ = [some (.ref a), v1] ∧ Same H G) ⟨none, rfl, Same.refl H⟩ ?_ ?_
    · rintro i τ G hi ⟨v1, rfl, sG⟩
      rw [Int.zero_add]
      walk_at "r"
      refine ⟨a, ns, i, rfl, by omega, hl, SqL.same ha sG, fun r G2 s2 => ?_⟩
      walk_at "r"
      refine ⟨r, rfl, fun b G3 s3 n3 b3 => ?_⟩
      walk_at "r"
      refine ⟨b, rfl, b3, fun G4 bt => ?_⟩
      walk_at "r"
      exact ⟨_, rfl, fun a' o e => bt _ _ (ne_of_none (sG.trans s2 _ _ e) n3) (s3 _ _ (s2 _ _ (sG _ _ e)))⟩
    · rintro τ G ⟨v1, rfl, sG⟩
      walk_at "r"
      exact k G
end
end Eld
set_option Elab.async false
set_option maxRecDepth 100000
set_option maxHeartbeats 4000000
set_option linter.all false
namespace Eld
open PySem L2
local macro_rules | `(tactic| walk_at "r1") => `(tactic| with_reducible first
  | refine r_seq ?_ | refine r_asgN ?_ | refine r_asg ?_ | refine r_gname ?_ | refine r_gsub ?_ | refine r_var rfl ?_ | refine r_c ?_ | refine r_op ?_ | refine r_un ?_ | refine r_u ?_ | refine r_i0 ?_ | refine r_cb ?_ | refine r_cons ?_ | refine r_nil ?_ | refine r_cl ?_ | refine r_fn rfl rfl ?_ | refine r_mt ?_
  | refine r_test ?_ | refine r_tb ?_ | refine r_bl ?_ | refine r_and ?_ | refine r_or ?_ | refine r_not ?_ | refine r_andV ?_ | refine r_orV ?_ | refine r_notV ?_ | refine r_ifX ?_ | refine r_ifs ?_ | refine r_chain ?_ | refine r_ret ?_ | refine r_next ?_ | refine r_drop ?_ | refine iteT ?_ | refine iteF ?_ | refine iteNT ?_ | refine iteNF ?_
  | refine r_int1 ?_ | refine r_boolB ?_ | refine r_eqI ?_ | refine r_neI ?_ | refine r_eqB ?_ | refine r_neB ?_ | refine r_eqS ?_ | refine r_neS ?_ | refine r_abs ?_ | refine r_max2 ?_ | refine r_min2 ?_ | refine r_yes ?_ | refine r_tup ?_ | refine r_sfld ?_ | refine r_m0 ?_ | refine r_m1 ?_ | refine r_lst ?_ | refine r_rng1 ?_ | refine r_rng2 ?_ | refine r_ixL (SqL.of (by assumption)) rfl ?_)
local macro_rules | `(tactic| walk_at "r") => `(tactic| repeat (first | walk_at "r1" | ((with_reducible refine r_var ?hv ?_); (case hv => rfl))))

theorem mk_fun {K : PySem.W.Frag} {x ql : Str} {st : Stmt} {f : Addr} {oc : Value} {od an : Option Addr} {osl : Array (Option Value)} {kV doc pm cdv ct : Value} (l : K.lookup f = some ⟨oc, od, .func (PySem.W.fnOf x ql (defArgs st) (defBody st) (defScope st) .none kV doc pm an cdv ct), osl⟩) (c : PySem.W.codeIn K cdv ql = true) (k : PySem.W.keepIn K (.ref f) = true) :
    Fun K x ql st f (PySem.W.fnOf x ql (defArgs st) (defBody st) (defScope st) .none kV doc pm an cdv ct) := fun_mk l c k
theorem exm_of {K : PySem.W.Frag} {c d : Addr} {b : Bool} (h1 : PySem.W.subIn K (.ref d) (.type "BaseException") = some true) (h2 : PySem.W.isClsIn K d = true) (h3 : PySem.W.typeIn K (.ref d) = some (.type "type")) (h4 : PySem.W.subIn K (.ref c) (.ref d) = some b) : PySem.W.exmOne K (.ref c) (.ref d) = some b := by
  have e1 : (PySem.W.subIn K (.ref d) (.type "BaseException") == some true) = true := by rw [h1] <;> rfl
  have e2 : ((PySem.W.clsIn K d).isSome && PySem.W.typeIn K (.ref d) == some (.type "type")) = true := by
    have h2' : (PySem.W.clsIn K d).isSome = true := h2
    rw [h2', h3] <;> rfl
  show (if (PySem.W.subIn K (.ref d) (.type "BaseException") == some true) = true then (if ((PySem.W.clsIn K d).isSome && PySem.W.typeIn K (.ref d) == some (.type "type")) = true then PySem.W.subIn K (.ref c) (.ref d) else none) else none) = some b
  rw [if_pos e1, if_pos e2]
  exact h4
theorem vals_rev : ∀ {zs : List V} {ws : List Value}, Vals zs ws → Vals zs.reverse ws.reverse
  | _, _, .nil => .nil
  | _, _, .cons r rs => by rw [List.reverse_cons, List.reverse_cons]; exact Vals.append (vals_rev rs) (.cons r .nil)
theorem init_kbn {K : PySem.W.Frag} {dt : Addr} {o : Obj} {m : Nat} {tk : Tok} {kV doc pm : Value} {an : Option Addr} {cdv ct : Value} (lT : K.lookup dt = some o) (oT : o.data = .seq #[.int 1 tk] m) (n : Nat) (ks : List Str) (g : List Value → List Value → List Value) (gV : List V → List V → List V)
    (rel : ∀ {vs : List V} {us : List Value} {zs : List V} {ws : List Value}, Vals vs us → Vals zs ws → Vals (gV vs zs) (g us ws))
    (h : ∀ us ws : List Value, us.length = n → ws.length = ks.length → ∃ k, bindArgs (PySem.W.fnOf "__init__" "Ratio.__init__" (defArgs s_Ratio___init__) (defBody s_Ratio___init__) (defScope s_Ratio___init__) (.ref dt) kV doc pm an cdv ct) ⟨us, ks.zip ws⟩ = seqItems? (.ref dt) >>= k ∧ k (some #[.int 1 tk]) = pure ((["self", "top", "bottom"] : List Str).zip (g us ws))) :
    KBn K (PySem.W.fnOf "__init__" "Ratio.__init__" (defArgs s_Ratio___init__) (defBody s_Ratio___init__) (defScope s_Ratio___init__) (.ref dt) kV doc pm an cdv ct) ["self", "top", "bottom"] n ks g gV := by
  refine ⟨fun s us ws X l1 l2 => ?_, rel⟩
  obtain ⟨k, e1, e2⟩ := h us ws l1 l2
  refine BindsTo.of_looks fun M => ?_
  rw [e1]
  exact looks_items X lT oT (.of_pure e2)
theorem all_mk {l : PySem.W.OpenLaw} {w : World} {K : PySem.W.Frag} {h : Heap} {mg : Str → Option Value} {fa C cE cz dt fi e0 e1 xf0 xf1 f0 f1 f2 f3 f4 f5 f6 f7 f8 f9 f10 f11 f12 f13 f14 f15 f16 f17 f18 f19 f20 f21 f22 f23 f24 f25 f26 f27 f28 f29 f30 f31 f32 f33 f34 f35 f36 f37 f38 f39 f40 f41 : Addr} (X : K.In h) (G : h.Ns mainGlobals mg) (hfa : mg "law" = some (.ref fa))
    {odi ani odd od0 an0 od1 an1 od2 an2 od3 an3 od4 an4 od5 an5 od6 an6 od7 an7 od8 an8 od9 an9 od10 an10 od11 an11 od12 an12 od13 an13 od14 an14 od15 an15 od16 an16 od17 an17 od18 an18 od19 an19 od20 an20 od21 an21 od22 an22 od23 an23 od24 an24 od25 an25 od26 an26 od27 an27 od28 an28 od29 an29 od30 an30 od31 an31 od32 an32 od33 an33 od34 an34 od35 an35 od36 an36 od37 an37 od38 an38 od39 an39 od40 an40 od41 an41 xod0 xan0 xdd0 xod1 xan1 xdd1 : Option Addr} {sli sld sl0 sl1 sl2 sl3 sl4 sl5 sl6 sl7 sl8 sl9 sl10 sl11 sl12 sl13 sl14 sl15 sl16 sl17 sl18 sl19 sl20 sl21 sl22 sl23 sl24 sl25 sl26 sl27 sl28 sl29 sl30 sl31 sl32 sl33 sl34 sl35 sl36 sl37 sl38 sl39 sl40 sl41 xsl0 xsl1 : Array (Option Value)} {oci kVi dci pmi cdi cti ocd oc0 kV0 dc0 pm0 cd0 ct0 oc1 kV1 dc1 pm1 cd1 ct1 oc2 kV2 dc2 pm2 cd2 ct2 oc3 kV3 dc3 pm3 cd3 ct3 oc4 kV4 dc4 pm4 cd4 ct4 oc5 kV5 dc5 pm5 cd5 ct5 oc6 kV6 dc6 pm6 cd6 ct6 oc7 kV7 dc7 pm7 cd7 ct7 oc8 kV8 dc8 pm8 cd8 ct8 oc9 kV9 dc9 pm9 cd9 ct9 oc10 kV10 dc10 pm10 cd10 ct10 oc11 kV11 dc11 pm11 cd11 ct11 oc12 kV12 dc12 pm12 cd12 ct12 oc13 kV13 dc13 pm13 cd13 ct13 oc14 kV14 dc14 pm14 cd14 ct14 oc15 kV15 dc15 pm15 cd15 ct15 oc16 kV16 dc16 pm16 cd16 ct16 oc17 kV17 dc17 pm17 cd17 ct17 oc18 kV18 dc18 pm18 cd18 ct18 oc19 kV19 dc19 pm19 cd19 ct19 oc20 kV20 dc20 pm20 cd20 ct20 oc21 kV21 dc21 pm21 cd21 ct21 oc22 kV22 dc22 pm22 cd22 ct22 oc23 kV23 dc23 pm23 cd23 ct23 oc24 kV24 dc24 pm24 cd24 ct24 oc25 kV25 dc25 pm25 cd25 ct25 oc26 kV26 dc26 pm26 cd26 ct26 oc27 kV27 dc27 pm27 cd27 ct27 oc28 kV28 dc28 pm28 cd28 ct28 oc29 kV29 dc29 pm29 cd29 ct29 oc30 kV30 dc30 pm30 cd30 ct30 oc31 kV31 dc31 pm31 cd31 ct31 oc32 kV32 dc32 pm32 cd32 ct32 oc33 kV33 dc33 pm33 cd33 ct33 oc34 kV34 dc34 pm34 cd34 ct34 oc35 kV35 dc35 pm35 cd35 ct35 oc36 kV36 dc36 pm36 cd36 ct36 oc37 kV37 dc37 pm37 cd37 ct37 oc38 kV38 dc38 pm38 cd38 ct38 oc39 kV39 dc39 pm39 cd39 ct39 oc40 kV40 dc40 pm40 cd40 ct40 oc41 kV41 dc41 pm41 cd41 ct41 xoc0 xkV0 xdc0 xpm0 xcd0 xct0 xoc1 xkV1 xdc1 xpm1 xcd1 xct1 : Value} {tkd : Tok} {md : Nat}
    {xnm0 xq0 xnm1 xq1 : Str} {xN0 xN1 : Addr} {xbs0 xsub0 xbs1 xsub1 : List Value} {xsn0 xsn1 : List Str} {xab0 xab1 : Bool} {xcol0 xcol1 : Option Bool} {jaadd jasub jamul jradd jrsub jrmul xa0 xb0 xc0 xd0 xe0 xa1 xb1 xc1 xd1 xe1 : Option Value}
    (aC : PySem.W.nsIn K mainGlobals "Ratio" = some (some (.ref C)))
    (aZ : PySem.W.nsIn K mainGlobals "ByZero" = some (some (.ref cz)))
    (aG : PySem.W.nsIn K mainGlobals "gcd" = some (some (.builtin "math.gcd")))
    (aL : PySem.W.nsIn K mainGlobals "lcm" = some (some (.builtin "math.lcm")))
    (a0 : PySem.W.nsIn K mainGlobals "is_integer" = some (some (.ref f0)))
    (l0 : K.lookup f0 = some ⟨oc0, od0, .func (PySem.W.fnOf "is_integer" "is_integer" (defArgs s_is_integer) (defBody s_is_integer) (defScope s_is_integer) .none kV0 dc0 pm0 an0 cd0 ct0), sl0⟩)
    (c0 : PySem.W.codeIn K cd0 "is_integer" = true)
    (k0 : PySem.W.keepIn K (.ref f0) = true)
    (a1 : PySem.W.nsIn K mainGlobals "is_digits" = some (some (.ref f1)))
    (l1 : K.lookup f1 = some ⟨oc1, od1, .func (PySem.W.fnOf "is_digits" "is_digits" (defArgs s_is_digits) (defBody s_is_digits) (defScope s_is_digits) .none kV1 dc1 pm1 an1 cd1 ct1), sl1⟩)
    (c1 : PySem.W.codeIn K cd1 "is_digits" = true)
    (k1 : PySem.W.keepIn K (.ref f1) = true)
    (a2 : PySem.W.findIn K (.ref C) "__eq__" = some (some (.ref f2)))
    (i2 : PySem.W.isFn K (.ref f2) = true)
    (l2 : K.lookup f2 = some ⟨oc2, od2, .func (PySem.W.fnOf "__eq__" "Ratio.__eq__" (defArgs s_Ratio___eq__) (defBody s_Ratio___eq__) (defScope s_Ratio___eq__) .none kV2 dc2 pm2 an2 cd2 ct2), sl2⟩)
    (c2 : PySem.W.codeIn K cd2 "Ratio.__eq__" = true)
    (k2 : PySem.W.keepIn K (.ref f2) = true)
    (a3 : PySem.W.findIn K (.ref C) "__str__" = some (some (.ref f3)))
    (i3 : PySem.W.isFn K (.ref f3) = true)
    (l3 : K.lookup f3 = some ⟨oc3, od3, .func (PySem.W.fnOf "__str__" "Ratio.__str__" (defArgs s_Ratio___str__) (defBody s_Ratio___str__) (defScope s_Ratio___str__) .none kV3 dc3 pm3 an3 cd3 ct3), sl3⟩)
    (c3 : PySem.W.codeIn K cd3 "Ratio.__str__" = true)
    (k3 : PySem.W.keepIn K (.ref f3) = true)
    (a4 : PySem.W.findIn K (.ref C) "__neg__" = some (some (.ref f4)))
    (i4 : PySem.W.isFn K (.ref f4) = true)
    (l4 : K.lookup f4 = some ⟨oc4, od4, .func (PySem.W.fnOf "__neg__" "Ratio.__neg__" (defArgs s_Ratio___neg__) (defBody s_Ratio___neg__) (defScope s_Ratio___neg__) .none kV4 dc4 pm4 an4 cd4 ct4), sl4⟩)
    (c4 : PySem.W.codeIn K cd4 "Ratio.__neg__" = true)
    (k4 : PySem.W.keepIn K (.ref f4) = true)
    (a5 : PySem.W.findIn K (.ref C) "__add__" = some (some (.ref f5)))
    (i5 : PySem.W.isFn K (.ref f5) = true)
    (l5 : K.lookup f5 = some ⟨oc5, od5, .func (PySem.W.fnOf "__add__" "Ratio.__add__" (defArgs s_Ratio___add__) (defBody s_Ratio___add__) (defScope s_Ratio___add__) .none kV5 dc5 pm5 an5 cd5 ct5), sl5⟩)
    (c5 : PySem.W.codeIn K cd5 "Ratio.__add__" = true)
    (k5 : PySem.W.keepIn K (.ref f5) = true)
    (a6 : PySem.W.findIn K (.ref C) "__radd__" = some (some (.ref f6)))
    (i6 : PySem.W.isFn K (.ref f6) = true)
    (l6 : K.lookup f6 = some ⟨oc6, od6, .func (PySem.W.fnOf "__radd__" "Ratio.__radd__" (defArgs s_Ratio___radd__) (defBody s_Ratio___radd__) (defScope s_Ratio___radd__) .none kV6 dc6 pm6 an6 cd6 ct6), sl6⟩)
    (c6 : PySem.W.codeIn K cd6 "Ratio.__radd__" = true)
    (k6 : PySem.W.keepIn K (.ref f6) = true)
    (a7 : PySem.W.findIn K (.ref C) "__sub__" = some (some (.ref f7)))
    (i7 : PySem.W.isFn K (.ref f7) = true)
    (l7 : K.lookup f7 = some ⟨oc7, od7, .func (PySem.W.fnOf "__sub__" "Ratio.__sub__" (defArgs s_Ratio___sub__) (defBody s_Ratio___sub__) (defScope s_Ratio___sub__) .none kV7 dc7 pm7 an7 cd7 ct7), sl7⟩)
    (c7 : PySem.W.codeIn K cd7 "Ratio.__sub__" = true)
    (k7 : PySem.W.keepIn K (.ref f7) = true)
    (a8 : PySem.W.findIn K (.ref C) "__rsub__" = some (some (.ref f8)))
    (i8 : PySem.W.isFn K (.ref f8) = true)
    (l8 : K.lookup f8 = some ⟨oc8, od8, .func (PySem.W.fnOf "__rsub__" "Ratio.__rsub__" (defArgs s_Ratio___rsub__) (defBody s_Ratio___rsub__) (defScope s_Ratio___rsub__) .none kV8 dc8 pm8 an8 cd8 ct8), sl8⟩)
    (c8 : PySem.W.codeIn K cd8 "Ratio.__rsub__" = true)
    (k8 : PySem.W.keepIn K (.ref f8) = true)
    (a9 : PySem.W.findIn K (.ref C) "__mul__" = some (some (.ref f9)))
    (i9 : PySem.W.isFn K (.ref f9) = true)
    (l9 : K.lookup f9 = some ⟨oc9, od9, .func (PySem.W.fnOf "__mul__" "Ratio.__mul__" (defArgs s_Ratio___mul__) (defBody s_Ratio___mul__) (defScope s_Ratio___mul__) .none kV9 dc9 pm9 an9 cd9 ct9), sl9⟩)
    (c9 : PySem.W.codeIn K cd9 "Ratio.__mul__" = true)
    (k9 : PySem.W.keepIn K (.ref f9) = true)
    (a10 : PySem.W.findIn K (.ref C) "__rmul__" = some (some (.ref f10)))
    (i10 : PySem.W.isFn K (.ref f10) = true)
    (l10 : K.lookup f10 = some ⟨oc10, od10, .func (PySem.W.fnOf "__rmul__" "Ratio.__rmul__" (defArgs s_Ratio___rmul__) (defBody s_Ratio___rmul__) (defScope s_Ratio___rmul__) .none kV10 dc10 pm10 an10 cd10 ct10), sl10⟩)
    (c10 : PySem.W.codeIn K cd10 "Ratio.__rmul__" = true)
    (k10 : PySem.W.keepIn K (.ref f10) = true)
    (a11 : PySem.W.findIn K (.ref C) "over" = some (some (.ref f11)))
    (i11 : PySem.W.isFn K (.ref f11) = true)
    (l11 : K.lookup f11 = some ⟨oc11, od11, .func (PySem.W.fnOf "over" "Ratio.over" (defArgs s_Ratio_over) (defBody s_Ratio_over) (defScope s_Ratio_over) .none kV11 dc11 pm11 an11 cd11 ct11), sl11⟩)
    (c11 : PySem.W.codeIn K cd11 "Ratio.over" = true)
    (k11 : PySem.W.keepIn K (.ref f11) = true)
    (a12 : PySem.W.findIn K (.ref C) "below" = some (some (.ref f12)))
    (i12 : PySem.W.isFn K (.ref f12) = true)
    (l12 : K.lookup f12 = some ⟨oc12, od12, .func (PySem.W.fnOf "below" "Ratio.below" (defArgs s_Ratio_below) (defBody s_Ratio_below) (defScope s_Ratio_below) .none kV12 dc12 pm12 an12 cd12 ct12), sl12⟩)
    (c12 : PySem.W.codeIn K cd12 "Ratio.below" = true)
    (k12 : PySem.W.keepIn K (.ref f12) = true)
    (a13 : PySem.W.nsIn K mainGlobals "is_number" = some (some (.ref f13)))
    (l13 : K.lookup f13 = some ⟨oc13, od13, .func (PySem.W.fnOf "is_number" "is_number" (defArgs s_is_number) (defBody s_is_number) (defScope s_is_number) .none kV13 dc13 pm13 an13 cd13 ct13), sl13⟩)
    (c13 : PySem.W.codeIn K cd13 "is_number" = true)
    (k13 : PySem.W.keepIn K (.ref f13) = true)
    (a14 : PySem.W.nsIn K mainGlobals "as_ratio" = some (some (.ref f14)))
    (l14 : K.lookup f14 = some ⟨oc14, od14, .func (PySem.W.fnOf "as_ratio" "as_ratio" (defArgs s_as_ratio) (defBody s_as_ratio) (defScope s_as_ratio) .none kV14 dc14 pm14 an14 cd14 ct14), sl14⟩)
    (c14 : PySem.W.codeIn K cd14 "as_ratio" = true)
    (k14 : PySem.W.keepIn K (.ref f14) = true)
    (a15 : PySem.W.nsIn K mainGlobals "read_number" = some (some (.ref f15)))
    (l15 : K.lookup f15 = some ⟨oc15, od15, .func (PySem.W.fnOf "read_number" "read_number" (defArgs s_read_number) (defBody s_read_number) (defScope s_read_number) .none kV15 dc15 pm15 an15 cd15 ct15), sl15⟩)
    (c15 : PySem.W.codeIn K cd15 "read_number" = true)
    (k15 : PySem.W.keepIn K (.ref f15) = true)
    (a16 : PySem.W.nsIn K mainGlobals "on_one_bottom" = some (some (.ref f16)))
    (l16 : K.lookup f16 = some ⟨oc16, od16, .func (PySem.W.fnOf "on_one_bottom" "on_one_bottom" (defArgs s_on_one_bottom) (defBody s_on_one_bottom) (defScope s_on_one_bottom) .none kV16 dc16 pm16 an16 cd16 ct16), sl16⟩)
    (c16 : PySem.W.codeIn K cd16 "on_one_bottom" = true)
    (k16 : PySem.W.keepIn K (.ref f16) = true)
    (a17 : PySem.W.nsIn K mainGlobals "total" = some (some (.ref f17)))
    (l17 : K.lookup f17 = some ⟨oc17, od17, .func (PySem.W.fnOf "total" "total" (defArgs s_total) (defBody s_total) (defScope s_total) .none kV17 dc17 pm17 an17 cd17 ct17), sl17⟩)
    (c17 : PySem.W.codeIn K cd17 "total" = true)
    (k17 : PySem.W.keepIn K (.ref f17) = true)
    (a18 : PySem.W.nsIn K mainGlobals "greatest" = some (some (.ref f18)))
    (l18 : K.lookup f18 = some ⟨oc18, od18, .func (PySem.W.fnOf "greatest" "greatest" (defArgs s_greatest) (defBody s_greatest) (defScope s_greatest) .none kV18 dc18 pm18 an18 cd18 ct18), sl18⟩)
    (c18 : PySem.W.codeIn K cd18 "greatest" = true)
    (k18 : PySem.W.keepIn K (.ref f18) = true)
    (a19 : PySem.W.nsIn K mainGlobals "smallest" = some (some (.ref f19)))
    (l19 : K.lookup f19 = some ⟨oc19, od19, .func (PySem.W.fnOf "smallest" "smallest" (defArgs s_smallest) (defBody s_smallest) (defScope s_smallest) .none kV19 dc19 pm19 an19 cd19 ct19), sl19⟩)
    (c19 : PySem.W.codeIn K cd19 "smallest" = true)
    (k19 : PySem.W.keepIn K (.ref f19) = true)
    (a20 : PySem.W.nsIn K mainGlobals "_law_cell" = some (some (.ref f20)))
    (l20 : K.lookup f20 = some ⟨oc20, od20, .func (PySem.W.fnOf "_law_cell" "_law_cell" (defArgs s__law_cell) (defBody s__law_cell) (defScope s__law_cell) .none kV20 dc20 pm20 an20 cd20 ct20), sl20⟩)
    (c20 : PySem.W.codeIn K cd20 "_law_cell" = true)
    (k20 : PySem.W.keepIn K (.ref f20) = true)
    (a21 : PySem.W.nsIn K mainGlobals "_law_box" = some (some (.ref f21)))
    (l21 : K.lookup f21 = some ⟨oc21, od21, .func (PySem.W.fnOf "_law_box" "_law_box" (defArgs s__law_box) (defBody s__law_box) (defScope s__law_box) .none kV21 dc21 pm21 an21 cd21 ct21), sl21⟩)
    (c21 : PySem.W.codeIn K cd21 "_law_box" = true)
    (k21 : PySem.W.keepIn K (.ref f21) = true)
    (a22 : PySem.W.nsIn K mainGlobals "_law_take" = some (some (.ref f22)))
    (l22 : K.lookup f22 = some ⟨oc22, od22, .func (PySem.W.fnOf "_law_take" "_law_take" (defArgs s__law_take) (defBody s__law_take) (defScope s__law_take) .none kV22 dc22 pm22 an22 cd22 ct22), sl22⟩)
    (c22 : PySem.W.codeIn K cd22 "_law_take" = true)
    (k22 : PySem.W.keepIn K (.ref f22) = true)
    (a23 : PySem.W.nsIn K mainGlobals "_law_shared" = some (some (.ref f23)))
    (l23 : K.lookup f23 = some ⟨oc23, od23, .func (PySem.W.fnOf "_law_shared" "_law_shared" (defArgs s__law_shared) (defBody s__law_shared) (defScope s__law_shared) .none kV23 dc23 pm23 an23 cd23 ct23), sl23⟩)
    (c23 : PySem.W.codeIn K cd23 "_law_shared" = true)
    (k23 : PySem.W.keepIn K (.ref f23) = true)
    (a24 : PySem.W.nsIn K mainGlobals "_law_low" = some (some (.ref f24)))
    (l24 : K.lookup f24 = some ⟨oc24, od24, .func (PySem.W.fnOf "_law_low" "_law_low" (defArgs s__law_low) (defBody s__law_low) (defScope s__law_low) .none kV24 dc24 pm24 an24 cd24 ct24), sl24⟩)
    (c24 : PySem.W.codeIn K cd24 "_law_low" = true)
    (k24 : PySem.W.keepIn K (.ref f24) = true)
    (a25 : PySem.W.nsIn K mainGlobals "_law_top" = some (some (.ref f25)))
    (l25 : K.lookup f25 = some ⟨oc25, od25, .func (PySem.W.fnOf "_law_top" "_law_top" (defArgs s__law_top) (defBody s__law_top) (defScope s__law_top) .none kV25 dc25 pm25 an25 cd25 ct25), sl25⟩)
    (c25 : PySem.W.codeIn K cd25 "_law_top" = true)
    (k25 : PySem.W.keepIn K (.ref f25) = true)
    (a26 : PySem.W.nsIn K mainGlobals "_law_bottom" = some (some (.ref f26)))
    (l26 : K.lookup f26 = some ⟨oc26, od26, .func (PySem.W.fnOf "_law_bottom" "_law_bottom" (defArgs s__law_bottom) (defBody s__law_bottom) (defScope s__law_bottom) .none kV26 dc26 pm26 an26 cd26 ct26), sl26⟩)
    (c26 : PySem.W.codeIn K cd26 "_law_bottom" = true)
    (k26 : PySem.W.keepIn K (.ref f26) = true)
    (a27 : PySem.W.nsIn K mainGlobals "_law_numbers" = some (some (.ref f27)))
    (l27 : K.lookup f27 = some ⟨oc27, od27, .func (PySem.W.fnOf "_law_numbers" "_law_numbers" (defArgs s__law_numbers) (defBody s__law_numbers) (defScope s__law_numbers) .none kV27 dc27 pm27 an27 cd27 ct27), sl27⟩)
    (c27 : PySem.W.codeIn K cd27 "_law_numbers" = true)
    (k27 : PySem.W.keepIn K (.ref f27) = true)
    (a28 : PySem.W.nsIn K mainGlobals "_law_made" = some (some (.ref f28)))
    (l28 : K.lookup f28 = some ⟨oc28, od28, .func (PySem.W.fnOf "_law_made" "_law_made" (defArgs s__law_made) (defBody s__law_made) (defScope s__law_made) .none kV28 dc28 pm28 an28 cd28 ct28), sl28⟩)
    (c28 : PySem.W.codeIn K cd28 "_law_made" = true)
    (k28 : PySem.W.keepIn K (.ref f28) = true)
    (a29 : PySem.W.nsIn K mainGlobals "_law_worth" = some (some (.ref f29)))
    (l29 : K.lookup f29 = some ⟨oc29, od29, .func (PySem.W.fnOf "_law_worth" "_law_worth" (defArgs s__law_worth) (defBody s__law_worth) (defScope s__law_worth) .none kV29 dc29 pm29 an29 cd29 ct29), sl29⟩)
    (c29 : PySem.W.codeIn K cd29 "_law_worth" = true)
    (k29 : PySem.W.keepIn K (.ref f29) = true)
    (a30 : PySem.W.nsIn K mainGlobals "_law_is" = some (some (.ref f30)))
    (l30 : K.lookup f30 = some ⟨oc30, od30, .func (PySem.W.fnOf "_law_is" "_law_is" (defArgs s__law_is) (defBody s__law_is) (defScope s__law_is) .none kV30 dc30 pm30 an30 cd30 ct30), sl30⟩)
    (c30 : PySem.W.codeIn K cd30 "_law_is" = true)
    (k30 : PySem.W.keepIn K (.ref f30) = true)
    (a31 : PySem.W.nsIn K mainGlobals "_law_says" = some (some (.ref f31)))
    (l31 : K.lookup f31 = some ⟨oc31, od31, .func (PySem.W.fnOf "_law_says" "_law_says" (defArgs s__law_says) (defBody s__law_says) (defScope s__law_says) .none kV31 dc31 pm31 an31 cd31 ct31), sl31⟩)
    (c31 : PySem.W.codeIn K cd31 "_law_says" = true)
    (k31 : PySem.W.keepIn K (.ref f31) = true)
    (a32 : PySem.W.nsIn K mainGlobals "_law_line" = some (some (.ref f32)))
    (l32 : K.lookup f32 = some ⟨oc32, od32, .func (PySem.W.fnOf "_law_line" "_law_line" (defArgs s__law_line) (defBody s__law_line) (defScope s__law_line) .none kV32 dc32 pm32 an32 cd32 ct32), sl32⟩)
    (c32 : PySem.W.codeIn K cd32 "_law_line" = true)
    (k32 : PySem.W.keepIn K (.ref f32) = true)
    (a33 : PySem.W.nsIn K mainGlobals "_law_two_right" = some (some (.ref f33)))
    (l33 : K.lookup f33 = some ⟨oc33, od33, .func (PySem.W.fnOf "_law_two_right" "_law_two_right" (defArgs s__law_two_right) (defBody s__law_two_right) (defScope s__law_two_right) .none kV33 dc33 pm33 an33 cd33 ct33), sl33⟩)
    (c33 : PySem.W.codeIn K cd33 "_law_two_right" = true)
    (k33 : PySem.W.keepIn K (.ref f33) = true)
    (a34 : PySem.W.nsIn K mainGlobals "_law_alone_right" = some (some (.ref f34)))
    (l34 : K.lookup f34 = some ⟨oc34, od34, .func (PySem.W.fnOf "_law_alone_right" "_law_alone_right" (defArgs s__law_alone_right) (defBody s__law_alone_right) (defScope s__law_alone_right) .none kV34 dc34 pm34 an34 cd34 ct34), sl34⟩)
    (c34 : PySem.W.codeIn K cd34 "_law_alone_right" = true)
    (k34 : PySem.W.keepIn K (.ref f34) = true)
    (a35 : PySem.W.nsIn K mainGlobals "_law_lists_right" = some (some (.ref f35)))
    (l35 : K.lookup f35 = some ⟨oc35, od35, .func (PySem.W.fnOf "_law_lists_right" "_law_lists_right" (defArgs s__law_lists_right) (defBody s__law_lists_right) (defScope s__law_lists_right) .none kV35 dc35 pm35 an35 cd35 ct35), sl35⟩)
    (c35 : PySem.W.codeIn K cd35 "_law_lists_right" = true)
    (k35 : PySem.W.keepIn K (.ref f35) = true)
    (a36 : PySem.W.nsIn K mainGlobals "_law_met" = some (some (.ref f36)))
    (l36 : K.lookup f36 = some ⟨oc36, od36, .func (PySem.W.fnOf "_law_met" "_law_met" (defArgs s__law_met) (defBody s__law_met) (defScope s__law_met) .none kV36 dc36 pm36 an36 cd36 ct36), sl36⟩)
    (c36 : PySem.W.codeIn K cd36 "_law_met" = true)
    (k36 : PySem.W.keepIn K (.ref f36) = true)
    (a37 : PySem.W.nsIn K mainGlobals "_law_refused_right" = some (some (.ref f37)))
    (l37 : K.lookup f37 = some ⟨oc37, od37, .func (PySem.W.fnOf "_law_refused_right" "_law_refused_right" (defArgs s__law_refused_right) (defBody s__law_refused_right) (defScope s__law_refused_right) .none kV37 dc37 pm37 an37 cd37 ct37), sl37⟩)
    (c37 : PySem.W.codeIn K cd37 "_law_refused_right" = true)
    (k37 : PySem.W.keepIn K (.ref f37) = true)
    (a38 : PySem.W.nsIn K mainGlobals "_law_bad_lines" = some (some (.ref f38)))
    (l38 : K.lookup f38 = some ⟨oc38, od38, .func (PySem.W.fnOf "_law_bad_lines" "_law_bad_lines" (defArgs s__law_bad_lines) (defBody s__law_bad_lines) (defScope s__law_bad_lines) .none kV38 dc38 pm38 an38 cd38 ct38), sl38⟩)
    (c38 : PySem.W.codeIn K cd38 "_law_bad_lines" = true)
    (k38 : PySem.W.keepIn K (.ref f38) = true)
    (a39 : PySem.W.nsIn K mainGlobals "_law_lines_right" = some (some (.ref f39)))
    (l39 : K.lookup f39 = some ⟨oc39, od39, .func (PySem.W.fnOf "_law_lines_right" "_law_lines_right" (defArgs s__law_lines_right) (defBody s__law_lines_right) (defScope s__law_lines_right) .none kV39 dc39 pm39 an39 cd39 ct39), sl39⟩)
    (c39 : PySem.W.codeIn K cd39 "_law_lines_right" = true)
    (k39 : PySem.W.keepIn K (.ref f39) = true)
    (a40 : PySem.W.nsIn K mainGlobals "_law_right" = some (some (.ref f40)))
    (l40 : K.lookup f40 = some ⟨oc40, od40, .func (PySem.W.fnOf "_law_right" "_law_right" (defArgs s__law_right) (defBody s__law_right) (defScope s__law_right) .none kV40 dc40 pm40 an40 cd40 ct40), sl40⟩)
    (c40 : PySem.W.codeIn K cd40 "_law_right" = true)
    (k40 : PySem.W.keepIn K (.ref f40) = true)
    (a41 : PySem.W.nsIn K mainGlobals "law" = some (some (.ref f41)))
    (l41 : K.lookup f41 = some ⟨oc41, od41, .func (PySem.W.fnOf "law" "law" (defArgs s_law) (defBody s_law) (defScope s_law) .none kV41 dc41 pm41 an41 cd41 ct41), sl41⟩)
    (c41 : PySem.W.codeIn K cd41 "law" = true)
    (k41 : PySem.W.keepIn K (.ref f41) = true)
    (ai : PySem.W.findIn K (.ref C) "__init__" = some (some (.ref fi)))
    (ii : PySem.W.isFn K (.ref fi) = true)
    (li : K.lookup fi = some ⟨oci, odi, .func (PySem.W.fnOf "__init__" "Ratio.__init__" (defArgs s_Ratio___init__) (defBody s_Ratio___init__) (defScope s_Ratio___init__) (.ref dt) kVi dci pmi ani cdi cti), sli⟩)
    (ci : PySem.W.codeIn K cdi "Ratio.__init__" = true)
    (ld : K.lookup dt = some ⟨ocd, odd, .seq #[.int 1 tkd] md, sld⟩)
    (pg : PySem.W.plainGet K C Str.empty = true)
    (hd : PySem.W.hasDictIn K C = true)
    (po : PySem.W.plainOver K C = true)
    (sa : PySem.W.findIn K (.ref C) "__setattr__" = some (some (.builtin "object.__setattr__")))
    (mk : PySem.W.makesIn K C = true)
    (kc : PySem.W.keepIn K (.ref C) = true)
    (nT : PySem.W.findIn K (.ref C) "top" = some none)
    (nB : PySem.W.findIn K (.ref C) "bottom" = some none)
    (ha : PySem.W.findIn K (.ref C) "__class__" = some (some (.builtin "object.__class__")))
    (hn : PySem.W.specialIn K (.builtin "object.__class__") "__get__" = some (some (.builtin "getset_descriptor.__get__")))
    (ht : PySem.W.takesIn K (.builtin "object.__class__") = some true)
    (hm : PySem.W.mroIn K C (.type "object") = some true)
    (qN : PySem.W.kitOne K (.type "NoneType") (.ref C) = some false)
    (qL : PySem.W.kitOne K (.type "list") (.ref C) = some false)
    (qT : PySem.W.kitOne K (.type "tuple") (.ref C) = some false)
    (qS : PySem.W.kitOne K (.type "str") (.ref C) = some false)
    (qI : PySem.W.kitOne K (.type "int") (.ref C) = some false)
    (qB : PySem.W.kitOne K (.type "bool") (.ref C) = some false)
    (qD : PySem.W.kitOne K (.type "dict") (.ref C) = some false)
    (rI : PySem.W.kitOne K (.ref C) (.type "int") = some false)
    (rB : PySem.W.kitOne K (.ref C) (.type "bool") = some false)
    (rS : PySem.W.kitOne K (.ref C) (.type "str") = some false)
    (uN : PySem.W.subIn K (.type "NoneType") (.ref C) = some false)
    (uL : PySem.W.subIn K (.type "list") (.ref C) = some false)
    (uT : PySem.W.subIn K (.type "tuple") (.ref C) = some false)
    (uS : PySem.W.subIn K (.type "str") (.ref C) = some false)
    (uI : PySem.W.subIn K (.type "int") (.ref C) = some false)
    (uB : PySem.W.subIn K (.type "bool") (.ref C) = some false)
    (uD : PySem.W.subIn K (.type "dict") (.ref C) = some false)
    (sf : PySem.W.selfFirst K C = true)
    (ci2 : PySem.W.subIn K (.ref C) (.type "int") = some false)
    (so : PySem.W.subIn K (.ref C) (.type "object") = some true)
    (ne : PySem.W.findIn K (.ref C) "__ne__" = some (some (.builtin "object.__ne__")))
    (ja_add : PySem.W.findIn K (.type "int") "__add__" = some jaadd)
    (jr_add : PySem.W.findIn K (.type "int") "__radd__" = some jradd)
    (ja_sub : PySem.W.findIn K (.type "int") "__sub__" = some jasub)
    (jr_sub : PySem.W.findIn K (.type "int") "__rsub__" = some jrsub)
    (ja_mul : PySem.W.findIn K (.type "int") "__mul__" = some jamul)
    (jr_mul : PySem.W.findIn K (.type "int") "__rmul__" = some jrmul)
    (z_isinstance : PySem.W.nsIn K mainGlobals "isinstance" = some none)
    (z_int : PySem.W.nsIn K mainGlobals "int" = some none)
    (z_bool : PySem.W.nsIn K mainGlobals "bool" = some none)
    (z_str : PySem.W.nsIn K mainGlobals "str" = some none)
    (z_list : PySem.W.nsIn K mainGlobals "list" = some none)
    (z_tuple : PySem.W.nsIn K mainGlobals "tuple" = some none)
    (z_len : PySem.W.nsIn K mainGlobals "len" = some none)
    (z_abs : PySem.W.nsIn K mainGlobals "abs" = some none)
    (z_max : PySem.W.nsIn K mainGlobals "max" = some none)
    (z_min : PySem.W.nsIn K mainGlobals "min" = some none)
    (z_sum : PySem.W.nsIn K mainGlobals "sum" = some none)
    (z_repr : PySem.W.nsIn K mainGlobals "repr" = some none)
    (z_range : PySem.W.nsIn K mainGlobals "range" = some none)
    (zq : PySem.W.excIn K cz [.type "ValueError", .type "Exception", .type "BaseException", .type "object"] "ValueError.__new__" = true)
    (zk : PySem.W.keepIn K (.ref cz) = true)
    (ze : PySem.W.subIn K (.ref cz) (.type "BaseException") = some true)
    (zt : PySem.W.typeIn K (.ref cz) = some (.type "type"))
    (zi : PySem.W.isClsIn K cz = true)
    (xg0 : PySem.W.nsIn K mainGlobals "InvalidNumber" = some (some (.ref e0)))
    (xl0 : K.lookup e0 = some (excClassObj xnm0 xq0 e0 xN0 xbs0 [.ref cE, .type "ValueError", .type "Exception", .type "BaseException", .type "object"] true xsn0 xsub0 xab0 xcol0 xdd0 xa0 xb0 xc0 xd0 xe0 "ValueError.__new__"))
    (xs0 : PySem.W.findIn K (.ref e0) "__setattr__" = some (some (.builtin "object.__setattr__")))
    (xga0 : PySem.W.findIn K (.ref e0) "__getattribute__" = some (some (.builtin "BaseException.__getattribute__")))
    (xgg0 : PySem.W.findIn K (.ref e0) "__getattr__" = some none)
    (xn0 : PySem.W.findIn K (.ref e0) "given" = some none)
    (xi0 : PySem.W.findIn K (.ref e0) "__init__" = some (some (.ref xf0)))
    (xt0 : PySem.W.typeIn K (.ref xf0) = some (.type "function"))
    (xfl0 : K.lookup xf0 = some ⟨xoc0, xod0, .func (PySem.W.fnOf "__init__" "InvalidNumber.__init__" (defArgs s_InvalidNumber___init__) (defBody s_InvalidNumber___init__) (defScope s_InvalidNumber___init__) .none xkV0 xdc0 xpm0 xan0 xcd0 xct0), xsl0⟩)
    (xfc0 : PySem.W.codeIn K xcd0 "InvalidNumber.__init__" = true)
    (xfk0 : PySem.W.keepIn K (.ref xf0) = true)
    (xk0 : PySem.W.keepIn K (.ref e0) = true)
    (xe_0 : PySem.W.subIn K (.ref e0) (.type "BaseException") = some true)
    (xty0 : PySem.W.typeIn K (.ref e0) = some (.type "type"))
    (xh0 : PySem.W.hasDictIn K e0 = true)
    (xis0 : PySem.W.isClsIn K e0 = true)
    (xg1 : PySem.W.nsIn K mainGlobals "InvalidLine" = some (some (.ref e1)))
    (xl1 : K.lookup e1 = some (excClassObj xnm1 xq1 e1 xN1 xbs1 [.ref cE, .type "ValueError", .type "Exception", .type "BaseException", .type "object"] true xsn1 xsub1 xab1 xcol1 xdd1 xa1 xb1 xc1 xd1 xe1 "ValueError.__new__"))
    (xs1 : PySem.W.findIn K (.ref e1) "__setattr__" = some (some (.builtin "object.__setattr__")))
    (xga1 : PySem.W.findIn K (.ref e1) "__getattribute__" = some (some (.builtin "BaseException.__getattribute__")))
    (xgg1 : PySem.W.findIn K (.ref e1) "__getattr__" = some none)
    (xn1 : PySem.W.findIn K (.ref e1) "given" = some none)
    (xi1 : PySem.W.findIn K (.ref e1) "__init__" = some (some (.ref xf1)))
    (xt1 : PySem.W.typeIn K (.ref xf1) = some (.type "function"))
    (xfl1 : K.lookup xf1 = some ⟨xoc1, xod1, .func (PySem.W.fnOf "__init__" "InvalidLine.__init__" (defArgs s_InvalidLine___init__) (defBody s_InvalidLine___init__) (defScope s_InvalidLine___init__) .none xkV1 xdc1 xpm1 xan1 xcd1 xct1), xsl1⟩)
    (xfc1 : PySem.W.codeIn K xcd1 "InvalidLine.__init__" = true)
    (xfk1 : PySem.W.keepIn K (.ref xf1) = true)
    (xk1 : PySem.W.keepIn K (.ref e1) = true)
    (xe_1 : PySem.W.subIn K (.ref e1) (.type "BaseException") = some true)
    (xty1 : PySem.W.typeIn K (.ref e1) = some (.type "type"))
    (xh1 : PySem.W.hasDictIn K e1 = true)
    (xis1 : PySem.W.isClsIn K e1 = true)
    (xs_e0e0 : PySem.W.subIn K (.ref e0) (.ref e0) = some true)
    (xs_cze0 : PySem.W.subIn K (.ref cz) (.ref e0) = some false)
    (xs_czcz : PySem.W.subIn K (.ref cz) (.ref cz) = some true)
    (xs_e1e0 : PySem.W.subIn K (.ref e1) (.ref e0) = some false)
    (xs_e1cz : PySem.W.subIn K (.ref e1) (.ref cz) = some false)
    (xs_e1e1 : PySem.W.subIn K (.ref e1) (.ref e1) = some true)
    : ∃ fd : FuncData, (∀ (s : Shared) (v : Value), BindsTo s fd ⟨[v], []⟩ [("script", v)]) ∧ ∀ base : Heap, K.In base → base.Ns mainGlobals mg → ModsD base → FnG l.prog w K mg base CX0 10 fa fd ["script"] (spLaw K) := by
  have e := hfa.symm.trans (PySem.W.mg_of X G a41)
  cases e
  have xZ : Exc0 K cz := ⟨zq, zk, ze, zt⟩
  have Z : Zs K mg C cz := ⟨PySem.W.mg_none_of X G z_isinstance, PySem.W.mg_none_of X G z_int, PySem.W.mg_none_of X G z_bool, PySem.W.mg_none_of X G z_str, PySem.W.mg_none_of X G z_list, PySem.W.mg_none_of X G z_tuple, PySem.W.mg_none_of X G z_len, PySem.W.mg_none_of X G z_abs, PySem.W.mg_none_of X G z_max, PySem.W.mg_none_of X G z_min, PySem.W.mg_none_of X G z_sum, PySem.W.mg_none_of X G z_repr, PySem.W.mg_none_of X G z_range, PySem.W.mg_of X G aG, PySem.W.mg_of X G aL, PySem.W.mg_of X G aC, PySem.W.mg_of X G aZ, xZ⟩
  have nf : ∀ t, Kind C t → PySem.W.notFirst K C t = true := by
    intro t kd
    cases kd <;> simp [PySem.W.notFirst, uN, uL, uT, uS, uI, uB, uD]
  have S : Sc K C := { cl := ⟨pg, hd, po, sa⟩, nT := nT, nB := nB, ha := ha, hn := hn, ht := ht, hm := hm, kC := by simp [PySem.W.kitOne], kN := qN, kL := qL, kT := qT, kS := qS, kI := qI, kB := qB, kD := qD, cI := rI, cB := rB, cS := rS, nf := nf }
  have T0 : OexC K e0 := ⟨⟨_, _, _, _, _, _, _, _, _, _, _, _, _, _, _, xl0, (show PySem.HandSPX.refsVE [.type "ValueError", .type "Exception", .type "BaseException", .type "object"] = true by decide +kernel)⟩, xs0, xe_0, xty0, xk0⟩
  have U0 : XfC K e0 := ⟨xga0, xgg0, xe_0, xh0⟩
  have T1 : OexC K e1 := ⟨⟨_, _, _, _, _, _, _, _, _, _, _, _, _, _, _, xl1, (show PySem.HandSPX.refsVE [.type "ValueError", .type "Exception", .type "BaseException", .type "object"] = true by decide +kernel)⟩, xs1, xe_1, xty1, xk1⟩
  have U1 : XfC K e1 := ⟨xga1, xgg1, xe_1, xh1⟩
  have Rr : Errs K mg e0 e1 cz := { gN := PySem.W.mg_of X G xg0, gZ := PySem.W.mg_of X G aZ, gL := PySem.W.mg_of X G xg1, xN := U0, xL := U1, nN := xn0, nL := xn1, eNN := exm_of xe_0 xis0 xty0 xs_e0e0, eZN := exm_of xe_0 xis0 xty0 xs_cze0, eZZ := exm_of ze zi zt xs_czcz, eLN := exm_of xe_0 xis0 xty0 xs_e1e0, eLZ := exm_of ze zi zt xs_e1cz, eLL := exm_of xe_1 xis1 xty1 xs_e1e1 }
  have F0 := mk_fun (st := s_is_integer) l0 c0 k0
  have b0 := F0.binds (ps := ["value"]) fun _ _ _ _ _ _ us hl => match us, hl with | [_], _ => rfl
  have F1 := mk_fun (st := s_is_digits) l1 c1 k1
  have b1 := F1.binds (ps := ["word"]) fun _ _ _ _ _ _ us hl => match us, hl with | [_], _ => rfl
  have F2 := mk_fun (st := s_Ratio___eq__) l2 c2 k2
  have b2 := F2.binds (ps := ["self", "other"]) fun _ _ _ _ _ _ us hl => match us, hl with | [_, _], _ => rfl
  have F3 := mk_fun (st := s_Ratio___str__) l3 c3 k3
  have b3 := F3.binds (ps := ["self"]) fun _ _ _ _ _ _ us hl => match us, hl with | [_], _ => rfl
  have F4 := mk_fun (st := s_Ratio___neg__) l4 c4 k4
  have b4 := F4.binds (ps := ["self"]) fun _ _ _ _ _ _ us hl => match us, hl with | [_], _ => rfl
  have F5 := mk_fun (st := s_Ratio___add__) l5 c5 k5
  have b5 := F5.binds (ps := ["self", "other"]) fun _ _ _ _ _ _ us hl => match us, hl with | [_, _], _ => rfl
  have F6 := mk_fun (st := s_Ratio___radd__) l6 c6 k6
  have b6 := F6.binds (ps := ["self", "other"]) fun _ _ _ _ _ _ us hl => match us, hl with | [_, _], _ => rfl
  have F7 := mk_fun (st := s_Ratio___sub__) l7 c7 k7
  have b7 := F7.binds (ps := ["self", "other"]) fun _ _ _ _ _ _ us hl => match us, hl with | [_, _], _ => rfl
  have F8 := mk_fun (st := s_Ratio___rsub__) l8 c8 k8
  have b8 := F8.binds (ps := ["self", "other"]) fun _ _ _ _ _ _ us hl => match us, hl with | [_, _], _ => rfl
  have F9 := mk_fun (st := s_Ratio___mul__) l9 c9 k9
  have b9 := F9.binds (ps := ["self", "other"]) fun _ _ _ _ _ _ us hl => match us, hl with | [_, _], _ => rfl
  have F10 := mk_fun (st := s_Ratio___rmul__) l10 c10 k10
  have b10 := F10.binds (ps := ["self", "other"]) fun _ _ _ _ _ _ us hl => match us, hl with | [_, _], _ => rfl
  have F11 := mk_fun (st := s_Ratio_over) l11 c11 k11
  have b11 := F11.binds (ps := ["self", "number"]) fun _ _ _ _ _ _ us hl => match us, hl with | [_, _], _ => rfl
  have F12 := mk_fun (st := s_Ratio_below) l12 c12 k12
  have b12 := F12.binds (ps := ["self", "number"]) fun _ _ _ _ _ _ us hl => match us, hl with | [_, _], _ => rfl
  have F13 := mk_fun (st := s_is_number) l13 c13 k13
  have b13 := F13.binds (ps := ["value"]) fun _ _ _ _ _ _ us hl => match us, hl with | [_], _ => rfl
  have F14 := mk_fun (st := s_as_ratio) l14 c14 k14
  have b14 := F14.binds (ps := ["value"]) fun _ _ _ _ _ _ us hl => match us, hl with | [_], _ => rfl
  have F15 := mk_fun (st := s_read_number) l15 c15 k15
  have b15 := F15.binds (ps := ["line"]) fun _ _ _ _ _ _ us hl => match us, hl with | [_], _ => rfl
  have F16 := mk_fun (st := s_on_one_bottom) l16 c16 k16
  have b16 := F16.binds (ps := ["numbers"]) fun _ _ _ _ _ _ us hl => match us, hl with | [_], _ => rfl
  have F17 := mk_fun (st := s_total) l17 c17 k17
  have b17 := F17.binds (ps := ["numbers"]) fun _ _ _ _ _ _ us hl => match us, hl with | [_], _ => rfl
  have F18 := mk_fun (st := s_greatest) l18 c18 k18
  have b18 := F18.binds (ps := ["numbers"]) fun _ _ _ _ _ _ us hl => match us, hl with | [_], _ => rfl
  have F19 := mk_fun (st := s_smallest) l19 c19 k19
  have b19 := F19.binds (ps := ["numbers"]) fun _ _ _ _ _ _ us hl => match us, hl with | [_], _ => rfl
  have F20 := mk_fun (st := s__law_cell) l20 c20 k20
  have b20 := F20.binds (ps := ["script", "k"]) fun _ _ _ _ _ _ us hl => match us, hl with | [_, _], _ => rfl
  have F21 := mk_fun (st := s__law_box) l21 c21 k21
  have b21 := F21.binds (ps := ["great"]) fun _ _ _ _ _ _ us hl => match us, hl with | [_], _ => rfl
  have F22 := mk_fun (st := s__law_take) l22 c22 k22
  have b22 := F22.binds (ps := ["box", "many"]) fun _ _ _ _ _ _ us hl => match us, hl with | [_, _], _ => rfl
  have F23 := mk_fun (st := s__law_shared) l23 c23 k23
  have b23 := F23.binds (ps := ["one", "other"]) fun _ _ _ _ _ _ us hl => match us, hl with | [_, _], _ => rfl
  have F24 := mk_fun (st := s__law_low) l24 c24 k24
  have b24 := F24.binds (ps := ["top", "bottom"]) fun _ _ _ _ _ _ us hl => match us, hl with | [_, _], _ => rfl
  have F25 := mk_fun (st := s__law_top) l25 c25 k25
  have b25 := F25.binds (ps := ["box"]) fun _ _ _ _ _ _ us hl => match us, hl with | [_], _ => rfl
  have F26 := mk_fun (st := s__law_bottom) l26 c26 k26
  have b26 := F26.binds (ps := ["box"]) fun _ _ _ _ _ _ us hl => match us, hl with | [_], _ => rfl
  have F27 := mk_fun (st := s__law_numbers) l27 c27 k27
  have b27 := F27.binds (ps := ["box"]) fun _ _ _ _ _ _ us hl => match us, hl with | [_], _ => rfl
  have F28 := mk_fun (st := s__law_made) l28 c28 k28
  have b28 := F28.binds (ps := ["pair"]) fun _ _ _ _ _ _ us hl => match us, hl with | [_], _ => rfl
  have F29 := mk_fun (st := s__law_worth) l29 c29 k29
  have b29 := F29.binds (ps := ["pair"]) fun _ _ _ _ _ _ us hl => match us, hl with | [_], _ => rfl
  have F30 := mk_fun (st := s__law_is) l30 c30 k30
  have b30 := F30.binds (ps := ["ratio", "pair"]) fun _ _ _ _ _ _ us hl => match us, hl with | [_, _], _ => rfl
  have F31 := mk_fun (st := s__law_says) l31 c31 k31
  have b31 := F31.binds (ps := ["value", "due"]) fun _ _ _ _ _ _ us hl => match us, hl with | [_, _], _ => rfl
  have F32 := mk_fun (st := s__law_line) l32 c32 k32
  have b32 := F32.binds (ps := ["pair"]) fun _ _ _ _ _ _ us hl => match us, hl with | [_], _ => rfl
  have F33 := mk_fun (st := s__law_two_right) l33 c33 k33
  have b33 := F33.binds (ps := ["one", "other"]) fun _ _ _ _ _ _ us hl => match us, hl with | [_, _], _ => rfl
  have F34 := mk_fun (st := s__law_alone_right) l34 c34 k34
  have b34 := F34.binds (ps := ["box", "pair"]) fun _ _ _ _ _ _ us hl => match us, hl with | [_, _], _ => rfl
  have F35 := mk_fun (st := s__law_lists_right) l35 c35 k35
  have b35 := F35.binds (ps := ["box", "pairs"]) fun _ _ _ _ _ _ us hl => match us, hl with | [_, _], _ => rfl
  have F36 := mk_fun (st := s__law_met) l36 c36 k36
  have b36 := F36.binds (ps := ["way", "one", "other"]) fun _ _ _ _ _ _ us hl => match us, hl with | [_, _, _], _ => rfl
  have F37 := mk_fun (st := s__law_refused_right) l37 c37 k37
  have b37 := F37.binds (ps := ["box", "pair"]) fun _ _ _ _ _ _ us hl => match us, hl with | [_, _], _ => rfl
  have F38 := mk_fun (st := s__law_bad_lines) l38 c38 k38
  have b38 := F38.binds (ps := ["box", "pair"]) fun _ _ _ _ _ _ us hl => match us, hl with | [_, _], _ => rfl
  have F39 := mk_fun (st := s__law_lines_right) l39 c39 k39
  have b39 := F39.binds (ps := ["box", "pair"]) fun _ _ _ _ _ _ us hl => match us, hl with | [_, _], _ => rfl
  have F40 := mk_fun (st := s__law_right) l40 c40 k40
  have b40 := F40.binds (ps := ["box"]) fun _ _ _ _ _ _ us hl => match us, hl with | [_], _ => rfl
  have F41 := mk_fun (st := s_law) l41 c41 k41
  have b41 := F41.binds (ps := ["script"]) fun _ _ _ _ _ _ us hl => match us, hl with | [_], _ => rfl
  have XF0 := mk_fun (st := s_InvalidNumber___init__) xfl0 xfc0 xfk0
  have xb_0 := XF0.binds (ps := ["self", "given"]) fun _ _ _ _ _ _ us hl => match us, hl with | [_, _], _ => rfl
  have XF1 := mk_fun (st := s_InvalidLine___init__) xfl1 xfc1 xfk1
  have xb_1 := XF1.binds (ps := ["self", "given"]) fun _ _ _ _ _ _ us hl => match us, hl with | [_, _], _ => rfl
  have FI : FunV K "__init__" "Ratio.__init__" s_Ratio___init__ fi _ := ⟨⟨_, _, _, _, _, _, _, _, _, _, rfl, li, ci⟩⟩
  refine ⟨PySem.W.fnOf "law" "law" (defArgs s_law) (defBody s_law) (defScope s_law) .none kV41 dc41 pm41 an41 cd41 ct41, fun s v => .of_eq rfl, fun base _ _ hM => ?_⟩
  have d_InvalidNumber : ErrD l.prog w K mg base "InvalidNumber" e0 := ⟨_, _, PySem.W.mg_of X G xg0, T0, xi0, xt0, xn0, ok_InvalidNumber XF0 T0 xn0, xb_0⟩
  have d_InvalidLine : ErrD l.prog w K mg base "InvalidLine" e1 := ⟨_, _, PySem.W.mg_of X G xg1, T1, xi1, xt1, xn1, ok_InvalidLine XF1 T1 xn1, xb_1⟩
  have g0 : FnG l.prog w K mg base CX0 1 f0 _ _ (spIsInt C K) := ok_is_integer F0 Z S
  have d_is_integer : DefD l.prog w K mg base 1 "is_integer" 1 [] byPlace (spIsInt C K) := ⟨_, _, _, _, PySem.W.mg_of X G a0, k0, g0, kbn_place b0 1 rfl⟩
  have g1 : FnG l.prog w K mg base CX0 1 f1 _ _ spIsDigits := ok_is_digits F1
  have d_is_digits : DefD l.prog w K mg base 1 "is_digits" 1 [] byPlace spIsDigits := ⟨_, _, _, _, PySem.W.mg_of X G a1, k1, g1, kbn_place b1 1 rfl⟩
  have g13 : FnG l.prog w K mg base CX0 2 f13 _ _ (spIsNum C K) := ok_is_number F13 Z S d_is_integer
  have d_is_number : DefD l.prog w K mg base 2 "is_number" 1 [] byPlace (spIsNum C K) := ⟨_, _, _, _, PySem.W.mg_of X G a13, k13, g13, kbn_place b13 1 rfl⟩
  have d_is_number_value : DefD l.prog w K mg base 2 "is_number" 0 ["value"] byBoth (spIsNum C K) := ⟨_, _, _, _, PySem.W.mg_of X G a13, k13, g13, Fun_kbn F13 (ps := ["value"]) 0 ["value"] (fun us ws => us ++ ws) byBoth (fun r s => Vals.append r s) fun _ _ _ _ _ _ us ws h1 h2 => match us, ws, h1, h2 with | [], [_], _, _ => rfl⟩
  have gi : FnG l.prog w K mg base (L2.CX l.prog w) 3 fi _ _ (spRatI C e0 cz K) := ok_init FI Z S d_is_integer d_InvalidNumber
  have M : Mk K C fi := ⟨mk, ai, ii, kc⟩
  have k_Ratio : MakX l.prog w K mg base 3 "Ratio" C 2 [] byPlace (spRatI C e0 cz K) := ⟨_, _, _, _, PySem.W.mg_of X G aC, M, gi, init_kbn ld rfl 3 [] (fun us _ => us) byPlace (fun r _ => r) fun us ws h1 h2 => match us, ws, h1, h2 with | [_, _, _], [], _, _ => ⟨_, rfl, rfl⟩⟩
  have k_Ratio1 : MakX l.prog w K mg base 3 "Ratio" C 1 [] def1 (spRatI C e0 cz K) := ⟨_, _, _, _, PySem.W.mg_of X G aC, M, gi, init_kbn ld rfl 2 [] (fun us _ => us ++ [.int 1 tkd]) def1 (fun r _ => Vals.append r (.cons ⟨_, rfl⟩ .nil)) fun us ws h1 h2 => match us, ws, h1, h2 with | [_, _], [], _, _ => ⟨_, rfl, rfl⟩⟩
  have k_Ratio_bottom_top : MakX l.prog w K mg base 3 "Ratio" C 0 ["bottom", "top"] botTop (spRatI C e0 cz K) := ⟨_, _, _, _, PySem.W.mg_of X G aC, M, gi, init_kbn ld rfl 1 ["bottom", "top"] (fun us ws => us ++ ws.reverse) botTop (fun r s => Vals.append r (vals_rev s)) fun us ws h1 h2 => match us, ws, h1, h2 with | [_], [_, _], _, _ => ⟨_, rfl, rfl⟩⟩
  have g14 : FnG l.prog w K mg base (L2.CX l.prog w) 5 f14 _ _ (spAsRat C e0 K) := ok_as_ratio F14 Z S k_Ratio1
  have d_as_ratio : DefX l.prog w K mg base 5 "as_ratio" 1 [] byPlace (spAsRat C e0 K) := ⟨_, _, _, _, PySem.W.mg_of X G a14, k14, g14, kbn_place b14 1 rfl⟩
  have d_as_ratio_value : DefX l.prog w K mg base 5 "as_ratio" 0 ["value"] byBoth (spAsRat C e0 K) := ⟨_, _, _, _, PySem.W.mg_of X G a14, k14, g14, Fun_kbn F14 (ps := ["value"]) 0 ["value"] (fun us ws => us ++ ws) byBoth (fun r s => Vals.append r s) fun _ _ _ _ _ _ us ws h1 h2 => match us, ws, h1, h2 with | [], [_], _, _ => rfl⟩
  have d_eq : EqA l.prog w K mg base 6 C (spEq C K) := ⟨_, _, a2, i2, ne, so, ci2, ok_eq F2 S d_is_number d_as_ratio, b2⟩
  have d_str : StrA l.prog w K mg base 1 C (spStr C) := ⟨_, _, a3, i3, ok_str F3 Z S, b3⟩
  have d_neg : NegA l.prog w K mg base 5 C (spNeg C) := ⟨_, _, a4, i4, ok_neg F4 Z S k_Ratio, b4⟩
  have O_add : OwnOp K C .Add f5 f6 := { first := sf, at_ := by rw [show PySem.dunder (Operator.info .Add).2 = ("__add__" : Str) by decide +kernel]; exact a5, fn := i5, rat := by rw [show PySem.dunderR (Operator.info .Add).2 = ("__radd__" : Str) by decide +kernel]; exact a6, rfn := i6, ia := ⟨_, by rw [show PySem.dunder (Operator.info .Add).2 = ("__add__" : Str) by decide +kernel]; exact ja_add⟩, ir := ⟨_, by rw [show PySem.dunderR (Operator.info .Add).2 = ("__radd__" : Str) by decide +kernel]; exact jr_add⟩, ci := uI, ic := ci2 }
  have gg_add : FnG l.prog w K mg base CX0 6 f5 _ _ (spAdd C) := ok_add F5 Z S k_Ratio d_is_number d_as_ratio
  have d6_add : OpA l.prog w K mg base 6 .Add C (spAdd C) := ⟨_, _, _, O_add, gg_add, b5⟩
  have d_add : OpA l.prog w K mg base 7 .Add C (spAdd C) := ⟨_, _, _, O_add, gg_add.lift (by decide), b5⟩
  have O_sub : OwnOp K C .Sub f7 f8 := { first := sf, at_ := by rw [show PySem.dunder (Operator.info .Sub).2 = ("__sub__" : Str) by decide +kernel]; exact a7, fn := i7, rat := by rw [show PySem.dunderR (Operator.info .Sub).2 = ("__rsub__" : Str) by decide +kernel]; exact a8, rfn := i8, ia := ⟨_, by rw [show PySem.dunder (Operator.info .Sub).2 = ("__sub__" : Str) by decide +kernel]; exact ja_sub⟩, ir := ⟨_, by rw [show PySem.dunderR (Operator.info .Sub).2 = ("__rsub__" : Str) by decide +kernel]; exact jr_sub⟩, ci := uI, ic := ci2 }
  have gg_sub : FnG l.prog w K mg base CX0 6 f7 _ _ (spSub C) := ok_sub F7 Z S k_Ratio d_is_number d_as_ratio
  have d6_sub : OpA l.prog w K mg base 6 .Sub C (spSub C) := ⟨_, _, _, O_sub, gg_sub, b7⟩
  have d_sub : OpA l.prog w K mg base 7 .Sub C (spSub C) := ⟨_, _, _, O_sub, gg_sub.lift (by decide), b7⟩
  have O_mul : OwnOp K C .Mult f9 f10 := { first := sf, at_ := by rw [show PySem.dunder (Operator.info .Mult).2 = ("__mul__" : Str) by decide +kernel]; exact a9, fn := i9, rat := by rw [show PySem.dunderR (Operator.info .Mult).2 = ("__rmul__" : Str) by decide +kernel]; exact a10, rfn := i10, ia := ⟨_, by rw [show PySem.dunder (Operator.info .Mult).2 = ("__mul__" : Str) by decide +kernel]; exact ja_mul⟩, ir := ⟨_, by rw [show PySem.dunderR (Operator.info .Mult).2 = ("__rmul__" : Str) by decide +kernel]; exact jr_mul⟩, ci := uI, ic := ci2 }
  have gg_mul : FnG l.prog w K mg base CX0 6 f9 _ _ (spMul C) := ok_mul F9 Z S k_Ratio d_is_number d_as_ratio
  have d6_mul : OpA l.prog w K mg base 6 .Mult C (spMul C) := ⟨_, _, _, O_mul, gg_mul, b9⟩
  have d_mul : OpA l.prog w K mg base 7 .Mult C (spMul C) := ⟨_, _, _, O_mul, gg_mul.lift (by decide), b9⟩
  have d_radd : OpT l.prog w K mg base 7 .Add C (spAdd C) := ⟨_, _, _, O_add, ok_radd F6 d6_add, b6⟩
  have d_rsub : OpT l.prog w K mg base 7 .Sub C (spRsub C) := ⟨_, _, _, O_sub, ok_rsub F8 d6_add d_neg, b8⟩
  have d_rmul : OpT l.prog w K mg base 7 .Mult C (spMul C) := ⟨_, _, _, O_mul, ok_rmul F10 d6_mul, b10⟩
  have gm_over : FnG l.prog w K mg base (L2.CX l.prog w) 6 f11 _ _ (spOver C e0 cz K) := ok_over F11 Z S k_Ratio d_as_ratio
  have m_over : MetX l.prog w K mg base 6 C "over" 2 [] byPlace (spOver C e0 cz K) := ⟨_, _, _, _, S.cl, ⟨a11, i11, k11⟩, gm_over, kbn_place b11 2 rfl⟩
  have gm_below : FnG l.prog w K mg base (L2.CX l.prog w) 6 f12 _ _ (spBelow C e0 K) := ok_below F12 S d_as_ratio
  have m_below : MetX l.prog w K mg base 6 C "below" 2 [] byPlace (spBelow C e0 K) := ⟨_, _, _, _, S.cl, ⟨a12, i12, k12⟩, gm_below, kbn_place b12 2 rfl⟩
  have m_below_number : MetX l.prog w K mg base 6 C "below" 1 ["number"] byBoth (spBelow C e0 K) := ⟨_, _, _, _, S.cl, ⟨a12, i12, k12⟩, gm_below, Fun_kbn F12 (ps := ["self", "number"]) 1 ["number"] (fun us ws => us ++ ws) byBoth (fun r s => Vals.append r s) fun _ _ _ _ _ _ us ws h1 h2 => match us, ws, h1, h2 with | [_], [_], _, _ => rfl⟩
  have g15 : FnG l.prog w K mg base (L2.CX l.prog w) 5 f15 _ _ (spRead C e1 K) := ok_read F15 Z S d_is_digits k_Ratio d_str d_InvalidLine
  have d_read_number : DefX l.prog w K mg base 5 "read_number" 1 [] byPlace (spRead C e1 K) := ⟨_, _, _, _, PySem.W.mg_of X G a15, k15, g15, kbn_place b15 1 rfl⟩
  have d_read_number_line : DefX l.prog w K mg base 5 "read_number" 0 ["line"] byBoth (spRead C e1 K) := ⟨_, _, _, _, PySem.W.mg_of X G a15, k15, g15, Fun_kbn F15 (ps := ["line"]) 0 ["line"] (fun us ws => us ++ ws) byBoth (fun r s => Vals.append r s) fun _ _ _ _ _ _ us ws h1 h2 => match us, ws, h1, h2 with | [], [_], _, _ => rfl⟩
  have g16 : FnG l.prog w K mg base CX0 6 f16 _ _ (spOob C) := ok_oob F16 Z S d_as_ratio
  have d_on_one_bottom : DefD l.prog w K mg base 6 "on_one_bottom" 1 [] byPlace (spOob C) := ⟨_, _, _, _, PySem.W.mg_of X G a16, k16, g16, kbn_place b16 1 rfl⟩
  have g17 : FnG l.prog w K mg base CX0 7 f17 _ _ (spTotal C) := ok_total F17 Z k_Ratio d_on_one_bottom
  have d_total : DefD l.prog w K mg base 7 "total" 1 [] byPlace (spTotal C) := ⟨_, _, _, _, PySem.W.mg_of X G a17, k17, g17, kbn_place b17 1 rfl⟩
  have d_total_numbers : DefD l.prog w K mg base 7 "total" 0 ["numbers"] byBoth (spTotal C) := ⟨_, _, _, _, PySem.W.mg_of X G a17, k17, g17, Fun_kbn F17 (ps := ["numbers"]) 0 ["numbers"] (fun us ws => us ++ ws) byBoth (fun r s => Vals.append r s) fun _ _ _ _ _ _ us ws h1 h2 => match us, ws, h1, h2 with | [], [_], _, _ => rfl⟩
  have g18 : FnG l.prog w K mg base CX0 7 f18 _ _ (spMost C) := ok_greatest F18 Z k_Ratio d_on_one_bottom
  have d_greatest : DefD l.prog w K mg base 7 "greatest" 1 [] byPlace (spMost C) := ⟨_, _, _, _, PySem.W.mg_of X G a18, k18, g18, kbn_place b18 1 rfl⟩
  have d_greatest_numbers : DefD l.prog w K mg base 7 "greatest" 0 ["numbers"] byBoth (spMost C) := ⟨_, _, _, _, PySem.W.mg_of X G a18, k18, g18, Fun_kbn F18 (ps := ["numbers"]) 0 ["numbers"] (fun us ws => us ++ ws) byBoth (fun r s => Vals.append r s) fun _ _ _ _ _ _ us ws h1 h2 => match us, ws, h1, h2 with | [], [_], _, _ => rfl⟩
  have g19 : FnG l.prog w K mg base CX0 7 f19 _ _ (spLeast C) := ok_smallest F19 Z k_Ratio d_on_one_bottom
  have d_smallest : DefD l.prog w K mg base 7 "smallest" 1 [] byPlace (spLeast C) := ⟨_, _, _, _, PySem.W.mg_of X G a19, k19, g19, kbn_place b19 1 rfl⟩
  have d_smallest_numbers : DefD l.prog w K mg base 7 "smallest" 0 ["numbers"] byBoth (spLeast C) := ⟨_, _, _, _, PySem.W.mg_of X G a19, k19, g19, Fun_kbn F19 (ps := ["numbers"]) 0 ["numbers"] (fun us ws => us ++ ws) byBoth (fun r s => Vals.append r s) fun _ _ _ _ _ _ us ws h1 h2 => match us, ws, h1, h2 with | [], [_], _, _ => rfl⟩
  have g20 : FnG l.prog w K mg base CX0 1 f20 _ _ (spCell K) := ok_cell F20 Z
  have d__law_cell : DefD l.prog w K mg base 1 "_law_cell" 2 [] byPlace (spCell K) := ⟨_, _, _, _, PySem.W.mg_of X G a20, k20, g20, kbn_place b20 2 rfl⟩
  have g21 : FnG l.prog w K mg base CX0 1 f21 _ _ spBox := ok_box F21 Z
  have d__law_box : DefD l.prog w K mg base 1 "_law_box" 1 [] byPlace spBox := ⟨_, _, _, _, PySem.W.mg_of X G a21, k21, g21, kbn_place b21 1 rfl⟩
  have g22 : FnG l.prog w K mg base CX0 1 f22 _ _ spTake := ok_take F22 Z
  have d__law_take : DefD l.prog w K mg base 1 "_law_take" 2 [] byPlace spTake := ⟨_, _, _, _, PySem.W.mg_of X G a22, k22, g22, kbn_place b22 2 rfl⟩
  have g23 : FnG l.prog w K mg base CX0 1 f23 _ _ spShared := ok_shared F23 Z
  have d__law_shared : DefD l.prog w K mg base 1 "_law_shared" 2 [] byPlace spShared := ⟨_, _, _, _, PySem.W.mg_of X G a23, k23, g23, kbn_place b23 2 rfl⟩
  have g24 : FnG l.prog w K mg base CX0 2 f24 _ _ spLow := ok_low F24 d__law_shared
  have d__law_low : DefD l.prog w K mg base 2 "_law_low" 2 [] byPlace spLow := ⟨_, _, _, _, PySem.W.mg_of X G a24, k24, g24, kbn_place b24 2 rfl⟩
  have g25 : FnG l.prog w K mg base CX0 2 f25 _ _ spTop := ok_top F25 d__law_take
  have d__law_top : DefD l.prog w K mg base 2 "_law_top" 1 [] byPlace spTop := ⟨_, _, _, _, PySem.W.mg_of X G a25, k25, g25, kbn_place b25 1 rfl⟩
  have g26 : FnG l.prog w K mg base CX0 3 f26 _ _ spBot := ok_bottom F26 d__law_take d__law_top
  have d__law_bottom : DefD l.prog w K mg base 3 "_law_bottom" 1 [] byPlace spBot := ⟨_, _, _, _, PySem.W.mg_of X G a26, k26, g26, kbn_place b26 1 rfl⟩
  have g27 : FnG l.prog w K mg base CX0 4 f27 _ _ spNumbers := ok_numbers F27 Z d__law_take d__law_top d__law_bottom
  have d__law_numbers : DefD l.prog w K mg base 4 "_law_numbers" 1 [] byPlace spNumbers := ⟨_, _, _, _, PySem.W.mg_of X G a27, k27, g27, kbn_place b27 1 rfl⟩
  have g28 : FnG l.prog w K mg base CX0 5 f28 _ _ (spMade C) := ok_made F28 k_Ratio
  have d__law_made : DefD l.prog w K mg base 5 "_law_made" 1 [] byPlace (spMade C) := ⟨_, _, _, _, PySem.W.mg_of X G a28, k28, g28, kbn_place b28 1 rfl⟩
  have g29 : FnG l.prog w K mg base CX0 3 f29 _ _ spWorth := ok_worth F29 d__law_low
  have d__law_worth : DefD l.prog w K mg base 3 "_law_worth" 1 [] byPlace spWorth := ⟨_, _, _, _, PySem.W.mg_of X G a29, k29, g29, kbn_place b29 1 rfl⟩
  have g30 : FnG l.prog w K mg base CX0 1 f30 _ _ (spIs C) := ok_is F30 Z S
  have d__law_is : DefD l.prog w K mg base 1 "_law_is" 2 [] byPlace (spIs C) := ⟨_, _, _, _, PySem.W.mg_of X G a30, k30, g30, kbn_place b30 2 rfl⟩
  have g31 : FnG l.prog w K mg base CX0 1 f31 _ _ spSays := ok_says F31 Z
  have d__law_says : DefD l.prog w K mg base 1 "_law_says" 2 [] byPlace spSays := ⟨_, _, _, _, PySem.W.mg_of X G a31, k31, g31, kbn_place b31 2 rfl⟩
  have g32 : FnG l.prog w K mg base CX0 1 f32 _ _ spLine := ok_line F32 Z
  have d__law_line : DefD l.prog w K mg base 1 "_law_line" 1 [] byPlace spLine := ⟨_, _, _, _, PySem.W.mg_of X G a32, k32, g32, kbn_place b32 1 rfl⟩
  have g33 : FnG l.prog w K mg base CX0 8 f33 _ _ spTwo := ok_two F33 Z S d__law_made d__law_worth d__law_low d__law_is d__law_says d__law_line d_add d_radd d_sub d_rsub d_mul d_rmul d_eq d_str m_over m_below_number
  have d__law_two_right : DefD l.prog w K mg base 8 "_law_two_right" 2 [] byPlace spTwo := ⟨_, _, _, _, PySem.W.mg_of X G a33, k33, g33, kbn_place b33 2 rfl⟩
  have g34 : FnG l.prog w K mg base CX0 8 f34 _ _ spAlone := ok_alone F34 Z S d__law_worth k_Ratio_bottom_top d__law_line d__law_is d_neg d_str d_read_number d_read_number_line d_as_ratio d_as_ratio_value d__law_made k_Ratio1 k_Ratio d_is_number d_is_number_value d__law_take d_eq
  have d__law_alone_right : DefD l.prog w K mg base 8 "_law_alone_right" 2 [] byPlace spAlone := ⟨_, _, _, _, PySem.W.mg_of X G a34, k34, g34, kbn_place b34 2 rfl⟩
  have g35 : FnG l.prog w K mg base CX0 8 f35 _ _ spLists := ok_lists F35 Z S d__law_take d__law_made d__law_worth d__law_low d__law_is d_eq d_total d_total_numbers d_greatest d_greatest_numbers d_smallest d_smallest_numbers
  have d__law_lists_right : DefD l.prog w K mg base 8 "_law_lists_right" 2 [] byPlace spLists := ⟨_, _, _, _, PySem.W.mg_of X G a35, k35, g35, kbn_place b35 2 rfl⟩
  have g36 : FnG l.prog w K mg base CX0 7 f36 _ _ (spMet C K) := ok_met F36 Z S Rr k_Ratio m_over m_below d_as_ratio d_read_number
  have d__law_met : DefD l.prog w K mg base 7 "_law_met" 3 [] byPlace (spMet C K) := ⟨_, _, _, _, PySem.W.mg_of X G a36, k36, g36, kbn_place b36 3 rfl⟩
  have g37 : FnG l.prog w K mg base CX0 8 f37 _ _ spRefused := ok_refused F37 Z S hM d__law_take d__law_met d__law_is k_Ratio d_eq
  have d__law_refused_right : DefD l.prog w K mg base 8 "_law_refused_right" 2 [] byPlace spRefused := ⟨_, _, _, _, PySem.W.mg_of X G a37, k37, g37, kbn_place b37 2 rfl⟩
  have g38 : FnG l.prog w K mg base CX0 4 f38 _ _ (spBad C K) := ok_bad F38 Z S d__law_worth d__law_line
  have d__law_bad_lines : DefD l.prog w K mg base 4 "_law_bad_lines" 2 [] byPlace (spBad C K) := ⟨_, _, _, _, PySem.W.mg_of X G a38, k38, g38, kbn_place b38 2 rfl⟩
  have g39 : FnG l.prog w K mg base CX0 8 f39 _ _ spLines := ok_lines F39 Z hM d__law_bad_lines d__law_met d__law_is d__law_line d__law_worth
  have d__law_lines_right : DefD l.prog w K mg base 8 "_law_lines_right" 2 [] byPlace spLines := ⟨_, _, _, _, PySem.W.mg_of X G a39, k39, g39, kbn_place b39 2 rfl⟩
  have g40 : FnG l.prog w K mg base CX0 9 f40 _ _ spRight := ok_right F40 Z d__law_numbers d__law_alone_right d__law_two_right d__law_lists_right d__law_refused_right d__law_lines_right d__law_take
  have d__law_right : DefD l.prog w K mg base 9 "_law_right" 1 [] byPlace spRight := ⟨_, _, _, _, PySem.W.mg_of X G a40, k40, g40, kbn_place b40 1 rfl⟩
  exact ok_law F41 Z d__law_cell d__law_box d__law_right
end Eld
set_option Elab.async false
set_option maxRecDepth 100000
set_option maxHeartbeats 4000000
set_option linter.all false
namespace Eld
open PySem L2
local macro_rules | `(tactic| walk_at "r1") => `(tactic| with_reducible first
  | refine r_seq ?_ | refine r_asgN ?_ | refine r_asg ?_ | refine r_gname ?_ | refine r_gsub ?_ | refine r_var rfl ?_ | refine r_c ?_ | refine r_op ?_ | refine r_un ?_ | refine r_u ?_ | refine r_i0 ?_ | refine r_cb ?_ | refine r_cons ?_ | refine r_nil ?_ | refine r_cl ?_ | refine r_fn rfl rfl ?_ | refine r_mt ?_
  | refine r_test ?_ | refine r_tb ?_ | refine r_bl ?_ | refine r_and ?_ | refine r_or ?_ | refine r_not ?_ | refine r_andV ?_ | refine r_orV ?_ | refine r_notV ?_ | refine r_ifX ?_ | refine r_ifs ?_ | refine r_chain ?_ | refine r_ret ?_ | refine r_next ?_ | refine r_drop ?_ | refine iteT ?_ | refine iteF ?_ | refine iteNT ?_ | refine iteNF ?_
  | refine r_int1 ?_ | refine r_boolB ?_ | refine r_eqI ?_ | refine r_neI ?_ | refine r_eqB ?_ | refine r_neB ?_ | refine r_eqS ?_ | refine r_neS ?_ | refine r_abs ?_ | refine r_max2 ?_ | refine r_min2 ?_ | refine r_yes ?_ | refine r_tup ?_ | refine r_sfld ?_ | refine r_m0 ?_ | refine r_m1 ?_ | refine r_lst ?_ | refine r_rng1 ?_ | refine r_rng2 ?_ | refine r_ixL (SqL.of (by assumption)) rfl ?_)
local macro_rules | `(tactic| walk_at "r") => `(tactic| repeat (first | walk_at "r1" | ((with_reducible refine r_var ?hv ?_); (case hv => rfl))))

end Eld
open PySem PySem.W PyProof.Rows in
set_option maxRecDepth 100000 in
set_option maxHeartbeats 0 in
theorem PySem.Challenge.cw_endlots_k01_ratios_holds : PySem.Challenge.rw_endlots_k01_ratios.Holds := by
  w_on; o_law; k_head; (case hw => w_witness2)
  k_fill
  refine Eld.walk_M (l := PySem.Challenge.rw_endlots_k01_ratios) (n := 63) (k := 10) (x := "script") (sp := Eld.spLaw) rfl (by decide) rfl ⟨rfl, by decide, by decide⟩ (by decide +kernel) (fun w h Y => PySem.W.kIn_of Y) ?F ?W
  case W => exact fun w G a ns hl hS => ⟨a, ns, rfl, Nat.le_trans hl (by decide), hS, fun _ => rfl⟩
  case F =>
    intro w mg fa h KX G hmg
    refine' Eld.all_mk KX G hmg ?aC ?aZ ?aG ?aL ?a0 ?l0 ?c0 ?k0 ?a1 ?l1 ?c1 ?k1 ?a2 ?i2 ?l2 ?c2 ?k2 ?a3 ?i3 ?l3 ?c3 ?k3 ?a4 ?i4 ?l4 ?c4 ?k4 ?a5 ?i5 ?l5 ?c5 ?k5 ?a6 ?i6 ?l6 ?c6 ?k6 ?a7 ?i7 ?l7 ?c7 ?k7 ?a8 ?i8 ?l8 ?c8 ?k8 ?a9 ?i9 ?l9 ?c9 ?k9 ?a10 ?i10 ?l10 ?c10 ?k10 ?a11 ?i11 ?l11 ?c11 ?k11 ?a12 ?i12 ?l12 ?c12 ?k12 ?a13 ?l13 ?c13 ?k13 ?a14 ?l14 ?c14 ?k14 ?a15 ?l15 ?c15 ?k15 ?a16 ?l16 ?c16 ?k16 ?a17 ?l17 ?c17 ?k17 ?a18 ?l18 ?c18 ?k18 ?a19 ?l19 ?c19 ?k19 ?a20 ?l20 ?c20 ?k20 ?a21 ?l21 ?c21 ?k21 ?a22 ?l22 ?c22 ?k22 ?a23 ?l23 ?c23 ?k23 ?a24 ?l24 ?c24 ?k24 ?a25 ?l25 ?c25 ?k25 ?a26 ?l26 ?c26 ?k26 ?a27 ?l27 ?c27 ?k27 ?a28 ?l28 ?c28 ?k28 ?a29 ?l29 ?c29 ?k29 ?a30 ?l30 ?c30 ?k30 ?a31 ?l31 ?c31 ?k31 ?a32 ?l32 ?c32 ?k32 ?a33 ?l33 ?c33 ?k33 ?a34 ?l34 ?c34 ?k34 ?a35 ?l35 ?c35 ?k35 ?a36 ?l36 ?c36 ?k36 ?a37 ?l37 ?c37 ?k37 ?a38 ?l38 ?c38 ?k38 ?a39 ?l39 ?c39 ?k39 ?a40 ?l40 ?c40 ?k40 ?a41 ?l41 ?c41 ?k41 ?ai ?ii ?li ?ci ?ld ?pg ?hd ?po ?sa ?mk ?kc ?nT ?nB ?ha ?hn ?ht ?hm ?qN ?qL ?qT ?qS ?qI ?qB ?qD ?rI ?rB ?rS ?uN ?uL ?uT ?uS ?uI ?uB ?uD ?sf ?ci2 ?so ?ne ?ja_add ?jr_add ?ja_sub ?jr_sub ?ja_mul ?jr_mul ?z_isinstance ?z_int ?z_bool ?z_str ?z_list ?z_tuple ?z_len ?z_abs ?z_max ?z_min ?z_sum ?z_repr ?z_range ?zq ?zk ?ze ?zt ?zi ?xg0 ?xl0 ?xs0 ?xga0 ?xgg0 ?xn0 ?xi0 ?xt0 ?xfl0 ?xfc0 ?xfk0 ?xk0 ?xe_0 ?xty0 ?xh0 ?xis0 ?xg1 ?xl1 ?xs1 ?xga1 ?xgg1 ?xn1 ?xi1 ?xt1 ?xfl1 ?xfc1 ?xfk1 ?xk1 ?xe_1 ?xty1 ?xh1 ?xis1 ?xs_e0e0 ?xs_cze0 ?xs_czcz ?xs_e1e0 ?xs_e1cz ?xs_e1e1
    (case aC => k_is)
    (case aZ => k_is)
    (case aG => k_is)
    (case aL => k_is)
    (case a0 => k_is)
    (case l0 => k_is)
    (case c0 => k_is)
    (case k0 => k_is)
    (case a1 => k_is)
    (case l1 => k_is)
    (case c1 => k_is)
    (case k1 => k_is)
    (case a2 => k_is)
    (case i2 => k_is)
    (case l2 => k_is)
    (case c2 => k_is)
    (case k2 => k_is)
    (case a3 => k_is)
    (case i3 => k_is)
    (case l3 => k_is)
    (case c3 => k_is)
    (case k3 => k_is)
    (case a4 => k_is)
    (case i4 => k_is)
    (case l4 => k_is)
    (case c4 => k_is)
    (case k4 => k_is)
    (case a5 => k_is)
    (case i5 => k_is)
    (case l5 => k_is)
    (case c5 => k_is)
    (case k5 => k_is)
    (case a6 => k_is)
    (case i6 => k_is)
    (case l6 => k_is)
    (case c6 => k_is)
    (case k6 => k_is)
    (case a7 => k_is)
    (case i7 => k_is)
    (case l7 => k_is)
    (case c7 => k_is)
    (case k7 => k_is)
    (case a8 => k_is)
    (case i8 => k_is)
    (case l8 => k_is)
    (case c8 => k_is)
    (case k8 => k_is)
    (case a9 => k_is)
    (case i9 => k_is)
    (case l9 => k_is)
    (case c9 => k_is)
    (case k9 => k_is)
    (case a10 => k_is)
    (case i10 => k_is)
    (case l10 => k_is)
    (case c10 => k_is)
    (case k10 => k_is)
    (case a11 => k_is)
    (case i11 => k_is)
    (case l11 => k_is)
    (case c11 => k_is)
    (case k11 => k_is)
    (case a12 => k_is)
    (case i12 => k_is)
    (case l12 => k_is)
    (case c12 => k_is)
    (case k12 => k_is)
    (case a13 => k_is)
    (case l13 => k_is)
    (case c13 => k_is)
    (case k13 => k_is)
    (case a14 => k_is)
    (case l14 => k_is)
    (case c14 => k_is)
    (case k14 => k_is)
    (case a15 => k_is)
    (case l15 => k_is)
    (case c15 => k_is)
    (case k15 => k_is)
    (case a16 => k_is)
    (case l16 => k_is)
    (case c16 => k_is)
    (case k16 => k_is)
    (case a17 => k_is)
    (case l17 => k_is)
    (case c17 => k_is)
    (case k17 => k_is)
    (case a18 => k_is)
    (case l18 => k_is)
    (case c18 => k_is)
    (case k18 => k_is)
    (case a19 => k_is)
    (case l19 => k_is)
    (case c19 => k_is)
    (case k19 => k_is)
    (case a20 => k_is)
    (case l20 => k_is)
    (case c20 => k_is)
    (case k20 => k_is)
    (case a21 => k_is)
    (case l21 => k_is)
    (case c21 => k_is)
    (case k21 => k_is)
    (case a22 => k_is)
    (case l22 => k_is)
    (case c22 => k_is)
    (case k22 => k_is)
    (case a23 => k_is)
    (case l23 => k_is)
    (case c23 => k_is)
    (case k23 => k_is)
    (case a24 => k_is)
    (case l24 => k_is)
    (case c24 => k_is)
    (case k24 => k_is)
    (case a25 => k_is)
    (case l25 => k_is)
    (case c25 => k_is)
    (case k25 => k_is)
    (case a26 => k_is)
    (case l26 => k_is)
    (case c26 => k_is)
    (case k26 => k_is)
    (case a27 => k_is)
    (case l27 => k_is)
    (case c27 => k_is)
    (case k27 => k_is)
    (case a28 => k_is)
    (case l28 => k_is)
    (case c28 => k_is)
    (case k28 => k_is)
    (case a29 => k_is)
    (case l29 => k_is)
    (case c29 => k_is)
    (case k29 => k_is)
    (case a30 => k_is)
    (case l30 => k_is)
    (case c30 => k_is)
    (case k30 => k_is)
    (case a31 => k_is)
    (case l31 => k_is)
    (case c31 => k_is)
    (case k31 => k_is)
    (case a32 => k_is)
    (case l32 => k_is)
    (case c32 => k_is)
    (case k32 => k_is)
    (case a33 => k_is)
    (case l33 => k_is)
    (case c33 => k_is)
    (case k33 => k_is)
    (case a34 => k_is)
    (case l34 => k_is)
    (case c34 => k_is)
    (case k34 => k_is)
    (case a35 => k_is)
    (case l35 => k_is)
    (case c35 => k_is)
    (case k35 => k_is)
    (case a36 => k_is)
    (case l36 => k_is)
    (case c36 => k_is)
    (case k36 => k_is)
    (case a37 => k_is)
    (case l37 => k_is)
    (case c37 => k_is)
    (case k37 => k_is)
    (case a38 => k_is)
    (case l38 => k_is)
    (case c38 => k_is)
    (case k38 => k_is)
    (case a39 => k_is)
    (case l39 => k_is)
    (case c39 => k_is)
    (case k39 => k_is)
    (case a40 => k_is)
    (case l40 => k_is)
    (case c40 => k_is)
    (case k40 => k_is)
    (case a41 => k_is)
    (case l41 => k_is)
    (case c41 => k_is)
    (case k41 => k_is)
    (case ai => k_is)
    (case ii => k_is)
    (case li => k_is)
    (case ci => k_is)
    (case ld => k_is)
    (case pg => k_is)
    (case hd => k_is)
    (case po => k_is)
    (case sa => k_is)
    (case mk => k_is)
    (case kc => k_is)
    (case nT => k_is)
    (case nB => k_is)
    (case ha => k_is)
    (case hn => k_is)
    (case ht => k_is)
    (case hm => k_is)
    (case qN => kit_is)
    (case qL => kit_is)
    (case qT => kit_is)
    (case qS => kit_is)
    (case qI => kit_is)
    (case qB => kit_is)
    (case qD => kit_is)
    (case rI => kit_is)
    (case rB => kit_is)
    (case rS => kit_is)
    (case uN => k_is)
    (case uL => k_is)
    (case uT => k_is)
    (case uS => k_is)
    (case uI => k_is)
    (case uB => k_is)
    (case uD => k_is)
    (case sf => k_is)
    (case ci2 => k_is)
    (case so => k_is)
    (case ne => k_is)
    (case ja_add => k_is)
    (case jr_add => k_is)
    (case ja_sub => k_is)
    (case jr_sub => k_is)
    (case ja_mul => k_is)
    (case jr_mul => k_is)
    (case z_isinstance => k_is)
    (case z_int => k_is)
    (case z_bool => k_is)
    (case z_str => k_is)
    (case z_list => k_is)
    (case z_tuple => k_is)
    (case z_len => k_is)
    (case z_abs => k_is)
    (case z_max => k_is)
    (case z_min => k_is)
    (case z_sum => k_is)
    (case z_repr => k_is)
    (case z_range => k_is)
    (case zq => k_exc)
    (case zk => k_is)
    (case ze => k_is)
    (case zt => k_is)
    (case zi => k_is)
    (case xg0 => k_is)
    (case xl0 => k_is)
    (case xs0 => k_is)
    (case xga0 => k_is)
    (case xgg0 => k_is)
    (case xn0 => k_is)
    (case xi0 => k_is)
    (case xt0 => k_is)
    (case xfl0 => k_is)
    (case xfc0 => k_is)
    (case xfk0 => k_is)
    (case xk0 => k_is)
    (case xe_0 => k_is)
    (case xty0 => k_is)
    (case xh0 => k_is)
    (case xis0 => k_is)
    (case xg1 => k_is)
    (case xl1 => k_is)
    (case xs1 => k_is)
    (case xga1 => k_is)
    (case xgg1 => k_is)
    (case xn1 => k_is)
    (case xi1 => k_is)
    (case xt1 => k_is)
    (case xfl1 => k_is)
    (case xfc1 => k_is)
    (case xfk1 => k_is)
    (case xk1 => k_is)
    (case xe_1 => k_is)
    (case xty1 => k_is)
    (case xh1 => k_is)
    (case xis1 => k_is)
    (case xs_e0e0 => k_is)
    (case xs_cze0 => k_is)
    (case xs_czcz => k_is)
    (case xs_e1e0 => k_is)
    (case xs_e1cz => k_is)
    (case xs_e1e1 => k_is)
