import PyProof.Rows.All
import Wide.All
import OpenK.AllK
import Wide.FinOn
import PyProof.EqAt
import PyProof.EqKinds
import PyProof.TupleCall
import HandS.ForMost
import HandS.Defaults
import HandS.IsInst
import HandS.Gcd
import HandS.Wide
import HandS.Style
import HandS.TupAny
import HandS.Deep
import PyProof.SeqIndex
import PyProof.InstNe
import KE.KIndexOf
import HandS.Zip
import HandS.StrMore
import KE.KStateDown
import HandS.Head0
import HandS.Head1
import HandS.Head2
import HandS.Head3
import HandS.HeadHook1
import HandS.HeadHook2
import HandS.WrittenGet
import HandS.HeadHook3
import KE.GoesEnum
import KE.KOpsOwn
import PyProof.TwoTypes
import KE.KCallOwn
import PyProof.Raises
import HandS.ForExc
import HandS.TryMany
import HandS.ExcInit
import HandS.ExcField
import KE.KMathGC
import PyProof.NeKinds
import HandS.Iter
import HandS.Conv
import PyProof.ReprBulk
import PyProof.FitsInt
import PySem.Challenge.RW_endlots_k13_sizes_and_depths
set_option Elab.async false
set_option maxRecDepth 100000
set_option maxHeartbeats 4000000
set_option linter.all false
/-! Eld: calls under known guards (so that repr may be spoken of), and what else the laws of Endlots want. -/
namespace Eld
open PySem PySem.Spec PyProof.Rows L2

/-! ## a def that keeps a promise where nothing is being shown (repr) -/
structure FnG (P : Program) (w : World) (K : PySem.W.Frag) (mg : Str → Option Value) (base : Heap) (CX : CXT) (k : Nat) (f : Addr) (fd : FuncData) (ps : List Str) (sp : Sp) : Prop where
  len : ∀ vs H Q E, sp vs H Q E → vs.length = ps.length
  run : ∀ (B : Around) (up : List Env) (z : Shared) (H : Hp) (ar : Args) (us : List Value) (vs : List V) (Q : VK) (E : XK),
    B.guards = some [] → Room k B → Env0 P w K mg base B up z H → BindsTo z fd ar (ps.zip us) → Vals vs us → sp vs H Q E → codeAny (model P w) B (.call (.ref f) ar) (CR CX up P w H z Q E) z
section
variable {P : Program} {w : World} {K : PySem.W.Frag} {mg : Str → Option Value} {base : Heap} {CX : CXT} {f : Addr} {fd : FuncData} {ps : List Str} {sp : Sp}
theorem FnG.of {k : Nat} (F : FnOk P w K mg base CX k f fd ps sp) : FnG P w K mg base CX k f fd ps sp :=
  ⟨F.len, fun B up z H ar us vs Q E _ r => F.run B up z H ar us vs Q E r⟩
theorem FnG.lift {j k : Nat} (F : FnG P w K mg base CX j f fd ps sp) (h : j ≤ k) : FnG P w K mg base CX k f fd ps sp :=
  ⟨F.len, fun B up z H ar us vs Q E g r => F.run B up z H ar us vs Q E g (r.mono h)⟩
end
theorem deeper_guards {B : Around} {env : Env} (h : B.guards = some []) : (B.deeper env).guards = some [] := by
  first
    | exact h
    | (simpa [Around.deeper, Around.under, Code.guards, Code.isGuard, pushGuards] using h)
theorem in1_guards {B : Around} (h : B.guards = some []) : B.in1.guards = some [] := by
  first
    | exact h
    | (simpa [Around.in1] using h)
theorem make_guards {B : Around} {C : Addr} {us : List Value} {kw : List (Str × Value)} (h : B.guards = some []) : (B.under (.builtin "type.__call__" ⟨.ref C :: us, kw⟩)).guards = some [] := by
  first
    | exact h
    | (simpa [Around.under, Code.guards, Code.isGuard, pushGuards, guardIds] using h)

section
variable {P : Program} {w : World} {K : PySem.W.Frag} {mg : Str → Option Value} {base : Heap} {CX : CXT}
/-- the rule for a def -/
theorem fnG_of {k : Nat} {f : Addr} {nm ql : Str} {pa : Arguments} {bd : List Stmt} {sc : Scope} {dV kV doc pm cdv ct oc : Value} {an od : Option Addr} {osl : Array (Option Value)} {N ps : List Str} {sp : Sp}
    (lk : K.lookup f = some ⟨oc, od, .func (PySem.W.fnOf nm ql pa bd sc dV kV doc pm an cdv ct), osl⟩) (cd : PySem.W.codeIn K cdv ql = true) (S : FnScope N ps sc) (ln : ∀ vs H Q E, sp vs H Q E → vs.length = ps.length)
    (bo : ∀ (B : Around) (up : List Env) (z : Shared) (H : Hp) (vs : List V) (Q : VK) (E : XK), (B.deeper (envOfC ql sc z.heap.objs.size f cdv)).guards = some [] → Room k (B.deeper (envOfC ql sc z.heap.objs.size f cdv)) → sp vs H Q E →
      ∃ t, PSs (cxOf CX P w K mg base N ql sc f cdv B up z H E) bd t ∧ t { nx := fun _ G => Q .non G, rt := Q } (start N vs) H) :
    FnG P w K mg base CX (k + 1) f (PySem.W.fnOf nm ql pa bd sc dV kV doc pm an cdv ct) ps sp := by
  constructor
  · exact ln
  intro B up z H ar us vs Q E gd rm e0 bt rv hs
  have len := ln vs H Q E hs
  have there : ∀ b o, base.get? b = some o → z.heap.get? b = some o := fun b o e => (e0.bs b o e).1
  have inK : K.In z.heap := e0.mod.kin.keeps there
  have nolim : z.heap.NoLimit := e0.mod.nolimit.keeps there
  have kinds : ∀ y ∈ ps.zip us, sc.names.lookup y.1 = some .local ∨ (sc.names.lookup y.1 = some .cell ∧ ((cellsFrom (z.heap.objs.size + 1) sc.names []).lookup y.1).isSome = true) := by
    rintro ⟨n, v⟩ hy
    have hn : n ∈ ps := (List.of_mem_zip hy).1
    exact (S.par n hn).imp id fun q => ⟨q, PySem.W.cellsFrom_some _ _ _ (.inl q)⟩
  refine codeAny_call_function rm.depth (inK _ _ lk) rfl S.co S.gen rfl (PySem.W.codeRec_of inK cd) (bt _ _ _ _ ?_)
  refine wpAny_newFunctionEnv_cells S.kind kinds ?_
  rintro env rfl z1 ic
  refine ⟨nolim.keeps ic.toInCall.keep, codeAny_func ?_⟩
  obtain ⟨t, pt, ht⟩ := bo B up z H vs Q E (deeper_guards gd) (rm.deeper _) hs
  have I0 : Inv (cxOf CX P w K mg base N ql sc f cdv B up z H E) [] (start N vs) H z1 := inv_start S rm.hd e0 len rv ic
  refine wpAny_mono (pt.run [] z1 (start N vs) H _ I0 ht) ?_ (fun e z2 q => q)
  rintro fl z2 q
  cases fl with
  | next =>
    obtain ⟨τ, G, J, q⟩ := q
    exact ⟨V.non, G, J.os, J.bare, J.base, J.hok, rfl, q⟩
  | ret u =>
    obtain ⟨v, τ, G, J, rv', q⟩ := q
    exact ⟨v, G, J.os, J.bare, J.base, J.hok, rv', q⟩
  | brk => exact q.choose_spec.choose_spec.2.elim
  | cont => exact q.choose_spec.choose_spec.2.elim
theorem okG {x ql : Str} {st : Stmt} {f : Addr} {fd : FuncData} {N ps : List Str} {k : Nat} {sp : Sp} (F : Fun K x ql st f fd) (S : FnScope N ps (defScope st)) (ln : ∀ vs H Q E, sp vs H Q E → vs.length = ps.length)
    (bo : ∀ (cdv : Value) (B : Around) (up : List Env) (z : Shared) (H : Hp) (vs : List V) (Q : VK) (E : XK), (B.deeper (envOfC ql (defScope st) z.heap.objs.size f cdv)).guards = some [] → Room k (B.deeper (envOfC ql (defScope st) z.heap.objs.size f cdv)) → sp vs H Q E →
      ∃ t, PSs (cxOf CX0 P w K mg base N ql (defScope st) f cdv B up z H E).nox (defBody st) t ∧ t { nx := fun _ G => Q .non G, rt := Q } (start N vs) H) : FnG P w K mg base CX0 (k + 1) f fd ps sp := by
  obtain ⟨oc, od, kV, doc, pm, an, cdv, ct, osl, rfl, lk, cd⟩ := F.ex
  refine fnG_of lk cd S ln ?_
  intro B up z H vs Q E gd rm hs
  obtain ⟨t, h, q⟩ := bo cdv B up z H vs Q E gd rm hs
  exact ⟨t, h.nox, q⟩
end

/-! ## calls: the value called, values by place and by name -/
/-- called with the values xs by place and ys by the names ks -/
def CallV (X : Cx) (fv : Value) (ks : List Str) (r : List V → List V → Hp → VK → Prop) : Prop :=
  ∀ (pins : List (Addr × Obj)) (s : Shared) (σ : L2.St) (H : Hp) (xs ys : List V) (us ws : List Value) (Q : VK), Inv X pins σ H s → Vals xs us → Vals ys ws → r xs ys H Q →
    wpAny (model X.prog X.w) X.A (call fv us (ks.zip ws)) (EP X pins σ Q) X.xe s
section
variable {X : Cx} {CX : CXT} {k n : Nat} {f C : Addr} {fd : FuncData} {ps ks : List Str} {sp : Sp} {E : XK} {g : List Value → List Value → List Value} {gV : List V → List V → List V}
def rFn (n m : Nat) (gV : List V → List V → List V) (sp : Sp) (E : XK) : List V → List V → Hp → VK → Prop := fun xs ys H Q => xs.length = n ∧ ys.length = m ∧ sp (gV xs ys) H Q E
theorem callV_fn (F : FnG X.prog X.w X.K X.mg X.base CX k f fd ps sp) (hb : KBn X.K fd ps n ks g gV) (hx : Passes CX X E) (hG : X.A.guards = some []) (hr : Room k X.A) : CallV X (.ref f) ks (rFn n ks.length gV sp E) := by
  rintro pins s σ H xs ys us ws Q I rx ry ⟨l1, l2, h⟩
  have e1 : us.length = n := rx.length ▸ l1
  have e2 : ws.length = ks.length := ry.length ▸ l2
  refine wpAny_call (codeAny_mono (F.run X.A X.stack s H ⟨us, ks.zip ws⟩ (g us ws) (gV xs ys) Q E hG hr I.env0 (hb.to s us ws I.kIn e1 e2) (hb.rel rx ry) h) ?_)
  intro res s' hq
  match res, hq with
  | .error e, hq => exact hx pins σ H s e s' I hq
  | .ok (.ret u), hq => exact I.after hq
def rMk (C : Addr) (n m : Nat) (gV : List V → List V → List V) (sp : Sp) (E : XK) : List V → List V → Hp → VK → Prop := fun xs ys H Q => xs.length = n ∧ ys.length = m ∧
  ∀ x dx, H x = none → H dx = none → dx ≠ x → sp (gV (.ref x :: xs) ys) (upd (upd H dx (.own x)) x (.ins C dx [])) (fun v G => v = .non ∧ Q (.ref x) G) E
theorem callV_mk (M : Mk X.K C f) (F : FnG X.prog X.w X.K X.mg X.base CX k f fd ps sp) (hb : KBn X.K fd ps (n + 1) ks g gV) (hx : Passes CX X E) (hG : X.A.guards = some []) (hr : Room (k + 1) X.A) : CallV X (.ref C) ks (rMk C n ks.length gV sp E) := by
  rintro pins s σ H xs ys us ws Q I rx ry ⟨l1, l2, h⟩
  have e1 : (Value.ref (s.heap.objs.size + 1) :: us).length = n + 1 := by
    rw [List.length_cons, ← rx.length, l1]
  have e2 : ws.length = ks.length := ry.length ▸ l2
  have hs := h (s.heap.objs.size + 1) s.heap.objs.size (I.hok.fresh (Nat.le_succ _)) (I.hok.fresh (Nat.le_refl _)) (Nat.ne_of_lt (Nat.lt_succ_self _))
  have J := Inv.made (C := C) I
  have rx' : Vals (V.ref (s.heap.objs.size + 1) :: xs) (Value.ref (s.heap.objs.size + 1) :: us) := .cons rfl rx
  refine wpAny_call (make_map (f := f) I.kIn M.makes M.init (beq_iff_eq.mp M.fn) (codeAny_mono (F.run _ X.stack _ _ ⟨Value.ref (s.heap.objs.size + 1) :: us, ks.zip ws⟩ _ _ _ E (make_guards hG) (hr.make C us (ks.zip ws))
    (J.env0.make C us (ks.zip ws)) (hb.to _ _ ws J.kIn e1 e2) (hb.rel rx' ry) hs) ?_))
  intro res s' hq
  match res, hq with
  | .error e, hq => exact hx pins σ _ _ e s' J hq
  | .ok (.ret u), hq =>
    obtain ⟨v, G, I', rv, ev, q⟩ := J.after hq
    subst ev
    exact ⟨rv, ⟨V.ref (s.heap.objs.size + 1), G, I', rfl, q⟩⟩
end
/-- the reading of a call -/
def tCl (r : List V → List V → Hp → VK → Prop) (t tk : TA) : TE := fun σ H Q => t σ H fun xs H1 => tk σ H1 fun ys H2 => r xs ys H2 Q
section
variable {X : Cx} {ks : List Str} {fv : Value} {r : List V → List V → Hp → VK → Prop} {x m : Str} {p pos apos : Pos} {e o : Expr} {es : List Expr} {kws : List Keyword} {ta : TE} {t tk : TA}
/-- f(e, ..) -/
theorem pn_pos (c : CallV X fv [] r) (hg : Gl X x) (hm : X.mg x = some fv) (hk : PySem.W.keepIn X.K fv = true) (ha : PA X (e :: es) t) (hd : (x == ("__debug__" : Str)) = false := by decide)
    (he : starEach (e :: es) X.env = (false, eval e X.env) :: starEach es X.env := by rfl) (hp : (backTo pos (starEach es X.env)).any (·.1) = false := by rfl) : PE X (.Call (.Name x p) (e :: es) [] pos) (tCl r t tNil) := by
  constructor
  intro pins s σ H Q I h
  exact wpAny_Call_Name_kw (ld_glob I hg hm (PySem.W.callWith_K (h₀ := X.base) I.ok.mod.kin hk (thn (ha.run pos pins s σ H _ I h) fun us s1 ⟨xs, H1, I1, rx, q⟩ => ⟨I1.kIn, c pins s1 σ H1 xs [] us [] Q I1 rx .nil q⟩) he hp) hd)
/-- f() -/
theorem pn_none (c : CallV X fv [] r) (hg : Gl X x) (hm : X.mg x = some fv) (hk : PySem.W.keepIn X.K fv = true) (hd : (x == ("__debug__" : Str)) = false := by decide) : PE X (.Call (.Name x p) [] [] pos) (tCl r tNil tNil) := by
  constructor
  intro pins s σ H Q I h
  exact wpAny_Call_Name_kw (ld_glob I hg hm (PySem.W.callWith_K0 I.kIn hk (c pins s σ H [] [] [] [] Q I .nil .nil h)) hd)
/-- f(e, .., k = v, ..) -/
theorem pn_kw (c : CallV X fv ks r) (hg : Gl X x) (hm : X.mg x = some fv) (hk : PySem.W.keepIn X.K fv = true) (ha : PA X (e :: es) t) (hkw : PK X kws tk) (hall : (backToKw pos (keywordEach kws X.env)).all (·.1.isSome) = true := by rfl)
    (hks : (backToKw pos (keywordEach kws X.env)).filterMap (·.1) = ks := by rfl) (hd : (x == ("__debug__" : Str)) = false := by decide) (he : starEach (e :: es) X.env = (false, eval e X.env) :: starEach es X.env := by rfl)
    (hp : ((backTo pos (starEach (e :: es) X.env)).any (·.1) || (backToKw pos (keywordEach kws X.env)).any (·.1.isNone)) = false := by rfl) : PE X (.Call (.Name x p) (e :: es) kws pos) (tCl r t tk) := by
  constructor
  intro pins s σ H Q I h
  subst hks
  exact wpAny_Call_Name_kw (ld_glob I hg hm (PySem.W.callWith_KW (h₀ := X.base) I.ok.mod.kin hk hall (thn (ha.run pos pins s σ H _ I h) fun us s1 ⟨xs, H1, I1, rx, q⟩ =>
    thn (hkw.run pos pins s1 σ H1 _ I1 q) fun ws s2 ⟨ys, H2, I2, ry, q2⟩ => ⟨I2.kIn, c pins s2 σ H2 xs ys us ws Q I2 rx ry q2⟩) hp he) hd)
/-- f(k = v, ..) -/
theorem pn_kw0 (c : CallV X fv ks r) (hg : Gl X x) (hm : X.mg x = some fv) (hk : PySem.W.keepIn X.K fv = true) (hkw : PK X kws tk) (hall : (backToKw pos (keywordEach kws X.env)).all (·.1.isSome) = true := by rfl)
    (hks : (backToKw pos (keywordEach kws X.env)).filterMap (·.1) = ks := by rfl) (hd : (x == ("__debug__" : Str)) = false := by decide)
    (hp : ((backTo pos (starEach [] X.env)).any (·.1) || (backToKw pos (keywordEach kws X.env)).any (·.1.isNone)) = false := by rfl) : PE X (.Call (.Name x p) [] kws pos) (tCl r tNil tk) := by
  constructor
  intro pins s σ H Q I h
  subst hks
  exact wpAny_Call_Name_kw (ld_glob I hg hm (PySem.W.callWith_KW0 (h₀ := X.base) I.ok.mod.kin hk hall (thn (hkw.run pos pins s σ H _ I h) fun ws s2 ⟨ys, H2, I2, ry, q2⟩ => ⟨I2.kIn, c pins s2 σ H2 [] ys [] ws Q I2 .nil ry q2⟩) hp) hd)
/-- o.m(..): o is an instance of the class at C -/
def tMt (C : Addr) (m : Str) (r : List V → List V → Hp → VK → Prop) (ta : TE) (t tk : TA) : TE := fun σ H Q => ta σ H fun x H1 => ∃ a dx fs, x = .ref a ∧ H1 a = some (.ins C dx fs) ∧ List.lookup m fs = none ∧
  t σ H1 fun xs H2 => tk σ H2 fun ys H3 => r (.ref a :: xs) ys H3 Q
variable {C f : Addr} {pl : Sem Bool}
theorem pm_pos (c : CallV X (.ref f) [] r) (hc : Cls X.K C) (hm : Meth X.K C m f) (ho : PE X o ta) (ha : PA X (e :: es) t) (he : starEach (e :: es) X.env = (false, eval e X.env) :: starEach es X.env := by rfl) (hp : (backTo pos (starEach es X.env)).any (·.1) = false := by rfl)
    (ht : eval (.Call (.Attribute o m apos) (e :: es) [] pos) X.env = (do
      let ov ← eval o X.env
      standAt apos.atName
      let (f, first) ← holding [ov] (getMethod ov m pl)
      callWith pos f first (backTo pos (starEach (e :: es) X.env)) (backToKw pos (keywordEach [] X.env))) := by rfl) : PE X (.Call (.Attribute o m apos) (e :: es) [] pos) (tMt C m r ta t tNil) := by
  constructor
  intro pins s σ H Q I h
  refine PySem.W.methodCall_KW (pl := pl) (thn (ho.run pins s σ H _ I h) ?_) ht
  rintro u s1 ⟨y, H1, I1, ry, a, dx, fs, rfl, ea, l, q⟩
  obtain rfl : u = Value.ref a := ry
  exact getmeth_ok I1 ea hc hm l (PySem.W.callWith_K (first := [.ref a]) (h₀ := X.base) I.ok.mod.kin hm.kp (thn (ha.run pos pins s1 σ H1 _ I1 q) fun us s2 ⟨xs, H2, I2, rx, q2⟩ => ⟨I2.kIn, c pins s2 σ H2 _ [] (.ref a :: us) [] Q I2 (.cons (show RelV (V.ref a) (Value.ref a) from rfl) rx) .nil q2⟩) he hp)
theorem pm_none (c : CallV X (.ref f) [] r) (hc : Cls X.K C) (hm : Meth X.K C m f) (ho : PE X o ta)
    (ht : eval (.Call (.Attribute o m apos) [] [] pos) X.env = (do
      let ov ← eval o X.env
      standAt apos.atName
      let (f, first) ← holding [ov] (getMethod ov m pl)
      callWith pos f first (backTo pos (starEach [] X.env)) (backToKw pos (keywordEach [] X.env))) := by rfl) : PE X (.Call (.Attribute o m apos) [] [] pos) (tMt C m r ta tNil tNil) := by
  constructor
  intro pins s σ H Q I h
  refine PySem.W.methodCall_KW (pl := pl) (thn (ho.run pins s σ H _ I h) ?_) ht
  rintro u s1 ⟨y, H1, I1, ry, a, dx, fs, rfl, ea, l, q⟩
  obtain rfl : u = Value.ref a := ry
  exact getmeth_ok I1 ea hc hm l (PySem.W.callWith_K0 (first := [.ref a]) I1.kIn hm.kp (c pins s1 σ H1 _ [] [.ref a] [] Q I1 (.cons (show RelV (V.ref a) (Value.ref a) from rfl) .nil) .nil q))
theorem pm_kw0 (c : CallV X (.ref f) ks r) (hc : Cls X.K C) (hm : Meth X.K C m f) (ho : PE X o ta) (hkw : PK X kws tk) (hall : (backToKw pos (keywordEach kws X.env)).all (·.1.isSome) = true := by rfl)
    (hks : (backToKw pos (keywordEach kws X.env)).filterMap (·.1) = ks := by rfl)
    (hp : ((backTo pos (starEach [] X.env)).any (·.1) || (backToKw pos (keywordEach kws X.env)).any (·.1.isNone)) = false := by rfl)
    (ht : eval (.Call (.Attribute o m apos) [] kws pos) X.env = (do
      let ov ← eval o X.env
      standAt apos.atName
      let (f, first) ← holding [ov] (getMethod ov m pl)
      callWith pos f first (backTo pos (starEach [] X.env)) (backToKw pos (keywordEach kws X.env))) := by rfl) : PE X (.Call (.Attribute o m apos) [] kws pos) (tMt C m r ta tNil tk) := by
  constructor
  intro pins s σ H Q I h
  subst hks
  refine PySem.W.methodCall_KW (pl := pl) (thn (ho.run pins s σ H _ I h) ?_) ht
  rintro u s1 ⟨y, H1, I1, ry, a, dx, fs, rfl, ea, l, q⟩
  obtain rfl : u = Value.ref a := ry
  exact getmeth_ok I1 ea hc hm l (PySem.W.callWith_KW0 (first := [.ref a]) (h₀ := X.base) I.ok.mod.kin hm.kp hall (thn (hkw.run pos pins s1 σ H1 _ I1 q) fun ws s2 ⟨ys, H2, I2, ry', q2⟩ => ⟨I2.kIn, c pins s2 σ H2 _ ys [.ref a] ws Q I2 (.cons (show RelV (V.ref a) (Value.ref a) from rfl) .nil) ry' q2⟩) hp)
end
end Eld
set_option Elab.async false
set_option maxRecDepth 100000
set_option maxHeartbeats 4000000
set_option linter.all false
namespace Eld
open PySem PySem.Spec PyProof.Rows L2
section
variable {P : Program} {w : World} {K : PySem.W.Frag} {mg mb : Str → Option Value} {CX : CXT} {k : Nat} {fa a : Addr} {fd : FuncData} {x : Str} {sp : Sp} {z : Shared} {vs : List Value} {ns : List Int}
/-- what is wanted of a law's call -/
def LawR (z : Shared) (r : Result) (z' : Shared) : Prop := r = .ok (.ret (.bool true)) ∧ OldK z.heap z'.heap ∧ z'.os = z.os ∧ AllBare z'.gens
/-- from an abstract heap G in which at most the script is told -/
theorem law_fromG (G : Hp) (only : Only G) (here : ∀ b, G b ≠ none → b = a) (notK : G a ≠ none → K.lookup a = none) (seen : SqL K G a (ns.map V.int)) (ok : HOk P w G z.heap)
    (inK : K.In z.heap) (gl : z.heap.Ns mainGlobals mg) (bn : z.heap.Ns builtinsNs mb) (bb : ∀ y : Str, y ≠ "__name__" → mb y = bootBuiltins y) (nolim : z.heap.NoLimit) (gens : z.gens = #[])
    (ha : z.heap.get? a = some { cls := .type "list", data := .seq vs.toArray }) (rm : Room k callerA) (F : ∀ base : Heap, K.In base → base.Ns mainGlobals mg → FnG P w K mg base CX k fa fd [x] sp)
    (bt : ∀ (s : Shared) (u : Value), BindsTo s fd ⟨[u], []⟩ [(x, u)]) (want : sp [.ref a] G (fun v _ => v = .bl true) fun _ _ _ => False) (noErr : ∀ e z', CX [] G z (fun _ _ _ => False) e z' → False) :
    codeAny (model P w) callerA (.call (.ref fa) ⟨[.ref a], []⟩) (LawR z) z := by
  have out : ∀ {b : Addr} {o : Obj}, z.heap.get? b = some o → b ≠ a → G b = none := fun {b o} _ ne => by
    cases q : G b with
    | none => rfl
    | some u => exact absurd (here b (by rw [q]; exact Option.some_ne_none u)) ne
  have off : ∀ {b : Addr} {m : Str → Option Value}, z.heap.Ns b m → (hidT z.heap G).Ns b m := by
    rintro b m ⟨o, es, ep, e, d, r⟩
    have ne : b ≠ a := by
      rintro rfl
      have e' := ha.symm.trans e
      cases e'
      cases d
    exact ⟨o, es, ep, hidT_get e (out e ne), d, r⟩
  have kb : K.In (hidT z.heap G) := by
    intro b o e
    have e1 := inK b o e
    refine hidT_get e1 ?_
    by_cases q : G b = none
    · exact q
    · have eb := here b q
      subst eb
      rw [notK q] at e
      cases e
  obtain ⟨mc, l1, l2⟩ := nolim
  have md : Mod K mg (hidT z.heap G) := ⟨kb, off gl, ⟨mb, off bn, bb⟩, ⟨mc, off l1, l2⟩⟩
  have env : Env0 P w K mg (hidT z.heap G) callerA [] z G :=
    { frames := rfl, mod := md, bs := fun b o e => of_hidT e, bsz := Nat.le_of_eq (hidT_size _ _), funs := trivial, frf := fun b hb => (List.not_mem_nil hb).elim, hok := ok, bare := .of_eq gens }
  refine codeAny_mono ((F _ kb (off gl)).run callerA [] z G ⟨[.ref a], []⟩ [.ref a] [.ref a] _ _ rfl rm env (bt z (.ref a)) (.cons rfl .nil) want) ?_
  intro r z' q
  match r, q with
  | .error e, q => exact (noErr e z' q).elim
  | .ok (.ret u), ⟨v, G', os, bare, un, ok', rv, q⟩ =>
    cases (show v = .bl true from q)
    cases (show u = Value.bool true from rv)
    refine ⟨rfl, OldK.of_keep ?_, os, bare⟩
    intro b o e
    rcases only b with n | ⟨ob, xs, n⟩
    · exact un.keep b o e n (fun h => (List.not_mem_nil h).elim) (fun h => (List.not_mem_nil h).elim)
    · have e1 := (ok b _ n).1
      have e2 := (ok' b _ (un.frzs b ob _ n)).1
      exact e2.trans (e1.symm.trans e)
theorem law_callG (inK : K.In z.heap) (gl : z.heap.Ns mainGlobals mg) (bn : z.heap.Ns builtinsNs mb) (bb : ∀ y : Str, y ≠ "__name__" → mb y = bootBuiltins y) (nolim : z.heap.NoLimit) (gens : z.gens = #[])
    (ha : z.heap.get? a = some { cls := .type "list", data := .seq vs.toArray }) (hi : IntsAre vs ns) (hl : ns.length ≤ sizeLine) (rm : Room k callerA)
    (F : ∀ base : Heap, K.In base → base.Ns mainGlobals mg → FnG P w K mg base CX k fa fd [x] sp) (bt : ∀ (s : Shared) (u : Value), BindsTo s fd ⟨[u], []⟩ [(x, u)])
    (want : ∀ G : Hp, Only G → SqL K G a (ns.map V.int) → sp [.ref a] G (fun v _ => v = .bl true) fun _ _ _ => False) (noErr : ∀ G e z', CX [] G z (fun _ _ _ => False) e z' → False) :
    codeAny (model P w) callerA (.call (.ref fa) ⟨[.ref a], []⟩) (LawR z) z := by
  have rv := vals_ints hi
  have small : (ns.map V.int).length ≤ sizeLine := by rw [List.length_map]; exact hl
  cases hk : K.lookup a with
  | none =>
    let ob : Obj := { cls := .type "list", data := .seq vs.toArray }
    let G : Hp := fun b => if b = a then some (.frz ob (.lst (ns.map V.int))) else none
    have ga : G a = some (.frz ob (.lst (ns.map V.int))) := if_pos rfl
    have gn : ∀ b, b ≠ a → G b = none := fun b h => if_neg h
    have only : Only G := fun b => (Classical.em (b = a)).elim (fun h => .inr ⟨ob, _, h ▸ ga⟩) fun h => .inl (gn b h)
    have seen : SqL K G a (ns.map V.int) := .inl (.inr ⟨ob, ga⟩)
    refine law_fromG G only (fun b h => Classical.byContradiction fun n => h (gn b n)) (fun _ => hk) seen ?_ inK gl bn bb nolim gens ha rm F bt (want G only seen) (noErr G)
    intro b u e
    by_cases h : b = a
    · subst h
      rw [ga] at e
      cases e
      exact ⟨ha, small, vs, _, rv, ha⟩
    · rw [gn b h] at e
      cases e
  | some o =>
    have e := inK a o hk
    rw [ha] at e
    cases e
    have seen : SqL K (fun _ => none) a (ns.map V.int) := .inr ⟨_, vs.toArray, _, hk, rfl, rfl, rfl, by rw [List.size_toArray, hi.length]; exact hl, by simpa using rv⟩
    exact law_fromG (fun _ => none) (fun _ => .inl rfl) (fun _ h => absurd rfl h) (fun h => absurd rfl h) seen (fun _ _ e => by cases e) inK gl bn bb nolim gens ha rm F bt (want _ (fun _ => .inl rfl) seen) (noErr _)
end
/-- the goal that the head leaves -/
theorem walk_G {l : PySem.W.OpenLaw} {n k : Nat} {q : Program} {loose : List Str} {XP : (Str → Option Value) → Heap → Prop} {YP : World → Heap → Prop} {d : DefRec} {K : Params → PySem.W.Frag} {sp : PySem.W.Frag → Sp} {x : Str}
    (hn : l.most = some n) (n2 : n ≤ sizeLine) (hd : d.params.defaults = []) (rm : Room k callerA) (hY : ∀ (w : World) (h : Heap), YP w h → (K w.params).In h)
    (F : ∀ (w : World) (mg : Str → Option Value) (fa : Addr) (h : Heap), (K w.params).In h → h.Ns mainGlobals mg → mg d.name = some (.ref fa) →
      ∃ fd : FuncData, (∀ (s : Shared) (u : Value), BindsTo s fd ⟨[u], []⟩ [(x, u)]) ∧ ∀ base : Heap, (K w.params).In base → base.Ns mainGlobals mg → FnG l.prog w (K w.params) mg base CX0 k fa fd [x] (sp (K w.params)))
    (want : ∀ (w : World) (G : Hp) (a : Addr) (ns : List Int), ns.length ≤ n → SqL (K w.params) G a (ns.map V.int) → sp (K w.params) [.ref a] G (fun v _ => v = .bl true) fun _ _ _ => False) :
    PySem.W.WalkO q loose XP YP l.row.toRowW d [] (fun f vs => PySem.call f vs) := by
  refine Att.attach_call hn hd ?_
  intro w s₀ s₁ mg mb fa o pm cd doc a vs ns G Y ho hdt hcd hmg hobj hints hlen hg
  obtain ⟨fd, hb, hF⟩ := F w mg fa _ (hY w _ Y) G.T.g hmg
  exact law_callG (CX := CX0) (hY w _ Y) G.T.g G.T.b G.T.builtins G.T.nolimit hg hobj hints (Nat.le_trans hlen n2) rm hF hb (fun G _ h => want w G a ns hlen h) fun _ _ _ h => h.elim
end Eld
set_option Elab.async false
set_option maxRecDepth 100000
set_option maxHeartbeats 4000000
set_option linter.all false
namespace Eld
open PySem PySem.Spec PyProof.Rows L2
section
variable {X : Cx}
/-! ### repr of lists and tuples of data -/
def rReprD (K : PySem.W.Frag) : List V → Hp → VK → Prop := fun xs H Q => ∃ a d, xs = [.ref a] ∧ Dp K H (.ref a) d ∧ d.showable = true ∧ d.hasDict = false ∧ d.depth ≤ 60 ∧ d.shown.length ≤ sizeLine ∧ Q (.str d.shown) H
theorem call_reprD (hG : X.A.guards = some []) (hu : X.A.units + 64 < cLine) : CallR X (.builtin "repr") (rReprD X.K) := by
  rintro pins s σ H xs us Q I r ⟨a, d, rfl, dp, sh, nd, dd, sz, q⟩
  obtain ⟨u, rfl, ru⟩ := vals1 r
  obtain ⟨as, rd⟩ := Dp.reads I d _ u dp ru
  cases ru
  exact repr_of_reads' rd sh (PyData.noDict_hsm nd) hG (by omega) (fun _ _ e => e) (fun h' u tk hk => ⟨.str d.shown, H, I.kept hk, ⟨_, rfl⟩, q⟩) sz
/-! ### t.index(x), t a tuple of data -/
def rTupIx (K : PySem.W.Frag) : V → List V → Hp → VK → Prop := fun x xs H Q => ∃ (a : Addr) (y : V) (d z : PyData) (ds : List PyData) (j : Nat), x = .ref a ∧ xs = [y] ∧ Dp K H (.ref a) (.tuple ds) ∧ Dp K H y d ∧
  SeqAt.shaped (.tuple ds) = true ∧ SeqAt.shaped d = true ∧ ds[j]? = some z ∧ PyData.eqv z d = true ∧ (∀ (m : Nat) (z' : PyData), m < j → ds[m]? = some z' → PyData.eqv z' d = false) ∧ Q (.int (j : Nat)) H
theorem mt_tupIx (hu : X.A.units + 65 < cLine) : MtR X "tuple.index" (rTupIx X.K) := by
  rintro pins s σ H x xs v us Q I rx rxs ⟨a, y, d, z, ds, j, rfl, rfl, hl, hy, sl, sd, hz, hit, hno, q⟩
  cases rx
  obtain ⟨uy, rfl, ry⟩ := vals1 rxs
  obtain ⟨bs, r1⟩ := Dp.reads I d y uy hy ry
  have lay : PyData.canLayAll0 ds = true := by
    have := SeqAt.canLay_of_shaped sl
    simpa only [PyData.canLay0] using this
  have room : X.A.units + 1 + min (PyData.depthAll ds) d.depth < cLine := by
    have h1 : d.depth ≤ 64 := by
      have h := sd
      simp only [SeqAt.shaped, Bool.and_eq_true, decide_eq_true_eq] at h
      exact h.2
    have h2 : min (PyData.depthAll ds) d.depth ≤ d.depth := Nat.min_le_right _ _
    omega
  cases hl with
  | tup hs ha =>
    obtain ⟨its, rv, ⟨⟨cls, dd, data, sls⟩, ho, hc, n, hdt⟩, hlen⟩ := I.tuple hs
    simp only at hc hdt
    subst hc hdt
    obtain ⟨as, h4⟩ := Dp.readsAll I ds _ its ha rv
    have hn : its.length = ds.length := SeqAt.ReadsAll.length ds its as h4
    have hmap : its.map (SeqAt.readOf s.heap) = ds := SeqAt.readsAll_map ds its as lay h4
    have hjd : j < ds.length := (List.getElem?_eq_some_iff.mp hz).1
    have at_ : ∀ (m : Nat) (hm : m < its.toArray.size) (z' : PyData), ds[m]? = some z' → SeqAt.readOf s.heap its.toArray[m] = z' := by
      intro m hm z' hz'
      have hml : m < its.length := by simpa using hm
      rw [← hmap, List.getElem?_map, List.getElem?_eq_getElem hml] at hz'
      simpa using hz'
    refine call_meets F.slot_tuple_index ⟨_, ho, rfl⟩ F.entry_tuple_index (F.args_tuple_index_2 _ _)
      (SeqAt.tuple_index2_found a its.toArray n dd sls uy (fun m => if hm : m < its.toArray.size then PyData.eqv (SeqAt.readOf s.heap its.toArray[m]) d else false) j (by simpa [hn] using hjd) (Nat.zero_le _) (by simpa [hn] using hjd) ?_ ?_) ⟨ho, fun m hm => ?_, ?_⟩
    · have hj' : j < its.toArray.size := by simpa [hn] using hjd
      rw [dif_pos hj', at_ j hj' z hz]
      exact hit
    · intro m hm _ hmj
      have hmd : m < ds.length := Nat.lt_trans hmj hjd
      rw [dif_pos hm, at_ m hm _ (List.getElem?_eq_getElem hmd)]
      exact hno m _ hmj (List.getElem?_eq_getElem hmd)
    · rw [dif_pos hm]
      exact SeqAt.items_eqAt (vs := its.toArray) (show ReadsAll s.heap its.toArray.toList ds as from h4) r1 lay (SeqAt.canLay_of_shaped sd) room _ (Array.getElem_mem hm)
    · exact ⟨.int (j : Nat), H, I.tok _, ⟨_, rfl⟩, q⟩
end
/-! ### ==, != and len of an own class -/
section
variable {X : Cx} {CX : CXT} {k : Nat} {f C : Addr} {fd : FuncData} {ps : List Str} {sp : Sp} {E : XK}
def rOwnC (K : PySem.W.Frag) (C : Addr) (sp : Sp) (E : XK) : R2 := fun x y H Q => ∃ a dx fs t, x = .ref a ∧ H a = some (.ins C dx fs) ∧ TyX K H y t ∧ PySem.W.notFirst K C t = true ∧ sp [x, y] H Q E
theorem run_own {B : Around} {pins : List (Addr × Obj)} {s : Shared} {σ : L2.St} {H : Hp} {a : Addr} {y : V} {u : Value} {Q : VK} (F : FnG X.prog X.w X.K X.mg X.base CX k f fd ps sp) (hb : Binds X.K fd ps []) (hx : Passes CX X E)
    (hf : B.frames = X.A.frames) (hG : B.guards = some []) (hr : Room k B) (I : Inv X pins σ H s) (ry : RelV y u) (h : sp [.ref a, y] H Q E) : wpAny (model X.prog X.w) B (call (.ref f) [.ref a, u]) (EP X pins σ Q) X.xe s := by
  have e0 := I.env0
  have e1 : Env0 X.prog X.w X.K X.mg X.base B X.stack s H := ⟨hf.trans e0.frames, e0.mod, e0.bs, e0.bsz, e0.funs, e0.frf, e0.hok, e0.bare⟩
  have rv : Vals [V.ref a, y] [Value.ref a, u] := .cons rfl (.cons ry .nil)
  have ln : ([Value.ref a, u] ++ ([] : List Value)).length = ps.length := F.len _ _ _ _ h
  refine wpAny_call (codeAny_mono (F.run B X.stack s H ⟨[.ref a, u], []⟩ ([.ref a, u] ++ []) [.ref a, y] Q E hG hr e1 (hb s [.ref a, u] I.kIn ln) rv h) ?_)
  intro res s' hq
  match res, hq with
  | .error e, hq => exact hx pins σ H s e s' I hq
  | .ok (.ret w), hq => exact I.after hq
theorem op_ownEq (F : FnG X.prog X.w X.K X.mg X.base CX k f fd ps sp) (hb : Binds X.K fd ps []) (hx : Passes CX X E) (hs : PySem.W.findIn X.K (.ref C) "__eq__" = some (some (.ref f))) (hf : PySem.W.isFn X.K (.ref f) = true)
    (hG : X.A.guards = some []) (hr : Room k X.A) : OpR X (compareOp .Eq) (rOwnC X.K C sp E) := by
  rintro pins s σ H x y v u Q I rx ry ⟨a, dx, fs, t, rfl, ea, ty, nf, h⟩
  cases rx
  obtain ⟨mA, J, _⟩ := ins_get I.hok ea
  obtain ⟨od, J, _⟩ := J.look
  obtain ⟨G, Z, p, _⟩ := kit_of I ry ty
  obtain ⟨m, hF⟩ := I.fr
  show wpAny (model X.prog X.w) X.A (richCompare .Eq (.ref a) u) (EP X pins σ Q) X.xe s
  refine PySem.W.cmp_K (op := .Eq) hr.units0 hF I.ok.mod.kin J (Z.ty _ _ I.kIn p) nf hs hf (thn (run_own F hb hx rfl hG hr I ry h) ?_)
  rintro w s' ⟨z, H', I', rz, q⟩
  cases z with
  | non => cases rz; exact ⟨.non, H', I', rfl, q⟩
  | bl b => cases rz; exact ⟨.bl b, H', I', rfl, q⟩
  | int i => obtain ⟨t, rfl⟩ := rz; exact ⟨.int i, H', I', ⟨t, rfl⟩, q⟩
  | str i => obtain ⟨t, rfl⟩ := rz; exact ⟨.str i, H', I', ⟨t, rfl⟩, q⟩
  | byt i => obtain ⟨t, rfl⟩ := rz; exact ⟨.byt i, H', I', ⟨t, rfl⟩, q⟩
  | flt i => obtain ⟨t, rfl⟩ := rz; exact ⟨.flt i, H', I', ⟨t, rfl⟩, q⟩
  | ref i => cases rz; exact ⟨.ref i, H', I', rfl, q⟩
  | ty i => cases rz; exact ⟨.ty i, H', I', rfl, q⟩
/-- len(x), x of an own class -/
def rOwnLen (C : Addr) (sp : Sp) (E : XK) : List V → Hp → VK → Prop := fun xs H Q => ∃ a dx fs, xs = [.ref a] ∧ H a = some (.ins C dx fs) ∧ sp [.ref a] H (fun v G => ∃ n : Int, v = .int n ∧ 0 ≤ n ∧ n < 2 ^ 63 ∧ Q (.int n) G) E
theorem call_ownLen (F : FnG X.prog X.w X.K X.mg X.base CX k f fd ps sp) (hb : Binds X.K fd ps []) (hx : Passes CX X E) (hs : PySem.W.findIn X.K (.ref C) "__len__" = some (some (.ref f))) (hf : PySem.W.isFn X.K (.ref f) = true)
    (hG : X.A.guards = some []) (hr : Room (k + 1) X.A) : CallR X (.builtin "len") (rOwnLen C sp E) := by
  rintro pins s σ H xs us Q I r ⟨a, dx, fs, rfl, ea, h⟩
  obtain ⟨u, rfl, ru⟩ := vals1 r
  cases ru
  obtain ⟨mA, J, _⟩ := ins_get I.hok ea
  obtain ⟨od, J, _⟩ := J.look
  obtain ⟨m, hF⟩ := I.fr
  have e0 := I.env0
  have e1 : Env0 X.prog X.w X.K X.mg X.base X.A.in1 X.stack s H := e0.in1
  have rv : Vals [V.ref a] [Value.ref a] := .cons rfl .nil
  have ln : ([Value.ref a] ++ ([] : List Value)).length = ps.length := F.len _ _ _ _ h
  refine PySem.W.len_K hF I.ok.mod.kin J hs hf (wpAny_call (codeAny_mono (F.run X.A.in1 X.stack s H ⟨[.ref a], []⟩ ([.ref a] ++ []) [.ref a] _ E (in1_guards hG) hr.in1 e1 (hb s [.ref a] I.kIn ln) rv h) ?_))
  intro res s' hq
  match res, hq with
  | .error e, hq => exact hx pins σ H s e s' I hq
  | .ok (.ret w), hq =>
    obtain ⟨v, G, I', rv', n, rfl, h0, h1, q⟩ := I.after hq
    obtain ⟨t, rfl⟩ := rv'
    exact ⟨⟨h0, h1⟩, .int n, G, I'.tok _, ⟨_, rfl⟩, q⟩
/-- x != y, x of an own class with == alone -/
def rOwnNe (K : PySem.W.Frag) (C : Addr) (sp : Sp) (E : XK) : R2 := fun x y H Q => ∃ a dx fs t, x = .ref a ∧ H a = some (.ins C dx fs) ∧ TyX K H y t ∧ PySem.W.notFirst K C t = true ∧ sp [x, y] H (fun v G => ∃ b : Bool, v = .bl b ∧ Q (.bl (!b)) G) E
theorem slot_ne_bind (v : Value) : bindSpecial (.builtin "object.__ne__") v = pure (.builtin "object.__ne__", [v]) := by
  exact PySem.F.cmp_object.ne.bind v
theorem op_ownNe (F : FnG X.prog X.w X.K X.mg X.base CX k f fd ps sp) (hb : Binds X.K fd ps []) (hx : Passes CX X E) (hs : PySem.W.findIn X.K (.ref C) "__eq__" = some (some (.ref f))) (hf : PySem.W.isFn X.K (.ref f) = true)
    (hn : PySem.W.findIn X.K (.ref C) "__ne__" = some (some (.builtin "object.__ne__"))) (ho : PySem.W.subIn X.K (.ref C) (.type "object") = some true)
    (hG : X.A.guards = some []) (hr : Room (k + 1) X.A) : OpR X (compareOp .NotEq) (rOwnNe X.K C sp E) := by
  rintro pins s σ H x y v u Q I rx ry ⟨a, dx, fs, t, rfl, ea, ty, nf, h⟩
  cases rx
  obtain ⟨mA, J, _⟩ := ins_get I.hok ea
  obtain ⟨od, J, _⟩ := J.look
  obtain ⟨G, Z, p, _⟩ := kit_of I ry ty
  have inK := I.kIn
  have tl := Z.ty (model X.prog X.w) _ I.kIn p
  -- what == tells, turned
  have back : wpAny (model X.prog X.w) X.A.in1 (call (.ref f) [.ref a, u]) (fun r s' => ∃ b : Bool, r = .bool b ∧ EP X pins σ Q (.bool (!b)) s') X.xe s := by
    refine thn (run_own F hb hx rfl (in1_guards hG) hr.in1 I ry h) ?_
    rintro w s' ⟨z, H', I', rz, b, rfl, q⟩
    cases rz
    exact ⟨b, rfl, .bl (!b), H', I', rfl, q⟩
  have body : wpAny (model X.prog X.w) X.A.in1 (Builtin.«object.__ne__» ⟨[.ref a, u], []⟩) (fun fin s' => ∃ b : Bool, fin = .done (.ret (.bool b)) ∧ EP X pins σ Q (.bool b) s') X.xe s := by
    unfold Builtin.«object.__ne__»
    have hu : X.A.in1.units < cLine := hr.in1.units0
    repeat (first
      | with_reducible refine wpAny_cRoomFor hu ?_
      | (refine wpAny_bind (m := callSpecialIfBound? (.ref a) (Str.ofString "__eq__") [u]) (PySem.W.ifBound_K inK J hs hf (wpAny_mono back (fun r s' hr => by
          obtain ⟨b, rfl, q⟩ := hr
          repeat (first | exact ⟨_, rfl, q⟩ | exact wpAny_pure ⟨_, rfl, q⟩ | exact wpAny_truthy_bool ⟨_, rfl, q⟩ | (refine wpAny_bind (m := truthy (.bool _)) (wpAny_truthy_bool ?_)) | wp_step)) fun _ _ e => e)))
      | wp_step)
  have callNe : wpAny (model X.prog X.w) X.A (call (.builtin "object.__ne__") [.ref a, u]) (fun r s' => ∃ b : Bool, r = .bool b ∧ EP X pins σ Q (.bool b) s') X.xe s := by
    refine wpAny_call (codeAny_call_builtin PySem.F.cmp_object.ne.plain PySem.F.cmpEntry_ne (PySem.W.check_slot PySem.F.cmpKind_ne PySem.F.cmpSplit_ne (J.type.andThen (PySem.W.looks_subIn inK ho)) (PySem.F.cmpArgs_ne _ _) (wpAny_mono body ?_ fun _ _ e => e)))
    rintro fin s' ⟨b, rfl, q⟩
    exact ⟨b, rfl, q⟩
  have bound : wpAny (model X.prog X.w) X.A (callSpecialIfBound? (.ref a) (Str.ofString "__ne__") [u]) (fun r s' => ∃ b : Bool, r = some (.bool b) ∧ EP X pins σ Q (.bool b) s') X.xe s := by
    simp only [callSpecialIfBound?, bindSpecialIfBound?]
    refine wpAny_holding (wpAny_bind (wpAny_bind (wpAny_bind (J.type.here ((PySem.W.looks_findIn inK hn).here ?_)))))
    have fin : wpAny (model X.prog X.w) X.A (call (.builtin "object.__ne__") ([.ref a] ++ [u]) >>= fun v => pure (some v)) (fun r s' => ∃ b : Bool, r = some (.bool b) ∧ EP X pins σ Q (.bool b) s') X.xe s :=
      wpAny_bind (wpAny_mono callNe (fun r s' ⟨b, e, q⟩ => wpAny_pure ⟨b, by rw [e], q⟩) fun _ _ e => e)
    refine wpAny_bind (wpAny_askSetting (wpAny_ite ?_))
    split
    · refine wpAny_bind ?_
      rw [slot_ne_bind]
      exact wpAny_pure (wpAny_pure (by exact fin))
    · refine wpAny_tryCatch (wpAny_bind ?_)
      rw [slot_ne_bind]
      exact wpAny_pure (wpAny_pure (by exact fin))
  have one : wpAny (model X.prog X.w) X.A (tryCompare (.ref a) (Str.ofString "__ne__") u) (fun r s' => ∃ b : Bool, r = some (.bool b) ∧ EP X pins σ Q (.bool b) s') X.xe s := by
    unfold tryCompare
    exact wpAny_bind (wpAny_mono bound (fun r s' ⟨b, e, q⟩ => by subst e; exact wpAny_pure ⟨b, rfl, q⟩) fun _ _ e => e)
  show wpAny (model X.prog X.w) X.A (richCompare .NotEq (.ref a) u) (EP X pins σ Q) X.xe s
  unfold richCompare
  simp only [oneThing_ref]
  refine wpAny_holding (wpAny_bind (wpAny_cRoomFor hr.units0 ?_))
  refine wpAny_bind (J.type.here (wpAny_bind (tl.here ?_)))
  split
  · rename_i q
    have e : PySem.W.subIn X.K t (.ref C) = some false := by
      rcases Bool.or_eq_true_iff.mp nf with e | e
      · rw [beq_iff_eq.mp e] at q
        simp at q
      · exact beq_iff_eq.mp e
    refine wpAny_bind ((PySem.W.looks_subIn inK e).here ?_)
    simp only [Bool.false_eq_true, if_false]
    refine wpAny_bind (wpAny_mono one ?_ fun _ _ e => e)
    rintro r s' ⟨b, rfl, hq⟩
    exact wpAny_pure hq
  · refine wpAny_bind (wpAny_pure ?_)
    simp only [Bool.false_eq_true, if_false]
    refine wpAny_bind (wpAny_mono one ?_ fun _ _ e => e)
    rintro r s' ⟨b, rfl, hq⟩
    exact wpAny_pure hq
end
end Eld
set_option Elab.async false
set_option maxRecDepth 100000
set_option maxHeartbeats 4000000
set_option linter.all false
namespace Eld
open PySem PySem.Spec PyProof.Rows L2
/-! ## defs, methods and classes by name, and how they are called -/
section
variable (P : Program) (w : World) (K : PySem.W.Frag) (mg : Str → Option Value) (base : Heap)
/-- the def x, called with n values by place and the names ks -/
def DefD (k : Nat) (x : Str) (n : Nat) (ks : List Str) (gV : List V → List V → List V) (sp : Sp) : Prop :=
  ∃ (f : Addr) (fd : FuncData) (ps : List Str) (g : List Value → List Value → List Value), mg x = some (.ref f) ∧ PySem.W.keepIn K (.ref f) = true ∧ FnG P w K mg base CX0 k f fd ps sp ∧ KBn K fd ps n ks g gV
/-- the method m of the class at C; n counts self -/
def MetD (k : Nat) (C : Addr) (m : Str) (n : Nat) (ks : List Str) (gV : List V → List V → List V) (sp : Sp) : Prop :=
  ∃ (f : Addr) (fd : FuncData) (ps : List Str) (g : List Value → List Value → List Value), Cls K C ∧ Meth K C m f ∧ FnG P w K mg base CX0 k f fd ps sp ∧ KBn K fd ps n ks g gV
/-- the class x at C, made with n values by place and the names ks -/
def MakD (k : Nat) (x : Str) (C : Addr) (n : Nat) (ks : List Str) (gV : List V → List V → List V) (sp : Sp) : Prop :=
  ∃ (f : Addr) (fd : FuncData) (ps : List Str) (g : List Value → List Value → List Value), mg x = some (.ref C) ∧ Mk K C f ∧ FnG P w K mg base CX0 k f fd ps sp ∧ KBn K fd ps (n + 1) ks g gV
end
abbrev byPlace : List V → List V → List V := fun xs _ => xs
theorem kbn_place {K : PySem.W.Frag} {fd : FuncData} {ps : List Str} (b : Binds K fd ps []) (n : Nat) (h : n = ps.length) : KBn K fd ps n [] (fun us _ => us) byPlace := by
  refine ⟨fun s us ws X l1 l2 => ?_, fun r _ => r⟩
  have ew : ws = [] := List.eq_nil_of_length_eq_zero l2
  subst ew
  have := b s us X (by rw [List.append_nil, l1, h])
  simpa using this
/-- by names: h as in Fun.binds, «fun _ _ _ _ _ _ us ws h1 h2 => match us, ws, h1, h2 with | [_], [_], _, _ => rfl» -/
theorem Fun_kbn {K : PySem.W.Frag} {x ql : Str} {st : Stmt} {f : Addr} {fd : FuncData} {ps : List Str} (F : Fun K x ql st f fd) (n : Nat) (ks : List Str) (g : List Value → List Value → List Value) (gV : List V → List V → List V)
    (rel : ∀ {vs : List V} {us : List Value} {zs : List V} {ws : List Value}, Vals vs us → Vals zs ws → Vals (gV vs zs) (g us ws))
    (h : ∀ (kV doc pm : Value) (an : Option Addr) (cdv ct : Value) (us ws : List Value), us.length = n → ws.length = ks.length →
      bindArgs (PySem.W.fnOf x ql (defArgs st) (defBody st) (defScope st) .none kV doc pm an cdv ct) ⟨us, ks.zip ws⟩ = pure (ps.zip (g us ws))) : KBn K fd ps n ks g gV := by
  obtain ⟨oc, od, kV, doc, pm, an, cdv, ct, osl, rfl, lk, hcd⟩ := F.ex
  exact ⟨fun s us ws X l1 l2 => BindsTo.of_eq (h kV doc pm an cdv ct us ws l1 l2), rel⟩
section
variable {X : Cx} {ks : List Str} {k j n : Nat} {gV : List V → List V → List V} {sp : Sp} {x m : Str} {C : Addr} {p pos apos : Pos} {e o : Expr} {es : List Expr} {kws : List Keyword} {ta : TE} {t tk : TA}
theorem DefD.callV (d : DefD X.prog X.w X.K X.mg X.base k x n ks gV sp) (hG : X.A.guards = some []) (hr : Room j X.A) (hk : k ≤ j) : ∃ f, X.mg x = some (.ref f) ∧ PySem.W.keepIn X.K (.ref f) = true ∧ CallV X (.ref f) ks (rFn n ks.length gV sp E0) := by
  obtain ⟨f, fd, ps, g, hm, kp, F, b⟩ := d
  exact ⟨f, hm, kp, callV_fn F b pass0 hG (hr.mono hk)⟩
theorem MetD.callV (d : MetD X.prog X.w X.K X.mg X.base k C m n ks gV sp) (hG : X.A.guards = some []) (hr : Room j X.A) (hk : k ≤ j) : ∃ f, Cls X.K C ∧ Meth X.K C m f ∧ CallV X (.ref f) ks (rFn n ks.length gV sp E0) := by
  obtain ⟨f, fd, ps, g, hc, hm, F, b⟩ := d
  exact ⟨f, hc, hm, callV_fn F b pass0 hG (hr.mono hk)⟩
theorem MakD.callV (d : MakD X.prog X.w X.K X.mg X.base k x C n ks gV sp) (hG : X.A.guards = some []) (hr : Room j X.A) (hk : k + 1 ≤ j) : X.mg x = some (.ref C) ∧ PySem.W.keepIn X.K (.ref C) = true ∧ CallV X (.ref C) ks (rMk C n ks.length gV sp E0) := by
  obtain ⟨f, fd, ps, g, hm, M, F, b⟩ := d
  exact ⟨hm, M.kp, callV_mk M F b pass0 hG (hr.mono hk)⟩

theorem pd_pos (d : DefD X.prog X.w X.K X.mg X.base k x n [] gV sp) (hG : X.A.guards = some []) (hr : Room j X.A) (hk : k ≤ j) (hg : Gl X x) (ha : PA X (e :: es) t) (hd : (x == ("__debug__" : Str)) = false := by decide)
    (he : starEach (e :: es) X.env = (false, eval e X.env) :: starEach es X.env := by rfl) (hp : (backTo pos (starEach es X.env)).any (·.1) = false := by rfl) : PE X (.Call (.Name x p) (e :: es) [] pos) (tCl (rFn n 0 gV sp E0) t tNil) := by
  obtain ⟨f, hm, kp, c⟩ := d.callV hG hr hk
  exact pn_pos c hg hm kp ha hd he hp
theorem pd_none (d : DefD X.prog X.w X.K X.mg X.base k x n [] gV sp) (hG : X.A.guards = some []) (hr : Room j X.A) (hk : k ≤ j) (hg : Gl X x) (hd : (x == ("__debug__" : Str)) = false := by decide) :
    PE X (.Call (.Name x p) [] [] pos) (tCl (rFn n 0 gV sp E0) tNil tNil) := by
  obtain ⟨f, hm, kp, c⟩ := d.callV hG hr hk
  exact pn_none c hg hm kp hd
theorem pd_kw0 (d : DefD X.prog X.w X.K X.mg X.base k x n ks gV sp) (hG : X.A.guards = some []) (hr : Room j X.A) (hk : k ≤ j) (hg : Gl X x) (hkw : PK X kws tk) (hall : (backToKw pos (keywordEach kws X.env)).all (·.1.isSome) = true := by rfl)
    (hks : (backToKw pos (keywordEach kws X.env)).filterMap (·.1) = ks := by rfl) (hd : (x == ("__debug__" : Str)) = false := by decide)
    (hp : ((backTo pos (starEach [] X.env)).any (·.1) || (backToKw pos (keywordEach kws X.env)).any (·.1.isNone)) = false := by rfl) : PE X (.Call (.Name x p) [] kws pos) (tCl (rFn n ks.length gV sp E0) tNil tk) := by
  obtain ⟨f, hm, kp, c⟩ := d.callV hG hr hk
  exact pn_kw0 c hg hm kp hkw hall hks hd hp
theorem pd_kw (d : DefD X.prog X.w X.K X.mg X.base k x n ks gV sp) (hG : X.A.guards = some []) (hr : Room j X.A) (hk : k ≤ j) (hg : Gl X x) (ha : PA X (e :: es) t) (hkw : PK X kws tk) (hall : (backToKw pos (keywordEach kws X.env)).all (·.1.isSome) = true := by rfl)
    (hks : (backToKw pos (keywordEach kws X.env)).filterMap (·.1) = ks := by rfl) (hd : (x == ("__debug__" : Str)) = false := by decide) (he : starEach (e :: es) X.env = (false, eval e X.env) :: starEach es X.env := by rfl)
    (hp : ((backTo pos (starEach (e :: es) X.env)).any (·.1) || (backToKw pos (keywordEach kws X.env)).any (·.1.isNone)) = false := by rfl) : PE X (.Call (.Name x p) (e :: es) kws pos) (tCl (rFn n ks.length gV sp E0) t tk) := by
  obtain ⟨f, hm, kp, c⟩ := d.callV hG hr hk
  exact pn_kw c hg hm kp ha hkw hall hks hd he hp
theorem pk_pos (d : MakD X.prog X.w X.K X.mg X.base k x C n [] gV sp) (hG : X.A.guards = some []) (hr : Room j X.A) (hk : k + 1 ≤ j) (hg : Gl X x) (ha : PA X (e :: es) t) (hd : (x == ("__debug__" : Str)) = false := by decide)
    (he : starEach (e :: es) X.env = (false, eval e X.env) :: starEach es X.env := by rfl) (hp : (backTo pos (starEach es X.env)).any (·.1) = false := by rfl) : PE X (.Call (.Name x p) (e :: es) [] pos) (tCl (rMk C n 0 gV sp E0) t tNil) := by
  obtain ⟨hm, kp, c⟩ := d.callV hG hr hk
  exact pn_pos c hg hm kp ha hd he hp
theorem pk_kw0 (d : MakD X.prog X.w X.K X.mg X.base k x C n ks gV sp) (hG : X.A.guards = some []) (hr : Room j X.A) (hk : k + 1 ≤ j) (hg : Gl X x) (hkw : PK X kws tk) (hall : (backToKw pos (keywordEach kws X.env)).all (·.1.isSome) = true := by rfl)
    (hks : (backToKw pos (keywordEach kws X.env)).filterMap (·.1) = ks := by rfl) (hd : (x == ("__debug__" : Str)) = false := by decide)
    (hp : ((backTo pos (starEach [] X.env)).any (·.1) || (backToKw pos (keywordEach kws X.env)).any (·.1.isNone)) = false := by rfl) : PE X (.Call (.Name x p) [] kws pos) (tCl (rMk C n ks.length gV sp E0) tNil tk) := by
  obtain ⟨hm, kp, c⟩ := d.callV hG hr hk
  exact pn_kw0 c hg hm kp hkw hall hks hd hp
variable {pl : Sem Bool}
theorem pq_pos (d : MetD X.prog X.w X.K X.mg X.base k C m n [] gV sp) (hG : X.A.guards = some []) (hr : Room j X.A) (hk : k ≤ j) (ho : PE X o ta) (ha : PA X (e :: es) t) (he : starEach (e :: es) X.env = (false, eval e X.env) :: starEach es X.env := by rfl)
    (hp : (backTo pos (starEach es X.env)).any (·.1) = false := by rfl) (ht : eval (.Call (.Attribute o m apos) (e :: es) [] pos) X.env = (do
      let ov ← eval o X.env
      standAt apos.atName
      let (f, first) ← holding [ov] (getMethod ov m pl)
      callWith pos f first (backTo pos (starEach (e :: es) X.env)) (backToKw pos (keywordEach [] X.env))) := by rfl) : PE X (.Call (.Attribute o m apos) (e :: es) [] pos) (tMt C m (rFn n 0 gV sp E0) ta t tNil) := by
  obtain ⟨f, hc, hm, c⟩ := d.callV hG hr hk
  exact pm_pos c hc hm ho ha he hp ht
theorem pq_none (d : MetD X.prog X.w X.K X.mg X.base k C m n [] gV sp) (hG : X.A.guards = some []) (hr : Room j X.A) (hk : k ≤ j) (ho : PE X o ta) (ht : eval (.Call (.Attribute o m apos) [] [] pos) X.env = (do
      let ov ← eval o X.env
      standAt apos.atName
      let (f, first) ← holding [ov] (getMethod ov m pl)
      callWith pos f first (backTo pos (starEach [] X.env)) (backToKw pos (keywordEach [] X.env))) := by rfl) : PE X (.Call (.Attribute o m apos) [] [] pos) (tMt C m (rFn n 0 gV sp E0) ta tNil tNil) := by
  obtain ⟨f, hc, hm, c⟩ := d.callV hG hr hk
  exact pm_none c hc hm ho ht
theorem pq_kw0 (d : MetD X.prog X.w X.K X.mg X.base k C m n ks gV sp) (hG : X.A.guards = some []) (hr : Room j X.A) (hk : k ≤ j) (ho : PE X o ta) (hkw : PK X kws tk) (hall : (backToKw pos (keywordEach kws X.env)).all (·.1.isSome) = true := by rfl)
    (hks : (backToKw pos (keywordEach kws X.env)).filterMap (·.1) = ks := by rfl)
    (hp : ((backTo pos (starEach [] X.env)).any (·.1) || (backToKw pos (keywordEach kws X.env)).any (·.1.isNone)) = false := by rfl) (ht : eval (.Call (.Attribute o m apos) [] kws pos) X.env = (do
      let ov ← eval o X.env
      standAt apos.atName
      let (f, first) ← holding [ov] (getMethod ov m pl)
      callWith pos f first (backTo pos (starEach [] X.env)) (backToKw pos (keywordEach kws X.env))) := by rfl) : PE X (.Call (.Attribute o m apos) [] kws pos) (tMt C m (rFn n ks.length gV sp E0) ta tNil tk) := by
  obtain ⟨f, hc, hm, c⟩ := d.callV hG hr hk
  exact pm_kw0 c hc hm ho hkw hall hks hp ht
end

/-! ## built-ins, their readings by name -/
section
variable {X : Cx}
def rInt1 : List V → Hp → VK → Prop := fun xs H Q => (∃ i, xs = [.int i] ∧ Q (.int i) H) ∨ ∃ k, xs = [.bl k] ∧ Q (.int (if k then 1 else 0)) H
theorem c_int : CallR X (.type "int") rInt1 := call_int1
def rAbs : List V → Hp → VK → Prop := fun xs H Q => ∃ i, xs = [.int i] ∧ Q (.int (if i < 0 then -i else i)) H
theorem c_abs : CallR X (.builtin "abs") rAbs := call_abs
def rMax2 : List V → Hp → VK → Prop := fun xs H Q => ∃ i j, xs = [.int i, .int j] ∧ Q (.int (if j > i then j else i)) H
theorem c_max2 (hc : X.calm = true) : CallR X (.builtin "max") rMax2 := call_max2 hc
def rMin2 : List V → Hp → VK → Prop := fun xs H Q => ∃ i j, xs = [.int i, .int j] ∧ Q (.int (if j < i then j else i)) H
theorem c_min2 (hc : X.calm = true) : CallR X (.builtin "min") rMin2 := call_min2 hc
def rBool1 : List V → Hp → VK → Prop := fun xs H Q => (∃ i, xs = [.int i] ∧ Q (.bl (i != 0)) H) ∨ ∃ k, xs = [.bl k] ∧ Q (.bl k) H
theorem c_bool : CallR X (.type "bool") rBool1 := call_bool1
def rStrI : List V → Hp → VK → Prop := fun xs H Q => ∃ i, xs = [.int i] ∧ i.natAbs.log2 < 1920 ∧ Q (.str (toString i)) H
theorem c_str : CallR X (.type "str") rStrI := call_str_int
def rLen (K : PySem.W.Frag) : List V → Hp → VK → Prop := fun xs H Q => ∃ x n, xs = [x] ∧ LenV K x H n ∧ Q (.int n) H
theorem c_len : CallR X (.builtin "len") (rLen X.K) := call_len
def rListOf (K : PySem.W.Frag) : List V → Hp → VK → Prop := fun xs H Q => ∃ p ys, xs = [.ref p] ∧ (SqL K H p ys ∨ SqT K H p ys) ∧ ∀ l, H l = none → Q (.ref l) (upd H l (.lst ys))
theorem c_list : CallR X (.type "list") (rListOf X.K) := call_list_of
def rTupleOf (K : PySem.W.Frag) : List V → Hp → VK → Prop := fun xs H Q => ∃ p ys, xs = [.ref p] ∧ ((SqL K H p ys ∧ ∀ l, H l = none → Q (.ref l) (upd H l (.tup ys))) ∨ (SqT K H p ys ∧ Q (.ref p) H))
theorem c_tuple : CallR X (.type "tuple") (rTupleOf X.K) := call_tuple_of
def rIntS : List V → Hp → VK → Prop := fun xs H Q => ∃ a n, xs = [.str a] ∧ PySem.intText? a = some n ∧ a.length ≤ 640 ∧ Q (.int n) H
theorem c_intS : CallR X (.type "int") rIntS := call_int_str
end

theorem pe_cls {X : Cx} {x : Str} {pos : Pos} {C : Addr} (hg : Gl X x) (hm : X.mg x = some (.ref C)) (hd : (x == ("__debug__" : Str)) = false := by decide) : PE X (.Name x pos) (tC (.ref C)) := pe_glob hg hm rfl hd
/-! ## readings, step by step -/
section
variable {σ : L2.St} {H : Hp} {Q : VK} {D : Ends} {K : PySem.W.Frag} {E : XK}
theorem r_seq {t : TS} {u : TS} (h : t { D with nx := u D } σ H) : tSeq t u D σ H := h
theorem r_asgN {te : TE} {i : Nat} (h : te σ H fun x H1 => D.nx (σ.set i (some x)) H1) : tAsg te (gName i) D σ H := h
theorem r_asg {te : TE} {g : TG} (h : te σ H fun x H1 => g x σ H1 D.nx) : tAsg te g D σ H := h
theorem r_gname {i : Nat} {v : V} {q : L2.St → Hp → Prop} (h : q (σ.set i (some v)) H) : gName i v σ H q := h
theorem r_gsub {to ti : TE} {t : TSet} {x : V} {q : L2.St → Hp → Prop} (h : to σ H fun o H1 => ti σ H1 fun i H2 => t o i x H2 fun H3 => q σ H3) : gSub to ti t x σ H q := h
theorem r_var {i : Nat} {v : V} (e : σ[i]? = some (some v)) (h : Q v H) : tVar i σ H Q := ⟨v, e, h⟩
theorem r_c {v : V} (h : Q v H) : tC v σ H Q := h
theorem r_op {r : R2} {ta tb : TE} (h : ta σ H fun x H1 => tb σ H1 fun y H2 => r x y H2 Q) : tOp r ta tb σ H Q := h
theorem r_un {r : V → Hp → VK → Prop} {ta : TE} (h : ta σ H fun x H1 => r x H1 Q) : tUn r ta σ H Q := h
theorem r_u {g : Int → V} {i : Int} (h : Q (g i) H) : rU g (.int i) H Q := ⟨i, rfl, h⟩
theorem r_i0 {g : Int → Int → V} {i j : Int} (h : Q (g i j) H) : rI0 g (.int i) (.int j) H Q := ⟨i, j, rfl, rfl, h⟩
theorem r_i {C : Int → Int → Prop} {g : Int → Int → V} {i j : Int} (hc : C i j) (h : Q (g i j) H) : rI C g (.int i) (.int j) H Q := ⟨i, j, rfl, rfl, hc, h⟩
theorem r_eqI {i j : Int} (h : Q (.bl (decide (V.int i = V.int j))) H) : rEq (.int i) (.int j) H Q := ⟨rfl, h⟩
theorem r_neI {i j : Int} (h : Q (.bl (!decide (V.int i = V.int j))) H) : rNe (.int i) (.int j) H Q := ⟨rfl, h⟩
theorem r_eqB {i j : Bool} (h : Q (.bl (decide (V.bl i = V.bl j))) H) : rEq (.bl i) (.bl j) H Q := ⟨rfl, h⟩
theorem r_neB {i j : Bool} (h : Q (.bl (!decide (V.bl i = V.bl j))) H) : rNe (.bl i) (.bl j) H Q := ⟨rfl, h⟩
theorem r_eqS {i j : Str} (h : Q (.bl (decide (V.str i = V.str j))) H) : rEq (.str i) (.str j) H Q := ⟨rfl, h⟩
theorem r_neS {i j : Str} (h : Q (.bl (!decide (V.str i = V.str j))) H) : rNe (.str i) (.str j) H Q := ⟨rfl, h⟩
theorem r_cb {r : List V → Hp → VK → Prop} {t : TA} (h : t σ H fun xs H1 => r xs H1 Q) : tCB r t σ H Q := h
theorem r_cl {r : List V → List V → Hp → VK → Prop} {t tk : TA} (h : t σ H fun xs H1 => tk σ H1 fun ys H2 => r xs ys H2 Q) : tCl r t tk σ H Q := h
theorem r_fn {n m : Nat} {gV : List V → List V → List V} {sp : Sp} {xs ys : List V} (h1 : xs.length = n) (h2 : ys.length = m) (h : sp (gV xs ys) H Q E) : rFn n m gV sp E xs ys H Q := ⟨h1, h2, h⟩
theorem r_mk {C : Addr} {n m : Nat} {gV : List V → List V → List V} {sp : Sp} {xs ys : List V} (h1 : xs.length = n) (h2 : ys.length = m)
    (h : ∀ x dx, H x = none → H dx = none → dx ≠ x → sp (gV (.ref x :: xs) ys) (upd (upd H dx (.own x)) x (.ins C dx [])) (fun v G => v = .non ∧ Q (.ref x) G) E) : rMk C n m gV sp E xs ys H Q := ⟨h1, h2, h⟩
theorem r_mt {C : Addr} {m : Str} {r : List V → List V → Hp → VK → Prop} {ta : TE} {t tk : TA} (h : ta σ H fun x H1 => ∃ a dx fs, x = .ref a ∧ H1 a = some (.ins C dx fs) ∧ List.lookup m fs = none ∧ t σ H1 fun xs H2 => tk σ H2 fun ys H3 => r (.ref a :: xs) ys H3 Q) : tMt C m r ta t tk σ H Q := h
theorem r_cons {ta : TE} {tr : TA} {q : List V → Hp → Prop} (h : ta σ H fun x H1 => tr σ H1 fun xs H2 => q (x :: xs) H2) : tCons ta tr σ H q := h
theorem r_nil {q : List V → Hp → Prop} (h : q [] H) : tNil σ H q := h
theorem r_test {t : TE} {q : Bool → Hp → Prop} (h : t σ H fun x H1 => ∃ k, x = .bl k ∧ q k H1) : tTest t σ H q := h
theorem r_tb {t : TE} {q : Bool → Hp → Prop} (h : t σ H fun x H1 => ∃ k, x = .bl k ∧ q k H1) : tB t σ H q := h
theorem r_bl {b : Bool} {q : Bool → Prop} (h : q b) : ∃ k, V.bl b = V.bl k ∧ q k := ⟨b, rfl, h⟩
theorem r_and {t u : TT} {q : Bool → Hp → Prop} (h : t σ H fun c H1 => if c = true then u σ H1 q else q false H1) : tAnd t u σ H q := h
theorem r_or {t u : TT} {q : Bool → Hp → Prop} (h : t σ H fun c H1 => if c = true then q true H1 else u σ H1 q) : tOr t u σ H q := h
theorem r_not {t : TT} {q : Bool → Hp → Prop} (h : t σ H fun c H1 => q (!c) H1) : tNot t σ H q := h
theorem r_andV {ta tb : TE} (h : ta σ H fun x H1 => ∃ c, x = .bl c ∧ if c = true then tb σ H1 Q else Q (.bl false) H1) : tAndV ta tb σ H Q := h
theorem r_orV {ta tb : TE} (h : ta σ H fun x H1 => ∃ c, x = .bl c ∧ if c = true then Q (.bl true) H1 else tb σ H1 Q) : tOrV ta tb σ H Q := h
theorem r_notV {ta : TE} (h : ta σ H fun x H1 => ∃ c, x = .bl c ∧ Q (.bl (!c)) H1) : tNotV ta σ H Q := h
theorem r_ifX {c : TT} {ta tb : TE} (h : c σ H fun k H1 => if k = true then ta σ H1 Q else tb σ H1 Q) : tIf c ta tb σ H Q := h
theorem r_ifs {c : TT} {t u : TS} (h : c σ H fun b H1 => if b = true then t D σ H1 else u D σ H1) : tIfS c t u D σ H := h
theorem r_chain {r r' : R2} {ta tb tc : TE} (h : ta σ H fun x H1 => tb σ H1 fun y H2 => r x y H2 fun z H3 => ∃ k, z = .bl k ∧ (if k = true then tc σ H3 fun w' H4 => r' y w' H4 Q else Q (.bl false) H3)) : tChain r r' ta tb tc σ H Q := h
theorem r_ret {te : TE} (h : te σ H D.rt) : tRet te D σ H := h
theorem r_next (h : D.nx σ H) : tNext D σ H := h
theorem r_drop {te : TE} (h : te σ H fun _ H1 => D.nx σ H1) : tDrop te D σ H := h
theorem r_ixL {p : Addr} {xs : List V} {i : Int} {v : V} (h : SqL K H p xs) (e : atI xs i = some v) (q : Q v H) : rIxL K (.ref p) (.int i) H Q := ⟨p, xs, i, v, rfl, rfl, h, e, q⟩
theorem r_ixT {p : Addr} {xs : List V} {i : Int} {v : V} (h : SqT K H p xs) (e : atI xs i = some v) (q : Q v H) : rIxT K (.ref p) (.int i) H Q := ⟨p, xs, i, v, rfl, rfl, h, e, q⟩
theorem r_setL {p : Addr} {xs : List V} {k : Int} {j : Nat} {v : V} {q : Hp → Prop} (h : H p = some (.lst xs)) (e : ixN xs.length k = some j) (hq : q (upd H p (.lst (xs.set j v)))) : rSetL (.ref p) (.int k) v H q := ⟨p, xs, k, j, rfl, rfl, h, e, hq⟩
theorem r_int1 {i : Int} (h : Q (.int i) H) : rInt1 [.int i] H Q := .inl ⟨i, rfl, h⟩
theorem r_abs {i : Int} (h : Q (.int (if i < 0 then -i else i)) H) : rAbs [.int i] H Q := ⟨i, rfl, h⟩
theorem r_max2 {i j : Int} (h : Q (.int (if j > i then j else i)) H) : rMax2 [.int i, .int j] H Q := ⟨i, j, rfl, h⟩
theorem r_min2 {i j : Int} (h : Q (.int (if j < i then j else i)) H) : rMin2 [.int i, .int j] H Q := ⟨i, j, rfl, h⟩
theorem r_boolB {k : Bool} (h : Q (.bl k) H) : rBool1 [.bl k] H Q := .inr ⟨k, rfl, h⟩
theorem r_strI {i : Int} (hi : i.natAbs.log2 < 1920) (h : Q (.str (toString i)) H) : rStrI [.int i] H Q := ⟨i, rfl, hi, h⟩
theorem r_lenL {p : Addr} {xs : List V} (hs : SqL K H p xs) (h : Q (.int (xs.length : Nat)) H) : rLen K [.ref p] H Q := ⟨.ref p, xs.length, rfl, .inl ⟨xs, hs, rfl⟩, h⟩
theorem r_lenT {p : Addr} {xs : List V} (hs : SqT K H p xs) (h : Q (.int (xs.length : Nat)) H) : rLen K [.ref p] H Q := ⟨.ref p, xs.length, rfl, .inr ⟨xs, hs, rfl⟩, h⟩
theorem r_lenS {y : Str} (hy : y.length ≤ sizeLine) (h : Q (.int (y.length : Nat)) H) : rLen K [.str y] H Q := ⟨.str y, y.length, rfl, ⟨hy, rfl⟩, h⟩
theorem r_listL {p : Addr} {ys : List V} (hs : SqL K H p ys) (h : ∀ l, H l = none → Q (.ref l) (upd H l (.lst ys))) : rListOf K [.ref p] H Q := ⟨p, ys, rfl, .inl hs, h⟩
theorem r_listT {p : Addr} {ys : List V} (hs : SqT K H p ys) (h : ∀ l, H l = none → Q (.ref l) (upd H l (.lst ys))) : rListOf K [.ref p] H Q := ⟨p, ys, rfl, .inr hs, h⟩
theorem r_tupleL {p : Addr} {ys : List V} (hs : SqL K H p ys) (h : ∀ l, H l = none → Q (.ref l) (upd H l (.tup ys))) : rTupleOf K [.ref p] H Q := ⟨p, ys, rfl, .inl ⟨hs, h⟩⟩
theorem r_tupleT {p : Addr} {ys : List V} (hs : SqT K H p ys) (h : Q (.ref p) H) : rTupleOf K [.ref p] H Q := ⟨p, ys, rfl, .inr ⟨hs, h⟩⟩
theorem r_isiB {x : V} {t T : String} {b : Bool} (ty : TyX K H x (.type t)) (hk : kitB t T = some b) (h : Q (.bl b) H) : rIsi K [x, .ty T] H Q := ⟨x, .ty T, .type t, .type T, b, rfl, .ty T, ty, kit_ty hk, h⟩
theorem r_isiO {x : V} {t : Value} {C : Addr} {b : Bool} (ty : TyX K H x t) (hk : PySem.W.kitOne K t (.ref C) = some b) (h : Q (.bl b) H) : rIsi K [x, .ref C] H Q := ⟨x, .ref C, t, .ref C, b, rfl, .own C, ty, hk, h⟩
theorem r_tup {t : TA} (h : t σ H fun xs H1 => xs.length ≤ sizeLine ∧ ∀ p, H1 p = none → Q (.ref p) (upd H1 p (.tup xs))) : tTup t σ H Q := h
theorem r_lst {t : TA} (h : t σ H fun xs H1 => xs.length ≤ sizeLine ∧ ∀ p, H1 p = none → Q (.ref p) (upd H1 p (.lst xs))) : tLst t σ H Q := h
theorem r_rng1 {t : TA} {R : It → Hp → Prop} (h : t σ H fun vs H1 => ∃ j : Int, vs = [.int j] ∧ -(2 ^ 62) ≤ j ∧ j < 2 ^ 62 ∧ R (Itr 0 j.toNat) H1) : iRng1 t σ H R := h
theorem r_rng2 {t : TA} {R : It → Hp → Prop} (h : t σ H fun vs H1 => ∃ i j : Int, vs = [.int i, .int j] ∧ (-(2 ^ 62) ≤ i ∧ i < 2 ^ 62 ∧ -(2 ^ 62) ≤ j ∧ j < 2 ^ 62) ∧ R (Itr i (j - i).toNat) H1) : iRng2 t σ H R := h
theorem r_sfld {ta tv : TE} {f : Str} (h : tv σ H fun y H1 => ta σ H1 fun x H2 => ∃ a C dx fs, x = .ref a ∧ H2 a = some (.ins C dx fs) ∧ Cls K C ∧ NoAttr K C f ∧ fs.length < 1000 ∧ D.nx σ (upd H2 a (.ins C dx (putF f y fs)))) : sFld K ta tv f D σ H := h
theorem r_m0 {r : V → List V → Hp → VK → Prop} {to : TE} (h : to σ H fun x H1 => (∃ a, x = .str a) ∧ r x [] H1 Q) : tM0 r to σ H Q := h
theorem r_m1 {r : V → List V → Hp → VK → Prop} {to te : TE} (h : to σ H fun x H1 => (∃ a, x = .str a) ∧ te σ H1 fun y H2 => r x [y] H2 Q) : tM1 r to te σ H Q := h
theorem r_fld {ta : TE} {f : Str} (h : tFld K ta f σ H Q) : tFld K ta f σ H Q := h
end
end Eld
set_option Elab.async false
set_option maxRecDepth 100000
set_option maxHeartbeats 4000000
set_option linter.all false
namespace Eld
open PySem PySem.Spec PyProof.Rows L2
section
variable {X : Cx}
/-! ### a tuple of which it is known that it has no dict -/
/-- a tuple that was made of a list here: it has no dict, so its methods may be asked -/
def BareT (H : Hp) (a : Addr) (ys : List V) : Prop := ∃ o : Obj, H a = some (.frz o (.tup ys)) ∧ o.dict = none
theorem BareT.sq {K : PySem.W.Frag} {H : Hp} {a : Addr} {ys : List V} (h : BareT H a ys) : SqT K H a ys := by
  obtain ⟨o, e, _⟩ := h
  exact .inl (.inr ⟨o, e⟩)
/-- tuple(l) of a list, the new tuple being known as one without a dict -/
def rTupleB (K : PySem.W.Frag) : List V → Hp → VK → Prop := fun xs H Q => ∃ p ys, xs = [.ref p] ∧ SqL K H p ys ∧ ∀ l (o : Obj), H l = none → o.dict = none → Q (.ref l) (upd H l (.frz o (.tup ys)))
theorem call_tupleB : CallR X (.type "tuple") (rTupleB X.K) := by
  intro pins s σ H xs us Q I r h
  obtain ⟨p, ys, rfl, hq, q⟩ := h
  obtain ⟨u, rfl, rx⟩ := vals1 r
  cases rx
  obtain ⟨its, r', pl, hz⟩ := I.list hq
  have hlen := r'.length
  refine call_tuple_list pl.isList (fun h' kp => ?_) (by simp only [List.size_toArray] <;> omega)
  have I1 : Inv X pins σ H { s with heap := h' } := I.kept (t' := s.toks) kp
  have I2 : Inv X pins σ (upd H h'.objs.size (.frz { cls := .type "tuple", data := .seq its.toArray } (.tup ys))) { s with heap := h'.push { cls := .type "tuple", data := .seq its.toArray } } :=
    I1.laid (t' := s.toks) (fun b o e => Heap.get?_push_of_some _ e) (Nat.le_refl _) (show ObjOk X.prog X.w _ _ _ (.frz _ (.tup ys)) from ⟨Heap.get?_push_size _ rfl, hz, its, r', IsTup.new _ _⟩)
  exact ⟨.ref h'.objs.size, _, I2, rfl, q _ _ (I1.hok.fresh (Nat.le_refl _)) rfl⟩
/-- o.m(e, ..) of such a tuple -/
def tTM (r : V → List V → Hp → VK → Prop) (to : TE) (t : TA) : TE := fun σ H Q => to σ H fun x H1 => (∃ a ys, x = .ref a ∧ BareT H1 a ys) ∧ t σ H1 fun xs H2 => r x xs H2 Q
variable {o e : Expr} {es : List Expr} {to : TE} {t : TA} {name : Str} {apos cpos : Pos} {id : String} {r : V → List V → Hp → VK → Prop}
theorem pe_tm (pa : PlainAttrs "tuple") (slot : Slot "tuple" name id) (hty : typeOf (.builtin id) = pure (.type "method_descriptor")) (hm : MtR X id r) (ho : PE X o to) (ha : PA X (e :: es) t)
    (hbase : attributeBase o name X.env (eval o X.env) = eval o X.env := by rfl)
    (hfew : ((backTo cpos (starEach (e :: es) X.env)).all (fun x => !x.1) && (backToKw cpos (keywordEach [] X.env)).all (fun x => x.1.isSome)
      && decide ((e :: es).length + ([] : List Keyword).length + (if ([] : List Keyword).isEmpty then 0 else 1) < 30)) = true := by rfl)
    (hline : (apos.endLine == cpos.line) = true := by rfl) (hs : starEach (e :: es) X.env = (false, eval e X.env) :: starEach es X.env := by rfl) (hplain : (backTo cpos (starEach es X.env)).any (·.1) = false := by rfl) :
    PE X (.Call (.Attribute o name apos) (e :: es) [] cpos) (tTM r to t) := by
  refine ⟨fun pins s σ H Q I h => ?_⟩
  refine wpAny_Call_method_late hbase hfew hline rfl (thn (ho.run pins s σ H _ I h) fun v s1 ⟨x, H1, I1, r1, ty, q1⟩ => ?_)
  obtain ⟨a, ys, rfl, ob, hob, hd⟩ := ty
  cases r1
  obtain ⟨g1, _, its, _, ob', g2, c2, _⟩ := (show ObjOk X.prog X.w H1 s1.heap a (.frz ob (.tup ys)) from I1.hok a _ hob)
  have h1 : s1.TypeIs (.ref a) "tuple" := ⟨ob', g2, c2⟩
  have h2 : ∀ b, Value.ref a = .ref b → ∃ ob, s1.heap.get? b = some ob ∧ ob.dict = none := fun b e => by cases e; exact ⟨ob, g1, hd⟩
  refine ⟨"tuple", id, pa, slot, hty, h1, h2, ?_⟩
  have hA := ha.run cpos pins s1 σ H1 _ I1 q1
  rw [hs] at hA ⊢
  refine Calls.callWith_builtin (by show (false || (backTo cpos (starEach es X.env)).any (·.1)) = false; rw [hplain] <;> rfl) (Calls.evalArgs_plain ?_)
  exact thn hA fun us s2 ⟨vs, H2, I2, r2, q2⟩ => hm pins s2 σ H2 (.ref a) vs (.ref a) us Q I2 rfl r2 q2
end
end Eld
set_option Elab.async false
set_option maxRecDepth 100000
set_option maxHeartbeats 4000000
set_option linter.all false
namespace Eld
open PySem PySem.Spec PyProof.Rows L2
/-! ## data with empty dicts in it -/
mutual
inductive Dx (K : PySem.W.Frag) (H : Hp) : V → PyData → Prop
  | non : Dx K H .non .none
  | bl (b : Bool) : Dx K H (.bl b) (.bool b)
  | int (i : Int) : Dx K H (.int i) (.int i)
  | str (x : Str) : Dx K H (.str x) (.str x)
  | lst {a : Addr} {xs : List V} {ds : List PyData} (h : H a = some (.lst xs)) (r : DxAll K H xs ds) : Dx K H (.ref a) (.list ds)
  | tup {a : Addr} {xs : List V} {ds : List PyData} (h : H a = some (.tup xs)) (r : DxAll K H xs ds) : Dx K H (.ref a) (.tuple ds)
  | emp {a : Addr} (h : H a = some (.dK [])) : Dx K H (.ref a) (.dict [])
inductive DxAll (K : PySem.W.Frag) (H : Hp) : List V → List PyData → Prop
  | nil : DxAll K H [] []
  | cons {v : V} {vs : List V} {d : PyData} {ds : List PyData} (h : Dx K H v d) (r : DxAll K H vs ds) : DxAll K H (v :: vs) (d :: ds)
end
section
variable {K : PySem.W.Frag} {H H' : Hp}
mutual
theorem Dx.same (s : Same H H') : ∀ (d : PyData) (v : V), Dx K H v d → Dx K H' v d
  | .none, _, h => by cases h; exact .non
  | .bool b, _, h => by cases h; exact .bl b
  | .int i, _, h => by cases h; exact .int i
  | .str x, _, h => by cases h; exact .str x
  | .list ds, _, h => by
    cases h with
    | lst e r => exact .lst (s _ _ e) (DxAll.same s ds _ r)
  | .tuple ds, _, h => by
    cases h with
    | tup e r => exact .tup (s _ _ e) (DxAll.same s ds _ r)
  | .dict _, _, h => by
    cases h with
    | emp e => exact .emp (s _ _ e)
theorem DxAll.same (s : Same H H') : ∀ (ds : List PyData) (vs : List V), DxAll K H vs ds → DxAll K H' vs ds
  | [], _, h => by cases h; exact .nil
  | d :: ds, _, h => by
    cases h with
    | cons h r => exact .cons (Dx.same s d _ h) (DxAll.same s ds _ r)
end
/-- the type's name -/
def tyD : PyData → String
  | .none => "NoneType"
  | .bool _ => "bool"
  | .int _ => "int"
  | .str _ => "str"
  | .list _ => "list"
  | .tuple _ => "tuple"
  | .dict _ => "dict"
theorem Dx.ty : ∀ {v : V} {d : PyData}, Dx K H v d → TyX K H v (.type (tyD d))
  | _, _, .non => .base .non
  | _, _, .bl b => .base (.bl b)
  | _, _, .int i => .base (.int i)
  | _, _, .str x => .base (.str x)
  | _, _, .lst h _ => .base (.lst h)
  | _, _, .tup h _ => .base (.tup h)
  | _, _, .emp h => .base (.dK h)
mutual
/-- no dict in it: plain data -/
theorem Dx.plain : ∀ (d : PyData) (v : V), Dx K H v d → d.hasDict = false → Dp K H v d
  | .none, _, h, _ => by cases h; exact .non
  | .bool b, _, h, _ => by cases h; exact .bl b
  | .int i, _, h, _ => by cases h; exact .int i
  | .str x, _, h, _ => by cases h; exact .str x
  | .list ds, _, h, n => by
    cases h with
    | lst e r => exact .lst (SqL.of e) (DxAll.plain ds _ r (by simpa [PyData.hasDict] using n))
  | .tuple ds, _, h, n => by
    cases h with
    | tup e r => exact .tup (SqT.of e) (DxAll.plain ds _ r (by simpa [PyData.hasDict] using n))
  | .dict _, _, h, n => by simp [PyData.hasDict] at n
theorem DxAll.plain : ∀ (ds : List PyData) (vs : List V), DxAll K H vs ds → PyData.hasDictAll ds = false → DpAll K H vs ds
  | [], _, h, _ => by cases h; exact .nil
  | d :: ds, _, h, n => by
    simp only [PyData.hasDictAll, Bool.or_eq_false_iff] at n
    cases h with
    | cons h r => exact .cons (Dx.plain d _ h n.1) (DxAll.plain ds _ r n.2)
end
theorem DxAll.length : ∀ {vs : List V} {ds : List PyData}, DxAll K H vs ds → vs.length = ds.length
  | _, _, .nil => rfl
  | _, _, .cons _ r => by rw [List.length_cons, List.length_cons, DxAll.length r]
theorem DxAll.at_ : ∀ {vs : List V} {ds : List PyData} {i : Nat} {v : V}, DxAll K H vs ds → vs[i]? = some v → ∃ d, ds[i]? = some d ∧ Dx K H v d
  | _, _, _, _, .nil, e => by simp at e
  | _, _, 0, _, .cons h _, e => by cases e; exact ⟨_, rfl, h⟩
  | _, _, i + 1, _, .cons _ r, e => DxAll.at_ (i := i) r (by simpa using e)
end
section
variable {X : Cx} {pins : List (Addr × Obj)} {σ : L2.St} {H : Hp} {s : Shared}
/-- the table of modules is there ahead of all -/
def ModsD (base : Heap) : Prop := ∃ o : Obj, base.get? sysModules = some o
theorem not_mods (I : Inv X pins σ H s) (m : ModsD X.base) {a : Addr} {o : HO} (e : H a = some o) : a ≠ sysModules := by
  rintro rfl
  obtain ⟨o', k⟩ := m
  rw [(I.bs _ _ k).2] at e
  cases e
mutual
theorem Dx.reads (I : Inv X pins σ H s) (m : ModsD X.base) : ∀ (d : PyData) (v : V) (u : Value), Dx X.K H v d → RelV v u → ∃ as, Reads s.heap u d as ∧ sysModules ∉ as
  | .none, _, _, h, r => by
    cases h
    cases r
    exact ⟨_, .none, by simp⟩
  | .bool b, _, _, h, r => by
    cases h
    cases r
    exact ⟨_, .bool b, by simp⟩
  | .int i, _, _, h, r => by
    cases h
    obtain ⟨t, rfl⟩ := r
    exact ⟨_, .int i t, by simp⟩
  | .str x, _, _, h, r => by
    cases h
    obtain ⟨t, rfl⟩ := r
    exact ⟨_, .str x t, by simp⟩
  | .list ds, _, _, h, r => by
    cases h with
    | lst e ra =>
      cases r
      obtain ⟨its, rv, ⟨o, n, ho, hc, _, hd⟩, _⟩ := I.list (SqL.of e)
      obtain ⟨as, hr, hn⟩ := DxAll.reads I m ds _ its ra rv
      refine ⟨_, .list ho hc hd hr, ?_⟩
      simp only [List.mem_cons, not_or]
      exact ⟨fun z => not_mods I m e z.symm, hn⟩
  | .tuple ds, _, _, h, r => by
    cases h with
    | tup e ra =>
      cases r
      obtain ⟨its, rv, ⟨o, ho, hc, n, hd⟩, _⟩ := I.tuple (SqT.of e)
      obtain ⟨as, hr, hn⟩ := DxAll.reads I m ds _ its ra rv
      exact ⟨_, .tuple ho hc hd hr, hn⟩
  | .dict _, _, _, h, r => by
    cases h with
    | @emp a e =>
      cases r
      obtain ⟨_, ns, vs, kv, o, es, ep, ho, ex, hd, _, pr, _⟩ := (show ObjOk X.prog X.w H s.heap a (.dK []) from I.hok a _ e)
      cases kv
      have el : es.toList = [] := by
        cases h2 : es.toList with
        | nil => rfl
        | cons z zs => rw [h2] at pr; cases pr
      refine ⟨_, .dict (as := []) (bs := []) ho ex.1 hd (by rw [el]; exact .nil) (by rw [el]; exact .nil), ?_⟩
      simp only [List.nil_append, List.append_nil, List.mem_singleton]
      intro z
      rw [z] at ns
      simp at ns
theorem DxAll.reads (I : Inv X pins σ H s) (m : ModsD X.base) : ∀ (ds : List PyData) (vs : List V) (us : List Value), DxAll X.K H vs ds → Vals vs us → ∃ as, ReadsAll s.heap us ds as ∧ sysModules ∉ as
  | [], _, _, h, r => by
    cases h
    cases r
    exact ⟨_, .nil, by simp⟩
  | d :: ds, _, _, h, r => by
    cases h with
    | cons h1 h2 =>
      cases r with
      | cons r1 r2 =>
        obtain ⟨as, q1, n1⟩ := Dx.reads I m d _ _ h1 r1
        obtain ⟨bs, q2, n2⟩ := DxAll.reads I m ds _ _ h2 r2
        refine ⟨_, .cons q1 q2, ?_⟩
        simp only [List.mem_append, not_or]
        exact ⟨n1, n2⟩
end
def rReprX (K : PySem.W.Frag) : List V → Hp → VK → Prop := fun xs H Q => ∃ a d, xs = [.ref a] ∧ Dx K H (.ref a) d ∧ d.showable = true ∧ d.depth ≤ 60 ∧ d.shown.length ≤ sizeLine ∧ Q (.str d.shown) H
theorem call_reprX (m : ModsD X.base) (hG : X.A.guards = some []) (hu : X.A.units + 64 < cLine) : CallR X (.builtin "repr") (rReprX X.K) := by
  rintro pins s σ H xs us Q I r ⟨a, d, rfl, dx, sh, dd, sz, q⟩
  obtain ⟨u, rfl, ru⟩ := vals1 r
  obtain ⟨as, rd, nm⟩ := Dx.reads I m d _ u dx ru
  cases ru
  exact repr_of_reads' rd sh (fun _ => nm) hG (by omega) (fun _ _ e => e) (fun h' u tk hk => ⟨.str d.shown, H, I.kept hk, ⟨_, rfl⟩, q⟩) sz
end
end Eld
set_option Elab.async false
set_option maxRecDepth 100000
set_option maxHeartbeats 4000000
set_option linter.all false
namespace Eld
open PySem PySem.Spec PyProof.Rows L2
section
variable {P : Program} {w : World} {K : PySem.W.Frag} {mg mb : Str → Option Value} {CX : CXT} {k : Nat} {fa a : Addr} {fd : FuncData} {x : Str} {sp : Sp} {z : Shared} {vs : List Value} {ns : List Int}
/-- from an abstract heap G in which at most the script is told -/
theorem law_fromM (G : Hp) (only : Only G) (here : ∀ b, G b ≠ none → b = a) (notK : G a ≠ none → K.lookup a = none) (seen : SqL K G a (ns.map V.int)) (ok : HOk P w G z.heap)
    (inK : K.In z.heap) (gl : z.heap.Ns mainGlobals mg) (bn : z.heap.Ns builtinsNs mb) (bb : ∀ y : Str, y ≠ "__name__" → mb y = bootBuiltins y) (nolim : z.heap.NoLimit) (gens : z.gens = #[])
    (ha : z.heap.get? a = some { cls := .type "list", data := .seq vs.toArray }) (rm : Room k callerA) (hmod : ∃ mm, z.heap.Ns sysModules mm) (F : ∀ base : Heap, K.In base → base.Ns mainGlobals mg → ModsD base → FnG P w K mg base CX k fa fd [x] sp)
    (bt : ∀ (s : Shared) (u : Value), BindsTo s fd ⟨[u], []⟩ [(x, u)]) (want : sp [.ref a] G (fun v _ => v = .bl true) fun _ _ _ => False) (noErr : ∀ e z', CX [] G z (fun _ _ _ => False) e z' → False) :
    codeAny (model P w) callerA (.call (.ref fa) ⟨[.ref a], []⟩) (LawR z) z := by
  have out : ∀ {b : Addr} {o : Obj}, z.heap.get? b = some o → b ≠ a → G b = none := fun {b o} _ ne => by
    cases q : G b with
    | none => rfl
    | some u => exact absurd (here b (by rw [q]; exact Option.some_ne_none u)) ne
  have off : ∀ {b : Addr} {m : Str → Option Value}, z.heap.Ns b m → (hidT z.heap G).Ns b m := by
    rintro b m ⟨o, es, ep, e, d, r⟩
    have ne : b ≠ a := by
      rintro rfl
      have e' := ha.symm.trans e
      cases e'
      cases d
    exact ⟨o, es, ep, hidT_get e (out e ne), d, r⟩
  have kb : K.In (hidT z.heap G) := by
    intro b o e
    have e1 := inK b o e
    refine hidT_get e1 ?_
    by_cases q : G b = none
    · exact q
    · have eb := here b q
      subst eb
      rw [notK q] at e
      cases e
  obtain ⟨mc, l1, l2⟩ := nolim
  have hmB : ModsD (hidT z.heap G) := by
    obtain ⟨mm, hm⟩ := hmod
    obtain ⟨o, es, ep, e, _⟩ := off hm
    exact ⟨o, e⟩
  have md : Mod K mg (hidT z.heap G) := ⟨kb, off gl, ⟨mb, off bn, bb⟩, ⟨mc, off l1, l2⟩⟩
  have env : Env0 P w K mg (hidT z.heap G) callerA [] z G :=
    { frames := rfl, mod := md, bs := fun b o e => of_hidT e, bsz := Nat.le_of_eq (hidT_size _ _), funs := trivial, frf := fun b hb => (List.not_mem_nil hb).elim, hok := ok, bare := .of_eq gens }
  refine codeAny_mono ((F _ kb (off gl) hmB).run callerA [] z G ⟨[.ref a], []⟩ [.ref a] [.ref a] _ _ rfl rm env (bt z (.ref a)) (.cons rfl .nil) want) ?_
  intro r z' q
  match r, q with
  | .error e, q => exact (noErr e z' q).elim
  | .ok (.ret u), ⟨v, G', os, bare, un, ok', rv, q⟩ =>
    cases (show v = .bl true from q)
    cases (show u = Value.bool true from rv)
    refine ⟨rfl, OldK.of_keep ?_, os, bare⟩
    intro b o e
    rcases only b with n | ⟨ob, xs, n⟩
    · exact un.keep b o e n (fun h => (List.not_mem_nil h).elim) (fun h => (List.not_mem_nil h).elim)
    · have e1 := (ok b _ n).1
      have e2 := (ok' b _ (un.frzs b ob _ n)).1
      exact e2.trans (e1.symm.trans e)
theorem law_callM (inK : K.In z.heap) (gl : z.heap.Ns mainGlobals mg) (bn : z.heap.Ns builtinsNs mb) (bb : ∀ y : Str, y ≠ "__name__" → mb y = bootBuiltins y) (nolim : z.heap.NoLimit) (gens : z.gens = #[])
    (ha : z.heap.get? a = some { cls := .type "list", data := .seq vs.toArray }) (hi : IntsAre vs ns) (hl : ns.length ≤ sizeLine) (rm : Room k callerA)
    (hmod : ∃ mm, z.heap.Ns sysModules mm) (F : ∀ base : Heap, K.In base → base.Ns mainGlobals mg → ModsD base → FnG P w K mg base CX k fa fd [x] sp) (bt : ∀ (s : Shared) (u : Value), BindsTo s fd ⟨[u], []⟩ [(x, u)])
    (want : ∀ G : Hp, Only G → SqL K G a (ns.map V.int) → sp [.ref a] G (fun v _ => v = .bl true) fun _ _ _ => False) (noErr : ∀ G e z', CX [] G z (fun _ _ _ => False) e z' → False) :
    codeAny (model P w) callerA (.call (.ref fa) ⟨[.ref a], []⟩) (LawR z) z := by
  have rv := vals_ints hi
  have small : (ns.map V.int).length ≤ sizeLine := by rw [List.length_map]; exact hl
  cases hk : K.lookup a with
  | none =>
    let ob : Obj := { cls := .type "list", data := .seq vs.toArray }
    let G : Hp := fun b => if b = a then some (.frz ob (.lst (ns.map V.int))) else none
    have ga : G a = some (.frz ob (.lst (ns.map V.int))) := if_pos rfl
    have gn : ∀ b, b ≠ a → G b = none := fun b h => if_neg h
    have only : Only G := fun b => (Classical.em (b = a)).elim (fun h => .inr ⟨ob, _, h ▸ ga⟩) fun h => .inl (gn b h)
    have seen : SqL K G a (ns.map V.int) := .inl (.inr ⟨ob, ga⟩)
    refine law_fromM G only (fun b h => Classical.byContradiction fun n => h (gn b n)) (fun _ => hk) seen ?_ inK gl bn bb nolim gens ha rm hmod F bt (want G only seen) (noErr G)
    intro b u e
    by_cases h : b = a
    · subst h
      rw [ga] at e
      cases e
      exact ⟨ha, small, vs, _, rv, ha⟩
    · rw [gn b h] at e
      cases e
  | some o =>
    have e := inK a o hk
    rw [ha] at e
    cases e
    have seen : SqL K (fun _ => none) a (ns.map V.int) := .inr ⟨_, vs.toArray, _, hk, rfl, rfl, rfl, by rw [List.size_toArray, hi.length]; exact hl, by simpa using rv⟩
    exact law_fromM (fun _ => none) (fun _ => .inl rfl) (fun _ h => absurd rfl h) (fun h => absurd rfl h) seen (fun _ _ e => by cases e) inK gl bn bb nolim gens ha rm hmod F bt (want _ (fun _ => .inl rfl) seen) (noErr _)
end
/-- the goal that the head leaves -/
theorem walk_M {l : PySem.W.OpenLaw} {n k : Nat} {q : Program} {loose : List Str} {XP : (Str → Option Value) → Heap → Prop} {YP : World → Heap → Prop} {d : DefRec} {K : Params → PySem.W.Frag} {sp : PySem.W.Frag → Sp} {x : Str}
    (hn : l.most = some n) (n2 : n ≤ sizeLine) (hd : d.params.defaults = []) (rm : Room k callerA) (hi : importsNone q = true) (hY : ∀ (w : World) (h : Heap), YP w h → (K w.params).In h)
    (F : ∀ (w : World) (mg : Str → Option Value) (fa : Addr) (h : Heap), (K w.params).In h → h.Ns mainGlobals mg → mg d.name = some (.ref fa) →
      ∃ fd : FuncData, (∀ (s : Shared) (u : Value), BindsTo s fd ⟨[u], []⟩ [(x, u)]) ∧ ∀ base : Heap, (K w.params).In base → base.Ns mainGlobals mg → ModsD base → FnG l.prog w (K w.params) mg base CX0 k fa fd [x] (sp (K w.params)))
    (want : ∀ (w : World) (G : Hp) (a : Addr) (ns : List Int), ns.length ≤ n → SqL (K w.params) G a (ns.map V.int) → sp (K w.params) [.ref a] G (fun v _ => v = .bl true) fun _ _ _ => False) :
    PySem.W.WalkO q loose XP YP l.row.toRowW d [] (fun f vs => PySem.call f vs) := by
  refine Att.attach_call hn hd ?_
  intro w s₀ s₁ mg mb fa o pm cd doc a vs ns G Y ho hdt hcd hmg hobj hints hlen hg
  obtain ⟨fd, hb, hF⟩ := F w mg fa _ (hY w _ Y) G.T.g hmg
  exact law_callM (CX := CX0) (hY w _ Y) G.T.g G.T.b G.T.builtins G.T.nolimit hg hobj hints (Nat.le_trans hlen n2) rm (let ⟨mm, hm, _⟩ := (G.T.seer hi).mods; ⟨mm, hm⟩) hF hb (fun G _ h => want w G a ns hlen h) fun _ _ _ h => h.elim
end Eld
set_option Elab.async false
set_option maxRecDepth 100000
set_option maxHeartbeats 4000000
set_option linter.all false
namespace Eld
open PySem PySem.Spec PyProof.Rows L2
/-! ## the head by one kernel run, what the top has written as a list of truths about a part of the heap -/
def obsX (fb : PySem.W.Frag → Bool) (fn : List He.DefD) (K : PySem.W.Frag) : He.AlD := (fb K && fn.all fun d => d.ok K, fn.map fun d => He.fnW K d.at_)
def SaysX (fb : PySem.W.Frag → Bool) (fn : List He.DefD) (K : PySem.W.Frag) : Prop := obsX fb fn K = He.valD fn
def obsXG (as : List Addr) (fb : PySem.W.Frag → Bool) (fn : List He.DefD) (g : Addr → Option Obj) : He.AlD := obsX fb fn (He.frG g as)
def hookX (as : List Addr) (fb : PySem.W.Frag → Bool) (fn : List He.DefD) : PySem.W.Hook where
  α := He.AlD
  obs := fun s => obsXG as fb fn s.heap.get?
  val := fun _ => He.valD fn
  says := fun _ h => ∃ K : PySem.W.Frag, K.In h ∧ SaysX fb fn K
  of := fun _ _ e => ⟨_, He.frG_in, e⟩
  keeps := fun _ _ _ ⟨K, hK, c⟩ k => ⟨K, PySem.W.Frag.In.keeps hK k, c⟩
def obX (as : List Addr) (fb : PySem.W.Frag → Bool) (fn : List He.DefD) (s : PySem.W.SharedT) : He.AlD := obsXG as fb fn (HandSHeadRun.getT s)
theorem obX_eq {as : List Addr} {fb : PySem.W.Frag → Bool} {fn : List He.DefD} (s : PySem.W.SharedT) : obX as fb fn s = (hookX as fb fn).obs s.abs := by
  have e : HandSHeadRun.getT s = s.abs.heap.get? := funext (HandSHeadRun.getT_eq s)
  show obsXG as fb fn (HandSHeadRun.getT s) = obsXG as fb fn s.abs.heap.get?
  rw [e]
/-- one kernel run -/
def RunX (r : PySem.W.OpenRow) (q : Program) (as : List Addr) (fb : PySem.W.Frag → Bool) (fn : List He.DefD) (M : Nat) (loose : List Str) (w : World) : Prop := HandSHeadRun.RunEqI r q (hookX as fb fn) (obX as fb fn) M loose w
/-- two runs that look at different things are one run that looks at both -/
theorem RunX.join {r : PySem.W.OpenRow} {q : Program} {as : List Addr} {fb fb' : PySem.W.Frag → Bool} {fn fn' : List He.DefD} {M : Nat} {loose : List Str} {w : World} (h : RunX r q as fb fn M loose w) (h' : RunX r q as fb' fn' M loose w) :
    RunX r q as (fun K => fb K && fb' K) (fn ++ fn') M loose w := by
  unfold RunX HandSHeadRun.RunEqI at *
  obtain ⟨x, hx, e⟩ := Option.map_eq_some_iff.mp h
  obtain ⟨x', hx', e'⟩ := Option.map_eq_some_iff.mp h'
  rw [hx] at hx'
  cases hx'
  rw [hx, Option.map_some]
  have a1 := congrArg (fun z => z.1) e
  have a2 := congrArg (fun z => z.2.1) e
  have a3 : obX as fb fn x.2 = He.valD fn := congrArg (fun z => z.2.2) e
  have b3 : obX as fb' fn' x.2 = He.valD fn' := congrArg (fun z => z.2.2) e'
  have c3 : obX as (fun K => fb K && fb' K) (fn ++ fn') x.2 = He.valD (fn ++ fn') := by
    have u1 : (fb (He.frG (HandSHeadRun.getT x.2) as) && fn.all fun d => d.ok (He.frG (HandSHeadRun.getT x.2) as)) = true := congrArg (fun z : He.AlD => z.1) a3
    have u2 : fn.map (fun d => He.fnW (He.frG (HandSHeadRun.getT x.2) as) d.at_) = fn.map He.DefD.val := congrArg (fun z : He.AlD => z.2) a3
    have v1 : (fb' (He.frG (HandSHeadRun.getT x.2) as) && fn'.all fun d => d.ok (He.frG (HandSHeadRun.getT x.2) as)) = true := congrArg (fun z : He.AlD => z.1) b3
    have v2 : fn'.map (fun d => He.fnW (He.frG (HandSHeadRun.getT x.2) as) d.at_) = fn'.map He.DefD.val := congrArg (fun z : He.AlD => z.2) b3
    obtain ⟨u3, u4⟩ := He.ba u1
    obtain ⟨v3, v4⟩ := He.ba v1
    show (((fb _ && fb' _) && (fn ++ fn').all _, (fn ++ fn').map _) : He.AlD) = (true, (fn ++ fn').map He.DefD.val)
    refine Prod.ext ?_ ?_
    · show ((fb _ && fb' _) && (fn ++ fn').all _) = true
      rw [List.all_append, u3, v3, u4, v4]
      rfl
    · show (fn ++ fn').map _ = _
      rw [List.map_append, List.map_append, u2, v2]
  exact congrArg some (Prod.ext a1 (Prod.ext a2 c3))
section
variable {fb : PySem.W.Frag → Bool} {fn : List He.DefD} {K : PySem.W.Frag}
theorem SaysX.said (c : SaysX fb fn K) : fb K = true := (He.ba (show (fb K && fn.all fun d => d.ok K) = true from congrArg (fun z : He.AlD => z.1) c)).1
theorem SaysX.def_ (c : SaysX fb fn K) (i : Nat) {d : He.DefD} (h : fn[i]? = some d := by rfl) : ∃ fd, FunD K d.name d.qual d.params d.body d.scope (d.dvs K) (d.kws K) (He.fAd K d.at_) fd := by
  have c2 := (He.ba (show (fb K && fn.all fun d => d.ok K) = true from congrArg (fun z : He.AlD => z.1) c)).2
  have e : fn.map (fun d => He.fnW K d.at_) = fn.map He.DefD.val := congrArg (fun z : He.AlD => z.2) c
  have e2 : (fn.map fun d => He.fnW K d.at_)[i]? = (fn.map He.DefD.val)[i]? := by rw [e]
  rw [List.getElem?_map, List.getElem?_map, h] at e2
  exact He.DefD.funD (Option.some.inj e2) (List.all_eq_true.mp c2 d (List.mem_of_getElem? h))
/-- without defaults -/
theorem SaysX.def0 (c : SaysX fb fn K) (i : Nat) {d : He.DefD} (h : fn[i]? = some d := by rfl) (h0 : d.dfl = [] := by rfl) :
    ∃ (oc : Value) (od : Option Addr) (kV doc pm : Value) (an : Option Addr) (cdv ct : Value) (osl : Array (Option Value)), K.lookup (He.fAd K d.at_) = some ⟨oc, od, .func (PySem.W.fnOf d.name d.qual d.params d.body d.scope .none kV doc pm an cdv ct), osl⟩ ∧ PySem.W.codeIn K cdv d.qual = true ∧ PySem.W.keepIn K (.ref (He.fAd K d.at_)) = true := by
  obtain ⟨fd, ⟨oc, od, dV, kV, doc, pm, an, cdv, ct, osl, rfl, l, cd, df, _⟩, kp⟩ := c.def_ i h
  have e : d.dvs K = [] := by unfold He.DefD.dvs; rw [h0]; rfl
  rw [e] at df
  rcases df with ⟨_, rfl⟩ | ⟨n, _⟩
  · exact ⟨oc, od, kV, doc, pm, an, cdv, ct, osl, l, cd, kp⟩
  · exact absurd rfl n
/-- with one default, an int -/
theorem SaysX.def1 (c : SaysX fb fn K) (i : Nat) {d : He.DefD} {m : Int} (h : fn[i]? = some d := by rfl) (h0 : d.dfl = [.int m] := by rfl) :
    ∃ (oc : Value) (od : Option Addr) (T : Addr) (kV doc pm : Value) (an : Option Addr) (cdv ct : Value) (osl : Array (Option Value)) (ocd : Value) (odd : Option Addr) (sld : Array (Option Value)) (tk : Tok) (md : Nat), K.lookup (He.fAd K d.at_) = some ⟨oc, od, .func (PySem.W.fnOf d.name d.qual d.params d.body d.scope (.ref T) kV doc pm an cdv ct), osl⟩ ∧
      PySem.W.codeIn K cdv d.qual = true ∧ PySem.W.keepIn K (.ref (He.fAd K d.at_)) = true ∧ K.lookup T = some ⟨ocd, odd, .seq #[.int m tk] md, sld⟩ := by
  obtain ⟨fd, ⟨oc, od, dV, kV, doc, pm, an, cdv, ct, osl, rfl, l, cd, df, _⟩, kp⟩ := c.def_ i h
  have e : d.dvs K = [.int m] := by unfold He.DefD.dvs; rw [h0]; rfl
  rw [e] at df
  rcases df with ⟨n, _⟩ | ⟨_, T, o, its, n, rfl, lT, eo, rv⟩
  · cases n
  · obtain ⟨c1, d1, dt, s1⟩ := o
    cases eo
    cases rv with
    | cons r rr =>
      cases rr
      obtain ⟨t, rfl⟩ := r
      exact ⟨oc, od, T, kV, doc, pm, an, cdv, ct, osl, c1, d1, s1, t, n, l, cd, kp, lT⟩
end
/-- the i-th truth of the j-th list -/
theorem truth {ls : List (List Bool)} (h : (ls.all fun l => l.all id) = true) (i j : Nat) {l : List Bool} {b : Bool} (e1 : ls[i]? = some l := by rfl) (e2 : l[j]? = some b := by rfl) : b = true :=
  List.all_eq_true.mp (List.all_eq_true.mp h l (List.mem_of_getElem? e1)) b (List.mem_of_getElem? e2)
/-- the token of a name that is an int -/
def tkOf (K : PySem.W.Frag) (x : Str) : Nat := match PySem.W.nsIn K mainGlobals x with
  | some (some (.int _ t)) => t
  | _ => 0
/-- a class of errors under the class cE -/
def excB (K : PySem.W.Frag) (C : Addr) (bm : List Value) : Bool := match K.lookup C with
  | some ⟨.type "type", _, .cls cd, sl⟩ => (match cd.mro, sl.toList with
    | .ref C' :: b, [_, _, _, _, some (.builtin n), _] => C' == C && n == "ValueError.__new__" && !cd.hasDel && cd.hasDict && decide (b = bm)
    | _, _ => false)
  | _ => false
theorem excB_ok {K : PySem.W.Frag} {C : Addr} {bm : List Value} (q : excB K C bm = true) : ∃ nm q N bs sn sub ab col dd k0 k1 k2 k3 k5, K.lookup C = some (excClassObj nm q C N bs bm true sn sub ab col dd k0 k1 k2 k3 k5 "ValueError.__new__") := by
  unfold excB at q
  split at q
  · rename_i dd cd sl ho
    split at q
    · rename_i C' b k0 k1 k2 k3 n k5 hm hs
      simp only [Bool.and_eq_true, beq_iff_eq, Bool.not_eq_true', decide_eq_true_eq] at q
      obtain ⟨⟨⟨⟨rfl, rfl⟩, hdel⟩, hd⟩, rfl⟩ := q
      obtain ⟨nm, bs, mro, ns, qn, hd', sn, sub, ab, col, del⟩ := cd
      dsimp only at hm hdel hd
      subst hm hdel hd
      have hsl : sl = #[k0, k1, k2, k3, some (.builtin "ValueError.__new__"), k5] := by
        obtain ⟨l⟩ := sl
        simp only at hs
        rw [hs]
      subst hsl
      exact ⟨nm, qn, ns, bs, sn, sub, ab, col, dd, k0, k1, k2, k3, k5, ho⟩
    · cases q
  · cases q
/-- the goal that this head leaves -/
theorem walk_MX {l : PySem.W.OpenLaw} {n k : Nat} {q : Program} {loose : List Str} {XP : (Str → Option Value) → Heap → Prop} {YP : World → Heap → Prop} {d : DefRec} {x : Str}
    (hn : l.most = some n) (n2 : n ≤ sizeLine) (hd : d.params.defaults = []) (rm : Room k callerA) (hi : importsNone q = true)
    (F : ∀ (w : World) (mg : Str → Option Value) (fa : Addr) (h : Heap), YP w h → h.Ns mainGlobals mg → mg d.name = some (.ref fa) →
      ∃ (K : PySem.W.Frag) (fd : FuncData) (sp : Sp), K.In h ∧ (∀ (s : Shared) (u : Value), BindsTo s fd ⟨[u], []⟩ [(x, u)]) ∧
        (∀ (G : Hp) (a : Addr) (ns : List Int), ns.length ≤ n → SqL K G a (ns.map V.int) → sp [.ref a] G (fun v _ => v = .bl true) fun _ _ _ => False) ∧
        ∀ base : Heap, K.In base → base.Ns mainGlobals mg → ModsD base → FnG l.prog w K mg base CX0 k fa fd [x] sp) :
    PySem.W.WalkO q loose XP YP l.row.toRowW d [] (fun f vs => PySem.call f vs) := by
  refine Att.attach_call hn hd ?_
  intro w s₀ s₁ mg mb fa o pm cd doc a vs ns G Y ho hdt hcd hmg hobj hints hlen hg
  obtain ⟨K, fd, sp, KX, hb, want, hF⟩ := F w mg fa _ Y G.T.g hmg
  exact law_callM (CX := CX0) KX G.T.g G.T.b G.T.builtins G.T.nolimit hg hobj hints (Nat.le_trans hlen n2) rm (let ⟨mm, hm, _⟩ := (G.T.seer hi).mods; ⟨mm, hm⟩) hF hb (fun G _ h => want G a ns hlen h) fun _ _ _ h => h.elim
end Eld
set_option Elab.async false
set_option linter.all false
set_option maxRecDepth 100000
set_option maxHeartbeats 2000000
/-! Eld: d.get(key, default) of a dict that the top has written. -/
namespace Eld
open PySem PySem.Spec PyProof.Rows L2
def KTab (K : PySem.W.Frag) (w : World) (a : Addr) : Prop := ∃ es n, K.lookup a = some ⟨.type "dict", none, .dict es n, #[]⟩ ∧ PySem.W.KeysLit w.params es.toList ∧ (a == sysModules) = false
def KGet (K : PySem.W.Frag) (a : Addr) (x : Str) (o : Option V) : Prop := ∃ r, PySem.W.nsIn K a x = some r ∧ RelO o r
def tKGet2 (K : PySem.W.Frag) (w : World) (td ty tx : TE) : TE := fun σ H Q => td σ H fun x H1 => ∃ a, x = .ref a ∧ KTab K w a ∧ ty σ H1 fun y H2 => tx σ H2 fun z H3 => ∃ z0 o, y = .str z0 ∧ KGet K a z0 o ∧ Q (o.getD z) H3
section
variable {X : Cx} {o e f : Expr} {apos cpos : Pos} {td ty tx : TE}
theorem pe_kget2 (ho : PE X o td) (he : PE X e ty) (hf : PE X f tx) (m : M2 X o "get" apos e f cpos) : PE X (.Call (.Attribute o "get" apos) [e, f] [] cpos) (tKGet2 X.K X.w td ty tx) := by
  refine ⟨fun pins s σ H Q I h => ?_⟩
  refine wpAny_Call_method m.base m.few m.line PySem.F.plainAttrs_dict PySem.F.slot_dict_get PySem.F.type_dict_get (thn (ho.run pins s σ H _ I h) fun u s1 ⟨x, H1, I1, rx, a, ex, d, q1⟩ => ?_)
  subst ex
  obtain rfl : u = Value.ref a := rx
  obtain ⟨es, n, hl, hk, low⟩ := d
  have hm1 := PySem.W.mapOf_K (prog := X.prog) (w := X.w) I1.kIn hl hk
  refine ⟨hm1.typeIs, fun b q => ?_, ?_⟩
  · cases q
    exact ⟨_, I1.kIn _ _ hl, rfl⟩
  rw [m.trees]
  refine Calls.callWith_builtin rfl (Calls.evalArgs_plain (Calls.spliced_cons (thn (he.run pins s1 σ H1 _ I1 q1) fun iv s2 ⟨y, H2, I2, ry, q2⟩ =>
    Calls.spliced_cons (thn (hf.run pins s2 σ H2 _ I2 q2) fun fv s3 ⟨z, H3, I3, rz, z0, ov, ey, ⟨r, e0, ro⟩, q3⟩ => Calls.spliced_nil ?_))))
  subst ey
  obtain ⟨t, rfl⟩ := (show ∃ t, iv = Value.str z0 t from ry)
  have hm := PySem.W.mapOf_K (prog := X.prog) (w := X.w) I3.kIn hl hk
  refine call_meetsIn PySem.F.slot_dict_get hm.typeIs PySem.F.entry_dict_get (PySem.F.args_dict_get_3 _ _ _) (meets_dict_get_default (PySem.strKind X.prog X.w) a (strKind_is X.prog X.w z0 t) low fv) ⟨_, hm, ?_⟩
  rw [PySem.W.find_K hl e0]
  exact ⟨_, H3, I3.tok _, ro.getD rz, q3⟩
end
end Eld
set_option Elab.async false
set_option maxRecDepth 100000
set_option maxHeartbeats 4000000
set_option linter.all false
namespace Eld
open PySem PySem.Spec PyProof.Rows L2
/-! ## the head by kernel runs: tables with text keys, constant tuples -/
abbrev AlW : Type := List (Option (List (Option (Str × Int))))
def obsW (ts : List He.Tab) (K : PySem.W.Frag) : AlW := ts.map fun t => He.dicW K (t.1 K)
def valW (ts : List He.Tab) (w : World) : AlW := ts.map fun t => some (He.keysIn w.params t.2)
def hookW (as : List Addr) (ts : List He.Tab) : PySem.W.Hook where
  α := AlW
  obs := fun s => obsW ts (He.frG s.heap.get? as)
  val := fun w => valW ts w
  says := fun w h => ∃ K : PySem.W.Frag, K.In h ∧ obsW ts K = valW ts w
  of := fun _ _ e => ⟨_, He.frG_in, e⟩
  keeps := fun _ _ _ ⟨K, hK, c⟩ k => ⟨K, PySem.W.Frag.In.keeps hK k, c⟩
def obW (as : List Addr) (ts : List He.Tab) (s : PySem.W.SharedT) : AlW := obsW ts (He.frG (HandSHeadRun.getT s) as)
/-- a run that looks at tables -/
def RunW (r : PySem.W.OpenRow) (q : Program) (as : List Addr) (ts : List He.Tab) (M : Nat) (loose : List Str) (w : World) : Prop := HandSHeadRun.RunEqI r q (hookW as ts) (obW as ts) M loose w
def hookXW (as : List Addr) (fb : PySem.W.Frag → Bool) (fn : List He.DefD) (ts : List He.Tab) : PySem.W.Hook where
  α := He.AlD × AlW
  obs := fun s => (obsXG as fb fn s.heap.get?, obsW ts (He.frG s.heap.get? as))
  val := fun w => (He.valD fn, valW ts w)
  says := fun w h => ∃ K : PySem.W.Frag, K.In h ∧ SaysX fb fn K ∧ obsW ts K = valW ts w
  of := fun _ _ e => ⟨_, He.frG_in, congrArg (fun z : He.AlD × AlW => z.1) e, congrArg (fun z : He.AlD × AlW => z.2) e⟩
  keeps := fun _ _ _ ⟨K, hK, c⟩ k => ⟨K, PySem.W.Frag.In.keeps hK k, c⟩
def obXW (as : List Addr) (fb : PySem.W.Frag → Bool) (fn : List He.DefD) (ts : List He.Tab) (s : PySem.W.SharedT) : He.AlD × AlW := (obsXG as fb fn (HandSHeadRun.getT s), obsW ts (He.frG (HandSHeadRun.getT s) as))
theorem obXW_eq {as : List Addr} {fb : PySem.W.Frag → Bool} {fn : List He.DefD} {ts : List He.Tab} (s : PySem.W.SharedT) : obXW as fb fn ts s = (hookXW as fb fn ts).obs s.abs := by
  have e : HandSHeadRun.getT s = s.abs.heap.get? := funext (HandSHeadRun.getT_eq s)
  show (obsXG as fb fn (HandSHeadRun.getT s), obsW ts (He.frG (HandSHeadRun.getT s) as)) = (obsXG as fb fn s.abs.heap.get?, obsW ts (He.frG s.abs.heap.get? as))
  rw [e]
theorem RunX.tab {r : PySem.W.OpenRow} {q : Program} {as : List Addr} {fb : PySem.W.Frag → Bool} {fn : List He.DefD} {ts : List He.Tab} {M : Nat} {loose : List Str} {w : World} (h : RunX r q as fb fn M loose w) (h' : RunW r q as ts M loose w) :
    HandSHeadRun.RunEqI r q (hookXW as fb fn ts) (obXW as fb fn ts) M loose w := by
  unfold RunX RunW HandSHeadRun.RunEqI at *
  obtain ⟨x, hx, e⟩ := Option.map_eq_some_iff.mp h
  obtain ⟨x', hx', e'⟩ := Option.map_eq_some_iff.mp h'
  rw [hx] at hx'
  cases hx'
  rw [hx, Option.map_some]
  have a1 := congrArg (fun z => z.1) e
  have a2 := congrArg (fun z => z.2.1) e
  have a3 : obX as fb fn x.2 = He.valD fn := congrArg (fun z => z.2.2) e
  have b3 : obW as ts x.2 = valW ts w := congrArg (fun z => z.2.2) e'
  have c3 : obXW as fb fn ts x.2 = (He.valD fn, valW ts w) := Prod.ext a3 b3
  exact congrArg some (Prod.ext a1 (Prod.ext a2 c3))
theorem tabW {ts : List He.Tab} {w : World} {K : PySem.W.Frag} (c : obsW ts K = valW ts w) (i : Nat) {t : He.Tab} (h : ts[i]? = some t := by rfl) : ∃ es n, KDict K w (t.1 K) es n := by
  have e2 : (ts.map fun t => He.dicW K (t.1 K))[i]? = (ts.map fun t => some (He.keysIn w.params t.2))[i]? := by
    have e : ts.map (fun t => He.dicW K (t.1 K)) = ts.map fun t => some (He.keysIn w.params t.2) := c
    rw [e]
  rw [List.getElem?_map, List.getElem?_map, h] at e2
  exact He.dicW_ok (Option.some.inj e2)
/-- an int of a table -/
def getB (K : PySem.W.Frag) (a : Addr) (x : Str) (i : Int) : Bool := match PySem.W.nsIn K a x with
  | some (some (.int j _)) => decide (j = i)
  | _ => false
theorem getB_ok {K : PySem.W.Frag} {a : Addr} {x : Str} {i : Int} (h : getB K a x i = true) : ∃ u, PySem.W.nsIn K a x = some (some u) ∧ RelV (.int i) u := by
  unfold getB at h
  split at h
  · rename_i j t e
    cases of_decide_eq_true h
    exact ⟨_, e, t, rfl⟩
  · cases h
theorem getB_get {K : PySem.W.Frag} {a : Addr} {x : Str} {i : Int} (h : getB K a x i = true) : KGet K a x (some (.int i)) := by
  obtain ⟨u, e, r⟩ := getB_ok h
  exact ⟨some u, e, r⟩
theorem getB_dct {K : PySem.W.Frag} {w : World} {a : Addr} {x : Str} {i : Int} (d : ∃ es n, KDict K w a es n) (h : getB K a x i = true) : KDct K w a x (.int i) := by
  obtain ⟨es, n, d⟩ := d
  obtain ⟨u, e, r⟩ := getB_ok h
  exact ⟨es, n, u, d.at_, d.lit, e, r⟩
theorem tabK {K : PySem.W.Frag} {w : World} {a : Addr} (d : ∃ es n, KDict K w a es n) : KTab K w a := by
  obtain ⟨es, n, d⟩ := d
  exact ⟨es, n, d.at_, d.lit, d.low⟩
/-! constant tuples -/
def refO : Value → Option Addr
  | .ref b => some b
  | _ => none
def seqRefs (K : PySem.W.Frag) (a : Addr) : List Addr := match K.lookup a with
  | some ⟨_, _, .seq its _, _⟩ => its.toList.filterMap refO
  | _ => []
def tupRefsB (K : PySem.W.Frag) (a : Addr) (n : Nat) : Bool := match K.lookup a with
  | some ⟨.type "tuple", _, .seq its _, _⟩ => decide (its.size = n) && (decide (n ≤ 1000) && its.toList.all fun v => (refO v).isSome)
  | _ => false
theorem vals_refs : ∀ l : List Value, (l.all fun v => (refO v).isSome) = true → Vals ((l.filterMap refO).map V.ref) l ∧ (l.filterMap refO).length = l.length
  | [], _ => ⟨.nil, rfl⟩
  | v :: l, h => by
    rw [List.all_cons, Bool.and_eq_true] at h
    obtain ⟨h1, h2⟩ := vals_refs l h.2
    cases v with
    | ref b => exact ⟨.cons rfl h1, by show (b :: l.filterMap refO).length = _; rw [List.length_cons, List.length_cons, h2]⟩
    | _ => exact absurd h.1 (by simp [refO])
theorem tupRefs_ok {K : PySem.W.Frag} {a : Addr} {n : Nat} (h : tupRefsB K a n = true) : (∀ H, SqT K H a ((seqRefs K a).map V.ref)) ∧ (seqRefs K a).length = n := by
  unfold tupRefsB at h
  split at h
  · rename_i dd its m sl e
    rw [Bool.and_eq_true, Bool.and_eq_true, decide_eq_true_eq, decide_eq_true_eq] at h
    obtain ⟨h1, h2, h3⟩ := h
    obtain ⟨v1, v2⟩ := vals_refs its.toList h3
    have es : seqRefs K a = its.toList.filterMap refO := by unfold seqRefs; rw [e]
    rw [es]
    refine ⟨fun H => .inr ⟨_, its, m, e, rfl, rfl, by rw [sizeLine_eq]; omega, v1⟩, ?_⟩
    rw [v2, Array.length_toList, h1]
  · cases h
def intO : Value → Option Int
  | .int i _ => some i
  | _ => none
def tupIntsB (K : PySem.W.Frag) (a : Addr) (l : List Int) : Bool := match K.lookup a with
  | some ⟨.type "tuple", _, .seq its _, _⟩ => decide (its.toList.map intO = l.map some) && decide (l.length ≤ 1000)
  | _ => false
theorem vals_intO : ∀ (l : List Value) (zs : List Int), l.map intO = zs.map some → Vals (zs.map V.int) l
  | [], [], _ => .nil
  | [], _ :: _, h => by cases h
  | _ :: _, [], h => by cases h
  | v :: l, z :: zs, h => by
    rw [List.map_cons, List.map_cons] at h
    injection h with h1 h2
    cases v with
    | int i t => cases h1; exact .cons ⟨t, rfl⟩ (vals_intO l zs h2)
    | _ => exact absurd h1 (by simp [intO])
theorem tupInts_ok {K : PySem.W.Frag} {a : Addr} {l : List Int} (h : tupIntsB K a l = true) : ∀ H, SqT K H a (l.map V.int) := by
  unfold tupIntsB at h
  split at h
  · rename_i dd its m sl e
    rw [Bool.and_eq_true, decide_eq_true_eq, decide_eq_true_eq] at h
    obtain ⟨h1, h2⟩ := h
    have hl : its.toList.length = l.length := by
      have := congrArg List.length h1
      rw [List.length_map, List.length_map] at this
      exact this
    refine fun H => .inr ⟨_, its, m, e, rfl, rfl, ?_, vals_intO _ _ h1⟩
    rw [← Array.length_toList, hl, sizeLine_eq]
    omega
  · cases h
end Eld
set_option Elab.async false
set_option maxRecDepth 100000
set_option maxHeartbeats 4000000
set_option linter.all false
namespace Eld
open PySem PySem.Spec PyProof.Rows L2

def htop (i : Nat) : Stmt := PySem.Challenge.pw_endlots_k13_sizes_and_depths.main.body.getD i (.Pass ⟨0, 0, 0, 0⟩)
def has : List Addr := [2, 3, 43, 50, 51, 52, 53, 56, 68, 69, 71, 72, 87, 88, 90, 91, 106, 107, 109, 110, 125, 126, 128, 129, 144, 145, 147, 148, 163, 164, 166, 167, 182, 183, 185, 186, 201, 202, 204, 205, 220, 221, 223, 224, 239, 240, 242, 243, 251, 252, 258, 259, 265, 266, 272, 273, 277, 278, 282, 283, 289, 290, 303, 304, 310, 311, 317, 318, 324, 325, 331, 332, 336, 337, 339, 340, 341, 342, 348, 349, 353, 354, 358, 359, 365, 366, 370, 371, 372, 373, 374, 375, 376, 377, 378, 379, 380, 381, 382, 383, 384, 385, 386, 387, 393, 394, 400, 401, 407, 408, 414, 415, 421, 422, 428, 429, 435, 436, 440, 441, 447, 448, 454, 455, 459, 460, 466, 467, 473, 474, 478, 479, 485, 486, 490, 491, 497, 498, 502, 503, 509, 510, 516, 517, 521, 522, 526, 527, 533, 534, 538, 539, 545, 546, 552, 553, 559, 560, 566, 567, 573, 574, 580, 581, 587, 588, 592, 593, 599, 600, 604, 605, 611, 612, 616, 617, 621, 622, 628, 629, 635, 636, 640, 641, 647, 648, 652, 653, 657, 658, 664, 665, 671, 672, 676, 677, 683, 684]
def hd0 : He.DefD := ⟨("_law_take", none), "_law_take", "_law_take", defArgs (htop 66), defBody (htop 66), defScope (htop 66), [], []⟩
def hd1 : He.DefD := ⟨("is_integer", none), "is_integer", "is_integer", defArgs (htop 14), defBody (htop 14), defScope (htop 14), [], []⟩
def hd2 : He.DefD := ⟨("is_list", none), "is_list", "is_list", defArgs (htop 15), defBody (htop 15), defScope (htop 15), [], []⟩
def hd3 : He.DefD := ⟨("is_from", none), "is_from", "is_from", defArgs (htop 16), defBody (htop 16), defScope (htop 16), [], []⟩
def hd4 : He.DefD := ⟨("is_index", none), "is_index", "is_index", defArgs (htop 17), defBody (htop 17), defScope (htop 17), [], []⟩
def hd5 : He.DefD := ⟨("is_sizes", none), "is_sizes", "is_sizes", defArgs (htop 26), defBody (htop 26), defScope (htop 26), [], []⟩
def hd6 : He.DefD := ⟨("is_digits", none), "is_digits", "is_digits", defArgs (htop 20), defBody (htop 20), defScope (htop 20), [], []⟩
def hd7 : He.DefD := ⟨("all_values", none), "all_values", "all_values", defArgs (htop 25), defBody (htop 25), defScope (htop 25), [], []⟩
def hd8 : He.DefD := ⟨("Space", some "__init__"), "__init__", "Space.__init__", defArgs (inClass (htop 24) 0), defBody (inClass (htop 24) 0), defScope (inClass (htop 24) 0), [], []⟩
def hd9 : He.DefD := ⟨("need_space", none), "need_space", "need_space", defArgs (htop 28), defBody (htop 28), defScope (htop 28), [], []⟩
def hd10 : He.DefD := ⟨("read_space", none), "read_space", "read_space", defArgs (htop 29), defBody (htop 29), defScope (htop 29), [], []⟩
def hd11 : He.DefD := ⟨("_law_cell", none), "_law_cell", "_law_cell", defArgs (htop 64), defBody (htop 64), defScope (htop 64), [], []⟩
def hd12 : He.DefD := ⟨("_law_box", none), "_law_box", "_law_box", defArgs (htop 65), defBody (htop 65), defScope (htop 65), [], []⟩
def hd13 : He.DefD := ⟨("is_ascending", none), "is_ascending", "is_ascending", defArgs (htop 19), defBody (htop 19), defScope (htop 19), [], []⟩
def hd14 : He.DefD := ⟨("is_set_below", none), "is_set_below", "is_set_below", defArgs (htop 18), defBody (htop 18), defScope (htop 18), [], []⟩
def hd15 : He.DefD := ⟨("is_hole_count", none), "is_hole_count", "is_hole_count", defArgs (htop 47), defBody (htop 47), defScope (htop 47), [], []⟩
def hd16 : He.DefD := ⟨("is_name", none), "is_name", "is_name", defArgs (htop 50), defBody (htop 50), defScope (htop 50), [], []⟩
def hd17 : He.DefD := ⟨("is_pair", none), "is_pair", "is_pair", defArgs (htop 52), defBody (htop 52), defScope (htop 52), [], []⟩
def hd18 : He.DefD := ⟨("is_setting", none), "is_setting", "is_setting", defArgs (htop 51), defBody (htop 51), defScope (htop 51), [], []⟩
def hd19 : He.DefD := ⟨("is_weighing", none), "is_weighing", "is_weighing", defArgs (htop 53), defBody (htop 53), defScope (htop 53), [], []⟩
def hd20 : He.DefD := ⟨("children", none), "children", "children", defArgs (htop 54), defBody (htop 54), defScope (htop 54), [], []⟩
def hd21 : He.DefD := ⟨("is_part", none), "is_part", "is_part", defArgs (htop 49), defBody (htop 49), defScope (htop 49), [], []⟩
def hd22 : He.DefD := ⟨("holes_of", none), "holes_of", "holes_of", defArgs (htop 48), defBody (htop 48), defScope (htop 48), [], []⟩
def hd23 : He.DefD := ⟨("is_text", none), "is_text", "is_text", defArgs (htop 38), defBody (htop 38), defScope (htop 38), [], []⟩
def hd24 : He.DefD := ⟨("is_surrounding", none), "is_surrounding", "is_surrounding", defArgs (htop 39), defBody (htop 39), defScope (htop 39), [], []⟩
def hd25 : He.DefD := ⟨("is_text_or_surrounding", none), "is_text_or_surrounding", "is_text_or_surrounding", defArgs (htop 46), defBody (htop 46), defScope (htop 46), [], []⟩
def hd26 : He.DefD := ⟨("need_text", none), "need_text", "need_text", defArgs (htop 44), defBody (htop 44), defScope (htop 44), [], []⟩
def hd27 : He.DefD := ⟨("need_any_text", none), "need_any_text", "need_any_text", defArgs (htop 45), defBody (htop 45), defScope (htop 45), [], []⟩
def hd28 : He.DefD := ⟨("in_tuples", none), "in_tuples", "in_tuples", defArgs (htop 55), defBody (htop 55), defScope (htop 55), [], []⟩
def hd29 : He.DefD := ⟨("listed_parts", none), "listed_parts", "listed_parts", defArgs (htop 56), defBody (htop 56), defScope (htop 56), [], []⟩
def hd30 : He.DefD := ⟨("size_of", none), "size_of", "size_of", defArgs (htop 58), defBody (htop 58), defScope (htop 58), [], []⟩
def hd31 : He.DefD := ⟨("depth_of", none), "depth_of", "depth_of", defArgs (htop 59), defBody (htop 59), defScope (htop 59), [], []⟩
def hd32 : He.DefD := ⟨("filled", none), "filled", "filled", defArgs (htop 61), defBody (htop 61), defScope (htop 61), [], []⟩
def hd33 : He.DefD := ⟨("replaced", none), "replaced", "replaced", defArgs (htop 60), defBody (htop 60), defScope (htop 60), [], []⟩
def hd34 : He.DefD := ⟨("is_path", none), "is_path", "is_path", defArgs (htop 57), defBody (htop 57), defScope (htop 57), [], []⟩
def hd35 : He.DefD := ⟨("size", none), "size", "size", defArgs (htop 40), defBody (htop 40), defScope (htop 40), [], []⟩
def hd36 : He.DefD := ⟨("depth", none), "depth", "depth", defArgs (htop 41), defBody (htop 41), defScope (htop 41), [], []⟩
def hd37 : He.DefD := ⟨("within_bounds", none), "within_bounds", "within_bounds", defArgs (htop 62), defBody (htop 62), defScope (htop 62), [], []⟩
def hd38 : He.DefD := ⟨("put_at", none), "put_at", "put_at", defArgs (htop 42), defBody (htop 42), defScope (htop 42), [], []⟩
def hd39 : He.DefD := ⟨("fill", none), "fill", "fill", defArgs (htop 43), defBody (htop 43), defScope (htop 43), [], []⟩
def hd40 : He.DefD := ⟨("_law_product", none), "_law_product", "_law_product", defArgs (htop 67), defBody (htop 67), defScope (htop 67), [], []⟩
def hd41 : He.DefD := ⟨("_law_widths", none), "_law_widths", "_law_widths", defArgs (htop 68), defBody (htop 68), defScope (htop 68), [], []⟩
def hd42 : He.DefD := ⟨("_law_row", none), "_law_row", "_law_row", defArgs (htop 69), defBody (htop 69), defScope (htop 69), [], []⟩
def hd43 : He.DefD := ⟨("_law_guard", none), "_law_guard", "_law_guard", defArgs (htop 70), defBody (htop 70), defScope (htop 70), [], []⟩
def hd44 : He.DefD := ⟨("_law_weights", none), "_law_weights", "_law_weights", defArgs (htop 71), defBody (htop 71), defScope (htop 71), [], []⟩
def hd45 : He.DefD := ⟨("_law_leaf", none), "_law_leaf", "_law_leaf", defArgs (htop 72), defBody (htop 72), defScope (htop 72), [], []⟩
def hd46 : He.DefD := ⟨("_law_kids", none), "_law_kids", "_law_kids", defArgs (htop 73), defBody (htop 73), defScope (htop 73), [], []⟩
def hd47 : He.DefD := ⟨("_law_tupled", none), "_law_tupled", "_law_tupled", defArgs (htop 74), defBody (htop 74), defScope (htop 74), [], []⟩
def hd48 : He.DefD := ⟨("_law_put", none), "_law_put", "_law_put", defArgs (htop 76), defBody (htop 76), defScope (htop 76), [], []⟩
def hd49 : He.DefD := ⟨("_law_filled", none), "_law_filled", "_law_filled", defArgs (htop 77), defBody (htop 77), defScope (htop 77), [], []⟩
def hd50 : He.DefD := ⟨("_law_shape", none), "_law_shape", "_law_shape", defArgs (htop 78), defBody (htop 78), defScope (htop 78), [], []⟩
def hd51 : He.DefD := ⟨("_law_all_parts", none), "_law_all_parts", "_law_all_parts", defArgs (htop 75), defBody (htop 75), defScope (htop 75), [], []⟩
def hd52 : He.DefD := ⟨("_law_pile", none), "_law_pile", "_law_pile", defArgs (htop 79), defBody (htop 79), defScope (htop 79), [], []⟩
def hd53 : He.DefD := ⟨("_law_sized", none), "_law_sized", "_law_sized", defArgs (htop 80), defBody (htop 80), defScope (htop 80), [], []⟩
def hd54 : He.DefD := ⟨("_law_around", none), "_law_around", "_law_around", defArgs (htop 81), defBody (htop 81), defScope (htop 81), [], []⟩
def hd55 : He.DefD := ⟨("_law_told", none), "_law_told", "_law_told", defArgs (htop 82), defBody (htop 82), defScope (htop 82), [], []⟩
def hd56 : He.DefD := ⟨("_law_meets", none), "_law_meets", "_law_meets", defArgs (htop 83), defBody (htop 83), defScope (htop 83), [], []⟩
def hd57 : He.DefD := ⟨("_law_right", none), "_law_right", "_law_right", defArgs (htop 84), defBody (htop 84), defScope (htop 84), [], []⟩
def hd58 : He.DefD := ⟨("law", none), "law", "law", defArgs (htop 85), defBody (htop 85), defScope (htop 85), [], []⟩
def hd59 : He.DefD := ⟨("TooMany", some "__init__"), "__init__", "TooMany.__init__", defArgs (inClass (htop 12) 0), defBody (inClass (htop 12) 0), defScope (inClass (htop 12) 0), [], []⟩
def ht0 (K : PySem.W.Frag) : List Bool := [decide (PySem.W.nsIn K mainGlobals "Space" = some (some (.ref (He.ga K "Space")))),
  decide (PySem.W.nsIn K mainGlobals "_law_take" = some (some (.ref (He.fAd K ("_law_take", none))))),
  decide (PySem.W.nsIn K mainGlobals "is_integer" = some (some (.ref (He.fAd K ("is_integer", none))))),
  decide (PySem.W.nsIn K mainGlobals "is_list" = some (some (.ref (He.fAd K ("is_list", none))))),
  decide (PySem.W.nsIn K mainGlobals "is_from" = some (some (.ref (He.fAd K ("is_from", none))))),
  decide (PySem.W.nsIn K mainGlobals "is_index" = some (some (.ref (He.fAd K ("is_index", none))))),
  decide (PySem.W.nsIn K mainGlobals "is_sizes" = some (some (.ref (He.fAd K ("is_sizes", none))))),
  decide (PySem.W.nsIn K mainGlobals "is_digits" = some (some (.ref (He.fAd K ("is_digits", none))))),
  decide (PySem.W.nsIn K mainGlobals "all_values" = some (some (.ref (He.fAd K ("all_values", none))))),
  decide (PySem.W.findIn K (.ref (He.ga K "Space")) "__init__" = some (some (.ref (He.fAd K ("Space", some "__init__"))))),
  decide (PySem.W.isFn K (.ref (He.fAd K ("Space", some "__init__"))) = true),
  decide (PySem.W.nsIn K mainGlobals "need_space" = some (some (.ref (He.fAd K ("need_space", none))))),
  decide (PySem.W.nsIn K mainGlobals "read_space" = some (some (.ref (He.fAd K ("read_space", none))))),
  decide (PySem.W.nsIn K mainGlobals "_law_cell" = some (some (.ref (He.fAd K ("_law_cell", none))))),
  decide (PySem.W.nsIn K mainGlobals "_law_box" = some (some (.ref (He.fAd K ("_law_box", none))))),
  decide (PySem.W.nsIn K mainGlobals "is_ascending" = some (some (.ref (He.fAd K ("is_ascending", none))))),
  decide (PySem.W.nsIn K mainGlobals "is_set_below" = some (some (.ref (He.fAd K ("is_set_below", none))))),
  decide (PySem.W.nsIn K mainGlobals "is_hole_count" = some (some (.ref (He.fAd K ("is_hole_count", none))))),
  decide (PySem.W.nsIn K mainGlobals "is_name" = some (some (.ref (He.fAd K ("is_name", none))))),
  decide (PySem.W.nsIn K mainGlobals "is_pair" = some (some (.ref (He.fAd K ("is_pair", none))))),
  decide (PySem.W.nsIn K mainGlobals "is_setting" = some (some (.ref (He.fAd K ("is_setting", none))))),
  decide (PySem.W.nsIn K mainGlobals "is_weighing" = some (some (.ref (He.fAd K ("is_weighing", none))))),
  decide (PySem.W.nsIn K mainGlobals "children" = some (some (.ref (He.fAd K ("children", none))))),
  decide (PySem.W.nsIn K mainGlobals "is_part" = some (some (.ref (He.fAd K ("is_part", none))))),
  decide (PySem.W.nsIn K mainGlobals "holes_of" = some (some (.ref (He.fAd K ("holes_of", none))))),
  decide (PySem.W.nsIn K mainGlobals "is_text" = some (some (.ref (He.fAd K ("is_text", none))))),
  decide (PySem.W.nsIn K mainGlobals "is_surrounding" = some (some (.ref (He.fAd K ("is_surrounding", none))))),
  decide (PySem.W.nsIn K mainGlobals "is_text_or_surrounding" = some (some (.ref (He.fAd K ("is_text_or_surrounding", none))))),
  decide (PySem.W.nsIn K mainGlobals "need_text" = some (some (.ref (He.fAd K ("need_text", none))))),
  decide (PySem.W.nsIn K mainGlobals "need_any_text" = some (some (.ref (He.fAd K ("need_any_text", none)))))]
def ht1 (K : PySem.W.Frag) : List Bool := [decide (PySem.W.nsIn K mainGlobals "in_tuples" = some (some (.ref (He.fAd K ("in_tuples", none))))),
  decide (PySem.W.nsIn K mainGlobals "listed_parts" = some (some (.ref (He.fAd K ("listed_parts", none))))),
  decide (PySem.W.nsIn K mainGlobals "size_of" = some (some (.ref (He.fAd K ("size_of", none))))),
  decide (PySem.W.nsIn K mainGlobals "depth_of" = some (some (.ref (He.fAd K ("depth_of", none))))),
  decide (PySem.W.nsIn K mainGlobals "filled" = some (some (.ref (He.fAd K ("filled", none))))),
  decide (PySem.W.nsIn K mainGlobals "replaced" = some (some (.ref (He.fAd K ("replaced", none))))),
  decide (PySem.W.nsIn K mainGlobals "is_path" = some (some (.ref (He.fAd K ("is_path", none))))),
  decide (PySem.W.nsIn K mainGlobals "size" = some (some (.ref (He.fAd K ("size", none))))),
  decide (PySem.W.nsIn K mainGlobals "depth" = some (some (.ref (He.fAd K ("depth", none))))),
  decide (PySem.W.nsIn K mainGlobals "within_bounds" = some (some (.ref (He.fAd K ("within_bounds", none))))),
  decide (PySem.W.nsIn K mainGlobals "put_at" = some (some (.ref (He.fAd K ("put_at", none))))),
  decide (PySem.W.nsIn K mainGlobals "fill" = some (some (.ref (He.fAd K ("fill", none))))),
  decide (PySem.W.nsIn K mainGlobals "_law_product" = some (some (.ref (He.fAd K ("_law_product", none))))),
  decide (PySem.W.nsIn K mainGlobals "_law_widths" = some (some (.ref (He.fAd K ("_law_widths", none))))),
  decide (PySem.W.nsIn K mainGlobals "_law_row" = some (some (.ref (He.fAd K ("_law_row", none))))),
  decide (PySem.W.nsIn K mainGlobals "_law_guard" = some (some (.ref (He.fAd K ("_law_guard", none))))),
  decide (PySem.W.nsIn K mainGlobals "_law_weights" = some (some (.ref (He.fAd K ("_law_weights", none))))),
  decide (PySem.W.nsIn K mainGlobals "_law_leaf" = some (some (.ref (He.fAd K ("_law_leaf", none))))),
  decide (PySem.W.nsIn K mainGlobals "_law_kids" = some (some (.ref (He.fAd K ("_law_kids", none))))),
  decide (PySem.W.nsIn K mainGlobals "_law_tupled" = some (some (.ref (He.fAd K ("_law_tupled", none))))),
  decide (PySem.W.nsIn K mainGlobals "_law_put" = some (some (.ref (He.fAd K ("_law_put", none))))),
  decide (PySem.W.nsIn K mainGlobals "_law_filled" = some (some (.ref (He.fAd K ("_law_filled", none))))),
  decide (PySem.W.nsIn K mainGlobals "_law_shape" = some (some (.ref (He.fAd K ("_law_shape", none))))),
  decide (PySem.W.nsIn K mainGlobals "_law_all_parts" = some (some (.ref (He.fAd K ("_law_all_parts", none))))),
  decide (PySem.W.nsIn K mainGlobals "_law_pile" = some (some (.ref (He.fAd K ("_law_pile", none))))),
  decide (PySem.W.nsIn K mainGlobals "_law_sized" = some (some (.ref (He.fAd K ("_law_sized", none))))),
  decide (PySem.W.nsIn K mainGlobals "_law_around" = some (some (.ref (He.fAd K ("_law_around", none))))),
  decide (PySem.W.nsIn K mainGlobals "_law_told" = some (some (.ref (He.fAd K ("_law_told", none))))),
  decide (PySem.W.nsIn K mainGlobals "_law_meets" = some (some (.ref (He.fAd K ("_law_meets", none))))),
  decide (PySem.W.nsIn K mainGlobals "_law_right" = some (some (.ref (He.fAd K ("_law_right", none)))))]
def ht2 (K : PySem.W.Frag) : List Bool := [decide (PySem.W.nsIn K mainGlobals "law" = some (some (.ref (He.fAd K ("law", none))))),
  decide (PySem.W.plainGet K (He.ga K "Space") Str.empty = true),
  decide (PySem.W.hasDictIn K (He.ga K "Space") = true),
  decide (PySem.W.plainOver K (He.ga K "Space") = true),
  decide (PySem.W.findIn K (.ref (He.ga K "Space")) "__setattr__" = some (some (.builtin "object.__setattr__"))),
  decide (PySem.W.makesIn K (He.ga K "Space") = true),
  decide (PySem.W.keepIn K (.ref (He.ga K "Space")) = true),
  decide (PySem.W.findIn K (.ref (He.ga K "Space")) "__class__" = some (some (.builtin "object.__class__"))),
  decide (PySem.W.mroIn K (He.ga K "Space") (.type "object") = some true),
  decide (PySem.W.findIn K (.ref (He.ga K "Space")) "sizes" = some none),
  decide (PySem.W.findIn K (.ref (He.ga K "Space")) "_stores" = some none),
  decide (PySem.W.findIn K (.ref (He.ga K "Space")) "never" = some none),
  decide (PySem.W.kitOne K (.type "NoneType") (.ref (He.ga K "Space")) = some false),
  decide (PySem.W.kitOne K (.type "list") (.ref (He.ga K "Space")) = some false),
  decide (PySem.W.kitOne K (.type "tuple") (.ref (He.ga K "Space")) = some false),
  decide (PySem.W.kitOne K (.type "str") (.ref (He.ga K "Space")) = some false),
  decide (PySem.W.kitOne K (.type "int") (.ref (He.ga K "Space")) = some false),
  decide (PySem.W.kitOne K (.type "bool") (.ref (He.ga K "Space")) = some false),
  decide (PySem.W.specialIn K (.builtin "object.__class__") "__get__" = some (some (.builtin "getset_descriptor.__get__"))),
  decide (PySem.W.takesIn K (.builtin "object.__class__") = some true),
  decide (PySem.W.nsIn K mainGlobals "EndError" = some (some (.ref (He.ga K "EndError")))),
  decide (PySem.W.nsIn K mainGlobals "TooMany" = some (some (.ref (He.ga K "TooMany")))),
  excB K (He.ga K "TooMany") [.ref (He.ga K "EndError"), .type "ValueError", .type "Exception", .type "BaseException", .type "object"],
  decide (PySem.W.findIn K (.ref (He.ga K "TooMany")) "__setattr__" = some (some (.builtin "object.__setattr__"))),
  decide (PySem.W.findIn K (.ref (He.ga K "TooMany")) "__getattribute__" = some (some (.builtin "BaseException.__getattribute__"))),
  decide (PySem.W.findIn K (.ref (He.ga K "TooMany")) "__getattr__" = some none),
  decide (PySem.W.findIn K (.ref (He.ga K "TooMany")) "count" = some none),
  decide (PySem.W.findIn K (.ref (He.ga K "TooMany")) "__init__" = some (some (.ref (He.fAd K ("TooMany", some "__init__"))))),
  decide (PySem.W.typeIn K (.ref (He.fAd K ("TooMany", some "__init__"))) = some (.type "function")),
  decide (PySem.W.keepIn K (.ref (He.ga K "TooMany")) = true)]
def ht3 (K : PySem.W.Frag) : List Bool := [decide (PySem.W.subIn K (.ref (He.ga K "TooMany")) (.type "BaseException") = some true),
  decide (PySem.W.typeIn K (.ref (He.ga K "TooMany")) = some (.type "type")),
  decide (PySem.W.hasDictIn K (He.ga K "TooMany") = true),
  decide (PySem.W.isClsIn K (He.ga K "TooMany") = true),
  decide (PySem.W.subIn K (.ref (He.ga K "TooMany")) (.ref (He.ga K "TooMany")) = some true),
  decide (PySem.W.nsIn K mainGlobals "LENGTHS" = some (some (.ref (He.ga K "LENGTHS")))),
  decide (PySem.W.nsIn K mainGlobals "PARTS_FROM" = some (some (.ref (He.ga K "PARTS_FROM")))),
  decide (PySem.W.nsIn K mainGlobals "ALL_SIZES" = some (some (.ref (He.ga K "ALL_SIZES")))),
  decide (tupRefsB K (He.ga K "ALL_SIZES") 13 = true),
  decide (getB K (He.ga K "LENGTHS") "skip" 1 = true),
  decide (getB K (He.ga K "LENGTHS") "hole" 1 = true),
  decide (getB K (He.ga K "LENGTHS") "set" 3 = true),
  decide (getB K (He.ga K "LENGTHS") "draw" 4 = true),
  decide (getB K (He.ga K "LENGTHS") "then" 3 = true),
  decide (getB K (He.ga K "LENGTHS") "if" 4 = true),
  decide (getB K (He.ga K "LENGTHS") "either" 3 = true),
  decide (getB K (He.ga K "LENGTHS") "while" 3 = true),
  decide (getB K (He.ga K "PARTS_FROM") "skip" 1 = true),
  decide (getB K (He.ga K "PARTS_FROM") "hole" 1 = true),
  decide (getB K (He.ga K "PARTS_FROM") "set" 3 = true),
  decide (getB K (He.ga K "PARTS_FROM") "draw" 4 = true),
  decide (getB K (He.ga K "PARTS_FROM") "then" 1 = true),
  decide (getB K (He.ga K "PARTS_FROM") "if" 2 = true),
  decide (getB K (He.ga K "PARTS_FROM") "either" 1 = true),
  decide (getB K (He.ga K "PARTS_FROM") "while" 2 = true),
  decide (tupIntsB K ((seqRefs K (He.ga K "ALL_SIZES")).getD 0 0) [2] = true),
  decide (tupIntsB K ((seqRefs K (He.ga K "ALL_SIZES")).getD 1 0) [3] = true),
  decide (tupIntsB K ((seqRefs K (He.ga K "ALL_SIZES")).getD 2 0) [4] = true),
  decide (tupIntsB K ((seqRefs K (He.ga K "ALL_SIZES")).getD 3 0) [5] = true),
  decide (tupIntsB K ((seqRefs K (He.ga K "ALL_SIZES")).getD 4 0) [6] = true)]
def ht4 (K : PySem.W.Frag) : List Bool := [decide (tupIntsB K ((seqRefs K (He.ga K "ALL_SIZES")).getD 5 0) [7] = true),
  decide (tupIntsB K ((seqRefs K (He.ga K "ALL_SIZES")).getD 6 0) [8] = true),
  decide (tupIntsB K ((seqRefs K (He.ga K "ALL_SIZES")).getD 7 0) [2, 2] = true),
  decide (tupIntsB K ((seqRefs K (He.ga K "ALL_SIZES")).getD 8 0) [2, 3] = true),
  decide (tupIntsB K ((seqRefs K (He.ga K "ALL_SIZES")).getD 9 0) [3, 2] = true),
  decide (tupIntsB K ((seqRefs K (He.ga K "ALL_SIZES")).getD 10 0) [2, 4] = true),
  decide (tupIntsB K ((seqRefs K (He.ga K "ALL_SIZES")).getD 11 0) [4, 2] = true),
  decide (tupIntsB K ((seqRefs K (He.ga K "ALL_SIZES")).getD 12 0) [2, 2, 2] = true),
  decide (PySem.W.nsIn K mainGlobals "isinstance" = some none),
  decide (PySem.W.nsIn K mainGlobals "int" = some none),
  decide (PySem.W.nsIn K mainGlobals "bool" = some none),
  decide (PySem.W.nsIn K mainGlobals "str" = some none),
  decide (PySem.W.nsIn K mainGlobals "list" = some none),
  decide (PySem.W.nsIn K mainGlobals "tuple" = some none),
  decide (PySem.W.nsIn K mainGlobals "len" = some none),
  decide (PySem.W.nsIn K mainGlobals "abs" = some none),
  decide (PySem.W.nsIn K mainGlobals "max" = some none),
  decide (PySem.W.nsIn K mainGlobals "min" = some none),
  decide (PySem.W.nsIn K mainGlobals "sum" = some none),
  decide (PySem.W.nsIn K mainGlobals "repr" = some none),
  decide (PySem.W.nsIn K mainGlobals "all" = some none),
  decide (PySem.W.nsIn K mainGlobals "range" = some none),
  decide (PySem.W.nsIn K mainGlobals "zip" = some none),
  decide (PySem.W.nsIn K mainGlobals "any" = some none),
  decide (PySem.W.nsIn K mainGlobals "enumerate" = some none),
  decide (PySem.W.nsIn K mainGlobals "gcd" = some (some (.builtin "math.gcd"))),
  decide (PySem.W.nsIn K mainGlobals "MOST_SIZE" = some (some (.int 24 (tkOf K "MOST_SIZE")))),
  decide (PySem.W.nsIn K mainGlobals "MOST_DEPTH" = some (some (.int 4 (tkOf K "MOST_DEPTH")))),
  decide (PySem.W.nsIn K mainGlobals "MOST_HOLES" = some (some (.int 3 (tkOf K "MOST_HOLES")))),
  decide (PySem.W.nsIn K mainGlobals "MOST_WEIGHT" = some (some (.int 1000000 (tkOf K "MOST_WEIGHT"))))]
def ht5 (K : PySem.W.Frag) : List Bool := [decide (PySem.W.nsIn K mainGlobals "MOST_NAMES" = some (some (.int 3 (tkOf K "MOST_NAMES")))),
  decide (PySem.W.nsIn K mainGlobals "MOST_STORES" = some (some (.int 8 (tkOf K "MOST_STORES"))))]
def hnm0 : List PySem.Str := ["__name__", "EndError", "InvalidSizes", "InvalidStore", "InvalidValues", "InvalidLine", "InvalidSpace", "InvalidText", "InvalidSurrounding", "InvalidPath", "InvalidPart", "TooMany", "is_integer", "is_list", "is_from", "is_index", "is_set_below", "is_ascending", "is_digits", "MOST_NAMES", "MOST_STORES", "Space", "all_values", "is_sizes", "is_values", "need_space", "read_space", "MOST_SIZE", "MOST_DEPTH", "MOST_HOLES"]
def hnm1 : List PySem.Str := ["MOST_WEIGHT", "LENGTHS", "PARTS_FROM", "ALL_SIZES", "is_text", "is_surrounding", "size", "depth", "put_at", "fill", "need_text", "need_any_text", "is_text_or_surrounding", "is_hole_count", "holes_of", "is_part", "is_name", "is_setting", "is_pair", "is_weighing", "children", "in_tuples", "listed_parts", "is_path", "size_of", "depth_of", "replaced", "filled", "within_bounds", "_law_cell"]
def hnm2 : List PySem.Str := ["_law_box", "_law_take", "_law_product", "_law_widths", "_law_row", "_law_guard", "_law_weights", "_law_leaf", "_law_kids", "_law_tupled", "_law_all_parts", "_law_put", "_law_filled", "_law_shape", "_law_pile", "_law_sized", "_law_around", "_law_told", "_law_meets", "_law_right"]
def hnames : List PySem.Str := hnm0 ++ hnm1 ++ hnm2
abbrev hR : PySem.W.OpenRow := PySem.W.OpenLaw.row PySem.Challenge.rw_endlots_k13_sizes_and_depths
abbrev hq : Program := PySem.W.view hR.prog [0, 85]
def htr0 (K : PySem.W.Frag) : List (List Bool) := [ht0 K, ht1 K, ht2 K, ht3 K]
def hfb0 (K : PySem.W.Frag) : Bool := (htr0 K).all fun l => l.all id
def hfn0 : List He.DefD := [hd0, hd1, hd2, hd3, hd4, hd5, hd6, hd7, hd8, hd9, hd10, hd11, hd12, hd13, hd14, hd15, hd16, hd17, hd18, hd19, hd20, hd21, hd22, hd23, hd24, hd25, hd26, hd27, hd28, hd29, hd30]
theorem hrun0_false (w : World) : RunX hR hq has hfb0 hfn0 20000 hnames (w.withFollow "special-get-raises" false) := by
  unfold RunX HandSHeadRun.RunEqI
  kernel_rfl
theorem hrun0_true (w : World) : RunX hR hq has hfb0 hfn0 20000 hnames (w.withFollow "special-get-raises" true) := by
  unfold RunX HandSHeadRun.RunEqI
  kernel_rfl
theorem hrun0 (w : World) : RunX hR hq has hfb0 hfn0 20000 hnames w := by
  have h : ∀ b : Bool, RunX hR hq has hfb0 hfn0 20000 hnames (w.withFollow "special-get-raises" b) := fun b => by
    cases b
    · exact hrun0_false w
    · exact hrun0_true w
  have := h (w.params.followText "special-get-raises")
  rw [World.withFollow_self] at this
  exact this
def htr1 (K : PySem.W.Frag) : List (List Bool) := [ht4 K, ht5 K]
def hfb1 (K : PySem.W.Frag) : Bool := (htr1 K).all fun l => l.all id
def hfn1 : List He.DefD := [hd31, hd32, hd33, hd34, hd35, hd36, hd37, hd38, hd39, hd40, hd41, hd42, hd43, hd44, hd45, hd46, hd47, hd48, hd49, hd50, hd51, hd52, hd53, hd54, hd55, hd56, hd57, hd58, hd59]
theorem hrun1_false (w : World) : RunX hR hq has hfb1 hfn1 20000 hnames (w.withFollow "special-get-raises" false) := by
  unfold RunX HandSHeadRun.RunEqI
  kernel_rfl
theorem hrun1_true (w : World) : RunX hR hq has hfb1 hfn1 20000 hnames (w.withFollow "special-get-raises" true) := by
  unfold RunX HandSHeadRun.RunEqI
  kernel_rfl
theorem hrun1 (w : World) : RunX hR hq has hfb1 hfn1 20000 hnames w := by
  have h : ∀ b : Bool, RunX hR hq has hfb1 hfn1 20000 hnames (w.withFollow "special-get-raises" b) := fun b => by
    cases b
    · exact hrun1_false w
    · exact hrun1_true w
  have := h (w.params.followText "special-get-raises")
  rw [World.withFollow_self] at this
  exact this
def hfb (K : PySem.W.Frag) : Bool := (hfb0 K && hfb1 K)
def hfn : List He.DefD := (hfn0 ++ hfn1)
theorem hrun (w : World) : RunX hR hq has hfb hfn 20000 hnames w := ((hrun0 w).join (hrun1 w))
def htabs : List He.Tab := [(fun K => (He.ga K "LENGTHS"), ["skip", "hole", "set", "draw", "then", "if", "either", "while"]), (fun K => (He.ga K "PARTS_FROM"), ["skip", "hole", "set", "draw", "then", "if", "either", "while"])]
theorem hrunT_false (w : World) : RunW hR hq has htabs 20000 hnames (w.withFollow "special-get-raises" false) := by
  unfold RunW HandSHeadRun.RunEqI
  kernel_rfl
theorem hrunT_true (w : World) : RunW hR hq has htabs 20000 hnames (w.withFollow "special-get-raises" true) := by
  unfold RunW HandSHeadRun.RunEqI
  kernel_rfl
theorem hrunT (w : World) : RunW hR hq has htabs 20000 hnames w := by
  have h : ∀ b : Bool, RunW hR hq has htabs 20000 hnames (w.withFollow "special-get-raises" b) := fun b => by
    cases b
    · exact hrunT_false w
    · exact hrunT_true w
  have := h (w.params.followText "special-get-raises")
  rw [World.withFollow_self] at this
  exact this
theorem hrunXT (w : World) : HandSHeadRun.RunEqI hR hq (hookXW has hfb hfn htabs) (obXW has hfb hfn htabs) 20000 hnames w := (hrun w).tab (hrunT w)
end Eld
set_option Elab.async false
set_option linter.all false
/-! Eld: a promise that follows from another; a def that keeps it. -/
namespace Eld
open PySem PySem.Spec PyProof.Rows L2
variable {P : Program} {w : World} {K : PySem.W.Frag} {mg : Str → Option Value} {base : Heap}
theorem FnG.imp {CX : CXT} {k : Nat} {f : Addr} {fd : FuncData} {ps : List Str} {sp sp' : Sp} (F : FnG P w K mg base CX k f fd ps sp) (h : ∀ vs H Q E, sp' vs H Q E → sp vs H Q E) : FnG P w K mg base CX k f fd ps sp' :=
  ⟨fun vs H Q E s => F.len vs H Q E (h vs H Q E s), fun B up z H ar us vs Q E g r e b rv s => F.run B up z H ar us vs Q E g r e b rv (h vs H Q E s)⟩
theorem DefD.imp {k n : Nat} {x : Str} {ks : List Str} {gV : List V → List V → List V} {sp sp' : Sp} (d : DefD P w K mg base k x n ks gV sp) (h : ∀ vs H Q E, sp' vs H Q E → sp vs H Q E) : DefD P w K mg base k x n ks gV sp' := by
  obtain ⟨f, fd, ps, g, a, b, c, e⟩ := d
  exact ⟨f, fd, ps, g, a, b, c.imp h, e⟩
end Eld
set_option Elab.async false
set_option maxRecDepth 100000
set_option maxHeartbeats 4000000
set_option linter.all false
namespace Eld
open PySem L2
/-! ## what k02's parts say for any row: readings, walks, heaps, the box of draws -/
theorem r_yes {σ : L2.St} {H : Hp} {q : Bool → Hp → Prop} (h : q true H) : tYes σ H q := h
theorem iteNT {A B : Prop} (h : B) : if (!true) = true then A else B := by
  rw [if_neg (by decide)]
  exact h
theorem iteNF {A B : Prop} (h : A) : if (!false) = true then A else B := by
  rw [if_pos (by decide)]
  exact h
theorem pe_ty {X : Cx} {x : Str} {pos : Pos} (T : String) (hg : Gl X x) (hm : X.mg x = none) (hv : bootBuiltins x = some (.type T)) (hn : x ≠ "__name__" := by decide) (hd : (x == ("__debug__" : Str)) = false := by decide) : PE X (.Name x pos) (tC (.ty T)) := pe_bltn hg hm hv rfl hn hd
theorem pe_gc {X : Cx} {x : Str} {v : V} {pos : Pos} (hg : Gl X x) (h : ∃ u, X.mg x = some u ∧ RelV v u) (hd : (x == ("__debug__" : Str)) = false := by decide) : PE X (.Name x pos) (tC v) := by
  obtain ⟨u, hm, r⟩ := h
  exact pe_glob hg hm r hd
/-! ## walks of anything: an invariant over the turn and the heap -/
section
variable {K : PySem.W.Frag} {a : Addr} {xs : List V} {H0 : Hp} {Stop : Hp → Prop} {Turn : (Hp → Prop) → V → Hp → Prop}
theorem it_list (Pv : Nat → Hp → Prop) (h0 : Pv 0 H0) (hl : ∀ i H, i ≤ xs.length → Pv i H → SqL K H a xs) (hs : ∀ i x H, xs[i]? = some x → Pv i H → Turn (Pv (i + 1)) x H) (hd : ∀ H, Pv xs.length H → Stop H) :
    ∃ W : Nat → Nat → Hp → Prop, (∃ m, W 0 m H0) ∧ ∀ i m H, W i m H → ((Itl K a).stop i H ∧ Stop H) ∨ ((Itl K a).go i H ∧ ∃ Nx : Hp → Prop, (∀ H', Nx H' → ∃ m', m' < m ∧ W (i + 1) m' H') ∧ ∀ x H', (Itl K a).yld i H x H' → Turn Nx x H') := by
  refine ⟨fun i m H => m + i = xs.length ∧ Pv i H, ⟨xs.length, rfl, h0⟩, ?_⟩
  rintro i m H ⟨e, p⟩
  have q := hl i H (by omega) p
  cases m with
  | zero =>
    have e' : i = xs.length := by omega
    subst e'
    exact .inl ⟨⟨xs, q, Nat.le_refl _⟩, hd H p⟩
  | succ m =>
    have lt : i < xs.length := by omega
    refine .inr ⟨⟨xs, xs[i], q, List.getElem?_eq_getElem lt⟩, Pv (i + 1), fun H' p' => ⟨m, Nat.lt_succ_self _, by omega, p'⟩, ?_⟩
    rintro x H' ⟨rfl, y⟩
    exact hs i x _ (y xs q) p
theorem it_tup (Pv : Nat → Hp → Prop) (h0 : Pv 0 H0) (hl : ∀ i H, i ≤ xs.length → Pv i H → SqT K H a xs) (hs : ∀ i x H, xs[i]? = some x → Pv i H → Turn (Pv (i + 1)) x H) (hd : ∀ H, Pv xs.length H → Stop H) :
    ∃ W : Nat → Nat → Hp → Prop, (∃ m, W 0 m H0) ∧ ∀ i m H, W i m H → ((Itt K a).stop i H ∧ Stop H) ∨ ((Itt K a).go i H ∧ ∃ Nx : Hp → Prop, (∀ H', Nx H' → ∃ m', m' < m ∧ W (i + 1) m' H') ∧ ∀ x H', (Itt K a).yld i H x H' → Turn Nx x H') := by
  refine ⟨fun i m H => m + i = xs.length ∧ Pv i H, ⟨xs.length, rfl, h0⟩, ?_⟩
  rintro i m H ⟨e, p⟩
  have q := hl i H (by omega) p
  cases m with
  | zero =>
    have e' : i = xs.length := by omega
    subst e'
    exact .inl ⟨⟨xs, q, Nat.le_refl _⟩, hd H p⟩
  | succ m =>
    have lt : i < xs.length := by omega
    refine .inr ⟨⟨xs, xs[i], q, List.getElem?_eq_getElem lt⟩, Pv (i + 1), fun H' p' => ⟨m, Nat.lt_succ_self _, by omega, p'⟩, ?_⟩
    rintro x H' ⟨rfl, y⟩
    exact hs i x _ (y xs q) p
theorem it_range {lo : Int} {n : Nat} (Pv : Nat → Hp → Prop) (h0 : Pv 0 H0) (hs : ∀ i H, i < n → Pv i H → Turn (Pv (i + 1)) (.int (lo + i)) H) (hd : ∀ H, Pv n H → Stop H) :
    ∃ W : Nat → Nat → Hp → Prop, (∃ m, W 0 m H0) ∧ ∀ i m H, W i m H → ((Itr lo n).stop i H ∧ Stop H) ∨ ((Itr lo n).go i H ∧ ∃ Nx : Hp → Prop, (∀ H', Nx H' → ∃ m', m' < m ∧ W (i + 1) m' H') ∧ ∀ x H', (Itr lo n).yld i H x H' → Turn Nx x H') := by
  refine ⟨fun i m H => m + i = n ∧ Pv i H, ⟨n, rfl, h0⟩, ?_⟩
  rintro i m H ⟨e, p⟩
  cases m with
  | zero =>
    have e' : i = n := by omega
    subst e'
    exact .inl ⟨Nat.le_refl _, hd H p⟩
  | succ m =>
    refine .inr ⟨by show i < n; omega, Pv (i + 1), fun H' p' => ⟨m, Nat.lt_succ_self _, by omega, p'⟩, ?_⟩
    rintro x H' ⟨rfl, rfl⟩
    exact hs i _ (by omega) p
end
theorem Same.upd_new {H : Hp} {p : Addr} {o : HO} (h : H p = none) : Same H (upd H p o) := fun b u e => by rw [upd_ne (ne_of_none e h)]; exact e
/-- a list D that is made while all of G stands -/
theorem Same.over {G H : Hp} {D : Addr} {o : HO} (s : Same G H) (d : G D = none) : Same G (upd H D o) := fun b u e => by
  rw [upd_ne (ne_of_none e d)]
  exact s b u e
/-- the box of draws at b: a great number, its flag, its rest, how many draws so far (at most n) -/
def BoxAt (H : Hp) (b : Addr) (n : Nat) : Prop := ∃ (g m c : Int) (t : Bool), H b = some (.lst [.int g, .bl t, .int m, .int c]) ∧ 0 ≤ g ∧ 0 ≤ m ∧ m < 2147483648 ∧ 0 ≤ c ∧ c ≤ n
def But (b : Addr) (H H' : Hp) : Prop := ∀ a o, a ≠ b → H a = some o → H' a = some o
theorem SqL.same {K : PySem.W.Frag} {H H' : Hp} {a : Addr} {xs : List V} (h : SqL K H a xs) (s : Same H H') : SqL K H' a xs := by
  rcases h with (e | ⟨o, e⟩) | q
  · exact .inl (.inl (s _ _ e))
  · exact .inl (.inr ⟨o, s _ _ e⟩)
  · exact .inr q
theorem BoxAt.mono {H : Hp} {b : Addr} {n m : Nat} (h : BoxAt H b n) (l : n ≤ m) : BoxAt H b m := by
  obtain ⟨g, m', c, t, h1, h2, h3, h4, h5, h6⟩ := h
  exact ⟨g, m', c, t, h1, h2, h3, h4, h5, by omega⟩
theorem BoxAt.same {H H' : Hp} {b : Addr} {n : Nat} (h : BoxAt H b n) (s : Same H H') : BoxAt H' b n := by
  obtain ⟨g, m', c, t, h1, r⟩ := h
  exact ⟨g, m', c, t, s _ _ h1, r⟩
/-- a list of this length stands apart from a box -/
theorem BoxAt.ne {H : Hp} {b a : Addr} {n : Nat} {o : HO} (h : BoxAt H b n) (e : H a = some o) (d : ∀ g m c t, o ≠ .lst [.int g, .bl t, .int m, .int c]) : a ≠ b := by
  obtain ⟨g, m', c, t, h1, r⟩ := h
  exact ne_of e h1 (d _ _ _ _)
theorem But.of {b : Addr} {H H' : Hp} (s : Same H H') : But b H H' := fun a o _ e => s a o e
theorem But.refl {b : Addr} (H : Hp) : But b H H := fun _ _ _ e => e
theorem But.trans {b : Addr} {H H' H'' : Hp} (s : But b H H') (t : But b H' H'') : But b H H'' := fun a o n e => t a o n (s a o n e)
theorem if_both {c : Bool} {ta tb : TE} {σ : L2.St} {H : Hp} {Q : VK} (R : VK → Prop) (hA : c = true → ∀ Q, R Q → ta σ H Q) (hB : c = false → ∀ Q, R Q → tb σ H Q) (h : R Q) : if c = true then ta σ H Q else tb σ H Q := by
  cases c with
  | true => exact hA rfl Q h
  | false => exact hB rfl Q h
theorem r_for {wi : TI} {g : TG} {tb : TS} {D : Ends} {σ : L2.St} {H : Hp} (h : wi σ H fun J H1 => ∃ W : Nat → Nat → L2.St → Hp → Prop, (∃ m, W 0 m σ H1) ∧ ∀ i m σ H, W i m σ H →
    (J.stop i H ∧ D.nx σ H) ∨ (J.go i H ∧ ∃ N : L2.St → Hp → Prop, (∀ σ' H', N σ' H' → ∃ m', m' < m ∧ W (i + 1) m' σ' H') ∧ ∀ x H', J.yld i H x H' → g x σ H' fun σ2 H2 => tb { D with nx := N, ct := N, bk := D.nx } σ2 H2)) : tFor wi g tb D σ H := h
theorem r_lc {wi : TI} {g : TG} {tt : TT} {te : TE} {vs : List Nat} {σ : L2.St} {H : Hp} {Q : VK} (h : wi σ H fun J H1 => ∀ D, H1 D = none → ∃ W : Nat → Nat → Hp → Prop, (∃ m, W 0 m (upd H1 D (.lst []))) ∧ ∀ i m H, W i m H →
    (J.stop i H ∧ Q (.ref D) H) ∨ (J.go i H ∧ ∃ Nx : Hp → Prop, (∀ H', Nx H' → ∃ m', m' < m ∧ W (i + 1) m' H') ∧ ∀ x H', J.yld i H x H' → g x (wipe σ vs) H' fun σ2 H2 => wipe σ2 vs = wipe σ vs ∧ tt σ2 H2 fun b H3 =>
      if b = true then te σ2 H3 fun y H4 => ∃ acc, H4 D = some (.lst acc) ∧ acc.length < sizeLine ∧ Nx (upd H4 D (.lst (acc ++ [y]))) else Nx H3)) : tLc wi g tt te vs σ H Q := h
theorem r_il {K : PySem.W.Frag} {tl : TE} {σ : L2.St} {H : Hp} {R : It → Hp → Prop} (h : tl σ H fun x H1 => ∃ a, x = .ref a ∧ (∃ xs, SqL K H1 a xs) ∧ R (Itl K a) H1) : iList K tl σ H R := h
theorem r_par {i j : Nat} {ta : TA} {D : Ends} {σ : L2.St} {H : Hp} (h : ta σ H fun vs H1 => ∃ v w, vs = [v, w] ∧ D.nx ((σ.set i (some v)).set j (some w)) H1) : tPar i j ta D σ H := h
end Eld
set_option Elab.async false
set_option maxRecDepth 100000
set_option maxHeartbeats 4000000
set_option linter.all false
namespace Eld
open PySem PySem.Spec PyProof.Rows L2
/-! ## zip of a list and a tuple -/
def ItzM (K : PySem.W.Frag) (a b : Addr) : It where
  go := fun i H => ∃ xs ys x y, SqL K H a xs ∧ SqT K H b ys ∧ xs[i]? = some x ∧ ys[i]? = some y
  yld := fun i H v H' => ∃ T x y, v = .ref T ∧ H T = none ∧ H' = upd H T (.tup [x, y]) ∧ (∀ xs, SqL K H a xs → xs[i]? = some x) ∧ ∀ ys, SqT K H b ys → ys[i]? = some y
  stop := fun i H => ∃ xs ys, SqL K H a xs ∧ SqT K H b ys ∧ i = xs.length ∧ i = ys.length
/-- the five records of such a zip at its i-th turn -/
structure ZRec (z TI TO i1 i2 a b : Addr) (i : Nat) (h : Heap) : Prop where
  zz : IsZip h z TI TO .none
  ti : IsTupOf2 h TI (.ref i1) (.ref i2)
  to : ∃ x y, IsTupOf2 h TO x y
  l1 : h.IsListIter i1 a i
  l2 : h.IsTupleIter i2 b i
theorem list_inj {X : Cx} {pins : List (Addr × Obj)} {σ : L2.St} {H : Hp} {s : Shared} {a : Addr} {xs ys : List V} (I : Inv X pins σ H s) (h1 : SqL X.K H a xs) (h2 : SqL X.K H a ys) : xs = ys := I.list_inj h1 h2
theorem zrec_turn {P : Program} {w : World} {K : PySem.W.Frag} {elts : List Expr} {kk : Nat} {tpos : Pos} {a b z TI TO i1 i2 : Addr} (S : ZipSep2 z TI TO i1 i2 [i1, a] [i2, b]) (n1 : a ≠ i1) (n2 : b ≠ i2) :
    Turn P w K (.Tuple elts kk tpos) (ItzM K a b) [z, TI, TO, i1, i2] z (ZRec z TI TO i1 i2 a b) := by
  have five : ∀ {c : Addr}, c ∈ [z, TI, TO, i1, i2] → c = z ∨ c = TI ∨ c = TO ∨ c = i1 ∨ c = i2 := fun h => by simpa using h
  have there : ∀ (i : Nat) (h : Heap), ZRec z TI TO i1 i2 a b i h → ∀ c ∈ [z, TI, TO, i1, i2], ∃ o, h.get? c = some o ∧ ∀ v, o.data ≠ .cell v := by
    rintro i h ⟨hz, ht, ⟨x, y, ho⟩, ⟨o1, e1, _, d1⟩, ⟨o2, e2, _, d2⟩⟩ c hc
    rcases five hc with rfl | rfl | rfl | rfl | rfl
    · exact ⟨_, hz, fun v q => nomatch q⟩
    · exact ⟨_, ht, fun v q => nomatch q⟩
    · exact ⟨_, ho, fun v q => nomatch q⟩
    · exact ⟨o1, e1, fun v q => by rw [d1] at q; cases q⟩
    · exact ⟨o2, e2, fun v q => by rw [d2] at q; cases q⟩
  refine ⟨by simp, there, ?_, ?_, ?_, fun A i s Q E st h => wpAny_pyIter_zip st.zz h⟩
  · rintro i h h' ⟨hz, ht, ⟨x, y, ho⟩, h1, h2⟩ k
    exact ⟨k z (by simp) _ hz, k TI (by simp) _ ht, ⟨x, y, k TO (by simp) _ ho⟩, h1.at fun o q => k i1 (by simp) o q, h2.at fun o q => k i2 (by simp) o q⟩
  · rintro X rfl rfl rfl calm i pins s σ H E I fp st ⟨xs, ys, x, y, qx, qy, hx, hy⟩
    obtain ⟨hz, ht, ⟨x0, y0, ho⟩, h1, h2⟩ := id st
    obtain ⟨its, rv, pl, _⟩ := I.list qx
    obtain ⟨jts, rw', pt, _⟩ := I.tuple qy
    obtain ⟨u, hu, ru⟩ := rv.get hx
    obtain ⟨v, hv, rv'⟩ := rw'.get hy
    have hnd : X.A.in1.handled = none := I.ok.hd calm
    have lu : i < its.toArray.size := by simpa using (List.getElem?_eq_some_iff.mp hu).1
    have lv : i < jts.toArray.size := by simpa using (List.getElem?_eq_some_iff.mp hv).1
    have zl : z < s.heap.objs.size := Heap.lt_size hz
    refine wpAny_pyNext_zipD2_item S (Draws.list hnd i1 a n1 its.toArray) (Draws.tuple hnd i2 b n2 jts.toArray) hz ht ho ⟨h1, pl.isList⟩ ⟨h2, pt⟩ lu lv ?_
    intro x1 x2 h' tk e1 e2 hz' ho' st1 st2 hT sz keep
    have e1' : x1 = u := by
      have e : its.toArray[i]? = some x1 := e1
      rw [List.getElem?_toArray, hu] at e
      exact (Option.some.inj e).symm
    have e2' : x2 = v := by
      have e : jts.toArray[i]? = some x2 := e2
      rw [List.getElem?_toArray, hv] at e
      exact (Option.some.inj e).symm
    subst e1' e2'
    refine ⟨_, rfl, wpAny_letOwnedTupleGo_zip (s := { s with heap := h', toks := tk }) hz' ?_⟩
    intro h3 hz3 sb
    have hT3 : h3.get? s.heap.objs.size = some { cls := .type "tuple", data := .seq #[x1, x2] } := (sb.2 _ (Nat.ne_of_gt zl)).trans hT
    have ok : ObjOk X.prog X.w (upd H s.heap.objs.size (.tup [x, y])) h3 s.heap.objs.size (.tup [x, y]) := ⟨by show 2 ≤ sizeLine; decide, [x1, x2], .cons ru (.cons rv' .nil), ⟨_, hT3, rfl, _, rfl⟩⟩
    have same : ∀ c o, c ∉ [z, TI, TO, i1, i2] → s.heap.get? c = some o → h3.get? c = some o := by
      intro c o nc e
      have g : ∀ d ∈ [z, TI, TO, i1, i2], c ≠ d := fun d hd e' => nc (e' ▸ hd)
      exact (sb.2 c (g z (by simp))).trans (keep c o (g z (by simp)) (g TO (by simp)) (g i1 (by simp)) (g i2 (by simp)) e)
    have J := I.turnedNew (t' := tk) same fp (Nat.le_refl _) ok
    refine ⟨.ref s.heap.objs.size, _, J, rfl, ⟨_, x, y, rfl, I.hok.fresh (Nat.le_refl _), rfl, ?_, ?_⟩, ?_, ?_⟩
    · intro l hl
      rw [list_inj I hl qx]
      exact hx
    · intro l hl
      rw [I.tuple_inj hl qy]
      exact hy
    · refine ⟨hz3, ?_, ⟨x1, x2, ?_⟩, ?_, ?_⟩
      · exact (sb.2 _ S.TIz).trans (keep _ _ S.TIz S.TITO S.TIi1 S.TIi2 ht)
      · exact (sb.2 _ S.TOz).trans ho'
      · exact st1.1.at fun o q => (sb.2 _ (Ne.symm S.zi1)).trans q
      · exact st2.1.at fun o q => (sb.2 _ (Ne.symm S.zi2)).trans q
    · intro c hc
      obtain ⟨o, e, _⟩ := there i s.heap st c hc
      rw [upd_ne (Nat.ne_of_lt (Heap.lt_size e))]
      exact (fp c hc).1
  · rintro X rfl rfl rfl calm i pins s σ H E I fp st ⟨xs, ys, qx, qy, ex, ey⟩
    obtain ⟨hz, ht, ⟨x0, y0, ho⟩, h1, h2⟩ := id st
    obtain ⟨its, rv, pl, _⟩ := I.list qx
    obtain ⟨jts, rw', pt, _⟩ := I.tuple qy
    have hnd : X.A.in1.handled = none := I.ok.hd calm
    have l1 := rv.length
    have l2 := rw'.length
    refine wpAny_pyNext_zipD2_end S (Draws.list hnd i1 a n1 its.toArray) (Draws.tuple hnd i2 b n2 jts.toArray) hz ht ho ⟨h1, pl.isList⟩ ⟨h2, pt⟩ (by simp; omega) (by simp; omega) (.inl (by simp; omega)) ?_
    intro h' tk keep
    refine ⟨rfl, I.turnedL (t' := tk) (ch := [z, TI, TO, i1, i2]) ?_ fp⟩
    intro c o nc e
    have g : ∀ d ∈ [z, TI, TO, i1, i2], c ≠ d := fun d hd e' => nc (e' ▸ hd)
    exact keep c o (g z (by simp)) (g TO (by simp)) (g i1 (by simp)) (g i2 (by simp)) e
def iZipM (K : PySem.W.Frag) (ta : TA) : TI := fun σ H R => ta σ H fun vs H1 => ∃ a b xs ys, vs = [.ref a, .ref b] ∧ SqL K H1 a xs ∧ SqT K H1 b ys ∧ R (ItzM K a b) H1
theorem pi_zipM {X : Cx} {e e2 : Expr} {ta : TA} {p pos tpos : Pos} {elts : List Expr} {kk : Nat} (hg : Gl X "zip") (hm : X.mg "zip" = none) (ha : PA X [e, e2] ta)
    (h2 : starEach [e, e2] X.env = (false, eval e X.env) :: starEach [e2] X.env := by rfl) (h3 : (backTo pos (starEach [e2] X.env)).any (·.1) = false := by rfl) : PI X (.Tuple elts kk tpos) (.Call (.Name "zip" p) [e, e2] [] pos) (iZipM X.K ta) := by
  constructor
  intro pins s σ H R I h
  refine Call_ (ld_blt I hg hm PyProof.Rows.boot_zip (PyProof.Rows.callWith_type1 (thn (ha.run pos pins s σ H _ I h) ?_) h2 h3))
  rintro us s1 ⟨vs, H1, I1, r1, a, b, xs, ys, rfl, qx, qy, q⟩
  obtain ⟨u1, u2, rfl, ra, rb⟩ := vals2 r1
  cases ra
  cases rb
  obtain ⟨its, rv, pl, _⟩ := I1.list qx
  obtain ⟨jts, rw', pt, _⟩ := I1.tuple qy
  have la : a < s1.heap.objs.size := pl.lt
  have lb : b < s1.heap.objs.size := by
    obtain ⟨o, e, _⟩ := id pt
    exact Heap.lt_size e
  refine zip_begins2 (begins_list a its.toArray) (begins_tuple b jts.toArray) pl.isList pt ?_
  intro h' hz ht ho g1 g2 sz keep
  have I2 : Inv X pins σ H1 { s1 with heap := h' } := I1.kept (t' := s1.toks) keep
  refine wpAny_pyIter_zip hz ⟨s1.heap.objs.size + 4, [s1.heap.objs.size + 4, s1.heap.objs.size + 2, s1.heap.objs.size + 3, s1.heap.objs.size, s1.heap.objs.size + 1], _, _, H1, rfl, I2,
    zrec_turn (zip_sep2 (N := s1.heap.objs.size) (fp1 := [a]) (fp2 := [b]) (by simpa using la) (by simpa using lb)) (Nat.ne_of_lt la) (Nat.ne_of_lt (Nat.lt_succ_of_lt lb)), ⟨hz, ht, ⟨_, _, ho⟩, ⟨_, g1, rfl, rfl⟩, ⟨_, g2, rfl, rfl⟩⟩, ?_, q⟩
  intro c hc
  have hle : s1.heap.objs.size ≤ c := by
    have e : c = s1.heap.objs.size + 4 ∨ c = s1.heap.objs.size + 2 ∨ c = s1.heap.objs.size + 3 ∨ c = s1.heap.objs.size ∨ c = s1.heap.objs.size + 1 := by simpa using hc
    rcases e with rfl | rfl | rfl | rfl | rfl
    all_goals first | exact Nat.le_refl _ | exact Nat.le_add_right _ _
  exact I1.fpOk hle (I1.hok.fresh hle)
/-- over such a zip, the items as they are -/
theorem it_zipM {K : PySem.W.Frag} {a b : Addr} {xs ys : List V} {H0 : Hp} {Stop : Hp → Prop} {Turn : (Hp → Prop) → V → Hp → Prop} (hl : xs.length = ys.length) (Pv : Nat → Hp → Prop) (h0 : Pv 0 H0) (hq : ∀ i H, i ≤ xs.length → Pv i H → SqL K H a xs ∧ SqT K H b ys)
    (hs : ∀ i x y T H, xs[i]? = some x → ys[i]? = some y → Pv i H → H T = none → Turn (Pv (i + 1)) (.ref T) (upd H T (.tup [x, y]))) (hd : ∀ H, Pv xs.length H → Stop H) :
    ∃ W : Nat → Nat → Hp → Prop, (∃ m, W 0 m H0) ∧ ∀ i m H, W i m H → ((ItzM K a b).stop i H ∧ Stop H) ∨ ((ItzM K a b).go i H ∧ ∃ Nx : Hp → Prop, (∀ H', Nx H' → ∃ m', m' < m ∧ W (i + 1) m' H') ∧ ∀ x H', (ItzM K a b).yld i H x H' → Turn Nx x H') := by
  refine ⟨fun i m H => m + i = xs.length ∧ Pv i H, ⟨xs.length, rfl, h0⟩, ?_⟩
  rintro i m H ⟨e, p⟩
  obtain ⟨q1, q2⟩ := hq i H (by omega) p
  cases m with
  | zero =>
    have e' : i = xs.length := by omega
    subst e'
    exact .inl ⟨⟨xs, ys, q1, q2, rfl, hl⟩, hd H p⟩
  | succ m =>
    have l1 : i < xs.length := by omega
    have l2 : i < ys.length := by omega
    refine .inr ⟨⟨xs, ys, _, _, q1, q2, List.getElem?_eq_getElem l1, List.getElem?_eq_getElem l2⟩, Pv (i + 1), fun H' p' => ⟨m, Nat.lt_succ_self _, by omega, p'⟩, ?_⟩
    rintro x H' ⟨T, x', y', rfl, nT, rfl, f1, f2⟩
    exact hs i x' y' T H (f1 xs q1) (f2 ys q2) p nT
theorem it_zipT {K : PySem.W.Frag} {a b : Addr} {xs ys : List V} {H0 : Hp} {Stop : Hp → Prop} {Turn : (Hp → Prop) → V → Hp → Prop} (hl : xs.length = ys.length) (Pv : Nat → Hp → Prop) (h0 : Pv 0 H0) (hq : ∀ i H, i ≤ xs.length → Pv i H → SqT K H a xs ∧ SqT K H b ys)
    (hs : ∀ i x y T H, xs[i]? = some x → ys[i]? = some y → Pv i H → H T = none → Turn (Pv (i + 1)) (.ref T) (upd H T (.tup [x, y]))) (hd : ∀ H, Pv xs.length H → Stop H) :
    ∃ W : Nat → Nat → Hp → Prop, (∃ m, W 0 m H0) ∧ ∀ i m H, W i m H → ((RZ.ItzT K a b).stop i H ∧ Stop H) ∨ ((RZ.ItzT K a b).go i H ∧ ∃ Nx : Hp → Prop, (∀ H', Nx H' → ∃ m', m' < m ∧ W (i + 1) m' H') ∧ ∀ x H', (RZ.ItzT K a b).yld i H x H' → Turn Nx x H') := by
  refine ⟨fun i m H => m + i = xs.length ∧ Pv i H, ⟨xs.length, rfl, h0⟩, ?_⟩
  rintro i m H ⟨e, p⟩
  obtain ⟨q1, q2⟩ := hq i H (by omega) p
  cases m with
  | zero =>
    have e' : i = xs.length := by omega
    subst e'
    exact .inl ⟨⟨xs, ys, q1, q2, .inl (Nat.le_refl _)⟩, hd H p⟩
  | succ m =>
    have l1 : i < xs.length := by omega
    have l2 : i < ys.length := by omega
    refine .inr ⟨⟨xs, ys, _, _, q1, q2, List.getElem?_eq_getElem l1, List.getElem?_eq_getElem l2⟩, Pv (i + 1), fun H' p' => ⟨m, Nat.lt_succ_self _, by omega, p'⟩, ?_⟩
    rintro x H' ⟨T, x', y', rfl, nT, rfl, f1, f2⟩
    exact hs i x' y' T H (f1 xs q1) (f2 ys q2) p nT
end Eld
set_option Elab.async false
set_option maxRecDepth 100000
set_option maxHeartbeats 4000000
set_option linter.all false
namespace Eld
open PySem PySem.Spec PyProof.Rows L2
/-! ## zip of a tuple and a list -/
def ItzR (K : PySem.W.Frag) (a b : Addr) : It where
  go := fun i H => ∃ xs ys x y, SqT K H a xs ∧ SqL K H b ys ∧ xs[i]? = some x ∧ ys[i]? = some y
  yld := fun i H v H' => ∃ T x y, v = .ref T ∧ H T = none ∧ H' = upd H T (.tup [x, y]) ∧ (∀ xs, SqT K H a xs → xs[i]? = some x) ∧ ∀ ys, SqL K H b ys → ys[i]? = some y
  stop := fun i H => ∃ xs ys, SqT K H a xs ∧ SqL K H b ys ∧ i = xs.length ∧ i = ys.length
/-- the five records of such a zip at its i-th turn -/
structure ZRecR (z TI TO i1 i2 a b : Addr) (i : Nat) (h : Heap) : Prop where
  zz : IsZip h z TI TO .none
  ti : IsTupOf2 h TI (.ref i1) (.ref i2)
  to : ∃ x y, IsTupOf2 h TO x y
  l1 : h.IsTupleIter i1 a i
  l2 : h.IsListIter i2 b i
theorem zrec_turnR {P : Program} {w : World} {K : PySem.W.Frag} {elts : List Expr} {kk : Nat} {tpos : Pos} {a b z TI TO i1 i2 : Addr} (S : ZipSep2 z TI TO i1 i2 [i1, a] [i2, b]) (n1 : a ≠ i1) (n2 : b ≠ i2) :
    Turn P w K (.Tuple elts kk tpos) (ItzR K a b) [z, TI, TO, i1, i2] z (ZRecR z TI TO i1 i2 a b) := by
  have five : ∀ {c : Addr}, c ∈ [z, TI, TO, i1, i2] → c = z ∨ c = TI ∨ c = TO ∨ c = i1 ∨ c = i2 := fun h => by simpa using h
  have there : ∀ (i : Nat) (h : Heap), ZRecR z TI TO i1 i2 a b i h → ∀ c ∈ [z, TI, TO, i1, i2], ∃ o, h.get? c = some o ∧ ∀ v, o.data ≠ .cell v := by
    rintro i h ⟨hz, ht, ⟨x, y, ho⟩, ⟨o1, e1, _, d1⟩, ⟨o2, e2, _, d2⟩⟩ c hc
    rcases five hc with rfl | rfl | rfl | rfl | rfl
    · exact ⟨_, hz, fun v q => nomatch q⟩
    · exact ⟨_, ht, fun v q => nomatch q⟩
    · exact ⟨_, ho, fun v q => nomatch q⟩
    · exact ⟨o1, e1, fun v q => by rw [d1] at q; cases q⟩
    · exact ⟨o2, e2, fun v q => by rw [d2] at q; cases q⟩
  refine ⟨by simp, there, ?_, ?_, ?_, fun A i s Q E st h => wpAny_pyIter_zip st.zz h⟩
  · rintro i h h' ⟨hz, ht, ⟨x, y, ho⟩, h1, h2⟩ k
    exact ⟨k z (by simp) _ hz, k TI (by simp) _ ht, ⟨x, y, k TO (by simp) _ ho⟩, h1.at fun o q => k i1 (by simp) o q, h2.at fun o q => k i2 (by simp) o q⟩
  · rintro X rfl rfl rfl calm i pins s σ H E I fp st ⟨xs, ys, x, y, qx, qy, hx, hy⟩
    obtain ⟨hz, ht, ⟨x0, y0, ho⟩, h1, h2⟩ := id st
    obtain ⟨its, rv, pt, _⟩ := I.tuple qx
    obtain ⟨jts, rw', pl, _⟩ := I.list qy
    obtain ⟨u, hu, ru⟩ := rv.get hx
    obtain ⟨v, hv, rv'⟩ := rw'.get hy
    have hnd : X.A.in1.handled = none := I.ok.hd calm
    have lu : i < its.toArray.size := by simpa using (List.getElem?_eq_some_iff.mp hu).1
    have lv : i < jts.toArray.size := by simpa using (List.getElem?_eq_some_iff.mp hv).1
    have zl : z < s.heap.objs.size := Heap.lt_size hz
    refine wpAny_pyNext_zipD2_item S (Draws.tuple hnd i1 a n1 its.toArray) (Draws.list hnd i2 b n2 jts.toArray) hz ht ho ⟨h1, pt⟩ ⟨h2, pl.isList⟩ lu lv ?_
    intro x1 x2 h' tk e1 e2 hz' ho' st1 st2 hT sz keep
    have e1' : x1 = u := by
      have e : its.toArray[i]? = some x1 := e1
      rw [List.getElem?_toArray, hu] at e
      exact (Option.some.inj e).symm
    have e2' : x2 = v := by
      have e : jts.toArray[i]? = some x2 := e2
      rw [List.getElem?_toArray, hv] at e
      exact (Option.some.inj e).symm
    subst e1' e2'
    refine ⟨_, rfl, wpAny_letOwnedTupleGo_zip (s := { s with heap := h', toks := tk }) hz' ?_⟩
    intro h3 hz3 sb
    have hT3 : h3.get? s.heap.objs.size = some { cls := .type "tuple", data := .seq #[x1, x2] } := (sb.2 _ (Nat.ne_of_gt zl)).trans hT
    have ok : ObjOk X.prog X.w (upd H s.heap.objs.size (.tup [x, y])) h3 s.heap.objs.size (.tup [x, y]) := ⟨by show 2 ≤ sizeLine; decide, [x1, x2], .cons ru (.cons rv' .nil), ⟨_, hT3, rfl, _, rfl⟩⟩
    have same : ∀ c o, c ∉ [z, TI, TO, i1, i2] → s.heap.get? c = some o → h3.get? c = some o := by
      intro c o nc e
      have g : ∀ d ∈ [z, TI, TO, i1, i2], c ≠ d := fun d hd e' => nc (e' ▸ hd)
      exact (sb.2 c (g z (by simp))).trans (keep c o (g z (by simp)) (g TO (by simp)) (g i1 (by simp)) (g i2 (by simp)) e)
    have J := I.turnedNew (t' := tk) same fp (Nat.le_refl _) ok
    refine ⟨.ref s.heap.objs.size, _, J, rfl, ⟨_, x, y, rfl, I.hok.fresh (Nat.le_refl _), rfl, ?_, ?_⟩, ?_, ?_⟩
    · intro l hl
      rw [I.tuple_inj hl qx]
      exact hx
    · intro l hl
      rw [list_inj I hl qy]
      exact hy
    · refine ⟨hz3, ?_, ⟨x1, x2, ?_⟩, ?_, ?_⟩
      · exact (sb.2 _ S.TIz).trans (keep _ _ S.TIz S.TITO S.TIi1 S.TIi2 ht)
      · exact (sb.2 _ S.TOz).trans ho'
      · exact st1.1.at fun o q => (sb.2 _ (Ne.symm S.zi1)).trans q
      · exact st2.1.at fun o q => (sb.2 _ (Ne.symm S.zi2)).trans q
    · intro c hc
      obtain ⟨o, e, _⟩ := there i s.heap st c hc
      rw [upd_ne (Nat.ne_of_lt (Heap.lt_size e))]
      exact (fp c hc).1
  · rintro X rfl rfl rfl calm i pins s σ H E I fp st ⟨xs, ys, qx, qy, ex, ey⟩
    obtain ⟨hz, ht, ⟨x0, y0, ho⟩, h1, h2⟩ := id st
    obtain ⟨its, rv, pt, _⟩ := I.tuple qx
    obtain ⟨jts, rw', pl, _⟩ := I.list qy
    have hnd : X.A.in1.handled = none := I.ok.hd calm
    have l1 := rv.length
    have l2 := rw'.length
    refine wpAny_pyNext_zipD2_end S (Draws.tuple hnd i1 a n1 its.toArray) (Draws.list hnd i2 b n2 jts.toArray) hz ht ho ⟨h1, pt⟩ ⟨h2, pl.isList⟩ (by simp; omega) (by simp; omega) (.inl (by simp; omega)) ?_
    intro h' tk keep
    refine ⟨rfl, I.turnedL (t' := tk) (ch := [z, TI, TO, i1, i2]) ?_ fp⟩
    intro c o nc e
    have g : ∀ d ∈ [z, TI, TO, i1, i2], c ≠ d := fun d hd e' => nc (e' ▸ hd)
    exact keep c o (g z (by simp)) (g TO (by simp)) (g i1 (by simp)) (g i2 (by simp)) e
def iZipR (K : PySem.W.Frag) (ta : TA) : TI := fun σ H R => ta σ H fun vs H1 => ∃ a b xs ys, vs = [.ref a, .ref b] ∧ SqT K H1 a xs ∧ SqL K H1 b ys ∧ R (ItzR K a b) H1
theorem pi_zipR {X : Cx} {e e2 : Expr} {ta : TA} {p pos tpos : Pos} {elts : List Expr} {kk : Nat} (hg : Gl X "zip") (hm : X.mg "zip" = none) (ha : PA X [e, e2] ta)
    (h2 : starEach [e, e2] X.env = (false, eval e X.env) :: starEach [e2] X.env := by rfl) (h3 : (backTo pos (starEach [e2] X.env)).any (·.1) = false := by rfl) : PI X (.Tuple elts kk tpos) (.Call (.Name "zip" p) [e, e2] [] pos) (iZipR X.K ta) := by
  constructor
  intro pins s σ H R I h
  refine Call_ (ld_blt I hg hm PyProof.Rows.boot_zip (PyProof.Rows.callWith_type1 (thn (ha.run pos pins s σ H _ I h) ?_) h2 h3))
  rintro us s1 ⟨vs, H1, I1, r1, a, b, xs, ys, rfl, qx, qy, q⟩
  obtain ⟨u1, u2, rfl, ra, rb⟩ := vals2 r1
  cases ra
  cases rb
  obtain ⟨its, rv, pt, _⟩ := I1.tuple qx
  obtain ⟨jts, rw', pl, _⟩ := I1.list qy
  have lb : b < s1.heap.objs.size := pl.lt
  have la : a < s1.heap.objs.size := by
    obtain ⟨o, e, _⟩ := id pt
    exact Heap.lt_size e
  refine zip_begins2 (begins_tuple a its.toArray) (begins_list b jts.toArray) pt pl.isList ?_
  intro h' hz ht ho g1 g2 sz keep
  have I2 : Inv X pins σ H1 { s1 with heap := h' } := I1.kept (t' := s1.toks) keep
  refine wpAny_pyIter_zip hz ⟨s1.heap.objs.size + 4, [s1.heap.objs.size + 4, s1.heap.objs.size + 2, s1.heap.objs.size + 3, s1.heap.objs.size, s1.heap.objs.size + 1], _, _, H1, rfl, I2,
    zrec_turnR (zip_sep2 (N := s1.heap.objs.size) (fp1 := [a]) (fp2 := [b]) (by simpa using la) (by simpa using lb)) (Nat.ne_of_lt la) (Nat.ne_of_lt (Nat.lt_succ_of_lt lb)), ⟨hz, ht, ⟨_, _, ho⟩, ⟨_, g1, rfl, rfl⟩, ⟨_, g2, rfl, rfl⟩⟩, ?_, q⟩
  intro c hc
  have hle : s1.heap.objs.size ≤ c := by
    have e : c = s1.heap.objs.size + 4 ∨ c = s1.heap.objs.size + 2 ∨ c = s1.heap.objs.size + 3 ∨ c = s1.heap.objs.size ∨ c = s1.heap.objs.size + 1 := by simpa using hc
    rcases e with rfl | rfl | rfl | rfl | rfl
    all_goals first | exact Nat.le_refl _ | exact Nat.le_add_right _ _
  exact I1.fpOk hle (I1.hok.fresh hle)
/-- over such a zip, the items as they are -/
theorem it_zipR {K : PySem.W.Frag} {a b : Addr} {xs ys : List V} {H0 : Hp} {Stop : Hp → Prop} {Turn : (Hp → Prop) → V → Hp → Prop} (hl : xs.length = ys.length) (Pv : Nat → Hp → Prop) (h0 : Pv 0 H0) (hq : ∀ i H, i ≤ xs.length → Pv i H → SqT K H a xs ∧ SqL K H b ys)
    (hs : ∀ i x y T H, xs[i]? = some x → ys[i]? = some y → Pv i H → H T = none → Turn (Pv (i + 1)) (.ref T) (upd H T (.tup [x, y]))) (hd : ∀ H, Pv xs.length H → Stop H) :
    ∃ W : Nat → Nat → Hp → Prop, (∃ m, W 0 m H0) ∧ ∀ i m H, W i m H → ((ItzR K a b).stop i H ∧ Stop H) ∨ ((ItzR K a b).go i H ∧ ∃ Nx : Hp → Prop, (∀ H', Nx H' → ∃ m', m' < m ∧ W (i + 1) m' H') ∧ ∀ x H', (ItzR K a b).yld i H x H' → Turn Nx x H') := by
  refine ⟨fun i m H => m + i = xs.length ∧ Pv i H, ⟨xs.length, rfl, h0⟩, ?_⟩
  rintro i m H ⟨e, p⟩
  obtain ⟨q1, q2⟩ := hq i H (by omega) p
  cases m with
  | zero =>
    have e' : i = xs.length := by omega
    subst e'
    exact .inl ⟨⟨xs, ys, q1, q2, rfl, hl⟩, hd H p⟩
  | succ m =>
    have l1 : i < xs.length := by omega
    have l2 : i < ys.length := by omega
    refine .inr ⟨⟨xs, ys, _, _, q1, q2, List.getElem?_eq_getElem l1, List.getElem?_eq_getElem l2⟩, Pv (i + 1), fun H' p' => ⟨m, Nat.lt_succ_self _, by omega, p'⟩, ?_⟩
    rintro x H' ⟨T, x', y', rfl, nT, rfl, f1, f2⟩
    exact hs i x' y' T H (f1 xs q1) (f2 ys q2) p nT
end Eld
set_option Elab.async false
set_option maxRecDepth 100000
set_option maxHeartbeats 4000000
set_option linter.all false
namespace Eld
open PySem L2
/-! ## what may be a list or a tuple -/
def iOr (i i' : TI) : TI := fun σ H R => i σ H R ∨ i' σ H R
theorem pi_or {X : Cx} {tg e : Expr} {i i' : TI} (h : PI X tg e i) (h' : PI X tg e i') : PI X tg e (iOr i i') := by
  refine ⟨fun pins s σ H R I q => ?_⟩
  rcases q with q | q
  · exact h.run pins s σ H R I q
  · exact h'.run pins s σ H R I q
theorem ix_or {X : Cx} {r r' : R2} (h : IxR X r) (h' : IxR X r') : IxR X (fun x y H Q => r x y H Q ∨ r' x y H Q) := by
  intro value slice pins s σ H x y v u Q I rx ry q hs
  rcases q with q | q
  · exact h value slice pins s σ H x y v u Q I rx ry q hs
  · exact h' value slice pins s σ H x y v u Q I rx ry q hs
/-- an iterator whose i-th item is the i-th of xs, in heaps that Ok holds of -/
structure ItIs (I : It) (xs : List V) (Ok : Hp → Prop) : Prop where
  go : ∀ i x H, Ok H → xs[i]? = some x → I.go i H
  yl : ∀ i x H H', Ok H → I.yld i H x H' → H' = H ∧ xs[i]? = some x
  st : ∀ H, Ok H → I.stop xs.length H
theorem itis_l {K : PySem.W.Frag} {a : Addr} {xs : List V} : ItIs (Itl K a) xs (fun H => SqL K H a xs) := ⟨fun i x H q h => ⟨xs, x, q, h⟩, fun i x H H' q y => ⟨y.1, y.2 xs q⟩, fun H q => ⟨xs, q, Nat.le_refl _⟩⟩
theorem itis_t {K : PySem.W.Frag} {a : Addr} {xs : List V} : ItIs (Itt K a) xs (fun H => SqT K H a xs) := ⟨fun i x H q h => ⟨xs, x, q, h⟩, fun i x H H' q y => ⟨y.1, y.2 xs q⟩, fun H q => ⟨xs, q, Nat.le_refl _⟩⟩
def AnyAt (H : Hp) (a : Addr) (xs : List V) : Prop := H a = some (.lst xs) ∨ H a = some (.tup xs)
theorem r_iAny {K : PySem.W.Frag} {te : TE} {σ : L2.St} {H : Hp} {R : It → Hp → Prop} {a : Addr} {xs : List V} (he : ∀ q : VK, q (.ref a) H → te σ H q) (ha : AnyAt H a xs) (h : ∀ (I : It) (Ok : Hp → Prop), ItIs I xs Ok → (∀ H', Same H H' → Ok H') → R I H) : iOr (iList K te) (iTup K te) σ H R := by
  rcases ha with e | e
  · exact .inl (he _ ⟨a, rfl, ⟨_, SqL.of e⟩, h _ _ itis_l fun H' s => SqL.of (s _ _ e)⟩)
  · exact .inr (he _ ⟨a, rfl, ⟨_, SqT.of e⟩, h _ _ itis_t fun H' s => SqT.of (s _ _ e)⟩)
theorem it_any {I : It} {Ok : Hp → Prop} {xs : List V} {H0 : Hp} {Stop : Hp → Prop} {Turn : (Hp → Prop) → V → Hp → Prop} (S : ItIs I xs Ok) (Pv : Nat → Hp → Prop) (h0 : Pv 0 H0) (hl : ∀ i H, i ≤ xs.length → Pv i H → Ok H) (hs : ∀ i x H, xs[i]? = some x → Pv i H → Turn (Pv (i + 1)) x H) (hd : ∀ H, Pv xs.length H → Stop H) :
    ∃ W : Nat → Nat → Hp → Prop, (∃ m, W 0 m H0) ∧ ∀ i m H, W i m H → (I.stop i H ∧ Stop H) ∨ (I.go i H ∧ ∃ Nx : Hp → Prop, (∀ H', Nx H' → ∃ m', m' < m ∧ W (i + 1) m' H') ∧ ∀ x H', I.yld i H x H' → Turn Nx x H') := by
  refine ⟨fun i m H => m + i = xs.length ∧ Pv i H, ⟨xs.length, rfl, h0⟩, ?_⟩
  rintro i m H ⟨e, p⟩
  have q := hl i H (by omega) p
  cases m with
  | zero =>
    have e' : i = xs.length := by omega
    subst e'
    exact .inl ⟨S.st H q, hd H p⟩
  | succ m =>
    have lt : i < xs.length := by omega
    refine .inr ⟨S.go i _ H q (List.getElem?_eq_getElem lt), Pv (i + 1), fun H' p' => ⟨m, Nat.lt_succ_self _, by omega, p'⟩, ?_⟩
    intro x H' y
    obtain ⟨e2, y2⟩ := S.yl i x H H' q y
    subst e2
    exact hs i x _ y2 p
theorem for_any {I : It} {Ok : Hp → Prop} {xs : List V} {g : TG} {tb : TS} {D : Ends} {σ : L2.St} {H : Hp} (S : ItIs I xs Ok) (Pv : Nat → L2.St → Hp → Prop) (h0 : Pv 0 σ H) (hl : ∀ i σ H, i ≤ xs.length → Pv i σ H → Ok H)
    (hs : ∀ i x σ H, xs[i]? = some x → Pv i σ H → g x σ H fun σ2 H2 => tb { D with nx := Pv (i + 1), ct := Pv (i + 1), bk := D.nx } σ2 H2) (hd : ∀ σ H, Pv xs.length σ H → D.nx σ H) :
    ∃ W : Nat → Nat → L2.St → Hp → Prop, (∃ m, W 0 m σ H) ∧ ∀ i m σ H, W i m σ H →
      (I.stop i H ∧ D.nx σ H) ∨ (I.go i H ∧ ∃ N : L2.St → Hp → Prop, (∀ σ' H', N σ' H' → ∃ m', m' < m ∧ W (i + 1) m' σ' H') ∧ ∀ x H', I.yld i H x H' → g x σ H' fun σ2 H2 => tb { D with nx := N, ct := N, bk := D.nx } σ2 H2) := by
  refine ⟨fun i m σ H => m = xs.length - i ∧ i ≤ xs.length ∧ Pv i σ H, ⟨xs.length, by simp, Nat.zero_le _, h0⟩, ?_⟩
  rintro i m σ H ⟨rfl, hi, p⟩
  have q := hl i σ H hi p
  by_cases hlt : i < xs.length
  · refine .inr ⟨S.go i xs[i] H q (by simp [hlt]), Pv (i + 1), fun σ' H' p' => ⟨xs.length - (i + 1), by omega, rfl, hlt, p'⟩, fun x H' y => ?_⟩
    obtain ⟨e2, y2⟩ := S.yl i x H H' q y
    subst e2
    exact hs i x σ _ y2 p
  · have e : i = xs.length := by omega
    subst e
    exact .inl ⟨S.st H q, hd σ H p⟩
end Eld
set_option Elab.async false
set_option maxRecDepth 100000
set_option maxHeartbeats 4000000
set_option linter.all false
namespace Eld
open PySem L2
local macro_rules | `(tactic| walk_at "r1") => `(tactic| with_reducible first
  | refine r_seq ?_ | refine r_asgN ?_ | refine r_asg ?_ | refine r_gname ?_ | refine r_gsub ?_ | refine r_var rfl ?_ | refine r_c ?_ | refine r_op ?_ | refine r_un ?_ | refine r_u ?_ | refine r_i0 ?_ | refine r_cb ?_ | refine r_cons ?_ | refine r_nil ?_ | refine r_cl ?_ | refine r_fn rfl rfl ?_ | refine r_mt ?_
  | refine r_test ?_ | refine r_tb ?_ | refine r_bl ?_ | refine r_and ?_ | refine r_or ?_ | refine r_not ?_ | refine r_andV ?_ | refine r_orV ?_ | refine r_notV ?_ | refine r_ifX ?_ | refine r_ifs ?_ | refine r_chain ?_ | refine r_ret ?_ | refine r_next ?_ | refine r_drop ?_ | refine iteT ?_ | refine iteF ?_ | refine iteNT ?_ | refine iteNF ?_
  | refine r_int1 ?_ | refine r_boolB ?_ | refine r_eqI ?_ | refine r_neI ?_ | refine r_eqB ?_ | refine r_neB ?_ | refine r_eqS ?_ | refine r_neS ?_ | refine r_abs ?_ | refine r_max2 ?_ | refine r_min2 ?_ | refine r_yes ?_ | refine r_tup ?_ | refine r_sfld ?_ | refine r_m0 ?_ | refine r_m1 ?_ | refine r_lst ?_ | refine r_rng1 ?_ | refine r_rng2 ?_ | refine r_ixL (SqL.of (by assumption)) rfl ?_)
local macro_rules | `(tactic| walk_at "r") => `(tactic| repeat (first | walk_at "r1" | ((with_reducible refine r_var ?hv ?_); (case hv => rfl))))
def top (i : Nat) : Stmt := PySem.Challenge.pw_endlots_k13_sizes_and_depths.main.body.getD i (.Pass ⟨0, 0, 0, 0⟩)
abbrev s_TooMany___init__ : Stmt := inClass (top 12) 0
theorem sc_TooMany___init__ : FnScope ["self", "count"] ["self", "count"] (defScope s_TooMany___init__) := ⟨rfl, rfl, rfl, by decide +kernel, rfl, by decide +kernel, by decide +kernel⟩
abbrev s_is_integer : Stmt := top 14
theorem sc_is_integer : FnScope ["value"] ["value"] (defScope s_is_integer) := ⟨rfl, rfl, rfl, by decide +kernel, rfl, by decide +kernel, by decide +kernel⟩
abbrev s_is_list : Stmt := top 15
theorem sc_is_list : FnScope ["value"] ["value"] (defScope s_is_list) := ⟨rfl, rfl, rfl, by decide +kernel, rfl, by decide +kernel, by decide +kernel⟩
abbrev s_is_from : Stmt := top 16
theorem sc_is_from : FnScope ["value", "low", "high"] ["value", "low", "high"] (defScope s_is_from) := ⟨rfl, rfl, rfl, by decide +kernel, rfl, by decide +kernel, by decide +kernel⟩
abbrev s_is_index : Stmt := top 17
theorem sc_is_index : FnScope ["value", "count"] ["value", "count"] (defScope s_is_index) := ⟨rfl, rfl, rfl, by decide +kernel, rfl, by decide +kernel, by decide +kernel⟩
abbrev s_is_set_below : Stmt := top 18
theorem sc_is_set_below : FnScope ["value", "count", "item"] ["value", "count"] (defScope s_is_set_below) := ⟨rfl, rfl, rfl, by decide +kernel, rfl, by decide +kernel, by decide +kernel⟩
abbrev s_is_ascending : Stmt := top 19
theorem sc_is_ascending : FnScope ["items", "at"] ["items"] (defScope s_is_ascending) := ⟨rfl, rfl, rfl, by decide +kernel, rfl, by decide +kernel, by decide +kernel⟩
abbrev s_is_digits : Stmt := top 20
theorem sc_is_digits : FnScope ["word"] ["word"] (defScope s_is_digits) := ⟨rfl, rfl, rfl, by decide +kernel, rfl, by decide +kernel, by decide +kernel⟩
abbrev s_Space___init__ : Stmt := inClass (top 24) 0
theorem sc_Space___init__ : FnScope ["self", "sizes"] ["self", "sizes"] (defScope s_Space___init__) := ⟨rfl, rfl, rfl, by decide +kernel, rfl, by decide +kernel, by decide +kernel⟩
abbrev s_Space___len__ : Stmt := inClass (top 24) 1
theorem sc_Space___len__ : FnScope ["self"] ["self"] (defScope s_Space___len__) := ⟨rfl, rfl, rfl, by decide +kernel, rfl, by decide +kernel, by decide +kernel⟩
abbrev s_Space___eq__ : Stmt := inClass (top 24) 2
theorem sc_Space___eq__ : FnScope ["self", "other"] ["self", "other"] (defScope s_Space___eq__) := ⟨rfl, rfl, rfl, by decide +kernel, rfl, by decide +kernel, by decide +kernel⟩
abbrev s_Space_at : Stmt := inClass (top 24) 3
theorem sc_Space_at : FnScope ["self", "store"] ["self", "store"] (defScope s_Space_at) := ⟨rfl, rfl, rfl, by decide +kernel, rfl, by decide +kernel, by decide +kernel⟩
abbrev s_Space_store : Stmt := inClass (top 24) 4
theorem sc_Space_store : FnScope ["self", "values"] ["self", "values"] (defScope s_Space_store) := ⟨rfl, rfl, rfl, by decide +kernel, rfl, by decide +kernel, by decide +kernel⟩
abbrev s_Space_line : Stmt := inClass (top 24) 5
theorem sc_Space_line : FnScope ["self", "size"] ["self"] (defScope s_Space_line) := ⟨rfl, rfl, rfl, by decide +kernel, rfl, by decide +kernel, by decide +kernel⟩
abbrev s_all_values : Stmt := top 25
theorem sc_all_values : FnScope ["sizes", "stores", "size", "values", "value"] ["sizes"] (defScope s_all_values) := ⟨rfl, rfl, rfl, by decide +kernel, rfl, by decide +kernel, by decide +kernel⟩
abbrev s_is_sizes : Stmt := top 26
theorem sc_is_sizes : FnScope ["value", "stores", "size"] ["value"] (defScope s_is_sizes) := ⟨rfl, rfl, rfl, by decide +kernel, rfl, by decide +kernel, by decide +kernel⟩
abbrev s_is_values : Stmt := top 27
theorem sc_is_values : FnScope ["value", "sizes", "item", "size"] ["value", "sizes"] (defScope s_is_values) := ⟨rfl, rfl, rfl, by decide +kernel, rfl, by decide +kernel, by decide +kernel⟩
abbrev s_need_space : Stmt := top 28
theorem sc_need_space : FnScope ["space"] ["space"] (defScope s_need_space) := ⟨rfl, rfl, rfl, by decide +kernel, rfl, by decide +kernel, by decide +kernel⟩
abbrev s_read_space : Stmt := top 29
theorem sc_read_space : FnScope ["line", "words", "sizes", "word"] ["line"] (defScope s_read_space) := ⟨rfl, rfl, rfl, by decide +kernel, rfl, by decide +kernel, by decide +kernel⟩
abbrev s_is_text : Stmt := top 38
theorem sc_is_text : FnScope ["space", "value"] ["space", "value"] (defScope s_is_text) := ⟨rfl, rfl, rfl, by decide +kernel, rfl, by decide +kernel, by decide +kernel⟩
abbrev s_is_surrounding : Stmt := top 39
theorem sc_is_surrounding : FnScope ["space", "value"] ["space", "value"] (defScope s_is_surrounding) := ⟨rfl, rfl, rfl, by decide +kernel, rfl, by decide +kernel, by decide +kernel⟩
abbrev s_size : Stmt := top 40
theorem sc_size : FnScope ["text"] ["text"] (defScope s_size) := ⟨rfl, rfl, rfl, by decide +kernel, rfl, by decide +kernel, by decide +kernel⟩
abbrev s_depth : Stmt := top 41
theorem sc_depth : FnScope ["text"] ["text"] (defScope s_depth) := ⟨rfl, rfl, rfl, by decide +kernel, rfl, by decide +kernel, by decide +kernel⟩
abbrev s_put_at : Stmt := top 42
theorem sc_put_at : FnScope ["space", "text", "path", "part"] ["space", "text", "path", "part"] (defScope s_put_at) := ⟨rfl, rfl, rfl, by decide +kernel, rfl, by decide +kernel, by decide +kernel⟩
abbrev s_fill : Stmt := top 43
theorem sc_fill : FnScope ["space", "surrounding", "text"] ["space", "surrounding", "text"] (defScope s_fill) := ⟨rfl, rfl, rfl, by decide +kernel, rfl, by decide +kernel, by decide +kernel⟩
abbrev s_need_text : Stmt := top 44
theorem sc_need_text : FnScope ["space", "text"] ["space", "text"] (defScope s_need_text) := ⟨rfl, rfl, rfl, by decide +kernel, rfl, by decide +kernel, by decide +kernel⟩
abbrev s_need_any_text : Stmt := top 45
theorem sc_need_any_text : FnScope ["text", "sizes"] ["text"] (defScope s_need_any_text) := ⟨rfl, rfl, rfl, by decide +kernel, rfl, by decide +kernel, by decide +kernel⟩
abbrev s_is_text_or_surrounding : Stmt := top 46
theorem sc_is_text_or_surrounding : FnScope ["space", "value", "holes"] ["space", "value"] (defScope s_is_text_or_surrounding) := ⟨rfl, rfl, rfl, by decide +kernel, rfl, by decide +kernel, by decide +kernel⟩
abbrev s_is_hole_count : Stmt := top 47
theorem sc_is_hole_count : FnScope ["holes"] ["holes"] (defScope s_is_hole_count) := ⟨rfl, rfl, rfl, by decide +kernel, rfl, by decide +kernel, by decide +kernel⟩
abbrev s_holes_of : Stmt := top 48
theorem sc_holes_of : FnScope ["space", "value", "holes", "parts_seen", "waiting", "kind", "inner", "part", "outer", "child"] ["space", "value"] (defScope s_holes_of) := ⟨rfl, rfl, rfl, by decide +kernel, rfl, by decide +kernel, by decide +kernel⟩
abbrev s_is_part : Stmt := top 49
theorem sc_is_part : FnScope ["space", "value", "kind"] ["space", "value"] (defScope s_is_part) := ⟨rfl, rfl, rfl, by decide +kernel, rfl, by decide +kernel, by decide +kernel⟩
abbrev s_is_name : Stmt := top 50
theorem sc_is_name : FnScope ["space", "value"] ["space", "value"] (defScope s_is_name) := ⟨rfl, rfl, rfl, by decide +kernel, rfl, by decide +kernel, by decide +kernel⟩
abbrev s_is_setting : Stmt := top 51
theorem sc_is_setting : FnScope ["space", "name", "values", "value"] ["space", "name", "values"] (defScope s_is_setting) := ⟨rfl, rfl, rfl, by decide +kernel, rfl, by decide +kernel, by decide +kernel⟩
abbrev s_is_pair : Stmt := top 52
theorem sc_is_pair : FnScope ["space", "name", "value"] ["space", "name", "value"] (defScope s_is_pair) := ⟨rfl, rfl, rfl, by decide +kernel, rfl, by decide +kernel, by decide +kernel⟩
abbrev s_is_weighing : Stmt := top 53
theorem sc_is_weighing : FnScope ["value", "weight"] ["value"] (defScope s_is_weighing) := ⟨rfl, rfl, rfl, by decide +kernel, rfl, by decide +kernel, by decide +kernel⟩
abbrev s_children : Stmt := top 54
theorem sc_children : FnScope ["part"] ["part"] (defScope s_children) := ⟨rfl, rfl, rfl, by decide +kernel, rfl, by decide +kernel, by decide +kernel⟩
abbrev s_in_tuples : Stmt := top 55
theorem sc_in_tuples : FnScope ["value", "item"] ["value"] (defScope s_in_tuples) := ⟨rfl, rfl, rfl, by decide +kernel, rfl, by decide +kernel, by decide +kernel⟩
abbrev s_listed_parts : Stmt := top 56
theorem sc_listed_parts : FnScope ["part", "path", "found", "at", "child"] ["part", "path"] (defScope s_listed_parts) := ⟨rfl, rfl, rfl, by decide +kernel, rfl, by decide +kernel, by decide +kernel⟩
abbrev s_is_path : Stmt := top 57
theorem sc_is_path : FnScope ["text", "value", "part", "at"] ["text", "value"] (defScope s_is_path) := ⟨rfl, rfl, rfl, by decide +kernel, rfl, by decide +kernel, by decide +kernel⟩
abbrev s_size_of : Stmt := top 58
theorem sc_size_of : FnScope ["text", "_", "part"] ["text"] (defScope s_size_of) := ⟨rfl, rfl, rfl, by decide +kernel, rfl, by decide +kernel, by decide +kernel⟩
abbrev s_depth_of : Stmt := top 59
theorem sc_depth_of : FnScope ["part", "inner", "child"] ["part"] (defScope s_depth_of) := ⟨rfl, rfl, rfl, by decide +kernel, rfl, by decide +kernel, by decide +kernel⟩
abbrev s_replaced : Stmt := top 60
theorem sc_replaced : FnScope ["whole", "path", "part", "at"] ["whole", "path", "part"] (defScope s_replaced) := ⟨rfl, rfl, rfl, by decide +kernel, rfl, by decide +kernel, by decide +kernel⟩
abbrev s_filled : Stmt := top 61
theorem sc_filled : FnScope ["surrounding", "text", "at", "child"] ["surrounding", "text"] (defScope s_filled) := ⟨rfl, rfl, rfl, by decide +kernel, rfl, by decide +kernel, by decide +kernel⟩
abbrev s_within_bounds : Stmt := top 62
theorem sc_within_bounds : FnScope ["text"] ["text"] (defScope s_within_bounds) := ⟨rfl, rfl, rfl, by decide +kernel, rfl, by decide +kernel, by decide +kernel⟩
abbrev s__law_cell : Stmt := top 64
theorem sc__law_cell : FnScope ["script", "k"] ["script", "k"] (defScope s__law_cell) := ⟨rfl, rfl, rfl, by decide +kernel, rfl, by decide +kernel, by decide +kernel⟩
abbrev s__law_box : Stmt := top 65
theorem sc__law_box : FnScope ["great"] ["great"] (defScope s__law_box) := ⟨rfl, rfl, rfl, by decide +kernel, rfl, by decide +kernel, by decide +kernel⟩
abbrev s__law_take : Stmt := top 66
theorem sc__law_take : FnScope ["box", "many", "mixed", "digit"] ["box", "many"] (defScope s__law_take) := ⟨rfl, rfl, rfl, by decide +kernel, rfl, by decide +kernel, by decide +kernel⟩
abbrev s__law_product : Stmt := top 67
theorem sc__law_product : FnScope ["numbers", "found", "number"] ["numbers"] (defScope s__law_product) := ⟨rfl, rfl, rfl, by decide +kernel, rfl, by decide +kernel, by decide +kernel⟩
abbrev s__law_widths : Stmt := top 68
theorem sc__law_widths : FnScope ["box", "menu"] ["box"] (defScope s__law_widths) := ⟨rfl, rfl, rfl, by decide +kernel, rfl, by decide +kernel, by decide +kernel⟩
abbrev s__law_row : Stmt := top 69
theorem sc__law_row : FnScope ["box", "numbers"] ["box", "numbers"] (defScope s__law_row) := ⟨rfl, rfl, rfl, by decide +kernel, rfl, by decide +kernel, by decide +kernel⟩
abbrev s__law_guard : Stmt := top 70
theorem sc__law_guard : FnScope ["box", "widths", "many", "way", "one"] ["box", "widths"] (defScope s__law_guard) := ⟨rfl, rfl, rfl, by decide +kernel, rfl, by decide +kernel, by decide +kernel⟩
abbrev s__law_weights : Stmt := top 71
theorem sc__law_weights : FnScope ["box", "way", "one"] ["box"] (defScope s__law_weights) := ⟨rfl, rfl, rfl, by decide +kernel, rfl, by decide +kernel, by decide +kernel⟩
abbrev s__law_leaf : Stmt := top 72
theorem sc__law_leaf : FnScope ["box", "widths", "one", "other", "way", "name", "numbers"] ["box", "widths"] (defScope s__law_leaf) := ⟨rfl, rfl, rfl, by decide +kernel, rfl, by decide +kernel, by decide +kernel⟩
abbrev s__law_kids : Stmt := top 73
theorem sc__law_kids : FnScope ["thing"] ["thing"] (defScope s__law_kids) := ⟨rfl, rfl, rfl, by decide +kernel, rfl, by decide +kernel, by decide +kernel⟩
abbrev s__law_tupled : Stmt := top 74
theorem sc__law_tupled : FnScope ["thing", "item"] ["thing"] (defScope s__law_tupled) := ⟨rfl, rfl, rfl, by decide +kernel, rfl, by decide +kernel, by decide +kernel⟩
abbrev s__law_all_parts : Stmt := top 75
theorem sc__law_all_parts : FnScope ["thing", "k", "found", "kids", "way", "piece"] ["thing"] (defScope s__law_all_parts) := ⟨rfl, rfl, rfl, by decide +kernel, rfl, by decide +kernel, by decide +kernel⟩
abbrev s__law_put : Stmt := top 76
theorem sc__law_put : FnScope ["thing", "way", "piece", "at"] ["thing", "way", "piece"] (defScope s__law_put) := ⟨rfl, rfl, rfl, by decide +kernel, rfl, by decide +kernel, by decide +kernel⟩
abbrev s__law_filled : Stmt := top 77
theorem sc__law_filled : FnScope ["thing", "piece", "found", "at"] ["thing", "piece"] (defScope s__law_filled) := ⟨rfl, rfl, rfl, by decide +kernel, rfl, by decide +kernel, by decide +kernel⟩
abbrev s__law_shape : Stmt := top 78
theorem sc__law_shape : FnScope ["thing", "kids", "loops", "at", "kid"] ["thing"] (defScope s__law_shape) := ⟨rfl, rfl, rfl, by decide +kernel, rfl, by decide +kernel, by decide +kernel⟩
abbrev s__law_pile : Stmt := top 79
theorem sc__law_pile : FnScope ["box", "widths", "leaves", "loops", "turn", "thing", "rest", "left"] ["box", "widths", "leaves", "loops"] (defScope s__law_pile) := ⟨rfl, rfl, rfl, by decide +kernel, rfl, by decide +kernel, by decide +kernel⟩
abbrev s__law_sized : Stmt := top 80
theorem sc__law_sized : FnScope ["box", "widths", "many", "loops", "turn"] ["box", "widths", "many"] (defScope s__law_sized) := ⟨rfl, rfl, rfl, by decide +kernel, rfl, by decide +kernel, by decide +kernel⟩
abbrev s__law_around : Stmt := top 81
theorem sc__law_around : FnScope ["box", "widths", "many", "own", "loops", "leaves", "at", "holes", "way", "wanted", "turn"] ["box", "widths", "many"] (defScope s__law_around) := ⟨rfl, rfl, rfl, by decide +kernel, rfl, by decide +kernel, by decide +kernel⟩
abbrev s__law_told : Stmt := top 82
theorem sc__law_told : FnScope ["room", "things", "named", "e", "thing", "way", "piece"] ["room", "things", "named"] (defScope s__law_told) := ⟨rfl, rfl, rfl, by decide +kernel, rfl, by decide +kernel, by decide +kernel⟩
abbrev s__law_meets : Stmt := top 83
theorem sc__law_meets : FnScope ["room", "whole", "things", "due", "turn", "shape", "handed"] ["room", "whole", "things"] (defScope s__law_meets) := ⟨rfl, rfl, rfl, by decide +kernel, rfl, by decide +kernel, by decide +kernel⟩
abbrev s__law_right : Stmt := top 84
theorem sc__law_right : FnScope ["box", "widths", "piece", "thing", "one", "whole", "turn", "room", "many", "spots", "wanted", "way", "old", "width"] ["box"] (defScope s__law_right) := ⟨rfl, rfl, rfl, by decide +kernel, rfl, by decide +kernel, by decide +kernel⟩
abbrev s_law : Stmt := top 85
theorem sc_law : FnScope ["script", "k"] ["script"] (defScope s_law) := ⟨rfl, rfl, rfl, by decide +kernel, rfl, by decide +kernel, by decide +kernel⟩
/-! ## what is spoken of -/
def menu : List (List Int) := [[2], [3], [4], [5], [6], [7], [8], [2, 2], [2, 3], [2, 4], [3, 2], [4, 2], [2, 2, 2]]
/-- one more name with z values -/
def more (z : Int) (v : List Int) : List (List Int) := (List.range z.toNat).map fun (x : Nat) => v ++ [(x : Int)]
def wide (rows : List (List Int)) (z : Int) : List (List Int) := rows.flatMap (more z)
def allRows (zs : List Int) : List (List Int) := zs.foldl wide [[]]
/-- tuples of ints at these places -/
def RowsT (H : Hp) (ts : List Addr) (rows : List (List Int)) : Prop := ts.length = rows.length ∧ ∀ (i : Nat) (t : Addr) (r : List Int), ts[i]? = some t → rows[i]? = some r → H t = some (.tup (r.map V.int))
theorem RowsT.same {H H' : Hp} {ts : List Addr} {rows : List (List Int)} (h : RowsT H ts rows) (s : Same H H') : RowsT H' ts rows := ⟨h.1, fun i t r a b => s _ _ (h.2 i t r a b)⟩
theorem RowsT.push {H : Hp} {ts : List Addr} {rows : List (List Int)} {t : Addr} {r : List Int} (h : RowsT H ts rows) (e : H t = some (.tup (r.map V.int))) : RowsT H (ts ++ [t]) (rows ++ [r]) := by
  refine ⟨by simp [h.1], fun i u q a b => ?_⟩
  by_cases c : i < ts.length
  · rw [List.getElem?_append_left c] at a
    rw [List.getElem?_append_left (h.1 ▸ c)] at b
    exact h.2 i u q a b
  · have c1 : i = ts.length := by
      have := (List.getElem?_eq_some_iff.mp a).1
      simp at this
      omega
    subst c1
    simp at a
    rw [h.1] at b
    simp at b
    subst a b
    exact e
structure Zs (mg : Str → Option Value) : Prop where
  isinstance_ : mg "isinstance" = none
  int_ : mg "int" = none
  bool_ : mg "bool" = none
  str_ : mg "str" = none
  list_ : mg "list" = none
  tuple_ : mg "tuple" = none
  len_ : mg "len" = none
  abs_ : mg "abs" = none
  max_ : mg "max" = none
  min_ : mg "min" = none
  sum_ : mg "sum" = none
  repr_ : mg "repr" = none
  all_ : mg "all" = none
  range_ : mg "range" = none
  zip_ : mg "zip" = none
  any_ : mg "any" = none
  enumerate_ : mg "enumerate" = none
  gcd_ : mg "gcd" = some (.builtin "math.gcd")
  MOST_SIZE : ∃ u, mg "MOST_SIZE" = some u ∧ RelV (.int 24) u
  MOST_DEPTH : ∃ u, mg "MOST_DEPTH" = some u ∧ RelV (.int 4) u
  MOST_HOLES : ∃ u, mg "MOST_HOLES" = some u ∧ RelV (.int 3) u
  MOST_WEIGHT : ∃ u, mg "MOST_WEIGHT" = some u ∧ RelV (.int 1000000) u
  MOST_NAMES : ∃ u, mg "MOST_NAMES" = some u ∧ RelV (.int 3) u
  MOST_STORES : ∃ u, mg "MOST_STORES" = some u ∧ RelV (.int 8) u
/-! ## the promises -/
/-- the box of draws at b: a great number, its flag, its rest, how many draws so far (at most n) -/
def spTake : Sp := fun vs H Q _ => ∃ (b : Addr) (many : Int) (n : Nat), vs = [.ref b, .int many] ∧ BoxAt H b n ∧ n < 4000000 ∧ 0 < many ∧ many < 1073741824 ∧
  ∀ (r : Int) (H' : Hp), 0 ≤ r → r < many → BoxAt H' b (n + 1) → But b H H' → Q (.int r) H'
theorem TyX.same {K : PySem.W.Frag} {H H' : Hp} {v : V} {t : Value} (h : TyX K H v t) (s : Same H H') : TyX K H' v t := by
  cases h with
  | base b =>
    cases b with
    | non => exact .base .non
    | bl x => exact .base (.bl x)
    | int i => exact .base (.int i)
    | str x => exact .base (.str x)
    | flt x => exact .base (.flt x)
    | lst e => exact .base (.lst (s _ _ e))
    | frz e => exact .base (.frz (s _ _ e))
    | tup e => exact .base (.tup (s _ _ e))
    | dK e => exact .base (.dK (s _ _ e))
    | dT e => exact .base (.dT (s _ _ e))
    | ins e cl ha hn htk hm => exact .base (.ins (s _ _ e) cl ha hn htk hm)
  | byt b => exact .byt b
  | set e => exact .set (s _ _ e)
  | kList e c => exact .kList e c
  | kTuple e c => exact .kTuple e c
  | kDict e c => exact .kDict e c
  | fTuple e => exact .fTuple (s _ _ e)
  | fDict e => exact .fDict (s _ _ e)
/-- a value's type is one of these -/
inductive KB : Value → Prop
  | non : KB (.type "NoneType")
  | lst : KB (.type "list")
  | tup : KB (.type "tuple")
  | str : KB (.type "str")
  | int : KB (.type "int")
  | bl : KB (.type "bool")
/-- a value that is an integer, or none -/
def IntV (K : PySem.W.Frag) (H : Hp) (v : V) (o : Option Int) : Prop := (∃ i, v = .int i ∧ o = some i) ∨ (o = none ∧ ∃ t, TyX K H v t ∧ KB t ∧ t ≠ .type "int")
theorem IntV.int {K : PySem.W.Frag} {H : Hp} (i : Int) : IntV K H (.int i) (some i) := .inl ⟨i, rfl, rfl⟩
theorem IntV.non {K : PySem.W.Frag} {H : Hp} : IntV K H .non none := .inr ⟨rfl, _, .base .non, .non, by decide⟩
def fromV (o : Option Int) (lo hi : Int) : Bool := match o with | some i => decide (lo ≤ i) && decide (i ≤ hi) | none => false
def indexV (o : Option Int) (n : Int) : Bool := match o with | some i => decide (0 ≤ i) && decide (i < n) | none => false
def spIntV (K : PySem.W.Frag) : Sp := fun vs H Q _ => ∃ v o, vs = [v] ∧ IntV K H v o ∧ Q (.bl o.isSome) H
def isLT (t : Value) : Bool := decide (t = .type "list") || decide (t = .type "tuple")
def spListV (K : PySem.W.Frag) : Sp := fun vs H Q _ => ∃ v t, vs = [v] ∧ TyX K H v t ∧ KB t ∧ ∀ H', Same H H' → Q (.bl (isLT t)) H'
def spFromV (K : PySem.W.Frag) : Sp := fun vs H Q _ => ∃ v o lo hi, vs = [v, .int lo, .int hi] ∧ IntV K H v o ∧ Q (.bl (fromV o lo hi)) H
def spIndexV (K : PySem.W.Frag) : Sp := fun vs H Q _ => ∃ v o n, vs = [v, .int n] ∧ IntV K H v o ∧ Q (.bl (indexV o n)) H
def spIsInt : Sp := fun vs H Q _ => ∃ i, vs = [.int i] ∧ Q (.bl true) H
def spIsList : Sp := fun vs H Q _ => ∃ a xs, vs = [.ref a] ∧ (H a = some (.lst xs) ∨ H a = some (.tup xs)) ∧ ∀ H', Same H H' → Q (.bl true) H'
def spIsFrom : Sp := fun vs H Q _ => ∃ i lo hi, vs = [.int i, .int lo, .int hi] ∧ lo ≤ i ∧ i ≤ hi ∧ Q (.bl true) H
def spIsIndex : Sp := fun vs H Q _ => ∃ i n, vs = [.int i, .int n] ∧ 0 ≤ i ∧ i < n ∧ Q (.bl true) H
def spIsDigits : Sp := fun vs H Q _ => ∃ a, vs = [.str a] ∧ Txt.isascii a = true ∧ Txt.isdigit a = true ∧ Q (.bl true) H
theorem _root_.L2.SqL.same {K : PySem.W.Frag} {H H' : Hp} {a : Addr} {xs : List V} (h : SqL K H a xs) (s : Same H H') : SqL K H' a xs := Eld.SqL.same h s
theorem _root_.L2.SqT.same {K : PySem.W.Frag} {H H' : Hp} {a : Addr} {xs : List V} (h : SqT K H a xs) (s : Same H H') : SqT K H' a xs := by
  rcases h with (e | ⟨o, e⟩) | q
  · exact .inl (.inl (s _ _ e))
  · exact .inl (.inr ⟨o, s _ _ e⟩)
  · exact .inr q
/-- a list or a tuple, told or of the top -/
def SqA (K : PySem.W.Frag) (H : Hp) (a : Addr) (xs : List V) : Prop := SqL K H a xs ∨ SqT K H a xs
theorem SqA.same {K : PySem.W.Frag} {H H' : Hp} {a : Addr} {xs : List V} (h : SqA K H a xs) (s : Same H H') : SqA K H' a xs := h.imp (fun e => e.same s) fun e => e.same s
theorem _root_.L2.SqL.ty {K : PySem.W.Frag} {H : Hp} {a : Addr} {xs : List V} (h : SqL K H a xs) : TyX K H (.ref a) (.type "list") := by
  rcases h with (e | ⟨o, e⟩) | ⟨o, its, n, e, c, _⟩
  · exact .base (.lst e)
  · exact .base (.frz e)
  · exact .kList e c
theorem _root_.L2.SqT.ty {K : PySem.W.Frag} {H : Hp} {a : Addr} {xs : List V} (h : SqT K H a xs) : TyX K H (.ref a) (.type "tuple") := by
  rcases h with (e | ⟨o, e⟩) | ⟨o, its, n, e, c, _⟩
  · exact .base (.tup e)
  · exact .fTuple e
  · exact .kTuple e c
def spIsSizes (K : PySem.W.Frag) : Sp := fun vs H Q _ => ∃ a zs, vs = [.ref a] ∧ zs ∈ menu ∧ SqA K H a (zs.map V.int) ∧ ∀ H', Same H H' → Q (.bl true) H'
def spAllValues (K : PySem.W.Frag) : Sp := fun vs H Q _ => ∃ a zs, vs = [.ref a] ∧ zs ∈ menu ∧ SqT K H a (zs.map V.int) ∧ ∀ H' q ts, Same H H' → H q = none → BareT H' q (ts.map V.ref) → RowsT H' ts (allRows zs) → Q (.ref q) H'
section
variable {P : Program} {w : World} {K : PySem.W.Frag} {mg : Str → Option Value} {base : Heap}
theorem ok_take {f : Addr} {fd : FuncData} (F : Fun K "_law_take" "_law_take" s__law_take f fd) (Z : Zs mg) : FnG P w K mg base CX0 1 f fd ["box", "many"] spTake := by
  refine okG F sc__law_take (fun vs H Q E h => ?_) (fun cdv B up z H vs Q E hG hr h => ?_)
  · obtain ⟨b, many, n, rfl, _⟩ := h
    rfl
  · obtain ⟨b, many, n, rfl, ⟨g, m, c, t, hb, hg, hm, hm2, hc, hcn⟩, hn, h0, h1, k⟩ := h
    refine ⟨_, (pss_cons (ps_if (PW.pt (pw_and (pt_val (pe_ix (show IxR _ (rIxL K) from ix_list) (pv 0) pe_int (fun _ _ => rfl))) (pw_and1 (pt_cmpR op_gt (pe_ix (show IxR _ (rIxL K) from ix_list) (pv 0) pe_int (fun _ _ => rfl)) pe_int (nomark _))))) (pss_cons (ps_set (i := 3) sc__law_take.nd rfl (by first | exact Or.inl rfl | exact Or.inr rfl) (pe_op op_mod (pe_callTy c_int (by rfl) Z.int_ (by decide +kernel) (pa_cons (pe_ix (show IxR _ (rIxL K) from ix_list) (pv 0) pe_int (fun _ _ => rfl)) pa_nil)) (pv 1)))
  (pss_cons (ps_asg (pe_op op_fdiv (pe_ix (show IxR _ (rIxL K) from ix_list) (pv 0) pe_int (fun _ _ => rfl)) (pv 1)) (pg_sub (pv 0) pe_int set_list))
  (pss_one (ps_ret (pv 3))))) pss_nil)
  (pss_cons (ps_asg (pe_op op_add (pe_ix (show IxR _ (rIxL K) from ix_list) (pv 0) pe_int (fun _ _ => rfl)) pe_int) (pg_sub (pv 0) pe_int set_list))
  (pss_cons (ps_set (i := 2) sc__law_take.nd rfl (by first | exact Or.inl rfl | exact Or.inr rfl) (pe_op op_mod (pe_callTy c_int (by rfl) Z.int_ (by decide +kernel) (pa_cons (pe_op op_pow (pe_op op_add (pe_op op_add (pe_ix (show IxR _ (rIxL K) from ix_list) (pv 0) pe_int (fun _ _ => rfl)) (pe_op op_mul pe_int (pe_ix (show IxR _ (rIxL K) from ix_list) (pv 0) pe_int (fun _ _ => rfl)))) pe_int) pe_int) pa_nil)) pe_int))
  (pss_one (ps_ret (pe_op op_mod (pe_op op_fdiv (pe_op op_mod (pe_callTy c_int (by rfl) Z.int_ (by decide +kernel) (pa_cons (pe_op op_pow (pe_op op_add (pe_op op_mul (pv 2) pe_int) (pe_op op_mul pe_int (pe_ix (show IxR _ (rIxL K) from ix_list) (pv 0) pe_int (fun _ _ => rfl)))) pe_int) pa_nil)) pe_int) pe_int) (pv 1))))))), ?_⟩
    have fin : ∀ g' c' : Int, 0 ≤ g' → 0 ≤ c' → c' ≤ n + 1 → ∀ o, o = (HO.lst [.int g', .bl t, .int m, .int c']) → BoxAt (upd H b o) b (n + 1) := fun g' c' h1 h2 h3 o e => by
      subst e
      exact ⟨g', m, c', t, upd_same, h1, hm, hm2, h2, h3⟩
    have but : ∀ o, But b H (upd H b o) := fun o a u ha e => by rw [upd_ne ha]; exact e
    walk_at "r"
    refine ite2 (fun ht => ?_) (fun ht => ?_)
    walk_at "r"
    refine ite2 (fun hp => ?_) (fun hp => ?_)
    · walk_at "r"
      refine r_i h0 ?_
      walk_at "r"
      refine r_i ⟨h0, h1⟩ ?_
      walk_at "r"
      refine r_setL hb rfl ?_
      walk_at "r"
      exact k _ _ (Int.emod_nonneg _ (by omega)) (Int.emod_lt_of_pos _ h0) (fin (g / many) c (Int.ediv_nonneg hg (by omega)) hc (by omega) _ rfl) (but _)
    all_goals
      walk_at "r"
      refine r_setL hb rfl ?_
      have hb2 : (upd H b (.lst [.int g, .bl t, .int m, .int (c + 1)])) b = some (.lst [.int g, .bl t, .int m, .int (c + 1)]) := upd_same
      walk_at "r"
      refine r_ixL (SqL.of hb2) rfl ?_
      walk_at "r"
      refine r_ixL (SqL.of hb2) rfl ?_
      walk_at "r"
      refine r_i (.inl ⟨by decide, by decide⟩) ?_
      walk_at "r"
      refine r_i ⟨by decide, by decide, by omega⟩ ?_
      walk_at "r"
      refine r_i (by decide) ?_
      walk_at "r"
      have hm0 := Int.emod_nonneg ((m + 15485867 * (c + 1) + 179425033) ^ (5 : Int).toNat) (show (2147483647 : Int) ≠ 0 by decide)
      have hm1 := Int.emod_lt_of_pos ((m + 15485867 * (c + 1) + 179425033) ^ (5 : Int).toNat) (show (0 : Int) < 2147483647 by decide)
      generalize (m + 15485867 * (c + 1) + 179425033) ^ (5 : Int).toNat % 2147483647 = mixed at hm0 hm1 ⊢
      refine r_i (.inl ⟨by omega, by omega⟩) ?_
      walk_at "r"
      refine r_ixL (SqL.of hb2) rfl ?_
      walk_at "r"
      refine r_i (.inl ⟨by decide, by decide⟩) ?_
      walk_at "r"
      refine r_i ⟨by decide, by decide, by omega⟩ ?_
      walk_at "r"
      refine r_i (by decide) ?_
      walk_at "r"
      refine r_i ⟨by decide, by decide⟩ ?_
      walk_at "r"
      refine r_i h0 ?_
      exact k _ _ (Int.emod_nonneg _ (by omega)) (Int.emod_lt_of_pos _ h0) (fin g (c + 1) hg (by omega) (by omega) _ rfl) (but _)
theorem ok_integer {f : Addr} {fd : FuncData} (F : Fun K "is_integer" "is_integer" s_is_integer f fd) (Z : Zs mg) : FnG P w K mg base CX0 1 f fd ["value"] (spIntV K) := by
  refine okG F sc_is_integer (fun vs H Q E h => ?_) (fun cdv B up z H vs Q E hG hr h => ?_)
  · obtain ⟨v, o, rfl, _⟩ := h
    rfl
  obtain ⟨v, o, rfl, hv, k⟩ := h
  refine ⟨_, (pss_one (ps_ret (pe_and (pe_callB call_isi (by rfl) Z.isinstance_ (by decide +kernel) (pa_cons (pv 0) (pa_cons (pe_ty "int" (by rfl) Z.int_ (by decide +kernel)) pa_nil))) (pe_one (pe_not (pe_callB call_isi (by rfl) Z.isinstance_ (by decide +kernel) (pa_cons (pv 0) (pa_cons (pe_ty "bool" (by rfl) Z.bool_ (by decide +kernel)) pa_nil)))))))), ?_⟩
  walk_at "r"
  rcases hv with ⟨i, rfl, rfl⟩ | ⟨rfl, t, ty, kd, hne⟩
  · refine r_isiB (b := true) (.base (.int i)) (by decide +kernel) ?_
    walk_at "r"
    refine r_isiB (b := false) (.base (.int i)) (by decide +kernel) ?_
    walk_at "r"
    exact k
  · cases kd with
    | int => exact absurd rfl hne
    | bl =>
      refine r_isiB (b := true) ty (by decide +kernel) ?_
      walk_at "r"
      refine r_isiB (b := true) ty (by decide +kernel) ?_
      walk_at "r"
      exact k
    | _ =>
      refine r_isiB (b := false) ty (by decide +kernel) ?_
      walk_at "r"
      exact k
theorem ok_listB {f : Addr} {fd : FuncData} (F : Fun K "is_list" "is_list" s_is_list f fd) (Z : Zs mg) : FnG P w K mg base CX0 1 f fd ["value"] (spListV K) := by
  refine okG F sc_is_list (fun vs H Q E h => ?_) (fun cdv B up z H vs Q E hG hr h => ?_)
  · obtain ⟨v, t, rfl, _⟩ := h
    rfl
  obtain ⟨v, t, rfl, ty, kd, k⟩ := h
  refine ⟨_, (pss_one (ps_ret (pe_callB call_isiT (by rfl) Z.isinstance_ (by decide +kernel) (pa_cons (pv 0) (pa_cons (pe_tup (pa_cons (pe_ty "list" (by rfl) Z.list_ (by decide +kernel)) (pa_cons (pe_ty "tuple" (by rfl) Z.tuple_ (by decide +kernel)) pa_nil))) pa_nil))))), ?_⟩
  walk_at "r"
  refine ⟨by show 2 ≤ sizeLine; decide, fun p hp => ?_⟩
  have s1 : Same H (upd H p (.tup [.ty "list", .ty "tuple"])) := Same.upd_new hp
  walk_at "r"
  have step : ∀ {c : Bool}, PySem.W.kitAny K t [.type "list", .type "tuple"] = some c → (c = isLT t) → rIsiT K [v, .ref p] (upd H p (.tup [.ty "list", .ty "tuple"])) Q := fun {c} hk e => by
    subst e
    exact ⟨v, p, [.ty "list", .ty "tuple"], t, [.type "list", .type "tuple"], _, rfl, upd_same, .cons (.ty _) (.cons (.ty _) .nil), TyX.same ty s1, hk, k _ s1⟩
  cases kd with
  | lst => exact step (c := true) (kitAny_cons (b := true) (kit_ty (by decide +kernel)) (fun z => by cases z) (fun _ => rfl)) (by decide)
  | tup => exact step (c := true) (kitAny_cons (b := false) (kit_ty (by decide +kernel)) (fun _ => kitAny_cons (b := true) (kit_ty (by decide +kernel)) (fun z => by cases z) (fun _ => rfl)) (fun z => by cases z)) (by decide)
  | _ => exact step (c := false) (kitAny_cons (b := false) (kit_ty (by decide +kernel)) (fun _ => kitAny_cons (b := false) (kit_ty (by decide +kernel)) (fun _ => rfl) (fun z => by cases z)) (fun z => by cases z)) (by decide)
theorem ok_fromB {f : Addr} {fd : FuncData} (F : Fun K "is_from" "is_from" s_is_from f fd) (d_is_integer : DefD P w K mg base 1 "is_integer" 1 [] byPlace (spIntV K)) : FnG P w K mg base CX0 2 f fd ["value", "low", "high"] (spFromV K) := by
  refine okG F sc_is_from (fun vs H Q E h => ?_) (fun cdv B up z H vs Q E hG hr h => ?_)
  · obtain ⟨v, o, lo, hi, rfl, _⟩ := h
    rfl
  obtain ⟨v, o, lo, hi, rfl, hv, k⟩ := h
  refine ⟨_, (pss_one (ps_ret (pe_and (pd_pos d_is_integer hG hr (by decide) (by rfl) (pa_cons (pv 0) pa_nil)) (pe_one (pe_chain op_le op_le (pv 1) (pv 0) (pv 2)))))), ?_⟩
  walk_at "r"
  refine ⟨v, o, rfl, hv, ?_⟩
  rcases hv with ⟨i, rfl, rfl⟩ | ⟨rfl, _⟩
  · unfold fromV at k
    dsimp only at k
    rw [show (some i).isSome = true from rfl]
    walk_at "r"
    cases c1 : decide (lo ≤ i) with
    | false =>
      rw [c1, Bool.false_and] at k
      walk_at "r"
      exact k
    | true =>
      rw [c1, Bool.true_and] at k
      walk_at "r"
      exact k
  · rw [show (none : Option Int).isSome = false from rfl]
    walk_at "r"
    exact k
theorem ok_indexB {f : Addr} {fd : FuncData} (F : Fun K "is_index" "is_index" s_is_index f fd) (d_is_integer : DefD P w K mg base 1 "is_integer" 1 [] byPlace (spIntV K)) : FnG P w K mg base CX0 2 f fd ["value", "count"] (spIndexV K) := by
  refine okG F sc_is_index (fun vs H Q E h => ?_) (fun cdv B up z H vs Q E hG hr h => ?_)
  · obtain ⟨v, o, n, rfl, _⟩ := h
    rfl
  obtain ⟨v, o, n, rfl, hv, k⟩ := h
  refine ⟨_, (pss_one (ps_ret (pe_and (pd_pos d_is_integer hG hr (by decide) (by rfl) (pa_cons (pv 0) pa_nil)) (pe_one (pe_chain op_le op_lt pe_int (pv 0) (pv 1)))))), ?_⟩
  walk_at "r"
  refine ⟨v, o, rfl, hv, ?_⟩
  rcases hv with ⟨i, rfl, rfl⟩ | ⟨rfl, _⟩
  · unfold indexV at k
    dsimp only at k
    rw [show (some i).isSome = true from rfl]
    walk_at "r"
    cases c1 : decide (0 ≤ i) with
    | false =>
      rw [c1, Bool.false_and] at k
      walk_at "r"
      exact k
    | true =>
      rw [c1, Bool.true_and] at k
      walk_at "r"
      exact k
  · rw [show (none : Option Int).isSome = false from rfl]
    walk_at "r"
    exact k
theorem ok_is_integer {f : Addr} {fd : FuncData} (F : Fun K "is_integer" "is_integer" s_is_integer f fd) (Z : Zs mg) : FnG P w K mg base CX0 1 f fd ["value"] spIsInt :=
  (ok_integer F Z).imp fun vs H Q E h => by
    obtain ⟨i, rfl, k⟩ := h
    exact ⟨_, _, rfl, .int i, k⟩
theorem ok_is_list {f : Addr} {fd : FuncData} (F : Fun K "is_list" "is_list" s_is_list f fd) (Z : Zs mg) : FnG P w K mg base CX0 1 f fd ["value"] spIsList :=
  (ok_listB F Z).imp fun vs H Q E h => by
    obtain ⟨a, xs, rfl, e | e, k⟩ := h
    · exact ⟨_, _, rfl, .base (.lst e), .lst, k⟩
    · exact ⟨_, _, rfl, .base (.tup e), .tup, k⟩
theorem ok_is_from {f : Addr} {fd : FuncData} (F : Fun K "is_from" "is_from" s_is_from f fd) (d_is_integer : DefD P w K mg base 1 "is_integer" 1 [] byPlace (spIntV K)) : FnG P w K mg base CX0 2 f fd ["value", "low", "high"] spIsFrom :=
  (ok_fromB F d_is_integer).imp fun vs H Q E h => by
    obtain ⟨i, lo, hi, rfl, h1, h2, k⟩ := h
    refine ⟨_, _, lo, hi, rfl, .int i, ?_⟩
    rw [show fromV (some i) lo hi = true by unfold fromV; simp [h1, h2]]
    exact k
theorem ok_is_index {f : Addr} {fd : FuncData} (F : Fun K "is_index" "is_index" s_is_index f fd) (d_is_integer : DefD P w K mg base 1 "is_integer" 1 [] byPlace (spIntV K)) : FnG P w K mg base CX0 2 f fd ["value", "count"] spIsIndex :=
  (ok_indexB F d_is_integer).imp fun vs H Q E h => by
    obtain ⟨i, n, rfl, h1, h2, k⟩ := h
    refine ⟨_, _, n, rfl, .int i, ?_⟩
    rw [show indexV (some i) n = true by unfold indexV; simp [h1, h2]]
    exact k
end
end Eld
set_option Elab.async false
set_option maxRecDepth 100000
set_option maxHeartbeats 4000000
set_option linter.all false
namespace Eld
open PySem L2
local macro_rules | `(tactic| walk_at "r1") => `(tactic| with_reducible first
  | refine r_seq ?_ | refine r_asgN ?_ | refine r_asg ?_ | refine r_gname ?_ | refine r_gsub ?_ | refine r_var rfl ?_ | refine r_c ?_ | refine r_op ?_ | refine r_un ?_ | refine r_u ?_ | refine r_i0 ?_ | refine r_cb ?_ | refine r_cons ?_ | refine r_nil ?_ | refine r_cl ?_ | refine r_fn rfl rfl ?_ | refine r_mt ?_
  | refine r_test ?_ | refine r_tb ?_ | refine r_bl ?_ | refine r_and ?_ | refine r_or ?_ | refine r_not ?_ | refine r_andV ?_ | refine r_orV ?_ | refine r_notV ?_ | refine r_ifX ?_ | refine r_ifs ?_ | refine r_chain ?_ | refine r_ret ?_ | refine r_next ?_ | refine r_drop ?_ | refine iteT ?_ | refine iteF ?_ | refine iteNT ?_ | refine iteNF ?_
  | refine r_int1 ?_ | refine r_boolB ?_ | refine r_eqI ?_ | refine r_neI ?_ | refine r_eqB ?_ | refine r_neB ?_ | refine r_eqS ?_ | refine r_neS ?_ | refine r_abs ?_ | refine r_max2 ?_ | refine r_min2 ?_ | refine r_yes ?_ | refine r_tup ?_ | refine r_sfld ?_ | refine r_m0 ?_ | refine r_m1 ?_ | refine r_lst ?_ | refine r_rng1 ?_ | refine r_rng2 ?_ | refine r_ixL (SqL.of (by assumption)) rfl ?_)
local macro_rules | `(tactic| walk_at "r") => `(tactic| repeat (first | walk_at "r1" | ((with_reducible refine r_var ?hv ?_); (case hv => rfl))))
theorem menu_len : ∀ zs ∈ menu, 1 ≤ zs.length ∧ zs.length ≤ 3 := by decide
theorem menu_mem : ∀ zs ∈ menu, ∀ z ∈ zs, (2 : Int) ≤ z ∧ z ≤ 8 := by decide
def prod (zs : List Int) : Int := zs.foldl (· * ·) 1
theorem menu_prod : ∀ zs ∈ menu, prod zs ≤ 8 := by decide
theorem menu_part : ∀ zs ∈ menu, ∀ i, i < 4 → -(2 ^ 64) < prod (zs.take i) ∧ prod (zs.take i) < 2 ^ 64 := by decide
theorem prod_take {zs : List Int} {i : Nat} {z : Int} (h : zs[i]? = some z) : prod (zs.take (i + 1)) = prod (zs.take i) * z := by
  unfold prod
  rw [List.take_add_one, h, List.foldl_append]
  rfl
theorem map_get {zs : List Int} {i : Nat} {x : V} (h : (zs.map V.int)[i]? = some x) : ∃ z, zs[i]? = some z ∧ x = .int z := by
  rw [List.getElem?_map] at h
  cases e : zs[i]? with
  | none => rw [e] at h; cases h
  | some z => rw [e] at h; exact ⟨z, rfl, (Option.some.inj h).symm⟩
theorem all_rep (n : Nat) : (List.replicate n true).all id = true := by
  rw [List.all_eq_true]
  intro b hb
  exact (List.mem_replicate.mp hb).2
theorem map_rep (n : Nat) : (List.replicate n true).map V.bl = List.replicate n (V.bl true) := by rw [List.map_replicate]
section
variable {P : Program} {w : World} {K : PySem.W.Frag} {mg : Str → Option Value} {base : Heap}
theorem ok_is_sizes {f : Addr} {fd : FuncData} (F : Fun K "is_sizes" "is_sizes" s_is_sizes f fd) (Z : Zs mg) (d_is_list : DefD P w K mg base 1 "is_list" 1 [] byPlace (spListV K)) (d_is_from : DefD P w K mg base 2 "is_from" 3 [] byPlace spIsFrom) :
    FnG P w K mg base CX0 3 f fd ["value"] (spIsSizes K) := by
  refine okG F sc_is_sizes (fun vs H Q E h => ?_) (fun cdv B up z H vs Q E hG hr h => ?_)
  · obtain ⟨a, zs, rfl, _⟩ := h
    rfl
  · obtain ⟨a, zs, rfl, hz, ha, k⟩ := h
    obtain ⟨l1, l3⟩ := menu_len zs hz
    have lz : (zs.map V.int).length = zs.length := List.length_map ..
    rcases ha with ha | ha
    · refine ⟨_, (pss_cons (ps_if (PW.pt (pw_or (pt_not (pt_val (pd_pos d_is_list hG hr (by decide) (by rfl) (pa_cons (pv 0) pa_nil)))) (pw_or1 (pt_not (pt_chain op_le op_le pe_int (pe_callB (show CallR _ _ (rLen K) from c_len) (by rfl) Z.len_ (by decide +kernel) (pa_cons (pv 0) pa_nil)) (pe_gc (by rfl) Z.MOST_NAMES)))))) (pss_one (ps_ret pe_bl)) pss_nil)
  (pss_cons (ps_if (pt_not (pt_val (pe_callB (cr_all rfl) (by rfl) Z.all_ (by decide +kernel) (pa_cons (pe_lc (own := [("size", 2)]) (tt := tYes) rfl sc_is_sizes.nd (pi_list (pv 0)) (blkOk_by (N := ["value", "stores", "size"]) (sc := defScope s_is_sizes) (by decide +kernel)) (fun _ _ _ _ _ => (pg_name (i := 2) sc_is_sizes.nd rfl (by first | exact Or.inl rfl | exact Or.inr rfl))) (fun _ _ _ _ _ => pts_nil) (fun _ _ _ _ _ => (pd_pos d_is_from hG hr (by decide) (by rfl) (pa_cons (pv 2) (pa_cons pe_int (pa_cons (pe_gc (by rfl) Z.MOST_STORES) pa_nil)))))) pa_nil)))) (pss_one (ps_ret pe_bl)) pss_nil)
  (pss_cons (ps_set (i := 1) sc_is_sizes.nd rfl (by first | exact Or.inl rfl | exact Or.inr rfl) pe_int)
  (pss_cons (ps_for PassesOwn.never rfl (pi_list (pv 0)) (pg_name (i := 2) sc_is_sizes.nd rfl (by first | exact Or.inl rfl | exact Or.inr rfl))
  (pss_one (ps_set (i := 1) sc_is_sizes.nd rfl (by first | exact Or.inl rfl | exact Or.inr rfl) (pe_op op_mul (pv 1) (pv 2)))))
  (pss_one (ps_ret (pe_cmpR op_le (pv 1) (pe_gc (by rfl) Z.MOST_STORES) (nomark _)))))))), ?_⟩
      walk_at "r"
      refine ⟨_, _, rfl, ha.ty, .lst, fun H1 s1 => ?_⟩
      rw [show isLT (.type "list") = true from by decide]
      walk_at "r"
      refine r_lenL (ha.same s1) ?_
      walk_at "r"
      rw [lz, decide_eq_true (show (1 : Int) ≤ (zs.length : Nat) by omega)]
      walk_at "r"
      rw [decide_eq_true (show ((zs.length : Nat) : Int) ≤ 3 by omega)]
      walk_at "r"
      refine ⟨_, rfl, a, rfl, ⟨_, ha.same s1⟩, fun D hD => ?_⟩
      refine it_list (xs := zs.map V.int) (fun i H2 => Same H1 H2 ∧ H2 D = some (.lst (List.replicate i (V.bl true)))) ⟨Same.upd_new hD, upd_same⟩ (fun i H2 _ p => (ha.same s1).same p.1) (fun i x H2 hx p => ?_) (fun H2 p => ?_)
      · obtain ⟨y, hy, rfl⟩ := map_get hx
        obtain ⟨y1, y2⟩ := menu_mem zs hz y (List.mem_of_getElem? hy)
        refine r_gname ⟨rfl, ?_⟩
        walk_at "r"
        refine ⟨y, 2, 8, rfl, y1, y2, ?_⟩
        have il : i < zs.length := (List.getElem?_eq_some_iff.mp hy).1
        refine ⟨_, p.2, by rw [List.length_replicate, sizeLine_eq]; omega, fun b o e => ?_, by rw [upd_same, List.replicate_succ']⟩
        rw [upd_ne (ne_of_none e hD)]
        exact p.1 _ _ e
      · rw [lz] at p
        refine ⟨D, List.replicate zs.length true, rfl, SqL.of (by rw [map_rep]; exact p.2), ?_⟩
        rw [all_rep]
        walk_at "r"
        have ha2 : SqL K H2 a (zs.map V.int) := (ha.same s1).same p.1
        refine ⟨_, rfl, a, rfl, ⟨_, ha2⟩, for_list (K := K) (a := a) (xs := zs.map V.int) (fun i τ G => G = H2 ∧ ∃ v : Option V, τ = [some (.ref a), some (.int (prod (zs.take i))), v]) ⟨rfl, none, rfl⟩ (fun i τ G _ q => by rw [q.1]; exact ha2) ?_ ?_⟩
        · rintro i x τ G hx ⟨rfl, v, rfl⟩
          obtain ⟨y, hy, rfl⟩ := map_get hx
          have il : i < zs.length := (List.getElem?_eq_some_iff.mp hy).1
          walk_at "r"
          refine r_i (.inl (menu_part zs hz i (by omega))) ?_
          walk_at "r"
          exact ⟨rfl, _, by rw [prod_take hy]; rfl⟩
        · rintro τ G ⟨rfl, v, rfl⟩
          walk_at "r"
          rw [lz, List.take_length, decide_eq_true (menu_prod zs hz)]
          exact k _ (s1.trans p.1)
    · refine ⟨_, (pss_cons (ps_if (PW.pt (pw_or (pt_not (pt_val (pd_pos d_is_list hG hr (by decide) (by rfl) (pa_cons (pv 0) pa_nil)))) (pw_or1 (pt_not (pt_chain op_le op_le pe_int (pe_callB (show CallR _ _ (rLen K) from c_len) (by rfl) Z.len_ (by decide +kernel) (pa_cons (pv 0) pa_nil)) (pe_gc (by rfl) Z.MOST_NAMES)))))) (pss_one (ps_ret pe_bl)) pss_nil)
  (pss_cons (ps_if (pt_not (pt_val (pe_callB (cr_all rfl) (by rfl) Z.all_ (by decide +kernel) (pa_cons (pe_lc (own := [("size", 2)]) (tt := tYes) rfl sc_is_sizes.nd (pi_tup (pv 0)) (blkOk_by (N := ["value", "stores", "size"]) (sc := defScope s_is_sizes) (by decide +kernel)) (fun _ _ _ _ _ => (pg_name (i := 2) sc_is_sizes.nd rfl (by first | exact Or.inl rfl | exact Or.inr rfl))) (fun _ _ _ _ _ => pts_nil) (fun _ _ _ _ _ => (pd_pos d_is_from hG hr (by decide) (by rfl) (pa_cons (pv 2) (pa_cons pe_int (pa_cons (pe_gc (by rfl) Z.MOST_STORES) pa_nil)))))) pa_nil)))) (pss_one (ps_ret pe_bl)) pss_nil)
  (pss_cons (ps_set (i := 1) sc_is_sizes.nd rfl (by first | exact Or.inl rfl | exact Or.inr rfl) pe_int)
  (pss_cons (ps_for PassesOwn.never rfl (pi_tup (pv 0)) (pg_name (i := 2) sc_is_sizes.nd rfl (by first | exact Or.inl rfl | exact Or.inr rfl))
  (pss_one (ps_set (i := 1) sc_is_sizes.nd rfl (by first | exact Or.inl rfl | exact Or.inr rfl) (pe_op op_mul (pv 1) (pv 2)))))
  (pss_one (ps_ret (pe_cmpR op_le (pv 1) (pe_gc (by rfl) Z.MOST_STORES) (nomark _)))))))), ?_⟩
      walk_at "r"
      refine ⟨_, _, rfl, ha.ty, .tup, fun H1 s1 => ?_⟩
      rw [show isLT (.type "tuple") = true from by decide]
      walk_at "r"
      refine r_lenT (ha.same s1) ?_
      walk_at "r"
      rw [lz, decide_eq_true (show (1 : Int) ≤ (zs.length : Nat) by omega)]
      walk_at "r"
      rw [decide_eq_true (show ((zs.length : Nat) : Int) ≤ 3 by omega)]
      walk_at "r"
      refine ⟨_, rfl, a, rfl, ⟨_, ha.same s1⟩, fun D hD => ?_⟩
      refine it_tup (xs := zs.map V.int) (fun i H2 => Same H1 H2 ∧ H2 D = some (.lst (List.replicate i (V.bl true)))) ⟨Same.upd_new hD, upd_same⟩ (fun i H2 _ p => (ha.same s1).same p.1) (fun i x H2 hx p => ?_) (fun H2 p => ?_)
      · obtain ⟨y, hy, rfl⟩ := map_get hx
        obtain ⟨y1, y2⟩ := menu_mem zs hz y (List.mem_of_getElem? hy)
        refine r_gname ⟨rfl, ?_⟩
        walk_at "r"
        refine ⟨y, 2, 8, rfl, y1, y2, ?_⟩
        have il : i < zs.length := (List.getElem?_eq_some_iff.mp hy).1
        refine ⟨_, p.2, by rw [List.length_replicate, sizeLine_eq]; omega, fun b o e => ?_, by rw [upd_same, List.replicate_succ']⟩
        rw [upd_ne (ne_of_none e hD)]
        exact p.1 _ _ e
      · rw [lz] at p
        refine ⟨D, List.replicate zs.length true, rfl, SqL.of (by rw [map_rep]; exact p.2), ?_⟩
        rw [all_rep]
        walk_at "r"
        have ha2 : SqT K H2 a (zs.map V.int) := (ha.same s1).same p.1
        refine ⟨_, rfl, a, rfl, ⟨_, ha2⟩, for_tup (K := K) (a := a) (xs := zs.map V.int) (fun i τ G => G = H2 ∧ ∃ v : Option V, τ = [some (.ref a), some (.int (prod (zs.take i))), v]) ⟨rfl, none, rfl⟩ (fun i τ G _ q => by rw [q.1]; exact ha2) ?_ ?_⟩
        · rintro i x τ G hx ⟨rfl, v, rfl⟩
          obtain ⟨y, hy, rfl⟩ := map_get hx
          have il : i < zs.length := (List.getElem?_eq_some_iff.mp hy).1
          walk_at "r"
          refine r_i (.inl (menu_part zs hz i (by omega))) ?_
          walk_at "r"
          exact ⟨rfl, _, by rw [prod_take hy]; rfl⟩
        · rintro τ G ⟨rfl, v, rfl⟩
          walk_at "r"
          rw [lz, List.take_length, decide_eq_true (menu_prod zs hz)]
          exact k _ (s1.trans p.1)
end
end Eld
set_option Elab.async false
set_option maxRecDepth 100000
set_option maxHeartbeats 4000000
set_option linter.all false
namespace Eld
open PySem L2
local macro_rules | `(tactic| walk_at "r1") => `(tactic| with_reducible first
  | refine r_seq ?_ | refine r_asgN ?_ | refine r_asg ?_ | refine r_gname ?_ | refine r_gsub ?_ | refine r_var rfl ?_ | refine r_c ?_ | refine r_op ?_ | refine r_un ?_ | refine r_u ?_ | refine r_i0 ?_ | refine r_cb ?_ | refine r_cons ?_ | refine r_nil ?_ | refine r_cl ?_ | refine r_fn rfl rfl ?_ | refine r_mt ?_
  | refine r_test ?_ | refine r_tb ?_ | refine r_bl ?_ | refine r_and ?_ | refine r_or ?_ | refine r_not ?_ | refine r_andV ?_ | refine r_orV ?_ | refine r_notV ?_ | refine r_ifX ?_ | refine r_ifs ?_ | refine r_chain ?_ | refine r_ret ?_ | refine r_next ?_ | refine r_drop ?_ | refine iteT ?_ | refine iteF ?_ | refine iteNT ?_ | refine iteNF ?_
  | refine r_int1 ?_ | refine r_boolB ?_ | refine r_eqI ?_ | refine r_neI ?_ | refine r_eqB ?_ | refine r_neB ?_ | refine r_eqS ?_ | refine r_neS ?_ | refine r_abs ?_ | refine r_max2 ?_ | refine r_min2 ?_ | refine r_yes ?_ | refine r_tup ?_ | refine r_sfld ?_ | refine r_m0 ?_ | refine r_m1 ?_ | refine r_lst ?_ | refine r_rng1 ?_ | refine r_rng2 ?_ | refine r_ixL (SqL.of (by assumption)) rfl ?_)
local macro_rules | `(tactic| walk_at "r") => `(tactic| repeat (first | walk_at "r1" | ((with_reducible refine r_var ?hv ?_); (case hv => rfl))))

theorem menu_rows : ∀ zs ∈ menu, ∀ i, i < 3 → ∀ j, j < 9 → (((allRows (zs.take i)).take j).flatMap (more (zs.getD i 0))).length ≤ 64 := by decide
theorem menu_rows8 : ∀ zs ∈ menu, ∀ i, i < 4 → (allRows (zs.take i)).length ≤ 8 := by decide
theorem menu_deep : ∀ zs ∈ menu, ∀ i, i < 4 → ∀ r ∈ allRows (zs.take i), r.length ≤ 3 := by decide
theorem rows_take {zs : List Int} {i : Nat} {z : Int} (h : zs[i]? = some z) : allRows (zs.take (i + 1)) = wide (allRows (zs.take i)) z := by
  unfold allRows
  rw [List.take_add_one, h, List.foldl_append]
  rfl
theorem more_len (z : Int) (r : List Int) : (more z r).length = z.toNat := by simp [more]
theorem more_at {z : Int} {r : List Int} {k : Nat} (h : k < z.toNat) : (more z r)[k]? = some (r ++ [(k : Int)]) := by
  unfold more
  rw [List.getElem?_map, List.getElem?_range h]
  rfl
theorem take_next {α : Type} {l : List α} {k : Nat} {x : α} (h : l[k]? = some x) : l.take (k + 1) = l.take k ++ [x] := by rw [List.take_add_one, h]; rfl
theorem flat_next {rows : List (List Int)} {j : Nat} {r : List Int} {z : Int} (h : rows[j]? = some r) : (rows.take (j + 1)).flatMap (more z) = (rows.take j).flatMap (more z) ++ more z r := by
  rw [take_next h, List.flatMap_append]
  simp
theorem ref_get {ts : List Addr} {i : Nat} {x : V} (h : (ts.map V.ref)[i]? = some x) : ∃ t, ts[i]? = some t ∧ x = .ref t := by
  rw [List.getElem?_map] at h
  cases e : ts[i]? with
  | none => rw [e] at h; cases h
  | some z => rw [e] at h; exact ⟨z, rfl, (Option.some.inj h).symm⟩
theorem RowsT.get {H : Hp} {ts : List Addr} {rows : List (List Int)} {i : Nat} {t : Addr} (h : RowsT H ts rows) (e : ts[i]? = some t) : ∃ r, rows[i]? = some r ∧ H t = some (.tup (r.map V.int)) := by
  have il : i < rows.length := h.1 ▸ (List.getElem?_eq_some_iff.mp e).1
  exact ⟨rows[i], List.getElem?_eq_getElem il, h.2 i t _ e (List.getElem?_eq_getElem il)⟩
theorem RowsT.nil {H : Hp} : RowsT H [] [] := ⟨rfl, fun i t r a => by simp at a⟩
/-- r + (k,) -/
theorem r_catInt {K : PySem.W.Frag} {H : Hp} {Q : VK} {t q : Addr} {r : List Int} {k : Int} (ht : H t = some (.tup (r.map V.int))) (hq : H q = some (.tup [.int k])) (hl : r.length ≤ 10)
    (h : ∀ p H', Same H H' → H' p = some (.tup ((r ++ [k]).map V.int)) → Q (.ref p) H') : rCatA K (.ref t) (.ref q) H Q := by
  refine ⟨t, q, r.map V.int, [.int k], rfl, rfl, SqT.of ht, SqT.of hq, ?_, fun e => ?_, fun _ e => (nomatch e), fun _ _ p hp => ?_⟩
  · rw [List.length_map, sizeLine_eq]
    show r.length + 1 ≤ 16777216
    omega
  · have e' : r = [] := by simpa using e
    subst e'
    exact h q H (Same.refl H) hq
  · refine h p _ (Same.upd_new hp) ?_
    rw [upd_same, List.map_append]
    rfl
section
variable {P : Program} {w : World} {K : PySem.W.Frag} {mg : Str → Option Value} {base : Heap}
theorem ok_is_digits {f : Addr} {fd : FuncData} (F : Fun K "is_digits" "is_digits" s_is_digits f fd) : FnG P w K mg base CX0 1 f fd ["word"] spIsDigits := by
  refine okG F sc_is_digits (fun vs H Q E h => ?_) (fun cdv B up z H vs Q E hG hr h => ?_)
  · obtain ⟨a, rfl, _⟩ := h
    rfl
  · obtain ⟨a, rfl, h1, h2, k⟩ := h
    refine ⟨_, (pss_one (ps_ret (pe_and (pe_m0 PySem.F.slot_str_isascii PySem.F.type_str_isascii mt_isascii (pv 0)) (pe_one (pe_m0 PySem.F.slot_str_isdigit PySem.F.type_str_isdigit mt_isdigit (pv 0)))))), ?_⟩
    walk_at "r"
    refine ⟨⟨a, rfl⟩, a, rfl, rfl, trivial, ?_⟩
    rw [h1]
    walk_at "r"
    refine ⟨⟨a, rfl⟩, a, rfl, rfl, trivial, ?_⟩
    rw [h2]
    exact k
theorem ok_all_values {f : Addr} {fd : FuncData} (F : Fun K "all_values" "all_values" s_all_values f fd) (Z : Zs mg) : FnG P w K mg base CX0 1 f fd ["sizes"] (spAllValues K) := by
  refine okG F sc_all_values (fun vs H Q E h => ?_) (fun cdv B up z H vs Q E hG hr h => ?_)
  · obtain ⟨a, zs, rfl, _⟩ := h
    rfl
  · obtain ⟨a, zs, rfl, hz, ha, k⟩ := h
    obtain ⟨l1, l3⟩ := menu_len zs hz
    have lz : (zs.map V.int).length = zs.length := List.length_map ..
    refine ⟨_, (pss_cons (ps_set (i := 1) sc_all_values.nd rfl (by first | exact Or.inl rfl | exact Or.inr rfl) (pe_lst (pa_cons (pe_tup pa_nil) pa_nil)))
  (pss_cons (ps_for PassesOwn.never rfl (pi_tup (pv 0)) (pg_name (i := 2) sc_all_values.nd rfl (by first | exact Or.inl rfl | exact Or.inr rfl))
  (pss_one (ps_setLc2 (i := 1) (own := [("values", 3), ("value", 4)]) (vs1 := [4]) (tt := tYes) (tt1 := tYes) rfl sc_all_values.nd rfl rfl (sw_true rfl rfl rfl (by decide +kernel)) (pi_list (pv 1)) (blkOk_by (N := ["sizes", "stores", "size", "values", "value"]) (sc := defScope s_all_values) (by decide +kernel)) (by decide) (fun _ _ _ _ _ => (pg_name (i := 3) sc_all_values.nd rfl (by first | exact Or.inl rfl | exact Or.inr rfl))) (fun _ _ _ _ _ => pts_nil) (fun _ _ _ _ _ => (pi_range1 (by rfl) Z.range_ (pa_cons (pv 2) pa_nil))) (fun _ _ _ _ _ => (pg_name (i := 4) sc_all_values.nd rfl (by first | exact Or.inl rfl | exact Or.inr rfl))) (fun _ _ _ _ _ => pts_nil) (fun _ _ _ _ _ => (pe_op (show OpR _ _ (rCatA K) from op_catA) (pv 3) (pe_tup (pa_cons (pv 4) pa_nil)))))))
  (pss_one (ps_ret (pe_callTy (show CallR _ _ (rTupleB K) from call_tupleB) (by rfl) Z.tuple_ (by decide +kernel) (pa_cons (pv 1) pa_nil)))))), ?_⟩
    walk_at "r"
    refine ⟨Nat.zero_le _, fun t ht => ?_⟩
    walk_at "r"
    refine ⟨by show 1 ≤ sizeLine; decide, fun l hl => ?_⟩
    have s0 : Same H (upd (upd H t (.tup [])) l (.lst [.ref t])) := (Same.upd_new ht).trans (Same.upd_new hl)
    have tl : t ≠ l := fun e => by rw [← e, upd_same] at hl; cases hl
    have r0 : RowsT (upd (upd H t (.tup [])) l (.lst [.ref t])) [t] [[]] := by
      have := RowsT.push (H := upd (upd H t (.tup [])) l (.lst [.ref t])) (t := t) (r := []) RowsT.nil (by rw [upd_ne tl]; exact upd_same)
      exact this
    walk_at "r"
    refine ⟨_, rfl, a, rfl, ⟨_, ha.same s0⟩, for_tup (K := K) (a := a) (xs := zs.map V.int) (fun i τ G => Same H G ∧ ∃ (m : Addr) (ts : List Addr) (v2 : Option V), τ = [some (.ref a), some (.ref m), v2, none, none] ∧ H m = none ∧ G m = some (.lst (ts.map V.ref)) ∧ RowsT G ts (allRows (zs.take i)))
      ⟨s0, l, [t], none, rfl, (Same.upd_new ht).free hl, upd_same, r0⟩ (fun i τ G _ p => ha.same p.1) ?_ ?_⟩
    · rintro i x τ G hx ⟨sG, m, ts, v2, rfl, hm, gm, rt⟩
      obtain ⟨y, hy, rfl⟩ := map_get hx
      have il : i < zs.length := (List.getElem?_eq_some_iff.mp hy).1
      obtain ⟨y1, y2⟩ := menu_mem zs hz y (List.mem_of_getElem? hy)
      have yd : zs.getD i 0 = y := by rw [List.getD_eq_getElem?_getD, hy]; rfl
      generalize hrows : allRows (zs.take i) = rows at rt
      have r8 : rows.length ≤ 8 := hrows ▸ menu_rows8 zs hz i (by omega)
      walk_at "r"
      refine ⟨_, rfl, m, rfl, ⟨_, SqL.of gm⟩, fun D hD => ?_⟩
      refine it_list (xs := ts.map V.ref) (fun j G2 => Same G G2 ∧ ∃ us : List Addr, G2 D = some (.lst (us.map V.ref)) ∧ RowsT G2 us ((rows.take j).flatMap (more y)))
        ⟨Same.upd_new hD, [], upd_same, by simpa using RowsT.nil⟩ (fun j G2 _ p => SqL.of (p.1 _ _ gm)) (fun j x G2 hx p => ?_) (fun G2 p => ?_)
      · obtain ⟨s2, us, d2, ru⟩ := p
        obtain ⟨u, hu, rfl⟩ := ref_get hx
        obtain ⟨r, hr', gu⟩ := rt.get hu
        have jl : j < rows.length := (List.getElem?_eq_some_iff.mp hr').1
        have rl : r.length ≤ 3 := menu_deep zs hz i (by omega) r (hrows ▸ List.mem_of_getElem? hr')
        refine r_gname ⟨rfl, ?_⟩
        walk_at "r"
        refine ⟨y, rfl, by omega, by omega, ?_⟩
        refine it_range (fun k G3 => Same G G3 ∧ ∃ us : List Addr, G3 D = some (.lst (us.map V.ref)) ∧ RowsT G3 us ((rows.take j).flatMap (more y) ++ (more y r).take k))
          ⟨s2, us, d2, by simpa using ru⟩ (fun k G3 hk p3 => ?_) (fun G3 p3 => ?_)
        · obtain ⟨s3, us3, d3, ru3⟩ := p3
          refine r_gname ⟨rfl, ?_⟩
          walk_at "r"
          refine ⟨by show 1 ≤ sizeLine; decide, fun q hq => ?_⟩
          have s4 : Same G3 (upd G3 q (.tup [.int (0 + (k : Int))])) := Same.upd_new hq
          refine r_catInt (s4 _ _ (s3 _ _ gu)) upd_same (by omega) fun p4 G4 s5 g4 => ?_
          have s6 := s4.trans s5
          have d4 := s6 _ _ d3
          have len : us3.length ≤ 72 := by
            rw [ru3.1, List.length_append, List.length_take]
            have h1 := menu_rows zs hz i (by omega) j (by omega)
            rw [hrows, yd] at h1
            omega
          refine ⟨us3.map V.ref, d4, by rw [List.length_map, sizeLine_eq]; omega, Same.over (s3.trans s6) hD, us3 ++ [p4], by rw [upd_same, List.map_append]; rfl, ?_⟩
          rw [take_next (more_at (z := y) (r := r) hk), ← List.append_assoc]
          have g4' : (upd G4 D (.lst (us3.map V.ref ++ [V.ref p4]))) p4 = some (.tup ((r ++ [(k : Int)]).map V.int)) := by
            have ne : p4 ≠ D := ne_of g4 d4 (by intro e; cases e)
            rw [upd_ne ne, g4]
            simp
          refine RowsT.push ⟨ru3.1, fun i' t' r' a' b' => ?_⟩ g4'
          have e1 := ru3.2 i' t' r' a' b'
          have ne : t' ≠ D := ne_of e1 d3 (by intro e; cases e)
          rw [upd_ne ne]
          exact s6 _ _ e1
        · obtain ⟨s3, us3, d3, ru3⟩ := p3
          refine ⟨s3, us3, d3, ?_⟩
          rw [flat_next hr', show (more y r) = (more y r).take y.toNat from by rw [List.take_of_length_le]; rw [more_len]; exact Nat.le_refl _]
          exact ru3
      · obtain ⟨s2, us, d2, ru⟩ := p
        refine ⟨sG.trans s2, D, us, _, rfl, sG.free hD, d2, ?_⟩
        rw [rows_take hy, hrows]
        have e : (rows.take (ts.map V.ref).length) = rows := by rw [List.length_map, rt.1, List.take_length]
        rw [e] at ru
        exact ru
    · rintro τ G ⟨sG, m, ts, v2, rfl, hm, gm, rt⟩
      rw [lz, List.take_length] at rt
      walk_at "r"
      refine ⟨_, _, rfl, SqL.of gm, fun q o hq ho => ?_⟩
      exact k _ q ts (sG.trans (Same.upd_new hq)) (sG.free hq) ⟨o, upd_same, ho⟩ (rt.same (Same.upd_new hq))
end
end Eld
set_option Elab.async false
set_option maxRecDepth 100000
set_option maxHeartbeats 4000000
set_option linter.all false
namespace Eld
open PySem L2
local macro_rules | `(tactic| walk_at "r1") => `(tactic| with_reducible first
  | refine r_seq ?_ | refine r_asgN ?_ | refine r_asg ?_ | refine r_gname ?_ | refine r_gsub ?_ | refine r_var rfl ?_ | refine r_c ?_ | refine r_op ?_ | refine r_un ?_ | refine r_u ?_ | refine r_i0 ?_ | refine r_cb ?_ | refine r_cons ?_ | refine r_nil ?_ | refine r_cl ?_ | refine r_fn rfl rfl ?_ | refine r_mt ?_
  | refine r_test ?_ | refine r_tb ?_ | refine r_bl ?_ | refine r_and ?_ | refine r_or ?_ | refine r_not ?_ | refine r_andV ?_ | refine r_orV ?_ | refine r_notV ?_ | refine r_ifX ?_ | refine r_ifs ?_ | refine r_chain ?_ | refine r_ret ?_ | refine r_next ?_ | refine r_drop ?_ | refine iteT ?_ | refine iteF ?_ | refine iteNT ?_ | refine iteNF ?_
  | refine r_int1 ?_ | refine r_boolB ?_ | refine r_eqI ?_ | refine r_neI ?_ | refine r_eqB ?_ | refine r_neB ?_ | refine r_eqS ?_ | refine r_neS ?_ | refine r_abs ?_ | refine r_max2 ?_ | refine r_min2 ?_ | refine r_yes ?_ | refine r_tup ?_ | refine r_sfld ?_ | refine r_m0 ?_ | refine r_m1 ?_ | refine r_lst ?_ | refine r_rng1 ?_ | refine r_rng2 ?_ | refine r_ixL (SqL.of (by assumption)) rfl ?_)
local macro_rules | `(tactic| walk_at "r") => `(tactic| repeat (first | walk_at "r1" | ((with_reducible refine r_var ?hv ?_); (case hv => rfl))))

/-! ## a space -/
def spF (tz q : Addr) (n : Int) : List (Str × V) := [("sizes", .ref tz), ("_stores", .ref q), ("never", .int n)]
theorem ne1 : ¬ (("sizes" : Str) = "_stores") := by decide +kernel
theorem ne2 : ¬ (("sizes" : Str) = "never") := by decide +kernel
theorem ne3 : ¬ (("_stores" : Str) = "never") := by decide +kernel
theorem look_cons {x k : Str} {v : V} {r : List (Str × V)} : List.lookup x ((k, v) :: r) = if x = k then some v else List.lookup x r := by
  by_cases h : x = k
  · rw [if_pos h]
    simp [List.lookup, h]
  · rw [if_neg h]
    have : (x == k) = false := by simpa using h
    simp [List.lookup, this]
theorem spF_sizes (tz q : Addr) (n : Int) : (spF tz q n).lookup ("sizes" : Str) = some (.ref tz) := by unfold spF; rw [look_cons, if_pos rfl]
theorem spF_stores (tz q : Addr) (n : Int) : (spF tz q n).lookup ("_stores" : Str) = some (.ref q) := by unfold spF; rw [look_cons, if_neg (Ne.symm ne1), look_cons, if_pos rfl]
theorem spF_never (tz q : Addr) (n : Int) : (spF tz q n).lookup ("never" : Str) = some (.int n) := by unfold spF; rw [look_cons, if_neg (Ne.symm ne2), look_cons, if_neg (Ne.symm ne3), look_cons, if_pos rfl]
theorem spF_no (tz q : Addr) (n : Int) {m : Str} (h1 : ¬ m = "sizes") (h2 : ¬ m = "_stores") (h3 : ¬ m = "never") : (spF tz q n).lookup m = none := by unfold spF; rw [look_cons, if_neg h1, look_cons, if_neg h2, look_cons, if_neg h3]; rfl
theorem put1 (tz : Addr) : putF "sizes" (V.ref tz) [] = ([(("sizes" : Str), V.ref tz)] : List (Str × V)) := rfl
theorem put2 (tz q : Addr) : putF "_stores" (V.ref q) [(("sizes" : Str), V.ref tz)] = ([(("sizes" : Str), V.ref tz), (("_stores" : Str), V.ref q)] : List (Str × V)) := by
  show (if ("sizes" : Str) = "_stores" then [(("sizes" : Str), V.ref q)] else (("sizes" : Str), V.ref tz) :: putF "_stores" (V.ref q) []) = ([(("sizes" : Str), V.ref tz), (("_stores" : Str), V.ref q)] : List (Str × V))
  rw [if_neg ne1]
  rfl
theorem put3 (tz q : Addr) (n : Int) : putF "never" (V.int n) [(("sizes" : Str), V.ref tz), ("_stores", V.ref q)] = spF tz q n := by
  show (if ("sizes" : Str) = "never" then [(("sizes" : Str), V.int n), (("_stores" : Str), V.ref q)] else (("sizes" : Str), V.ref tz) :: (if ("_stores" : Str) = "never" then [(("_stores" : Str), V.int n)] else (("_stores" : Str), V.ref q) :: putF "never" (V.int n) [])) = spF tz q n
  rw [if_neg ne2, if_neg ne3]
  rfl
theorem BareT.to {H H' : Hp} {a : Addr} {ys : List V} (h : BareT H a ys) (f : ∀ o, H a = some o → H' a = some o) : BareT H' a ys := by
  obtain ⟨o, e, d⟩ := h
  exact ⟨o, f _ e, d⟩
theorem BareT.same {H H' : Hp} {a : Addr} {ys : List V} (h : BareT H a ys) (s : Same H H') : BareT H' a ys := h.to fun o e => s _ _ e
theorem BareT.ne {H : Hp} {a b : Addr} {ys : List V} {o : HO} (h : BareT H a ys) (e : H b = some o) (d : ∀ ob u, o ≠ .frz ob u) : a ≠ b := by
  obtain ⟨ob, e', _⟩ := h
  exact ne_of e' e fun z => d _ _ z.symm
/-- a Space with the sizes zs stands at p -/
def SpaceAt (C : Addr) (K : PySem.W.Frag) (H : Hp) (p : Addr) (zs : List Int) : Prop := ∃ (dx tz q : Addr) (ts : List Addr), H p = some (.ins C dx (spF tz q ((allRows zs).length : Nat))) ∧ SqT K H tz (zs.map V.int) ∧ BareT H q (ts.map V.ref) ∧ RowsT H ts (allRows zs)
theorem SpaceAt.same {C : Addr} {K : PySem.W.Frag} {H H' : Hp} {p : Addr} {zs : List Int} (h : SpaceAt C K H p zs) (s : Same H H') : SpaceAt C K H' p zs := by
  obtain ⟨dx, tz, q, ts, h1, h2, h3, h4⟩ := h
  exact ⟨dx, tz, q, ts, s _ _ h1, h2.same s, h3.same s, h4.same s⟩
/-- what the top has written of the class -/
structure Sc (K : PySem.W.Frag) (mg : Str → Option Value) (C : Addr) : Prop where
  cl : Cls K C
  nS : NoAttr K C "sizes"
  nT : NoAttr K C "_stores"
  nN : NoAttr K C "never"
  cSpace : mg "Space" = some (.ref C)
  ha : PySem.W.findIn K (.ref C) "__class__" = some (some (.builtin "object.__class__"))
  hn : PySem.W.specialIn K (.builtin "object.__class__") "__get__" = some (some (.builtin "getset_descriptor.__get__"))
  ht : PySem.W.takesIn K (.builtin "object.__class__") = some true
  hm : PySem.W.mroIn K C (.type "object") = some true
  kC : PySem.W.kitOne K (.ref C) (.ref C) = some true
  kN : PySem.W.kitOne K (.type "NoneType") (.ref C) = some false
  kL : PySem.W.kitOne K (.type "list") (.ref C) = some false
  kT : PySem.W.kitOne K (.type "tuple") (.ref C) = some false
  kS : PySem.W.kitOne K (.type "str") (.ref C) = some false
  kI : PySem.W.kitOne K (.type "int") (.ref C) = some false
  kB : PySem.W.kitOne K (.type "bool") (.ref C) = some false
theorem Sc.ty {K : PySem.W.Frag} {mg : Str → Option Value} {C dx : Addr} {H : Hp} {p : Addr} {fs : List (Str × V)} (S : Sc K mg C) (e : H p = some (.ins C dx fs)) : TyX K H (.ref p) (.ref C) := .base (.ins e S.cl S.ha S.hn S.ht S.hm)
theorem r_tupleAny {K : PySem.W.Frag} {H : Hp} {Q : VK} {a : Addr} {ys : List V} (ha : H a = some (.lst ys) ∨ H a = some (.tup ys)) (h : ∀ l H', Same H H' → H' l = some (.tup ys) → Q (.ref l) H') : rTupleOf K [.ref a] H Q := by
  rcases ha with e | e
  · exact r_tupleL (SqL.of e) fun l hl => h l _ (Same.upd_new hl) upd_same
  · exact r_tupleT (SqT.of e) (h a H (Same.refl H) e)
theorem _root_.L2.SqT.butP {K : PySem.W.Frag} {H H' : Hp} {a p C dx : Addr} {xs : List V} {fs : List (Str × V)} (h : SqT K H a xs) (hp : H p = some (.ins C dx fs)) (s : ∀ b o, b ≠ p → H b = some o → H' b = some o) : SqT K H' a xs := by
  rcases h with (e | ⟨o, e⟩) | q
  · exact .inl (.inl (s _ _ (ne_of e hp (by intro e; cases e)) e))
  · exact .inl (.inr ⟨o, s _ _ (ne_of e hp (by intro e; cases e)) e⟩)
  · exact .inr q
theorem r_tupleSqA {K : PySem.W.Frag} {H : Hp} {Q : VK} {a : Addr} {ys : List V} (ha : SqA K H a ys) (h : ∀ l H', Same H H' → SqT K H' l ys → Q (.ref l) H') : rTupleOf K [.ref a] H Q := by
  rcases ha with e | e
  · exact r_tupleL e fun l hl => h l _ (Same.upd_new hl) (SqT.of upd_same)
  · exact r_tupleT e (h a H (Same.refl H) e)
theorem r_lenAny {K : PySem.W.Frag} {H : Hp} {Q : VK} {a : Addr} {ys : List V} (ha : H a = some (.lst ys) ∨ H a = some (.tup ys)) (h : Q (.int (ys.length : Nat)) H) : rLen K [.ref a] H Q := by
  rcases ha with e | e
  · exact r_lenL (SqL.of e) h
  · exact r_lenT (SqT.of e) h
theorem same_any {H H' : Hp} {a : Addr} {ys : List V} (s : Same H H') (ha : H a = some (.lst ys) ∨ H a = some (.tup ys)) : H' a = some (.lst ys) ∨ H' a = some (.tup ys) := ha.imp (s _ _) (s _ _)
/-- o.f of an instance that is told -/
theorem r_fldI {K : PySem.W.Frag} {σ : L2.St} {H : Hp} {Q : VK} {ta : TE} {f : Str} (h : ta σ H fun x H1 => ∃ a C dx fs v, x = .ref a ∧ H1 a = some (.ins C dx fs) ∧ Cls K C ∧ NoAttr K C f ∧ fs.lookup f = some v ∧ Q v H1) : tFld K ta f σ H Q := h
def numStr (i : Int) : Str := (toString i : String)
def lineOf (zs : List Int) : Str := Txt.join (" " : Str) (zs.map numStr)
/-! ## the promises -/
def spInit (C : Addr) (K : PySem.W.Frag) : Sp := fun vs H Q _ => ∃ p a dx zs, vs = [.ref p, .ref a] ∧ H p = some (.ins C dx []) ∧ zs ∈ menu ∧ SqA K H a (zs.map V.int) ∧ ∀ H', (∀ b o, b ≠ p → H b = some o → H' b = some o) → SpaceAt C K H' p zs → Q .non H'
theorem ints_dp {K : PySem.W.Frag} {H : Hp} : ∀ zs : List Int, DpAll K H (zs.map V.int) (zs.map PyData.int)
  | [] => .nil
  | z :: zs => .cons (.int z) (ints_dp zs)
def tupD (r : List Int) : PyData := .tuple (r.map PyData.int)
theorem tup_dp {K : PySem.W.Frag} {H : Hp} {t : Addr} {r : List Int} (h : H t = some (.tup (r.map V.int))) : Dp K H (.ref t) (tupD r) := .tup (SqT.of h) (ints_dp r)
theorem lst_dp {K : PySem.W.Frag} {H : Hp} {t : Addr} {r : List Int} (h : H t = some (.lst (r.map V.int))) : Dp K H (.ref t) (.list (r.map PyData.int)) := .lst (SqL.of h) (ints_dp r)
theorem ints_eqv : ∀ a b : List Int, PyData.eqvAll (a.map PyData.int) (b.map PyData.int) = decide (a = b)
  | [], [] => by simp [PyData.eqvAll]
  | [], b :: bs => by simp [PyData.eqvAll]
  | a :: as, [] => by simp [PyData.eqvAll]
  | a :: as, b :: bs => by
    have ih := ints_eqv as bs
    simp only [List.map_cons, PyData.eqvAll, PyData.eqv, ih]
    by_cases h : a = b
    · subst h
      simp
    · simp [h]
theorem tup_eqv (a b : List Int) : PyData.eqv (tupD a) (tupD b) = decide (a = b) := by
  simp only [tupD, PyData.eqv]
  exact ints_eqv a b
theorem lst_eqv (a b : List Int) : PyData.eqv (.list (a.map PyData.int)) (.list (b.map PyData.int)) = decide (a = b) := by
  simp only [PyData.eqv]
  exact ints_eqv a b
theorem ints_lay : ∀ a : List Int, PyData.canLayAll0 (a.map PyData.int) = true
  | [] => by simp [PyData.canLayAll0]
  | a :: as => by simp [PyData.canLayAll0, PyData.canLay0, ints_lay as]
theorem ints_depth : ∀ a : List Int, PyData.depthAll (a.map PyData.int) = 0
  | [] => by simp [PyData.depthAll]
  | a :: as => by simp [PyData.depthAll, PyData.depth, ints_depth as]
theorem tup_shaped (a : List Int) : SeqAt.shaped (tupD a) = true := by
  simp [SeqAt.shaped, tupD, PyData.canLay0, PyData.depth, ints_lay, ints_depth]
theorem lst_shaped (a : List Int) : SeqAt.shaped (.list (a.map PyData.int)) = true := by
  simp [SeqAt.shaped, PyData.canLay0, PyData.depth, ints_lay, ints_depth]
theorem num_small : ∀ z : Int, 2 ≤ z → z ≤ 8 → z.natAbs.log2 < 1920 := by
  intro z h1 h2
  have : z.natAbs ≤ 8 := by omega
  calc z.natAbs.log2 ≤ z.natAbs := by
        rcases Nat.eq_zero_or_pos z.natAbs with h | h
        · rw [h]; decide
        · exact Nat.le_of_lt (Nat.lt_of_lt_of_le (Nat.log2_lt (Nat.ne_of_gt h) |>.mpr (Nat.lt_two_pow_self)) (Nat.le_refl _))
    _ < 1920 := by omega
theorem menu_line : ∀ zs ∈ menu, ((zs.map numStr).map (·.length)).sum + (zs.map numStr).length * (" " : Str).length ≤ 16777216 := by decide +kernel
section
variable {P : Program} {w : World} {K : PySem.W.Frag} {mg : Str → Option Value} {base : Heap} {C : Addr}
theorem ok_init {f : Addr} {fd : FuncData} (F : Fun K "__init__" "Space.__init__" s_Space___init__ f fd) (Z : Zs mg) (S : Sc K mg C) (d_is_sizes : DefD P w K mg base 3 "is_sizes" 1 [] byPlace (spIsSizes K)) (d_all_values : DefD P w K mg base 1 "all_values" 1 [] byPlace (spAllValues K)) :
    FnG P w K mg base CX0 4 f fd ["self", "sizes"] (spInit C K) := by
  refine okG F sc_Space___init__ (fun vs H Q E h => ?_) (fun cdv B up z H vs Q E hG hr h => ?_)
  · obtain ⟨p, a, dx, zs, rfl, _⟩ := h
    rfl
  · obtain ⟨p, a, dx, zs, rfl, hp, hz, ha, k⟩ := h
    refine ⟨_, (pss_cons (ps_if (pt_not (pt_val (pd_pos d_is_sizes hG hr (by decide) (by rfl) (pa_cons (pv 1) pa_nil)))) (pss_one ps_never) pss_nil)
  (pss_cons (ps_fld (pv 0) (pe_callTy (show CallR _ _ (rTupleOf K) from c_tuple) (by rfl) Z.tuple_ (by decide +kernel) (pa_cons (pv 1) pa_nil)) rfl)
  (pss_cons (ps_fld (pv 0) (pd_pos d_all_values hG hr (by decide) (by rfl) (pa_cons (pe_fld (pv 0) rfl) pa_nil)) rfl)
  (pss_one (ps_fld (pv 0) (pe_callB (show CallR _ _ (rLen K) from c_len) (by rfl) Z.len_ (by decide +kernel) (pa_cons (pe_fld (pv 0) rfl) pa_nil)) rfl))))), ?_⟩
    walk_at "r"
    refine ⟨a, zs, rfl, hz, ha, fun H1 s1 => ?_⟩
    walk_at "r"
    refine r_tupleSqA (ha.same s1) fun tz H2 s2 h2 => ?_
    have p2 : H2 p = some (.ins C dx []) := s2 _ _ (s1 _ _ hp)
    refine ⟨_, rfl, p, C, dx, [], rfl, p2, S.cl, S.nS, by show 0 < 1000; decide, ?_⟩
    rw [put1]
    have h3 : SqT K (upd H2 p (.ins C dx [("sizes", V.ref tz)])) tz (zs.map V.int) := h2.butP p2 fun b o nb e => by rw [upd_ne nb]; exact e
    have p3 : (upd H2 p (.ins C dx [("sizes", V.ref tz)])) p = some (.ins C dx [("sizes", V.ref tz)]) := upd_same
    generalize e3 : upd H2 p (.ins C dx [("sizes", V.ref tz)]) = H3 at h3 p3
    have s3 : ∀ b o, b ≠ p → H2 b = some o → H3 b = some o := fun b o nb e => by rw [← e3, upd_ne nb]; exact e
    walk_at "r"
    refine ⟨_, rfl, p, C, dx, _, _, rfl, p3, S.cl, S.nS, by rw [look_cons, if_pos rfl], ?_⟩
    walk_at "r"
    refine ⟨tz, zs, rfl, hz, h3, fun H4 q ts s4 q0 hq rt => ?_⟩
    refine ⟨_, rfl, p, C, dx, _, rfl, s4 _ _ p3, S.cl, S.nT, by show 1 < 1000; decide, ?_⟩
    rw [put2]
    have nq : q ≠ p := hq.ne (s4 _ _ p3) (by intro _ _ e; cases e)
    have p5 : (upd H4 p (.ins C dx [("sizes", V.ref tz), ("_stores", V.ref q)])) p = some (.ins C dx [("sizes", V.ref tz), ("_stores", V.ref q)]) := upd_same
    generalize e5 : upd H4 p (.ins C dx [("sizes", V.ref tz), ("_stores", V.ref q)]) = H5 at p5
    have s5 : ∀ b o, b ≠ p → H4 b = some o → H5 b = some o := fun b o nb e => by rw [← e5, upd_ne nb]; exact e
    walk_at "r"
    refine ⟨_, rfl, p, C, dx, _, _, rfl, p5, S.cl, S.nT, by rw [look_cons, if_neg (Ne.symm ne1), look_cons, if_pos rfl], ?_⟩
    walk_at "r"
    refine r_lenT (hq.to fun o e => s5 _ _ nq e).sq ?_
    refine ⟨_, rfl, p, C, dx, _, rfl, p5, S.cl, S.nN, by show 2 < 1000; decide, ?_⟩
    rw [put3, List.length_map, rt.1]
    refine k _ (fun b o nb e => ?_) ⟨dx, tz, q, ts, upd_same, ?_, ?_, rt.1, fun i t r a' b' => ?_⟩
    · rw [upd_ne nb]
      exact s5 _ _ nb (s4 _ _ (s3 _ _ nb (s2 _ _ (s1 _ _ e))))
    · exact (h3.same s4).butP (s4 _ _ p3) fun b o nb e => by
        rw [upd_ne nb]
        exact s5 _ _ nb e
    · exact hq.to fun o e => by
        rw [upd_ne nq]
        exact s5 _ _ nq e
    · have e1 := rt.2 i t r a' b'
      have nt : t ≠ p := ne_of e1 (s4 _ _ p3) (by intro e; cases e)
      rw [upd_ne nt]
      exact s5 _ _ nt e1
end
end Eld
set_option Elab.async false
set_option maxRecDepth 100000
set_option maxHeartbeats 4000000
set_option linter.all false
namespace Eld
open PySem L2
local macro_rules | `(tactic| walk_at "r1") => `(tactic| with_reducible first
  | refine r_seq ?_ | refine r_asgN ?_ | refine r_asg ?_ | refine r_gname ?_ | refine r_gsub ?_ | refine r_var rfl ?_ | refine r_c ?_ | refine r_op ?_ | refine r_un ?_ | refine r_u ?_ | refine r_i0 ?_ | refine r_cb ?_ | refine r_cons ?_ | refine r_nil ?_ | refine r_cl ?_ | refine r_fn rfl rfl ?_ | refine r_mt ?_
  | refine r_test ?_ | refine r_tb ?_ | refine r_bl ?_ | refine r_and ?_ | refine r_or ?_ | refine r_not ?_ | refine r_andV ?_ | refine r_orV ?_ | refine r_notV ?_ | refine r_ifX ?_ | refine r_ifs ?_ | refine r_chain ?_ | refine r_ret ?_ | refine r_next ?_ | refine r_drop ?_ | refine iteT ?_ | refine iteF ?_ | refine iteNT ?_ | refine iteNF ?_
  | refine r_int1 ?_ | refine r_boolB ?_ | refine r_eqI ?_ | refine r_neI ?_ | refine r_eqB ?_ | refine r_neB ?_ | refine r_eqS ?_ | refine r_neS ?_ | refine r_abs ?_ | refine r_max2 ?_ | refine r_min2 ?_ | refine r_yes ?_ | refine r_tup ?_ | refine r_sfld ?_ | refine r_m0 ?_ | refine r_m1 ?_ | refine r_lst ?_ | refine r_rng1 ?_ | refine r_rng2 ?_ | refine r_ixL (SqL.of (by assumption)) rfl ?_)
local macro_rules | `(tactic| walk_at "r") => `(tactic| repeat (first | walk_at "r1" | ((with_reducible refine r_var ?hv ?_); (case hv => rfl))))

theorem r_splitS {H : Hp} {Q : VK} {a b : Str} (h0 : (b.length == 0) = false) (h1 : a.length + 2 ≤ sizeLine) (h : ∀ p, H p = none → Q (.ref p) (upd H p (.lst ((Txt.split a b).map V.str)))) : ∃ a' b', V.str a = .str a' ∧ [V.str b] = [.str b'] ∧ (b'.length == 0) = false ∧ a'.length + 2 ≤ sizeLine ∧ rNewStrs (Txt.split a' b') H Q := ⟨a, b, rfl, rfl, h0, h1, h⟩
theorem menu_split : ∀ zs ∈ menu, Txt.split (lineOf zs) " " = zs.map numStr ∧ (lineOf zs).length ≤ 100 := by decide +kernel
theorem menu_word : ∀ zs ∈ menu, ∀ z ∈ zs, Txt.isascii (numStr z) = true ∧ Txt.isdigit (numStr z) = true ∧ (numStr z).length = 1 ∧ PySem.intText? (numStr z) = some z := by decide +kernel
theorem menu_nodup : ∀ zs ∈ menu, (allRows zs).Nodup := by decide
theorem menu_below : ∀ zs ∈ menu, ∀ r ∈ allRows zs, r.length = zs.length ∧ ∀ i, i < 3 → i < zs.length → 0 ≤ r.getD i 0 ∧ r.getD i 0 < zs.getD i 0 := by decide
theorem getD_of {l : List Int} {i : Nat} {x : Int} (h : l[i]? = some x) : l.getD i 0 = x := by rw [List.getD_eq_getElem?_getD, h]; rfl
def spRead (C : Addr) (K : PySem.W.Frag) : Sp := fun vs H Q _ => ∃ zs, vs = [.str (lineOf zs)] ∧ zs ∈ menu ∧ ∀ H' p, Same H H' → H p = none → SpaceAt C K H' p zs → Q (.ref p) H'
def spNeedSpace (C : Addr) (K : PySem.W.Frag) : Sp := fun vs H Q _ => ∃ p zs, vs = [.ref p] ∧ SpaceAt C K H p zs ∧ Q .non H
theorem dpAll_at {K : PySem.W.Frag} {H : Hp} {f : List Int → PyData} (hf : ∀ t r, H t = some (.tup (r.map V.int)) → Dp K H (.ref t) (f r)) : ∀ {ts : List Addr} {rows : List (List Int)}, RowsT H ts rows → DpAll K H (ts.map V.ref) (rows.map f)
  | [], [], _ => .nil
  | [], r :: rs, h => absurd h.1 (by simp)
  | t :: ts, [], h => absurd h.1 (by simp)
  | t :: ts, r :: rs, h => .cons (hf t r (h.2 0 t r rfl rfl)) (dpAll_at hf ⟨by simpa using h.1, fun i u q a b => h.2 (i + 1) u q (by simpa using a) (by simpa using b)⟩)
theorem rows_lay : ∀ rows : List (List Int), PyData.canLayAll0 (rows.map tupD) = true
  | [] => by simp [PyData.canLayAll0]
  | r :: rs => by simp [PyData.canLayAll0, tupD, PyData.canLay0, ints_lay r, rows_lay rs]
theorem rows_depth : ∀ rows : List (List Int), PyData.depthAll (rows.map tupD) ≤ 1
  | [] => by simp [PyData.depthAll]
  | r :: rs => by
    have h1 := rows_depth rs
    have h2 : (tupD r).depth = 1 := by simp [tupD, PyData.depth, ints_depth]
    simp only [List.map_cons, PyData.depthAll]
    omega
theorem rows_shaped (rows : List (List Int)) : SeqAt.shaped (.tuple (rows.map tupD)) = true := by
  have h := rows_depth rows
  have h2 : PyData.depth (.tuple (rows.map tupD)) ≤ 64 := by
    simp only [PyData.depth]
    omega
  simp only [SeqAt.shaped, PyData.canLay0, rows_lay, Bool.true_and, decide_eq_true_eq]
  exact h2
section
variable {P : Program} {w : World} {K : PySem.W.Frag} {mg : Str → Option Value} {base : Heap} {C : Addr}
theorem ok_need_space {f : Addr} {fd : FuncData} (F : Fun K "need_space" "need_space" s_need_space f fd) (Z : Zs mg) (S : Sc K mg C) : FnG P w K mg base CX0 1 f fd ["space"] (spNeedSpace C K) := by
  refine okG F sc_need_space (fun vs H Q E h => ?_) (fun cdv B up z H vs Q E hG hr h => ?_)
  · obtain ⟨p, zs, rfl, _⟩ := h
    rfl
  obtain ⟨p, zs, rfl, ⟨dx, tz, q, ts, h1, _⟩, k⟩ := h
  refine ⟨_, (pss_one (ps_if (pt_not (pt_val (pe_callB call_isi (by rfl) Z.isinstance_ (by decide +kernel) (pa_cons (pv 0) (pa_cons (pe_cls (by rfl) S.cSpace) pa_nil))))) (pss_one ps_never) pss_nil)), ?_⟩
  walk_at "r"
  refine r_isiO (S.ty h1) S.kC ?_
  walk_at "r"
  exact k
theorem ok_read {f : Addr} {fd : FuncData} (F : Fun K "read_space" "read_space" s_read_space f fd) (Z : Zs mg) (S : Sc K mg C) (d_is_digits : DefD P w K mg base 1 "is_digits" 1 [] byPlace spIsDigits) (d_is_sizes : DefD P w K mg base 3 "is_sizes" 1 [] byPlace (spIsSizes K))
    (k_Space : MakD P w K mg base 4 "Space" C 1 [] byPlace (spInit C K)) : FnG P w K mg base CX0 6 f fd ["line"] (spRead C K) := by
  refine okG F sc_read_space (fun vs H Q E h => ?_) (fun cdv B up z H vs Q E hG hr h => ?_)
  · obtain ⟨zs, rfl, _⟩ := h
    rfl
  · obtain ⟨zs, rfl, hz, k⟩ := h
    obtain ⟨sp, ll⟩ := menu_split zs hz
    obtain ⟨l1, l3⟩ := menu_len zs hz
    have wl : ∀ {i : Nat} {x : V}, ((zs.map numStr).map V.str)[i]? = some x → ∃ y, zs[i]? = some y ∧ x = .str (numStr y) := by
      intro i x hx
      rw [List.getElem?_map, List.getElem?_map] at hx
      cases e : zs[i]? with
      | none => rw [e] at hx; cases hx
      | some y => rw [e] at hx; exact ⟨y, rfl, (Option.some.inj hx).symm⟩
    have lw : ((zs.map numStr).map V.str).length = zs.length := by rw [List.length_map, List.length_map]
    refine ⟨_, (pss_cons (ps_if (pt_not (pt_val (pe_callB call_isi (by rfl) Z.isinstance_ (by decide +kernel) (pa_cons (pv 0) (pa_cons (pe_ty "str" (by rfl) Z.str_ (by decide +kernel)) pa_nil))))) (pss_one ps_never) pss_nil)
  (pss_cons (ps_set (i := 1) sc_read_space.nd rfl (by first | exact Or.inl rfl | exact Or.inr rfl) (pe_split (pv 0) pe_str))
  (pss_cons (ps_if (pt_not (pt_val (pe_callB (cr_all rfl) (by rfl) Z.all_ (by decide +kernel) (pa_cons (pe_lc (own := [("word", 3)]) (tt := tYes) rfl sc_read_space.nd (pi_list (pv 1)) (blkOk_by (N := ["line", "words", "sizes", "word"]) (sc := defScope s_read_space) (by decide +kernel)) (fun _ _ _ _ _ => (pg_name (i := 3) sc_read_space.nd rfl (by first | exact Or.inl rfl | exact Or.inr rfl))) (fun _ _ _ _ _ => pts_nil) (fun _ _ _ _ _ => (pe_and (pd_pos d_is_digits hG hr (by decide) (by rfl) (pa_cons (pv 3) pa_nil)) (pe_one (pe_cmpR op_eq (pe_callB (show CallR _ _ (rLen K) from c_len) (by rfl) Z.len_ (by decide +kernel) (pa_cons (pv 3) pa_nil)) pe_int (nomark _)))))) pa_nil)))) (pss_one ps_never) pss_nil)
  (pss_cons (ps_setLc (i := 2) (own := [("word", 3)]) (tt := tYes) rfl sc_read_space.nd rfl rfl (sw_true rfl rfl rfl (by decide +kernel)) (pi_list (pv 1)) (blkOk_by (N := ["line", "words", "sizes", "word"]) (sc := defScope s_read_space) (by decide +kernel)) (fun _ _ _ _ _ => (pg_name (i := 3) sc_read_space.nd rfl (by first | exact Or.inl rfl | exact Or.inr rfl))) (fun _ _ _ _ _ => pts_nil) (fun _ _ _ _ _ => (pe_callTy c_intS (by rfl) Z.int_ (by decide +kernel) (pa_cons (pv 3) pa_nil))))
  (pss_cons (ps_if (pt_not (pt_val (pd_pos d_is_sizes hG hr (by decide) (by rfl) (pa_cons (pv 2) pa_nil)))) (pss_one ps_never) pss_nil)
  (pss_one (ps_ret (pk_pos k_Space hG hr (by decide) (by rfl) (pa_cons (pv 2) pa_nil))))))))), ?_⟩
    walk_at "r"
    refine r_isiB (b := true) (.base (.str _)) (by decide +kernel) ?_
    walk_at "r"
    refine ⟨⟨_, rfl⟩, ?_⟩
    walk_at "r"
    refine r_splitS (by decide) (by rw [sizeLine_eq]; omega) fun l hl => ?_
    rw [sp]
    have g1 : (upd H l (.lst ((zs.map numStr).map V.str))) l = some (.lst ((zs.map numStr).map V.str)) := upd_same
    have s1 : Same H (upd H l (.lst ((zs.map numStr).map V.str))) := Same.upd_new hl
    generalize upd H l (.lst ((zs.map numStr).map V.str)) = H1 at g1 s1 ⊢
    walk_at "r"
    refine ⟨_, rfl, l, rfl, ⟨_, SqL.of g1⟩, fun D hD => ?_⟩
    refine it_list (xs := (zs.map numStr).map V.str) (fun i H2 => Same H1 H2 ∧ H2 D = some (.lst (List.replicate i (V.bl true)))) ⟨Same.upd_new hD, upd_same⟩ (fun i H2 _ p => SqL.of (p.1 _ _ g1)) (fun i x H2 hx p => ?_) (fun H2 p => ?_)
    · obtain ⟨y, hy, rfl⟩ := wl hx
      obtain ⟨w1, w2, w3, w4⟩ := menu_word zs hz y (List.mem_of_getElem? hy)
      have il : i < zs.length := (List.getElem?_eq_some_iff.mp hy).1
      refine r_gname ⟨rfl, ?_⟩
      walk_at "r"
      refine ⟨_, rfl, w1, w2, ?_⟩
      walk_at "r"
      refine r_lenS (by rw [w3]; decide) ?_
      walk_at "r"
      rw [w3, decide_eq_true (show V.int ((1 : Nat) : Int) = V.int 1 from rfl)]
      refine ⟨_, p.2, by rw [List.length_replicate, sizeLine_eq]; omega, Same.over p.1 hD, ?_⟩
      rw [upd_same, List.replicate_succ']
    · rw [lw] at p
      refine ⟨D, List.replicate zs.length true, rfl, SqL.of (by rw [map_rep]; exact p.2), ?_⟩
      rw [all_rep]
      walk_at "r"
      have g2 := p.1 _ _ g1
      refine ⟨_, rfl, l, rfl, ⟨_, SqL.of g2⟩, fun D2 hD2 => ?_⟩
      refine it_list (xs := (zs.map numStr).map V.str) (fun i H3 => Same H2 H3 ∧ H3 D2 = some (.lst ((zs.take i).map V.int))) ⟨Same.upd_new hD2, upd_same⟩ (fun i H3 _ p => SqL.of (p.1 _ _ g2)) (fun i x H3 hx p3 => ?_) (fun H3 p3 => ?_)
      · obtain ⟨y, hy, rfl⟩ := wl hx
        obtain ⟨w1, w2, w3, w4⟩ := menu_word zs hz y (List.mem_of_getElem? hy)
        refine r_gname ⟨rfl, ?_⟩
        walk_at "r"
        refine ⟨_, y, rfl, w4, by rw [w3]; decide, ?_⟩
        refine ⟨_, p3.2, by rw [List.length_map, List.length_take, sizeLine_eq]; omega, Same.over p3.1 hD2, ?_⟩
        rw [upd_same, take_next hy, List.map_append]
        rfl
      · rw [lw, List.take_length] at p3
        walk_at "r"
        refine ⟨D2, zs, rfl, hz, .inl (SqL.of p3.2), fun H4 s4 => ?_⟩
        walk_at "r"
        refine r_mk rfl rfl fun x dx hx hdx hne => ?_
        have new : Same H4 (upd (upd H4 dx (.own x)) x (.ins C dx [])) := fun b o e => by
          rw [upd_ne (ne_of_none e hx), upd_ne (ne_of_none e hdx)]
          exact e
        refine ⟨x, D2, dx, zs, rfl, upd_same, hz, .inl (SqL.of (new _ _ (s4 _ _ p3.2))), fun H5 s5 sp5 => ⟨rfl, ?_⟩⟩
        have all : Same H H4 := ((s1.trans p.1).trans p3.1).trans s4
        refine k H5 x (fun b o e => s5 b o (ne_of_none (all _ _ e) hx) (new _ _ (all _ _ e))) (all.free hx) sp5
end
end Eld
set_option Elab.async false
set_option maxRecDepth 100000
set_option maxHeartbeats 4000000
set_option linter.all false
namespace Eld
open PySem L2
local macro_rules | `(tactic| walk_at "r1") => `(tactic| with_reducible first
  | refine r_seq ?_ | refine r_asgN ?_ | refine r_asg ?_ | refine r_gname ?_ | refine r_gsub ?_ | refine r_var rfl ?_ | refine r_c ?_ | refine r_op ?_ | refine r_un ?_ | refine r_u ?_ | refine r_i0 ?_ | refine r_cb ?_ | refine r_cons ?_ | refine r_nil ?_ | refine r_cl ?_ | refine r_fn rfl rfl ?_ | refine r_mt ?_
  | refine r_test ?_ | refine r_tb ?_ | refine r_bl ?_ | refine r_and ?_ | refine r_or ?_ | refine r_not ?_ | refine r_andV ?_ | refine r_orV ?_ | refine r_notV ?_ | refine r_ifX ?_ | refine r_ifs ?_ | refine r_chain ?_ | refine r_ret ?_ | refine r_next ?_ | refine r_drop ?_ | refine iteT ?_ | refine iteF ?_ | refine iteNT ?_ | refine iteNF ?_
  | refine r_int1 ?_ | refine r_boolB ?_ | refine r_eqI ?_ | refine r_neI ?_ | refine r_eqB ?_ | refine r_neB ?_ | refine r_eqS ?_ | refine r_neS ?_ | refine r_abs ?_ | refine r_max2 ?_ | refine r_min2 ?_ | refine r_yes ?_ | refine r_tup ?_ | refine r_sfld ?_ | refine r_m0 ?_ | refine r_m1 ?_ | refine r_lst ?_ | refine r_rng1 ?_ | refine r_rng2 ?_ | refine r_ixL (SqL.of (by assumption)) rfl ?_)
local macro_rules | `(tactic| walk_at "r") => `(tactic| repeat (first | walk_at "r1" | ((with_reducible refine r_var ?hv ?_); (case hv => rfl))))

/-! ## the law's own tools -/
def spCell (K : PySem.W.Frag) : Sp := fun vs H Q _ => ∃ (a : Addr) (ns : List Int) (k : Nat), vs = [.ref a, .int (k : Nat)] ∧ k < 100 ∧ ns.length ≤ sizeLine ∧ SqL K H a (ns.map V.int) ∧ ∀ r H', Same H H' → Q (.int r) H'
def spBox : Sp := fun vs H Q _ => ∃ g, vs = [.int g] ∧ ∀ b H', Same H H' → H b = none → BoxAt H' b 0 → Q (.ref b) H'
def spSizes : Sp := fun vs H Q _ => ∃ b n, vs = [.ref b] ∧ BoxAt H b n ∧ n < 4000000 ∧ ∀ l zs H', zs ∈ menu → BoxAt H' b (n + 1) → But b H H' → H l = none → H' l = some (.lst (zs.map V.int)) → Q (.ref l) H'
def spRows : Sp := fun vs H Q _ => ∃ a zs, vs = [.ref a] ∧ zs ∈ menu ∧ H a = some (.lst (zs.map V.int)) ∧ ∀ H' m ts, Same H H' → H m = none → H' m = some (.lst (ts.map V.ref)) → RowsT H' ts (allRows zs) → Q (.ref m) H'
section
variable {P : Program} {w : World} {K : PySem.W.Frag} {mg : Str → Option Value} {base : Heap}
theorem ok_cell {f : Addr} {fd : FuncData} (F : Fun K "_law_cell" "_law_cell" s__law_cell f fd) (Z : Zs mg) : FnG P w K mg base CX0 1 f fd ["script", "k"] (spCell K) := by
  refine okG F sc__law_cell (fun vs H Q E h => ?_) (fun cdv B up z H vs Q E hG hr h => ?_)
  · obtain ⟨a, ns, k, rfl, _⟩ := h
    rfl
  · obtain ⟨a, ns, k, rfl, hk, hz, ha, q⟩ := h
    refine ⟨_, (pss_one (ps_ret (pe_ifExp (pt_cmpR op_lt (pv 1) (pe_callB (show CallR _ _ (rLen K) from c_len) (by rfl) Z.len_ (by decide +kernel) (pa_cons (pv 0) pa_nil)) (nomark _)) (pe_ix (show IxR _ (rIxL K) from ix_list) (pv 0) (pv 1) (fun _ _ => rfl)) (pe_op op_add (pe_op op_mul pe_int (pv 1)) (pe_op op_mod (pe_callB (cr_sum rfl) (by rfl) Z.sum_ (by decide +kernel) (pa_cons (pe_slice (show SlR _ (rSlL K) from sl_list) (pv 0) po_none (po_some pe_int)) pa_nil)) pe_int))))), ?_⟩
    walk_at "r"
    refine r_lenL ha ?_
    walk_at "r"
    refine ite2 (fun c => ?_) (fun c => ?_)
    · rw [List.length_map] at c
      have c' : k < ns.length := by simpa using c
      walk_at "r"
      refine r_ixL ha (atI_nat (v := .int ns[k]) (by rw [List.getElem?_map, List.getElem?_eq_getElem c']; rfl)) ?_
      exact q _ _ (Same.refl H)
    · walk_at "r"
      refine r_i (.inl ⟨by decide, by decide⟩) ?_
      walk_at "r"
      refine ⟨.ref a, rfl, 1, rfl, a, ns.map V.int, rfl, ha, fun p hp => ?_⟩
      refine ⟨p, (cutV (ns.map V.int) none (some 1)).map (fun v => match v with | .int i => i | _ => 0), rfl, SqL.of ?_, ?_⟩
      · rw [upd_same]
        have : ∀ l : List V, (∀ x ∈ l, ∃ i, x = V.int i) → (l.map (fun v => match v with | .int i => i | _ => (0 : Int))).map V.int = l := by
          intro l hl
          induction l with
          | nil => rfl
          | cons x l ih =>
            obtain ⟨i, rfl⟩ := hl x (List.mem_cons_self ..)
            rw [List.map_cons, List.map_cons, ih fun y hy => hl y (List.mem_cons_of_mem _ hy)]
        rw [this]
        intro x hx
        have h1 := List.mem_of_mem_drop (List.mem_of_mem_take hx)
        obtain ⟨i, _, e⟩ := List.mem_map.mp h1
        exact ⟨i, e.symm⟩
      · walk_at "r"
        refine r_i (by decide) ?_
        walk_at "r"
        exact q _ _ (Same.upd_new hp)
theorem ok_box {f : Addr} {fd : FuncData} (F : Fun K "_law_box" "_law_box" s__law_box f fd) (Z : Zs mg) : FnG P w K mg base CX0 1 f fd ["great"] spBox := by
  refine okG F sc__law_box (fun vs H Q E h => ?_) (fun cdv B up z H vs Q E hG hr h => ?_)
  · obtain ⟨g, rfl, _⟩ := h
    rfl
  · obtain ⟨g, rfl, q⟩ := h
    refine ⟨_, (pss_one (ps_ret (pe_lst (pa_cons (pe_callB c_abs (by rfl) Z.abs_ (by decide +kernel) (pa_cons (pv 0) pa_nil)) (pa_cons (pe_cmpR op_ge (pe_callB c_abs (by rfl) Z.abs_ (by decide +kernel) (pa_cons (pv 0) pa_nil)) (pe_op op_pow pe_int pe_int) (nomark _)) (pa_cons (pe_op op_mod (pe_callTy c_int (by rfl) Z.int_ (by decide +kernel) (pa_cons (pe_callB c_abs (by rfl) Z.abs_ (by decide +kernel) (pa_cons (pv 0) pa_nil)) pa_nil)) pe_int) (pa_cons pe_int pa_nil))))))), ?_⟩
    walk_at "r"
    have nn : 0 ≤ (if g < 0 then -g else g) := by split <;> omega
    refine r_i ⟨by decide, by decide, by decide⟩ ?_
    walk_at "r"
    refine r_i (by decide) ?_
    walk_at "r"
    refine ⟨by show 4 ≤ sizeLine; decide, fun p hp => ?_⟩
    exact q p _ (Same.upd_new hp) hp ⟨_, _, 0, _, upd_same, nn, Int.emod_nonneg _ (by decide), Int.lt_of_lt_of_le (Int.emod_lt_of_pos _ (by decide)) (by decide), by decide, by decide⟩
end
end Eld
set_option Elab.async false
set_option maxRecDepth 100000
set_option maxHeartbeats 4000000
set_option linter.all false
namespace Eld
open PySem L2
local macro_rules | `(tactic| walk_at "r1") => `(tactic| with_reducible first
  | refine r_seq ?_ | refine r_asgN ?_ | refine r_asg ?_ | refine r_gname ?_ | refine r_gsub ?_ | refine r_var rfl ?_ | refine r_c ?_ | refine r_op ?_ | refine r_un ?_ | refine r_u ?_ | refine r_i0 ?_ | refine r_cb ?_ | refine r_cons ?_ | refine r_nil ?_ | refine r_cl ?_ | refine r_fn rfl rfl ?_ | refine r_mt ?_
  | refine r_test ?_ | refine r_tb ?_ | refine r_bl ?_ | refine r_and ?_ | refine r_or ?_ | refine r_not ?_ | refine r_andV ?_ | refine r_orV ?_ | refine r_notV ?_ | refine r_ifX ?_ | refine r_ifs ?_ | refine r_chain ?_ | refine r_ret ?_ | refine r_next ?_ | refine r_drop ?_ | refine iteT ?_ | refine iteF ?_ | refine iteNT ?_ | refine iteNF ?_
  | refine r_int1 ?_ | refine r_boolB ?_ | refine r_eqI ?_ | refine r_neI ?_ | refine r_eqB ?_ | refine r_neB ?_ | refine r_eqS ?_ | refine r_neS ?_ | refine r_abs ?_ | refine r_max2 ?_ | refine r_min2 ?_ | refine r_yes ?_ | refine r_tup ?_ | refine r_sfld ?_ | refine r_m0 ?_ | refine r_m1 ?_ | refine r_lst ?_ | refine r_rng1 ?_ | refine r_rng2 ?_ | refine r_ixL (SqL.of (by assumption)) rfl ?_)
local macro_rules | `(tactic| walk_at "r") => `(tactic| repeat (first | walk_at "r1" | ((with_reducible refine r_var ?hv ?_); (case hv => rfl))))

/-! ## sets below a count -/
theorem AnyAt.same {H H' : Hp} {a : Addr} {xs : List V} (h : AnyAt H a xs) (s : Same H H') : AnyAt H' a xs := by
  rcases h with e | e
  · exact .inl (s _ _ e)
  · exact .inr (s _ _ e)
theorem r_ixAny {K : PySem.W.Frag} {H : Hp} {Q : VK} {a : Addr} {xs : List V} {i : Int} {v : V} (ha : AnyAt H a xs) (h : atI xs i = some v) (k : Q v H) : rIxL K (.ref a) (.int i) H Q ∨ rIxT K (.ref a) (.int i) H Q := by
  rcases ha with e | e
  · exact .inl ⟨a, xs, i, v, rfl, rfl, SqL.of e, h, k⟩
  · exact .inr ⟨a, xs, i, v, rfl, rfl, SqT.of e, h, k⟩
/-- each item is less than the next -/
def ascB : List Int → Bool
  | x :: y :: r => decide (x < y) && ascB (y :: r)
  | _ => true
/-- the pairs that are asked, in their order -/
def ascL (xs : List Int) : List Bool := (List.range (xs.length - 1)).map fun i => decide (xs.getD i 0 < xs.getD (i + 1) 0)
theorem ascL_all : ∀ xs : List Int, (ascL xs).all id = ascB xs
  | [] => rfl
  | [x] => rfl
  | x :: y :: r => by
    have ih := ascL_all (y :: r)
    unfold ascL at ih ⊢
    rw [show (x :: y :: r).length - 1 = ((y :: r).length - 1) + 1 by simp, List.range_succ_eq_map, List.map_cons, List.all_cons, List.map_map]
    unfold ascB
    rw [← ih]
    congr 1
def setB (xs : List Int) (n : Int) : Bool := xs.all (fun x => decide (0 ≤ x) && decide (x < n)) && ascB xs
def spAsc (K : PySem.W.Frag) : Sp := fun vs H Q _ => ∃ a xs, vs = [.ref a] ∧ AnyAt H a (xs.map V.int) ∧ xs.length ≤ 1000 ∧ ∀ H', Same H H' → Q (.bl (ascB xs)) H'
def spSetBelow (K : PySem.W.Frag) : Sp := fun vs H Q _ => ∃ a xs n, vs = [.ref a, .int n] ∧ AnyAt H a (xs.map V.int) ∧ xs.length ≤ 1000 ∧ ∀ H', Same H H' → Q (.bl (setB xs n)) H'
section
variable {P : Program} {w : World} {K : PySem.W.Frag} {mg : Str → Option Value} {base : Heap}
theorem ok_is_ascending {f : Addr} {fd : FuncData} (F : Fun K "is_ascending" "is_ascending" s_is_ascending f fd) (Z : Zs mg) : FnG P w K mg base CX0 1 f fd ["items"] (spAsc K) := by
  refine okG F sc_is_ascending (fun vs H Q E h => ?_) (fun cdv B up z H vs Q E hG hr h => ?_)
  · obtain ⟨a, xs, rfl, _⟩ := h
    rfl
  obtain ⟨a, xs, rfl, ha, hl, k⟩ := h
  refine ⟨_, (pss_one (ps_ret (pe_callB (cr_all rfl) (by rfl) Z.all_ (by decide +kernel) (pa_cons (pe_lc (own := [("at", 1)]) (tt := tYes) rfl sc_is_ascending.nd (pi_range2 (by rfl) Z.range_ (pa_cons pe_int (pa_cons (pe_callB (show CallR _ _ (rLen K) from c_len) (by rfl) Z.len_ (by decide +kernel) (pa_cons (pv 0) pa_nil)) pa_nil))) (blkOk_by (N := ["items", "at"]) (sc := defScope s_is_ascending) (by decide +kernel)) (fun _ _ _ _ _ => (pg_name (i := 1) sc_is_ascending.nd rfl (by first | exact Or.inl rfl | exact Or.inr rfl))) (fun _ _ _ _ _ => pts_nil) (fun _ _ _ _ _ => (pe_cmpR op_lt (pe_ix (show IxR _ (fun x y H Q => rIxL K x y H Q ∨ rIxT K x y H Q) from ix_or ix_list ix_tup) (pv 0) (pe_op op_sub (pv 1) pe_int) (fun _ _ => rfl)) (pe_ix (show IxR _ (fun x y H Q => rIxL K x y H Q ∨ rIxT K x y H Q) from ix_or ix_list ix_tup) (pv 0) (pv 1) (fun _ _ => rfl)) (nomark _)))) pa_nil)))), ?_⟩
  walk_at "r"
  refine r_lc ?_
  walk_at "r"
  refine r_lenAny ha ?_
  rw [List.length_map]
  walk_at "r"
  refine ⟨_, _, rfl, ⟨by omega, by omega, by omega, by omega⟩, fun D hD => ?_⟩
  have hn : (((xs.length : Nat) : Int) - 1).toNat = xs.length - 1 := by omega
  rw [hn]
  refine it_range (fun i A => Same H A ∧ A D = some (.lst (((ascL xs).take i).map V.bl))) ⟨Same.upd_new hD, upd_same⟩ (fun i A hi q => ?_) (fun A q => ?_)
  · obtain ⟨sA, dA⟩ := q
    have e0 : xs[i]? = some (xs[i]'(by omega)) := List.getElem?_eq_getElem _
    have e1 : xs[i + 1]? = some (xs[i + 1]'(by omega)) := List.getElem?_eq_getElem _
    have ea : (ascL xs)[i]? = some (decide (xs[i]'(by omega) < xs[i + 1]'(by omega))) := by
      unfold ascL
      rw [List.getElem?_map, List.getElem?_range hi]
      show some (decide (xs.getD i 0 < xs.getD (i + 1) 0)) = _
      rw [List.getD_eq_getElem?_getD, List.getD_eq_getElem?_getD, e0, e1]
      rfl
    generalize xs[i]'(_) = x at e0 ea
    generalize xs[i + 1]'(_) = y at e1 ea
    refine r_gname ⟨rfl, ?_⟩
    walk_at "r"
    rw [show (1 : Int) + ((i : Nat) : Int) - 1 = ((i : Nat) : Int) by omega]
    refine r_ixAny (AnyAt.same ha sA) (atI_nat (j := i) (by rw [List.getElem?_map, e0]; rfl)) ?_
    walk_at "r"
    rw [show (1 : Int) + ((i : Nat) : Int) = ((i + 1 : Nat) : Int) by omega]
    refine r_ixAny (AnyAt.same ha sA) (atI_nat (j := i + 1) (by rw [List.getElem?_map, e1]; rfl)) ?_
    walk_at "r"
    refine ⟨_, dA, by rw [List.length_map, List.length_take, sizeLine_eq]; omega, Same.over sA hD, ?_⟩
    rw [upd_same, take_next ea, List.map_append]
    rfl
  · obtain ⟨sA, dA⟩ := q
    have hl2 : (ascL xs).length = xs.length - 1 := by unfold ascL; rw [List.length_map, List.length_range]
    rw [← hl2, List.take_length] at dA
    walk_at "r"
    refine ⟨D, ascL xs, rfl, SqL.of dA, ?_⟩
    rw [ascL_all]
    exact k A sA
theorem ok_is_set_below {f : Addr} {fd : FuncData} (F : Fun K "is_set_below" "is_set_below" s_is_set_below f fd) (Z : Zs mg) (d_is_list : DefD P w K mg base 1 "is_list" 1 [] byPlace (spListV K)) (d_is_index : DefD P w K mg base 2 "is_index" 2 [] byPlace (spIndexV K)) (d_is_ascending : DefD P w K mg base 1 "is_ascending" 1 [] byPlace (spAsc K)) : FnG P w K mg base CX0 3 f fd ["value", "count"] (spSetBelow K) := by
  refine okG F sc_is_set_below (fun vs H Q E h => ?_) (fun cdv B up z H vs Q E hG hr h => ?_)
  · obtain ⟨a, xs, n, rfl, _⟩ := h
    rfl
  obtain ⟨a, xs, n, rfl, ha, hl, k⟩ := h
  refine ⟨_, (pss_cons (ps_if (PW.pt (pw_or (pt_not (pt_val (pd_pos d_is_list hG hr (by decide) (by rfl) (pa_cons (pv 0) pa_nil)))) (pw_or1 (pt_not (pt_val (pe_callB (cr_all rfl) (by rfl) Z.all_ (by decide +kernel) (pa_cons (pe_lc (own := [("item", 2)]) (tt := tYes) rfl sc_is_set_below.nd (pi_or (pi_list (pv 0)) (pi_tup (pv 0))) (blkOk_by (N := ["value", "count", "item"]) (sc := defScope s_is_set_below) (by decide +kernel)) (fun _ _ _ _ _ => (pg_name (i := 2) sc_is_set_below.nd rfl (by first | exact Or.inl rfl | exact Or.inr rfl))) (fun _ _ _ _ _ => pts_nil) (fun _ _ _ _ _ => (pd_pos d_is_index hG hr (by decide) (by rfl) (pa_cons (pv 2) (pa_cons (pv 1) pa_nil))))) pa_nil))))))) (pss_one (ps_ret pe_bl)) pss_nil)
  (pss_one (ps_ret (pd_pos d_is_ascending hG hr (by decide) (by rfl) (pa_cons (pv 0) pa_nil))))), ?_⟩
  walk_at "r"
  have hty : ∃ t, TyX K H (.ref a) t ∧ KB t ∧ isLT t = true := by
    rcases ha with e | e
    · exact ⟨_, .base (.lst e), .lst, by decide⟩
    · exact ⟨_, .base (.tup e), .tup, by decide⟩
  obtain ⟨t, ty, kd, et⟩ := hty
  refine ⟨.ref a, t, rfl, ty, kd, fun H1 s1 => ?_⟩
  rw [et]
  have ha1 := AnyAt.same ha s1
  walk_at "r"
  refine r_lc ?_
  refine r_iAny (fun q h => r_var rfl h) ha1 fun I Ok SI okI => fun D hD => ?_
  refine it_any SI (fun i A => Same H1 A ∧ A D = some (.lst (((xs.take i).map fun x => indexV (some x) n).map V.bl))) ⟨Same.upd_new hD, upd_same⟩ (fun i A _ p => okI _ p.1) (fun i x A hx p => ?_) (fun A p => ?_)
  · rw [List.getElem?_map] at hx
    obtain ⟨y, hy, rfl⟩ := Option.map_eq_some_iff.mp hx
    have il : i < xs.length := (List.getElem?_eq_some_iff.mp hy).1
    refine r_gname ⟨rfl, ?_⟩
    walk_at "r"
    refine ⟨_, some y, n, rfl, .int y, ?_⟩
    refine ⟨_, p.2, by rw [List.length_map, List.length_map, List.length_take, sizeLine_eq]; omega, Same.over p.1 hD, ?_⟩
    rw [upd_same, take_next hy, List.map_append, List.map_append]
    rfl
  · obtain ⟨s3, dA⟩ := p
    rw [List.length_map, List.take_length] at dA
    refine ⟨D, xs.map fun x => indexV (some x) n, rfl, SqL.of dA, ?_⟩
    have eall : (xs.map fun x => indexV (some x) n).all id = xs.all fun x => decide (0 ≤ x) && decide (x < n) := by rw [List.all_map]; rfl
    rw [eall]
    unfold setB at k
    cases c : xs.all fun x => decide (0 ≤ x) && decide (x < n) with
    | false =>
      rw [c, Bool.false_and] at k
      walk_at "r"
      exact k A (s1.trans s3)
    | true =>
      rw [c, Bool.true_and] at k
      walk_at "r"
      exact ⟨a, xs, rfl, AnyAt.same ha1 s3, hl, fun H2 s2 => k H2 ((s1.trans s3).trans s2)⟩
end
end Eld
set_option Elab.async false
set_option maxRecDepth 100000
set_option maxHeartbeats 4000000
set_option linter.all false
namespace Eld
open PySem L2
local macro_rules | `(tactic| walk_at "r1") => `(tactic| with_reducible first
  | refine r_seq ?_ | refine r_asgN ?_ | refine r_asg ?_ | refine r_gname ?_ | refine r_gsub ?_ | refine r_var rfl ?_ | refine r_c ?_ | refine r_op ?_ | refine r_un ?_ | refine r_u ?_ | refine r_i0 ?_ | refine r_cb ?_ | refine r_cons ?_ | refine r_nil ?_ | refine r_cl ?_ | refine r_fn rfl rfl ?_ | refine r_mt ?_
  | refine r_test ?_ | refine r_tb ?_ | refine r_bl ?_ | refine r_and ?_ | refine r_or ?_ | refine r_not ?_ | refine r_andV ?_ | refine r_orV ?_ | refine r_notV ?_ | refine r_ifX ?_ | refine r_ifs ?_ | refine r_chain ?_ | refine r_ret ?_ | refine r_next ?_ | refine r_drop ?_ | refine iteT ?_ | refine iteF ?_ | refine iteNT ?_ | refine iteNF ?_
  | refine r_int1 ?_ | refine r_boolB ?_ | refine r_eqI ?_ | refine r_neI ?_ | refine r_eqB ?_ | refine r_neB ?_ | refine r_eqS ?_ | refine r_neS ?_ | refine r_abs ?_ | refine r_max2 ?_ | refine r_min2 ?_ | refine r_yes ?_ | refine r_tup ?_ | refine r_sfld ?_ | refine r_m0 ?_ | refine r_m1 ?_ | refine r_lst ?_ | refine r_rng1 ?_ | refine r_rng2 ?_ | refine r_ixL (SqL.of (by assumption)) rfl ?_)
local macro_rules | `(tactic| walk_at "r") => `(tactic| repeat (first | walk_at "r1" | ((with_reducible refine r_var ?hv ?_); (case hv => rfl))))

/-! ## texts as trees -/
/-- values or stores in a row: a tuple or a list -/
structure Row where
  tup : Bool
  vals : List Int
  le : vals.length ≤ 1000
inductive Tx
  | skip
  | hole
  | set (n : Int) (r : Row)
  | draw (n p q x y : Int)
  | thn (a b : Tx)
  | iff (s : Row) (a b : Tx)
  | eith (a b : Tx)
  | whil (s : Row) (a : Tx)
def Row.obj (r : Row) : HO := if r.tup then .tup (r.vals.map V.int) else .lst (r.vals.map V.int)
def Row.At (H : Hp) (r : Row) (v : V) : Prop := ∃ c, v = .ref c ∧ H c = some r.obj
def Tx.At (H : Hp) : Tx → V → Prop
  | .skip, v => ∃ a, v = .ref a ∧ H a = some (.tup [.str "skip"])
  | .hole, v => ∃ a, v = .ref a ∧ H a = some (.tup [.str "hole"])
  | .set n r, v => ∃ a c, v = .ref a ∧ H a = some (.tup [.str "set", .int n, c]) ∧ r.At H c
  | .draw n p q x y, v => ∃ a c d, v = .ref a ∧ H a = some (.tup [.str "draw", .int n, .ref c, .ref d]) ∧ H c = some (.tup [.int p, .int q]) ∧ H d = some (.tup [.int x, .int y])
  | .thn t u, v => ∃ a c d, v = .ref a ∧ H a = some (.tup [.str "then", c, d]) ∧ Tx.At H t c ∧ Tx.At H u d
  | .iff s t u, v => ∃ a g c d, v = .ref a ∧ H a = some (.tup [.str "if", g, c, d]) ∧ s.At H g ∧ Tx.At H t c ∧ Tx.At H u d
  | .eith t u, v => ∃ a c d, v = .ref a ∧ H a = some (.tup [.str "either", c, d]) ∧ Tx.At H t c ∧ Tx.At H u d
  | .whil s t, v => ∃ a g c, v = .ref a ∧ H a = some (.tup [.str "while", g, c]) ∧ s.At H g ∧ Tx.At H t c
/-- any heap that keeps tuples and rows -/
theorem Tx.At.keep {H H' : Hp} (s : ∀ a o, (∃ xs, o = .tup xs) ∨ (∃ r : Row, o = r.obj) → H a = some o → H' a = some o) : ∀ {t : Tx} {v : V}, Tx.At H t v → Tx.At H' t v
  | .skip, _, h => by obtain ⟨a, e, g⟩ := h; exact ⟨a, e, s _ _ (.inl ⟨_, rfl⟩) g⟩
  | .hole, _, h => by obtain ⟨a, e, g⟩ := h; exact ⟨a, e, s _ _ (.inl ⟨_, rfl⟩) g⟩
  | .set n r, _, h => by obtain ⟨a, c, e, g, q, eq, gq⟩ := h; exact ⟨a, c, e, s _ _ (.inl ⟨_, rfl⟩) g, q, eq, s _ _ (.inr ⟨_, rfl⟩) gq⟩
  | .draw n p q x y, _, h => by obtain ⟨a, c, d, e, g, gc, gd⟩ := h; exact ⟨a, c, d, e, s _ _ (.inl ⟨_, rfl⟩) g, s _ _ (.inl ⟨_, rfl⟩) gc, s _ _ (.inl ⟨_, rfl⟩) gd⟩
  | .thn t u, _, h => by obtain ⟨a, c, d, e, g, ht, hu⟩ := h; exact ⟨a, c, d, e, s _ _ (.inl ⟨_, rfl⟩) g, Tx.At.keep s ht, Tx.At.keep s hu⟩
  | .iff r t u, _, h => by obtain ⟨a, q, c, d, e, g, ⟨z, ez, gz⟩, ht, hu⟩ := h; exact ⟨a, q, c, d, e, s _ _ (.inl ⟨_, rfl⟩) g, ⟨z, ez, s _ _ (.inr ⟨_, rfl⟩) gz⟩, Tx.At.keep s ht, Tx.At.keep s hu⟩
  | .eith t u, _, h => by obtain ⟨a, c, d, e, g, ht, hu⟩ := h; exact ⟨a, c, d, e, s _ _ (.inl ⟨_, rfl⟩) g, Tx.At.keep s ht, Tx.At.keep s hu⟩
  | .whil r t, _, h => by obtain ⟨a, q, c, e, g, ⟨z, ez, gz⟩, ht⟩ := h; exact ⟨a, q, c, e, s _ _ (.inl ⟨_, rfl⟩) g, ⟨z, ez, s _ _ (.inr ⟨_, rfl⟩) gz⟩, Tx.At.keep s ht⟩
theorem Tx.At.same {H H' : Hp} {t : Tx} {v : V} (h : Tx.At H t v) (s : Same H H') : Tx.At H' t v := Tx.At.keep (fun a o _ e => s a o e) h
theorem row_notBox (r : Row) (g m c : Int) (t : Bool) : r.obj ≠ .lst [.int g, .bl t, .int m, .int c] := by
  intro e
  unfold Row.obj at e
  split at e
  · cases e
  · match hv : r.vals with
    | [] => rw [hv] at e; cases e
    | [x] => rw [hv] at e; cases e
    | x :: y :: l => rw [hv] at e; cases e
theorem Tx.At.but {H H' : Hp} {b : Addr} {n : Nat} {t : Tx} {v : V} (h : Tx.At H t v) (hb : BoxAt H b n) (s : But b H H') : Tx.At H' t v := Tx.At.keep (fun a o k e => s a o (fun z => by
  obtain ⟨g, m, c, t, e2, _⟩ := hb
  subst z
  rw [e] at e2
  cases e2
  rcases k with ⟨xs, k⟩ | ⟨r, k⟩
  · cases k
  · exact row_notBox r g m c t k.symm) e) h
/-! what is asked of a text -/
def Tx.parts : Tx → Nat
  | .thn a b => a.parts + b.parts
  | .iff _ a b => 1 + (a.parts + b.parts)
  | .eith a b => 1 + (a.parts + b.parts)
  | .whil _ a => 1 + a.parts
  | _ => 1
def Tx.depth : Tx → Nat
  | .thn a b => max a.depth b.depth
  | .iff _ a b => max a.depth b.depth
  | .eith a b => max a.depth b.depth
  | .whil _ a => 1 + a.depth
  | _ => 0
def Tx.holes : Tx → Nat
  | .hole => 1
  | .thn a b => a.holes + b.holes
  | .iff _ a b => a.holes + b.holes
  | .eith a b => a.holes + b.holes
  | .whil _ a => a.holes
  | _ => 0
/-- all nodes, then too: what a walk over a text takes -/
def Tx.nodes : Tx → Nat
  | .thn a b => 1 + (a.nodes + b.nodes)
  | .iff _ a b => 1 + (a.nodes + b.nodes)
  | .eith a b => 1 + (a.nodes + b.nodes)
  | .whil _ a => 1 + a.nodes
  | _ => 1
def nameB (zs : List Int) (n : Int) : Bool := decide (0 ≤ n) && decide (n < zs.length)
/-- one node is a part over these sizes (many stores) -/
def Tx.own (zs : List Int) (many : Int) : Tx → Bool
  | .set n r => nameB zs n && (decide ((r.vals.length : Int) = many) && r.vals.all fun x => decide (0 ≤ x) && decide (x < zs.getD n.toNat 0))
  | .draw n p q x y => nameB zs n && (setB [p, q] (zs.getD n.toNat 0) && (([x, y].all fun i => decide (1 ≤ i) && decide (i ≤ 1000000)) && decide (Int.gcd x y = 1)))
  | .iff s _ _ => setB s.vals many
  | .whil s _ => setB s.vals many
  | _ => true
def Tx.good (zs : List Int) (many : Int) : Tx → Bool
  | .thn a b => a.good zs many && b.good zs many
  | .iff s a b => setB s.vals many && (a.good zs many && b.good zs many)
  | .eith a b => a.good zs many && b.good zs many
  | .whil s a => setB s.vals many && a.good zs many
  | t => t.own zs many
def holesV (zs : List Int) (many : Int) (t : Tx) : Option Int := if t.good zs many && (decide (t.parts ≤ 24) && decide (t.depth ≤ 4)) then some (t.holes : Int) else none
end Eld
set_option Elab.async false
set_option maxRecDepth 100000
set_option maxHeartbeats 4000000
set_option linter.all false
namespace Eld
open PySem L2
local macro_rules | `(tactic| walk_at "r1") => `(tactic| with_reducible first
  | refine r_seq ?_ | refine r_asgN ?_ | refine r_asg ?_ | refine r_gname ?_ | refine r_gsub ?_ | refine r_var rfl ?_ | refine r_c ?_ | refine r_op ?_ | refine r_un ?_ | refine r_u ?_ | refine r_i0 ?_ | refine r_cb ?_ | refine r_cons ?_ | refine r_nil ?_ | refine r_cl ?_ | refine r_fn rfl rfl ?_ | refine r_mt ?_
  | refine r_test ?_ | refine r_tb ?_ | refine r_bl ?_ | refine r_and ?_ | refine r_or ?_ | refine r_not ?_ | refine r_andV ?_ | refine r_orV ?_ | refine r_notV ?_ | refine r_ifX ?_ | refine r_ifs ?_ | refine r_chain ?_ | refine r_ret ?_ | refine r_next ?_ | refine r_drop ?_ | refine iteT ?_ | refine iteF ?_ | refine iteNT ?_ | refine iteNF ?_
  | refine r_int1 ?_ | refine r_boolB ?_ | refine r_eqI ?_ | refine r_neI ?_ | refine r_eqB ?_ | refine r_neB ?_ | refine r_eqS ?_ | refine r_neS ?_ | refine r_abs ?_ | refine r_max2 ?_ | refine r_min2 ?_ | refine r_yes ?_ | refine r_tup ?_ | refine r_sfld ?_ | refine r_m0 ?_ | refine r_m1 ?_ | refine r_lst ?_ | refine r_rng1 ?_ | refine r_rng2 ?_ | refine r_ixL (SqL.of (by assumption)) rfl ?_)
local macro_rules | `(tactic| walk_at "r") => `(tactic| repeat (first | walk_at "r1" | ((with_reducible refine r_var ?hv ?_); (case hv => rfl))))

/-! ## what a part is made of -/
def spIsName (C : Addr) (K : PySem.W.Frag) : Sp := fun vs H Q _ => ∃ p zs v o, vs = [.ref p, v] ∧ SpaceAt C K H p zs ∧ IntV K H v o ∧ Q (.bl (indexV o zs.length)) H
def spHoleCount (K : PySem.W.Frag) : Sp := fun vs H Q _ => ∃ v o, vs = [v] ∧ IntV K H v o ∧ Q (.bl (fromV o 1 3)) H
/-- name is one of the space's -/
def spIsPair (C : Addr) (K : PySem.W.Frag) : Sp := fun vs H Q _ => ∃ p zs n z a x y, vs = [.ref p, .int ((n : Nat) : Int), .ref a] ∧ SpaceAt C K H p zs ∧ zs[n]? = some z ∧ H a = some (.tup [.int x, .int y]) ∧ ∀ H', Same H H' → Q (.bl (setB [x, y] z)) H'
section
variable {P : Program} {w : World} {K : PySem.W.Frag} {mg : Str → Option Value} {base : Heap} {C : Addr}
theorem ok_is_hole_count {f : Addr} {fd : FuncData} (F : Fun K "is_hole_count" "is_hole_count" s_is_hole_count f fd) (Z : Zs mg) (d_is_from : DefD P w K mg base 2 "is_from" 3 [] byPlace (spFromV K)) : FnG P w K mg base CX0 3 f fd ["holes"] (spHoleCount K) := by
  refine okG F sc_is_hole_count (fun vs H Q E h => ?_) (fun cdv B up z H vs Q E hG hr h => ?_)
  · obtain ⟨v, o, rfl, _⟩ := h
    rfl
  obtain ⟨v, o, rfl, hv, k⟩ := h
  refine ⟨_, (pss_one (ps_ret (pd_pos d_is_from hG hr (by decide) (by rfl) (pa_cons (pv 0) (pa_cons pe_int (pa_cons (pe_gc (by rfl) Z.MOST_HOLES) pa_nil)))))), ?_⟩
  walk_at "r"
  exact ⟨v, o, 1, 3, rfl, hv, k⟩
theorem ok_is_name {f : Addr} {fd : FuncData} (F : Fun K "is_name" "is_name" s_is_name f fd) (Z : Zs mg) (S : Sc K mg C) (d_is_index : DefD P w K mg base 2 "is_index" 2 [] byPlace (spIndexV K)) : FnG P w K mg base CX0 3 f fd ["space", "value"] (spIsName C K) := by
  refine okG F sc_is_name (fun vs H Q E h => ?_) (fun cdv B up z H vs Q E hG hr h => ?_)
  · obtain ⟨p, zs, v, o, rfl, _⟩ := h
    rfl
  obtain ⟨p, zs, v, o, rfl, hp, hv, k⟩ := h
  refine ⟨_, (pss_one (ps_ret (pd_pos d_is_index hG hr (by decide) (by rfl) (pa_cons (pv 1) (pa_cons (pe_callB (show CallR _ _ (rLen K) from c_len) (by rfl) Z.len_ (by decide +kernel) (pa_cons (pe_fld (pv 0) rfl) pa_nil)) pa_nil))))), ?_⟩
  walk_at "r"
  obtain ⟨dx, tz, q, ts, h1, h2, h3, h4⟩ := hp
  refine ⟨_, rfl, p, C, dx, _, _, rfl, h1, S.cl, S.nS, spF_sizes _ _ _, ?_⟩
  walk_at "r"
  refine r_lenT h2 ?_
  rw [List.length_map]
  walk_at "r"
  exact ⟨v, o, _, rfl, hv, k⟩
theorem ok_is_pair {f : Addr} {fd : FuncData} (F : Fun K "is_pair" "is_pair" s_is_pair f fd) (Z : Zs mg) (S : Sc K mg C) (d_is_set_below : DefD P w K mg base 3 "is_set_below" 2 [] byPlace (spSetBelow K)) : FnG P w K mg base CX0 4 f fd ["space", "name", "value"] (spIsPair C K) := by
  refine okG F sc_is_pair (fun vs H Q E h => ?_) (fun cdv B up z H vs Q E hG hr h => ?_)
  · obtain ⟨p, zs, n, z, a, x, y, rfl, _⟩ := h
    rfl
  obtain ⟨p, zs, n, z, a, x, y, rfl, hp, hz, ha, k⟩ := h
  refine ⟨_, (pss_cons (ps_if (PW.pt (pw_or (pt_not (pt_val (pe_callB call_isi (by rfl) Z.isinstance_ (by decide +kernel) (pa_cons (pv 2) (pa_cons (pe_ty "tuple" (by rfl) Z.tuple_ (by decide +kernel)) pa_nil))))) (pw_or1 (pt_cmpR op_ne (pe_callB (show CallR _ _ (rLen K) from c_len) (by rfl) Z.len_ (by decide +kernel) (pa_cons (pv 2) pa_nil)) pe_int (nomark _))))) (pss_one (ps_ret pe_bl)) pss_nil)
  (pss_one (ps_ret (pd_pos d_is_set_below hG hr (by decide) (by rfl) (pa_cons (pv 2) (pa_cons (pe_ix (show IxR _ (rIxT K) from ix_tup) (pe_fld (pv 0) rfl) (pv 1) (fun _ _ => rfl)) pa_nil)))))), ?_⟩
  walk_at "r"
  refine r_isiB (b := true) (.base (.tup ha)) (by decide +kernel) ?_
  walk_at "r"
  refine r_lenAny (.inr ha) ?_
  walk_at "r"
  rw [show (!decide (V.int (([V.int x, V.int y] : List V).length : Nat) = V.int 2)) = false from by rw [decide_eq_true (show V.int (([V.int x, V.int y] : List V).length : Nat) = V.int 2 from rfl)]; rfl]
  walk_at "r"
  obtain ⟨dx, tz, q, ts, h1, h2, h3, h4⟩ := hp
  refine ⟨_, rfl, p, C, dx, _, _, rfl, h1, S.cl, S.nS, spF_sizes _ _ _, ?_⟩
  walk_at "r"
  refine r_ixT h2 (atI_nat (j := n) (by rw [List.getElem?_map, hz]; rfl)) ?_
  walk_at "r"
  exact ⟨a, [x, y], z, rfl, .inr ha, by show 2 ≤ 1000; decide, k⟩
end
end Eld
set_option Elab.async false
set_option maxRecDepth 100000
set_option maxHeartbeats 4000000
set_option linter.all false
namespace Eld
open PySem L2
local macro_rules | `(tactic| walk_at "r1") => `(tactic| with_reducible first
  | refine r_seq ?_ | refine r_asgN ?_ | refine r_asg ?_ | refine r_gname ?_ | refine r_gsub ?_ | refine r_var rfl ?_ | refine r_c ?_ | refine r_op ?_ | refine r_un ?_ | refine r_u ?_ | refine r_i0 ?_ | refine r_cb ?_ | refine r_cons ?_ | refine r_nil ?_ | refine r_cl ?_ | refine r_fn rfl rfl ?_ | refine r_mt ?_
  | refine r_test ?_ | refine r_tb ?_ | refine r_bl ?_ | refine r_and ?_ | refine r_or ?_ | refine r_not ?_ | refine r_andV ?_ | refine r_orV ?_ | refine r_notV ?_ | refine r_ifX ?_ | refine r_ifs ?_ | refine r_chain ?_ | refine r_ret ?_ | refine r_next ?_ | refine r_drop ?_ | refine iteT ?_ | refine iteF ?_ | refine iteNT ?_ | refine iteNF ?_
  | refine r_int1 ?_ | refine r_boolB ?_ | refine r_eqI ?_ | refine r_neI ?_ | refine r_eqB ?_ | refine r_neB ?_ | refine r_eqS ?_ | refine r_neS ?_ | refine r_abs ?_ | refine r_max2 ?_ | refine r_min2 ?_ | refine r_yes ?_ | refine r_tup ?_ | refine r_sfld ?_ | refine r_m0 ?_ | refine r_m1 ?_ | refine r_lst ?_ | refine r_rng1 ?_ | refine r_rng2 ?_ | refine r_ixL (SqL.of (by assumption)) rfl ?_)
local macro_rules | `(tactic| walk_at "r") => `(tactic| repeat (first | walk_at "r1" | ((with_reducible refine r_var ?hv ?_); (case hv => rfl))))

/-! ## a setting -/
theorem Row.At.any {H : Hp} {r : Row} {c : Addr} (h : H c = some r.obj) : AnyAt H c (r.vals.map V.int) := by
  unfold Row.obj at h
  cases e : r.tup with
  | true => rw [e] at h; exact .inr h
  | false => rw [e] at h; exact .inl h
def spIsSetting (C : Addr) (K : PySem.W.Frag) : Sp := fun vs H Q _ => ∃ (p : Addr) (zs : List Int) (n : Int) (a : Addr) (r : Row), vs = [.ref p, .int n, .ref a] ∧ SpaceAt C K H p zs ∧ H a = some r.obj ∧ ∀ H', Same H H' → Q (.bl (Tx.own zs ((allRows zs).length : Nat) (.set n r))) H'
section
variable {P : Program} {w : World} {K : PySem.W.Frag} {mg : Str → Option Value} {base : Heap} {C : Addr}
theorem ok_is_setting {f : Addr} {fd : FuncData} (F : Fun K "is_setting" "is_setting" s_is_setting f fd) (Z : Zs mg) (S : Sc K mg C) (d_is_name : DefD P w K mg base 3 "is_name" 2 [] byPlace (spIsName C K)) (d_is_list : DefD P w K mg base 1 "is_list" 1 [] byPlace (spListV K)) (d_is_index : DefD P w K mg base 2 "is_index" 2 [] byPlace (spIndexV K)) : FnG P w K mg base CX0 4 f fd ["space", "name", "values"] (spIsSetting C K) := by
  refine okG F sc_is_setting (fun vs H Q E h => ?_) (fun cdv B up z H vs Q E hG hr h => ?_)
  · obtain ⟨p, zs, n, a, r, rfl, _⟩ := h
    rfl
  obtain ⟨p, zs, n, a, r, rfl, hp, ha, k⟩ := h
  refine ⟨_, (pss_cons (ps_if (PW.pt (pw_or (pt_not (pt_val (pd_pos d_is_name hG hr (by decide) (by rfl) (pa_cons (pv 0) (pa_cons (pv 1) pa_nil))))) (pw_or (pt_not (pt_val (pd_pos d_is_list hG hr (by decide) (by rfl) (pa_cons (pv 2) pa_nil)))) (pw_or1 (pt_cmpR op_ne (pe_callB (show CallR _ _ (rLen K) from c_len) (by rfl) Z.len_ (by decide +kernel) (pa_cons (pv 2) pa_nil)) (pe_fld (pv 0) rfl) (nomark _)))))) (pss_one (ps_ret pe_bl)) pss_nil)
  (pss_one (ps_ret (pe_callB (cr_all rfl) (by rfl) Z.all_ (by decide +kernel) (pa_cons (pe_lc (own := [("value", 3)]) (tt := tYes) rfl sc_is_setting.nd (pi_or (pi_list (pv 2)) (pi_tup (pv 2))) (blkOk_by (N := ["space", "name", "values", "value"]) (sc := defScope s_is_setting) (by decide +kernel)) (fun _ _ _ _ _ => (pg_name (i := 3) sc_is_setting.nd rfl (by first | exact Or.inl rfl | exact Or.inr rfl))) (fun _ _ _ _ _ => pts_nil) (fun _ _ _ _ _ => (pd_pos d_is_index hG hr (by decide) (by rfl) (pa_cons (pv 3) (pa_cons (pe_ix (show IxR _ (rIxT K) from ix_tup) (show PE _ _ (tFld K (tVar 0) "sizes") from pe_fld (pv 0) rfl) (pv 1) (fun _ _ => rfl)) pa_nil))))) pa_nil))))), ?_⟩
  have hany := Row.At.any ha
  have hl := r.le
  walk_at "r"
  refine ⟨p, zs, .int n, some n, rfl, hp, .int n, ?_⟩
  unfold Tx.own nameB at k
  dsimp only at k
  refine ⟨decide (0 ≤ n) && decide (n < ((zs.length : Nat) : Int)), rfl, ?_⟩
  cases c : decide (0 ≤ n) && decide (n < ((zs.length : Nat) : Int)) with
  | false =>
    rw [c] at k
    simp only [Bool.false_and] at k
    walk_at "r"
    exact k H (Same.refl H)
  | true =>
    rw [c] at k
    simp only [Bool.true_and] at k
    rw [Bool.and_eq_true, decide_eq_true_eq, decide_eq_true_eq] at c
    obtain ⟨j, rfl⟩ := Int.eq_ofNat_of_zero_le c.1
    have jl : j < zs.length := by omega
    have hz : zs[j]? = some (zs[j]'jl) := List.getElem?_eq_getElem _
    have hgd : zs.getD (((j : Nat) : Int)).toNat 0 = zs[j]'jl := by
      rw [Int.toNat_natCast, List.getD_eq_getElem?_getD, hz]
      rfl
    rw [hgd] at k
    generalize zs[j]'jl = z0 at hz k
    walk_at "r"
    have hty : ∃ t, TyX K H (.ref a) t ∧ KB t ∧ isLT t = true := by
      rcases hany with e | e
      · exact ⟨_, .base (.lst e), .lst, by decide⟩
      · exact ⟨_, .base (.tup e), .tup, by decide⟩
    obtain ⟨t, ty, kd, et⟩ := hty
    refine ⟨.ref a, t, rfl, ty, kd, fun H1 s1 => ?_⟩
    rw [et]
    have ha1 := AnyAt.same hany s1
    obtain ⟨dx, tz, q, ts, h1, h2, h3, h4⟩ := hp.same s1
    walk_at "r"
    refine r_lenAny ha1 ?_
    rw [List.length_map]
    walk_at "r"
    refine ⟨_, rfl, p, C, dx, _, _, rfl, h1, S.cl, S.nN, spF_never _ _ _, ?_⟩
    walk_at "r"
    cases c2 : decide (((r.vals.length : Nat) : Int) = ((allRows zs).length : Nat)) with
    | false =>
      rw [c2, Bool.false_and] at k
      rw [decide_eq_false (show ¬ V.int ((r.vals.length : Nat) : Int) = V.int ((allRows zs).length : Nat) from fun e => by
        have := of_decide_eq_false c2
        exact this (V.int.inj e))]
      walk_at "r"
      exact k H1 s1
    | true =>
      rw [c2, Bool.true_and] at k
      rw [decide_eq_true (show V.int ((r.vals.length : Nat) : Int) = V.int ((allRows zs).length : Nat) from by rw [of_decide_eq_true c2])]
      walk_at "r"
      refine r_lc ?_
      refine r_iAny (fun q h => r_var rfl h) ha1 fun I Ok SI okI => fun D hD => ?_
      refine it_any SI (fun i A => Same H1 A ∧ A D = some (.lst (((r.vals.take i).map fun x => indexV (some x) z0).map V.bl))) ⟨Same.upd_new hD, upd_same⟩ (fun i A _ p => okI _ p.1) (fun i x A hx p => ?_) (fun A p => ?_)
      · rw [List.getElem?_map] at hx
        obtain ⟨y, hy, rfl⟩ := Option.map_eq_some_iff.mp hx
        have il : i < r.vals.length := (List.getElem?_eq_some_iff.mp hy).1
        obtain ⟨sA, dA⟩ := p
        refine r_gname ⟨rfl, ?_⟩
        walk_at "r"
        refine ⟨_, rfl, p, C, dx, _, _, rfl, sA _ _ h1, S.cl, S.nS, spF_sizes _ _ _, ?_⟩
        walk_at "r"
        refine r_ixT (h2.same sA) (atI_nat (j := j) (by rw [List.getElem?_map, hz]; rfl)) ?_
        walk_at "r"
        refine ⟨_, some y, z0, rfl, .int y, ?_⟩
        refine ⟨_, dA, by rw [List.length_map, List.length_map, List.length_take, sizeLine_eq]; omega, Same.over sA hD, ?_⟩
        rw [upd_same, take_next hy, List.map_append, List.map_append]
        rfl
      · obtain ⟨s3, dA⟩ := p
        rw [List.length_map, List.take_length] at dA
        refine ⟨D, r.vals.map fun x => indexV (some x) z0, rfl, SqL.of dA, ?_⟩
        have eall : (r.vals.map fun x => indexV (some x) z0).all id = r.vals.all fun x => decide (0 ≤ x) && decide (x < z0) := by rw [List.all_map]; rfl
        rw [eall]
        exact k A (s1.trans s3)
end
end Eld
set_option Elab.async false
set_option maxRecDepth 100000
set_option maxHeartbeats 4000000
set_option linter.all false
namespace Eld
open PySem L2
local macro_rules | `(tactic| walk_at "r1") => `(tactic| with_reducible first
  | refine r_seq ?_ | refine r_asgN ?_ | refine r_asg ?_ | refine r_gname ?_ | refine r_gsub ?_ | refine r_var rfl ?_ | refine r_c ?_ | refine r_op ?_ | refine r_un ?_ | refine r_u ?_ | refine r_i0 ?_ | refine r_cb ?_ | refine r_cons ?_ | refine r_nil ?_ | refine r_cl ?_ | refine r_fn rfl rfl ?_ | refine r_mt ?_
  | refine r_test ?_ | refine r_tb ?_ | refine r_bl ?_ | refine r_and ?_ | refine r_or ?_ | refine r_not ?_ | refine r_andV ?_ | refine r_orV ?_ | refine r_notV ?_ | refine r_ifX ?_ | refine r_ifs ?_ | refine r_chain ?_ | refine r_ret ?_ | refine r_next ?_ | refine r_drop ?_ | refine iteT ?_ | refine iteF ?_ | refine iteNT ?_ | refine iteNF ?_
  | refine r_int1 ?_ | refine r_boolB ?_ | refine r_eqI ?_ | refine r_neI ?_ | refine r_eqB ?_ | refine r_neB ?_ | refine r_eqS ?_ | refine r_neS ?_ | refine r_abs ?_ | refine r_max2 ?_ | refine r_min2 ?_ | refine r_yes ?_ | refine r_tup ?_ | refine r_sfld ?_ | refine r_m0 ?_ | refine r_m1 ?_ | refine r_lst ?_ | refine r_rng1 ?_ | refine r_rng2 ?_ | refine r_ixL (SqL.of (by assumption)) rfl ?_)
local macro_rules | `(tactic| walk_at "r") => `(tactic| repeat (first | walk_at "r1" | ((with_reducible refine r_var ?hv ?_); (case hv => rfl))))

/-! ## a weighing -/
def weighB (x y : Int) : Bool := (([x, y].all fun i => decide (1 ≤ i) && decide (i ≤ 1000000)) && decide (Int.gcd x y = 1))
def spIsWeighing (K : PySem.W.Frag) : Sp := fun vs H Q _ => ∃ (a : Addr) (x y : Int), vs = [.ref a] ∧ H a = some (.tup ([x, y].map V.int)) ∧ ∀ H', Same H H' → Q (.bl (weighB x y)) H'
section
variable {P : Program} {w : World} {K : PySem.W.Frag} {mg : Str → Option Value} {base : Heap} {C : Addr}
theorem ok_is_weighing {f : Addr} {fd : FuncData} (F : Fun K "is_weighing" "is_weighing" s_is_weighing f fd) (Z : Zs mg) (d_is_from : DefD P w K mg base 2 "is_from" 3 [] byPlace (spFromV K)) : FnG P w K mg base CX0 3 f fd ["value"] (spIsWeighing K) := by
  refine okG F sc_is_weighing (fun vs H Q E h => ?_) (fun cdv B up z H vs Q E hG hr h => ?_)
  · obtain ⟨a, x, y, rfl, _⟩ := h
    rfl
  obtain ⟨a, x, y, rfl, ha, k⟩ := h
  refine ⟨_, (pss_cons (ps_if (PW.pt (pw_or (pt_not (pt_val (pe_callB call_isi (by rfl) Z.isinstance_ (by decide +kernel) (pa_cons (pv 0) (pa_cons (pe_ty "tuple" (by rfl) Z.tuple_ (by decide +kernel)) pa_nil))))) (pw_or1 (pt_cmpR op_ne (pe_callB (show CallR _ _ (rLen K) from c_len) (by rfl) Z.len_ (by decide +kernel) (pa_cons (pv 0) pa_nil)) pe_int (nomark _))))) (pss_one (ps_ret pe_bl)) pss_nil)
  (pss_one (ps_ret (pe_and (pe_callB (cr_all rfl) (by rfl) Z.all_ (by decide +kernel) (pa_cons (pe_lc (own := [("weight", 1)]) (tt := tYes) rfl sc_is_weighing.nd (pi_tup (pv 0)) (blkOk_by (N := ["value", "weight"]) (sc := defScope s_is_weighing) (by decide +kernel)) (fun _ _ _ _ _ => (pg_name (i := 1) sc_is_weighing.nd rfl (by first | exact Or.inl rfl | exact Or.inr rfl))) (fun _ _ _ _ _ => pts_nil) (fun _ _ _ _ _ => (pd_pos d_is_from hG hr (by decide) (by rfl) (pa_cons (pv 1) (pa_cons pe_int (pa_cons (pe_gc (by rfl) Z.MOST_WEIGHT) pa_nil)))))) pa_nil)) (pe_one (pe_cmpR op_eq (pe_callBfun cr_gcd (by rfl) Z.gcd_ (pa_cons (pe_ix (show IxR _ (rIxT K) from ix_tup) (pv 0) pe_int (fun _ _ => rfl)) (pa_cons (pe_ix (show IxR _ (rIxT K) from ix_tup) (pv 0) pe_int (fun _ _ => rfl)) pa_nil))) pe_int (nomark _))))))), ?_⟩
  walk_at "r"
  refine r_isiB (b := true) (.base (.tup ha)) (by decide +kernel) ?_
  walk_at "r"
  refine r_lenAny (.inr ha) ?_
  rw [List.length_map]
  walk_at "r"
  rw [show (!decide (V.int (([x, y] : List Int).length : Nat) = V.int 2)) = false from by rw [decide_eq_true (show V.int (([x, y] : List Int).length : Nat) = V.int 2 from rfl)]; rfl]
  walk_at "r"
  refine r_lc ?_
  walk_at "r"
  refine ⟨_, rfl, a, rfl, ⟨_, SqT.of ha⟩, fun D hD => ?_⟩
  refine it_tup (xs := [x, y].map V.int) (fun i A => Same H A ∧ A D = some (.lst ((([x, y].take i).map fun i => fromV (some i) 1 1000000).map V.bl))) ⟨Same.upd_new hD, upd_same⟩ (fun i A _ p => SqT.of (p.1 _ _ ha)) (fun i v A hx p => ?_) (fun A p => ?_)
  · rw [List.getElem?_map] at hx
    obtain ⟨y0, hy, rfl⟩ := Option.map_eq_some_iff.mp hx
    have il : i < 2 := (List.getElem?_eq_some_iff.mp hy).1
    obtain ⟨sA, dA⟩ := p
    refine r_gname ⟨rfl, ?_⟩
    walk_at "r"
    refine ⟨_, some y0, 1, 1000000, rfl, .int y0, ?_⟩
    refine ⟨_, dA, by rw [List.length_map, List.length_map, List.length_take, sizeLine_eq]; omega, Same.over sA hD, ?_⟩
    rw [upd_same, take_next hy, List.map_append, List.map_append]
    rfl
  · obtain ⟨s3, dA⟩ := p
    rw [List.length_map, List.take_length] at dA
    refine ⟨D, [x, y].map fun i => fromV (some i) 1 1000000, rfl, SqL.of dA, ?_⟩
    unfold weighB at k
    have eall : ([x, y].map fun i => fromV (some i) 1 1000000).all id = [x, y].all fun i => decide (1 ≤ i) && decide (i ≤ 1000000) := by rw [List.all_map]; rfl
    rw [eall]
    cases c : [x, y].all fun i => decide (1 ≤ i) && decide (i ≤ 1000000) with
    | false =>
      rw [c, Bool.false_and] at k
      walk_at "r"
      exact k A s3
    | true =>
      rw [c, Bool.true_and] at k
      walk_at "r"
      refine r_ixT (SqT.of (s3 _ _ ha)) (atI_nat (j := 0) rfl) ?_
      walk_at "r"
      refine r_ixT (SqT.of (s3 _ _ ha)) (atI_nat (j := 1) rfl) ?_
      refine ⟨x, y, rfl, ?_⟩
      walk_at "r"
      have e : decide (V.int ((Nat.gcd x.natAbs y.natAbs : Nat) : Int) = V.int 1) = decide (Int.gcd x y = 1) := by
        refine decide_eq_decide.mpr ⟨fun h => ?_, fun h => ?_⟩
        · have := V.int.inj h
          unfold Int.gcd
          omega
        · unfold Int.gcd at h
          rw [h]
          rfl
      rw [e]
      exact k A s3
end
end Eld
set_option Elab.async false
set_option maxRecDepth 100000
set_option maxHeartbeats 4000000
set_option linter.all false
namespace Eld
open PySem L2
local macro_rules | `(tactic| walk_at "r1") => `(tactic| with_reducible first
  | refine r_seq ?_ | refine r_asgN ?_ | refine r_asg ?_ | refine r_gname ?_ | refine r_gsub ?_ | refine r_var rfl ?_ | refine r_c ?_ | refine r_op ?_ | refine r_un ?_ | refine r_u ?_ | refine r_i0 ?_ | refine r_cb ?_ | refine r_cons ?_ | refine r_nil ?_ | refine r_cl ?_ | refine r_fn rfl rfl ?_ | refine r_mt ?_
  | refine r_test ?_ | refine r_tb ?_ | refine r_bl ?_ | refine r_and ?_ | refine r_or ?_ | refine r_not ?_ | refine r_andV ?_ | refine r_orV ?_ | refine r_notV ?_ | refine r_ifX ?_ | refine r_ifs ?_ | refine r_chain ?_ | refine r_ret ?_ | refine r_next ?_ | refine r_drop ?_ | refine iteT ?_ | refine iteF ?_ | refine iteNT ?_ | refine iteNF ?_
  | refine r_int1 ?_ | refine r_boolB ?_ | refine r_eqI ?_ | refine r_neI ?_ | refine r_eqB ?_ | refine r_neB ?_ | refine r_eqS ?_ | refine r_neS ?_ | refine r_abs ?_ | refine r_max2 ?_ | refine r_min2 ?_ | refine r_yes ?_ | refine r_tup ?_ | refine r_sfld ?_ | refine r_m0 ?_ | refine r_m1 ?_ | refine r_lst ?_ | refine r_rng1 ?_ | refine r_rng2 ?_ | refine r_ixL (SqL.of (by assumption)) rfl ?_)
local macro_rules | `(tactic| walk_at "r") => `(tactic| repeat (first | walk_at "r1" | ((with_reducible refine r_var ?hv ?_); (case hv => rfl))))

/-! ## the parts within a part -/
def Tx.kind : Tx → Str
  | .skip => "skip" | .hole => "hole" | .set _ _ => "set" | .draw _ _ _ _ _ => "draw" | .thn _ _ => "then" | .iff _ _ _ => "if" | .eith _ _ => "either" | .whil _ _ => "while"
def Tx.len : Tx → Nat
  | .skip => 1 | .hole => 1 | .set _ _ => 3 | .draw _ _ _ _ _ => 4 | .thn _ _ => 3 | .iff _ _ _ => 4 | .eith _ _ => 3 | .whil _ _ => 3
def Tx.frm : Tx → Nat
  | .skip => 1 | .hole => 1 | .set _ _ => 3 | .draw _ _ _ _ _ => 4 | .thn _ _ => 1 | .iff _ _ _ => 2 | .eith _ _ => 1 | .whil _ _ => 2
def Tx.kids : Tx → List Tx
  | .thn a b => [a, b] | .iff _ a b => [a, b] | .eith a b => [a, b] | .whil _ a => [a] | _ => []
def Tx.withKids : Tx → List Tx → Tx
  | .thn _ _, [x, y] => .thn x y
  | .iff s _ _, [x, y] => .iff s x y
  | .eith _ _, [x, y] => .eith x y
  | .whil s _, [x] => .whil s x
  | t, _ => t
def KidsAt (H : Hp) : List Tx → List V → Prop
  | [], [] => True
  | t :: ts, v :: vs => Tx.At H t v ∧ KidsAt H ts vs
  | _, _ => False
theorem KidsAt.len {H : Hp} : ∀ {ts : List Tx} {vs : List V}, KidsAt H ts vs → ts.length = vs.length
  | [], [], _ => rfl
  | t :: ts, v :: vs, h => by rw [List.length_cons, List.length_cons, KidsAt.len h.2]
  | [], _ :: _, h => h.elim
  | _ :: _, [], h => h.elim
theorem KidsAt.get {H : Hp} : ∀ {ts : List Tx} {vs : List V} {i : Nat} {v : V}, KidsAt H ts vs → vs[i]? = some v → ∃ t, ts[i]? = some t ∧ Tx.At H t v
  | t :: ts, v :: vs, 0, _, h, e => by cases e; exact ⟨t, rfl, h.1⟩
  | t :: ts, v :: vs, i + 1, _, h, e => KidsAt.get (ts := ts) (vs := vs) (i := i) h.2 e
  | [], [], _, _, _, e => by cases e
  | [], _ :: _, _, _, h, _ => h.elim
  | _ :: _, [], _, _, h, _ => h.elim
theorem KidsAt.same {H H' : Hp} (s : Same H H') : ∀ {ts : List Tx} {vs : List V}, KidsAt H ts vs → KidsAt H' ts vs
  | [], [], _ => trivial
  | t :: ts, v :: vs, h => ⟨h.1.same s, KidsAt.same s h.2⟩
  | [], _ :: _, h => h.elim
  | _ :: _, [], h => h.elim
theorem KidsAt.push {H : Hp} {t : Tx} {v : V} (h2 : Tx.At H t v) : ∀ {ts : List Tx} {vs : List V}, KidsAt H ts vs → KidsAt H (ts ++ [t]) (vs ++ [v])
  | [], [], _ => ⟨h2, trivial⟩
  | _ :: _, _ :: _, h => ⟨h.1, KidsAt.push h2 h.2⟩
  | [], _ :: _, h => h.elim
  | _ :: _, [], h => h.elim
theorem KidsAt.set {H : Hp} {t : Tx} {v : V} (h2 : Tx.At H t v) : ∀ {ts : List Tx} {vs : List V} (i : Nat), KidsAt H ts vs → KidsAt H (ts.set i t) (vs.set i v)
  | [], [], _, _ => trivial
  | _ :: _, _ :: _, 0, h => ⟨h2, h.2⟩
  | _ :: _, _ :: _, i + 1, h => ⟨h.1, KidsAt.set h2 i h.2⟩
  | [], _ :: _, _, h => h.elim
  | _ :: _, [], _, h => h.elim
theorem KidsAt.append {H : Hp} : ∀ {ts ts' : List Tx} {vs vs' : List V}, KidsAt H ts vs → KidsAt H ts' vs' → KidsAt H (ts ++ ts') (vs ++ vs')
  | [], _, [], _, _, h2 => h2
  | _ :: _, _, _ :: _, _, h, h2 => ⟨h.1, KidsAt.append h.2 h2⟩
  | [], _, _ :: _, _, h, _ => h.elim
  | _ :: _, _, [], _, h, _ => h.elim
/-- a part's tuple: its kind, what is its own, its parts; and what has other parts -/
theorem Tx.At.view {H : Hp} {t : Tx} {v : V} (h : Tx.At H t v) : ∃ a hd ks, v = .ref a ∧ H a = some (.tup (.str t.kind :: (hd ++ ks))) ∧ hd.length + 1 = t.frm ∧ KidsAt H t.kids ks ∧ t.frm + t.kids.length = t.len ∧
    ∀ (H' : Hp) (p : Addr) (ts' : List Tx) (ks' : List V), Same H H' → H' p = some (.tup (.str t.kind :: (hd ++ ks'))) → ts'.length = t.kids.length → KidsAt H' ts' ks' → Tx.At H' (t.withKids ts') (.ref p) := by
  cases t with
  | skip => obtain ⟨a, rfl, g⟩ := h; exact ⟨a, [], [], rfl, g, rfl, trivial, rfl, fun H' p ts' ks' s e l k => by
      match ts', ks', l, k with
      | [], [], _, _ => exact ⟨p, rfl, e⟩⟩
  | hole => obtain ⟨a, rfl, g⟩ := h; exact ⟨a, [], [], rfl, g, rfl, trivial, rfl, fun H' p ts' ks' s e l k => by
      match ts', ks', l, k with
      | [], [], _, _ => exact ⟨p, rfl, e⟩⟩
  | set n r => obtain ⟨a, c, rfl, g, q, rfl, gq⟩ := h; exact ⟨a, [.int n, .ref q], [], rfl, g, rfl, trivial, rfl, fun H' p ts' ks' s e l k => by
      match ts', ks', l, k with
      | [], [], _, _ => exact ⟨p, _, rfl, e, q, rfl, s _ _ gq⟩⟩
  | draw n p q x y => obtain ⟨a, c, d, rfl, g, gc, gd⟩ := h; exact ⟨a, [.int n, .ref c, .ref d], [], rfl, g, rfl, trivial, rfl, fun H' p ts' ks' s e l k => by
      match ts', ks', l, k with
      | [], [], _, _ => exact ⟨p, _, _, rfl, e, s _ _ gc, s _ _ gd⟩⟩
  | thn t u => obtain ⟨a, c, d, rfl, g, ht, hu⟩ := h; exact ⟨a, [], [c, d], rfl, g, rfl, ⟨ht, hu, trivial⟩, rfl, fun H' p ts' ks' s e l k => by
      match ts', ks', l, k with
      | [x, y], [c', d'], _, k => exact ⟨p, c', d', rfl, e, k.1, k.2.1⟩⟩
  | iff r t u => obtain ⟨a, q, c, d, rfl, g, ⟨z, rfl, gz⟩, ht, hu⟩ := h; exact ⟨a, [.ref z], [c, d], rfl, g, rfl, ⟨ht, hu, trivial⟩, rfl, fun H' p ts' ks' s e l k => by
      match ts', ks', l, k with
      | [x, y], [c', d'], _, k => exact ⟨p, _, c', d', rfl, e, ⟨z, rfl, s _ _ gz⟩, k.1, k.2.1⟩⟩
  | eith t u => obtain ⟨a, c, d, rfl, g, ht, hu⟩ := h; exact ⟨a, [], [c, d], rfl, g, rfl, ⟨ht, hu, trivial⟩, rfl, fun H' p ts' ks' s e l k => by
      match ts', ks', l, k with
      | [x, y], [c', d'], _, k => exact ⟨p, c', d', rfl, e, k.1, k.2.1⟩⟩
  | whil r t => obtain ⟨a, q, c, rfl, g, ⟨z, rfl, gz⟩, ht⟩ := h; exact ⟨a, [.ref z], [c], rfl, g, rfl, ⟨ht, trivial⟩, rfl, fun H' p ts' ks' s e l k => by
      match ts', ks', l, k with
      | [x], [c'], _, k => exact ⟨p, _, c', rfl, e, ⟨z, rfl, s _ _ gz⟩, k.1⟩⟩
/-- what the top has written of texts -/
structure Ks (K : PySem.W.Frag) (w : World) (mg : Str → Option Value) (la pa : Addr) : Prop where
  LENGTHS : ∃ u, mg "LENGTHS" = some u ∧ RelV (.ref la) u
  PARTS_FROM : ∃ u, mg "PARTS_FROM" = some u ∧ RelV (.ref pa) u
  ltab : KTab K w la
  lget : ∀ t : Tx, KGet K la t.kind (some (.int (t.len : Nat)))
  pdct : ∀ t : Tx, KDct K w pa t.kind (.int (t.frm : Nat))
def spIsPart (C : Addr) (K : PySem.W.Frag) : Sp := fun vs H Q _ => ∃ (p : Addr) (zs : List Int) (v : V) (t : Tx), vs = [.ref p, v] ∧ SpaceAt C K H p zs ∧ Tx.At H t v ∧ ∀ H', Same H H' → Q (.bl (t.own zs ((allRows zs).length : Nat))) H'
def spChildren : Sp := fun vs H Q _ => ∃ (v : V) (t : Tx), vs = [v] ∧ Tx.At H t v ∧ ∀ H' q ks, Same H H' → H q = none → H' q = some (.tup ks) → KidsAt H' t.kids ks → Q (.ref q) H'
theorem r_sl {r : V → Option Int → Option Int → Hp → VK → Prop} {te : TE} {tl th : TO} {σ : L2.St} {H : Hp} {Q : VK} (h : te σ H fun x H1 => tl σ H1 fun l H2 => th σ H2 fun u H3 => r x l u H3 Q) : L2.tSl r te tl th σ H Q := h
theorem r_it {K : PySem.W.Frag} {tl : TE} {σ : L2.St} {H : Hp} {R : It → Hp → Prop} (h : tl σ H fun x H1 => ∃ a, x = .ref a ∧ (∃ xs, SqT K H1 a xs) ∧ R (Itt K a) H1) : iTup K tl σ H R := h
theorem frm_cut {x : V} {hd ks : List V} {n : Nat} (h : hd.length + 1 = n) : cutV (x :: (hd ++ ks)) (some ((n : Nat) : Int)) none = ks := by
  unfold cutV
  rw [HT.sIx_none, HT.sIx_nat, List.length_cons, List.length_append, Nat.min_eq_left (by omega), ← h, List.drop_succ_cons, List.drop_left]
  exact List.take_of_length_le (by omega)
theorem frm_cut2 {x : V} {hd ks : List V} {n : Nat} (h : hd.length + 1 = n) : cutV (x :: (hd ++ ks)) none (some ((n : Nat) : Int)) = x :: hd := by
  unfold cutV
  rw [HT.sIx_none, HT.sIx_nat, List.length_cons, List.length_append, Nat.min_eq_left (by omega), List.drop_zero, ← h, Nat.sub_zero, List.take_succ_cons, List.take_left]
section
variable {P : Program} {w : World} {K : PySem.W.Frag} {mg : Str → Option Value} {base : Heap} {C la pa : Addr}
theorem ok_children {f : Addr} {fd : FuncData} (F : Fun K "children" "children" s_children f fd) (KS : Ks K w mg la pa) : FnG P w K mg base CX0 1 f fd ["part"] spChildren := by
  refine okG F sc_children (fun vs H Q E h => ?_) (fun cdv B up z H vs Q E hG hr h => ?_)
  · obtain ⟨v, t, rfl, _⟩ := h
    rfl
  obtain ⟨v, t, rfl, ht, k⟩ := h
  refine ⟨_, (pss_one (ps_ret (pe_slice sl_tupA (pv 0) (po_some (pe_ix (show IxR _ (rIxD K w) from ix_kdict) (pe_gc (by rfl) KS.PARTS_FROM) (pe_ix (show IxR _ (rIxT K) from ix_tup) (pv 0) pe_int (fun _ _ => rfl)) (fun _ _ => rfl))) po_none))), ?_⟩
  obtain ⟨a, hd, ks, rfl, ha, hl, hk, -, -⟩ := ht.view
  walk_at "r"
  refine r_sl ?_
  walk_at "r"
  refine ⟨_, rfl, ?_⟩
  walk_at "r"
  refine r_ixT (SqT.of ha) (atI_nat (j := 0) rfl) ?_
  refine ⟨pa, _, _, rfl, rfl, KS.pdct t, _, rfl, a, _, rfl, SqT.of ha, fun e => ?_, fun _ p hp => ?_⟩
  · rw [HT.sIx_nat, List.length_cons, List.length_append] at e
    have := e.1
    omega
  · rw [frm_cut hl]
    exact k _ p ks (Same.upd_new hp) hp upd_same (KidsAt.same (Same.upd_new hp) hk)
theorem ok_is_part {f : Addr} {fd : FuncData} (F : Fun K "is_part" "is_part" s_is_part f fd) (Z : Zs mg) (S : Sc K mg C) (KS : Ks K w mg la pa) (d_is_name : DefD P w K mg base 3 "is_name" 2 [] byPlace (spIsName C K)) (d_is_setting : DefD P w K mg base 4 "is_setting" 3 [] byPlace (spIsSetting C K)) (d_is_pair : DefD P w K mg base 4 "is_pair" 3 [] byPlace (spIsPair C K)) (d_is_weighing : DefD P w K mg base 3 "is_weighing" 1 [] byPlace (spIsWeighing K)) (d_is_set_below : DefD P w K mg base 3 "is_set_below" 2 [] byPlace (spSetBelow K)) : FnG P w K mg base CX0 5 f fd ["space", "value"] (spIsPart C K) := by
  refine okG F sc_is_part (fun vs H Q E h => ?_) (fun cdv B up z H vs Q E hG hr h => ?_)
  · obtain ⟨p, zs, v, t, rfl, _⟩ := h
    rfl
  obtain ⟨p, zs, v, t, rfl, hp, ht, k⟩ := h
  refine ⟨_, (pss_cons (ps_if (PW.pt (pw_or (pt_not (pt_val (pe_callB call_isi (by rfl) Z.isinstance_ (by decide +kernel) (pa_cons (pv 1) (pa_cons (pe_ty "tuple" (by rfl) Z.tuple_ (by decide +kernel)) pa_nil))))) (pw_or (pt_cmpR op_eq (pe_callB (show CallR _ _ (rLen K) from c_len) (by rfl) Z.len_ (by decide +kernel) (pa_cons (pv 1) pa_nil)) pe_int (nomark _)) (pw_or1 (pt_not (pt_val (pe_callB call_isi (by rfl) Z.isinstance_ (by decide +kernel) (pa_cons (pe_ix (show IxR _ (rIxT K) from ix_tup) (pv 1) pe_int (fun _ _ => rfl)) (pa_cons (pe_ty "str" (by rfl) Z.str_ (by decide +kernel)) pa_nil))))))))) (pss_one (ps_ret pe_bl)) pss_nil)
  (pss_cons (ps_set (i := 2) sc_is_part.nd rfl (by first | exact Or.inl rfl | exact Or.inr rfl) (pe_ix (show IxR _ (rIxT K) from ix_tup) (pv 1) pe_int (fun _ _ => rfl)))
  (pss_cons (ps_if (pt_cmpR op_ne (pe_kget2 (pe_gc (by rfl) KS.LENGTHS) (pv 2) pe_int ⟨by rfl, by rfl, by rfl, by rfl⟩) (pe_callB (show CallR _ _ (rLen K) from c_len) (by rfl) Z.len_ (by decide +kernel) (pa_cons (pv 1) pa_nil)) (nomark _)) (pss_one (ps_ret pe_bl)) pss_nil)
  (pss_cons (ps_if (pt_cmpR op_eq (pv 2) pe_str (nomark _)) (pss_one (ps_ret (pd_pos d_is_setting hG hr (by decide) (by rfl) (pa_cons (pv 0) (pa_cons (pe_ix (show IxR _ (rIxT K) from ix_tup) (pv 1) pe_int (fun _ _ => rfl)) (pa_cons (pe_ix (show IxR _ (rIxT K) from ix_tup) (pv 1) pe_int (fun _ _ => rfl)) pa_nil)))))) pss_nil)
  (pss_cons (ps_if (pt_cmpR op_eq (pv 2) pe_str (nomark _)) (pss_one (ps_ret (pe_and (pd_pos d_is_name hG hr (by decide) (by rfl) (pa_cons (pv 0) (pa_cons (pe_ix (show IxR _ (rIxT K) from ix_tup) (pv 1) pe_int (fun _ _ => rfl)) pa_nil))) (pe_and (pd_pos d_is_pair hG hr (by decide) (by rfl) (pa_cons (pv 0) (pa_cons (pe_ix (show IxR _ (rIxT K) from ix_tup) (pv 1) pe_int (fun _ _ => rfl)) (pa_cons (pe_ix (show IxR _ (rIxT K) from ix_tup) (pv 1) pe_int (fun _ _ => rfl)) pa_nil)))) (pe_one (pd_pos d_is_weighing hG hr (by decide) (by rfl) (pa_cons (pe_ix (show IxR _ (rIxT K) from ix_tup) (pv 1) pe_int (fun _ _ => rfl)) pa_nil))))))) pss_nil)
  (pss_cons (ps_if (PW.pt (pw_or (pt_cmpR op_eq (pv 2) pe_str (nomark _)) (pw_or1 (pt_cmpR op_eq (pv 2) pe_str (nomark _))))) (pss_one (ps_ret (pd_pos d_is_set_below hG hr (by decide) (by rfl) (pa_cons (pe_ix (show IxR _ (rIxT K) from ix_tup) (pv 1) pe_int (fun _ _ => rfl)) (pa_cons (pe_fld (pv 0) rfl) pa_nil))))) pss_nil)
  (pss_one (ps_ret pe_bl)))))))), ?_⟩
  walk_at "r"
  obtain ⟨a, hd, ks, rfl, ha, hl, hk, hlen, -⟩ := ht.view
  refine r_isiB (b := true) (.base (.tup ha)) (by decide +kernel) ?_
  walk_at "r"
  refine r_lenT (SqT.of ha) ?_
  walk_at "r"
  rw [decide_eq_false (show ¬ V.int (((V.str t.kind :: (hd ++ ks)).length : Nat) : Int) = V.int 0 from fun e => by have := V.int.inj e; rw [List.length_cons] at this; omega)]
  walk_at "r"
  refine r_ixT (SqT.of ha) (atI_nat (j := 0) rfl) ?_
  walk_at "r"
  refine r_isiB (b := true) (.base (.str _)) (by decide +kernel) ?_
  walk_at "r"
  refine r_ixT (SqT.of ha) (atI_nat (j := 0) rfl) ?_
  walk_at "r"
  refine ⟨la, rfl, KS.ltab, ?_⟩
  walk_at "r"
  refine ⟨_, _, rfl, KS.lget t, ?_⟩
  walk_at "r"
  refine r_lenT (SqT.of ha) ?_
  walk_at "r"
  have el : (V.str t.kind :: (hd ++ ks)).length = t.len := by
    rw [List.length_cons, List.length_append, ← hlen, ← hl, hk.len]
    omega
  rw [el]
  show rNe (.int (t.len : Nat)) (.int (t.len : Nat)) H _
  walk_at "r"
  rw [decide_eq_true (rfl : V.int ((t.len : Nat) : Int) = V.int ((t.len : Nat) : Int))]
  walk_at "r"
  have kn : ∀ {x y : Str}, ¬ x = y → decide (V.str x = V.str y) = false := fun h => decide_eq_false fun e => h (V.str.inj e)
  cases t with
  | set n r =>
    obtain ⟨a', c, e, g, q, rfl, gq⟩ := ht
    cases e
    rw [decide_eq_true (show V.str (Tx.set n r).kind = V.str ("set" : Str) from rfl)]
    walk_at "r"
    refine r_ixT (SqT.of g) (atI_nat (j := 1) rfl) ?_
    walk_at "r"
    refine r_ixT (SqT.of g) (atI_nat (j := 2) rfl) ?_
    walk_at "r"
    exact ⟨p, zs, n, q, r, rfl, hp, gq, k⟩
  | draw n x1 x2 y1 y2 =>
    obtain ⟨a', c, d, e, g, gc, gd⟩ := ht
    cases e
    rw [show decide (V.str (Tx.draw n x1 x2 y1 y2).kind = V.str ("set" : Str)) = false from kn (show ¬ ("draw" : Str) = "set" by decide +kernel)]
    walk_at "r"
    rw [decide_eq_true (show V.str (Tx.draw n x1 x2 y1 y2).kind = V.str ("draw" : Str) from rfl)]
    walk_at "r"
    refine r_ixT (SqT.of g) (atI_nat (j := 1) rfl) ?_
    walk_at "r"
    refine ⟨p, zs, .int n, some n, rfl, hp, .int n, ?_⟩
    rw [show indexV (some n) zs.length = nameB zs n from rfl]
    unfold Tx.own at k
    dsimp only at k
    cases c1 : nameB zs n with
    | false =>
      rw [c1] at k
      simp only [Bool.false_and] at k
      walk_at "r"
      exact k H (Same.refl H)
    | true =>
      rw [c1] at k
      simp only [Bool.true_and] at k
      unfold nameB at c1
      rw [Bool.and_eq_true, decide_eq_true_eq, decide_eq_true_eq] at c1
      obtain ⟨j, rfl⟩ := Int.eq_ofNat_of_zero_le c1.1
      have jl : j < zs.length := by omega
      have hz : zs[j]? = some (zs[j]'jl) := List.getElem?_eq_getElem _
      have hgd : zs.getD (((j : Nat) : Int)).toNat 0 = zs[j]'jl := by
        rw [Int.toNat_natCast, List.getD_eq_getElem?_getD, hz]
        rfl
      rw [hgd] at k
      walk_at "r"
      refine r_ixT (SqT.of g) (atI_nat (j := 1) rfl) ?_
      walk_at "r"
      refine r_ixT (SqT.of g) (atI_nat (j := 2) rfl) ?_
      walk_at "r"
      refine ⟨p, zs, j, _, c, x1, x2, rfl, hp, hz, gc, fun H1 s1 => ?_⟩
      cases c2 : setB [x1, x2] (zs[j]'jl) with
      | false =>
        rw [c2] at k
        simp only [Bool.false_and] at k
        walk_at "r"
        exact k H1 s1
      | true =>
        rw [c2] at k
        simp only [Bool.true_and] at k
        walk_at "r"
        refine r_ixT (SqT.of (s1 _ _ g)) (atI_nat (j := 3) rfl) ?_
        walk_at "r"
        exact ⟨d, y1, y2, rfl, s1 _ _ gd, fun H2 s2 => k H2 (s1.trans s2)⟩
  | iff s t u =>
    obtain ⟨a', q, c, d, e, g, ⟨z, rfl, gz⟩, ht, hu⟩ := ht
    cases e
    rw [show decide (V.str (Tx.iff s t u).kind = V.str ("set" : Str)) = false from kn (show ¬ ("if" : Str) = "set" by decide +kernel)]
    walk_at "r"
    rw [show decide (V.str (Tx.iff s t u).kind = V.str ("draw" : Str)) = false from kn (show ¬ ("if" : Str) = "draw" by decide +kernel)]
    walk_at "r"
    rw [decide_eq_true (show V.str (Tx.iff s t u).kind = V.str ("if" : Str) from rfl)]
    walk_at "r"
    refine r_ixT (SqT.of g) (atI_nat (j := 1) rfl) ?_
    walk_at "r"
    obtain ⟨dx, tz, q, ts, h1, h2, h3, h4⟩ := hp
    refine ⟨_, rfl, p, C, dx, _, _, rfl, h1, S.cl, S.nN, spF_never _ _ _, ?_⟩
    walk_at "r"
    exact ⟨z, s.vals, _, rfl, Row.At.any gz, s.le, k⟩
  | whil s t =>
    obtain ⟨a', q, c, e, g, ⟨z, rfl, gz⟩, ht⟩ := ht
    cases e
    rw [show decide (V.str (Tx.whil s t).kind = V.str ("set" : Str)) = false from kn (show ¬ ("while" : Str) = "set" by decide +kernel)]
    walk_at "r"
    rw [show decide (V.str (Tx.whil s t).kind = V.str ("draw" : Str)) = false from kn (show ¬ ("while" : Str) = "draw" by decide +kernel)]
    walk_at "r"
    rw [show decide (V.str (Tx.whil s t).kind = V.str ("if" : Str)) = false from kn (show ¬ ("while" : Str) = "if" by decide +kernel)]
    walk_at "r"
    rw [decide_eq_true (show V.str (Tx.whil s t).kind = V.str ("while" : Str) from rfl)]
    walk_at "r"
    refine r_ixT (SqT.of g) (atI_nat (j := 1) rfl) ?_
    walk_at "r"
    obtain ⟨dx, tz, q, ts, h1, h2, h3, h4⟩ := hp
    refine ⟨_, rfl, p, C, dx, _, _, rfl, h1, S.cl, S.nN, spF_never _ _ _, ?_⟩
    walk_at "r"
    exact ⟨z, s.vals, _, rfl, Row.At.any gz, s.le, k⟩
  | skip =>
    rw [show decide (V.str Tx.skip.kind = V.str ("set" : Str)) = false from kn (show ¬ ("skip" : Str) = "set" by decide +kernel)]
    walk_at "r"
    rw [show decide (V.str Tx.skip.kind = V.str ("draw" : Str)) = false from kn (show ¬ ("skip" : Str) = "draw" by decide +kernel)]
    walk_at "r"
    rw [show decide (V.str Tx.skip.kind = V.str ("if" : Str)) = false from kn (show ¬ ("skip" : Str) = "if" by decide +kernel)]
    walk_at "r"
    rw [show decide (V.str Tx.skip.kind = V.str ("while" : Str)) = false from kn (show ¬ ("skip" : Str) = "while" by decide +kernel)]
    walk_at "r"
    exact k H (Same.refl H)
  | hole =>
    rw [show decide (V.str Tx.hole.kind = V.str ("set" : Str)) = false from kn (show ¬ ("hole" : Str) = "set" by decide +kernel)]
    walk_at "r"
    rw [show decide (V.str Tx.hole.kind = V.str ("draw" : Str)) = false from kn (show ¬ ("hole" : Str) = "draw" by decide +kernel)]
    walk_at "r"
    rw [show decide (V.str Tx.hole.kind = V.str ("if" : Str)) = false from kn (show ¬ ("hole" : Str) = "if" by decide +kernel)]
    walk_at "r"
    rw [show decide (V.str Tx.hole.kind = V.str ("while" : Str)) = false from kn (show ¬ ("hole" : Str) = "while" by decide +kernel)]
    walk_at "r"
    exact k H (Same.refl H)
  | thn t u =>
    rw [show decide (V.str (Tx.thn t u).kind = V.str ("set" : Str)) = false from kn (show ¬ ("then" : Str) = "set" by decide +kernel)]
    walk_at "r"
    rw [show decide (V.str (Tx.thn t u).kind = V.str ("draw" : Str)) = false from kn (show ¬ ("then" : Str) = "draw" by decide +kernel)]
    walk_at "r"
    rw [show decide (V.str (Tx.thn t u).kind = V.str ("if" : Str)) = false from kn (show ¬ ("then" : Str) = "if" by decide +kernel)]
    walk_at "r"
    rw [show decide (V.str (Tx.thn t u).kind = V.str ("while" : Str)) = false from kn (show ¬ ("then" : Str) = "while" by decide +kernel)]
    walk_at "r"
    exact k H (Same.refl H)
  | eith t u =>
    rw [show decide (V.str (Tx.eith t u).kind = V.str ("set" : Str)) = false from kn (show ¬ ("either" : Str) = "set" by decide +kernel)]
    walk_at "r"
    rw [show decide (V.str (Tx.eith t u).kind = V.str ("draw" : Str)) = false from kn (show ¬ ("either" : Str) = "draw" by decide +kernel)]
    walk_at "r"
    rw [show decide (V.str (Tx.eith t u).kind = V.str ("if" : Str)) = false from kn (show ¬ ("either" : Str) = "if" by decide +kernel)]
    walk_at "r"
    rw [show decide (V.str (Tx.eith t u).kind = V.str ("while" : Str)) = false from kn (show ¬ ("either" : Str) = "while" by decide +kernel)]
    walk_at "r"
    exact k H (Same.refl H)
end
end Eld
set_option Elab.async false
set_option maxRecDepth 100000
set_option maxHeartbeats 4000000
set_option linter.all false
namespace Eld
open PySem PySem.Spec PyProof.Rows L2
/-! ## + - * and the minus of an own class -/
section
variable {X : Cx} {CX : CXT} {k : Nat} {f g C : Addr} {fd : FuncData} {ps : List Str} {sp : Sp} {E : XK}
theorem ep_back {pins : List (Addr × Obj)} {σ : L2.St} {Q : VK} {w : Value} {s' : Shared} (h : EP X pins σ Q w s') : PySem.W.CmpBack (EP X pins σ Q) w s' := by
  obtain ⟨z, H', I', rz, q⟩ := h
  cases z with
  | non => cases rz; exact ⟨.non, H', I', rfl, q⟩
  | bl b => cases rz; exact ⟨.bl b, H', I', rfl, q⟩
  | int i => obtain ⟨t, rfl⟩ := rz; exact ⟨.int i, H', I', ⟨t, rfl⟩, q⟩
  | str i => obtain ⟨t, rfl⟩ := rz; exact ⟨.str i, H', I', ⟨t, rfl⟩, q⟩
  | byt i => obtain ⟨t, rfl⟩ := rz; exact ⟨.byt i, H', I', ⟨t, rfl⟩, q⟩
  | flt i => obtain ⟨t, rfl⟩ := rz; exact ⟨.flt i, H', I', ⟨t, rfl⟩, q⟩
  | ref i => cases rz; exact ⟨.ref i, H', I', rfl, q⟩
  | ty i => cases rz; exact ⟨.ty i, H', I', rfl, q⟩
/-- what the written part says of an operator of the class at C: its def at f, the turned one at g -/
structure OwnOp (K : PySem.W.Frag) (C : Addr) (op : Operator) (f g : Addr) : Prop where
  first : PySem.W.selfFirst K C = true
  at_ : PySem.W.findIn K (.ref C) (PySem.dunder op.info.2) = some (some (.ref f))
  fn : PySem.W.isFn K (.ref f) = true
  rat : PySem.W.findIn K (.ref C) (PySem.dunderR op.info.2) = some (some (.ref g))
  rfn : PySem.W.isFn K (.ref g) = true
  ia : ∃ fo, PySem.W.findIn K (.type "int") (PySem.dunder op.info.2) = some fo
  ir : ∃ ro, PySem.W.findIn K (.type "int") (PySem.dunderR op.info.2) = some ro
  ci : PySem.W.subIn K (.type "int") (.ref C) = some false
  ic : PySem.W.subIn K (.ref C) (.type "int") = some false
/-- x op y, x of the class at C, y an integer or of the same class -/
def rOwnOp (C : Addr) (sp : Sp) (E : XK) : R2 := fun x y H Q => ∃ a dx fs, x = .ref a ∧ H a = some (.ins C dx fs) ∧ ((∃ i, y = .int i) ∨ ∃ b dy gs, y = .ref b ∧ H b = some (.ins C dy gs)) ∧ sp [x, y] H Q E
theorem op_ownOp {op : Operator} (O : OwnOp X.K C op f g) (F : FnG X.prog X.w X.K X.mg X.base CX k f fd ps sp) (hb : Binds X.K fd ps []) (hx : Passes CX X E) (hG : X.A.guards = some []) (hr : Room k X.A) : OpR X (binaryOp op) (rOwnOp C sp E) := by
  rintro pins s σ H x y v u Q I rx ry ⟨a, dx, fs, rfl, ea, hy, h⟩
  cases rx
  obtain ⟨mA, J, _⟩ := ins_get I.hok ea
  obtain ⟨od, J, _⟩ := J.look
  obtain ⟨m, hF⟩ := I.fr
  have go : wpAny (model X.prog X.w) X.A (call (.ref f) [.ref a, u]) (PySem.W.CmpBack (EP X pins σ Q)) X.xe s := thn (run_own F hb hx rfl hG hr I ry h) fun w s' q => ep_back q
  rcases hy with ⟨i, rfl⟩ | ⟨b, dy, gs, rfl, eb⟩
  · obtain ⟨t, rfl⟩ := ry
    obtain ⟨fo, h1⟩ := O.ia
    obtain ⟨ro, h2⟩ := O.ir
    exact PySem.W.ksp_binT hF I.ok.mod.kin J rfl O.first O.at_ O.fn O.rat (.inr ⟨g, rfl⟩) h1 h2 O.ci go
  · cases ry
    obtain ⟨mB, J2, _⟩ := ins_get I.hok eb
    obtain ⟨od2, J2, _⟩ := J2.look
    exact PySem.W.binop_K hF I.ok.mod.kin J J2.type O.first O.at_ O.fn go
end
end Eld
set_option Elab.async false
set_option maxRecDepth 100000
set_option maxHeartbeats 4000000
set_option linter.all false
namespace Eld
open PySem PySem.Spec PyProof.Rows L2
theorem int_declines {M : Model} {A : Around} {E : Value → Shared → Prop} {s : Shared} {nm : String} {fn : Int → Int → Sem Fin} {i : Int} {t : Tok} {y : Addr} {o : Obj} {Q : Fin → Shared → Prop} (ho : s.heap.get? y = some o) (hd : o.data = .plain)
    (h : Q (.done (.ret .notImplemented)) s) : wpAny M A (PySem.Builtin.Int.intBinary nm fn false ⟨[.int i t, .ref y], []⟩) Q E s := by
  unfold PySem.Builtin.Int.intBinary PySem.slotArgs PySem.Builtin.Int.intOfSelf
  simp only [List.isEmpty_nil, Bool.not_true, Bool.false_eq_true, if_false, List.length_cons, List.length_nil, asInt?, pure_bind, List.headD_cons, bne_self_eq_false]
  refine wpAny_bind (wpAny_bind (wpAny_load ho ?_))
  rw [hd]
  repeat wp_step
  exact h
section
variable {X : Cx} {CX : CXT} {k : Nat} {f g C : Addr} {fd : FuncData} {ps : List Str} {sp : Sp} {E : XK}
open PySem.W in
theorem binop_R {prog : Program} {w : World} {A : Around} {EE : Value → Shared → Prop} {K : Frag} {h₀ : Heap} {L : Addr} {m : Str → Option Value} {y : Addr} {oy : Obj} {od : Option Obj} {op : Operator} {i : Int} {t : Tok} {id : String} {B : Builtin} {s : Shared} {Q : Value → Shared → Prop} (F : Fr h₀ L s.heap m) (X₀ : K.In h₀) (I : InstAt s.heap y oy C od)
    (hd : oy.data = .plain) (O : OwnOp K C op f g) (fl : fillsNumberSlot (.type "int") op.info.2 = pure true) (sl : Slot "int" (PySem.dunder op.info.2) id) (en : entryFor table id = some B) (ar : argsOk id ⟨[.int i t, .ref y], []⟩)
    (dec : ∀ (A : Around) (E : Value → Shared → Prop) (s : Shared) (Q : Fin → Shared → Prop), s.heap.get? y = some oy → Q (.done (.ret .notImplemented)) s → wpAny (model prog w) A (B ⟨[.int i t, .ref y], []⟩) Q E s)
    (h : wpAny (model prog w) A (call (.ref g) [.ref y, .int i t]) (PySem.W.CmpBack Q) EE s) : wpAny (model prog w) A (binaryOp op (.int i t) (.ref y)) Q EE s := by
  have X := X₀.keeps F.keep
  obtain ⟨cd, rest, hcd, hm⟩ := ksp_first O.first
  have hs := O.at_
  have hr := O.rat
  have ic := O.ic
  rcases hi : op.info with ⟨sym, nm'⟩
  rw [hi] at hs hr fl sl
  dsimp only at hs hr fl sl
  have two := ksp_try X I hr O.rfn h
  have L1 : Looks (model prog w) s.heap (typeOf (.int i t)) (.type "int") := Looks.of_pure rfl
  have L2 : Looks (model prog w) s.heap (typeOf (.ref y)) (.ref C) := I.type
  have L3 : Looks (model prog w) s.heap (fillsNumberSlot (.type "int") nm') true := Looks.of_pure fl
  have L4 : Looks (model prog w) s.heap (fillsNumberSlot (.ref C) nm') true := fills_K X hcd hm hs
  have L5 : Looks (model prog w) s.heap (isSubtype (.ref C) (.type "int")) false := looks_subIn X ic
  have L6 : Looks (model prog w) s.heap (numberSlotInPython (.type "int") nm') false := Looks.of_pure rfl
  have hne : (Value.type "int" == Value.ref C) = false := Bool.eq_false_iff.mpr fun q => by cases beq_iff_eq.mp q
  have one : wpAny (model prog w) A (tryMethod (.int i t) (PySem.dunder nm') (.ref y)) (fun r s' => r = none ∧ s' = s) EE s := by
    refine wpAny_tryMethod_declines (typeIs_int s i t) sl (wpAny_call_entry sl (typeIs_int s i t) en ?_ ar)
    exact dec _ _ _ _ I.at_ ⟨_, rfl, rfl, rfl, rfl⟩
  simp only [binaryOp, hi]
  refine wpAny_holding (wpAny_bind ?_)
  unfold binaryOp1
  refine wpAny_bind (L1.here (wpAny_bind (L2.here (wpAny_bind (L3.here ?_)))))
  simp only [hne, Bool.false_eq_true, if_false]
  refine wpAny_bind (L4.here ?_)
  simp only [Bool.and_self, if_true]
  refine wpAny_bind (L5.here ?_)
  simp only [Bool.false_eq_true, if_false, pure_bind, Bool.not_false, Bool.and_self, if_true]
  refine wpAny_bind (L6.here ?_)
  simp only [Bool.false_eq_true, if_false, pure_bind, Bool.not_false, Bool.and_self, if_true]
  refine wpAny_bind (wpAny_mono one (fun r s' hr' => ?_) fun _ _ e => e)
  obtain ⟨rfl, rfl⟩ := hr'
  simp only [Bool.false_eq_true, if_false, pure_bind, Bool.not_false, Bool.and_self, if_true]
  refine wpAny_bind (wpAny_mono two (fun r s' hr' => ?_) fun _ _ e => e)
  obtain ⟨v, rfl, hq⟩ := hr'
  dsimp only
  refine wpAny_bind (wpAny_rule ?_)
  exact wpAny_pure (wpAny_pure hq)
end
end Eld
set_option Elab.async false
set_option maxRecDepth 100000
set_option maxHeartbeats 4000000
set_option linter.all false
namespace Eld
open PySem PySem.Spec PyProof.Rows L2
section
variable {X : Cx} {CX : CXT} {k : Nat} {f g C : Addr} {fd : FuncData} {ps : List Str} {sp : Sp} {E : XK}
/-- what a built-in int's operator is, and that it declines an instance -/
structure IntOp (op : Operator) : Prop where
  fills : fillsNumberSlot (.type "int") op.info.2 = pure true
  ex : ∃ (id : String) (B : Builtin), Slot "int" (PySem.dunder op.info.2) id ∧ entryFor table id = some B ∧ (∀ i t y, argsOk id ⟨[.int i t, .ref y], []⟩) ∧
    ∀ (M : Model) (A : Around) (E : Value → Shared → Prop) (s : Shared) (Q : Fin → Shared → Prop) (i : Int) (t : Tok) (y : Addr) (o : Obj), s.heap.get? y = some o → o.data = .plain → Q (.done (.ret .notImplemented)) s → wpAny M A (B ⟨[.int i t, .ref y], []⟩) Q E s
theorem intAdd : IntOp .Add := ⟨PySem.F.fills_int_add, _, _, PySem.F.slot_int_add, PySem.F.entry_int_add, fun _ _ _ => PySem.F.args_int_add_2 _ _, fun _ _ _ _ _ _ _ _ _ ho hd h => int_declines ho hd h⟩
theorem intSub : IntOp .Sub := ⟨PySem.F.fills_int_sub, _, _, PySem.F.slot_int_sub, PySem.F.entry_int_sub, fun _ _ _ => PySem.F.args_int_sub_2 _ _, fun _ _ _ _ _ _ _ _ _ ho hd h => int_declines ho hd h⟩
theorem intMul : IntOp .Mult := ⟨PySem.F.fills_int_mul, _, _, PySem.F.slot_int_mul, PySem.F.entry_int_mul, fun _ _ _ => PySem.F.args_int_mul_2 _ _, fun _ _ _ _ _ _ _ _ _ ho hd h => int_declines ho hd h⟩
/-- x op y, x an integer, y of the class at C -/
def rOwnR (C : Addr) (sp : Sp) (E : XK) : R2 := fun x y H Q => ∃ i b dx fs, x = .int i ∧ y = .ref b ∧ H b = some (.ins C dx fs) ∧ sp [y, x] H Q E
theorem op_ownR {op : Operator} (O : OwnOp X.K C op f g) (N : IntOp op) (F : FnG X.prog X.w X.K X.mg X.base CX k g fd ps sp) (hb : Binds X.K fd ps []) (hx : Passes CX X E) (hG : X.A.guards = some []) (hr : Room k X.A) : OpR X (binaryOp op) (rOwnR C sp E) := by
  rintro pins s σ H x y v u Q I rx ry ⟨i, b, dx, fs, rfl, rfl, eb, h⟩
  cases ry
  obtain ⟨t, rfl⟩ := rx
  obtain ⟨mA, J, _⟩ := ins_get I.hok eb
  obtain ⟨od, J, _⟩ := J.look
  obtain ⟨m, hF⟩ := I.fr
  obtain ⟨id, B, sl, en, ar, dec⟩ := N.ex
  exact binop_R hF I.ok.mod.kin J rfl O N.fills sl en (ar _ _ _) (fun A E s Q ho hq => dec _ A E s Q _ _ _ _ ho rfl hq) (thn (run_own (y := V.int i) F hb hx rfl hG hr I ⟨t, rfl⟩ h) fun w s' q => ep_back q)
/-- -x of the class at C -/
def rOwnN (C : Addr) (sp : Sp) (E : XK) : V → Hp → VK → Prop := fun x H Q => ∃ a dx fs, x = .ref a ∧ H a = some (.ins C dx fs) ∧ sp [x] H Q E
theorem run_own1 {B : Around} {pins : List (Addr × Obj)} {s : Shared} {σ : L2.St} {H : Hp} {a : Addr} {Q : VK} (F : FnG X.prog X.w X.K X.mg X.base CX k f fd ps sp) (hb : Binds X.K fd ps []) (hx : Passes CX X E)
    (hf : B.frames = X.A.frames) (hG : B.guards = some []) (hr : Room k B) (I : Inv X pins σ H s) (h : sp [.ref a] H Q E) : wpAny (model X.prog X.w) B (call (.ref f) [.ref a]) (EP X pins σ Q) X.xe s := by
  have e0 := I.env0
  have e1 : Env0 X.prog X.w X.K X.mg X.base B X.stack s H := ⟨hf.trans e0.frames, e0.mod, e0.bs, e0.bsz, e0.funs, e0.frf, e0.hok, e0.bare⟩
  have rv : Vals [V.ref a] [Value.ref a] := .cons rfl .nil
  have ln : ([Value.ref a] ++ ([] : List Value)).length = ps.length := F.len _ _ _ _ h
  refine wpAny_call (codeAny_mono (F.run B X.stack s H ⟨[.ref a], []⟩ ([.ref a] ++ []) [.ref a] Q E hG hr e1 (hb s [.ref a] I.kIn ln) rv h) ?_)
  intro res s' hq
  match res, hq with
  | .error e, hq => exact hx pins σ H s e s' I hq
  | .ok (.ret w), hq => exact I.after hq
theorem un_own (F : FnG X.prog X.w X.K X.mg X.base CX k f fd ps sp) (hb : Binds X.K fd ps []) (hx : Passes CX X E) (hs : PySem.W.findIn X.K (.ref C) "__neg__" = some (some (.ref f))) (hf : PySem.W.isFn X.K (.ref f) = true) (hG : X.A.guards = some []) (hr : Room k X.A) : UnR X (unaryOp .USub) (rOwnN C sp E) := by
  rintro pins s σ H x v Q I rx ⟨a, dx, fs, rfl, ea, h⟩
  cases rx
  obtain ⟨mA, J, _⟩ := ins_get I.hok ea
  obtain ⟨od, J, _⟩ := J.look
  obtain ⟨m, hF⟩ := I.fr
  exact PySem.W.ksp_neg hF I.ok.mod.kin J hs hf (run_own1 F hb hx rfl hG hr I h)
/-- str(x), x of the class at C -/
def rOwnStr (C : Addr) (sp : Sp) (E : XK) : List V → Hp → VK → Prop := fun xs H Q => ∃ a dx fs, xs = [.ref a] ∧ H a = some (.ins C dx fs) ∧ sp [.ref a] H (fun v G => ∃ y : Str, v = .str y ∧ Q (.str y) G) E
end
end Eld
set_option Elab.async false
set_option maxRecDepth 100000
set_option maxHeartbeats 4000000
set_option linter.all false
namespace Eld
open PySem PySem.Spec PyProof.Rows L2
section
variable {X : Cx} {CX : CXT} {k : Nat} {f g C : Addr} {fd : FuncData} {ps : List Str} {sp : Sp} {E : XK}
theorem call_ownStr (F : FnG X.prog X.w X.K X.mg X.base CX k f fd ps sp) (hb : Binds X.K fd ps []) (hx : Passes CX X E) (hs : PySem.W.findIn X.K (.ref C) "__str__" = some (some (.ref f))) (hf : PySem.W.isFn X.K (.ref f) = true)
    (hG : X.A.guards = some []) (hr : Room (k + 2) X.A) : CallR X (.type "str") (rOwnStr C sp E) := by
  rintro pins s σ H xs us Q I r ⟨a, dx, fs, rfl, ea, h⟩
  obtain ⟨u, rfl, ru⟩ := vals1 r
  cases ru
  obtain ⟨mA, J, _⟩ := ins_get I.hok ea
  obtain ⟨od, J, _⟩ := J.look
  have hr2 : Room k X.A.in1.in1 := (show Room (k + 1) X.A.in1 from hr.in1).in1
  have e0 := I.env0
  have e1 : Env0 X.prog X.w X.K X.mg X.base X.A.in1.in1 X.stack s H := e0.in1.in1
  have rv : Vals [V.ref a] [Value.ref a] := .cons rfl .nil
  have ln : ([Value.ref a] ++ ([] : List Value)).length = ps.length := F.len _ _ _ _ h
  refine PySem.W.kso_call hr2.units0 I.kIn J hs hf (wpAny_call (codeAny_mono (F.run X.A.in1.in1 X.stack s H ⟨[.ref a], []⟩ ([.ref a] ++ []) [.ref a] _ E (in1_guards (in1_guards hG)) hr2 e1 (hb s [.ref a] I.kIn ln) rv h) ?_))
  intro res s' hq
  match res, hq with
  | .error e, hq => exact hx pins σ H s e s' I hq
  | .ok (.ret w), hq =>
    obtain ⟨v, G, I', rv', y, rfl, q⟩ := I.after hq
    obtain ⟨t, rfl⟩ := rv'
    exact ⟨.str y, G, I', ⟨_, rfl⟩, q⟩
end
end Eld
set_option Elab.async false
set_option maxRecDepth 100000
set_option maxHeartbeats 4000000
set_option linter.all false
namespace Eld
open PySem PySem.Spec PyProof.Rows L2
section
variable {X : Cx} {CX : CXT} {k : Nat} {f g C : Addr} {fd : FuncData} {ps : List Str} {sp : Sp} {E : XK}
open PySem.W in
theorem cmp_R {prog : Program} {w : World} {A : Around} {EE : Value → Shared → Prop} {K : Frag} {y : Addr} {oy : Obj} {od : Option Obj} {i : Int} {t : Tok} {s : Shared} {Q : Value → Shared → Prop} (hu : A.units < cLine) (X : K.In s.heap) (I : InstAt s.heap y oy C od)
    (hd : oy.data = .plain) (ic : subIn K (.ref C) (.type "int") = some false) (hs : findIn K (.ref C) "__eq__" = some (some (.ref f))) (hf : isFn K (.ref f) = true)
    (h : wpAny (model prog w) A (call (.ref f) [.ref y, .int i t]) (PySem.W.CmpBack Q) EE s) : wpAny (model prog w) A (richCompare .Eq (.int i t) (.ref y)) Q EE s := by
  have one : wpAny (model prog w) A (tryCompare (.int i t) (cmpInfo .Eq).2.1 (.ref y)) (fun r s' => r = none ∧ s' = s) EE s := by
    refine wpAny_tryCompare_declines (typeIs_int s i t) PySem.F.slot_int_eq (wpAny_call_entry PySem.F.slot_int_eq (typeIs_int s i t) PySem.F.entry_int_eq ?_ (PySem.F.args_int_eq_2 _ _))
    exact int_declines I.at_ hd ⟨_, rfl, rfl, rfl, rfl⟩
  have two : wpAny (model prog w) A (tryCompare (.ref y) (cmpInfo .Eq).2.2 (.int i t)) (fun r s' => ∃ v, r = some v ∧ Q v s') EE s := by
    unfold tryCompare
    refine wpAny_bind (ifBound_K X I hs hf (wpAny_mono h (fun v s' hv => ?_) fun _ _ e => e))
    cases v <;> first | exact hv.elim | exact wpAny_pure ⟨_, rfl, hv⟩
  have L1 : Looks (model prog w) s.heap (typeOf (.int i t)) (.type "int") := Looks.of_pure rfl
  have L2 : Looks (model prog w) s.heap (typeOf (.ref y)) (.ref C) := I.type
  have ot : oneThing? .Eq (.int i t) (.ref y) = none := rfl
  unfold richCompare
  simp only [ot]
  refine wpAny_holding (wpAny_bind (wpAny_cRoomFor hu ?_))
  refine wpAny_bind (L1.here (wpAny_bind (L2.here ?_)))
  have hne : (Value.type "int" != Value.ref C) = true := by
    rw [bne_iff_ne]
    intro q
    cases q
  simp only [hne, if_true]
  refine wpAny_bind ((looks_subIn X ic).here ?_)
  simp only [Bool.false_eq_true, if_false]
  refine wpAny_bind (wpAny_mono one (fun r s' z => ?_) fun _ _ e => e)
  obtain ⟨rfl, rfl⟩ := z
  simp only [Bool.not_false, if_true]
  refine wpAny_bind (wpAny_mono two (fun r s' z => ?_) fun _ _ e => e)
  obtain ⟨v, rfl, hq⟩ := z
  exact wpAny_pure hq
theorem op_ownEqR (F : FnG X.prog X.w X.K X.mg X.base CX k f fd ps sp) (hb : Binds X.K fd ps []) (hx : Passes CX X E) (ic : PySem.W.subIn X.K (.ref C) (.type "int") = some false) (hs : PySem.W.findIn X.K (.ref C) "__eq__" = some (some (.ref f))) (hf : PySem.W.isFn X.K (.ref f) = true)
    (hG : X.A.guards = some []) (hr : Room k X.A) : OpR X (compareOp .Eq) (rOwnR C sp E) := by
  rintro pins s σ H x y v u Q I rx ry ⟨i, b, dx, fs, rfl, rfl, eb, h⟩
  cases ry
  obtain ⟨t, rfl⟩ := rx
  obtain ⟨mA, J, _⟩ := ins_get I.hok eb
  obtain ⟨od, J, _⟩ := J.look
  show wpAny (model X.prog X.w) X.A (richCompare .Eq (.int i t) (.ref b)) (EP X pins σ Q) X.xe s
  exact cmp_R hr.units0 I.kIn J rfl ic hs hf (thn (run_own (y := V.int i) F hb hx rfl hG hr I ⟨t, rfl⟩ h) fun w s' q => ep_back q)
end
end Eld
set_option Elab.async false
set_option maxRecDepth 100000
set_option maxHeartbeats 4000000
set_option linter.all false
namespace Eld
open PySem PySem.Spec PyProof.Rows L2
/-! ## try with several clauses, each with a name for the exception or without one -/
abbrev Suit := Addr → Value → Option Addr → TS
/-- the clauses' names cleared on the way out -/
def clr (o : Option Nat) (D : Ends) : Ends := match o with
  | none => D
  | some i => { nx := fun τ G => D.nx (τ.set i none) G, rt := D.rt, bk := fun τ G => D.bk (τ.set i none) G, ct := fun τ G => D.ct (τ.set i none) G }
def nam (o : Option Nat) (e : Addr) (τ : L2.St) : L2.St := match o with
  | none => τ
  | some i => τ.set i (some (.ref e))
/-- what the clauses wish of an exception, one after another -/
def wMix (K : PySem.W.Frag) (Wo : WX) (D : Ends) : List (Value × Option Nat × Suit) → WX
  | [] => Wo
  | (c, o, ts) :: r => fun cls d τ G => ∃ b, PySem.W.exmOne K cls c = some b ∧ (b = true → ∀ e, G e = none → ts e cls d (clr o D) (nam o e τ) G) ∧ (b = false → wMix K Wo D r cls d τ G)
inductive HdsM (X : Cx) : List ExceptHandler → List (Value × Option Nat × Suit) → Prop
  | nil : HdsM X [] []
  | bare {x : Str} {c : Value} {ts : Suit} {b0 : Stmt} {su : List Stmt} {p1 p2 : Pos} {hs : List ExceptHandler} {l : List (Value × Option Nat × Suit)} (hc : Names X x c)
      (h : ∀ (e : Addr) (oe : Obj) (cls : Value) (d : Option Addr) (pn : List (Addr × Obj)), Zc cls d oe → (∃ vs, oe.data = .fields vs) → PSs (X.suite e ((e, oe) :: pn)) (b0 :: su) (ts e cls d)) (r : HdsM X hs l) :
      HdsM X (.ExceptHandler (some (.Name x p1)) none (b0 :: su) p2 :: hs) ((c, none, ts) :: l)
  | named {x n : Str} {c : Value} {i : Nat} {ts : Suit} {b0 : Stmt} {su : List Stmt} {p1 p2 : Pos} {hs : List ExceptHandler} {l : List (Value × Option Nat × Suit)} (hN : X.N.Nodup) (hi : X.N[i]? = some n) (hl : X.env.kindOf n = some .local) (hc : Names X x c)
      (h : ∀ (e : Addr) (oe : Obj) (cls : Value) (d : Option Addr) (pn : List (Addr × Obj)), Zc cls d oe → (∃ vs, oe.data = .fields vs) → PSs (X.suite e ((e, oe) :: pn)) (b0 :: su) (ts e cls d)) (r : HdsM X hs l) :
      HdsM X (.ExceptHandler (some (.Name x p1)) (some n) (b0 :: su) p2 :: hs) ((c, some i, ts) :: l)
section
variable {X : Cx} {body : List Stmt} {h0 : ExceptHandler} {hds : List ExceptHandler} {l : List (Value × Option Nat × Suit)} {pos : Pos} {tb : WX → TS} {Wo : WX}
theorem ps_try_mix (st : X.stack = X.env :: X.outer) (fr : X.env.frame = some X.env.locals) (tk : Takes X Wo)
    (bo : ∀ (W : WX) (pn : List (Addr × Obj)) (xe : Value → Shared → Prop), Takes (X.tr pn xe) W → PassesOwn (model X.prog X.w) X.A X.env xe → PSs (X.tr pn xe) body (tb W))
    (hh : HdsM X (h0 :: hds) l) : PS X (.Try body (h0 :: hds) [] [] pos) (fun D σ H => tb (wMix X.K Wo D l) D σ H) := by
  constructor
  intro pins s σ H D I q
  have ok := I.ok
  have frs_ : X.A.frames = some (X.env :: X.outer) := st ▸ ok.frames
  let out : Value → Shared → Prop := fun u t => wpAny (model X.prog X.w) X.A (noteFrame u X.env) (fun _ t2 => wpAny (model X.prog X.w) X.A (setFlight u none) (fun _ t3 => wpAny (model X.prog X.w) X.A (handleBy u X.env (h0 :: hds)) (SP X pins D) X.xe t3) X.xe t2) X.xe t
  have tko : Takes (X.tr (X.pn ++ pins) out) (wMix X.K Wo D l) := by
    rintro u t ⟨e, BB, s0, pins', τ, G, cls, d, rfl, J0, nb, up, sky, na, os, ag, w⟩
    have J : Inv X pins τ G s0 := J0.ofTry ok
    have sk2 : Sky BB (X.env :: X.outer) e (Zc cls d) X.env.locals t.heap := st ▸ sky
    refine Sky.land Zc.steady frs_ fr sk2 ?_
    intro g3 f3 u3
    have J3 : Inv X pins τ G { t with heap := g3 } := J.landed nb f3.1 (up.trans u3) os ag
    obtain ⟨o3, v3, e3, z3, d3⟩ := f3.there
    have off : e ∉ frs (X.env :: X.outer) := by
      intro hm
      obtain ⟨_, o', e', hnf⟩ := f3.2.2.1.mem hm
      rw [e3] at e'
      cases e'
      exact hnf _ d3
    have nL : e ≠ X.env.locals := by
      intro z
      exact off (List.mem_filterMap.mpr ⟨X.env, List.mem_cons_self, z ▸ fr⟩)
    have nF : e ∉ X.fs := by
      intro hm
      obtain ⟨a1, a2, a3⟩ := List.mem_filterMap.mp hm
      exact off (List.mem_filterMap.mpr ⟨a1, List.mem_cons_of_mem _ a2, a3⟩)
    have S3 := J3.suite e3 d3 na nL nF
    have all : ∀ (hs' : List ExceptHandler) (l' : List (Value × Option Nat × Suit)), HdsM X hs' l' → wMix X.K Wo D l' cls d τ G → wpAny (model X.prog X.w) X.A (handleBy (.ref e) X.env hs') (SP X pins D) X.xe { t with heap := g3 } := by
      intro hs' l' hk
      have LT : PySem.W.Looks (model X.prog X.w) g3 (typeOf (.ref e)) cls := fun A Q E s k q => wpAny_typeOf_ref (k _ _ e3) (by rw [z3.1]; exact q)
      have ask : ∀ {x : Str} {c : Value} {p1 : Pos}, Names X x c → ∀ {Q E : Value → Shared → Prop}, Q c { t with heap := g3 } → wpAny (model X.prog X.w) (X.A.mark (some (.ref e))) (eval (.Name x p1) X.env) Q E { t with heap := g3 } := by
        rintro x c p1 ⟨hg, hdbg, hm | ⟨hm, hv, hnn⟩⟩ Q E q
        · exact ld_glob (X := X.suite e ((e, o3) :: (X.pn ++ pins))) S3 hg hm q hdbg
        · exact ld_blt (X := X.suite e ((e, o3) :: (X.pn ++ pins))) S3 hg hm hv q hnn hdbg
      induction hk with
      | nil =>
        intro w
        refine wpAny_handleBy_nil ?_
        obtain ⟨_, _, _, oe, vs, T, _, _, he, _, hd, h1, _⟩ := id f3
        unfold PySem.passOn
        refine wpAny_bind (wpAny_field he hd h1 ?_)
        rw [if_neg (show ¬ ((Value.ref T == Value.none) = true) by simp)]
        have last : wpAny (model X.prog X.w) X.A (setFlight (.ref e) X.env.frame) (fun _ t4 => wpAny (model X.prog X.w) X.A (throw (.ref e) : Sem Flow) (SP X pins D) X.xe t4) X.xe { t with heap := g3 } := by
          rw [fr]
          refine HandSPX.setFlight_upZ f3 ?_
          intro g4 f4 u4
          refine wpAny_throw (tk _ _ ?_)
          exact ⟨e, BB, s0, pins, τ, G, cls, d, rfl, J, nb, (up.trans u3).trans u4, .inr (.inr (st ▸ f4)), na, os, ag, w⟩
        first | exact wpAny_bind (wpAny_pure (wpAny_bind last)) | exact wpAny_bind last
      | @bare x c ts b0 su p1 p2 hs2 l2 hc hsu r ih =>
        rintro ⟨b, hb1, yes, no⟩
        have LM := PySem.W.exm_one (M := model X.prog X.w) (J3.kIn) LT hb1
        refine wpAny_handleBy_cons (codeAny_handlers_test (ask hc (LM.here ?_))) (by intro q; cases q)
        cases b with
        | false => exact ih (no rfl)
        | true =>
          refine codeAny_handlers_suite (HandSPX.lands_againZ f3 ?_)
          intro g4 f4 u4
          have J4 : Inv X pins τ G { t with heap := g4 } := J.landed nb f4.1 ((up.trans u3).trans u4) os ag
          obtain ⟨o4, v4, e4, z4, d4⟩ := f4.there
          have S4 := J4.suite e4 d4 na nL nF
          refine wpAny_mono ((hsu e o4 cls d (X.pn ++ pins) z4 ⟨_, d4⟩).run [] _ _ G _ S4 (yes rfl e na)) ?_ (fun _ _ z => False.elim z)
          intro fl t6 hq
          cases fl with
          | next => exact let ⟨τ6, G6, S6, q6⟩ := hq; ⟨τ6, G6, S6.unsuite ok, q6⟩
          | brk => exact let ⟨τ6, G6, S6, q6⟩ := hq; ⟨τ6, G6, S6.unsuite ok, q6⟩
          | cont => exact let ⟨τ6, G6, S6, q6⟩ := hq; ⟨τ6, G6, S6.unsuite ok, q6⟩
          | ret u => exact let ⟨x6, τ6, G6, S6, r6, q6⟩ := hq; ⟨x6, τ6, G6, S6.unsuite ok, r6, q6⟩
      | @named x n c i ts b0 su p1 p2 hs2 l2 hN hi hl hc hsu r ih =>
        rintro ⟨b, hb1, yes, no⟩
        have LM := PySem.W.exm_one (M := model X.prog X.w) (J3.kIn) LT hb1
        refine wpAny_handleBy_cons (codeAny_handlers_test (ask hc (LM.here ?_))) (by intro q; cases q)
        cases b with
        | false => exact ih (no rfl)
        | true =>
          refine codeAny_handlers_suite_as (HandSPX.lands_againZ f3 ?_)
          intro g4 f4 u4
          have J4 : Inv X pins τ G { t with heap := g4 } := J.landed nb f4.1 ((up.trans u3).trans u4) os ag
          obtain ⟨o4, v4, e4, z4, d4⟩ := f4.there
          have S4 := J4.suite e4 d4 na nL nF
          refine store_ok (X := X.suite e ((e, o4) :: (X.pn ++ pins))) (v := .ref e) S4 hN hi (.inl hl) rfl ?_ (.inr hl)
          intro t5 S5
          refine wpAny_mono ((hsu e o4 cls d (X.pn ++ pins) z4 ⟨_, d4⟩).run [] t5 _ G _ S5 (yes rfl e na)) ?_ (fun _ _ z => False.elim z)
          intro fl t6 hq
          have gone : ∀ {τ6 : L2.St} {G6 : Hp} {Q : Shared → Prop}, Inv (X.suite e ((e, o4) :: (X.pn ++ pins))) [] τ6 G6 t6 → (∀ t7, Inv X pins (τ6.set i none) G6 t7 → Q t7) →
              wpAny (model X.prog X.w) X.A (do bindName X.env n .none; unbindBehindTheSuite X.env n p2) (fun _ t7 => Q t7) X.xe t6 := by
            intro τ6 G6 Q S6 hq
            exact gone_ok (S6.unsuite ok) hN hi hl hq
          cases fl with
          | next =>
            obtain ⟨_, _, S6, q6⟩ := hq
            exact gone S6 fun t7 J7 => ⟨_, _, J7, q6⟩
          | brk =>
            obtain ⟨_, _, S6, q6⟩ := hq
            exact gone S6 fun t7 J7 => ⟨_, _, J7, q6⟩
          | cont =>
            obtain ⟨_, _, S6, q6⟩ := hq
            exact gone S6 fun t7 J7 => ⟨_, _, J7, q6⟩
          | ret u =>
            obtain ⟨_, _, _, S6, r6, q6⟩ := hq
            exact gone S6 fun t7 J7 => ⟨_, _, _, J7, r6, q6⟩
    exact all _ _ hh w
  refine wpAny_Try_except (wpAny_mono ((bo _ (X.pn ++ pins) out tko PassesOwn.looking).run [] s σ H D (I.toTry _) q) ?_ (fun _ _ h => h))
  intro fl t1 hq
  cases fl with
  | next => exact let ⟨τ, G, J, q⟩ := hq; wpAny_execs_nil ⟨τ, G, J.ofTry ok, q⟩
  | brk => exact let ⟨τ, G, J, q⟩ := hq; ⟨τ, G, J.ofTry ok, q⟩
  | cont => exact let ⟨τ, G, J, q⟩ := hq; ⟨τ, G, J.ofTry ok, q⟩
  | ret u => exact let ⟨x, τ, G, J, r, q⟩ := hq; ⟨x, τ, G, J.ofTry ok, r, q⟩
end
end Eld
set_option Elab.async false
set_option maxRecDepth 100000
set_option maxHeartbeats 4000000
set_option linter.all false
namespace Eld
open PySem PySem.Spec PyProof.Rows L2
/-! ## defs that may raise, and their calls, the wish of an exception hanging on the slots -/
section
variable {P : Program} {w : World} {K : PySem.W.Frag} {mg : Str → Option Value} {base : Heap}
theorem okGX {x ql : Str} {st : Stmt} {f : Addr} {fd : FuncData} {N ps : List Str} {k : Nat} {sp : Sp} (F : Fun K x ql st f fd) (S : FnScope N ps (defScope st)) (ln : ∀ vs H Q E, sp vs H Q E → vs.length = ps.length)
    (bo : ∀ (cdv : Value) (B : Around) (up : List Env) (z : Shared) (H : Hp) (vs : List V) (Q : VK) (E : XK), (B.deeper (envOfC ql (defScope st) z.heap.objs.size f cdv)).guards = some [] → Room k (B.deeper (envOfC ql (defScope st) z.heap.objs.size f cdv)) → sp vs H Q E →
      ∃ t, PSs (cxOf (L2.CX P w) P w K mg base N ql (defScope st) f cdv B up z H E) (defBody st) t ∧ t { nx := fun _ G => Q .non G, rt := Q } (start N vs) H) : FnG P w K mg base (L2.CX P w) (k + 1) f fd ps sp := by
  obtain ⟨oc, od, kV, doc, pm, an, cdv, ct, osl, rfl, lk, cd⟩ := F.ex
  refine fnG_of lk cd S ln ?_
  intro B up z H vs Q E gd rm hs
  exact bo cdv B up z H vs Q E gd rm hs
end
/-- called with the values xs by place and ys by the names ks -/
def CallVS (X : Cx) (fv : Value) (ks : List Str) (r : L2.St → List V → List V → Hp → VK → Prop) : Prop :=
  ∀ (pins : List (Addr × Obj)) (s : Shared) (σ : L2.St) (H : Hp) (xs ys : List V) (us ws : List Value) (Q : VK), Inv X pins σ H s → Vals xs us → Vals ys ws → r σ xs ys H Q →
    wpAny (model X.prog X.w) X.A (call fv us (ks.zip ws)) (EP X pins σ Q) X.xe s
section
variable {X : Cx} {CX : CXT} {k n : Nat} {f C : Addr} {fd : FuncData} {ps ks : List Str} {sp : Sp} {E : L2.St → XK} {g : List Value → List Value → List Value} {gV : List V → List V → List V}
def rFnS (n m : Nat) (gV : List V → List V → List V) (sp : Sp) (E : L2.St → XK) : L2.St → List V → List V → Hp → VK → Prop := fun σ xs ys H Q => xs.length = n ∧ ys.length = m ∧ sp (gV xs ys) H Q (E σ)
theorem callVS_fn (F : FnG X.prog X.w X.K X.mg X.base CX k f fd ps sp) (hb : KBn X.K fd ps n ks g gV) (hx : ∀ σ, PassesAt CX X σ (E σ)) (hG : X.A.guards = some []) (hr : Room k X.A) : CallVS X (.ref f) ks (rFnS n ks.length gV sp E) := by
  rintro pins s σ H xs ys us ws Q I rx ry ⟨l1, l2, h⟩
  have e1 : us.length = n := rx.length ▸ l1
  have e2 : ws.length = ks.length := ry.length ▸ l2
  refine wpAny_call (codeAny_mono (F.run X.A X.stack s H ⟨us, ks.zip ws⟩ (g us ws) (gV xs ys) Q (E σ) hG hr I.env0 (hb.to s us ws I.kIn e1 e2) (hb.rel rx ry) h) ?_)
  intro res s' hq
  match res, hq with
  | .error e, hq => exact hx σ pins H s e s' I hq
  | .ok (.ret u), hq => exact I.after hq
def rMkS (C : Addr) (n m : Nat) (gV : List V → List V → List V) (sp : Sp) (E : L2.St → XK) : L2.St → List V → List V → Hp → VK → Prop := fun σ xs ys H Q => xs.length = n ∧ ys.length = m ∧
  ∀ x dx, H x = none → H dx = none → dx ≠ x → sp (gV (.ref x :: xs) ys) (upd (upd H dx (.own x)) x (.ins C dx [])) (fun v G => v = .non ∧ Q (.ref x) G) (E σ)
theorem callVS_mk (M : Mk X.K C f) (F : FnG X.prog X.w X.K X.mg X.base CX k f fd ps sp) (hb : KBn X.K fd ps (n + 1) ks g gV) (hx : ∀ σ, PassesAt CX X σ (E σ)) (hG : X.A.guards = some []) (hr : Room (k + 1) X.A) : CallVS X (.ref C) ks (rMkS C n ks.length gV sp E) := by
  rintro pins s σ H xs ys us ws Q I rx ry ⟨l1, l2, h⟩
  have e1 : (Value.ref (s.heap.objs.size + 1) :: us).length = n + 1 := by
    rw [List.length_cons, ← rx.length, l1]
  have e2 : ws.length = ks.length := ry.length ▸ l2
  have hs := h (s.heap.objs.size + 1) s.heap.objs.size (I.hok.fresh (Nat.le_succ _)) (I.hok.fresh (Nat.le_refl _)) (Nat.ne_of_lt (Nat.lt_succ_self _))
  have J := Inv.made (C := C) I
  have rx' : Vals (V.ref (s.heap.objs.size + 1) :: xs) (Value.ref (s.heap.objs.size + 1) :: us) := .cons rfl rx
  refine wpAny_call (make_map (f := f) I.kIn M.makes M.init (beq_iff_eq.mp M.fn) (codeAny_mono (F.run _ X.stack _ _ ⟨Value.ref (s.heap.objs.size + 1) :: us, ks.zip ws⟩ _ _ _ (E σ) (make_guards hG) (hr.make C us (ks.zip ws))
    (J.env0.make C us (ks.zip ws)) (hb.to _ _ ws J.kIn e1 e2) (hb.rel rx' ry) hs) ?_))
  intro res s' hq
  match res, hq with
  | .error e, hq => exact hx σ pins _ _ e s' J hq
  | .ok (.ret u), hq =>
    obtain ⟨v, G, I', rv, ev, q⟩ := J.after hq
    subst ev
    exact ⟨rv, ⟨V.ref (s.heap.objs.size + 1), G, I', rfl, q⟩⟩
end
/-- the reading of a call -/
def tClS (r : L2.St → List V → List V → Hp → VK → Prop) (t tk : TA) : TE := fun σ H Q => t σ H fun xs H1 => tk σ H1 fun ys H2 => r σ xs ys H2 Q
section
variable {X : Cx} {ks : List Str} {fv : Value} {r : L2.St → List V → List V → Hp → VK → Prop} {x m : Str} {p pos apos : Pos} {e o : Expr} {es : List Expr} {kws : List Keyword} {ta : TE} {t tk : TA}
/-- f(e, ..) -/
theorem pn_posS (c : CallVS X fv [] r) (hg : Gl X x) (hm : X.mg x = some fv) (hk : PySem.W.keepIn X.K fv = true) (ha : PA X (e :: es) t) (hd : (x == ("__debug__" : Str)) = false := by decide)
    (he : starEach (e :: es) X.env = (false, eval e X.env) :: starEach es X.env := by rfl) (hp : (backTo pos (starEach es X.env)).any (·.1) = false := by rfl) : PE X (.Call (.Name x p) (e :: es) [] pos) (tClS r t tNil) := by
  constructor
  intro pins s σ H Q I h
  exact wpAny_Call_Name_kw (ld_glob I hg hm (PySem.W.callWith_K (h₀ := X.base) I.ok.mod.kin hk (thn (ha.run pos pins s σ H _ I h) fun us s1 ⟨xs, H1, I1, rx, q⟩ => ⟨I1.kIn, c pins s1 σ H1 xs [] us [] Q I1 rx .nil q⟩) he hp) hd)
/-- f() -/
theorem pn_noneS (c : CallVS X fv [] r) (hg : Gl X x) (hm : X.mg x = some fv) (hk : PySem.W.keepIn X.K fv = true) (hd : (x == ("__debug__" : Str)) = false := by decide) : PE X (.Call (.Name x p) [] [] pos) (tClS r tNil tNil) := by
  constructor
  intro pins s σ H Q I h
  exact wpAny_Call_Name_kw (ld_glob I hg hm (PySem.W.callWith_K0 I.kIn hk (c pins s σ H [] [] [] [] Q I .nil .nil h)) hd)
/-- f(e, .., k = v, ..) -/
theorem pn_kwS (c : CallVS X fv ks r) (hg : Gl X x) (hm : X.mg x = some fv) (hk : PySem.W.keepIn X.K fv = true) (ha : PA X (e :: es) t) (hkw : PK X kws tk) (hall : (backToKw pos (keywordEach kws X.env)).all (·.1.isSome) = true := by rfl)
    (hks : (backToKw pos (keywordEach kws X.env)).filterMap (·.1) = ks := by rfl) (hd : (x == ("__debug__" : Str)) = false := by decide) (he : starEach (e :: es) X.env = (false, eval e X.env) :: starEach es X.env := by rfl)
    (hp : ((backTo pos (starEach (e :: es) X.env)).any (·.1) || (backToKw pos (keywordEach kws X.env)).any (·.1.isNone)) = false := by rfl) : PE X (.Call (.Name x p) (e :: es) kws pos) (tClS r t tk) := by
  constructor
  intro pins s σ H Q I h
  subst hks
  exact wpAny_Call_Name_kw (ld_glob I hg hm (PySem.W.callWith_KW (h₀ := X.base) I.ok.mod.kin hk hall (thn (ha.run pos pins s σ H _ I h) fun us s1 ⟨xs, H1, I1, rx, q⟩ =>
    thn (hkw.run pos pins s1 σ H1 _ I1 q) fun ws s2 ⟨ys, H2, I2, ry, q2⟩ => ⟨I2.kIn, c pins s2 σ H2 xs ys us ws Q I2 rx ry q2⟩) hp he) hd)
/-- f(k = v, ..) -/
theorem pn_kw0S (c : CallVS X fv ks r) (hg : Gl X x) (hm : X.mg x = some fv) (hk : PySem.W.keepIn X.K fv = true) (hkw : PK X kws tk) (hall : (backToKw pos (keywordEach kws X.env)).all (·.1.isSome) = true := by rfl)
    (hks : (backToKw pos (keywordEach kws X.env)).filterMap (·.1) = ks := by rfl) (hd : (x == ("__debug__" : Str)) = false := by decide)
    (hp : ((backTo pos (starEach [] X.env)).any (·.1) || (backToKw pos (keywordEach kws X.env)).any (·.1.isNone)) = false := by rfl) : PE X (.Call (.Name x p) [] kws pos) (tClS r tNil tk) := by
  constructor
  intro pins s σ H Q I h
  subst hks
  exact wpAny_Call_Name_kw (ld_glob I hg hm (PySem.W.callWith_KW0 (h₀ := X.base) I.ok.mod.kin hk hall (thn (hkw.run pos pins s σ H _ I h) fun ws s2 ⟨ys, H2, I2, ry, q2⟩ => ⟨I2.kIn, c pins s2 σ H2 [] ys [] ws Q I2 .nil ry q2⟩) hp) hd)
/-- o.m(..): o is an instance of the class at C -/
def tMtS (C : Addr) (m : Str) (r : L2.St → List V → List V → Hp → VK → Prop) (ta : TE) (t tk : TA) : TE := fun σ H Q => ta σ H fun x H1 => ∃ a dx fs, x = .ref a ∧ H1 a = some (.ins C dx fs) ∧ List.lookup m fs = none ∧
  t σ H1 fun xs H2 => tk σ H2 fun ys H3 => r σ (.ref a :: xs) ys H3 Q
variable {C f : Addr} {pl : Sem Bool}
theorem pm_posS (c : CallVS X (.ref f) [] r) (hc : Cls X.K C) (hm : Meth X.K C m f) (ho : PE X o ta) (ha : PA X (e :: es) t) (he : starEach (e :: es) X.env = (false, eval e X.env) :: starEach es X.env := by rfl) (hp : (backTo pos (starEach es X.env)).any (·.1) = false := by rfl)
    (ht : eval (.Call (.Attribute o m apos) (e :: es) [] pos) X.env = (do
      let ov ← eval o X.env
      standAt apos.atName
      let (f, first) ← holding [ov] (getMethod ov m pl)
      callWith pos f first (backTo pos (starEach (e :: es) X.env)) (backToKw pos (keywordEach [] X.env))) := by rfl) : PE X (.Call (.Attribute o m apos) (e :: es) [] pos) (tMtS C m r ta t tNil) := by
  constructor
  intro pins s σ H Q I h
  refine PySem.W.methodCall_KW (pl := pl) (thn (ho.run pins s σ H _ I h) ?_) ht
  rintro u s1 ⟨y, H1, I1, ry, a, dx, fs, rfl, ea, l, q⟩
  obtain rfl : u = Value.ref a := ry
  exact getmeth_ok I1 ea hc hm l (PySem.W.callWith_K (first := [.ref a]) (h₀ := X.base) I.ok.mod.kin hm.kp (thn (ha.run pos pins s1 σ H1 _ I1 q) fun us s2 ⟨xs, H2, I2, rx, q2⟩ => ⟨I2.kIn, c pins s2 σ H2 _ [] (.ref a :: us) [] Q I2 (.cons (show RelV (V.ref a) (Value.ref a) from rfl) rx) .nil q2⟩) he hp)
theorem pm_noneS (c : CallVS X (.ref f) [] r) (hc : Cls X.K C) (hm : Meth X.K C m f) (ho : PE X o ta)
    (ht : eval (.Call (.Attribute o m apos) [] [] pos) X.env = (do
      let ov ← eval o X.env
      standAt apos.atName
      let (f, first) ← holding [ov] (getMethod ov m pl)
      callWith pos f first (backTo pos (starEach [] X.env)) (backToKw pos (keywordEach [] X.env))) := by rfl) : PE X (.Call (.Attribute o m apos) [] [] pos) (tMtS C m r ta tNil tNil) := by
  constructor
  intro pins s σ H Q I h
  refine PySem.W.methodCall_KW (pl := pl) (thn (ho.run pins s σ H _ I h) ?_) ht
  rintro u s1 ⟨y, H1, I1, ry, a, dx, fs, rfl, ea, l, q⟩
  obtain rfl : u = Value.ref a := ry
  exact getmeth_ok I1 ea hc hm l (PySem.W.callWith_K0 (first := [.ref a]) I1.kIn hm.kp (c pins s1 σ H1 _ [] [.ref a] [] Q I1 (.cons (show RelV (V.ref a) (Value.ref a) from rfl) .nil) .nil q))
theorem pm_kw0S (c : CallVS X (.ref f) ks r) (hc : Cls X.K C) (hm : Meth X.K C m f) (ho : PE X o ta) (hkw : PK X kws tk) (hall : (backToKw pos (keywordEach kws X.env)).all (·.1.isSome) = true := by rfl)
    (hks : (backToKw pos (keywordEach kws X.env)).filterMap (·.1) = ks := by rfl)
    (hp : ((backTo pos (starEach [] X.env)).any (·.1) || (backToKw pos (keywordEach kws X.env)).any (·.1.isNone)) = false := by rfl)
    (ht : eval (.Call (.Attribute o m apos) [] kws pos) X.env = (do
      let ov ← eval o X.env
      standAt apos.atName
      let (f, first) ← holding [ov] (getMethod ov m pl)
      callWith pos f first (backTo pos (starEach [] X.env)) (backToKw pos (keywordEach kws X.env))) := by rfl) : PE X (.Call (.Attribute o m apos) [] kws pos) (tMtS C m r ta tNil tk) := by
  constructor
  intro pins s σ H Q I h
  subst hks
  refine PySem.W.methodCall_KW (pl := pl) (thn (ho.run pins s σ H _ I h) ?_) ht
  rintro u s1 ⟨y, H1, I1, ry, a, dx, fs, rfl, ea, l, q⟩
  obtain rfl : u = Value.ref a := ry
  exact getmeth_ok I1 ea hc hm l (PySem.W.callWith_KW0 (first := [.ref a]) (h₀ := X.base) I.ok.mod.kin hm.kp hall (thn (hkw.run pos pins s1 σ H1 _ I1 q) fun ws s2 ⟨ys, H2, I2, ry', q2⟩ => ⟨I2.kIn, c pins s2 σ H2 _ ys [.ref a] ws Q I2 (.cons (show RelV (V.ref a) (Value.ref a) from rfl) .nil) ry' q2⟩) hp)
end
end Eld
set_option Elab.async false
set_option maxRecDepth 100000
set_option maxHeartbeats 4000000
set_option linter.all false
namespace Eld
open PySem PySem.Spec PyProof.Rows L2
/-! ## the package's errors with the one attribute given -/
def gv (v : V) : List (Str × V) := [("given", v)]
def spErr (C : Addr) : Sp := fun vs H Q _ => ∃ a v, vs = [.ref a, v] ∧ H a = some (exo a C none) ∧ ∀ dx, H dx = none → dx ≠ a → Q .non (upd (upd H dx (exd dx (gv v))) a (exo a C (some dx)))
section
variable (P : Program) (w : World) (K : PySem.W.Frag) (mg : Str → Option Value) (base : Heap)
/-- the error class x at C -/
def ErrD (x : Str) (C : Addr) : Prop := ∃ (f : Addr) (fd : FuncData), mg x = some (.ref C) ∧ OexC K C ∧ PySem.W.findIn K (.ref C) "__init__" = some (some (.ref f)) ∧ PySem.W.typeIn K (.ref f) = some (.type "function") ∧
  PySem.W.findIn K (.ref C) "given" = some none ∧ FnOk P w K mg base CX0 1 f fd ["self", "given"] (spErr C) ∧ Binds K fd ["self", "given"] []
end
section
variable {X : Cx} {x : Str} {C : Addr} {W : WX} {e : Expr} {es : List Expr} {ta : TA} {p pos pos2 : Pos}
/-- raise x(e) -/
theorem ps_err (d : ErrD X.prog X.w X.K X.mg X.base x C) (hc : X.calm = true) (tk : Takes X W) (hr : Room 2 X.A) (hg : Gl X x) (ha : PA X (e :: es) ta)
    (hd : (x == ("__debug__" : Str)) = false := by decide) (he : starEach (e :: es) X.env = (false, eval e X.env) :: starEach es X.env := by rfl) (hp : (backTo pos (starEach es X.env)).any (·.1) = false := by rfl) :
    PS X (.Raise (some (.Call (.Name x p) (e :: es) [] pos)) none pos2) (fun _ σ H => tMkO C (spErr C) [] ta σ H fun cls d G => W cls d σ G) := by
  obtain ⟨f, fd, gm, T, iC, tI, _, F, b⟩ := d
  exact ps_raise hc tk (pmk_oex (CX := CX0) (ds := []) (dvs := []) T iC tI F hr b .nil pass0 hg gm ha hd he hp)
end
theorem exo_exd {a d C : Addr} {o : Option Addr} : True := trivial
theorem err_done {H1 : Hp} {C : Addr} {v : V} {Qx : XK} (h : ∀ d G, H1 d = none → Same H1 G → G d = some (.xd (gv v)) → Qx (.ref C) (some d) G) :
    ([v] : List V).length ≤ 1000 ∧ ∀ a, H1 a = none → spErr C (.ref a :: ([v] ++ [])) (upd H1 a (exo a C none)) (fun u H2 => u = .non ∧ ∃ (d : Addr) (fs : List (Str × V)), H2 a = some (exo a C (some d)) ∧ H2 d = some (exd d fs) ∧ H1 d = none ∧ Qx (.ref C) (some d) (upd (del H2 a) d (.xd fs))) fun _ _ _ => False := by
  refine ⟨by show 1 ≤ 1000; decide, fun a ha => ⟨a, v, rfl, upd_same, fun dx hdx hne => ⟨rfl, dx, gv v, upd_same, ?_, ?_, ?_⟩⟩⟩
  · rw [upd_ne hne]
    exact upd_same
  · rw [upd_ne hne] at hdx
    exact hdx
  · rw [upd_ne hne] at hdx
    refine h dx _ hdx (fun b o e => ?_) upd_same
    rw [upd_ne (ne_of_none e hdx), del_ne (ne_of_none e ha), upd_ne (ne_of_none e ha), upd_ne (ne_of_none e hdx), upd_ne (ne_of_none e ha)]
    exact e
end Eld
set_option Elab.async false
set_option maxRecDepth 100000
set_option maxHeartbeats 4000000
set_option linter.all false
namespace Eld
open PySem PySem.Spec PyProof.Rows L2
/-! ## defs, methods and classes by name that may raise -/
section
variable (P : Program) (w : World) (K : PySem.W.Frag) (mg : Str → Option Value) (base : Heap)
def DefX (k : Nat) (x : Str) (n : Nat) (ks : List Str) (gV : List V → List V → List V) (sp : Sp) : Prop :=
  ∃ (f : Addr) (fd : FuncData) (ps : List Str) (g : List Value → List Value → List Value), mg x = some (.ref f) ∧ PySem.W.keepIn K (.ref f) = true ∧ FnG P w K mg base (L2.CX P w) k f fd ps sp ∧ KBn K fd ps n ks g gV
def MetX (k : Nat) (C : Addr) (m : Str) (n : Nat) (ks : List Str) (gV : List V → List V → List V) (sp : Sp) : Prop :=
  ∃ (f : Addr) (fd : FuncData) (ps : List Str) (g : List Value → List Value → List Value), Cls K C ∧ Meth K C m f ∧ FnG P w K mg base (L2.CX P w) k f fd ps sp ∧ KBn K fd ps n ks g gV
def MakX (k : Nat) (x : Str) (C : Addr) (n : Nat) (ks : List Str) (gV : List V → List V → List V) (sp : Sp) : Prop :=
  ∃ (f : Addr) (fd : FuncData) (ps : List Str) (g : List Value → List Value → List Value), mg x = some (.ref C) ∧ Mk K C f ∧ FnG P w K mg base (L2.CX P w) k f fd ps sp ∧ KBn K fd ps (n + 1) ks g gV
end
section
variable {X : Cx} {W : WX} {ks : List Str} {k j n : Nat} {gV : List V → List V → List V} {sp : Sp} {x m : Str} {C : Addr} {p pos apos : Pos} {e o : Expr} {es : List Expr} {ta : TE} {t : TA} {pl : Sem Bool}
theorem pdX_pos (d : DefX X.prog X.w X.K X.mg X.base k x n [] gV sp) (tk : Takes X W) (hG : X.A.guards = some []) (hr : Room j X.A) (hk : k ≤ j) (hg : Gl X x) (ha : PA X (e :: es) t) (hd : (x == ("__debug__" : Str)) = false := by decide)
    (he : starEach (e :: es) X.env = (false, eval e X.env) :: starEach es X.env := by rfl) (hp : (backTo pos (starEach es X.env)).any (·.1) = false := by rfl) : PE X (.Call (.Name x p) (e :: es) [] pos) (tClS (rFnS n 0 gV sp (WE W)) t tNil) := by
  obtain ⟨f, fd, ps, g, hm, kp, F, b⟩ := d
  exact pn_posS (callVS_fn F b (fun σ => passAt tk σ) hG (hr.mono hk)) hg hm kp ha hd he hp
theorem pkX_pos (d : MakX X.prog X.w X.K X.mg X.base k x C n [] gV sp) (tk : Takes X W) (hG : X.A.guards = some []) (hr : Room j X.A) (hk : k + 1 ≤ j) (hg : Gl X x) (ha : PA X (e :: es) t) (hd : (x == ("__debug__" : Str)) = false := by decide)
    (he : starEach (e :: es) X.env = (false, eval e X.env) :: starEach es X.env := by rfl) (hp : (backTo pos (starEach es X.env)).any (·.1) = false := by rfl) : PE X (.Call (.Name x p) (e :: es) [] pos) (tClS (rMkS C n 0 gV sp (WE W)) t tNil) := by
  obtain ⟨f, fd, ps, g, hm, M, F, b⟩ := d
  exact pn_posS (callVS_mk M F b (fun σ => passAt tk σ) hG (hr.mono hk)) hg hm M.kp ha hd he hp
theorem pqX_pos (d : MetX X.prog X.w X.K X.mg X.base k C m n [] gV sp) (tk : Takes X W) (hG : X.A.guards = some []) (hr : Room j X.A) (hk : k ≤ j) (ho : PE X o ta) (ha : PA X (e :: es) t) (he : starEach (e :: es) X.env = (false, eval e X.env) :: starEach es X.env := by rfl)
    (hp : (backTo pos (starEach es X.env)).any (·.1) = false := by rfl) (ht : eval (.Call (.Attribute o m apos) (e :: es) [] pos) X.env = (do
      let ov ← eval o X.env
      standAt apos.atName
      let (f, first) ← holding [ov] (getMethod ov m pl)
      callWith pos f first (backTo pos (starEach (e :: es) X.env)) (backToKw pos (keywordEach [] X.env))) := by rfl) : PE X (.Call (.Attribute o m apos) (e :: es) [] pos) (tMtS C m (rFnS n 0 gV sp (WE W)) ta t tNil) := by
  obtain ⟨f, fd, ps, g, hc, hm, F, b⟩ := d
  exact pm_posS (callVS_fn F b (fun σ => passAt tk σ) hG (hr.mono hk)) hc hm ho ha he hp ht
end
section
variable {σ : L2.St} {H : Hp} {Q : VK} {E : L2.St → XK}
theorem r_clS {r : L2.St → List V → List V → Hp → VK → Prop} {t tk : TA} (h : t σ H fun xs H1 => tk σ H1 fun ys H2 => r σ xs ys H2 Q) : tClS r t tk σ H Q := h
theorem r_fnS {n m : Nat} {gV : List V → List V → List V} {sp : Sp} {xs ys : List V} (h1 : xs.length = n) (h2 : ys.length = m) (h : sp (gV xs ys) H Q (E σ)) : rFnS n m gV sp E σ xs ys H Q := ⟨h1, h2, h⟩
theorem r_mkS {C : Addr} {n m : Nat} {gV : List V → List V → List V} {sp : Sp} {xs ys : List V} (h1 : xs.length = n) (h2 : ys.length = m)
    (h : ∀ x dx, H x = none → H dx = none → dx ≠ x → sp (gV (.ref x :: xs) ys) (upd (upd H dx (.own x)) x (.ins C dx [])) (fun v G => v = .non ∧ Q (.ref x) G) (E σ)) : rMkS C n m gV sp E σ xs ys H Q := ⟨h1, h2, h⟩
theorem r_mtS {C : Addr} {m : Str} {r : L2.St → List V → List V → Hp → VK → Prop} {ta : TE} {t tk : TA} (h : ta σ H fun x H1 => ∃ a dx fs, x = .ref a ∧ H1 a = some (.ins C dx fs) ∧ List.lookup m fs = none ∧ t σ H1 fun xs H2 => tk σ H2 fun ys H3 => r σ (.ref a :: xs) ys H3 Q) : tMtS C m r ta t tk σ H Q := h
end
end Eld
set_option Elab.async false
set_option maxRecDepth 100000
set_option maxHeartbeats 4000000
set_option linter.all false
namespace Eld
open PySem PySem.Spec PyProof.Rows L2
/-- an own exception without fields of its own, at C -/
structure Exc0 (K : PySem.W.Frag) (C : Addr) : Prop where
  q : PySem.W.excIn K C [.type "ValueError", .type "Exception", .type "BaseException", .type "object"] "ValueError.__new__" = true
  kC : PySem.W.keepIn K (.ref C) = true
  exC : PySem.W.subIn K (.ref C) (.type "BaseException") = some true
  tyC : PySem.W.typeIn K (.ref C) = some (.type "type")
section
variable {X : Cx} {C : Addr} {x : Str} {p pos pos2 : Pos} {W : WX}
/-- x() -/
theorem pmk_own0 (T : Exc0 X.K C) (gC : X.mg x = some (.ref C)) (hg : Gl X x) (hdb : (x == ("__debug__" : Str)) = false := by decide) : PMk X (.Call (.Name x p) [] [] pos) (fun _ H Q => Q (.ref C) none H) := by
  intro pins s σ H Q I h
  refine wpAny_Call_Name_kw (ld_glob I hg gC ?_ hdb)
  refine PySem.W.callWith_K0 I.kIn T.kC ?_
  obtain ⟨bm, N, nm, qn, bs, hdct, sn, sub, ab, col, dd, k0, k1, k2, k3, k5, mN, hC, hN, hni, TT⟩ := exc_obj I.kIn T.q
  refine wpAny_call_exc_subT PySem.F.excBase_ValueError TT hC hN hni (fun h' e hm => ?_) (by show 0 ≤ sizeLine; rw [sizeLine_eq]; omega)
  exact mk_of I hm (raises_own T.exC T.tyC) h (I.hok.gone hm.new)
/-- raise x() -/
theorem ps_err0 (T : Exc0 X.K C) (gC : X.mg x = some (.ref C)) (hc : X.calm = true) (tk : Takes X W) (hg : Gl X x) (hdb : (x == ("__debug__" : Str)) = false := by decide) :
    PS X (.Raise (some (.Call (.Name x p) [] [] pos)) none pos2) (fun _ σ H => W (.ref C) none σ H) := ps_raise hc tk (pmk_own0 T gC hg hdb)
end
end Eld
set_option Elab.async false
set_option linter.all false
namespace Eld
/-! ## quotients in lowest terms -/
def gcdI (a b : Int) : Int := ((Nat.gcd a.natAbs b.natAbs : Nat) : Int)
def sgI (a b : Int) : Int := if b < 0 then -gcdI a b else gcdI a b
def lowT (a b : Int) : Int := a.fdiv (sgI a b)
def lowB (a b : Int) : Int := b.fdiv (sgI a b)
/-- a top and a bottom in lowest terms -/
structure Low (n d : Int) : Prop where
  pos : 0 < d
  cop : Nat.gcd n.natAbs d.natAbs = 1
theorem gcdI_pos {a b : Int} (h : b ≠ 0) : 0 < gcdI a b := by
  have : 0 < Nat.gcd a.natAbs b.natAbs := Nat.gcd_pos_of_pos_right _ (Int.natAbs_pos.mpr h)
  unfold gcdI
  omega
theorem gcdI_left (a b : Int) : gcdI a b ∣ a := Int.natAbs_dvd_natAbs.mp (show a.natAbs.gcd b.natAbs ∣ a.natAbs from Nat.gcd_dvd_left _ _)
theorem gcdI_right (a b : Int) : gcdI a b ∣ b := Int.natAbs_dvd_natAbs.mp (show a.natAbs.gcd b.natAbs ∣ b.natAbs from Nat.gcd_dvd_right _ _)
theorem sgI_ne {a b : Int} (h : b ≠ 0) : sgI a b ≠ 0 := by
  have := gcdI_pos (a := a) h
  unfold sgI
  split <;> omega
theorem sgI_left (a b : Int) : sgI a b ∣ a := by
  unfold sgI
  split
  · exact Int.neg_dvd.mpr (gcdI_left a b)
  · exact gcdI_left a b
theorem sgI_right (a b : Int) : sgI a b ∣ b := by
  unfold sgI
  split
  · exact Int.neg_dvd.mpr (gcdI_right a b)
  · exact gcdI_right a b
theorem lowT_mul (a b : Int) : lowT a b * sgI a b = a := by
  unfold lowT
  rw [Int.fdiv_eq_ediv_of_dvd (sgI_left a b)]
  exact Int.ediv_mul_cancel (sgI_left a b)
theorem lowB_mul (a b : Int) : lowB a b * sgI a b = b := by
  unfold lowB
  rw [Int.fdiv_eq_ediv_of_dvd (sgI_right a b)]
  exact Int.ediv_mul_cancel (sgI_right a b)
theorem sgI_abs (a b : Int) : (sgI a b).natAbs = Nat.gcd a.natAbs b.natAbs := by
  unfold sgI gcdI
  split
  · rw [Int.natAbs_neg]
    exact Int.natAbs_natCast _
  · exact Int.natAbs_natCast _
theorem low_low {a b : Int} (h : b ≠ 0) : Low (lowT a b) (lowB a b) := by
  have e1 := lowT_mul a b
  have e2 := lowB_mul a b
  have hs := sgI_ne (a := a) h
  have hg := gcdI_pos (a := a) h
  constructor
  · unfold sgI at e2 hs
    split at e2
    · rename_i hb
      rcases Int.lt_trichotomy 0 (lowB a b) with q | q | q
      · exact q
      · rw [← q] at e2; omega
      · have := Int.mul_pos_of_neg_of_neg q (show -gcdI a b < 0 by omega)
        omega
    · rename_i hb
      rcases Int.lt_trichotomy 0 (lowB a b) with q | q | q
      · exact q
      · rw [← q] at e2; omega
      · have := Int.mul_neg_of_neg_of_pos q hg
        omega
  · have f1 : (lowT a b).natAbs * Nat.gcd a.natAbs b.natAbs = a.natAbs := by rw [← sgI_abs, ← Int.natAbs_mul, e1]
    have f2 : (lowB a b).natAbs * Nat.gcd a.natAbs b.natAbs = b.natAbs := by rw [← sgI_abs, ← Int.natAbs_mul, e2]
    have gp : 0 < Nat.gcd a.natAbs b.natAbs := Nat.gcd_pos_of_pos_right _ (Int.natAbs_pos.mpr h)
    have key : Nat.gcd ((lowT a b).natAbs * Nat.gcd a.natAbs b.natAbs) ((lowB a b).natAbs * Nat.gcd a.natAbs b.natAbs) = Nat.gcd a.natAbs b.natAbs := by rw [f1, f2]
    rw [Nat.gcd_mul_right] at key
    exact Nat.eq_of_mul_eq_mul_right gp (by rw [key, Nat.one_mul])
/-- two in lowest terms that are one quotient -/
theorem Low.uniq {n d n' d' : Int} (h : Low n d) (h' : Low n' d') (e : n * d' = n' * d) : n = n' ∧ d = d' := by
  have p := h.pos
  have p' := h'.pos
  have en : n.natAbs * d'.natAbs = n'.natAbs * d.natAbs := by rw [← Int.natAbs_mul, ← Int.natAbs_mul, e]
  have c1 : Nat.Coprime d.natAbs n.natAbs := (Nat.gcd_comm _ _).trans h.cop
  have c2 : Nat.Coprime d'.natAbs n'.natAbs := (Nat.gcd_comm _ _).trans h'.cop
  have d1 : d.natAbs ∣ d'.natAbs := c1.dvd_of_dvd_mul_left (by rw [en]; exact Nat.dvd_mul_left _ _)
  have d2 : d'.natAbs ∣ d.natAbs := c2.dvd_of_dvd_mul_left (by rw [← en]; exact Nat.dvd_mul_left _ _)
  have ed : d.natAbs = d'.natAbs := Nat.dvd_antisymm d1 d2
  have ed' : d = d' := by omega
  refine ⟨?_, ed'⟩
  rw [ed'] at e
  exact Int.eq_of_mul_eq_mul_right (by omega) e
theorem low_eq {a b c d : Int} (hb : b ≠ 0) (hd : d ≠ 0) (e : a * d = c * b) : lowT a b = lowT c d ∧ lowB a b = lowB c d := by
  refine Low.uniq (low_low hb) (low_low hd) ?_
  have e1 := lowT_mul a b
  have e2 := lowB_mul a b
  have e3 := lowT_mul c d
  have e4 := lowB_mul c d
  have s1 := sgI_ne (a := a) hb
  have s2 := sgI_ne (a := c) hd
  have k : (lowT a b * lowB c d) * (sgI a b * sgI c d) = (lowT c d * lowB a b) * (sgI a b * sgI c d) := by
    calc (lowT a b * lowB c d) * (sgI a b * sgI c d) = (lowT a b * sgI a b) * (lowB c d * sgI c d) := by ac_rfl
      _ = a * d := by rw [e1, e4]
      _ = c * b := e
      _ = (lowT c d * sgI c d) * (lowB a b * sgI a b) := by rw [e3, e2]
      _ = (lowT c d * lowB a b) * (sgI a b * sgI c d) := by ac_rfl
  exact Int.eq_of_mul_eq_mul_right (Int.mul_ne_zero s1 s2) k
theorem low_id {n d : Int} (h : Low n d) : lowT n d = n ∧ lowB n d = d := by
  have p := h.pos
  have hd : d ≠ 0 := by omega
  have s : sgI n d = 1 := by
    unfold sgI gcdI
    rw [h.cop, if_neg (by omega)]
    rfl
  have e1 := lowT_mul n d
  have e2 := lowB_mul n d
  rw [s, Int.mul_one] at e1 e2
  exact ⟨e1, e2⟩
theorem low_neg {a b : Int} (h : b ≠ 0) : lowT (-a) b = -lowT a b ∧ lowB (-a) b = lowB a b := by
  have l1 := low_low (a := -a) h
  have l2 := low_low (a := a) h
  have l3 : Low (-lowT a b) (lowB a b) := ⟨l2.pos, by rw [Int.natAbs_neg]; exact l2.cop⟩
  refine l1.uniq l3 ?_
  have e1 := lowT_mul (-a) b
  have e2 := lowB_mul (-a) b
  have e3 := lowT_mul a b
  have e4 := lowB_mul a b
  have s1 := sgI_ne (a := -a) h
  have s2 := sgI_ne (a := a) h
  have k : (lowT (-a) b * lowB a b) * (sgI (-a) b * sgI a b) = (-lowT a b * lowB (-a) b) * (sgI (-a) b * sgI a b) := by
    calc (lowT (-a) b * lowB a b) * (sgI (-a) b * sgI a b) = (lowT (-a) b * sgI (-a) b) * (lowB a b * sgI a b) := by ac_rfl
      _ = -a * b := by rw [e1, e4]
      _ = -(lowT a b * sgI a b) * (lowB (-a) b * sgI (-a) b) := by rw [e3, e2]
      _ = (-lowT a b * sgI a b) * (lowB (-a) b * sgI (-a) b) := by rw [Int.neg_mul (lowT a b) (sgI a b)]
      _ = (-lowT a b * lowB (-a) b) * (sgI (-a) b * sgI a b) := by ac_rfl
  exact Int.eq_of_mul_eq_mul_right (Int.mul_ne_zero s1 s2) k
theorem lowT_le {a b : Int} (h : b ≠ 0) : (lowT a b).natAbs ≤ a.natAbs := by
  have e1 : (lowT a b).natAbs * (sgI a b).natAbs = a.natAbs := by rw [← Int.natAbs_mul, lowT_mul]
  have : 0 < (sgI a b).natAbs := Int.natAbs_pos.mpr (sgI_ne h)
  rw [← e1]
  exact Nat.le_mul_of_pos_right _ this
theorem lowB_le {a b : Int} (h : b ≠ 0) : (lowB a b).natAbs ≤ b.natAbs := by
  have e1 : (lowB a b).natAbs * (sgI a b).natAbs = b.natAbs := by rw [← Int.natAbs_mul, lowB_mul]
  have : 0 < (sgI a b).natAbs := Int.natAbs_pos.mpr (sgI_ne h)
  rw [← e1]
  exact Nat.le_mul_of_pos_right _ this
theorem low_int (a : Int) : Low a 1 := ⟨by decide, by show Nat.gcd a.natAbs 1 = 1; exact Nat.gcd_one_right _⟩
end Eld
set_option Elab.async false
set_option maxRecDepth 100000
set_option maxHeartbeats 4000000
set_option linter.all false
namespace Eld
open PySem PySem.Spec PyProof.Rows L2
section
variable (P : Program) (w : World) (K : PySem.W.Frag) (mg : Str → Option Value) (base : Heap)
/-- x op y by the class's own def -/
def OpA (k : Nat) (op : Operator) (C : Addr) (sp : Sp) : Prop := ∃ (f g : Addr) (fd : FuncData), OwnOp K C op f g ∧ FnG P w K mg base CX0 k f fd ["self", "other"] sp ∧ Binds K fd ["self", "other"] []
/-- the turned one -/
def OpT (k : Nat) (op : Operator) (C : Addr) (sp : Sp) : Prop := ∃ (f g : Addr) (fd : FuncData), OwnOp K C op f g ∧ FnG P w K mg base CX0 k g fd ["self", "other"] sp ∧ Binds K fd ["self", "other"] []
/-- -x -/
def NegA (k : Nat) (C : Addr) (sp : Sp) : Prop := ∃ (f : Addr) (fd : FuncData), PySem.W.findIn K (.ref C) "__neg__" = some (some (.ref f)) ∧ PySem.W.isFn K (.ref f) = true ∧ FnG P w K mg base CX0 k f fd ["self"] sp ∧ Binds K fd ["self"] []
/-- str(x) -/
def StrA (k : Nat) (C : Addr) (sp : Sp) : Prop := ∃ (f : Addr) (fd : FuncData), PySem.W.findIn K (.ref C) "__str__" = some (some (.ref f)) ∧ PySem.W.isFn K (.ref f) = true ∧ FnG P w K mg base CX0 k f fd ["self"] sp ∧ Binds K fd ["self"] []
/-- x == y -/
def EqA (k : Nat) (C : Addr) (sp : Sp) : Prop := ∃ (f : Addr) (fd : FuncData), PySem.W.findIn K (.ref C) "__eq__" = some (some (.ref f)) ∧ PySem.W.isFn K (.ref f) = true ∧ PySem.W.findIn K (.ref C) "__ne__" = some (some (.builtin "object.__ne__")) ∧ PySem.W.subIn K (.ref C) (.type "object") = some true ∧
  PySem.W.subIn K (.ref C) (.type "int") = some false ∧ FnG P w K mg base CX0 k f fd ["self", "other"] sp ∧ Binds K fd ["self", "other"] []
end
section
variable {X : Cx} {k j : Nat} {op : Operator} {C : Addr} {sp spR : Sp}
theorem o_A (d : OpA X.prog X.w X.K X.mg X.base k op C sp) (hG : X.A.guards = some []) (hr : Room j X.A) (hk : k ≤ j) : OpR X (binaryOp op) (rOwnOp C sp fun _ _ _ => False) := by
  obtain ⟨f, g, fd, O, F, b⟩ := d
  exact op_ownOp O F b pass0 hG (hr.mono hk)
def rNN (C : Addr) (spA spR : Sp) : R2 := fun x y H Q => rOwnOp C spA (fun _ _ _ => False) x y H Q ∨ rOwnR C spR (fun _ _ _ => False) x y H Q
theorem o_N (d : OpA X.prog X.w X.K X.mg X.base k op C sp) (e : OpT X.prog X.w X.K X.mg X.base k op C spR) (N : IntOp op) (hG : X.A.guards = some []) (hr : Room j X.A) (hk : k ≤ j) : OpR X (binaryOp op) (rNN C sp spR) := by
  intro pins s σ H x y v u Q I rx ry h
  rcases h with h | h
  · exact o_A d hG hr hk pins s σ H x y v u Q I rx ry h
  · obtain ⟨f, g, fd, O, F, b⟩ := e
    exact op_ownR O N F b pass0 hG (hr.mono hk) pins s σ H x y v u Q I rx ry h
theorem o_neg (d : NegA X.prog X.w X.K X.mg X.base k C sp) (hG : X.A.guards = some []) (hr : Room j X.A) (hk : k ≤ j) : UnR X (unaryOp .USub) (rOwnN C sp fun _ _ _ => False) := by
  obtain ⟨f, fd, h1, h2, F, b⟩ := d
  exact un_own F b pass0 h1 h2 hG (hr.mono hk)
theorem o_str (d : StrA X.prog X.w X.K X.mg X.base k C sp) (hG : X.A.guards = some []) (hr : Room j X.A) (hk : k + 2 ≤ j) : CallR X (.type "str") (rOwnStr C sp fun _ _ _ => False) := by
  obtain ⟨f, fd, h1, h2, F, b⟩ := d
  exact call_ownStr F b pass0 h1 h2 hG (hr.mono hk)
theorem o_eq (d : EqA X.prog X.w X.K X.mg X.base k C sp) (hG : X.A.guards = some []) (hr : Room j X.A) (hk : k ≤ j) : OpR X (compareOp .Eq) (rOwnC X.K C sp fun _ _ _ => False) := by
  obtain ⟨f, fd, h1, h2, _, _, _, F, b⟩ := d
  exact op_ownEq F b pass0 h1 h2 hG (hr.mono hk)
def rEqN (K : PySem.W.Frag) (C : Addr) (sp : Sp) : R2 := fun x y H Q => rOwnC K C sp (fun _ _ _ => False) x y H Q ∨ rOwnR C sp (fun _ _ _ => False) x y H Q
theorem o_eqN (d : EqA X.prog X.w X.K X.mg X.base k C sp) (hG : X.A.guards = some []) (hr : Room j X.A) (hk : k ≤ j) : OpR X (compareOp .Eq) (rEqN X.K C sp) := by
  intro pins s σ H x y v u Q I rx ry h
  rcases h with h | h
  · exact o_eq d hG hr hk pins s σ H x y v u Q I rx ry h
  · obtain ⟨f, fd, h1, h2, _, _, ic, F, b⟩ := d
    exact op_ownEqR F b pass0 ic h1 h2 hG (hr.mono hk) pins s σ H x y v u Q I rx ry h
theorem o_ne (d : EqA X.prog X.w X.K X.mg X.base k C sp) (hG : X.A.guards = some []) (hr : Room j X.A) (hk : k + 1 ≤ j) : OpR X (compareOp .NotEq) (rOwnNe X.K C sp fun _ _ _ => False) := by
  obtain ⟨f, fd, h1, h2, hn, ho, _, F, b⟩ := d
  exact op_ownNe F b pass0 h1 h2 hn ho hG (hr.mono hk)
/-! ### // by any divisor, gcd and lcm -/
def CDivZ (_ j : Int) : Prop := j ≠ 0 ∧ j.natAbs.log2 < 9000
theorem op_fdivZ : OpR X (binaryOp .FloorDiv) (rI CDivZ fun i j => .int (i.fdiv j)) := opI fun i j _ _ _ _ _ hc q => floordiv_int hc.1 q (.inl (PyProof.noPylong_of_log2 hc.2))
def rLcm : List V → Hp → VK → Prop := fun vs H Q => ∃ a b : Int, vs = [.int a, .int b] ∧ a.natAbs < 2 ^ 2000 ∧ b.natAbs < 2 ^ 2000 ∧ Q (.int ((Nat.lcm a.natAbs b.natAbs : Nat) : Int)) H
theorem log2_of {n k : Nat} (h : n < 2 ^ k) (h0 : 0 < k) : n.log2 < k := by
  rcases Nat.eq_zero_or_pos n with e | e
  · subst e
    rw [Nat.log2_zero]
    exact h0
  · exact (Nat.log2_lt (Nat.ne_of_gt e)).mpr h
theorem cr_lcm : CallR X (.builtin "math.lcm") rLcm := by
  intro pins s σ H vs us Q I r h
  obtain ⟨a, b, rfl, ha, hb, q⟩ := h
  obtain ⟨t, u, rfl⟩ := Vals.int2 r
  have one : Nat.lcm 1 a.natAbs = a.natAbs := Nat.lcm_one_left _
  have m1 : max 1 a.natAbs < 2 ^ 2000 := Nat.max_lt.mpr ⟨by decide, ha⟩
  have m2 : max a.natAbs b.natAbs < 2 ^ 2000 := Nat.max_lt.mpr ⟨ha, hb⟩
  have hl : (Nat.lcm a.natAbs b.natAbs).log2 < bitsLine := by
    have : Nat.lcm a.natAbs b.natAbs < 2 ^ 4000 := by
      refine Nat.lt_of_le_of_lt (Nat.div_le_self _ _) ?_
      rw [show (4000 : Nat) = 2000 + 2000 from rfl, Nat.pow_add]
      exact Nat.mul_lt_mul'' ha hb
    exact Nat.lt_trans (log2_of this (by decide)) (by decide)
  refine call_function_meets PySem.W.MGF.kind_lcm PySem.W.MGF.plain_lcm PySem.W.MGF.entry_lcm (PySem.W.MGF.args_lcm _ _) (PySem.W.mg_run_lcm a t b u ?_ ?_ ?_).meets ?_
  · have := log2_of m1 (by decide)
    omega
  · have := log2_of m2 (by decide)
    omega
  · rw [one, Int.natAbs_natCast]
    exact hl
  · rw [one]
    exact ⟨.int _, H, I.tok _, ⟨_, rfl⟩, q⟩
end
end Eld
set_option Elab.async false
set_option maxRecDepth 100000
set_option maxHeartbeats 4000000
set_option linter.all false
namespace PySem
open Builtin SeqAt
open AutoSeq1 (wpAny_loadPart')
open MeetsSeq MeetsSeq2 MeetsSeq3 SeqRoads2
/-! ## != of two lists of two, whose second items are compared by a def -/
section
variable {prog : Program} {w : World} {A : Around} {R : Result → Shared → Prop} {s : Shared} {l b : Addr} {x0 x1 y0 y1 : Value} {n n2 : Nat} {dd dd2 : Option Addr} {sl sl2 : Array (Option Value)}
abbrev FinOf (prog : Program) (w : World) (A : Around) (R : Result → Shared → Prop) : Fin → Shared → Prop := fun fin s' => match fin with | .done f => R (.ok f) s' | .again c' => c'.quiet = true ∧ codeAny (model prog w) A c' R s'
theorem eld_loop2 (hl : s.heap.get? l = some { cls := .type "list", dict := dd, data := .seq #[x0, x1] n, slots := sl }) (hb : s.heap.get? b = some { cls := .type "list", dict := dd2, data := .seq #[y0, y1] n2, slots := sl2 }) (h : R (.ok (.ret (.bool false))) s) :
    wpAny (model prog w) A.in1 (Builtin.«list.__eq__.loop» ⟨[.ref l, .ref b, rawInt 2, rawInt 3], []⟩) (FinOf prog w A R) (fun e s' => R (.error e) s') s := by
  obtain ⟨hp, g, d, tk, os⟩ := s
  wp_walk using wpAny_loadPart' hl, wpAny_loadPart' hb
  exact h
theorem eld_loop1 {I1 I2 : Array Value} (e1 : I1 = #[x0, x1]) (e2 : I2 = #[y0, y1]) (hl : s.heap.get? l = some { cls := .type "list", dict := dd, data := .seq I1 n, slots := sl }) (hb : s.heap.get? b = some { cls := .type "list", dict := dd2, data := .seq I2 n2, slots := sl2 })
    (h : wpAny (model prog w) A.in1 (eqBool x1 y1) (fun k s' => k = true ∧ (∃ n dd sl u0 u1, s'.heap.get? l = some { cls := .type "list", dict := dd, data := .seq #[u0, u1] n, slots := sl }) ∧ (∃ n dd sl u0 u1, s'.heap.get? b = some { cls := .type "list", dict := dd, data := .seq #[u0, u1] n, slots := sl }) ∧ R (.ok (.ret (.bool false))) s') (fun e s' => R (.error e) s') s) :
    wpAny (model prog w) A.in1 (Builtin.«list.__eq__.loop» ⟨[.ref l, .ref b, rawInt 1, rawInt 3], []⟩) (FinOf prog w A R) (fun e s' => R (.error e) s') s := by
  obtain ⟨hp, g, d, tk, os⟩ := s
  wp_walk using wpAny_loadPart' hl, wpAny_loadPart' hb
  have hi1 : I1[Int.toNat 1]? = some x1 := by subst e1; rfl
  have hi2 : I2[Int.toNat 1]? = some y1 := by subst e2; rfl
  rw [hi1, hi2]
  refine wpAny_bind (wpAny_mono h ?_ fun _ _ e => e)
  rintro k s' ⟨rfl, ⟨m, dm, ml, u0, u1, h1⟩, ⟨m2, dm2, ml2, v0, v1, h2⟩, hr⟩
  wp_walk
  exact ⟨plainId_quiet plain_eq_loop _, codeAny_builtin entry_eq_loop (by
    rw [Around.under_plainId plain_eq_loop _]
    exact eld_loop2 h1 h2 hr)⟩
theorem eld_loop0 {I1 I2 : Array Value} (e1 : I1 = #[x0, x1]) (e2 : I2 = #[y0, y1]) (hl : s.heap.get? l = some { cls := .type "list", dict := dd, data := .seq I1 n, slots := sl }) (hb : s.heap.get? b = some { cls := .type "list", dict := dd2, data := .seq I2 n2, slots := sl2 }) (h0 : EqAt A.in1 s x0 y0 true)
    (h : wpAny (model prog w) A.in1 (eqBool x1 y1) (fun k s' => k = true ∧ (∃ n dd sl u0 u1, s'.heap.get? l = some { cls := .type "list", dict := dd, data := .seq #[u0, u1] n, slots := sl }) ∧ (∃ n dd sl u0 u1, s'.heap.get? b = some { cls := .type "list", dict := dd, data := .seq #[u0, u1] n, slots := sl }) ∧ R (.ok (.ret (.bool false))) s') (fun e s' => R (.error e) s') s) :
    wpAny (model prog w) A.in1 (Builtin.«list.__eq__.loop» ⟨[.ref l, .ref b, rawInt 0, rawInt 3], []⟩) (FinOf prog w A R) (fun e s' => R (.error e) s') s := by
  obtain ⟨hp, g, d, tk, os⟩ := s
  wp_walk using wpAny_loadPart' hl, wpAny_loadPart' hb
  have hi1 : I1[Int.toNat 0]? = some x0 := by subst e1; rfl
  have hi2 : I2[Int.toNat 0]? = some y0 := by subst e2; rfl
  rw [hi1, hi2]
  refine wpAny_bind (h0 prog w _ _ ?_)
  wp_walk
  exact ⟨plainId_quiet plain_eq_loop _, codeAny_builtin entry_eq_loop (by
    rw [Around.under_plainId plain_eq_loop _]
    exact eld_loop1 e1 e2 hl hb h)⟩
theorem eld_ne (hl : s.heap.get? l = some { cls := .type "list", dict := dd, data := .seq #[x0, x1] n, slots := sl }) (hb : s.heap.get? b = some { cls := .type "list", dict := dd2, data := .seq #[y0, y1] n2, slots := sl2 }) (h0 : EqAt A.in1 s x0 y0 true)
    (h : wpAny (model prog w) A.in1 (eqBool x1 y1) (fun k s' => k = true ∧ (∃ n dd sl u0 u1, s'.heap.get? l = some { cls := .type "list", dict := dd, data := .seq #[u0, u1] n, slots := sl }) ∧ (∃ n dd sl u0 u1, s'.heap.get? b = some { cls := .type "list", dict := dd, data := .seq #[u0, u1] n, slots := sl }) ∧ R (.ok (.ret (.bool false))) s') (fun e s' => R (.error e) s') s) :
    wpAny (model prog w) A.in1 (Builtin.«list.__ne__» ⟨[.ref l, .ref b], []⟩) (FinOf prog w A R) (fun e s' => R (.error e) s') s := by
  obtain ⟨hp, g, d, tk, os⟩ := s
  have f3 := AutoSeq1.sub_list_list
  have hne : ¬ ((#[x0, x1] : Array Value).size != (#[y0, y1] : Array Value).size) = true := by simp
  wp_walk using wpAny_loadPart' hl, wpAny_loadPart' hb
  exact ⟨plainId_quiet plain_eq_loop _, codeAny_builtin entry_eq_loop (by
    rw [Around.under_plainId plain_eq_loop _]
    exact eld_loop0 rfl rfl hl hb h0 h)⟩
theorem eld_ne_list {Q E : Value → Shared → Prop} (hl : s.heap.get? l = some { cls := .type "list", dict := dd, data := .seq #[x0, x1] n, slots := sl }) (hb : s.heap.get? b = some { cls := .type "list", dict := dd2, data := .seq #[y0, y1] n2, slots := sl2 }) (hu : A.units < cLine) (h0 : EqAt A.in1 s x0 y0 true)
    (h : wpAny (model prog w) A.in1 (eqBool x1 y1) (fun k s' => k = true ∧ (∃ n dd sl u0 u1, s'.heap.get? l = some { cls := .type "list", dict := dd, data := .seq #[u0, u1] n, slots := sl }) ∧ (∃ n dd sl u0 u1, s'.heap.get? b = some { cls := .type "list", dict := dd, data := .seq #[u0, u1] n, slots := sl }) ∧ Q (.bool false) s') E s) :
    wpAny (model prog w) A (compareOp .NotEq (.ref l) (.ref b)) Q E s := by
  refine wpAny_richCompare_same_room (op := .NotEq) (T := "list") (id := "list.__ne__") ⟨_, hl, rfl⟩ ⟨_, hb, rfl⟩ F.slot_list_ne ?_ hu
  refine wpAny_call (codeAny_call_builtin F.slot_list_ne.plain F.entry_list_ne (F.slot_list_ne.check _ _ _ _ _ _ _ _ ⟨_, hl, rfl⟩ (F.args_list_ne_2 _ _) ?_))
  refine eld_ne (R := wants (fun v s' => v ≠ .notImplemented ∧ Q v s') E) hl hb h0 ?_
  refine wpAny_mono h ?_ fun _ _ e => e
  rintro k s' ⟨e, h1, h2, q⟩
  exact ⟨e, h1, h2, (fun z => by cases z), q⟩
end
end PySem
namespace Eld
open PySem PySem.Spec PyProof.Rows L2
section
variable {X : Cx} {CX : CXT} {k : Nat} {f C : Addr} {fd : FuncData} {ps : List Str} {sp : Sp} {E : XK}
def rNeL2 (K : PySem.W.Frag) (C : Addr) (sp : Sp) (E : XK) : R2 := fun x y H Q => ∃ (a b : Addr) (z : Str) (p q dx : Addr) (fs : List (Str × V)) (t : Value), x = .ref a ∧ y = .ref b ∧ H a = some (.lst [.str z, .ref p]) ∧ H b = some (.lst [.str z, .ref q]) ∧ p ≠ q ∧ H p = some (.ins C dx fs) ∧ TyX K H (.ref q) t ∧ PySem.W.notFirst K C t = true ∧
  sp [.ref p, .ref q] H (fun v G => v = .bl true ∧ Same H G ∧ Q (.bl false) G) E
theorem two_at {K : PySem.W.Frag} {pins : List (Addr × Obj)} {s : Shared} {σ : L2.St} {H : Hp} {a : Addr} {z : Str} {p : Addr} (I : Inv X pins σ H s) (h : H a = some (.lst [.str z, .ref p])) : ∃ n dd sl t, s.heap.get? a = some { cls := .type "list", dict := dd, data := .seq #[.str z t, .ref p] n, slots := sl } := by
  obtain ⟨its, r, ht, hz⟩ := I.list (SqL.of h)
  obtain ⟨⟨cls, dd, data, sl⟩, ho, hc, n, hd⟩ := ht.isList
  simp only at hc hd
  subst hc hd
  cases r with
  | cons r1 rs =>
    obtain ⟨t, rfl⟩ := r1
    cases rs with
    | cons r2 rs =>
      cases r2
      cases rs
      exact ⟨n, dd, sl, t, ho⟩
theorem op_neL2 (F : FnG X.prog X.w X.K X.mg X.base CX k f fd ps sp) (hb : Binds X.K fd ps []) (hx : Passes CX X E) (hs : PySem.W.findIn X.K (.ref C) "__eq__" = some (some (.ref f))) (hf : PySem.W.isFn X.K (.ref f) = true)
    (hG : X.A.guards = some []) (hr : Room (k + 1) X.A) : OpR X (compareOp .NotEq) (rNeL2 X.K C sp E) := by
  rintro pins s σ H x y v u Q I rx ry ⟨a, b, z, p, q, dx, fs, t, rfl, rfl, ea, eb, npq, ep, ty, nf, h⟩
  cases rx
  cases ry
  obtain ⟨n, dd, sl, tk, h1⟩ := two_at (K := X.K) I ea
  obtain ⟨n2, dd2, sl2, tk2, h2⟩ := two_at (K := X.K) I eb
  refine eld_ne_list h1 h2 hr.units0 ?_ ?_
  · have := SeqAt.EqAt.str_str (A := X.A.in1) (s := s) z tk z tk2
    rw [show (z == z) = true from beq_self_eq_true z] at this
    exact this
  · obtain ⟨mA, J, _⟩ := ins_get I.hok ep
    obtain ⟨od, J, _⟩ := J.look
    obtain ⟨G, Z, pp, _⟩ := kit_of I (show RelV (.ref q) (.ref q) from rfl) ty
    obtain ⟨m, hF⟩ := I.fr
    unfold eqBool
    refine wpAny_holding ?_
    refine wpAny_ite_split (fun hab => absurd (by have := eq_of_beq hab; injection this) npq) (fun _ => ?_)
    refine wpAny_bind (PySem.W.cmp_K (op := .Eq) hr.in1.units0 hF I.ok.mod.kin J (Z.ty _ _ I.kIn pp) nf hs hf (thn (run_own F hb hx rfl (in1_guards hG) hr.in1 I (show RelV (.ref q) (.ref q) from rfl) h) ?_))
    rintro w s' ⟨zz, H', I', rz, rfl, sm, q⟩
    cases rz
    refine wpAny_truthy_bool ⟨rfl, ?_, ?_, .bl false, H', I', rfl, q⟩
    · obtain ⟨n, dd, sl, t, h⟩ := two_at (K := X.K) I' (sm _ _ ea)
      exact ⟨n, dd, sl, _, _, h⟩
    · obtain ⟨n, dd, sl, t, h⟩ := two_at (K := X.K) I' (sm _ _ eb)
      exact ⟨n, dd, sl, _, _, h⟩
end
section
variable {X : Cx} {C : Addr} {sp : Sp} {k j : Nat}
theorem o_neL2 (d : EqA X.prog X.w X.K X.mg X.base k C sp) (hG : X.A.guards = some []) (hr : Room j X.A) (hk : k + 1 ≤ j) : OpR X (compareOp .NotEq) (rNeL2 X.K C sp fun _ _ _ => False) := by
  obtain ⟨f, fd, h1, h2, hn, ho, _, F, b⟩ := d
  exact op_neL2 F b pass0 h1 h2 hG (hr.mono hk)
end
end Eld
set_option Elab.async false
set_option maxRecDepth 100000
set_option maxHeartbeats 4000000
set_option linter.all false
namespace PySem
open Builtin SeqAt
open AutoSeq1 (wpAny_loadPart')
open MeetsSeq MeetsSeq2 MeetsSeq3 SeqRoads2
/-! ## != and == of a list and an empty one, whatever is in the list -/
section
variable {prog : Program} {w : World} {A : Around} {R : Result → Shared → Prop} {s : Shared} {l b : Addr} {n n2 : Nat} {dd dd2 : Option Addr} {sl sl2 : Array (Option Value)}
theorem eld_ne0 {I1 I2 : Array Value} (hne : (I1.size != I2.size) = true) (hl : s.heap.get? l = some { cls := .type "list", dict := dd, data := .seq I1 n, slots := sl }) (hb : s.heap.get? b = some { cls := .type "list", dict := dd2, data := .seq I2 n2, slots := sl2 })
    (h : R (.ok (.ret (.bool true))) s) : wpAny (model prog w) A.in1 (Builtin.«list.__ne__» ⟨[.ref l, .ref b], []⟩) (FinOf prog w A R) (fun e s' => R (.error e) s') s := by
  obtain ⟨hp, g, d, tk, os⟩ := s
  have f3 := AutoSeq1.sub_list_list
  wp_walk using wpAny_loadPart' hl, wpAny_loadPart' hb
  exact h
theorem eld_ne0_list {Q E : Value → Shared → Prop} {I1 I2 : Array Value} (hne : (I1.size != I2.size) = true) (hl : s.heap.get? l = some { cls := .type "list", dict := dd, data := .seq I1 n, slots := sl }) (hb : s.heap.get? b = some { cls := .type "list", dict := dd2, data := .seq I2 n2, slots := sl2 }) (hu : A.units < cLine)
    (h : Q (.bool true) s) : wpAny (model prog w) A (compareOp .NotEq (.ref l) (.ref b)) Q E s := by
  refine wpAny_richCompare_same_room (op := .NotEq) (T := "list") (id := "list.__ne__") ⟨_, hl, rfl⟩ ⟨_, hb, rfl⟩ F.slot_list_ne ?_ hu
  refine wpAny_call (codeAny_call_builtin F.slot_list_ne.plain F.entry_list_ne (F.slot_list_ne.check _ _ _ _ _ _ _ _ ⟨_, hl, rfl⟩ (F.args_list_ne_2 _ _) ?_))
  exact eld_ne0 (R := wants (fun v s' => v ≠ .notImplemented ∧ Q v s') E) hne hl hb ⟨(fun z => by cases z), h⟩
end
end PySem
namespace Eld
open PySem PySem.Spec PyProof.Rows L2
section
variable {X : Cx}
def rNeNil (K : PySem.W.Frag) : R2 := fun x y H Q => ∃ (a b : Addr) (xs : List V), x = .ref a ∧ y = .ref b ∧ H a = some (.lst xs) ∧ H b = some (.lst []) ∧ Q (.bl (!xs.isEmpty)) H
theorem list_at {pins : List (Addr × Obj)} {s : Shared} {σ : L2.St} {H : Hp} {a : Addr} {xs : List V} (I : Inv X pins σ H s) (h : H a = some (.lst xs)) : ∃ (its : List Value) (n : Nat) (dd : Option Addr) (sl : Array (Option Value)), its.length = xs.length ∧ s.heap.get? a = some { cls := .type "list", dict := dd, data := .seq its.toArray n, slots := sl } := by
  obtain ⟨its, r, ht, hz⟩ := I.list (SqL.of h)
  obtain ⟨⟨cls, dd, data, sl⟩, ho, hc, n, hd⟩ := ht.isList
  simp only at hc hd
  subst hc hd
  exact ⟨its, n, dd, sl, r.length.symm, ho⟩
theorem op_neNil (hu : X.A.units + 64 < cLine) : OpR X (compareOp .NotEq) (rNeNil X.K) := by
  rintro pins s σ H x y v u Q I rx ry ⟨a, b, xs, rfl, rfl, ea, eb, h⟩
  cases xs with
  | nil => exact op_neD hu pins s σ H _ _ v u Q I rx ry ⟨.list [], .list [], .lst (SqL.of ea) .nil, .lst (SqL.of eb) .nil, by simp [SeqAt.shaped, PyData.canLay0, PyData.canLayAll0, PyData.depth, PyData.depthAll], by simp [SeqAt.shaped, PyData.canLay0, PyData.canLayAll0, PyData.depth, PyData.depthAll], h⟩
  | cons z zs =>
    cases rx
    cases ry
    obtain ⟨i1, n1, d1, sl1, e1, h1⟩ := list_at I ea
    obtain ⟨i2, n2, d2, sl2, e2, h2⟩ := list_at I eb
    refine eld_ne0_list ?_ h1 h2 (by omega) ⟨.bl true, H, I, rfl, h⟩
    rw [List.size_toArray, List.size_toArray, e1, e2]
    simp
end
end Eld
set_option Elab.async false
set_option maxRecDepth 100000
set_option maxHeartbeats 4000000
set_option linter.all false
namespace Eld
open PySem L2
local macro_rules | `(tactic| walk_at "r1") => `(tactic| with_reducible first
  | refine r_seq ?_ | refine r_asgN ?_ | refine r_asg ?_ | refine r_gname ?_ | refine r_gsub ?_ | refine r_var rfl ?_ | refine r_c ?_ | refine r_op ?_ | refine r_un ?_ | refine r_u ?_ | refine r_i0 ?_ | refine r_cb ?_ | refine r_cons ?_ | refine r_nil ?_ | refine r_cl ?_ | refine r_fn rfl rfl ?_ | refine r_mt ?_
  | refine r_test ?_ | refine r_tb ?_ | refine r_bl ?_ | refine r_and ?_ | refine r_or ?_ | refine r_not ?_ | refine r_andV ?_ | refine r_orV ?_ | refine r_notV ?_ | refine r_ifX ?_ | refine r_ifs ?_ | refine r_chain ?_ | refine r_ret ?_ | refine r_next ?_ | refine r_drop ?_ | refine iteT ?_ | refine iteF ?_ | refine iteNT ?_ | refine iteNF ?_
  | refine r_int1 ?_ | refine r_boolB ?_ | refine r_eqI ?_ | refine r_neI ?_ | refine r_eqB ?_ | refine r_neB ?_ | refine r_eqS ?_ | refine r_neS ?_ | refine r_abs ?_ | refine r_max2 ?_ | refine r_min2 ?_ | refine r_yes ?_ | refine r_tup ?_ | refine r_sfld ?_ | refine r_m0 ?_ | refine r_m1 ?_ | refine r_lst ?_ | refine r_rng1 ?_ | refine r_rng2 ?_ | refine r_ixL (SqL.of (by assumption)) rfl ?_)
local macro_rules | `(tactic| walk_at "r") => `(tactic| repeat (first | walk_at "r1" | ((with_reducible refine r_var ?hv ?_); (case hv => rfl))))

/-! ## the holes of what waits -/
def Tx.p0 : Tx → Nat
  | .thn _ _ => 0 | _ => 1
def Tx.h0 : Tx → Nat
  | .hole => 1 | _ => 0
def Tx.w0 : Tx → Nat
  | .whil _ _ => 1 | _ => 0
theorem Tx.good_kids (zs : List Int) (many : Int) (t : Tx) : t.good zs many = (t.own zs many && t.kids.all fun k => k.good zs many) := by
  cases t <;> simp [Tx.good, Tx.own, Tx.kids]
theorem Tx.parts_kids (t : Tx) : t.parts = t.p0 + (t.kids.map Tx.parts).sum := by
  cases t <;> simp [Tx.parts, Tx.p0, Tx.kids]
theorem Tx.holes_kids (t : Tx) : t.holes = t.h0 + (t.kids.map Tx.holes).sum := by
  cases t <;> simp [Tx.holes, Tx.h0, Tx.kids]
theorem Tx.nodes_kids (t : Tx) : t.nodes = 1 + (t.kids.map Tx.nodes).sum := by
  cases t <;> simp [Tx.nodes, Tx.kids]
theorem Tx.depth_kids (t : Tx) (o : Nat) (h : o + t.w0 ≤ 4) : decide (o + t.depth ≤ 4) = t.kids.all fun k => decide (o + t.w0 + k.depth ≤ 4) := by
  have leaf : t.depth = 0 → t.kids = [] → decide (o + t.depth ≤ 4) = t.kids.all fun k => decide (o + t.w0 + k.depth ≤ 4) := fun e f => by
    rw [e, f, List.all_nil]
    exact decide_eq_true (by omega)
  have two : ∀ a b : Tx, t.depth = max a.depth b.depth → t.kids = [a, b] → t.w0 = 0 → decide (o + t.depth ≤ 4) = t.kids.all fun k => decide (o + t.w0 + k.depth ≤ 4) := fun a b e f g => by
    rw [e, f, g, Bool.eq_iff_iff]
    simp only [List.all_cons, List.all_nil, Bool.and_true, Bool.and_eq_true, decide_eq_true_eq]
    omega
  cases t with
  | thn a b => exact two a b rfl rfl rfl
  | iff s a b => exact two a b rfl rfl rfl
  | eith a b => exact two a b rfl rfl rfl
  | whil s a =>
    show decide (o + (1 + a.depth) ≤ 4) = (decide (o + 1 + a.depth ≤ 4) && true)
    rw [Bool.and_true, Nat.add_assoc]
  | _ => exact leaf rfl rfl
theorem Tx.depth_w0 (t : Tx) : t.w0 ≤ t.depth := by
  cases t <;> simp [Tx.depth, Tx.w0]
theorem Tx.p0_kind (t : Tx) : (if (!decide (V.str t.kind = V.str ("then" : Str))) = true then (1 : Int) else 0) = ((t.p0 : Nat) : Int) := by
  cases t with
  | skip => show (if (!decide (V.str ("skip" : Str) = V.str ("then" : Str))) = true then (1 : Int) else 0) = ((1 : Nat) : Int); decide +kernel
  | hole => show (if (!decide (V.str ("hole" : Str) = V.str ("then" : Str))) = true then (1 : Int) else 0) = ((1 : Nat) : Int); decide +kernel
  | set n r => show (if (!decide (V.str ("set" : Str) = V.str ("then" : Str))) = true then (1 : Int) else 0) = ((1 : Nat) : Int); decide +kernel
  | draw n p q x y => show (if (!decide (V.str ("draw" : Str) = V.str ("then" : Str))) = true then (1 : Int) else 0) = ((1 : Nat) : Int); decide +kernel
  | thn a b => show (if (!decide (V.str ("then" : Str) = V.str ("then" : Str))) = true then (1 : Int) else 0) = ((0 : Nat) : Int); decide +kernel
  | iff s a b => show (if (!decide (V.str ("if" : Str) = V.str ("then" : Str))) = true then (1 : Int) else 0) = ((1 : Nat) : Int); decide +kernel
  | eith a b => show (if (!decide (V.str ("either" : Str) = V.str ("then" : Str))) = true then (1 : Int) else 0) = ((1 : Nat) : Int); decide +kernel
  | whil s a => show (if (!decide (V.str ("while" : Str) = V.str ("then" : Str))) = true then (1 : Int) else 0) = ((1 : Nat) : Int); decide +kernel
theorem Tx.h0_kind (t : Tx) : (if (decide (V.str t.kind = V.str ("hole" : Str))) = true then (1 : Int) else 0) = ((t.h0 : Nat) : Int) := by
  cases t with
  | skip => show (if (decide (V.str ("skip" : Str) = V.str ("hole" : Str))) = true then (1 : Int) else 0) = ((0 : Nat) : Int); decide +kernel
  | hole => show (if (decide (V.str ("hole" : Str) = V.str ("hole" : Str))) = true then (1 : Int) else 0) = ((1 : Nat) : Int); decide +kernel
  | set n r => show (if (decide (V.str ("set" : Str) = V.str ("hole" : Str))) = true then (1 : Int) else 0) = ((0 : Nat) : Int); decide +kernel
  | draw n p q x y => show (if (decide (V.str ("draw" : Str) = V.str ("hole" : Str))) = true then (1 : Int) else 0) = ((0 : Nat) : Int); decide +kernel
  | thn a b => show (if (decide (V.str ("then" : Str) = V.str ("hole" : Str))) = true then (1 : Int) else 0) = ((0 : Nat) : Int); decide +kernel
  | iff s a b => show (if (decide (V.str ("if" : Str) = V.str ("hole" : Str))) = true then (1 : Int) else 0) = ((0 : Nat) : Int); decide +kernel
  | eith a b => show (if (decide (V.str ("either" : Str) = V.str ("hole" : Str))) = true then (1 : Int) else 0) = ((0 : Nat) : Int); decide +kernel
  | whil s a => show (if (decide (V.str ("while" : Str) = V.str ("hole" : Str))) = true then (1 : Int) else 0) = ((0 : Nat) : Int); decide +kernel
theorem Tx.w0_kind (t : Tx) : (if (decide (V.str t.kind = V.str ("while" : Str))) = true then (1 : Int) else 0) = ((t.w0 : Nat) : Int) := by
  cases t with
  | skip => show (if (decide (V.str ("skip" : Str) = V.str ("while" : Str))) = true then (1 : Int) else 0) = ((0 : Nat) : Int); decide +kernel
  | hole => show (if (decide (V.str ("hole" : Str) = V.str ("while" : Str))) = true then (1 : Int) else 0) = ((0 : Nat) : Int); decide +kernel
  | set n r => show (if (decide (V.str ("set" : Str) = V.str ("while" : Str))) = true then (1 : Int) else 0) = ((0 : Nat) : Int); decide +kernel
  | draw n p q x y => show (if (decide (V.str ("draw" : Str) = V.str ("while" : Str))) = true then (1 : Int) else 0) = ((0 : Nat) : Int); decide +kernel
  | thn a b => show (if (decide (V.str ("then" : Str) = V.str ("while" : Str))) = true then (1 : Int) else 0) = ((0 : Nat) : Int); decide +kernel
  | iff s a b => show (if (decide (V.str ("if" : Str) = V.str ("while" : Str))) = true then (1 : Int) else 0) = ((0 : Nat) : Int); decide +kernel
  | eith a b => show (if (decide (V.str ("either" : Str) = V.str ("while" : Str))) = true then (1 : Int) else 0) = ((0 : Nat) : Int); decide +kernel
  | whil s a => show (if (decide (V.str ("while" : Str) = V.str ("while" : Str))) = true then (1 : Int) else 0) = ((1 : Nat) : Int); decide +kernel
theorem r_intB {k : Bool} {H : Hp} {Q : VK} (h : Q (.int (if k = true then 1 else 0)) H) : rInt1 [.bl k] H Q := .inr ⟨k, rfl, h⟩
def resV (zs : List Int) (many : Int) (W : List (Tx × Nat)) (h s : Nat) : Option Int :=
  if ((W.all fun x => x.1.good zs many && decide (x.2 + x.1.depth ≤ 4)) && decide (s + (W.map fun x => x.1.parts).sum ≤ 24)) = true then some ((h + (W.map fun x => x.1.holes).sum : Nat) : Int) else none
theorem resV_one (zs : List Int) (many : Int) (t : Tx) : resV zs many [(t, 0)] 0 0 = holesV zs many t := by
  unfold resV holesV
  rw [List.all_cons, List.all_nil, List.map_cons, List.map_nil, List.sum_cons, List.sum_nil, List.map_cons, List.map_nil, List.sum_cons, List.sum_nil]
  dsimp only
  rw [Nat.zero_add, Nat.zero_add, Nat.zero_add, Nat.add_zero, Nat.add_zero, Bool.and_true]
  cases t.good zs many <;> cases decide (t.depth ≤ 4) <;> cases decide (t.parts ≤ 24) <;> rfl
theorem resV_nil (zs : List Int) (many : Int) (h s : Nat) (hs : s ≤ 24) : resV zs many [] h s = some (h : Int) := by
  unfold resV
  simp [hs]
theorem resV_own {zs : List Int} {many : Int} {W : List (Tx × Nat)} {t : Tx} {o h s : Nat} (e : t.own zs many = false) : resV zs many (W ++ [(t, o)]) h s = none := by
  unfold resV
  rw [List.all_append, List.all_cons]
  dsimp only
  rw [t.good_kids, e]
  simp
theorem resV_parts {zs : List Int} {many : Int} {W : List (Tx × Nat)} {t : Tx} {o h s : Nat} (e : 24 < s + t.p0) : resV zs many (W ++ [(t, o)]) h s = none := by
  unfold resV
  rw [List.map_append, List.sum_append, List.map_cons, List.sum_cons]
  dsimp only
  rw [t.parts_kids]
  have : ¬ (s + ((W.map fun x => x.1.parts).sum + (t.p0 + (t.kids.map Tx.parts).sum + ([].map fun x : Tx × Nat => x.1.parts).sum)) ≤ 24) := by omega
  rw [decide_eq_false this, Bool.and_false]
  rfl
theorem resV_depth {zs : List Int} {many : Int} {W : List (Tx × Nat)} {t : Tx} {o h s : Nat} (e : 4 < o + t.w0) : resV zs many (W ++ [(t, o)]) h s = none := by
  unfold resV
  have := t.depth_w0
  rw [List.all_append, List.all_cons]
  dsimp only
  rw [decide_eq_false (show ¬ o + t.depth ≤ 4 by omega)]
  simp
theorem resV_step {zs : List Int} {many : Int} {W : List (Tx × Nat)} {t : Tx} {o h s : Nat} (e1 : t.own zs many = true) (e3 : o + t.w0 ≤ 4) : resV zs many (W ++ [(t, o)]) h s = resV zs many (W ++ t.kids.map fun k => (k, o + t.w0)) (h + t.h0) (s + t.p0) := by
  unfold resV
  have a1 : ((W ++ [(t, o)]).all fun x => x.1.good zs many && decide (x.2 + x.1.depth ≤ 4)) = ((W ++ t.kids.map fun k => (k, o + t.w0)).all fun x => x.1.good zs many && decide (x.2 + x.1.depth ≤ 4)) := by
    rw [List.all_append, List.all_append, List.all_cons, List.all_nil, List.all_map, Bool.and_true]
    dsimp only
    rw [t.good_kids, e1, Bool.true_and, t.depth_kids o e3]
    congr 1
    rw [Bool.eq_iff_iff]
    simp only [Bool.and_eq_true, List.all_eq_true, Function.comp]
    constructor
    · rintro ⟨x, y⟩ k hk
      exact ⟨x k hk, y k hk⟩
    · intro x
      exact ⟨fun k hk => (x k hk).1, fun k hk => (x k hk).2⟩
  have a2 : s + ((W ++ [(t, o)]).map fun x => x.1.parts).sum = s + t.p0 + ((W ++ t.kids.map fun k => (k, o + t.w0)).map fun x => x.1.parts).sum := by
    rw [List.map_append, List.map_append, List.sum_append, List.sum_append, List.map_map, List.map_cons, List.map_nil, List.sum_cons, List.sum_nil]
    dsimp only
    rw [t.parts_kids]
    show _ = s + t.p0 + ((W.map fun x => x.1.parts).sum + (t.kids.map Tx.parts).sum)
    omega
  have a3 : h + ((W ++ [(t, o)]).map fun x => x.1.holes).sum = h + t.h0 + ((W ++ t.kids.map fun k => (k, o + t.w0)).map fun x => x.1.holes).sum := by
    rw [List.map_append, List.map_append, List.sum_append, List.sum_append, List.map_map, List.map_cons, List.map_nil, List.sum_cons, List.sum_nil]
    dsimp only
    rw [t.holes_kids]
    show _ = h + t.h0 + ((W.map fun x => x.1.holes).sum + (t.kids.map Tx.holes).sum)
    omega
  rw [a1, a2, a3]
/-- what waits, as pairs of a list -/
def PairsAt (H : Hp) : List (Tx × Nat) → List V → Prop
  | [], [] => True
  | x :: W, p :: ps => (∃ q v, p = .ref q ∧ H q = some (.tup [v, .int (x.2 : Nat)]) ∧ Tx.At H x.1 v) ∧ PairsAt H W ps
  | _, _ => False
theorem PairsAt.same {H H' : Hp} (s : Same H H') : ∀ {W : List (Tx × Nat)} {ps : List V}, PairsAt H W ps → PairsAt H' W ps
  | [], [], _ => trivial
  | x :: W, p :: ps, h => by
    obtain ⟨⟨q, v, e, g, a⟩, r⟩ := h
    exact ⟨⟨q, v, e, s _ _ g, a.same s⟩, PairsAt.same s r⟩
  | [], _ :: _, h => h.elim
  | _ :: _, [], h => h.elim
theorem Tx.At.off {H : Hp} {L q : Addr} {o : HO} {xs : List V} {t : Tx} {v : V} (h : Tx.At H t v) (hL : H L = some (.lst xs)) (hx : V.ref q ∈ xs) : Tx.At (upd H L o) t v := Tx.At.keep (fun a u k e => by
  have ne : a ≠ L := by
    rintro rfl
    rw [hL] at e
    cases e
    rcases k with ⟨ys, k⟩ | ⟨r, k⟩
    · cases k
    · unfold Row.obj at k
      split at k
      · cases k
      · cases k
        obtain ⟨i, _, e⟩ := List.mem_map.mp hx
        cases e
  rw [upd_ne ne]
  exact e) h
theorem PairsAt.off {H : Hp} {L q : Addr} {o : HO} {xs : List V} (hL : H L = some (.lst xs)) (hx : V.ref q ∈ xs) : ∀ {W : List (Tx × Nat)} {ps : List V}, PairsAt H W ps → PairsAt (upd H L o) W ps
  | [], [], _ => trivial
  | x :: W, p :: ps, h => by
    obtain ⟨⟨q', v, e, g, a⟩, r⟩ := h
    have ne : q' ≠ L := by
      rintro rfl
      rw [hL] at g
      cases g
    exact ⟨⟨q', v, e, by rw [upd_ne ne]; exact g, a.off hL hx⟩, PairsAt.off hL hx r⟩
  | [], _ :: _, h => h.elim
  | _ :: _, [], h => h.elim
/-- new pairs of what stands in G -/
def PairsIn (G A : Hp) : List (Tx × Nat) → List V → Prop
  | [], [] => True
  | x :: W, p :: ps => (∃ q v, p = .ref q ∧ A q = some (.tup [v, .int (x.2 : Nat)]) ∧ Tx.At G x.1 v) ∧ PairsIn G A W ps
  | _, _ => False
theorem PairsIn.keep {G A A' : Hp} (s : ∀ q xs, A q = some (.tup xs) → A' q = some (.tup xs)) : ∀ {W : List (Tx × Nat)} {ps : List V}, PairsIn G A W ps → PairsIn G A' W ps
  | [], [], _ => trivial
  | x :: W, p :: ps, h => by
    obtain ⟨⟨q, v, e, g, a⟩, r⟩ := h
    exact ⟨⟨q, v, e, s _ _ g, a⟩, PairsIn.keep s r⟩
  | [], _ :: _, h => h.elim
  | _ :: _, [], h => h.elim
theorem PairsIn.at {G A : Hp} (s : Same G A) : ∀ {W : List (Tx × Nat)} {ps : List V}, PairsIn G A W ps → PairsAt A W ps
  | [], [], _ => trivial
  | x :: W, p :: ps, h => by
    obtain ⟨⟨q, v, e, g, a⟩, r⟩ := h
    exact ⟨⟨q, v, e, g, a.same s⟩, PairsIn.at s r⟩
  | [], _ :: _, h => h.elim
  | _ :: _, [], h => h.elim
theorem PairsIn.len {G A : Hp} : ∀ {W : List (Tx × Nat)} {ps : List V}, PairsIn G A W ps → W.length = ps.length
  | [], [], _ => rfl
  | _ :: _, _ :: _, h => by rw [List.length_cons, List.length_cons, PairsIn.len h.2]
  | [], _ :: _, h => h.elim
  | _ :: _, [], h => h.elim
theorem PairsIn.push {G A : Hp} {t : Tx} {o : Nat} {q : Addr} {v : V} (g : A q = some (.tup [v, .int (o : Nat)])) (a : Tx.At G t v) : ∀ {W : List (Tx × Nat)} {ps : List V}, PairsIn G A W ps → PairsIn G A (W ++ [(t, o)]) (ps ++ [.ref q])
  | [], [], _ => ⟨⟨q, v, rfl, g, a⟩, trivial⟩
  | _ :: _, _ :: _, h => ⟨h.1, PairsIn.push g a h.2⟩
  | [], _ :: _, h => h.elim
  | _ :: _, [], h => h.elim
theorem PairsAt.append {H : Hp} : ∀ {W W' : List (Tx × Nat)} {ps ps' : List V}, PairsAt H W ps → PairsAt H W' ps' → PairsAt H (W ++ W') (ps ++ ps')
  | [], _, [], _, _, h2 => h2
  | _ :: _, _, _ :: _, _, h, h2 => ⟨h.1, PairsAt.append h.2 h2⟩
  | [], _, _ :: _, _, h, _ => h.elim
  | _ :: _, _, [], _, h, _ => h.elim
theorem PairsAt.len {H : Hp} : ∀ {W : List (Tx × Nat)} {ps : List V}, PairsAt H W ps → W.length = ps.length
  | [], [], _ => rfl
  | _ :: _, _ :: _, h => by rw [List.length_cons, List.length_cons, PairsAt.len h.2]
  | [], _ :: _, h => h.elim
  | _ :: _, [], h => h.elim
theorem PairsAt.last {H : Hp} {x : Tx × Nat} : ∀ {W : List (Tx × Nat)} {ps : List V}, PairsAt H (W ++ [x]) ps → ∃ ps0 q v, ps = ps0 ++ [V.ref q] ∧ PairsAt H W ps0 ∧ H q = some (.tup [v, .int (x.2 : Nat)]) ∧ Tx.At H x.1 v
  | [], [p], h => by
    obtain ⟨⟨q, v, e, g, a⟩, r⟩ := h
    exact ⟨[], q, v, by rw [e]; rfl, trivial, g, a⟩
  | y :: W, p :: ps, h => by
    obtain ⟨ps0, q, v, e, r, g, a⟩ := PairsAt.last (W := W) (ps := ps) h.2
    exact ⟨p :: ps0, q, v, by rw [e]; rfl, ⟨h.1, r⟩, g, a⟩
  | [], [], h => h.elim
  | _ :: _, [], h => h.elim
  | [], p :: q :: ps, h => h.2.elim
theorem nodes_pos (t : Tx) : 1 ≤ t.nodes := by rw [t.nodes_kids]; omega
theorem wait_len : ∀ W : List (Tx × Nat), W.length ≤ (W.map fun x => x.1.nodes).sum
  | [] => Nat.le_refl _
  | x :: W => by
    have h1 := wait_len W
    have h2 := nodes_pos x.1
    rw [List.length_cons, List.map_cons, List.sum_cons]
    omega
def optV : Option Int → V
  | some i => .int i
  | none => .non
/-- what the loop over what waits keeps -/
def Waits (H : Hp) (p : Addr) (v : V) (zs : List Int) (t : Tx) (m : Nat) (τ : L2.St) (G : Hp) : Prop := ∃ (W : List (Tx × Nat)) (h s : Nat) (L : Addr) (ps : List V) (a5 a6 a7 a8 a9 : Option V), τ = [some (.ref p), some v, some (.int (h : Nat)), some (.int (s : Nat)), some (.ref L), a5, a6, a7, a8, a9] ∧ Same H G ∧ H L = none ∧ G L = some (.lst ps) ∧ PairsAt G W ps ∧ m = (W.map fun x => x.1.nodes).sum ∧ m ≤ t.nodes ∧ s ≤ 24 ∧ resV zs ((allRows zs).length : Nat) W h s = holesV zs ((allRows zs).length : Nat) t
def spHolesOf (C : Addr) (K : PySem.W.Frag) : Sp := fun vs H Q _ => ∃ (p : Addr) (zs : List Int) (v : V) (t : Tx), vs = [.ref p, v] ∧ SpaceAt C K H p zs ∧ Tx.At H t v ∧ t.nodes ≤ 1000 ∧ ∀ H', Same H H' → Q (optV (holesV zs ((allRows zs).length : Nat) t)) H'
theorem r_while {c : TT} {tb : TS} {D : Ends} {σ : L2.St} {H : Hp} (h : ∃ W : Nat → L2.St → Hp → Prop, (∃ m, W m σ H) ∧ ∀ m σ H, W m σ H → c σ H fun b H1 => if b = true then ∃ N : L2.St → Hp → Prop, (∀ σ' H', N σ' H' → ∃ m', m' < m ∧ W m' σ' H') ∧ tb { D with nx := N, ct := N, bk := D.nx } σ H1 else D.nx σ H1) : tWhile c tb D σ H := h
section
variable {P : Program} {w : World} {K : PySem.W.Frag} {mg : Str → Option Value} {base : Heap} {C la pa : Addr}
theorem ok_holes_of {f : Addr} {fd : FuncData} (F : Fun K "holes_of" "holes_of" s_holes_of f fd) (Z : Zs mg) (d_is_part : DefD P w K mg base 5 "is_part" 2 [] byPlace (spIsPart C K)) (d_children : DefD P w K mg base 1 "children" 1 [] byPlace spChildren) : FnG P w K mg base CX0 6 f fd ["space", "value"] (spHolesOf C K) := by
  refine okG F sc_holes_of (fun vs H Q E h => ?_) (fun cdv B up z H vs Q E hG hr h => ?_)
  · obtain ⟨p, zs, v, t, rfl, _⟩ := h
    rfl
  obtain ⟨p, zs, v, t, rfl, hp, ht, hn, k⟩ := h
  have hu : (B.deeper (PyProof.Rows.envOfC "holes_of" (defScope s_holes_of) z.heap.objs.size f cdv)).units + 64 < cLine := hr.units
  refine ⟨_, (pss_cons (ps_set (i := 2) sc_holes_of.nd rfl (by first | exact Or.inl rfl | exact Or.inr rfl) pe_int)
  (pss_cons (ps_set (i := 3) sc_holes_of.nd rfl (by first | exact Or.inl rfl | exact Or.inr rfl) pe_int)
  (pss_cons (ps_set (i := 4) sc_holes_of.nd rfl (by first | exact Or.inl rfl | exact Or.inr rfl) (pe_lst (pa_cons (pe_tup (pa_cons (pv 1) (pa_cons pe_int pa_nil))) pa_nil)))
  (pss_cons (ps_while PassesOwn.never (pt_cmpR (show OpR _ _ (rNeNil K) from op_neNil hu) (pv 4) (pe_lst pa_nil) (nomark _)) (pss_cons (ps_asg (pe_bm0 PySem.F.plainAttrs_list PySem.F.slot_list_pop PySem.F.type_list_pop mt_pop (pv 4)) (by (refine (show PG _ _ (gTup K 2 (gCons (gName 7) (gCons (gName 8) gNil))) from ?_); refine pg_tup rfl (pgs_cons ?_ (pgs_cons ?_ pgs_nil)); exact (pg_name (i := 7) sc_holes_of.nd rfl (by first | exact Or.inl rfl | exact Or.inr rfl)); exact (pg_name (i := 8) sc_holes_of.nd rfl (by first | exact Or.inl rfl | exact Or.inr rfl)))))
  (pss_cons (ps_if (pt_not (pt_val (pd_pos d_is_part hG hr (by decide) (by rfl) (pa_cons (pv 0) (pa_cons (pv 7) pa_nil))))) (pss_one (ps_ret pe_non)) pss_nil)
  (pss_cons (ps_set (i := 5) sc_holes_of.nd rfl (by first | exact Or.inl rfl | exact Or.inr rfl) (pe_ix (show IxR _ (rIxT K) from ix_tup) (pv 7) pe_int (fun _ _ => rfl)))
  (pss_cons (ps_set (i := 3) sc_holes_of.nd rfl (by first | exact Or.inl rfl | exact Or.inr rfl) (pe_op op_add (pv 3) (pe_callTy c_int (by rfl) Z.int_ (by decide +kernel) (pa_cons (pe_cmpR op_ne (pv 5) pe_str (nomark _)) pa_nil))))
  (pss_cons (ps_set (i := 2) sc_holes_of.nd rfl (by first | exact Or.inl rfl | exact Or.inr rfl) (pe_op op_add (pv 2) (pe_callTy c_int (by rfl) Z.int_ (by decide +kernel) (pa_cons (pe_cmpR op_eq (pv 5) pe_str (nomark _)) pa_nil))))
  (pss_cons (ps_set (i := 6) sc_holes_of.nd rfl (by first | exact Or.inl rfl | exact Or.inr rfl) (pe_op op_add (pv 8) (pe_callTy c_int (by rfl) Z.int_ (by decide +kernel) (pa_cons (pe_cmpR op_eq (pv 5) pe_str (nomark _)) pa_nil))))
  (pss_cons (ps_if (PW.pt (pw_or (pt_cmpR op_gt (pv 3) (pe_gc (by rfl) Z.MOST_SIZE) (nomark _)) (pw_or1 (pt_cmpR op_gt (pv 6) (pe_gc (by rfl) Z.MOST_DEPTH) (nomark _))))) (pss_one (ps_ret pe_non)) pss_nil)
  (pss_one (ps_set (i := 4) sc_holes_of.nd rfl (by first | exact Or.inl rfl | exact Or.inr rfl) (pe_op op_cat (pv 4) (pe_lc (own := [("child", 9)]) (tt := tYes) rfl sc_holes_of.nd (pi_tup (pd_pos d_children hG hr (by decide) (by rfl) (pa_cons (pv 7) pa_nil))) (blkOk_by (N := ["space", "value", "holes", "parts_seen", "waiting", "kind", "inner", "part", "outer", "child"]) (sc := defScope s_holes_of) (by decide +kernel)) (fun _ _ _ _ _ => (pg_name (i := 9) sc_holes_of.nd rfl (by first | exact Or.inl rfl | exact Or.inr rfl))) (fun _ _ _ _ _ => pts_nil) (fun _ _ _ _ _ => (pe_tup (pa_cons (pv 9) (pa_cons (pv 6) pa_nil))))))))))))))))
  (pss_one (ps_ret (pv 2))))))), ?_⟩
  walk_at "r"
  refine ⟨by show 2 ≤ sizeLine; decide, fun T hT => ?_⟩
  walk_at "r"
  refine ⟨by show 1 ≤ sizeLine; decide, fun L hL => ?_⟩
  walk_at "r"
  have sT : Same H (upd H T (.tup [v, V.int 0])) := Same.upd_new hT
  have sL : Same H (upd (upd H T (.tup [v, V.int 0])) L (.lst [V.ref T])) := sT.trans (Same.upd_new hL)
  have nTL : T ≠ L := fun e => by rw [← e, upd_same] at hL; cases hL
  refine r_while ⟨Waits H p v zs t,
    ⟨t.nodes, [(t, 0)], 0, 0, L, [V.ref T], _, _, _, _, _, rfl, sL, sT.free hL, upd_same, ⟨⟨T, v, rfl, by rw [upd_ne nTL]; exact upd_same, ht.same sL⟩, trivial⟩, rfl, Nat.le_refl _, by decide, resV_one _ _ _⟩, ?_⟩
  rintro m τ G ⟨W, h, s, L1, ps, a5, a6, a7, a8, a9, rfl, sG, hL1, gL, hW, hm, hmt, hs, e⟩
  walk_at "r"
  refine ⟨by show 0 ≤ sizeLine; decide, fun N hN => ?_⟩
  have sN : Same G (upd G N (.lst [])) := Same.upd_new hN
  refine ⟨L1, N, ps, rfl, rfl, sN _ _ gL, upd_same, ?_⟩
  rcases W.eq_nil_or_concat with rfl | ⟨W0, ⟨t1, o⟩, rfl⟩
  · cases ps with
    | cons _ _ => exact hW.elim
    | nil =>
      rw [show (!([] : List V).isEmpty) = false from rfl]
      walk_at "r"
      rw [resV_nil _ _ _ _ hs] at e
      have k := k _ (sG.trans sN)
      rw [← e] at k
      exact k
  rw [List.concat_eq_append] at hW hm e
  obtain ⟨ps0, q, v1, rfl, hW0, hq, hv1⟩ := hW.last
  rw [show (!(ps0 ++ [V.ref q]).isEmpty) = true by cases ps0 <;> rfl]
  walk_at "r"
  refine ⟨fun σ' H' => ∃ m', m' < m ∧ Waits H p v zs t m' σ' H', fun _ _ h => h, ?_⟩
  walk_at "r"
  refine ⟨_, rfl, .inl ⟨rfl, _, SqL.of (sN _ _ gL)⟩, L1, ps0 ++ [V.ref q], V.ref q, rfl, rfl, sN _ _ gL, by rw [List.length_append, List.length_singleton, Nat.add_sub_cancel, List.getElem?_append_right (Nat.le_refl _), Nat.sub_self]; rfl, ?_⟩
  rw [List.dropLast_concat]
  have gL2 := sN _ _ gL
  have mem : V.ref q ∈ ps0 ++ [V.ref q] := List.mem_append_right _ (List.mem_singleton.mpr rfl)
  have nq : q ≠ L1 := fun z => by rw [z] at hq; rw [gL] at hq; cases hq
  have hW1 : PairsAt (upd (upd G N (.lst [])) L1 (.lst ps0)) W0 ps0 := PairsAt.off gL2 mem (PairsAt.same sN hW0)
  have hv2 : Tx.At (upd (upd G N (.lst [])) L1 (.lst ps0)) t1 v1 := (hv1.same sN).off gL2 mem
  have hq2 : (upd (upd G N (.lst [])) L1 (.lst ps0)) q = some (.tup [v1, .int (o : Nat)]) := by rw [upd_ne nq]; exact sN _ _ hq
  have s2 : Same H (upd (upd G N (.lst [])) L1 (.lst ps0)) := Same.over (sG.trans sN) hL1
  have l2 : (upd (upd G N (.lst [])) L1 (.lst ps0)) L1 = some (.lst ps0) := upd_same
  generalize upd (upd G N (.lst [])) L1 (.lst ps0) = G2 at hW1 hv2 hq2 s2 l2 ⊢
  refine ⟨q, _, rfl, SqT.of hq2, rfl, _, _, rfl, _, _, rfl, rfl, ?_⟩
  walk_at "r"
  refine ⟨p, zs, v1, t1, rfl, hp.same s2, hv2, fun G3 s3 => ?_⟩
  have s13 := s2.trans s3
  cases c1 : t1.own zs ((allRows zs).length : Nat) with
  | false =>
    walk_at "r"
    rw [resV_own c1] at e
    have k := k _ s13
    rw [← e] at k
    exact k
  | true =>
    walk_at "r"
    obtain ⟨a, hd, ks, rfl, ha, hl, hk, -, -⟩ := (hv2.same s3).view
    refine r_ixT (SqT.of ha) (atI_nat (j := 0) rfl) ?_
    walk_at "r"
    refine r_intB ?_
    walk_at "r"
    rw [t1.p0_kind]
    refine r_intB ?_
    walk_at "r"
    rw [t1.h0_kind]
    refine r_intB ?_
    walk_at "r"
    rw [t1.w0_kind]
    have none' : resV zs ((allRows zs).length : Nat) (W0 ++ [(t1, o)]) h s = none → Q .non G3 := fun z => by
      rw [z] at e
      have k := k _ s13
      rw [← e] at k
      exact k
    by_cases c2 : 24 < s + t1.p0
    · rw [decide_eq_true (show (24 : Int) < (s : Nat) + (t1.p0 : Nat) by omega)]
      walk_at "r"
      exact none' (resV_parts c2)
    rw [decide_eq_false (show ¬ (24 : Int) < (s : Nat) + (t1.p0 : Nat) by omega)]
    walk_at "r"
    by_cases c3 : 4 < o + t1.w0
    · rw [decide_eq_true (show (4 : Int) < (o : Nat) + (t1.w0 : Nat) by omega)]
      walk_at "r"
      exact none' (resV_depth c3)
    rw [decide_eq_false (show ¬ (4 : Int) < (o : Nat) + (t1.w0 : Nat) by omega)]
    walk_at "r"
    refine r_lc ?_
    refine r_it ?_
    walk_at "r"
    refine ⟨_, t1, rfl, hv2.same s3, fun G4 kt kk s4 _ hkt hkk => ⟨kt, rfl, ⟨_, SqT.of hkt⟩, fun D hD => ?_⟩⟩
    have s24 := s3.trans s4
    have len1 : W0.length + t1.kids.length ≤ 1000 := by
      have h1 := wait_len W0
      have h2 : t1.kids.length ≤ (t1.kids.map Tx.nodes).sum := by
        have := wait_len (t1.kids.map fun k => (k, 0))
        rw [List.length_map, List.map_map] at this
        exact this
      have h3 := t1.nodes_kids
      have h4 : (((W0 ++ [(t1, o)]).map fun x => x.1.nodes)).sum = (W0.map fun x => x.1.nodes).sum + t1.nodes := by simp
      omega
    refine it_tup (xs := kk) (fun i A => Same G4 A ∧ ∃ ps, A D = some (.lst ps) ∧ PairsIn G4 A ((t1.kids.take i).map fun k => (k, o + t1.w0)) ps) ⟨Same.upd_new hD, [], upd_same, trivial⟩ (fun i A _ p => SqT.of (p.1 _ _ hkt)) (fun i x A hx p => ?_) (fun A p => ?_)
    · obtain ⟨sA, ps, dA, pA⟩ := p
      obtain ⟨kd, hkd, hat⟩ := hkk.get hx
      have il : i < t1.kids.length := (List.getElem?_eq_some_iff.mp hkd).1
      refine r_gname ⟨rfl, ?_⟩
      walk_at "r"
      refine ⟨by show 2 ≤ sizeLine; decide, fun T2 hT2 => ?_⟩
      have sB : Same A (upd A T2 (.tup [x, V.int ((o : Nat) + (t1.w0 : Nat))])) := Same.upd_new hT2
      have ne : T2 ≠ D := fun z => by rw [z, dA] at hT2; cases hT2
      have pl : ps.length ≤ 1000 := by
        rw [← pA.len, List.length_map, List.length_take]
        omega
      refine ⟨ps, sB _ _ dA, by rw [sizeLine_eq]; omega, Same.over (sA.trans sB) hD, ps ++ [V.ref T2], upd_same, ?_⟩
      rw [take_next hkd, List.map_append]
      refine PairsIn.push (t := kd) (v := x) ?_ hat (pA.keep fun q' xs e => ?_)
      · rw [upd_ne ne, upd_same]
        norm_cast
      · have nD : q' ≠ D := fun z => by rw [z, dA] at e; cases e
        rw [upd_ne nD]
        exact sB _ _ e
    · obtain ⟨sA, ps, dA, pA⟩ := p
      rw [← hkk.len, List.take_length] at pA
      have sA2 := s24.trans sA
      refine ⟨L1, D, ps0, ps, rfl, rfl, sA2 _ _ l2, dA, ?_, fun L2' hL2' => ?_⟩
      · rw [← pA.len, ← hW1.len, List.length_map, sizeLine_eq]
        omega
      · have sF : Same A (upd A L2' (.lst (ps0 ++ ps))) := Same.upd_new hL2'
        have sH := (s2.trans sA2).trans sF
        refine ⟨_, ?_, W0 ++ t1.kids.map fun k => (k, o + t1.w0), h + t1.h0, s + t1.p0, L2', ps0 ++ ps, _, _, _, _, _, rfl, sH, (s2.trans sA2).free hL2', upd_same, PairsAt.append ((hW1.same sA2).same sF) ((pA.at sA).same sF), rfl, ?_, by omega, ?_⟩
        all_goals
          have h3 := t1.nodes_kids
          have h4 : (((W0 ++ [(t1, o)]).map fun x => x.1.nodes)).sum = (W0.map fun x => x.1.nodes).sum + t1.nodes := by simp
          have h5 : (((W0 ++ t1.kids.map fun k => (k, o + t1.w0)).map fun x => x.1.nodes)).sum = (W0.map fun x => x.1.nodes).sum + (t1.kids.map Tx.nodes).sum := by
            rw [List.map_append, List.sum_append, List.map_map]
            rfl
        · omega
        · omega
        · rw [← e, resV_step c1 (by omega)]
end
end Eld
set_option Elab.async false
set_option maxRecDepth 100000
set_option maxHeartbeats 4000000
set_option linter.all false
namespace Eld
open PySem L2
local macro_rules | `(tactic| walk_at "r1") => `(tactic| with_reducible first
  | refine r_seq ?_ | refine r_asgN ?_ | refine r_asg ?_ | refine r_gname ?_ | refine r_gsub ?_ | refine r_var rfl ?_ | refine r_c ?_ | refine r_op ?_ | refine r_un ?_ | refine r_u ?_ | refine r_i0 ?_ | refine r_cb ?_ | refine r_cons ?_ | refine r_nil ?_ | refine r_cl ?_ | refine r_fn rfl rfl ?_ | refine r_mt ?_
  | refine r_test ?_ | refine r_tb ?_ | refine r_bl ?_ | refine r_and ?_ | refine r_or ?_ | refine r_not ?_ | refine r_andV ?_ | refine r_orV ?_ | refine r_notV ?_ | refine r_ifX ?_ | refine r_ifs ?_ | refine r_chain ?_ | refine r_ret ?_ | refine r_next ?_ | refine r_drop ?_ | refine iteT ?_ | refine iteF ?_ | refine iteNT ?_ | refine iteNF ?_
  | refine r_int1 ?_ | refine r_boolB ?_ | refine r_eqI ?_ | refine r_neI ?_ | refine r_eqB ?_ | refine r_neB ?_ | refine r_eqS ?_ | refine r_neS ?_ | refine r_abs ?_ | refine r_max2 ?_ | refine r_min2 ?_ | refine r_yes ?_ | refine r_tup ?_ | refine r_sfld ?_ | refine r_m0 ?_ | refine r_m1 ?_ | refine r_lst ?_ | refine r_rng1 ?_ | refine r_rng2 ?_ | refine r_ixL (SqL.of (by assumption)) rfl ?_)
local macro_rules | `(tactic| walk_at "r") => `(tactic| repeat (first | walk_at "r1" | ((with_reducible refine r_var ?hv ?_); (case hv => rfl))))

/-! ## what is a text, what a surrounding -/
def sizesAll : List (List Int) := [[2], [3], [4], [5], [6], [7], [8], [2, 2], [2, 3], [3, 2], [2, 4], [4, 2], [2, 2, 2]]
theorem sizesAll_sub : ∀ zs ∈ sizesAll, zs ∈ menu := by decide
theorem menu_sub : ∀ zs ∈ menu, zs ∈ sizesAll := by decide
theorem sizesAll_menu (zs : List Int) : zs ∈ sizesAll ↔ zs ∈ menu := ⟨sizesAll_sub zs, menu_sub zs⟩
structure Ka (K : PySem.W.Frag) (mg : Str → Option Value) (sa : Addr) (ss : List Addr) : Prop where
  ALL_SIZES : ∃ u, mg "ALL_SIZES" = some u ∧ RelV (.ref sa) u
  sq : ∀ H, SqT K H sa (ss.map V.ref)
  len : ss.length = 13
  one : ∀ (H : Hp) (i : Nat) (a : Addr) (zs : List Int), ss[i]? = some a → sizesAll[i]? = some zs → SqT K H a (zs.map V.int)
def textOr (zs : List Int) (many : Int) (t : Tx) : Bool := decide (holesV zs many t = some 0) || fromV (holesV zs many t) 1 3
def spIsText (C : Addr) (K : PySem.W.Frag) : Sp := fun vs H Q _ => ∃ (p : Addr) (zs : List Int) (v : V) (t : Tx), vs = [.ref p, v] ∧ SpaceAt C K H p zs ∧ Tx.At H t v ∧ t.nodes ≤ 1000 ∧ ∀ H', Same H H' → Q (.bl (decide (holesV zs ((allRows zs).length : Nat) t = some 0))) H'
def spIsSurr (C : Addr) (K : PySem.W.Frag) : Sp := fun vs H Q _ => ∃ (p : Addr) (zs : List Int) (v : V) (t : Tx), vs = [.ref p, v] ∧ SpaceAt C K H p zs ∧ Tx.At H t v ∧ t.nodes ≤ 1000 ∧ ∀ H', Same H H' → Q (.bl (fromV (holesV zs ((allRows zs).length : Nat) t) 1 3)) H'
def spTextOr (C : Addr) (K : PySem.W.Frag) : Sp := fun vs H Q _ => ∃ (p : Addr) (zs : List Int) (v : V) (t : Tx), vs = [.ref p, v] ∧ SpaceAt C K H p zs ∧ Tx.At H t v ∧ t.nodes ≤ 1000 ∧ ∀ H', Same H H' → Q (.bl (textOr zs ((allRows zs).length : Nat) t)) H'
def spNeedText (C : Addr) (K : PySem.W.Frag) : Sp := fun vs H Q _ => ∃ (p : Addr) (zs : List Int) (v : V) (t : Tx), vs = [.ref p, v] ∧ SpaceAt C K H p zs ∧ Tx.At H t v ∧ t.nodes ≤ 1000 ∧ holesV zs ((allRows zs).length : Nat) t = some 0 ∧ ∀ H', Same H H' → Q .non H'
def spNeedAny : Sp := fun vs H Q _ => ∃ (v : V) (t : Tx), vs = [v] ∧ Tx.At H t v ∧ t.nodes ≤ 1000 ∧ (∃ zs ∈ menu, textOr zs ((allRows zs).length : Nat) t = true) ∧ ∀ H', Same H H' → Q .non H'
theorem optV_0 (o : Option Int) : decide (optV o = V.int 0) = decide (o = some 0) := by
  cases o with
  | none => rfl
  | some i => exact decide_eq_decide.mpr ⟨fun h => by cases V.int.inj h; rfl, fun h => by cases h; rfl⟩
theorem optV_scal (o : Option Int) : scal (optV o) (.int 0) = true := by cases o <;> rfl
theorem optV_int {K : PySem.W.Frag} {H : Hp} (o : Option Int) : IntV K H (optV o) o := by
  cases o with
  | none => exact .non
  | some i => exact .int i
section
variable {P : Program} {w : World} {K : PySem.W.Frag} {mg : Str → Option Value} {base : Heap} {C la pa sa : Addr} {ss : List Addr}
theorem ok_is_text {f : Addr} {fd : FuncData} (F : Fun K "is_text" "is_text" s_is_text f fd) (d_need_space : DefD P w K mg base 1 "need_space" 1 [] byPlace (spNeedSpace C K)) (d_holes_of : DefD P w K mg base 6 "holes_of" 2 [] byPlace (spHolesOf C K)) : FnG P w K mg base CX0 7 f fd ["space", "value"] (spIsText C K) := by
  refine okG F sc_is_text (fun vs H Q E h => ?_) (fun cdv B up z H vs Q E hG hr h => ?_)
  · obtain ⟨p, zs, v, t, rfl, _⟩ := h
    rfl
  obtain ⟨p, zs, v, t, rfl, hp, ht, hn, k⟩ := h
  refine ⟨_, (pss_cons (ps_expr (pd_pos d_need_space hG hr (by decide) (by rfl) (pa_cons (pv 0) pa_nil)))
  (pss_one (ps_ret (pe_cmpR op_eq (pd_pos d_holes_of hG hr (by decide) (by rfl) (pa_cons (pv 0) (pa_cons (pv 1) pa_nil))) pe_int (nomark _))))), ?_⟩
  walk_at "r"
  refine ⟨p, zs, rfl, hp, ?_⟩
  walk_at "r"
  refine ⟨p, zs, v, t, rfl, hp, ht, hn, fun H1 s1 => ?_⟩
  refine ⟨optV_scal _, ?_⟩
  rw [optV_0]
  exact k H1 s1
theorem ok_is_surr {f : Addr} {fd : FuncData} (F : Fun K "is_surrounding" "is_surrounding" s_is_surrounding f fd) (d_need_space : DefD P w K mg base 1 "need_space" 1 [] byPlace (spNeedSpace C K)) (d_holes_of : DefD P w K mg base 6 "holes_of" 2 [] byPlace (spHolesOf C K)) (d_is_hole_count : DefD P w K mg base 3 "is_hole_count" 1 [] byPlace (spHoleCount K)) : FnG P w K mg base CX0 7 f fd ["space", "value"] (spIsSurr C K) := by
  refine okG F sc_is_surrounding (fun vs H Q E h => ?_) (fun cdv B up z H vs Q E hG hr h => ?_)
  · obtain ⟨p, zs, v, t, rfl, _⟩ := h
    rfl
  obtain ⟨p, zs, v, t, rfl, hp, ht, hn, k⟩ := h
  refine ⟨_, (pss_cons (ps_expr (pd_pos d_need_space hG hr (by decide) (by rfl) (pa_cons (pv 0) pa_nil)))
  (pss_one (ps_ret (pd_pos d_is_hole_count hG hr (by decide) (by rfl) (pa_cons (pd_pos d_holes_of hG hr (by decide) (by rfl) (pa_cons (pv 0) (pa_cons (pv 1) pa_nil))) pa_nil))))), ?_⟩
  walk_at "r"
  refine ⟨p, zs, rfl, hp, ?_⟩
  walk_at "r"
  refine ⟨p, zs, v, t, rfl, hp, ht, hn, fun H1 s1 => ?_⟩
  walk_at "r"
  exact ⟨_, _, rfl, optV_int _, k H1 s1⟩
theorem ok_text_or {f : Addr} {fd : FuncData} (F : Fun K "is_text_or_surrounding" "is_text_or_surrounding" s_is_text_or_surrounding f fd) (d_holes_of : DefD P w K mg base 6 "holes_of" 2 [] byPlace (spHolesOf C K)) (d_is_hole_count : DefD P w K mg base 3 "is_hole_count" 1 [] byPlace (spHoleCount K)) : FnG P w K mg base CX0 7 f fd ["space", "value"] (spTextOr C K) := by
  refine okG F sc_is_text_or_surrounding (fun vs H Q E h => ?_) (fun cdv B up z H vs Q E hG hr h => ?_)
  · obtain ⟨p, zs, v, t, rfl, _⟩ := h
    rfl
  obtain ⟨p, zs, v, t, rfl, hp, ht, hn, k⟩ := h
  refine ⟨_, (pss_cons (ps_set (i := 2) sc_is_text_or_surrounding.nd rfl (by first | exact Or.inl rfl | exact Or.inr rfl) (pd_pos d_holes_of hG hr (by decide) (by rfl) (pa_cons (pv 0) (pa_cons (pv 1) pa_nil))))
  (pss_one (ps_ret (pe_or (pe_cmpR op_eq (pv 2) pe_int (nomark _)) (pe_one (pd_pos d_is_hole_count hG hr (by decide) (by rfl) (pa_cons (pv 2) pa_nil))))))), ?_⟩
  walk_at "r"
  refine ⟨p, zs, v, t, rfl, hp, ht, hn, fun H1 s1 => ?_⟩
  walk_at "r"
  refine ⟨optV_scal _, ?_⟩
  rw [optV_0]
  have k := k H1 s1
  unfold textOr at k
  cases c : decide (holesV zs ((allRows zs).length : Nat) t = some 0) with
  | true =>
    rw [c] at k
    walk_at "r"
    exact k
  | false =>
    rw [c, Bool.false_or] at k
    walk_at "r"
    exact ⟨_, _, rfl, optV_int _, k⟩
theorem ok_need_text {f : Addr} {fd : FuncData} (F : Fun K "need_text" "need_text" s_need_text f fd) (d_is_text : DefD P w K mg base 7 "is_text" 2 [] byPlace (spIsText C K)) : FnG P w K mg base CX0 8 f fd ["space", "text"] (spNeedText C K) := by
  refine okG F sc_need_text (fun vs H Q E h => ?_) (fun cdv B up z H vs Q E hG hr h => ?_)
  · obtain ⟨p, zs, v, t, rfl, _⟩ := h
    rfl
  obtain ⟨p, zs, v, t, rfl, hp, ht, hn, e, k⟩ := h
  refine ⟨_, (pss_one (ps_if (pt_not (pt_val (pd_pos d_is_text hG hr (by decide) (by rfl) (pa_cons (pv 0) (pa_cons (pv 1) pa_nil))))) (pss_one ps_never) pss_nil)), ?_⟩
  walk_at "r"
  refine ⟨p, zs, v, t, rfl, hp, ht, hn, fun H1 s1 => ?_⟩
  rw [decide_eq_true e]
  walk_at "r"
  exact k H1 s1
theorem ok_need_any {f : Addr} {fd : FuncData} (F : Fun K "need_any_text" "need_any_text" s_need_any_text f fd) (Z : Zs mg) (S : Sc K mg C) (KA : Ka K mg sa ss) (d_is_text_or_surrounding : DefD P w K mg base 7 "is_text_or_surrounding" 2 [] byPlace (spTextOr C K)) (k_Space : MakD P w K mg base 4 "Space" C 1 [] byPlace (spInit C K)) : FnG P w K mg base CX0 8 f fd ["text"] spNeedAny := by
  refine okG F sc_need_any_text (fun vs H Q E h => ?_) (fun cdv B up z H vs Q E hG hr h => ?_)
  · obtain ⟨v, t, rfl, _⟩ := h
    rfl
  obtain ⟨v, t, rfl, ht, hn, ⟨z0, hz0, e0⟩, k⟩ := h
  refine ⟨_, (pss_one (ps_if (pt_not (pt_val (pe_callB (cr_any rfl) (by rfl) Z.any_ (by decide +kernel) (pa_cons (pe_lc (own := [("sizes", 1)]) (tt := tYes) rfl sc_need_any_text.nd (pi_tup (pe_gc (by rfl) KA.ALL_SIZES)) (blkOk_by (N := ["text", "sizes"]) (sc := defScope s_need_any_text) (by decide +kernel)) (fun _ _ _ _ _ => (pg_name (i := 1) sc_need_any_text.nd rfl (by first | exact Or.inl rfl | exact Or.inr rfl))) (fun _ _ _ _ _ => pts_nil) (fun _ _ _ _ _ => (pd_pos d_is_text_or_surrounding hG hr (by decide) (by rfl) (pa_cons (pk_pos k_Space hG hr (by decide) (by rfl) (pa_cons (pv 1) pa_nil)) (pa_cons (pv 0) pa_nil))))) pa_nil)))) (pss_one ps_never) pss_nil)), ?_⟩
  walk_at "r"
  refine ⟨sa, rfl, ⟨_, KA.sq H⟩, fun D hD => ?_⟩
  refine it_tup (xs := ss.map V.ref) (fun i A => Same H A ∧ A D = some (.lst (((sizesAll.take i).map fun zs => textOr zs ((allRows zs).length : Nat) t).map V.bl))) ⟨Same.upd_new hD, upd_same⟩ (fun i A _ p => KA.sq A) (fun i x A hx p => ?_) (fun A p => ?_)
  · obtain ⟨u, hu, rfl⟩ := ref_get hx
    have il : i < 13 := by have := (List.getElem?_eq_some_iff.mp hu).1; rw [KA.len] at this; exact this
    have hz : sizesAll[i]? = some (sizesAll[i]'il) := List.getElem?_eq_getElem _
    have hm : sizesAll[i]'il ∈ menu := (sizesAll_menu _).mp (List.getElem_mem _)
    generalize sizesAll[i]'il = zs at hz hm
    obtain ⟨sA, dA⟩ := p
    refine r_gname ⟨rfl, ?_⟩
    walk_at "r"
    refine r_mk rfl rfl fun x dx hx hdx hne => ?_
    have new : Same A (upd (upd A dx (.own x)) x (.ins C dx [])) := fun b o e => by
      rw [upd_ne (ne_of_none e hx), upd_ne (ne_of_none e hdx)]
      exact e
    refine ⟨x, u, dx, zs, rfl, upd_same, hm, .inr (KA.one _ i u zs hu hz), fun H5 s5 sp5 => ⟨rfl, ?_⟩⟩
    have s6 : Same A H5 := fun b o e => s5 b o (ne_of_none e hx) (new _ _ e)
    walk_at "r"
    refine ⟨x, zs, v, t, rfl, sp5, ht.same (sA.trans s6), hn, fun H6 s7 => ?_⟩
    have s8 := s6.trans s7
    refine ⟨_, s8 _ _ dA, by rw [List.length_map, List.length_map, List.length_take, sizeLine_eq]; omega, Same.over (sA.trans s8) hD, ?_⟩
    rw [upd_same, take_next hz, List.map_append, List.map_append]
    rfl
  · obtain ⟨sA, dA⟩ := p
    rw [List.length_map, KA.len, List.take_of_length_le (by decide)] at dA
    refine ⟨D, sizesAll.map fun zs => textOr zs ((allRows zs).length : Nat) t, rfl, SqL.of dA, ?_⟩
    have eany : (sizesAll.map fun zs => textOr zs ((allRows zs).length : Nat) t).any id = true := by
      rw [List.any_map, List.any_eq_true]
      exact ⟨z0, (sizesAll_menu _).mpr hz0, e0⟩
    rw [eany]
    walk_at "r"
    exact k A sA
end
end Eld
set_option Elab.async false
set_option maxRecDepth 100000
set_option maxHeartbeats 4000000
set_option linter.all false
namespace Eld
open PySem L2
local macro_rules | `(tactic| walk_at "r1") => `(tactic| with_reducible first
  | refine r_seq ?_ | refine r_asgN ?_ | refine r_asg ?_ | refine r_gname ?_ | refine r_gsub ?_ | refine r_var rfl ?_ | refine r_c ?_ | refine r_op ?_ | refine r_un ?_ | refine r_u ?_ | refine r_i0 ?_ | refine r_cb ?_ | refine r_cons ?_ | refine r_nil ?_ | refine r_cl ?_ | refine r_fn rfl rfl ?_ | refine r_mt ?_
  | refine r_test ?_ | refine r_tb ?_ | refine r_bl ?_ | refine r_and ?_ | refine r_or ?_ | refine r_not ?_ | refine r_andV ?_ | refine r_orV ?_ | refine r_notV ?_ | refine r_ifX ?_ | refine r_ifs ?_ | refine r_chain ?_ | refine r_ret ?_ | refine r_next ?_ | refine r_drop ?_ | refine iteT ?_ | refine iteF ?_ | refine iteNT ?_ | refine iteNF ?_
  | refine r_int1 ?_ | refine r_boolB ?_ | refine r_eqI ?_ | refine r_neI ?_ | refine r_eqB ?_ | refine r_neB ?_ | refine r_eqS ?_ | refine r_neS ?_ | refine r_abs ?_ | refine r_max2 ?_ | refine r_min2 ?_ | refine r_yes ?_ | refine r_tup ?_ | refine r_sfld ?_ | refine r_m0 ?_ | refine r_m1 ?_ | refine r_lst ?_ | refine r_rng1 ?_ | refine r_rng2 ?_ | refine r_ixL (SqL.of (by assumption)) rfl ?_)
local macro_rules | `(tactic| walk_at "r") => `(tactic| repeat (first | walk_at "r1" | ((with_reducible refine r_var ?hv ?_); (case hv => rfl))))

/-! ## a text as data, with tuples in the place of lists -/
mutual
inductive Dt (H : Hp) : V → PyData → Prop
  | int (i : Int) : Dt H (.int i) (.int i)
  | str (x : Str) : Dt H (.str x) (.str x)
  | lst {a : Addr} {xs : List V} {ds : List PyData} : H a = some (.lst xs) → xs.length ≤ 1000 → DtAll H xs ds → Dt H (.ref a) (.list ds)
  | tup {a : Addr} {xs : List V} {ds : List PyData} : H a = some (.tup xs) → xs.length ≤ 1000 → DtAll H xs ds → Dt H (.ref a) (.tuple ds)
inductive DtAll (H : Hp) : List V → List PyData → Prop
  | nil : DtAll H [] []
  | cons {v : V} {vs : List V} {d : PyData} {ds : List PyData} : Dt H v d → DtAll H vs ds → DtAll H (v :: vs) (d :: ds)
end
mutual
theorem Dt.same {H H' : Hp} (s : Same H H') : ∀ (d : PyData) (v : V), Dt H v d → Dt H' v d
  | .int i, _, h => by cases h; exact .int i
  | .str i, _, h => by cases h; exact .str i
  | .list ds, _, h => by
    cases h with
    | lst e l a => exact .lst (s _ _ e) l (DtAll.same s ds _ a)
  | .tuple ds, _, h => by
    cases h with
    | tup e l a => exact .tup (s _ _ e) l (DtAll.same s ds _ a)
  | .none, _, h => by cases h
  | .bool _, _, h => by cases h
  | .dict _, _, h => by cases h
theorem DtAll.same {H H' : Hp} (s : Same H H') : ∀ (ds : List PyData) (vs : List V), DtAll H vs ds → DtAll H' vs ds
  | [], _, h => by cases h; exact .nil
  | d :: ds, _, h => by
    cases h with
    | cons a b => exact .cons (Dt.same s d _ a) (DtAll.same s ds _ b)
end
mutual
theorem Dt.dp {K : PySem.W.Frag} {H : Hp} : ∀ (d : PyData) (v : V), Dt H v d → Dp K H v d
  | .int i, _, h => by cases h; exact .int i
  | .str i, _, h => by cases h; exact .str i
  | .list ds, _, h => by
    cases h with
    | lst e l a => exact .lst (SqL.of e) (DtAll.dp ds _ a)
  | .tuple ds, _, h => by
    cases h with
    | tup e l a => exact .tup (SqT.of e) (DtAll.dp ds _ a)
  | .none, _, h => by cases h
  | .bool _, _, h => by cases h
  | .dict _, _, h => by cases h
theorem DtAll.dp {K : PySem.W.Frag} {H : Hp} : ∀ (ds : List PyData) (vs : List V), DtAll H vs ds → DpAll K H vs ds
  | [], _, h => by cases h; exact .nil
  | d :: ds, _, h => by
    cases h with
    | cons a b => exact .cons (Dt.dp d _ a) (DtAll.dp ds _ b)
end
mutual
def tupledD : PyData → PyData
  | .list ds => .tuple (tupledAll ds)
  | .tuple ds => .tuple (tupledAll ds)
  | .int i => .int i
  | .str i => .str i
  | .none => .none
  | .bool b => .bool b
  | .dict d => .dict d
def tupledAll : List PyData → List PyData
  | [] => []
  | d :: ds => tupledD d :: tupledAll ds
end
theorem tupledAll_map : ∀ ds : List PyData, tupledAll ds = ds.map tupledD
  | [] => by rw [tupledAll]; rfl
  | d :: ds => by rw [tupledAll, tupledAll_map ds]; rfl
/-! what has no list in it stands when a list changes -/
mutual
theorem Dt.off {H : Hp} {L : Addr} {o : HO} {ys : List V} (hL : H L = some (.lst ys)) : ∀ (d : PyData) (v : V), Dt H v (tupledD d) → Dt (upd H L o) v (tupledD d)
  | .int i, _, h => by rw [tupledD] at h ⊢; cases h; exact .int i
  | .str i, _, h => by rw [tupledD] at h ⊢; cases h; exact .str i
  | .list ds, _, h => by
    rw [tupledD] at h ⊢
    cases h with
    | tup e l a => exact .tup (by rw [upd_ne (ne_of e hL (by intro z; cases z))]; exact e) l (DtAll.off hL ds _ a)
  | .tuple ds, _, h => by
    rw [tupledD] at h ⊢
    cases h with
    | tup e l a => exact .tup (by rw [upd_ne (ne_of e hL (by intro z; cases z))]; exact e) l (DtAll.off hL ds _ a)
  | .none, _, h => by rw [tupledD] at h; cases h
  | .bool _, _, h => by rw [tupledD] at h; cases h
  | .dict _, _, h => by rw [tupledD] at h; cases h
theorem DtAll.off {H : Hp} {L : Addr} {o : HO} {ys : List V} (hL : H L = some (.lst ys)) : ∀ (ds : List PyData) (vs : List V), DtAll H vs (tupledAll ds) → DtAll (upd H L o) vs (tupledAll ds)
  | [], _, h => by rw [tupledAll] at h ⊢; cases h; exact .nil
  | d :: ds, _, h => by
    rw [tupledAll] at h ⊢
    cases h with
    | cons a b => exact .cons (Dt.off hL d _ a) (DtAll.off hL ds _ b)
end
theorem DtAll.len {H : Hp} : ∀ {vs : List V} {ds : List PyData}, DtAll H vs ds → ds.length = vs.length
  | [], _, h => by cases h; rfl
  | v :: vs, _, h => by
    cases h with
    | cons a b => rw [List.length_cons, List.length_cons, DtAll.len b]
theorem DtAll.get {H : Hp} : ∀ {vs : List V} {ds : List PyData} {i : Nat} {v : V}, DtAll H vs ds → vs[i]? = some v → ∃ d, ds[i]? = some d ∧ Dt H v d
  | _ :: _, _, 0, _, .cons a _, e => by cases e; exact ⟨_, rfl, a⟩
  | _ :: vs, _, i + 1, _, .cons _ b, e => DtAll.get (vs := vs) (i := i) b e
theorem DtAll.push {H : Hp} {v : V} {d : PyData} (h2 : Dt H v d) : ∀ {vs : List V} {ds : List PyData}, DtAll H vs ds → DtAll H (vs ++ [v]) (ds ++ [d])
  | [], _, h => by cases h; exact .cons h2 .nil
  | _ :: _, _, .cons a b => .cons a (DtAll.push h2 b)
theorem depth_at : ∀ {ds : List PyData} {i : Nat} {d : PyData}, ds[i]? = some d → d.depth ≤ PyData.depthAll ds
  | d :: ds, 0, _, e => by cases e; simp only [PyData.depthAll]; omega
  | d :: ds, i + 1, _, e => by
    have := depth_at (ds := ds) (i := i) e
    simp only [PyData.depthAll]
    omega
/-! texts -/
def intsD (l : List Int) : List PyData := l.map PyData.int
def Row.data (r : Row) : PyData := if r.tup then .tuple (intsD r.vals) else .list (intsD r.vals)
def Row.tupled (r : Row) : Row := ⟨true, r.vals, r.le⟩
def Tx.data : Tx → PyData
  | .skip => .tuple [.str "skip"]
  | .hole => .tuple [.str "hole"]
  | .set n r => .tuple [.str "set", .int n, r.data]
  | .draw n p q x y => .tuple [.str "draw", .int n, .tuple [.int p, .int q], .tuple [.int x, .int y]]
  | .thn a b => .tuple [.str "then", a.data, b.data]
  | .iff s a b => .tuple [.str "if", s.data, a.data, b.data]
  | .eith a b => .tuple [.str "either", a.data, b.data]
  | .whil s a => .tuple [.str "while", s.data, a.data]
def Tx.tupled : Tx → Tx
  | .set n r => .set n r.tupled
  | .thn a b => .thn a.tupled b.tupled
  | .iff s a b => .iff s.tupled a.tupled b.tupled
  | .eith a b => .eith a.tupled b.tupled
  | .whil s a => .whil s.tupled a.tupled
  | t => t
theorem ints_tupled : ∀ l : List Int, tupledAll (intsD l) = intsD l
  | [] => by show tupledAll [] = []; rw [tupledAll]
  | x :: l => by
    show tupledAll (.int x :: intsD l) = .int x :: intsD l
    rw [tupledAll, tupledD, ints_tupled l]
theorem Row.data_tupled (r : Row) : tupledD r.data = r.tupled.data := by
  unfold Row.data Row.tupled
  cases r.tup <;> simp [tupledD, ints_tupled]
theorem Tx.data_tupled : ∀ t : Tx, tupledD t.data = t.tupled.data
  | .skip => by simp [Tx.data, Tx.tupled, tupledD, tupledAll]
  | .hole => by simp [Tx.data, Tx.tupled, tupledD, tupledAll]
  | .set n r => by simp [Tx.data, Tx.tupled, tupledD, tupledAll, r.data_tupled]
  | .draw n p q x y => by simp [Tx.data, Tx.tupled, tupledD, tupledAll]
  | .thn a b => by simp [Tx.data, Tx.tupled, tupledD, tupledAll, a.data_tupled, b.data_tupled]
  | .iff s a b => by simp [Tx.data, Tx.tupled, tupledD, tupledAll, s.data_tupled, a.data_tupled, b.data_tupled]
  | .eith a b => by simp [Tx.data, Tx.tupled, tupledD, tupledAll, a.data_tupled, b.data_tupled]
  | .whil s a => by simp [Tx.data, Tx.tupled, tupledD, tupledAll, s.data_tupled, a.data_tupled]
theorem ints_dt {H : Hp} : ∀ l : List Int, DtAll H (l.map V.int) (intsD l)
  | [] => .nil
  | x :: l => .cons (.int x) (ints_dt l)
theorem ints_of {H : Hp} : ∀ {l : List Int} {vs : List V}, DtAll H vs (intsD l) → vs = l.map V.int
  | [], _, h => by cases h; rfl
  | x :: l, _, h => by
    cases h with
    | cons a b =>
      cases a
      rw [ints_of b]
      rfl
theorem Row.dt {H : Hp} {r : Row} {c : Addr} (h : H c = some r.obj) : Dt H (.ref c) r.data := by
  unfold Row.obj at h
  unfold Row.data
  have l : (r.vals.map V.int).length ≤ 1000 := by rw [List.length_map]; exact r.le
  cases e : r.tup with
  | true => rw [e] at h; exact .tup h l (ints_dt _)
  | false => rw [e] at h; exact .lst h l (ints_dt _)
theorem Row.of_dt {H : Hp} {r : Row} {v : V} (h : Dt H v r.data) : ∃ c, v = .ref c ∧ H c = some r.obj := by
  unfold Row.obj
  unfold Row.data at h
  cases e : r.tup with
  | true =>
    rw [e] at h
    cases h with
    | tup g l a => rw [ints_of a] at g; exact ⟨_, rfl, g⟩
  | false =>
    rw [e] at h
    cases h with
    | lst g l a => rw [ints_of a] at g; exact ⟨_, rfl, g⟩
theorem Tx.At.dt {H : Hp} : ∀ {t : Tx} {v : V}, Tx.At H t v → Dt H v t.data
  | .skip, _, h => by obtain ⟨a, rfl, g⟩ := h; exact .tup g (by simp) (.cons (.str _) .nil)
  | .hole, _, h => by obtain ⟨a, rfl, g⟩ := h; exact .tup g (by simp) (.cons (.str _) .nil)
  | .set n r, _, h => by obtain ⟨a, c, rfl, g, q, rfl, gq⟩ := h; exact .tup g (by simp) (.cons (.str _) (.cons (.int _) (.cons (Row.dt gq) .nil)))
  | .draw n p q x y, _, h => by
    obtain ⟨a, c, d, rfl, g, gc, gd⟩ := h
    exact .tup g (by simp) (.cons (.str _) (.cons (.int _) (.cons (.tup gc (by simp) (.cons (.int _) (.cons (.int _) .nil))) (.cons (.tup gd (by simp) (.cons (.int _) (.cons (.int _) .nil))) .nil))))
  | .thn t u, _, h => by obtain ⟨a, c, d, rfl, g, ht, hu⟩ := h; exact .tup g (by simp) (.cons (.str _) (.cons (Tx.At.dt ht) (.cons (Tx.At.dt hu) .nil)))
  | .iff r t u, _, h => by obtain ⟨a, q, c, d, rfl, g, ⟨z, rfl, gz⟩, ht, hu⟩ := h; exact .tup g (by simp) (.cons (.str _) (.cons (Row.dt gz) (.cons (Tx.At.dt ht) (.cons (Tx.At.dt hu) .nil))))
  | .eith t u, _, h => by obtain ⟨a, c, d, rfl, g, ht, hu⟩ := h; exact .tup g (by simp) (.cons (.str _) (.cons (Tx.At.dt ht) (.cons (Tx.At.dt hu) .nil)))
  | .whil r t, _, h => by obtain ⟨a, q, c, rfl, g, ⟨z, rfl, gz⟩, ht⟩ := h; exact .tup g (by simp) (.cons (.str _) (.cons (Row.dt gz) (.cons (Tx.At.dt ht) .nil)))
theorem Tx.of_dt {H : Hp} : ∀ (t : Tx) (v : V), Dt H v t.data → Tx.At H t v
  | .skip, _, h => by
    cases h with
    | tup g l a => cases a with | cons a1 a => cases a1; cases a; exact ⟨_, rfl, g⟩
  | .hole, _, h => by
    cases h with
    | tup g l a => cases a with | cons a1 a => cases a1; cases a; exact ⟨_, rfl, g⟩
  | .set n r, _, h => by
    cases h with
    | tup g l a => cases a with | cons a1 a => cases a with | cons a2 a => cases a with | cons a3 a => cases a1; cases a2; cases a; exact ⟨_, _, rfl, g, Row.of_dt a3⟩
  | .draw n p q x y, _, h => by
    cases h with
    | tup g l a => cases a with | cons a1 a => cases a with | cons a2 a => cases a with | cons a3 a => cases a with | cons a4 a =>
      cases a1; cases a2; cases a
      cases a3 with
      | tup g3 _ b => cases b with | cons b1 b => cases b with | cons b2 b =>
        cases b1; cases b2; cases b
        cases a4 with
        | tup g4 _ b => cases b with | cons b1 b => cases b with | cons b2 b =>
          cases b1; cases b2; cases b
          exact ⟨_, _, _, rfl, g, g3, g4⟩
  | .thn t u, _, h => by
    cases h with
    | tup g l a => cases a with | cons a1 a => cases a with | cons a2 a => cases a with | cons a3 a => cases a1; cases a; exact ⟨_, _, _, rfl, g, Tx.of_dt t _ a2, Tx.of_dt u _ a3⟩
  | .iff r t u, _, h => by
    cases h with
    | tup g l a => cases a with | cons a1 a => cases a with | cons a2 a => cases a with | cons a3 a => cases a with | cons a4 a => cases a1; cases a; exact ⟨_, _, _, _, rfl, g, Row.of_dt a2, Tx.of_dt t _ a3, Tx.of_dt u _ a4⟩
  | .eith t u, _, h => by
    cases h with
    | tup g l a => cases a with | cons a1 a => cases a with | cons a2 a => cases a with | cons a3 a => cases a1; cases a; exact ⟨_, _, _, rfl, g, Tx.of_dt t _ a2, Tx.of_dt u _ a3⟩
  | .whil r t, _, h => by
    cases h with
    | tup g l a => cases a with | cons a1 a => cases a with | cons a2 a => cases a with | cons a3 a => cases a1; cases a; exact ⟨_, _, _, rfl, g, Row.of_dt a2, Tx.of_dt t _ a3⟩
theorem tupledAll_push (l : List PyData) (d : PyData) : tupledAll (l ++ [d]) = tupledAll l ++ [tupledD d] := by
  rw [tupledAll_map, tupledAll_map, List.map_append]
  rfl
/-! ## in tuples -/
def spTupledN (n : Nat) : Sp := fun vs H Q _ => ∃ v d, vs = [v] ∧ Dt H v d ∧ d.depth < n ∧ ∀ H' v', Same H H' → Dt H' v' (tupledD d) → Q v' H'
theorem fnG_none {P : Program} {w : World} {K : PySem.W.Frag} {mg : Str → Option Value} {base : Heap} {CX : CXT} {k : Nat} {f : Addr} {fd : FuncData} {ps : List Str} {sp : Sp} (h : ∀ vs H Q E, ¬ sp vs H Q E) : FnG P w K mg base CX k f fd ps sp :=
  ⟨fun vs H Q E s => absurd s (h vs H Q E), fun B up z H ar us vs Q E g r e b rv s => absurd s (h vs H Q E)⟩
theorem r_tupled {K : PySem.W.Frag} {n : Nat} {H : Hp} {Q : VK} {xs : List V} {ds : List PyData} {a : Addr} {H1 : Hp} (s1 : Same H H1) (ha : AnyAt H a xs) (hl : xs.length ≤ 1000) (had : DtAll H xs ds) (hdn : PyData.depthAll ds < n) (k : ∀ H' v', Same H H' → Dt H' v' (.tuple (tupledAll ds)) → Q v' H') :
    tLc (iOr (iList K (tVar 0)) (iTup K (tVar 0))) (gName 1) tYes (tCl (rFn 1 0 byPlace (spTupledN n) E0) (tCons (tVar 1) tNil) tNil) [1] [some (.ref a), none] H1 fun x H2 => rTupleOf K [x] H2 Q := by
  refine r_lc ?_
  refine r_iAny (fun q h => r_var rfl h) (AnyAt.same ha s1) fun I Ok SI okI => fun D hD => ?_
  refine it_any SI (fun i A => Same H1 A ∧ ∃ ys, A D = some (.lst ys) ∧ DtAll A ys (tupledAll (ds.take i))) ⟨Same.upd_new hD, [], upd_same, by rw [List.take_zero, tupledAll]; exact .nil⟩ (fun i A _ p => okI _ p.1) (fun i x A hx p => ?_) (fun A p => ?_)
  · obtain ⟨sA, ys, dA, hy⟩ := p
    obtain ⟨d, hd, hxd⟩ := had.get hx
    have il : i < ds.length := (List.getElem?_eq_some_iff.mp hd).1
    have lds := had.len
    refine r_gname ⟨rfl, ?_⟩
    walk_at "r"
    refine ⟨x, d, rfl, Dt.same (s1.trans sA) d x hxd, Nat.lt_of_le_of_lt (depth_at hd) hdn, fun A2 v' s2 hv' => ?_⟩
    have dA2 := s2 _ _ dA
    have yl : ys.length ≤ 1000 := by
      have := hy.len
      rw [tupledAll_map, List.length_map, List.length_take] at this
      omega
    refine ⟨ys, dA2, by rw [sizeLine_eq]; omega, Same.over (sA.trans s2) hD, ys ++ [v'], upd_same, ?_⟩
    rw [take_next hd]
    refine DtAll.off dA2 _ _ ?_
    rw [tupledAll_push]
    exact DtAll.push hv' (DtAll.same s2 _ _ hy)
  · obtain ⟨sA, ys, dA, hy⟩ := p
    rw [← had.len, List.take_length] at hy
    have yl : ys.length ≤ 1000 := by
      have := hy.len
      have lds := had.len
      rw [tupledAll_map, List.length_map] at this
      omega
    refine r_tupleL (SqL.of dA) fun l hl2 => ?_
    exact k _ _ ((s1.trans sA).trans (Same.upd_new hl2)) (.tup upd_same yl (DtAll.same (Same.upd_new hl2) _ _ hy))
section
variable {P : Program} {w : World} {K : PySem.W.Frag} {mg : Str → Option Value} {base : Heap}
theorem ok_in_tuples {f : Addr} {fd : FuncData} (F : Fun K "in_tuples" "in_tuples" s_in_tuples f fd) (Z : Zs mg) (d_is_list : DefD P w K mg base 1 "is_list" 1 [] byPlace (spListV K))
    (mk : ∀ n, FnG P w K mg base CX0 (n + 1) f fd ["value"] (spTupledN n) → DefD P w K mg base (n + 1) "in_tuples" 1 [] byPlace (spTupledN n)) : ∀ n, FnG P w K mg base CX0 (n + 1) f fd ["value"] (spTupledN n)
  | 0 => fnG_none fun vs H Q E h => by obtain ⟨_, _, _, _, h, _⟩ := h; omega
  | n + 1 => by
    have d_in_tuples := mk n (ok_in_tuples F Z d_is_list mk n)
    refine okG F sc_in_tuples (fun vs H Q E h => ?_) (fun cdv B up z H vs Q E hG hr h => ?_)
    · obtain ⟨v, d, rfl, _⟩ := h
      rfl
    obtain ⟨v, d, rfl, hd, hn, k⟩ := h
    refine ⟨_, (pss_cons (ps_if (pt_val (pd_pos d_is_list hG hr (by omega) (by rfl) (pa_cons (pv 0) pa_nil))) (pss_one (ps_ret (pe_callTy (show CallR _ _ (rTupleOf K) from c_tuple) (by rfl) Z.tuple_ (by decide +kernel) (pa_cons (pe_lc (own := [("item", 1)]) (tt := tYes) rfl sc_in_tuples.nd (pi_or (pi_list (pv 0)) (pi_tup (pv 0))) (blkOk_by (N := ["value", "item"]) (sc := defScope s_in_tuples) (by decide +kernel)) (fun _ _ _ _ _ => (pg_name (i := 1) sc_in_tuples.nd rfl (by first | exact Or.inl rfl | exact Or.inr rfl))) (fun _ _ _ _ _ => pts_nil) (fun _ _ _ _ _ => (pd_pos d_in_tuples hG hr (by omega) (by rfl) (pa_cons (pv 1) pa_nil)))) pa_nil)))) pss_nil)
  (pss_one (ps_ret (pv 0)))), ?_⟩
    walk_at "r"
    have seq : ∀ {xs : List V} {ds : List PyData} {a : Addr} {H1 : Hp}, Same H H1 → AnyAt H a xs → xs.length ≤ 1000 → DtAll H xs ds → PyData.depthAll ds < n → (∀ H' v', Same H H' → Dt H' v' (.tuple (tupledAll ds)) → Q v' H') → _ := @r_tupled K n H Q
    cases hd with
    | int i =>
      refine ⟨_, _, rfl, .base (.int i), .int, fun H1 s1 => ?_⟩
      rw [show isLT (.type "int") = false from by decide]
      walk_at "r"
      exact k H1 _ s1 (by rw [tupledD]; exact .int i)
    | str x =>
      refine ⟨_, _, rfl, .base (.str x), .str, fun H1 s1 => ?_⟩
      rw [show isLT (.type "str") = false from by decide]
      walk_at "r"
      exact k H1 _ s1 (by rw [tupledD]; exact .str x)
    | lst e l a =>
      refine ⟨_, _, rfl, .base (.lst e), .lst, fun H1 s1 => ?_⟩
      rw [show isLT (.type "list") = true from by decide]
      walk_at "r"
      exact seq s1 (.inl e) l a (by simp only [PyData.depth] at hn; omega) fun H' v' s h => k H' v' s (by rw [tupledD]; exact h)
    | tup e l a =>
      refine ⟨_, _, rfl, .base (.tup e), .tup, fun H1 s1 => ?_⟩
      rw [show isLT (.type "tuple") = true from by decide]
      walk_at "r"
      exact seq s1 (.inr e) l a (by simp only [PyData.depth] at hn; omega) fun H' v' s h => k H' v' s (by rw [tupledD]; exact h)
end
end Eld
set_option Elab.async false
set_option maxRecDepth 100000
set_option maxHeartbeats 4000000
set_option linter.all false
namespace Eld
open PySem PySem.Spec PyProof.Rows L2
/-! ## enumerate(t), t a tuple -/
theorem meets_enumT (l : Addr) (items : Array Value) :
    Meets (Builtin.«enumerate.__new__» ⟨[.type "enumerate", .ref l], []⟩) (fun _ R s => s.heap.IsTuple l items ∧
      R (.ok (.ret (.ref (s.heap.push { cls := .type "tuple_iterator", data := .fields #[.ref l, .int 0 0] }).objs.size)))
        { s with heap := (s.heap.push { cls := .type "tuple_iterator", data := .fields #[.ref l, .int 0 0] }).push { cls := .type "enumerate", data := .fields #[.none, .bool false, .ref s.heap.objs.size, rawInt 0, .none, .none] } }) :=
  .of_wp fun prog w A R s h => by
    obtain ⟨hp, g, d, tk, os⟩ := s
    obtain ⟨hl, h⟩ := h
    have hL : Heap.IsTuple (Shared.heap ⟨hp, g, d, tk, os⟩) l items := hl
    have hsub := sub_enumerate
    wp_walk
    refine wpAny_stack_any fun st => wpAny_pure ?_
    split
    · rename_i c _ _ _ _ _
      cases (c == Value.type "enumerate")
      · wp_walk using wpAny_pyIter_tuple hL
        exact ⟨_, rfl, h⟩
      · wp_walk using wpAny_pyIter_tuple hL
        exact ⟨_, rfl, h⟩
    · wp_walk using wpAny_pyIter_tuple hL
      exact ⟨_, rfl, h⟩
theorem call_enumT {prog : Program} {w : World} {A : Around} {E : Value → Shared → Prop} {s : Shared} {l : Addr} {items : Array Value} {Q : Value → Shared → Prop} (hL : s.heap.IsTuple l items)
    (h : ∀ h', IsEnum h' (s.heap.objs.size + 1) s.heap.objs.size 0 .none → h'.IsTupleIter s.heap.objs.size l 0 → h'.objs.size = s.heap.objs.size + 2 →
      (∀ b o, s.heap.get? b = some o → h'.get? b = some o) → Q (.ref (s.heap.objs.size + 1)) { s with heap := h' }) :
    wpAny (model prog w) A (call (.type "enumerate") [.ref l]) Q E s := by
  refine callType_new F.called_enumerate (by decide) (F.typeCall_enumerate_1 _) (F.newCall_enumerate_1 _) (fun obj => F.args_object_init_2 obj _) F.entry_enumerate_new
    (meets_enumT l items) ⟨hL, ?_⟩
  have hz : (s.heap.push { cls := .type "tuple_iterator", data := .fields #[.ref l, .int 0 0] }).objs.size = s.heap.objs.size + 1 := Heap.size_push ..
  show _ ∧ _
  rw [hz]
  have he : IsEnum ((s.heap.push { cls := .type "tuple_iterator", data := .fields #[.ref l, .int 0 0] }).push
      { cls := .type "enumerate", data := .fields #[.none, .bool false, .ref s.heap.objs.size, rawInt 0, .none, .none] }) (s.heap.objs.size + 1) s.heap.objs.size 0 .none := by
    have := Heap.get?_push_size (s.heap.push { cls := .type "tuple_iterator", data := .fields #[.ref l, .int 0 0] })
      (o := { cls := .type "enumerate", data := .fields #[.none, .bool false, .ref s.heap.objs.size, rawInt 0, .none, .none] }) rfl
    rw [hz] at this; exact this
  refine ⟨⟨_, he, rfl⟩, h _ he ⟨_, Heap.get?_push_of_some _ (Heap.get?_push_size _ rfl), rfl, rfl⟩ (by rw [Heap.size_push, hz]) fun b o x => Heap.get?_push_of_some _ (Heap.get?_push_of_some _ x)⟩
def IteT (K : PySem.W.Frag) (a : Addr) : It where
  go := fun i H => ∃ (xs : List V) (x : V), SqT K H a xs ∧ xs[i]? = some x
  yld := fun i H v H' => ∃ T x, v = .ref T ∧ H T = none ∧ H' = upd H T (.tup [.int (i : Nat), x]) ∧ ∀ xs, SqT K H a xs → xs[i]? = some x
  stop := fun i H => ∃ xs : List V, SqT K H a xs ∧ i = xs.length
theorem turn_enumT {P : Program} {w : World} {K : PySem.W.Frag} {elts : List Expr} {kk : Nat} {tpos : Pos} (a e it : Addr) (hai : a ≠ it) (hae : a ≠ e) :
    Turn P w K (.Tuple elts kk tpos) (IteT K a) [e, it] e (fun i h => (∃ old, IsEnum h e it ((i : Nat) : Int) old) ∧ h.IsTupleIter it a i ∧ e ≠ it) where
  mem := by simp
  obj := fun i h st b hb => by
    obtain ⟨⟨old, he⟩, ⟨o, ho, hc, hd⟩, _⟩ := st
    have e' : b = e ∨ b = it := by simpa using hb
    rcases e' with z | z
    · rw [z]; exact ⟨_, he, fun v q => nomatch q⟩
    · rw [z]; exact ⟨o, ho, fun v q => by rw [hd] at q; cases q⟩
  keep := fun i h h' st k => let ⟨⟨old, he⟩, hi, hne⟩ := st; ⟨⟨old, k e (by simp) _ he⟩, hi.at fun o q => k it (by simp) o q, hne⟩
  item := by
    intro X hP hw hK hc i pins s σ H E I hf st hg
    subst hP hw hK
    obtain ⟨⟨old, he⟩, hit, hne⟩ := st
    obtain ⟨xs, x, hq, hx⟩ := hg
    obtain ⟨its, rv, p, hz⟩ := I.tuple hq
    obtain ⟨u, hu, ru⟩ := rv.get hx
    have hel : e < s.heap.objs.size := Heap.lt_size he
    have hil : it < s.heap.objs.size := by obtain ⟨_, q, _⟩ := hit; exact Heap.lt_size q
    have hnd : X.A.in1.handled = none := I.ok.hd hc
    have lu : i < its.toArray.size := by simpa using (List.getElem?_eq_some_iff.mp hu).1
    refine wpAny_pyNext_enum_itemD (Draws.tuple hnd it a hai its.toArray) he ⟨hit, p⟩ lu hne (by simp [hne, Ne.symm hae]) fun y h' tk hy ho st' hT hsz hk => ?_
    have ey : y = u := by
      have e : its.toArray[i]? = some y := hy
      rw [List.getElem?_toArray, hu] at e
      exact (Option.some.inj e).symm
    subst ey
    refine ⟨_, rfl, wpAny_letOwnedTupleGo_enum (s := { s with heap := h', toks := tk + 1 }) ho fun h'' he' sb => ?_⟩
    have hT2 : h''.get? s.heap.objs.size = some { cls := .type "tuple", data := .seq #[.int i tk, y] } := (sb.2 _ (Nat.ne_of_gt hel)).trans hT
    have new : ObjOk X.prog X.w (upd H s.heap.objs.size (.tup [.int (i : Nat), x])) h'' s.heap.objs.size (.tup [.int (i : Nat), x]) :=
      ⟨by show 2 ≤ sizeLine; decide, [.int i tk, y], .cons ⟨_, rfl⟩ (.cons ru .nil), ⟨_, hT2, rfl, _, rfl⟩⟩
    have I1 : Inv X pins σ (upd H s.heap.objs.size (.tup [.int (i : Nat), x])) { s with heap := h'', toks := tk + 1 } :=
      I.turnedNew (ch := [e, it]) (fun b ob hb q => (sb.2 b (fun z => hb (by simp [z]))).trans (hk b ob (fun z => hb (by simp [z])) (fun z => hb (by simp [z])) q)) hf (Nat.le_refl _) new
    refine ⟨.ref s.heap.objs.size, _, I1, rfl, ⟨_, x, rfl, I.hok.fresh (Nat.le_refl _), rfl, fun ys hy => by rw [I.tuple_inj hy hq]; exact hx⟩, ⟨⟨y, ?_⟩, st'.1.at fun o q => (sb.2 it (Ne.symm hne)).trans q, hne⟩, fun b hb => ?_⟩
    · have e1 : ((i + 1 : Nat) : Int) = (i : Int) + 1 := by omega
      rw [e1]; exact he'
    · have hb' : b < s.heap.objs.size := by
        have e' : b = e ∨ b = it := by simpa using hb
        rcases e' with z | z
        · rw [z]; exact hel
        · rw [z]; exact hil
      rw [upd_ne (Nat.ne_of_lt hb')]
      exact (hf b hb).1
  done := by
    intro X hP hw hK hc i pins s σ H E I hf st hg
    subst hP hw hK
    obtain ⟨⟨old, he⟩, hit, hne⟩ := st
    obtain ⟨xs, hq, hx⟩ := hg
    obtain ⟨its, rv, p, hz⟩ := I.tuple hq
    have hnd : X.A.in1.handled = none := I.ok.hd hc
    obtain ⟨f0, f1, f2, f3, f4, f5⟩ := hf it (by simp)
    have hl := rv.length
    have e1 : i = its.toArray.size := by simp; omega
    rw [e1] at hit
    exact wpAny_pyNext_enum_endD (Draws.tuple hnd it a hai its.toArray) he ⟨hit, p⟩ fun h' eb => ⟨rfl, I.turned (t' := s.toks) (fun b o hb q => eb b o hb q) f0 f1 f3 f4 f5⟩
  self := fun A i s Q E st h => let ⟨⟨_, he⟩, _⟩ := st; wpAny_pyIter_enum he h
def iEnumT (K : PySem.W.Frag) (ta : TA) : TI := fun σ H R => ta σ H fun vs H1 => ∃ a xs, vs = [.ref a] ∧ SqT K H1 a xs ∧ R (IteT K a) H1
theorem pi_enumT {X : Cx} {e : Expr} {ta : TA} {p pos tpos : Pos} {elts : List Expr} {kk : Nat} (hg : Gl X "enumerate") (hm : X.mg "enumerate" = none) (ha : PA X [e] ta) (hs : starEach [e] X.env = [(false, eval e X.env)] := by rfl) :
    PI X (.Tuple elts kk tpos) (.Call (.Name "enumerate" p) [e] [] pos) (iEnumT X.K ta) := by
  refine ⟨fun pins s σ H R I h => ?_⟩
  refine Call_ (ld_blt I hg hm boot_enumerate (PyProof.Rows.callWith_type1 (thn (ha.run pos pins s σ H _ I h) fun us s1 ⟨vs, H1, I1, r1, q1⟩ => ?_) hs rfl))
  obtain ⟨a, xs, ex, hq, q⟩ := q1
  subst ex
  cases r1 with
  | cons r rr =>
    cases rr
    cases r
    obtain ⟨its, rv, p', hz⟩ := I1.tuple hq
    have la : a < s1.heap.objs.size := by
      obtain ⟨o, e, _⟩ := id p'
      exact Heap.lt_size e
    refine call_enumT (show s1.heap.IsTuple a its.toArray from p') fun h' he hit hsz hk => wpAny_pyIter_enum he ?_
    have I2 : Inv X pins σ H1 { s1 with heap := h' } := I1.kept (t' := s1.toks) hk
    refine ⟨s1.heap.objs.size + 1, [s1.heap.objs.size + 1, s1.heap.objs.size], _, _, H1, rfl, I2, turn_enumT a (s1.heap.objs.size + 1) s1.heap.objs.size (Nat.ne_of_lt la) (Nat.ne_of_lt (Nat.lt_succ_of_lt la)), ⟨⟨.none, he⟩, hit, Nat.succ_ne_self _⟩, fun b hb => ?_, q⟩
    have e' : b = s1.heap.objs.size + 1 ∨ b = s1.heap.objs.size := by simpa using hb
    have hle : s1.heap.objs.size ≤ b := by
      rcases e' with z | z
      · rw [z]; exact Nat.le_add_right _ _
      · rw [z]; exact Nat.le_refl _
    exact I1.fpOk hle (I1.hok.fresh hle)
theorem it_enumT {K : PySem.W.Frag} {a : Addr} {xs : List V} {H0 : Hp} {Stop : Hp → Prop} {Turn : (Hp → Prop) → V → Hp → Prop} (Pv : Nat → Hp → Prop) (h0 : Pv 0 H0) (hq : ∀ i H, i ≤ xs.length → Pv i H → SqT K H a xs)
    (hs : ∀ i x T H, xs[i]? = some x → Pv i H → H T = none → Turn (Pv (i + 1)) (.ref T) (upd H T (.tup [.int (i : Nat), x]))) (hd : ∀ H, Pv xs.length H → Stop H) :
    ∃ W : Nat → Nat → Hp → Prop, (∃ m, W 0 m H0) ∧ ∀ i m H, W i m H → ((IteT K a).stop i H ∧ Stop H) ∨ ((IteT K a).go i H ∧ ∃ Nx : Hp → Prop, (∀ H', Nx H' → ∃ m', m' < m ∧ W (i + 1) m' H') ∧ ∀ x H', (IteT K a).yld i H x H' → Turn Nx x H') := by
  refine ⟨fun i m H => m + i = xs.length ∧ Pv i H, ⟨xs.length, rfl, h0⟩, ?_⟩
  rintro i m H ⟨e, p⟩
  have q1 := hq i H (by omega) p
  cases m with
  | zero =>
    have e' : i = xs.length := by omega
    subst e'
    exact .inl ⟨⟨xs, q1, rfl⟩, hd H p⟩
  | succ m =>
    have l1 : i < xs.length := by omega
    refine .inr ⟨⟨xs, _, q1, List.getElem?_eq_getElem l1⟩, Pv (i + 1), fun H' p' => ⟨m, Nat.lt_succ_self _, by omega, p'⟩, ?_⟩
    rintro x H' ⟨T, x', rfl, nT, rfl, f1⟩
    exact hs i x' T H (f1 xs q1) p nT
end Eld
set_option Elab.async false
set_option maxRecDepth 100000
set_option maxHeartbeats 4000000
set_option linter.all false
namespace Eld
open PySem L2
local macro_rules | `(tactic| walk_at "r1") => `(tactic| with_reducible first
  | refine r_seq ?_ | refine r_asgN ?_ | refine r_asg ?_ | refine r_gname ?_ | refine r_gsub ?_ | refine r_var rfl ?_ | refine r_c ?_ | refine r_op ?_ | refine r_un ?_ | refine r_u ?_ | refine r_i0 ?_ | refine r_cb ?_ | refine r_cons ?_ | refine r_nil ?_ | refine r_cl ?_ | refine r_fn rfl rfl ?_ | refine r_mt ?_
  | refine r_test ?_ | refine r_tb ?_ | refine r_bl ?_ | refine r_and ?_ | refine r_or ?_ | refine r_not ?_ | refine r_andV ?_ | refine r_orV ?_ | refine r_notV ?_ | refine r_ifX ?_ | refine r_ifs ?_ | refine r_chain ?_ | refine r_ret ?_ | refine r_next ?_ | refine r_drop ?_ | refine iteT ?_ | refine iteF ?_ | refine iteNT ?_ | refine iteNF ?_
  | refine r_int1 ?_ | refine r_boolB ?_ | refine r_eqI ?_ | refine r_neI ?_ | refine r_eqB ?_ | refine r_neB ?_ | refine r_eqS ?_ | refine r_neS ?_ | refine r_abs ?_ | refine r_max2 ?_ | refine r_min2 ?_ | refine r_yes ?_ | refine r_tup ?_ | refine r_sfld ?_ | refine r_m0 ?_ | refine r_m1 ?_ | refine r_lst ?_ | refine r_rng1 ?_ | refine r_rng2 ?_ | refine r_ixL (SqL.of (by assumption)) rfl ?_)
local macro_rules | `(tactic| walk_at "r") => `(tactic| repeat (first | walk_at "r1" | ((with_reducible refine r_var ?hv ?_); (case hv => rfl))))

/-! ## all parts, size and depth -/
theorem for_enumT {K : PySem.W.Frag} {a : Addr} {xs : List V} {g : TG} {tb : TS} {D : Ends} {σ : L2.St} {H : Hp} (Pv : Nat → L2.St → Hp → Prop) (h0 : Pv 0 σ H) (hq : ∀ i σ H, i ≤ xs.length → Pv i σ H → SqT K H a xs)
    (hs : ∀ i x T σ H, xs[i]? = some x → Pv i σ H → H T = none → g (.ref T) σ (upd H T (.tup [.int (i : Nat), x])) fun σ2 H2 => tb { D with nx := Pv (i + 1), ct := Pv (i + 1), bk := D.nx } σ2 H2) (hd : ∀ σ H, Pv xs.length σ H → D.nx σ H) :
    ∃ W : Nat → Nat → L2.St → Hp → Prop, (∃ m, W 0 m σ H) ∧ ∀ i m σ H, W i m σ H →
      ((IteT K a).stop i H ∧ D.nx σ H) ∨ ((IteT K a).go i H ∧ ∃ N : L2.St → Hp → Prop, (∀ σ' H', N σ' H' → ∃ m', m' < m ∧ W (i + 1) m' σ' H') ∧ ∀ x H', (IteT K a).yld i H x H' → g x σ H' fun σ2 H2 => tb { D with nx := N, ct := N, bk := D.nx } σ2 H2) := by
  refine ⟨fun i m σ H => m + i = xs.length ∧ Pv i σ H, ⟨xs.length, rfl, h0⟩, ?_⟩
  rintro i m σ H ⟨e, p⟩
  have q1 := hq i σ H (by omega) p
  cases m with
  | zero =>
    have e' : i = xs.length := by omega
    subst e'
    exact .inl ⟨⟨xs, q1, rfl⟩, hd σ H p⟩
  | succ m =>
    have l1 : i < xs.length := by omega
    refine .inr ⟨⟨xs, _, q1, List.getElem?_eq_getElem l1⟩, Pv (i + 1), fun σ' H' p' => ⟨m, Nat.lt_succ_self _, by omega, p'⟩, ?_⟩
    rintro x H' ⟨T, x', rfl, nT, rfl, f1⟩
    exact hs i x' T σ H (f1 xs q1) p nT
/-- all parts, a part ahead of what is in it -/
def Tx.subs : Tx → List Tx
  | .thn a b => .thn a b :: (a.subs ++ b.subs)
  | .iff s a b => .iff s a b :: (a.subs ++ b.subs)
  | .eith a b => .eith a b :: (a.subs ++ b.subs)
  | .whil s a => .whil s a :: a.subs
  | t => [t]
theorem Tx.subs_kids (t : Tx) : t.subs = t :: (t.kids.map Tx.subs).flatten := by
  cases t <;> simp [Tx.subs, Tx.kids]
theorem Tx.subs_len : ∀ t : Tx, t.subs.length = t.nodes
  | .skip => rfl
  | .hole => rfl
  | .set _ _ => rfl
  | .draw _ _ _ _ _ => rfl
  | .thn a b => by simp [Tx.subs, Tx.nodes, a.subs_len, b.subs_len]; omega
  | .iff s a b => by simp [Tx.subs, Tx.nodes, a.subs_len, b.subs_len]; omega
  | .eith a b => by simp [Tx.subs, Tx.nodes, a.subs_len, b.subs_len]; omega
  | .whil s a => by simp [Tx.subs, Tx.nodes, a.subs_len]; omega
theorem Tx.subs_parts : ∀ t : Tx, (t.subs.map Tx.p0).sum = t.parts
  | .skip => rfl
  | .hole => rfl
  | .set _ _ => rfl
  | .draw _ _ _ _ _ => rfl
  | .thn a b => by simp [Tx.subs, Tx.parts, Tx.p0, a.subs_parts, b.subs_parts]
  | .iff s a b => by simp [Tx.subs, Tx.parts, Tx.p0, a.subs_parts, b.subs_parts]
  | .eith a b => by simp [Tx.subs, Tx.parts, Tx.p0, a.subs_parts, b.subs_parts]
  | .whil s a => by simp [Tx.subs, Tx.parts, Tx.p0, a.subs_parts]
/-- pairs of something and a part -/
def SubsAt (H : Hp) : List Tx → List V → Prop
  | [], [] => True
  | t :: ts, p :: ps => (∃ q w v, p = .ref q ∧ H q = some (.tup [w, v]) ∧ Tx.At H t v) ∧ SubsAt H ts ps
  | _, _ => False
theorem SubsAt.same {H H' : Hp} (s : Same H H') : ∀ {W : List Tx} {ps : List V}, SubsAt H W ps → SubsAt H' W ps
  | [], [], _ => trivial
  | x :: W, p :: ps, h => by
    obtain ⟨⟨q, w, v, e, g, a⟩, r⟩ := h
    exact ⟨⟨q, w, v, e, s _ _ g, a.same s⟩, SubsAt.same s r⟩
  | [], _ :: _, h => h.elim
  | _ :: _, [], h => h.elim
theorem SubsAt.append {H : Hp} : ∀ {W W' : List Tx} {ps ps' : List V}, SubsAt H W ps → SubsAt H W' ps' → SubsAt H (W ++ W') (ps ++ ps')
  | [], _, [], _, _, h2 => h2
  | _ :: _, _, _ :: _, _, h, h2 => ⟨h.1, SubsAt.append h.2 h2⟩
  | [], _, _ :: _, _, h, _ => h.elim
  | _ :: _, _, [], _, h, _ => h.elim
theorem SubsAt.len {H : Hp} : ∀ {W : List Tx} {ps : List V}, SubsAt H W ps → W.length = ps.length
  | [], [], _ => rfl
  | _ :: _, _ :: _, h => by rw [List.length_cons, List.length_cons, SubsAt.len h.2]
  | [], _ :: _, h => h.elim
  | _ :: _, [], h => h.elim
theorem SubsAt.get {H : Hp} : ∀ {W : List Tx} {ps : List V} {i : Nat} {p : V}, SubsAt H W ps → ps[i]? = some p → ∃ t q w v, W[i]? = some t ∧ p = .ref q ∧ H q = some (.tup [w, v]) ∧ Tx.At H t v
  | t :: _, _ :: _, 0, _, h, e => by
    cases e
    obtain ⟨⟨q, w, v, e, g, a⟩, r⟩ := h
    exact ⟨t, q, w, v, rfl, e, g, a⟩
  | _ :: W, _ :: ps, i + 1, _, h, e => SubsAt.get (W := W) (ps := ps) (i := i) h.2 e
  | [], [], _, _, _, e => by cases e
  | [], _ :: _, _, _, h, _ => h.elim
  | _ :: _, [], _, _, h, _ => h.elim
def spListedN (K : PySem.W.Frag) (n : Nat) : Sp := fun vs H Q _ => ∃ v t pa xs, vs = [v, .ref pa] ∧ Tx.At H t v ∧ SqT K H pa xs ∧ xs.length + n ≤ 1000 ∧ t.nodes < n ∧ ∀ H' l ls, Same H H' → H l = none → H' l = some (.lst ls) → SubsAt H' t.subs ls → Q (.ref l) H'
def spSizeOf (N : Nat) : Sp := fun vs H Q _ => ∃ v t, vs = [v] ∧ Tx.At H t v ∧ t.nodes < N ∧ N ≤ 1000 ∧ ∀ H', Same H H' → Q (.int (t.parts : Nat)) H'
def spDepthN (n : Nat) : Sp := fun vs H Q _ => ∃ v t, vs = [v] ∧ Tx.At H t v ∧ t.nodes < n ∧ ∀ H', Same H H' → Q (.int (t.depth : Nat)) H'
theorem r_ie {K : PySem.W.Frag} {ta : TA} {σ : L2.St} {H : Hp} {R : It → Hp → Prop} (h : ta σ H fun vs H1 => ∃ a xs, vs = [.ref a] ∧ SqT K H1 a xs ∧ R (IteT K a) H1) : iEnumT K ta σ H R := h
/-- t + (i,), t any tuple -/
theorem r_catOne {K : PySem.W.Frag} {H : Hp} {Q : VK} {t q : Addr} {xs : List V} {x : V} (ht : SqT K H t xs) (hq : H q = some (.tup [x])) (hl : xs.length ≤ 1000)
    (h : ∀ p H', Same H H' → SqT K H' p (xs ++ [x]) → Q (.ref p) H') : rCatA K (.ref t) (.ref q) H Q := by
  refine ⟨t, q, xs, [x], rfl, rfl, ht, SqT.of hq, ?_, fun e => ?_, fun _ e => (nomatch e), fun _ _ p hp => ?_⟩
  · rw [sizeLine_eq, List.length_singleton]
    omega
  · subst e
    exact h q H (Same.refl H) (SqT.of hq)
  · exact h p _ (Same.upd_new hp) (SqT.of upd_same)
theorem kids_nodes {t k : Tx} {i : Nat} (h : t.kids[i]? = some k) : k.nodes < t.nodes := by
  have h1 := t.nodes_kids
  have h2 : ∀ (l : List Tx) (i : Nat), l[i]? = some k → k.nodes ≤ (l.map Tx.nodes).sum := by
    intro l
    induction l with
    | nil => intro i e; cases e
    | cons x l ih =>
      intro i e
      rw [List.map_cons, List.sum_cons]
      cases i with
      | zero => cases e; omega
      | succ i => have := ih i e; omega
  have h2 := h2 _ _ h
  omega
theorem Tx.subs_take (t : Tx) (i : Nat) : (t :: ((t.kids.take i).map Tx.subs).flatten).length ≤ t.nodes := by
  rw [← t.subs_len, t.subs_kids, List.length_cons, List.length_cons]
  have e : ((t.kids.map Tx.subs).flatten).length = (((t.kids.take i).map Tx.subs).flatten).length + (((t.kids.drop i).map Tx.subs).flatten).length := by
    rw [← List.length_append, ← List.flatten_append, ← List.map_append, List.take_append_drop]
  omega
theorem flat_take {kids : List Tx} {i : Nat} {k : Tx} (h : kids[i]? = some k) : ((kids.take (i + 1)).map Tx.subs).flatten = ((kids.take i).map Tx.subs).flatten ++ k.subs := by
  rw [take_next h, List.map_append, List.flatten_append]
  simp
theorem ints_cast (l : List Nat) : (l.map fun n : Nat => V.int ((n : Nat) : Int)) = (l.map fun n : Nat => ((n : Nat) : Int)).map V.int := by
  rw [List.map_map]
  rfl
section
variable {P : Program} {w : World} {K : PySem.W.Frag} {mg : Str → Option Value} {base : Heap}
theorem ok_listed {f : Addr} {fd : FuncData} (F : Fun K "listed_parts" "listed_parts" s_listed_parts f fd) (Z : Zs mg) (d_children : DefD P w K mg base 1 "children" 1 [] byPlace spChildren)
    (mk : ∀ n, FnG P w K mg base CX0 (n + 1) f fd ["part", "path"] (spListedN K n) → DefD P w K mg base (n + 1) "listed_parts" 2 [] byPlace (spListedN K n)) : ∀ n, FnG P w K mg base CX0 (n + 1) f fd ["part", "path"] (spListedN K n)
  | 0 => fnG_none fun vs H Q E h => by obtain ⟨_, _, _, _, _, _, _, _, h, _⟩ := h; omega
  | n + 1 => by
    have d_listed_parts := mk n (ok_listed F Z d_children mk n)
    refine okG F sc_listed_parts (fun vs H Q E h => ?_) (fun cdv B up z H vs Q E hG hr h => ?_)
    · obtain ⟨v, t, pa, xs, rfl, _⟩ := h
      rfl
    obtain ⟨v, t, pa, xs, rfl, ht, hpa, hx, hn, k⟩ := h
    refine ⟨_, (pss_cons (ps_set (i := 2) sc_listed_parts.nd rfl (by first | exact Or.inl rfl | exact Or.inr rfl) (pe_lst (pa_cons (pe_tup (pa_cons (pv 1) (pa_cons (pv 0) pa_nil))) pa_nil)))
  (pss_cons (ps_for PassesOwn.never rfl (pi_enumT (by rfl) Z.enumerate_ (pa_cons (pd_pos d_children hG hr (by omega) (by rfl) (pa_cons (pv 0) pa_nil)) pa_nil)) (by (refine (show PG _ _ (gTup K 2 (gCons (gName 3) (gCons (gName 4) gNil))) from ?_); refine pg_tup rfl (pgs_cons ?_ (pgs_cons ?_ pgs_nil)); exact (pg_name (i := 3) sc_listed_parts.nd rfl (by first | exact Or.inl rfl | exact Or.inr rfl)); exact (pg_name (i := 4) sc_listed_parts.nd rfl (by first | exact Or.inl rfl | exact Or.inr rfl))))
  (pss_one (ps_set (i := 2) sc_listed_parts.nd rfl (by first | exact Or.inl rfl | exact Or.inr rfl) (pe_op op_cat (pv 2) (pd_pos d_listed_parts hG hr (by omega) (by rfl) (pa_cons (pv 4) (pa_cons (pe_op (show OpR _ _ (rCatA K) from op_catA) (pv 1) (pe_tup (pa_cons (pv 3) pa_nil))) pa_nil)))))))
  (pss_one (ps_ret (pv 2))))), ?_⟩
    walk_at "r"
    refine ⟨by show 2 ≤ sizeLine; decide, fun T hT => ?_⟩
    walk_at "r"
    refine ⟨by show 1 ≤ sizeLine; decide, fun L hL => ?_⟩
    have sT : Same H (upd H T (.tup [V.ref pa, v])) := Same.upd_new hT
    have sL : Same H (upd (upd H T (.tup [V.ref pa, v])) L (.lst [V.ref T])) := sT.trans (Same.upd_new hL)
    have nTL : T ≠ L := fun e => by rw [← e, upd_same] at hL; cases hL
    have h1 : SubsAt (upd (upd H T (.tup [V.ref pa, v])) L (.lst [V.ref T])) [t] [V.ref T] := ⟨⟨T, V.ref pa, v, rfl, by rw [upd_ne nTL]; exact upd_same, ht.same sL⟩, trivial⟩
    have h2 : (upd (upd H T (.tup [V.ref pa, v])) L (.lst [V.ref T])) L = some (.lst [V.ref T]) := upd_same
    have hL0 := sT.free hL
    generalize upd (upd H T (.tup [V.ref pa, v])) L (.lst [V.ref T]) = H1 at sL h1 h2 ⊢
    walk_at "r"
    with_reducible refine r_for ?_
    refine r_ie ?_
    walk_at "r"
    refine ⟨v, t, rfl, ht.same sL, fun H2 kt ks s2 _ hkt hks => ?_⟩
    have s12 := sL.trans s2
    refine ⟨kt, _, rfl, SqT.of hkt, ?_⟩
    refine for_enumT (xs := ks) (fun i σ A => ∃ (M : Addr) (ls : List V) (a3 a4 : Option V), σ = [some v, some (.ref pa), some (.ref M), a3, a4] ∧ Same H2 A ∧ H M = none ∧ A M = some (.lst ls) ∧ SubsAt A (t :: ((t.kids.take i).map Tx.subs).flatten) ls)
      ⟨L, _, _, _, rfl, Same.refl _, hL0, s2 _ _ h2, by rw [List.take_zero]; exact h1.same s2⟩ (fun i σ A _ p => by obtain ⟨M, ls, a3, a4, -, s, -⟩ := p; exact SqT.of (s _ _ hkt)) (fun i x T2 σ A hx p hT2 => ?_) (fun σ A p => ?_)
    · obtain ⟨M, ls, a3, a4, rfl, sA, hM, gM, hS⟩ := p
      obtain ⟨k1, hk1, hat⟩ := hks.get hx
      have sB : Same A (upd A T2 (.tup [.int (i : Nat), x])) := Same.upd_new hT2
      refine ⟨T2, _, rfl, SqT.of upd_same, rfl, _, _, rfl, _, _, rfl, rfl, ?_⟩
      generalize upd A T2 (.tup [.int (i : Nat), x]) = B1 at sB ⊢
      walk_at "r"
      refine ⟨by show 1 ≤ sizeLine; decide, fun T3 hT3 => ?_⟩
      have sC : Same B1 (upd B1 T3 (.tup [V.int (i : Nat)])) := Same.upd_new hT3
      have sAC := (s12.trans sA).trans (sB.trans sC)
      refine r_catOne (hpa.same sAC) upd_same (by omega) fun p2 C1 sD hp2 => ?_
      have sAD := sB.trans (sC.trans sD)
      walk_at "r"
      refine ⟨x, k1, p2, _, rfl, hat.same (sA.trans sAD), hp2, by rw [List.length_append, List.length_singleton]; omega, by have := kids_nodes hk1; omega, fun C2 l2 ls2 sE hl2 gl2 hS2 => ?_⟩
      have sAE := sAD.trans sE
      refine ⟨M, l2, ls, ls2, rfl, rfl, sAE _ _ gM, gl2, ?_, fun M2 hM2 => ?_⟩
      · have h3 := hS.len
        have h4 := hS2.len
        rw [k1.subs_len] at h4
        have h5 := t.subs_take i
        have h6 := kids_nodes hk1
        rw [sizeLine_eq]
        omega
      · have sF : Same C2 (upd C2 M2 (.lst (ls ++ ls2))) := Same.upd_new hM2
        refine ⟨M2, _, _, _, rfl, sA.trans (sAE.trans sF), (s12.trans (sA.trans sAE)).free hM2, upd_same, ?_⟩
        rw [flat_take hk1]
        exact SubsAt.append (W := t :: ((t.kids.take i).map Tx.subs).flatten) ((hS.same sAE).same sF) (hS2.same sF)
    · obtain ⟨M, ls, a3, a4, rfl, sA, hM, gM, hS⟩ := p
      rw [← hks.len, List.take_length, ← t.subs_kids] at hS
      walk_at "r"
      exact k _ M ls (s12.trans sA) hM gM hS
theorem ok_size_of {f : Addr} {fd : FuncData} {N : Nat} (F : Fun K "size_of" "size_of" s_size_of f fd) (Z : Zs mg) (d_listed_parts : DefD P w K mg base (N + 1) "listed_parts" 2 [] byPlace (spListedN K N)) : FnG P w K mg base CX0 (N + 2) f fd ["text"] (spSizeOf N) := by
  refine okG F sc_size_of (fun vs H Q E h => ?_) (fun cdv B up z H vs Q E hG hr h => ?_)
  · obtain ⟨v, t, rfl, _⟩ := h
    rfl
  obtain ⟨v, t, rfl, ht, hn, hN, k⟩ := h
  refine ⟨_, (pss_one (ps_ret (pe_callB (cr_sum rfl) (by rfl) Z.sum_ (by decide +kernel) (pa_cons (pe_lc (own := [("_", 1), ("part", 2)]) (tt := tYes) rfl sc_size_of.nd (pi_list (pd_pos d_listed_parts hG hr (by omega) (by rfl) (pa_cons (pv 0) (pa_cons (pe_tup pa_nil) pa_nil)))) (blkOk_by (N := ["text", "_", "part"]) (sc := defScope s_size_of) (by decide +kernel)) (fun _ _ _ _ _ => (by (refine (show PG _ _ (gTup K 2 (gCons (gName 1) (gCons (gName 2) gNil))) from ?_); refine pg_tup rfl (pgs_cons ?_ (pgs_cons ?_ pgs_nil)); exact (pg_name (i := 1) sc_size_of.nd rfl (by first | exact Or.inl rfl | exact Or.inr rfl)); exact (pg_name (i := 2) sc_size_of.nd rfl (by first | exact Or.inl rfl | exact Or.inr rfl))))) (fun _ _ _ _ _ => pts_nil) (fun _ _ _ _ _ => (pe_callTy c_int (by rfl) Z.int_ (by decide +kernel) (pa_cons (pe_cmpR op_ne (pe_ix (show IxR _ (rIxT K) from ix_tup) (pv 2) pe_int (fun _ _ => rfl)) pe_str (nomark _)) pa_nil)))) pa_nil)))), ?_⟩
  walk_at "r"
  refine r_lc ?_
  refine r_il ?_
  walk_at "r"
  refine ⟨by show 0 ≤ sizeLine; decide, fun T hT => ?_⟩
  have sT : Same H (upd H T (.tup [])) := Same.upd_new hT
  walk_at "r"
  refine ⟨v, t, T, [], rfl, ht.same sT, SqT.of upd_same, by rw [List.length_nil]; omega, hn, fun H1 l ls s1 hl gl hS => ?_⟩
  refine ⟨l, rfl, ⟨_, SqL.of gl⟩, fun D hD => ?_⟩
  refine it_list (xs := ls) (fun i A => Same H1 A ∧ A D = some (.lst ((((t.subs.take i).map Tx.p0).map fun n : Nat => V.int (n : Int))))) ⟨Same.upd_new hD, upd_same⟩ (fun i A _ p => SqL.of (p.1 _ _ gl)) (fun i x A hx p => ?_) (fun A p => ?_)
  · obtain ⟨sA, dA⟩ := p
    obtain ⟨t1, q, w1, v1, ht1, rfl, gq, at1⟩ := hS.get hx
    have il : i < t.subs.length := (List.getElem?_eq_some_iff.mp ht1).1
    rw [t.subs_len] at il
    obtain ⟨a, hd, ks, rfl, ha, -, -, -, -⟩ := (at1.same sA).view
    refine ⟨q, _, rfl, SqT.of (sA _ _ gq), rfl, _, _, rfl, _, _, rfl, rfl, ?_⟩
    refine ⟨rfl, ?_⟩
    walk_at "r"
    refine r_ixT (SqT.of ha) (atI_nat (j := 0) rfl) ?_
    walk_at "r"
    refine r_intB ?_
    rw [t1.p0_kind]
    refine ⟨_, dA, by rw [List.length_map, List.length_map, List.length_take, sizeLine_eq]; omega, Same.over sA hD, ?_⟩
    rw [upd_same, take_next ht1, List.map_append, List.map_append]
    rfl
  · obtain ⟨sA, dA⟩ := p
    rw [← hS.len, List.take_length] at dA
    refine ⟨D, (t.subs.map Tx.p0).map fun n : Nat => (n : Int), rfl, SqL.of (by rw [dA, ints_cast]), ?_⟩
    have es : ∀ l : List Nat, (l.map fun n : Nat => (n : Int)).sum = ((l.sum : Nat) : Int) := by
      intro l
      induction l with
      | nil => rfl
      | cons x l ih => rw [List.map_cons, List.sum_cons, List.sum_cons, ih]; omega
    rw [es, t.subs_parts]
    exact k _ ((sT.trans s1).trans sA)
theorem Tx.depth_max (t : Tx) (m : Int) (h1 : m ∈ (0 :: t.kids.map Tx.depth).map fun n : Nat => (n : Int)) (h2 : ∀ y, y ∈ ((0 :: t.kids.map Tx.depth).map fun n : Nat => (n : Int)) → y ≤ m) : m + ((t.w0 : Nat) : Int) = ((t.depth : Nat) : Int) := by
  cases t <;> simp only [Tx.kids, Tx.depth, Tx.w0, List.map_cons, List.map_nil, List.mem_cons, List.not_mem_nil, or_false, forall_eq_or_imp, forall_eq] at h1 h2 ⊢ <;> omega
theorem ok_depth_of {f : Addr} {fd : FuncData} (F : Fun K "depth_of" "depth_of" s_depth_of f fd) (Z : Zs mg) (d_children : DefD P w K mg base 1 "children" 1 [] byPlace spChildren)
    (mk : ∀ n, FnG P w K mg base CX0 (n + 1) f fd ["part"] (spDepthN n) → DefD P w K mg base (n + 1) "depth_of" 1 [] byPlace (spDepthN n)) : ∀ n, FnG P w K mg base CX0 (n + 1) f fd ["part"] (spDepthN n)
  | 0 => fnG_none fun vs H Q E h => by obtain ⟨_, _, _, _, h, _⟩ := h; omega
  | n + 1 => by
    have d_depth_of := mk n (ok_depth_of F Z d_children mk n)
    refine okG F sc_depth_of (fun vs H Q E h => ?_) (fun cdv B up z H vs Q E hG hr h => ?_)
    · obtain ⟨v, t, rfl, _⟩ := h
      rfl
    obtain ⟨v, t, rfl, ht, hn, k⟩ := h
    refine ⟨_, (pss_cons (ps_set (i := 1) sc_depth_of.nd rfl (by first | exact Or.inl rfl | exact Or.inr rfl) (pe_callB (show CallR _ _ (rMax K) from cr_max rfl) (by rfl) Z.max_ (by decide +kernel) (pa_cons (pe_op op_cat (pe_lst (pa_cons pe_int pa_nil)) (pe_lc (own := [("child", 2)]) (tt := tYes) rfl sc_depth_of.nd (pi_tup (pd_pos d_children hG hr (by omega) (by rfl) (pa_cons (pv 0) pa_nil))) (blkOk_by (N := ["part", "inner", "child"]) (sc := defScope s_depth_of) (by decide +kernel)) (fun _ _ _ _ _ => (pg_name (i := 2) sc_depth_of.nd rfl (by first | exact Or.inl rfl | exact Or.inr rfl))) (fun _ _ _ _ _ => pts_nil) (fun _ _ _ _ _ => (pd_pos d_depth_of hG hr (by omega) (by rfl) (pa_cons (pv 2) pa_nil))))) pa_nil)))
  (pss_one (ps_ret (pe_op op_add (pv 1) (pe_callTy c_int (by rfl) Z.int_ (by decide +kernel) (pa_cons (pe_cmpR op_eq (pe_ix (show IxR _ (rIxT K) from ix_tup) (pv 0) pe_int (fun _ _ => rfl)) pe_str (nomark _)) pa_nil)))))), ?_⟩
    walk_at "r"
    refine ⟨by show 1 ≤ sizeLine; decide, fun Z0 hZ0 => ?_⟩
    have sZ : Same H (upd H Z0 (.lst [V.int 0])) := Same.upd_new hZ0
    have gZ : (upd H Z0 (.lst [V.int 0])) Z0 = some (.lst [V.int 0]) := upd_same
    generalize upd H Z0 (.lst [V.int 0]) = H1 at sZ gZ ⊢
    refine r_lc ?_
    refine r_it ?_
    walk_at "r"
    refine ⟨v, t, rfl, ht.same sZ, fun H2 kt ks s2 _ hkt hks => ⟨kt, rfl, ⟨_, SqT.of hkt⟩, fun D hD => ?_⟩⟩
    refine it_tup (xs := ks) (fun i A => Same H2 A ∧ A D = some (.lst ((((t.kids.take i).map Tx.depth).map fun n : Nat => V.int (n : Int))))) ⟨Same.upd_new hD, upd_same⟩ (fun i A _ p => SqT.of (p.1 _ _ hkt)) (fun i x A hx p => ?_) (fun A p => ?_)
    · obtain ⟨sA, dA⟩ := p
      obtain ⟨k1, hk1, hat⟩ := hks.get hx
      have il : i < t.kids.length := (List.getElem?_eq_some_iff.mp hk1).1
      refine r_gname ⟨rfl, ?_⟩
      walk_at "r"
      refine ⟨x, k1, rfl, hat.same sA, by have := kids_nodes hk1; omega, fun A2 s3 => ?_⟩
      have lk : t.kids.length ≤ 2 := by cases t <;> simp [Tx.kids]
      refine ⟨_, s3 _ _ dA, by rw [List.length_map, List.length_map, List.length_take, sizeLine_eq]; omega, Same.over (sA.trans s3) hD, ?_⟩
      rw [upd_same, take_next hk1, List.map_append, List.map_append]
      rfl
    · obtain ⟨sA, dA⟩ := p
      rw [← hks.len, List.take_length] at dA
      have s2A := s2.trans sA
      have lk : t.kids.length ≤ 2 := by cases t <;> simp [Tx.kids]
      refine ⟨Z0, D, _, _, rfl, rfl, s2A _ _ gZ, dA, by rw [List.length_map, List.length_map, List.length_singleton, sizeLine_eq]; omega, fun R hR => ?_⟩
      have sR : Same A (upd A R (.lst ([V.int 0] ++ ((t.kids.map Tx.depth).map fun n : Nat => V.int (n : Int))))) := Same.upd_new hR
      have gR : (upd A R (.lst ([V.int 0] ++ ((t.kids.map Tx.depth).map fun n : Nat => V.int (n : Int))))) R = some (.lst (((0 :: t.kids.map Tx.depth).map fun n : Nat => (n : Int)).map V.int)) := by
        rw [upd_same, ints_cast]
        rfl
      have sH := (sZ.trans s2A).trans sR
      generalize upd A R (.lst ([V.int 0] ++ ((t.kids.map Tx.depth).map fun n : Nat => V.int (n : Int)))) = A3 at sR gR sH ⊢
      walk_at "r"
      refine ⟨R, _, rfl, SqL.of gR, by simp, fun m m1 m2 => ?_⟩
      obtain ⟨a, hd, ks', rfl, ha, -, -, -, -⟩ := (ht.same sH).view
      walk_at "r"
      refine r_ixT (SqT.of ha) (atI_nat (j := 0) rfl) ?_
      walk_at "r"
      refine r_intB ?_
      walk_at "r"
      rw [t.w0_kind, t.depth_max m m1 m2]
      exact k _ sH
end
end Eld
set_option Elab.async false
set_option maxRecDepth 100000
set_option maxHeartbeats 4000000
set_option linter.all false
namespace Eld
open PySem L2
local macro_rules | `(tactic| walk_at "r1") => `(tactic| with_reducible first
  | refine r_seq ?_ | refine r_asgN ?_ | refine r_asg ?_ | refine r_gname ?_ | refine r_gsub ?_ | refine r_var rfl ?_ | refine r_c ?_ | refine r_op ?_ | refine r_un ?_ | refine r_u ?_ | refine r_i0 ?_ | refine r_cb ?_ | refine r_cons ?_ | refine r_nil ?_ | refine r_cl ?_ | refine r_fn rfl rfl ?_ | refine r_mt ?_
  | refine r_test ?_ | refine r_tb ?_ | refine r_bl ?_ | refine r_and ?_ | refine r_or ?_ | refine r_not ?_ | refine r_andV ?_ | refine r_orV ?_ | refine r_notV ?_ | refine r_ifX ?_ | refine r_ifs ?_ | refine r_chain ?_ | refine r_ret ?_ | refine r_next ?_ | refine r_drop ?_ | refine iteT ?_ | refine iteF ?_ | refine iteNT ?_ | refine iteNF ?_
  | refine r_int1 ?_ | refine r_boolB ?_ | refine r_eqI ?_ | refine r_neI ?_ | refine r_eqB ?_ | refine r_neB ?_ | refine r_eqS ?_ | refine r_neS ?_ | refine r_abs ?_ | refine r_max2 ?_ | refine r_min2 ?_ | refine r_yes ?_ | refine r_tup ?_ | refine r_sfld ?_ | refine r_m0 ?_ | refine r_m1 ?_ | refine r_lst ?_ | refine r_rng1 ?_ | refine r_rng2 ?_ | refine r_ixL (SqL.of (by assumption)) rfl ?_)
local macro_rules | `(tactic| walk_at "r") => `(tactic| repeat (first | walk_at "r1" | ((with_reducible refine r_var ?hv ?_); (case hv => rfl))))

/-! ## filled, replaced -/
def Tx.filled : Tx → Tx → Tx
  | .hole, s => s
  | .thn a b, s => .thn (a.filled s) (b.filled s)
  | .iff g a b, s => .iff g (a.filled s) (b.filled s)
  | .eith a b, s => .eith (a.filled s) (b.filled s)
  | .whil g a, s => .whil g (a.filled s)
  | t, _ => t
def Tx.follow : Tx → List Nat → Option Tx
  | t, [] => some t
  | t, i :: r => match t.kids[i]? with
    | some k => k.follow r
    | none => none
def Tx.put : Tx → List Nat → Tx → Tx
  | _, [], s => s
  | t, i :: r, s => match t.kids[i]? with
    | some k => t.withKids (t.kids.set i (k.put r s))
    | none => t
theorem Tx.hole_or (t : Tx) : t = .hole ∨ (decide (V.str t.kind = V.str ("hole" : Str)) = false ∧ ∀ s, t.withKids (t.kids.map fun k => k.filled s) = t.filled s) := by
  have kn : ∀ {x y : Str}, ¬ x = y → decide (V.str x = V.str y) = false := fun h => decide_eq_false fun e => h (V.str.inj e)
  cases t with
  | hole => exact .inl rfl
  | skip => exact .inr ⟨kn (show ¬ ("skip" : Str) = "hole" by decide +kernel), fun _ => rfl⟩
  | set n r => exact .inr ⟨kn (show ¬ ("set" : Str) = "hole" by decide +kernel), fun _ => rfl⟩
  | draw n p q x y => exact .inr ⟨kn (show ¬ ("draw" : Str) = "hole" by decide +kernel), fun _ => rfl⟩
  | thn a b => exact .inr ⟨kn (show ¬ ("then" : Str) = "hole" by decide +kernel), fun _ => rfl⟩
  | iff g a b => exact .inr ⟨kn (show ¬ ("if" : Str) = "hole" by decide +kernel), fun _ => rfl⟩
  | eith a b => exact .inr ⟨kn (show ¬ ("either" : Str) = "hole" by decide +kernel), fun _ => rfl⟩
  | whil g a => exact .inr ⟨kn (show ¬ ("while" : Str) = "hole" by decide +kernel), fun _ => rfl⟩
theorem Tx.follow_append (a b : List Nat) : ∀ t : Tx, t.follow (a ++ b) = (t.follow a).bind fun u => u.follow b := by
  induction a with
  | nil => intro t; simp [Tx.follow]
  | cons i a ih =>
    intro t
    simp only [List.cons_append, Tx.follow]
    cases t.kids[i]? with
    | none => rfl
    | some k => exact ih k
theorem Tx.follow_at {t s : Tx} {ws : List Nat} (h : t.follow ws = some s) {i j : Nat} (hi : ws[i]? = some j) {u : Tx} (hu : t.follow (ws.take i) = some u) : ∃ k, u.kids[j]? = some k ∧ t.follow (ws.take (i + 1)) = some k := by
  have il := (List.getElem?_eq_some_iff.mp hi).1
  have e1 : ws = ws.take i ++ ws.drop i := (List.take_append_drop i ws).symm
  have e2 : ws.drop i = j :: ws.drop (i + 1) := by
    rw [List.drop_eq_getElem_cons il]
    rw [List.getElem?_eq_getElem il] at hi
    cases hi
    rfl
  rw [e1, e2, Tx.follow_append, hu] at h
  simp only [Option.bind_some, Tx.follow] at h
  cases c : u.kids[j]? with
  | none => rw [c] at h; cases h
  | some k =>
    refine ⟨k, rfl, ?_⟩
    rw [take_next hi, Tx.follow_append, hu]
    simp only [Option.bind_some, Tx.follow, c]
/-! texts all in tuples -/
theorem Row.tupled2 (r : Row) : r.tupled.tupled = r.tupled := rfl
theorem Tx.tupled2 : ∀ t : Tx, t.tupled.tupled = t.tupled
  | .skip => rfl
  | .hole => rfl
  | .set _ _ => rfl
  | .draw _ _ _ _ _ => rfl
  | .thn a b => by simp only [Tx.tupled, a.tupled2, b.tupled2]
  | .iff s a b => by simp only [Tx.tupled, a.tupled2, b.tupled2, s.tupled2]
  | .eith a b => by simp only [Tx.tupled, a.tupled2, b.tupled2]
  | .whil s a => by simp only [Tx.tupled, a.tupled2, s.tupled2]
theorem Tx.kids_flat {t : Tx} (h : t.tupled = t) : ∀ k ∈ t.kids, k.tupled = k := by
  cases t <;> simp only [Tx.tupled, Tx.kids, Tx.thn.injEq, Tx.iff.injEq, Tx.eith.injEq, Tx.whil.injEq, List.mem_cons, List.not_mem_nil, or_false, forall_eq_or_imp, forall_eq, false_imp_iff, implies_true] at h ⊢ <;> simp_all
theorem Tx.filled_flat {s : Tx} (hs : s.tupled = s) : ∀ {t : Tx}, t.tupled = t → (t.filled s).tupled = t.filled s
  | .skip, _ => rfl
  | .hole, _ => hs
  | .set _ _, h => h
  | .draw _ _ _ _ _, _ => rfl
  | .thn a b, h => by
    simp only [Tx.tupled, Tx.thn.injEq] at h
    simp only [Tx.filled, Tx.tupled, Tx.filled_flat hs h.1, Tx.filled_flat hs h.2]
  | .iff g a b, h => by
    simp only [Tx.tupled, Tx.iff.injEq] at h
    simp only [Tx.filled, Tx.tupled, h.1, Tx.filled_flat hs h.2.1, Tx.filled_flat hs h.2.2]
  | .eith a b, h => by
    simp only [Tx.tupled, Tx.eith.injEq] at h
    simp only [Tx.filled, Tx.tupled, Tx.filled_flat hs h.1, Tx.filled_flat hs h.2]
  | .whil g a, h => by
    simp only [Tx.tupled, Tx.whil.injEq] at h
    simp only [Tx.filled, Tx.tupled, h.1, Tx.filled_flat hs h.2]
theorem Tx.At.offL {H : Hp} {t : Tx} {v : V} {L : Addr} {o : HO} {xs : List V} (hf : t.tupled = t) (h : Tx.At H t v) (hL : H L = some (.lst xs)) : Tx.At (upd H L o) t v := by
  have h2 := Dt.off (o := o) hL t.data v (by rw [t.data_tupled, hf]; exact h.dt)
  rw [t.data_tupled, hf] at h2
  exact Tx.of_dt t v h2
theorem KidsAt.offL {H : Hp} {L : Addr} {o : HO} {xs : List V} (hL : H L = some (.lst xs)) : ∀ {ts : List Tx} {vs : List V}, (∀ t ∈ ts, t.tupled = t) → KidsAt H ts vs → KidsAt (upd H L o) ts vs
  | [], [], _, _ => trivial
  | t :: ts, v :: vs, hf, h => ⟨h.1.offL (hf t (List.mem_cons_self ..)) hL, KidsAt.offL hL (fun x hx => hf x (List.mem_cons_of_mem _ hx)) h.2⟩
  | [], _ :: _, _, h => h.elim
  | _ :: _, [], _, h => h.elim
theorem r_pn {σ : L2.St} {H : Hp} {Q : Option Int → Hp → Prop} (h : Q none H) : tNoPart σ H Q := h
theorem r_pt {te : TE} {σ : L2.St} {H : Hp} {Q : Option Int → Hp → Prop} (h : te σ H fun x H1 => ∃ i, x = .int i ∧ Q (some i) H1) : tPart te σ H Q := h
/-- a slice of the front, whatever is left behind -/
theorem r_front {K : PySem.W.Frag} {H : Hp} {Q : VK} {a : Addr} {ys zs : List V} {n : Nat} (h : H a = some (.tup (ys ++ zs))) (hn : n = ys.length) (k : ∀ p H', Same H H' → H' p = some (.tup ys) → Q (.ref p) H') : rSlA K (.ref a) none (some ((n : Nat) : Int)) H Q := by
  subst hn
  have e : cutV (ys ++ zs) none (some ((ys.length : Nat) : Int)) = ys := by
    unfold cutV
    rw [HT.sIx_none, HT.sIx_nat, List.length_append, Nat.min_eq_left (by omega), List.drop_zero, Nat.sub_zero, List.take_left]
  refine ⟨a, _, rfl, SqT.of h, fun w => ?_, fun _ p hp => ?_⟩
  · rw [HT.sIx_nat] at w
    have w2 := w.2
    rw [List.length_append] at w2
    have z : zs = [] := List.eq_nil_of_length_eq_zero (by omega)
    rw [z, List.append_nil] at h
    exact k a H (Same.refl H) h
  · rw [e]
    exact k p _ (Same.upd_new hp) upd_same
/-- a slice of the back -/
theorem r_back {K : PySem.W.Frag} {H : Hp} {Q : VK} {a : Addr} {ys zs : List V} {n : Nat} (h : H a = some (.tup (ys ++ zs))) (hn : n = ys.length) (k : ∀ p H', Same H H' → H' p = some (.tup zs) → Q (.ref p) H') : rSlA K (.ref a) (some ((n : Nat) : Int)) none H Q := by
  subst hn
  have e : cutV (ys ++ zs) (some ((ys.length : Nat) : Int)) none = zs := by
    unfold cutV
    rw [HT.sIx_none, HT.sIx_nat, List.length_append, Nat.min_eq_left (by omega), List.drop_left]
    exact List.take_of_length_le (by omega)
  refine ⟨a, _, rfl, SqT.of h, fun w => ?_, fun _ p hp => ?_⟩
  · rw [HT.sIx_nat] at w
    have w1 := w.1
    rw [List.length_append] at w1
    have z : ys = [] := List.eq_nil_of_length_eq_zero (by omega)
    subst z
    exact k a H (Same.refl H) h
  · rw [e]
    exact k p _ (Same.upd_new hp) upd_same
/-- t + u of any two tuples -/
theorem r_cat {K : PySem.W.Frag} {H : Hp} {Q : VK} {a b : Addr} {xs ys : List V} (ha : H a = some (.tup xs)) (hb : H b = some (.tup ys)) (hl : xs.length + ys.length ≤ 2000) (k : ∀ p H', Same H H' → H' p = some (.tup (xs ++ ys)) → Q (.ref p) H') : rCatA K (.ref a) (.ref b) H Q := by
  refine ⟨a, b, xs, ys, rfl, rfl, SqT.of ha, SqT.of hb, by rw [sizeLine_eq]; omega, fun e => ?_, fun _ e => ?_, fun _ _ p hp => ?_⟩
  · subst e
    exact k b H (Same.refl H) hb
  · subst e
    exact k a H (Same.refl H) (by rw [List.append_nil]; exact ha)
  · exact k p _ (Same.upd_new hp) upd_same
def wsV (ws : List Nat) : List V := (ws.map fun n : Nat => ((n : Nat) : Int)).map V.int
def spFilledN (n : Nat) : Sp := fun vs H Q _ => ∃ v t x s, vs = [v, x] ∧ Tx.At H t v ∧ Tx.At H s x ∧ t.tupled = t ∧ s.tupled = s ∧ t.nodes < n ∧ ∀ H' r, Same H H' → Tx.At H' (t.filled s) r → Q r H'
def spReplacedN (K : PySem.W.Frag) (n : Nat) : Sp := fun vs H Q _ => ∃ v t pa ws x s u, vs = [v, .ref pa, x] ∧ Tx.At H t v ∧ Tx.At H s x ∧ H pa = some (.tup (wsV ws)) ∧ ws.length < n ∧ n ≤ 1000 ∧ t.follow ws = some u ∧ ∀ H' r, Same H H' → Tx.At H' (t.put ws s) r → Q r H'
section
variable {P : Program} {w : World} {K : PySem.W.Frag} {mg : Str → Option Value} {base : Heap} {la pa0 : Addr}
theorem ok_filled {f : Addr} {fd : FuncData} (F : Fun K "filled" "filled" s_filled f fd) (Z : Zs mg) (KS : Ks K w mg la pa0)
    (mk : ∀ n, FnG P w K mg base CX0 (n + 1) f fd ["surrounding", "text"] (spFilledN n) → DefD P w K mg base (n + 1) "filled" 2 [] byPlace (spFilledN n)) : ∀ n, FnG P w K mg base CX0 (n + 1) f fd ["surrounding", "text"] (spFilledN n)
  | 0 => fnG_none fun vs H Q E h => by obtain ⟨_, _, _, _, _, _, _, _, _, h, _⟩ := h; omega
  | n + 1 => by
    have d_filled := mk n (ok_filled F Z KS mk n)
    refine okG F sc_filled (fun vs H Q E h => ?_) (fun cdv B up z H vs Q E hG hr h => ?_)
    · obtain ⟨v, t, x, s, rfl, _⟩ := h
      rfl
    obtain ⟨v, t, x, s, rfl, ht, hx, hft, hfs, hn, k⟩ := h
    refine ⟨_, (pss_cons (ps_if (pt_cmpR op_eq (pe_ix (show IxR _ (rIxT K) from ix_tup) (pv 0) pe_int (fun _ _ => rfl)) pe_str (nomark _)) (pss_one (ps_ret (pv 1))) pss_nil)
  (pss_cons (ps_set (i := 2) sc_filled.nd rfl (by first | exact Or.inl rfl | exact Or.inr rfl) (pe_ix (show IxR _ (rIxD K w) from ix_kdict) (pe_gc (by rfl) KS.PARTS_FROM) (pe_ix (show IxR _ (rIxT K) from ix_tup) (pv 0) pe_int (fun _ _ => rfl)) (fun _ _ => rfl)))
  (pss_one (ps_ret (pe_op (show OpR _ _ (rCatA K) from op_catA) (pe_slice sl_tupA (pv 0) po_none (po_some (pv 2))) (pe_callTy (show CallR _ _ (rTupleOf K) from c_tuple) (by rfl) Z.tuple_ (by decide +kernel) (pa_cons (pe_lc (own := [("child", 3)]) (tt := tYes) rfl sc_filled.nd (pi_tup (pe_slice sl_tupA (pv 0) (po_some (pv 2)) po_none)) (blkOk_by (N := ["surrounding", "text", "at", "child"]) (sc := defScope s_filled) (by decide +kernel)) (fun _ _ _ _ _ => (pg_name (i := 3) sc_filled.nd rfl (by first | exact Or.inl rfl | exact Or.inr rfl))) (fun _ _ _ _ _ => pts_nil) (fun _ _ _ _ _ => (pd_pos d_filled hG hr (by omega) (by rfl) (pa_cons (pv 3) (pa_cons (pv 1) pa_nil))))) pa_nil))))))), ?_⟩
    obtain ⟨a, hd, ks, rfl, ha, hl, hk, hlen, make⟩ := ht.view
    walk_at "r"
    refine r_ixT (SqT.of ha) (atI_nat (j := 0) rfl) ?_
    walk_at "r"
    rcases t.hole_or with rfl | ⟨hh, hf⟩
    · rw [decide_eq_true (show V.str Tx.hole.kind = V.str ("hole" : Str) from rfl)]
      walk_at "r"
      exact k H x (Same.refl H) hx
    · rw [hh]
      walk_at "r"
      refine r_ixT (SqT.of ha) (atI_nat (j := 0) rfl) ?_
      refine ⟨pa0, _, _, rfl, rfl, KS.pdct t, ?_⟩
      walk_at "r"
      refine r_sl ?_
      walk_at "r"
      refine r_pn ?_
      refine r_pt ?_
      walk_at "r"
      refine ⟨_, rfl, ?_⟩
      have ha2 : H a = some (.tup ((V.str t.kind :: hd) ++ ks)) := ha
      have lf : t.frm = (V.str t.kind :: hd).length := by rw [List.length_cons]; omega
      refine r_front ha2 lf fun p1 H1 s1 hp1 => ?_
      walk_at "r"
      refine r_lc ?_
      refine r_it ?_
      refine r_sl ?_
      walk_at "r"
      refine r_pt ?_
      walk_at "r"
      refine ⟨_, rfl, ?_⟩
      refine r_pn ?_
      refine r_back (s1 _ _ ha2) lf fun q H2 s2 hq => ⟨q, rfl, ⟨_, SqT.of hq⟩, fun D hD => ?_⟩
      have s12 := s1.trans s2
      have lk : t.kids.length ≤ 2 := by cases t <;> simp [Tx.kids]
      have hff : ∀ i, ∀ u ∈ (t.kids.take i).map fun k => k.filled s, u.tupled = u := fun i u hu => by
        obtain ⟨k1, hk1, rfl⟩ := List.mem_map.mp hu
        exact Tx.filled_flat hfs (Tx.kids_flat hft k1 (List.mem_of_mem_take hk1))
      refine it_tup (xs := ks) (fun i A => Same H2 A ∧ ∃ ys, A D = some (.lst ys) ∧ KidsAt A ((t.kids.take i).map fun k => k.filled s) ys) ⟨Same.upd_new hD, [], upd_same, trivial⟩ (fun i A _ p => SqT.of (p.1 _ _ hq)) (fun i y A hy p => ?_) (fun A p => ?_)
      · obtain ⟨sA, ys, dA, hK⟩ := p
        obtain ⟨k1, hk1, hat⟩ := (hk.same s12).get hy
        have hf1 := Tx.kids_flat hft k1 (List.mem_of_getElem? hk1)
        refine r_gname ⟨rfl, ?_⟩
        walk_at "r"
        refine ⟨y, k1, x, s, rfl, hat.same sA, hx.same (s12.trans sA), hf1, hfs, by have := kids_nodes hk1; omega, fun A2 r s3 hr2 => ?_⟩
        have dA2 := s3 _ _ dA
        have yl : ys.length ≤ 2 := by
          rw [← hK.len, List.length_map, List.length_take]
          omega
        refine ⟨ys, dA2, by rw [sizeLine_eq]; omega, Same.over (sA.trans s3) hD, ys ++ [r], upd_same, ?_⟩
        refine KidsAt.offL dA2 (hff (i + 1)) ?_
        rw [take_next hk1, List.map_append]
        exact KidsAt.push hr2 (hK.same s3)
      · obtain ⟨sA, ys, dA, hK⟩ := p
        rw [← hk.len, List.take_length] at hK
        have sA1 := s2.trans sA
        walk_at "r"
        refine r_tupleL (SqL.of dA) fun l hl2 => ?_
        have sB : Same A (upd A l (.tup ys)) := Same.upd_new hl2
        have gl : (upd A l (.tup ys)) l = some (.tup ys) := upd_same
        generalize upd A l (.tup ys) = B1 at sB gl ⊢
        have yl : ys.length ≤ 2 := by
          rw [← hK.len, List.length_map]
          omega
        refine r_cat (sB _ _ (sA1 _ _ hp1)) gl (by rw [List.length_cons]; have : t.frm ≤ 4 := (by cases t <;> simp [Tx.frm]); omega) fun p2 B2 s4 hp2 => ?_
        have sAll := (s1.trans sA1).trans (sB.trans s4)
        refine k B2 _ sAll ?_
        rw [← hf s]
        exact make B2 p2 _ ys sAll hp2 (by rw [List.length_map]) (hK.same (sB.trans s4))
theorem ok_replaced {f : Addr} {fd : FuncData} (F : Fun K "replaced" "replaced" s_replaced f fd) (Z : Zs mg) (KS : Ks K w mg la pa0)
    (mk : ∀ n, FnG P w K mg base CX0 (n + 1) f fd ["whole", "path", "part"] (spReplacedN K n) → DefD P w K mg base (n + 1) "replaced" 3 [] byPlace (spReplacedN K n)) : ∀ n, FnG P w K mg base CX0 (n + 1) f fd ["whole", "path", "part"] (spReplacedN K n)
  | 0 => fnG_none fun vs H Q E h => by obtain ⟨_, _, _, _, _, _, _, _, _, _, _, h, _⟩ := h; omega
  | n + 1 => by
    have d_replaced := mk n (ok_replaced F Z KS mk n)
    refine okG F sc_replaced (fun vs H Q E h => ?_) (fun cdv B up z H vs Q E hG hr h => ?_)
    · obtain ⟨v, t, pa, ws, x, s, u, rfl, _⟩ := h
      rfl
    obtain ⟨v, t, pa, ws, x, s, u, rfl, ht, hx, hp, hn, hn2, hw, k⟩ := h
    have hu : (B.deeper (PyProof.Rows.envOfC "replaced" (defScope s_replaced) z.heap.objs.size f cdv)).units + 64 < cLine := hr.units
    refine ⟨_, (pss_cons (ps_if (pt_cmpR (show OpR _ _ (rEqD K) from op_eqD hu) (pv 1) (pe_tup pa_nil) (nomark _)) (pss_one (ps_ret (pv 2))) pss_nil)
  (pss_cons (ps_set (i := 3) sc_replaced.nd rfl (by first | exact Or.inl rfl | exact Or.inr rfl) (pe_op op_add (pe_ix (show IxR _ (rIxD K w) from ix_kdict) (pe_gc (by rfl) KS.PARTS_FROM) (pe_ix (show IxR _ (rIxT K) from ix_tup) (pv 0) pe_int (fun _ _ => rfl)) (fun _ _ => rfl)) (pe_ix (show IxR _ (rIxT K) from ix_tup) (pv 1) pe_int (fun _ _ => rfl))))
  (pss_one (ps_ret (pe_op (show OpR _ _ (rCatA K) from op_catA) (pe_op (show OpR _ _ (rCatA K) from op_catA) (pe_slice sl_tupA (pv 0) po_none (po_some (pv 3))) (pe_tup (pa_cons (pd_pos d_replaced hG hr (by omega) (by rfl) (pa_cons (pe_ix (show IxR _ (rIxT K) from ix_tup) (pv 0) (pv 3) (fun _ _ => rfl)) (pa_cons (pe_slice sl_tupA (pv 1) (po_some pe_int) po_none) (pa_cons (pv 2) pa_nil)))) pa_nil))) (pe_slice sl_tupA (pv 0) (po_some (pe_op op_add (pv 3) pe_int)) po_none)))))), ?_⟩
    obtain ⟨a, hd, ks, rfl, ha, hl, hk, hlen, make⟩ := ht.view
    walk_at "r"
    refine ⟨by show 0 ≤ sizeLine; decide, fun T hT => ?_⟩
    have sT : Same H (upd H T (.tup [])) := Same.upd_new hT
    have gT : (upd H T (.tup [])) T = some (.tup (([] : List Int).map V.int)) := upd_same
    generalize upd H T (.tup []) = H1 at sT gT ⊢
    refine ⟨tupD (ws.map fun n : Nat => ((n : Nat) : Int)), tupD [], tup_dp (sT _ _ hp), tup_dp gT, tup_shaped _, tup_shaped _, ?_⟩
    rw [tup_eqv]
    cases ws with
    | nil =>
      rw [decide_eq_true (show (([] : List Nat).map fun n : Nat => ((n : Nat) : Int)) = [] from rfl)]
      walk_at "r"
      exact k _ x sT (hx.same sT)
    | cons i r =>
      rw [decide_eq_false (show ¬ ((i :: r).map fun n : Nat => ((n : Nat) : Int)) = [] from fun e => nomatch e)]
      walk_at "r"
      refine r_ixT (SqT.of (sT _ _ ha)) (atI_nat (j := 0) rfl) ?_
      refine ⟨pa0, _, _, rfl, rfl, KS.pdct t, ?_⟩
      walk_at "r"
      have hp1 := sT _ _ hp
      refine r_ixT (SqT.of hp1) (atI_nat (j := 0) (v := .int (i : Nat)) rfl) ?_
      walk_at "r"
      refine r_sl ?_
      walk_at "r"
      refine r_pn ?_
      refine r_pt ?_
      walk_at "r"
      refine ⟨_, rfl, ?_⟩
      simp only [Tx.follow] at hw
      cases c : t.kids[i]? with
      | none => rw [c] at hw; cases hw
      | some k1 =>
        rw [c] at hw
        have hw : k1.follow r = some u := hw
        have il : i < t.kids.length := (List.getElem?_eq_some_iff.mp c).1
        have ikl : i < ks.length := by rw [← hk.len]; exact il
        have hki : ks[i]? = some ks[i] := List.getElem?_eq_getElem ikl
        obtain ⟨k2, hk2, hat⟩ := hk.get hki
        rw [c] at hk2
        cases hk2
        generalize ks[i] = y at hki hat
        have e1 : V.str t.kind :: (hd ++ ks) = (V.str t.kind :: (hd ++ ks.take i)) ++ (y :: ks.drop (i + 1)) := by
          have e3 : y :: ks.drop (i + 1) = ks.drop i := by
            rw [List.drop_eq_getElem_cons ikl]
            rw [List.getElem?_eq_getElem ikl] at hki
            cases hki
            rfl
          rw [e3, List.cons_append, List.append_assoc, List.take_append_drop]
        have ll : t.frm + i = (V.str t.kind :: (hd ++ ks.take i)).length := by
          rw [List.length_cons, List.length_append, List.length_take, Nat.min_eq_left (by omega)]
          omega
        have ha1 := sT _ _ ha
        rw [e1] at ha1
        rw [show ((t.frm : Nat) : Int) + ((i : Nat) : Int) = ((t.frm + i : Nat) : Int) from rfl]
        refine r_front ha1 ll fun p1 H2 s2 hp2 => ?_
        walk_at "r"
        refine r_ixT (SqT.of (s2 _ _ ha1)) (atI_nat (j := t.frm + i) (v := y) (by rw [ll, List.getElem?_append_right (Nat.le_refl _), Nat.sub_self]; rfl)) ?_
        walk_at "r"
        refine r_sl ?_
        walk_at "r"
        refine r_pt ?_
        walk_at "r"
        refine ⟨1, rfl, ?_⟩
        refine r_pn ?_
        refine r_back (ys := [V.int ((i : Nat) : Int)]) (zs := wsV r) (n := 1) (s2 _ _ hp1) rfl fun q1 H3 s3 hq1 => ?_
        walk_at "r"
        have s13 := (sT.trans s2).trans s3
        refine ⟨y, k1, q1, r, x, s, u, rfl, hat.same s13, hx.same s13, hq1, by rw [List.length_cons] at hn; omega, by omega, hw, fun H4 r1 s4 hr1 => ?_⟩
        walk_at "r"
        refine ⟨by show 1 ≤ sizeLine; decide, fun T2 hT2 => ?_⟩
        have s5 : Same H4 (upd H4 T2 (.tup [r1])) := Same.upd_new hT2
        have g5 : (upd H4 T2 (.tup [r1])) T2 = some (.tup [r1]) := upd_same
        generalize upd H4 T2 (.tup [r1]) = H5 at s5 g5 ⊢
        have lk : t.kids.length ≤ 2 := by cases t <;> simp [Tx.kids]
        have lf : t.frm ≤ 4 := by cases t <;> simp [Tx.frm]
        have s25 := (s3.trans s4).trans s5
        refine r_cat (s25 _ _ hp2) g5 (by rw [← ll, List.length_singleton]; omega) fun p3 H6 s6 hp3 => ?_
        walk_at "r"
        refine r_sl ?_
        walk_at "r"
        refine r_pt ?_
        walk_at "r"
        refine ⟨((t.frm + i + 1 : Nat) : Int), rfl, ?_⟩
        refine r_pn ?_
        have s16 := (s2.trans s25).trans s6
        have ha6 := s16 _ _ ha1
        rw [show (V.str t.kind :: (hd ++ ks.take i)) ++ (y :: ks.drop (i + 1)) = ((V.str t.kind :: (hd ++ ks.take i)) ++ [y]) ++ ks.drop (i + 1) by rw [List.append_assoc]; rfl] at ha6
        refine r_back ha6 (by rw [List.length_append, ← ll, List.length_singleton]) fun q2 H7 s7 hq2 => ?_
        walk_at "r"
        refine r_cat (s7 _ _ hp3) hq2 (by rw [List.length_append, ← ll, List.length_singleton, List.length_drop, ← hk.len]; omega) fun p4 H8 s8 hp4 => ?_
        have sAll := (sT.trans s16).trans (s7.trans s8)
        refine k H8 _ sAll ?_
        simp only [Tx.put, c]
        refine make H8 p4 (t.kids.set i (k1.put r s)) (ks.set i r1) sAll ?_ (by rw [List.length_set]) ((hk.same sAll).set ((hr1.same (s5.trans s6)).same (s7.trans s8)) i)
        rw [hp4, List.set_eq_take_append_cons_drop, if_pos ikl]
        simp
end
end Eld
set_option Elab.async false
set_option maxRecDepth 100000
set_option maxHeartbeats 4000000
set_option linter.all false
namespace Eld
open PySem PySem.Spec PyProof.Rows L2
/-! ## the package's errors with the one attribute count -/
def cv (v : V) : List (Str × V) := [("count", v)]
def spErrC (C : Addr) : Sp := fun vs H Q _ => ∃ a v, vs = [.ref a, v] ∧ H a = some (exo a C none) ∧ ∀ dx, H dx = none → dx ≠ a → Q .non (upd (upd H dx (exd dx (cv v))) a (exo a C (some dx)))
section
variable (P : Program) (w : World) (K : PySem.W.Frag) (mg : Str → Option Value) (base : Heap)
/-- the error class x at C -/
def ErrDC (x : Str) (C : Addr) : Prop := ∃ (f : Addr) (fd : FuncData), mg x = some (.ref C) ∧ OexC K C ∧ PySem.W.findIn K (.ref C) "__init__" = some (some (.ref f)) ∧ PySem.W.typeIn K (.ref f) = some (.type "function") ∧
  PySem.W.findIn K (.ref C) "count" = some none ∧ FnOk P w K mg base CX0 1 f fd ["self", "count"] (spErrC C) ∧ Binds K fd ["self", "count"] []
end
section
variable {X : Cx} {x : Str} {C : Addr} {W : WX} {e : Expr} {es : List Expr} {ta : TA} {p pos pos2 : Pos}
/-- raise x(e) -/
theorem ps_errC (d : ErrDC X.prog X.w X.K X.mg X.base x C) (hc : X.calm = true) (tk : Takes X W) (hr : Room 2 X.A) (hg : Gl X x) (ha : PA X (e :: es) ta)
    (hd : (x == ("__debug__" : Str)) = false := by decide) (he : starEach (e :: es) X.env = (false, eval e X.env) :: starEach es X.env := by rfl) (hp : (backTo pos (starEach es X.env)).any (·.1) = false := by rfl) :
    PS X (.Raise (some (.Call (.Name x p) (e :: es) [] pos)) none pos2) (fun _ σ H => tMkO C (spErrC C) [] ta σ H fun cls d G => W cls d σ G) := by
  obtain ⟨f, fd, gm, T, iC, tI, _, F, b⟩ := d
  exact ps_raise hc tk (pmk_oex (CX := CX0) (ds := []) (dvs := []) T iC tI F hr b .nil pass0 hg gm ha hd he hp)
end
theorem err_doneC {H1 : Hp} {C : Addr} {v : V} {Qx : XK} (h : ∀ d G, H1 d = none → Same H1 G → G d = some (.xd (cv v)) → Qx (.ref C) (some d) G) :
    ([v] : List V).length ≤ 1000 ∧ ∀ a, H1 a = none → spErrC C (.ref a :: ([v] ++ [])) (upd H1 a (exo a C none)) (fun u H2 => u = .non ∧ ∃ (d : Addr) (fs : List (Str × V)), H2 a = some (exo a C (some d)) ∧ H2 d = some (exd d fs) ∧ H1 d = none ∧ Qx (.ref C) (some d) (upd (del H2 a) d (.xd fs))) fun _ _ _ => False := by
  refine ⟨by show 1 ≤ 1000; decide, fun a ha => ⟨a, v, rfl, upd_same, fun dx hdx hne => ⟨rfl, dx, cv v, upd_same, ?_, ?_, ?_⟩⟩⟩
  · rw [upd_ne hne]
    exact upd_same
  · rw [upd_ne hne] at hdx
    exact hdx
  · rw [upd_ne hne] at hdx
    refine h dx _ hdx (fun b o e => ?_) upd_same
    rw [upd_ne (ne_of_none e hdx), del_ne (ne_of_none e ha), upd_ne (ne_of_none e ha), upd_ne (ne_of_none e hdx), upd_ne (ne_of_none e ha)]
    exact e
/-- the error at Ce with the count v is what E takes -/
def errEC (E : XK) (Ce : Addr) (v : V) (H : Hp) : Prop := ∀ d G, H d = none → Same H G → G d = some (.xd (cv v)) → E (.ref Ce) (some d) G
theorem errEC.same {E : XK} {Ce : Addr} {v : V} {H H' : Hp} (h : errEC E Ce v H) (s : Same H H') : errEC E Ce v H' := fun d G nd sG gd => h d G (s.free nd) (s.trans sG) gd
end Eld
set_option Elab.async false
set_option maxRecDepth 100000
set_option maxHeartbeats 4000000
set_option linter.all false
namespace Eld
open PySem L2
local macro_rules | `(tactic| walk_at "r1") => `(tactic| with_reducible first
  | refine r_seq ?_ | refine r_asgN ?_ | refine r_asg ?_ | refine r_gname ?_ | refine r_gsub ?_ | refine r_var rfl ?_ | refine r_c ?_ | refine r_op ?_ | refine r_un ?_ | refine r_u ?_ | refine r_i0 ?_ | refine r_cb ?_ | refine r_cons ?_ | refine r_nil ?_ | refine r_cl ?_ | refine r_fn rfl rfl ?_ | refine r_mt ?_
  | refine r_test ?_ | refine r_tb ?_ | refine r_bl ?_ | refine r_and ?_ | refine r_or ?_ | refine r_not ?_ | refine r_andV ?_ | refine r_orV ?_ | refine r_notV ?_ | refine r_ifX ?_ | refine r_ifs ?_ | refine r_chain ?_ | refine r_ret ?_ | refine r_next ?_ | refine r_drop ?_ | refine iteT ?_ | refine iteF ?_ | refine iteNT ?_ | refine iteNF ?_
  | refine r_int1 ?_ | refine r_boolB ?_ | refine r_eqI ?_ | refine r_neI ?_ | refine r_eqB ?_ | refine r_neB ?_ | refine r_eqS ?_ | refine r_neS ?_ | refine r_abs ?_ | refine r_max2 ?_ | refine r_min2 ?_ | refine r_yes ?_ | refine r_tup ?_ | refine r_sfld ?_ | refine r_m0 ?_ | refine r_m1 ?_ | refine r_lst ?_ | refine r_rng1 ?_ | refine r_rng2 ?_ | refine r_ixL (SqL.of (by assumption)) rfl ?_)
local macro_rules | `(tactic| walk_at "r") => `(tactic| repeat (first | walk_at "r1" | ((with_reducible refine r_var ?hv ?_); (case hv => rfl))))

/-! ## paths; what is put together, or too great -/
theorem r_mkO {C : Addr} {sp : Sp} {dvs : List V} {ta : TA} {σ : L2.St} {H : Hp} {Q : XK} (h : ta σ H fun vs H1 => vs.length ≤ 1000 ∧ ∀ a, H1 a = none → sp (.ref a :: (vs ++ dvs)) (upd H1 a (exo a C none)) (fun v H2 => v = .non ∧ ∃ (d : Addr) (fs : List (Str × V)), H2 a = some (exo a C (some d)) ∧ H2 d = some (exd d fs) ∧ H1 d = none ∧ Q (.ref C) (some d) (upd (del H2 a) d (.xd fs))) fun _ _ _ => False) : tMkO C sp dvs ta σ H Q := h
local macro_rules | `(tactic| walk_at "r1") => `(tactic| with_reducible first | refine r_clS ?_ | refine r_fnS rfl rfl ?_ | refine r_mtS ?_ | refine r_mkO ?_)
def spIsPath : Sp := fun vs H Q _ => ∃ v t wa ws s, vs = [v, .ref wa] ∧ Tx.At H t v ∧ H wa = some (.tup (wsV ws)) ∧ ws.length ≤ 1000 ∧ t.follow ws = some s ∧ ∀ H', Same H H' → Q (.bl true) H'
def spSize : Sp := fun vs H Q _ => ∃ v t, vs = [v] ∧ Tx.At H t v ∧ t.nodes < 210 ∧ (∃ zs ∈ menu, textOr zs ((allRows zs).length : Nat) t = true) ∧ ∀ H', Same H H' → Q (.int (t.parts : Nat)) H'
def spDepth : Sp := fun vs H Q _ => ∃ v t, vs = [v] ∧ Tx.At H t v ∧ t.nodes < 210 ∧ (∃ zs ∈ menu, textOr zs ((allRows zs).length : Nat) t = true) ∧ ∀ H', Same H H' → Q (.int (t.depth : Nat)) H'
/-- what is answered of a whole: itself, or how great it is -/
def Whole (Ce : Addr) (t : Tx) (H : Hp) (E : XK) (ok : Prop) : Prop := (24 < t.parts ∧ errEC E Ce (.int (t.parts : Nat)) H) ∨ (t.parts ≤ 24 ∧ 4 < t.depth ∧ errEC E Ce (.int (t.depth : Nat)) H) ∨ (t.parts ≤ 24 ∧ t.depth ≤ 4 ∧ ok)
def spWithin (Ce : Addr) : Sp := fun vs H Q E => ∃ v t, vs = [v] ∧ Tx.At H t v ∧ t.nodes < 210 ∧ Whole Ce t H E (∀ H', Same H H' → Q v H')
def spPutAt (C Ce : Addr) (K : PySem.W.Frag) : Sp := fun vs H Q E => ∃ (p : Addr) (zs : List Int), ∃ v t wa ws x s u, vs = [.ref p, v, .ref wa, x] ∧ SpaceAt C K H p zs ∧ Tx.At H t v ∧ t.nodes < 210 ∧ t.data.depth < 60 ∧ holesV zs ((allRows zs).length : Nat) t = some 0 ∧ H wa = some (.tup (wsV ws)) ∧ ws.length < 100 ∧ t.follow ws = some u ∧
  Tx.At H s x ∧ s.nodes < 210 ∧ s.data.depth < 60 ∧ holesV zs ((allRows zs).length : Nat) s = some 0 ∧ (t.tupled.put ws s.tupled).nodes < 210 ∧ Whole Ce (t.tupled.put ws s.tupled) H E (∀ H' r, Same H H' → Tx.At H' (t.tupled.put ws s.tupled) r → Q r H')
def spFill (C Ce : Addr) (K : PySem.W.Frag) : Sp := fun vs H Q E => ∃ (p : Addr) (zs : List Int), ∃ v t x s, vs = [.ref p, v, x] ∧ SpaceAt C K H p zs ∧ Tx.At H t v ∧ t.nodes < 210 ∧ t.data.depth < 60 ∧ fromV (holesV zs ((allRows zs).length : Nat) t) 1 3 = true ∧
  Tx.At H s x ∧ s.nodes < 210 ∧ s.data.depth < 60 ∧ holesV zs ((allRows zs).length : Nat) s = some 0 ∧ (t.tupled.filled s.tupled).nodes < 210 ∧ Whole Ce (t.tupled.filled s.tupled) H E (∀ H' r, Same H H' → Tx.At H' (t.tupled.filled s.tupled) r → Q r H')
theorem Tx.nodes_tupled : ∀ t : Tx, t.tupled.nodes = t.nodes
  | .skip => rfl
  | .hole => rfl
  | .set _ _ => rfl
  | .draw _ _ _ _ _ => rfl
  | .thn a b => by simp only [Tx.tupled, Tx.nodes, a.nodes_tupled, b.nodes_tupled]
  | .iff s a b => by simp only [Tx.tupled, Tx.nodes, a.nodes_tupled, b.nodes_tupled]
  | .eith a b => by simp only [Tx.tupled, Tx.nodes, a.nodes_tupled, b.nodes_tupled]
  | .whil s a => by simp only [Tx.tupled, Tx.nodes, a.nodes_tupled]
theorem Tx.kids_tupled (t : Tx) : t.tupled.kids = t.kids.map Tx.tupled := by cases t <;> rfl
theorem Tx.follow_tupled (ws : List Nat) : ∀ {t u : Tx}, t.follow ws = some u → t.tupled.follow ws = some u.tupled := by
  induction ws with
  | nil => intro t u h; cases h; rfl
  | cons i r ih =>
    intro t u h
    simp only [Tx.follow] at h ⊢
    rw [t.kids_tupled, List.getElem?_map]
    cases c : t.kids[i]? with
    | none => rw [c] at h; cases h
    | some k =>
      rw [c] at h
      exact ih h
/-- a contract that is asked of tuples, at a text -/
theorem tupled_of {H : Hp} {Q : VK} {v : V} {t : Tx} {n : Nat} (h : Tx.At H t v) (hd : t.data.depth < n) (k : ∀ H' v', Same H H' → Tx.At H' t.tupled v' → Q v' H') : spTupledN n [v] H Q fun _ _ _ => False :=
  ⟨v, t.data, rfl, h.dt, hd, fun H' v' s g => k H' v' s (Tx.of_dt _ _ (by rw [← Tx.data_tupled]; exact g))⟩
section
variable {P : Program} {w : World} {K : PySem.W.Frag} {mg : Str → Option Value} {base : Heap} {C Ce : Addr}
theorem ok_is_path {f : Addr} {fd : FuncData} (F : Fun K "is_path" "is_path" s_is_path f fd) (Z : Zs mg) (d_is_index : DefD P w K mg base 2 "is_index" 2 [] byPlace (spIndexV K)) (d_children : DefD P w K mg base 1 "children" 1 [] byPlace spChildren) : FnG P w K mg base CX0 3 f fd ["text", "value"] spIsPath := by
  refine okG F sc_is_path (fun vs H Q E h => ?_) (fun cdv B up z H vs Q E hG hr h => ?_)
  · obtain ⟨v, t, wa, ws, s, rfl, _⟩ := h
    rfl
  obtain ⟨v, t, wa, ws, s, rfl, ht, hw, hl, hf, k⟩ := h
  refine ⟨_, (pss_cons (ps_if (pt_not (pt_val (pe_callB call_isi (by rfl) Z.isinstance_ (by decide +kernel) (pa_cons (pv 1) (pa_cons (pe_ty "tuple" (by rfl) Z.tuple_ (by decide +kernel)) pa_nil))))) (pss_one (ps_ret pe_bl)) pss_nil)
  (pss_cons (ps_set (i := 2) sc_is_path.nd rfl (by first | exact Or.inl rfl | exact Or.inr rfl) (pv 0))
  (pss_cons (ps_for PassesOwn.never rfl (pi_tup (pv 1)) (pg_name (i := 3) sc_is_path.nd rfl (by first | exact Or.inl rfl | exact Or.inr rfl))
  (pss_cons (ps_if (pt_not (pt_val (pd_pos d_is_index hG hr (by decide) (by rfl) (pa_cons (pv 3) (pa_cons (pe_callB (show CallR _ _ (rLen K) from c_len) (by rfl) Z.len_ (by decide +kernel) (pa_cons (pd_pos d_children hG hr (by decide) (by rfl) (pa_cons (pv 2) pa_nil)) pa_nil)) pa_nil))))) (pss_one (ps_ret pe_bl)) pss_nil)
  (pss_one (ps_set (i := 2) sc_is_path.nd rfl (by first | exact Or.inl rfl | exact Or.inr rfl) (pe_ix (show IxR _ (rIxT K) from ix_tup) (pd_pos d_children hG hr (by decide) (by rfl) (pa_cons (pv 2) pa_nil)) (pv 3) (fun _ _ => rfl))))))
  (pss_one (ps_ret pe_bl))))), ?_⟩
  walk_at "r"
  refine r_isiB (b := true) (.base (.tup hw)) (by decide +kernel) ?_
  walk_at "r"
  with_reducible refine r_for ?_
  refine r_it ?_
  walk_at "r"
  refine ⟨wa, rfl, ⟨_, SqT.of hw⟩, ?_⟩
  refine for_tup (K := K) (a := wa) (xs := wsV ws) (fun i τ A => Same H A ∧ ∃ u y a3, τ = [some v, some (.ref wa), some y, a3] ∧ t.follow (ws.take i) = some u ∧ Tx.At A u y) ⟨Same.refl H, t, v, _, rfl, by rw [List.take_zero]; rfl, ht⟩ (fun i τ A _ p => SqT.of (p.1 _ _ hw)) ?_ ?_
  · rintro i x τ A hx ⟨sA, u, y, a3, rfl, hu, hy⟩
    unfold wsV at hx
    rw [List.getElem?_map, List.getElem?_map] at hx
    cases c : ws[i]? with
    | none => rw [c] at hx; cases hx
    | some j =>
      rw [c] at hx
      cases hx
      obtain ⟨k1, hk1, hf1⟩ := Tx.follow_at hf c hu
      have jl := (List.getElem?_eq_some_iff.mp hk1).1
      walk_at "r"
      refine ⟨y, u, rfl, hy, fun A1 kt ks s1 _ hkt hks => ?_⟩
      walk_at "r"
      refine r_lenT (SqT.of hkt) ?_
      walk_at "r"
      refine ⟨_, _, _, rfl, .int _, ?_⟩
      rw [show indexV (some ((j : Nat) : Int)) ((ks.length : Nat) : Int) = true from by
        unfold indexV
        have := hks.len
        simp only [Bool.and_eq_true, decide_eq_true_eq]
        omega]
      walk_at "r"
      refine ⟨y, u, rfl, hy.same s1, fun A2 kt2 ks2 s2 _ hkt2 hks2 => ?_⟩
      have jl2 : j < ks2.length := by rw [← hks2.len]; exact jl
      have hj : ks2[j]? = some (ks2[j]'jl2) := List.getElem?_eq_getElem _
      obtain ⟨k2, hk2, hat⟩ := hks2.get hj
      rw [hk1] at hk2
      cases hk2
      walk_at "r"
      refine r_ixT (SqT.of hkt2) (atI_nat (j := j) hj) ?_
      walk_at "r"
      exact ⟨(sA.trans s1).trans s2, k1, _, _, rfl, hf1, hat⟩
  · rintro τ A ⟨sA, u, y, a3, rfl, hu, hy⟩
    walk_at "r"
    exact k A sA
theorem ok_size {f : Addr} {fd : FuncData} (F : Fun K "size" "size" s_size f fd) (d_need_any_text : DefD P w K mg base 8 "need_any_text" 1 [] byPlace spNeedAny) (d_size_of : DefD P w K mg base 212 "size_of" 1 [] byPlace (spSizeOf 210)) : FnG P w K mg base CX0 213 f fd ["text"] spSize := by
  refine okG F sc_size (fun vs H Q E h => ?_) (fun cdv B up z H vs Q E hG hr h => ?_)
  · obtain ⟨v, t, rfl, _⟩ := h
    rfl
  obtain ⟨v, t, rfl, ht, hn, hz, k⟩ := h
  refine ⟨_, (pss_cons (ps_expr (pd_pos d_need_any_text hG hr (by decide) (by rfl) (pa_cons (pv 0) pa_nil)))
  (pss_one (ps_ret (pd_pos d_size_of hG hr (by decide) (by rfl) (pa_cons (pv 0) pa_nil))))), ?_⟩
  walk_at "r"
  refine ⟨v, t, rfl, ht, by omega, hz, fun H1 s1 => ?_⟩
  walk_at "r"
  exact ⟨v, t, rfl, ht.same s1, hn, by decide, fun H2 s2 => k H2 (s1.trans s2)⟩
theorem ok_depth {f : Addr} {fd : FuncData} (F : Fun K "depth" "depth" s_depth f fd) (d_need_any_text : DefD P w K mg base 8 "need_any_text" 1 [] byPlace spNeedAny) (d_depth_of : DefD P w K mg base 211 "depth_of" 1 [] byPlace (spDepthN 210)) : FnG P w K mg base CX0 213 f fd ["text"] spDepth := by
  refine okG F sc_depth (fun vs H Q E h => ?_) (fun cdv B up z H vs Q E hG hr h => ?_)
  · obtain ⟨v, t, rfl, _⟩ := h
    rfl
  obtain ⟨v, t, rfl, ht, hn, hz, k⟩ := h
  refine ⟨_, (pss_cons (ps_expr (pd_pos d_need_any_text hG hr (by decide) (by rfl) (pa_cons (pv 0) pa_nil)))
  (pss_one (ps_ret (pd_pos d_depth_of hG hr (by decide) (by rfl) (pa_cons (pv 0) pa_nil))))), ?_⟩
  walk_at "r"
  refine ⟨v, t, rfl, ht, by omega, hz, fun H1 s1 => ?_⟩
  walk_at "r"
  exact ⟨v, t, rfl, ht.same s1, hn, fun H2 s2 => k H2 (s1.trans s2)⟩
theorem ok_TooMany {f : Addr} {fd : FuncData} (F : Fun K "__init__" "TooMany.__init__" s_TooMany___init__ f fd) (T : OexC K C) (hg : PySem.W.findIn K (.ref C) "count" = some none) : FnOk P w K mg base CX0 1 f fd ["self", "count"] (spErrC C) := by
  refine F.ok sc_TooMany___init__ (fun vs H Q E h => ?_) (fun cdv B up z H vs Q E hr h => ⟨_, (pss_one (ps_ost (pv 0) (pv 1))), ?_⟩)
  · obtain ⟨a, v, rfl, _⟩ := h
    rfl
  · obtain ⟨a, v, rfl, ha, k⟩ := h
    exact ⟨_, rfl, _, rfl, a, C, rfl, T, hg, .inl ⟨ha, fun dx n e => k dx n e⟩⟩
theorem ok_within {f : Addr} {fd : FuncData} (F : Fun K "within_bounds" "within_bounds" s_within_bounds f fd) (Z : Zs mg) (d_size_of : DefD P w K mg base 212 "size_of" 1 [] byPlace (spSizeOf 210)) (d_depth_of : DefD P w K mg base 211 "depth_of" 1 [] byPlace (spDepthN 210)) (d_TooMany : ErrDC P w K mg base "TooMany" Ce) : FnG P w K mg base (L2.CX P w) 213 f fd ["text"] (spWithin Ce) := by
  refine okGX F sc_within_bounds (fun vs H Q E h => ?_) (fun cdv B up z H vs Q E hG hr h => ?_)
  · obtain ⟨v, t, rfl, _⟩ := h
    rfl
  obtain ⟨v, t, rfl, ht, hn, k⟩ := h
  refine ⟨_, (pss_cons (ps_if (pt_cmpR op_gt (pd_pos d_size_of hG hr (by decide) (by rfl) (pa_cons (pv 0) pa_nil)) (pe_gc (by rfl) Z.MOST_SIZE) (nomark _)) (pss_one (ps_errC d_TooMany rfl (takes_of rfl rfl rfl rfl) (hr.mono (by decide)) (by rfl) (pa_cons (pd_pos d_size_of hG hr (by decide) (by rfl) (pa_cons (pv 0) pa_nil)) pa_nil))) pss_nil)
  (pss_cons (ps_if (pt_cmpR op_gt (pd_pos d_depth_of hG hr (by decide) (by rfl) (pa_cons (pv 0) pa_nil)) (pe_gc (by rfl) Z.MOST_DEPTH) (nomark _)) (pss_one (ps_errC d_TooMany rfl (takes_of rfl rfl rfl rfl) (hr.mono (by decide)) (by rfl) (pa_cons (pd_pos d_depth_of hG hr (by decide) (by rfl) (pa_cons (pv 0) pa_nil)) pa_nil))) pss_nil)
  (pss_one (ps_ret (pv 0))))), ?_⟩
  walk_at "r"
  refine ⟨v, t, rfl, ht, hn, by decide, fun H1 s1 => ?_⟩
  walk_at "r"
  rcases k with ⟨h1, k⟩ | ⟨h1, h2, k⟩ | ⟨h1, h2, k⟩
  · rw [decide_eq_true (show (24 : Int) < ((t.parts : Nat) : Int) by omega)]
    walk_at "r"
    refine ⟨v, t, rfl, ht.same s1, hn, by decide, fun H2 s2 => ?_⟩
    walk_at "r"
    exact err_doneC (k.same (s1.trans s2))
  · rw [decide_eq_false (show ¬ (24 : Int) < ((t.parts : Nat) : Int) by omega)]
    walk_at "r"
    refine ⟨v, t, rfl, ht.same s1, hn, fun H2 s2 => ?_⟩
    walk_at "r"
    rw [decide_eq_true (show (4 : Int) < ((t.depth : Nat) : Int) by omega)]
    walk_at "r"
    refine ⟨v, t, rfl, ht.same (s1.trans s2), hn, fun H3 s3 => ?_⟩
    walk_at "r"
    exact err_doneC (k.same ((s1.trans s2).trans s3))
  · rw [decide_eq_false (show ¬ (24 : Int) < ((t.parts : Nat) : Int) by omega)]
    walk_at "r"
    refine ⟨v, t, rfl, ht.same s1, hn, fun H2 s2 => ?_⟩
    walk_at "r"
    rw [decide_eq_false (show ¬ (4 : Int) < ((t.depth : Nat) : Int) by omega)]
    walk_at "r"
    exact k H2 (s1.trans s2)
theorem Whole.same {Ce : Addr} {t : Tx} {H H' : Hp} {E : XK} {ok ok' : Prop} (h : Whole Ce t H E ok) (s : Same H H') (g : ok → ok') : Whole Ce t H' E ok' := by
  rcases h with ⟨h1, k⟩ | ⟨h1, h2, k⟩ | ⟨h1, h2, k⟩
  · exact .inl ⟨h1, k.same s⟩
  · exact .inr (.inl ⟨h1, h2, k.same s⟩)
  · exact .inr (.inr ⟨h1, h2, g k⟩)
theorem ok_put_at {f : Addr} {fd : FuncData} (F : Fun K "put_at" "put_at" s_put_at f fd) (Z : Zs mg) (d_need_space : DefD P w K mg base 1 "need_space" 1 [] byPlace (spNeedSpace C K)) (d_need_text : DefD P w K mg base 8 "need_text" 2 [] byPlace (spNeedText C K)) (d_is_path : DefD P w K mg base 3 "is_path" 2 [] byPlace spIsPath) (d_is_text : DefD P w K mg base 7 "is_text" 2 [] byPlace (spIsText C K)) (d_in_tuples : DefD P w K mg base 61 "in_tuples" 1 [] byPlace (spTupledN 60)) (d_replaced : DefD P w K mg base 101 "replaced" 3 [] byPlace (spReplacedN K 100)) (d_within_bounds : DefX P w K mg base 213 "within_bounds" 1 [] byPlace (spWithin Ce)) : FnG P w K mg base (L2.CX P w) 214 f fd ["space", "text", "path", "part"] (spPutAt C Ce K) := by
  refine okGX F sc_put_at (fun vs H Q E h => ?_) (fun cdv B up z H vs Q E hG hr h => ?_)
  · obtain ⟨p, zs, v, t, wa, ws, x, s, u, rfl, _⟩ := h
    rfl
  obtain ⟨p, zs, v, t, wa, ws, x, s, u, rfl, hp, ht, tn, td, th, hw, wl, wf, hx, xn, xd, xh, rn, k⟩ := h
  refine ⟨_, (pss_cons (ps_expr (pd_pos d_need_space hG hr (by decide) (by rfl) (pa_cons (pv 0) pa_nil)))
  (pss_cons (ps_expr (pd_pos d_need_text hG hr (by decide) (by rfl) (pa_cons (pv 0) (pa_cons (pv 1) pa_nil))))
  (pss_cons (ps_if (pt_not (pt_val (pd_pos d_is_path hG hr (by decide) (by rfl) (pa_cons (pv 1) (pa_cons (pv 2) pa_nil))))) (pss_one ps_never) pss_nil)
  (pss_cons (ps_if (pt_not (pt_val (pd_pos d_is_text hG hr (by decide) (by rfl) (pa_cons (pv 0) (pa_cons (pv 3) pa_nil))))) (pss_one ps_never) pss_nil)
  (pss_one (ps_ret (pdX_pos d_within_bounds (takes_of rfl rfl rfl rfl) hG hr (by decide) (by rfl) (pa_cons (pd_pos d_replaced hG hr (by decide) (by rfl) (pa_cons (pd_pos d_in_tuples hG hr (by decide) (by rfl) (pa_cons (pv 1) pa_nil)) (pa_cons (pv 2) (pa_cons (pd_pos d_in_tuples hG hr (by decide) (by rfl) (pa_cons (pv 3) pa_nil)) pa_nil)))) pa_nil)))))))), ?_⟩
  walk_at "r"
  refine ⟨p, zs, rfl, hp, ?_⟩
  walk_at "r"
  refine ⟨p, zs, v, t, rfl, hp, ht, by omega, th, fun H1 s1 => ?_⟩
  walk_at "r"
  refine ⟨v, t, wa, ws, u, rfl, ht.same s1, s1 _ _ hw, by omega, wf, fun H2 s2 => ?_⟩
  walk_at "r"
  have s12 := s1.trans s2
  refine ⟨p, zs, x, s, rfl, hp.same s12, hx.same s12, by omega, fun H3 s3 => ?_⟩
  rw [decide_eq_true xh]
  walk_at "r"
  have s13 := s12.trans s3
  refine tupled_of (ht.same s13) td fun H4 v' s4 hv' => ?_
  have s14 := s13.trans s4
  walk_at "r"
  refine tupled_of (hx.same s14) xd fun H5 x' s5 hx' => ?_
  have s15 := s14.trans s5
  walk_at "r"
  refine ⟨v', t.tupled, wa, ws, x', s.tupled, u.tupled, rfl, hv'.same s5, hx', s15 _ _ hw, wl, by decide, Tx.follow_tupled ws wf, fun H6 r s6 hr6 => ?_⟩
  walk_at "r"
  exact ⟨r, _, rfl, hr6, rn, k.same (s15.trans s6) fun k H7 s7 => k H7 r ((s15.trans s6).trans s7) (hr6.same s7)⟩
theorem ok_fill {f : Addr} {fd : FuncData} (F : Fun K "fill" "fill" s_fill f fd) (Z : Zs mg) (d_need_space : DefD P w K mg base 1 "need_space" 1 [] byPlace (spNeedSpace C K)) (d_need_text : DefD P w K mg base 8 "need_text" 2 [] byPlace (spNeedText C K)) (d_is_surrounding : DefD P w K mg base 7 "is_surrounding" 2 [] byPlace (spIsSurr C K)) (d_in_tuples : DefD P w K mg base 61 "in_tuples" 1 [] byPlace (spTupledN 60)) (d_filled : DefD P w K mg base 211 "filled" 2 [] byPlace (spFilledN 210)) (d_within_bounds : DefX P w K mg base 213 "within_bounds" 1 [] byPlace (spWithin Ce)) : FnG P w K mg base (L2.CX P w) 214 f fd ["space", "surrounding", "text"] (spFill C Ce K) := by
  refine okGX F sc_fill (fun vs H Q E h => ?_) (fun cdv B up z H vs Q E hG hr h => ?_)
  · obtain ⟨p, zs, v, t, x, s, rfl, _⟩ := h
    rfl
  obtain ⟨p, zs, v, t, x, s, rfl, hp, ht, tn, td, th, hx, xn, xd, xh, rn, k⟩ := h
  refine ⟨_, (pss_cons (ps_expr (pd_pos d_need_space hG hr (by decide) (by rfl) (pa_cons (pv 0) pa_nil)))
  (pss_cons (ps_if (pt_not (pt_val (pd_pos d_is_surrounding hG hr (by decide) (by rfl) (pa_cons (pv 0) (pa_cons (pv 1) pa_nil))))) (pss_one ps_never) pss_nil)
  (pss_cons (ps_expr (pd_pos d_need_text hG hr (by decide) (by rfl) (pa_cons (pv 0) (pa_cons (pv 2) pa_nil))))
  (pss_one (ps_ret (pdX_pos d_within_bounds (takes_of rfl rfl rfl rfl) hG hr (by decide) (by rfl) (pa_cons (pd_pos d_filled hG hr (by decide) (by rfl) (pa_cons (pd_pos d_in_tuples hG hr (by decide) (by rfl) (pa_cons (pv 1) pa_nil)) (pa_cons (pd_pos d_in_tuples hG hr (by decide) (by rfl) (pa_cons (pv 2) pa_nil)) pa_nil))) pa_nil))))))), ?_⟩
  walk_at "r"
  refine ⟨p, zs, rfl, hp, ?_⟩
  walk_at "r"
  refine ⟨p, zs, v, t, rfl, hp, ht, by omega, fun H1 s1 => ?_⟩
  rw [th]
  walk_at "r"
  refine ⟨p, zs, x, s, rfl, hp.same s1, hx.same s1, by omega, xh, fun H3 s3 => ?_⟩
  walk_at "r"
  have s13 := s1.trans s3
  refine tupled_of (ht.same s13) td fun H4 v' s4 hv' => ?_
  have s14 := s13.trans s4
  walk_at "r"
  refine tupled_of (hx.same s14) xd fun H5 x' s5 hx' => ?_
  have s15 := s14.trans s5
  walk_at "r"
  refine ⟨v', t.tupled, x', s.tupled, rfl, hv'.same s5, hx', t.tupled2, s.tupled2, by rw [t.nodes_tupled]; exact tn, fun H6 r s6 hr6 => ?_⟩
  walk_at "r"
  exact ⟨r, _, rfl, hr6, rn, k.same (s15.trans s6) fun k H7 s7 => k H7 r ((s15.trans s6).trans s7) (hr6.same s7)⟩
end
end Eld
set_option Elab.async false
set_option maxRecDepth 100000
set_option maxHeartbeats 4000000
set_option linter.all false
namespace Eld
open PySem L2
local macro_rules | `(tactic| walk_at "r1") => `(tactic| with_reducible first
  | refine r_seq ?_ | refine r_asgN ?_ | refine r_asg ?_ | refine r_gname ?_ | refine r_gsub ?_ | refine r_var rfl ?_ | refine r_c ?_ | refine r_op ?_ | refine r_un ?_ | refine r_u ?_ | refine r_i0 ?_ | refine r_cb ?_ | refine r_cons ?_ | refine r_nil ?_ | refine r_cl ?_ | refine r_fn rfl rfl ?_ | refine r_mt ?_
  | refine r_test ?_ | refine r_tb ?_ | refine r_bl ?_ | refine r_and ?_ | refine r_or ?_ | refine r_not ?_ | refine r_andV ?_ | refine r_orV ?_ | refine r_notV ?_ | refine r_ifX ?_ | refine r_ifs ?_ | refine r_chain ?_ | refine r_ret ?_ | refine r_next ?_ | refine r_drop ?_ | refine iteT ?_ | refine iteF ?_ | refine iteNT ?_ | refine iteNF ?_
  | refine r_int1 ?_ | refine r_boolB ?_ | refine r_eqI ?_ | refine r_neI ?_ | refine r_eqB ?_ | refine r_neB ?_ | refine r_eqS ?_ | refine r_neS ?_ | refine r_abs ?_ | refine r_max2 ?_ | refine r_min2 ?_ | refine r_yes ?_ | refine r_tup ?_ | refine r_sfld ?_ | refine r_m0 ?_ | refine r_m1 ?_ | refine r_lst ?_ | refine r_rng1 ?_ | refine r_rng2 ?_ | refine r_ixL (SqL.of (by assumption)) rfl ?_)
local macro_rules | `(tactic| walk_at "r") => `(tactic| repeat (first | walk_at "r1" | ((with_reducible refine r_var ?hv ?_); (case hv => rfl))))

/-! ## the law's tools: what is drawn -/
theorem menu_stores : ∀ zs ∈ menu, prod zs = (((allRows zs).length : Nat) : Int) ∧ 2 ≤ (allRows zs).length ∧ (allRows zs).length ≤ 8 := by decide
def spProduct : Sp := fun vs H Q _ => ∃ a zs, vs = [.ref a] ∧ zs ∈ menu ∧ H a = some (.lst (zs.map V.int)) ∧ Q (.int ((allRows zs).length : Nat)) H
def spRow : Sp := fun vs H Q _ => ∃ b n l ns, vs = [.ref b, .ref l] ∧ BoxAt H b n ∧ n < 3000000 ∧ H l = some (.lst (ns.map V.int)) ∧ ns.length ≤ 1000 ∧ l ≠ b ∧ ∀ (r : Row) H' c, r.vals = ns → BoxAt H' b (n + 1) → But b H H' → H c = none → H' c = some r.obj → Q (.ref c) H'
def spGuard : Sp := fun vs H Q _ => ∃ b n a zs, vs = [.ref b, .ref a] ∧ zs ∈ menu ∧ BoxAt H b n ∧ n < 2000000 ∧ H a = some (.lst (zs.map V.int)) ∧ ∀ (r : Row) H' c, setB r.vals ((allRows zs).length : Nat) = true → BoxAt H' b (n + 20) → But b H H' → H' c = some r.obj → Q (.ref c) H'
def spWeights : Sp := fun vs H Q _ => ∃ b n, vs = [.ref b] ∧ BoxAt H b n ∧ n < 2000000 ∧ ∀ x y H' c, weighB x y = true → BoxAt H' b (n + 2) → But b H H' → H' c = some (.tup [.int x, .int y]) → Q (.ref c) H'
section
variable {P : Program} {w : World} {K : PySem.W.Frag} {mg : Str → Option Value} {base : Heap}
theorem ok_product {f : Addr} {fd : FuncData} (F : Fun K "_law_product" "_law_product" s__law_product f fd) : FnG P w K mg base CX0 1 f fd ["numbers"] spProduct := by
  refine okG F sc__law_product (fun vs H Q E h => ?_) (fun cdv B up z H vs Q E hG hr h => ?_)
  · obtain ⟨a, zs, rfl, _⟩ := h
    rfl
  · obtain ⟨a, zs, rfl, hz, ha, k⟩ := h
    obtain ⟨l1, l3⟩ := menu_len zs hz
    refine ⟨_, (pss_cons (ps_set (i := 1) sc__law_product.nd rfl (by first | exact Or.inl rfl | exact Or.inr rfl) pe_int)
  (pss_cons (ps_for PassesOwn.never rfl (pi_list (pv 0)) (pg_name (i := 2) sc__law_product.nd rfl (by first | exact Or.inl rfl | exact Or.inr rfl))
  (pss_one (ps_set (i := 1) sc__law_product.nd rfl (by first | exact Or.inl rfl | exact Or.inr rfl) (pe_op op_mul (pv 1) (pv 2)))))
  (pss_one (ps_ret (pv 1))))), ?_⟩
    walk_at "r"
    refine ⟨_, rfl, a, rfl, ⟨_, SqL.of ha⟩, for_list (K := K) (a := a) (xs := zs.map V.int) (fun i τ G => ∃ v2 : Option V, τ = [some (.ref a), some (.int (prod (zs.take i))), v2] ∧ G = H) ⟨_, rfl, rfl⟩ (fun i τ G _ q => ?_) ?_ ?_⟩
    · obtain ⟨_, _, rfl⟩ := q
      exact SqL.of ha
    · rintro i x τ G hx ⟨v2, rfl, rfl⟩
      obtain ⟨y, hy, rfl⟩ := map_get hx
      have il : i < zs.length := (List.getElem?_eq_some_iff.mp hy).1
      walk_at "r"
      refine r_i (.inl (menu_part zs hz i (by omega))) ?_
      walk_at "r"
      rw [← prod_take hy]
      exact ⟨_, rfl, rfl⟩
    · rintro τ G ⟨v2, rfl, rfl⟩
      rw [List.length_map, List.take_length, (menu_stores zs hz).1]
      walk_at "r"
      exact k
theorem ok_widths {f : Addr} {fd : FuncData} (F : Fun K "_law_widths" "_law_widths" s__law_widths f fd) (d__law_take : DefD P w K mg base 1 "_law_take" 2 [] byPlace spTake) : FnG P w K mg base CX0 2 f fd ["box"] spSizes := by
  refine okG F sc__law_widths (fun vs H Q E h => ?_) (fun cdv B up z H vs Q E hG hr h => ?_)
  · obtain ⟨b, n, rfl, _⟩ := h
    rfl
  · obtain ⟨b, n, rfl, hb, hn, k⟩ := h
    refine ⟨_, (pss_cons (ps_set (i := 1) sc__law_widths.nd rfl (by first | exact Or.inl rfl | exact Or.inr rfl) (pe_lst (pa_cons (pe_lst (pa_cons pe_int pa_nil)) (pa_cons (pe_lst (pa_cons pe_int pa_nil)) (pa_cons (pe_lst (pa_cons pe_int pa_nil)) (pa_cons (pe_lst (pa_cons pe_int pa_nil)) (pa_cons (pe_lst (pa_cons pe_int pa_nil)) (pa_cons (pe_lst (pa_cons pe_int pa_nil)) (pa_cons (pe_lst (pa_cons pe_int pa_nil)) (pa_cons (pe_lst (pa_cons pe_int (pa_cons pe_int pa_nil))) (pa_cons (pe_lst (pa_cons pe_int (pa_cons pe_int pa_nil))) (pa_cons (pe_lst (pa_cons pe_int (pa_cons pe_int pa_nil))) (pa_cons (pe_lst (pa_cons pe_int (pa_cons pe_int pa_nil))) (pa_cons (pe_lst (pa_cons pe_int (pa_cons pe_int pa_nil))) (pa_cons (pe_lst (pa_cons pe_int (pa_cons pe_int (pa_cons pe_int pa_nil)))) pa_nil)))))))))))))))
  (pss_one (ps_ret (pe_ix (show IxR _ (rIxL K) from ix_list) (pv 1) (pd_pos d__law_take hG hr (by decide) (by rfl) (pa_cons (pv 0) (pa_cons pe_int pa_nil))) (fun _ _ => rfl))))), ?_⟩
    walk_at "r"
    refine ⟨by show _ ≤ sizeLine; decide, fun l0 h0 => ?_⟩
    have s0 := Same.upd_new (o := .lst [.int 2]) h0
    have g0 : (upd H l0 (.lst [.int 2])) l0 = some (.lst [.int 2]) := upd_same
    generalize upd H l0 (.lst [.int 2]) = H1 at s0 g0 ⊢
    walk_at "r"
    refine ⟨by show _ ≤ sizeLine; decide, fun l1 h1 => ?_⟩
    have s1 := Same.upd_new (o := .lst [.int 3]) h1
    have g1 : (upd H1 l1 (.lst [.int 3])) l1 = some (.lst [.int 3]) := upd_same
    generalize upd H1 l1 (.lst [.int 3]) = H2 at s1 g1 ⊢
    walk_at "r"
    refine ⟨by show _ ≤ sizeLine; decide, fun l2 h2 => ?_⟩
    have s2 := Same.upd_new (o := .lst [.int 4]) h2
    have g2 : (upd H2 l2 (.lst [.int 4])) l2 = some (.lst [.int 4]) := upd_same
    generalize upd H2 l2 (.lst [.int 4]) = H3 at s2 g2 ⊢
    walk_at "r"
    refine ⟨by show _ ≤ sizeLine; decide, fun l3 h3 => ?_⟩
    have s3 := Same.upd_new (o := .lst [.int 5]) h3
    have g3 : (upd H3 l3 (.lst [.int 5])) l3 = some (.lst [.int 5]) := upd_same
    generalize upd H3 l3 (.lst [.int 5]) = H4 at s3 g3 ⊢
    walk_at "r"
    refine ⟨by show _ ≤ sizeLine; decide, fun l4 h4 => ?_⟩
    have s4 := Same.upd_new (o := .lst [.int 6]) h4
    have g4 : (upd H4 l4 (.lst [.int 6])) l4 = some (.lst [.int 6]) := upd_same
    generalize upd H4 l4 (.lst [.int 6]) = H5 at s4 g4 ⊢
    walk_at "r"
    refine ⟨by show _ ≤ sizeLine; decide, fun l5 h5 => ?_⟩
    have s5 := Same.upd_new (o := .lst [.int 7]) h5
    have g5 : (upd H5 l5 (.lst [.int 7])) l5 = some (.lst [.int 7]) := upd_same
    generalize upd H5 l5 (.lst [.int 7]) = H6 at s5 g5 ⊢
    walk_at "r"
    refine ⟨by show _ ≤ sizeLine; decide, fun l6 h6 => ?_⟩
    have s6 := Same.upd_new (o := .lst [.int 8]) h6
    have g6 : (upd H6 l6 (.lst [.int 8])) l6 = some (.lst [.int 8]) := upd_same
    generalize upd H6 l6 (.lst [.int 8]) = H7 at s6 g6 ⊢
    walk_at "r"
    refine ⟨by show _ ≤ sizeLine; decide, fun l7 h7 => ?_⟩
    have s7 := Same.upd_new (o := .lst [.int 2, .int 2]) h7
    have g7 : (upd H7 l7 (.lst [.int 2, .int 2])) l7 = some (.lst [.int 2, .int 2]) := upd_same
    generalize upd H7 l7 (.lst [.int 2, .int 2]) = H8 at s7 g7 ⊢
    walk_at "r"
    refine ⟨by show _ ≤ sizeLine; decide, fun l8 h8 => ?_⟩
    have s8 := Same.upd_new (o := .lst [.int 2, .int 3]) h8
    have g8 : (upd H8 l8 (.lst [.int 2, .int 3])) l8 = some (.lst [.int 2, .int 3]) := upd_same
    generalize upd H8 l8 (.lst [.int 2, .int 3]) = H9 at s8 g8 ⊢
    walk_at "r"
    refine ⟨by show _ ≤ sizeLine; decide, fun l9 h9 => ?_⟩
    have s9 := Same.upd_new (o := .lst [.int 2, .int 4]) h9
    have g9 : (upd H9 l9 (.lst [.int 2, .int 4])) l9 = some (.lst [.int 2, .int 4]) := upd_same
    generalize upd H9 l9 (.lst [.int 2, .int 4]) = H10 at s9 g9 ⊢
    walk_at "r"
    refine ⟨by show _ ≤ sizeLine; decide, fun l10 h10 => ?_⟩
    have s10 := Same.upd_new (o := .lst [.int 3, .int 2]) h10
    have g10 : (upd H10 l10 (.lst [.int 3, .int 2])) l10 = some (.lst [.int 3, .int 2]) := upd_same
    generalize upd H10 l10 (.lst [.int 3, .int 2]) = H11 at s10 g10 ⊢
    walk_at "r"
    refine ⟨by show _ ≤ sizeLine; decide, fun l11 h11 => ?_⟩
    have s11 := Same.upd_new (o := .lst [.int 4, .int 2]) h11
    have g11 : (upd H11 l11 (.lst [.int 4, .int 2])) l11 = some (.lst [.int 4, .int 2]) := upd_same
    generalize upd H11 l11 (.lst [.int 4, .int 2]) = H12 at s11 g11 ⊢
    walk_at "r"
    refine ⟨by show _ ≤ sizeLine; decide, fun l12 h12 => ?_⟩
    have s12 := Same.upd_new (o := .lst [.int 2, .int 2, .int 2]) h12
    have g12 : (upd H12 l12 (.lst [.int 2, .int 2, .int 2])) l12 = some (.lst [.int 2, .int 2, .int 2]) := upd_same
    generalize upd H12 l12 (.lst [.int 2, .int 2, .int 2]) = H13 at s12 g12 ⊢
    walk_at "r"
    refine ⟨by show 13 ≤ sizeLine; decide, fun l hl => ?_⟩
    have sl := Same.upd_new (o := .lst [.ref l0, .ref l1, .ref l2, .ref l3, .ref l4, .ref l5, .ref l6, .ref l7, .ref l8, .ref l9, .ref l10, .ref l11, .ref l12]) hl
    have gl : (upd H13 l (.lst [.ref l0, .ref l1, .ref l2, .ref l3, .ref l4, .ref l5, .ref l6, .ref l7, .ref l8, .ref l9, .ref l10, .ref l11, .ref l12])) l = some (.lst [.ref l0, .ref l1, .ref l2, .ref l3, .ref l4, .ref l5, .ref l6, .ref l7, .ref l8, .ref l9, .ref l10, .ref l11, .ref l12]) := upd_same
    generalize upd H13 l (.lst [.ref l0, .ref l1, .ref l2, .ref l3, .ref l4, .ref l5, .ref l6, .ref l7, .ref l8, .ref l9, .ref l10, .ref l11, .ref l12]) = HL at sl gl ⊢
    have t13 : Same H13 HL := sl
    have t12 : Same H12 HL := s12.trans t13
    have t11 : Same H11 HL := s11.trans t12
    have t10 : Same H10 HL := s10.trans t11
    have t9 : Same H9 HL := s9.trans t10
    have t8 : Same H8 HL := s8.trans t9
    have t7 : Same H7 HL := s7.trans t8
    have t6 : Same H6 HL := s6.trans t7
    have t5 : Same H5 HL := s5.trans t6
    have t4 : Same H4 HL := s4.trans t5
    have t3 : Same H3 HL := s3.trans t4
    have t2 : Same H2 HL := s2.trans t3
    have t1 : Same H1 HL := s1.trans t2
    have t0 : Same H HL := s0.trans t1
    walk_at "r"
    refine ⟨b, 13, n, rfl, hb.same t0, hn, by decide, by decide, fun r HZ r0 r1 bx but => ?_⟩
    have gl2 := but _ _ ((hb.same t0).ne gl (by intro _ _ _ _ e; cases e)) gl
    have fr : ∀ {Hi : Hp} {x : Addr}, Same H Hi → Hi x = none → H x = none := fun s e => s.free e
    have a0 : Same H H := Same.refl H
    have a1 : Same H H1 := a0.trans s0
    have a2 : Same H H2 := a1.trans s1
    have a3 : Same H H3 := a2.trans s2
    have a4 : Same H H4 := a3.trans s3
    have a5 : Same H H5 := a4.trans s4
    have a6 : Same H H6 := a5.trans s5
    have a7 : Same H H7 := a6.trans s6
    have a8 : Same H H8 := a7.trans s7
    have a9 : Same H H9 := a8.trans s8
    have a10 : Same H H10 := a9.trans s9
    have a11 : Same H H11 := a10.trans s10
    have a12 : Same H H12 := a11.trans s11
    obtain rfl | rfl | rfl | rfl | rfl | rfl | rfl | rfl | rfl | rfl | rfl | rfl | rfl : r = 0 ∨ r = 1 ∨ r = 2 ∨ r = 3 ∨ r = 4 ∨ r = 5 ∨ r = 6 ∨ r = 7 ∨ r = 8 ∨ r = 9 ∨ r = 10 ∨ r = 11 ∨ r = 12 := by omega
    · refine r_ixL (SqL.of gl2) rfl ?_
      exact k l0 [2] HZ (by decide) bx (fun x o nb e => but _ _ nb (t0 _ _ e)) (fr a0 h0) (but _ _ ((hb.same t0).ne (t1 _ _ g0) (by intro _ _ _ _ e; cases e)) (t1 _ _ g0))
    · refine r_ixL (SqL.of gl2) rfl ?_
      exact k l1 [3] HZ (by decide) bx (fun x o nb e => but _ _ nb (t0 _ _ e)) (fr a1 h1) (but _ _ ((hb.same t0).ne (t2 _ _ g1) (by intro _ _ _ _ e; cases e)) (t2 _ _ g1))
    · refine r_ixL (SqL.of gl2) rfl ?_
      exact k l2 [4] HZ (by decide) bx (fun x o nb e => but _ _ nb (t0 _ _ e)) (fr a2 h2) (but _ _ ((hb.same t0).ne (t3 _ _ g2) (by intro _ _ _ _ e; cases e)) (t3 _ _ g2))
    · refine r_ixL (SqL.of gl2) rfl ?_
      exact k l3 [5] HZ (by decide) bx (fun x o nb e => but _ _ nb (t0 _ _ e)) (fr a3 h3) (but _ _ ((hb.same t0).ne (t4 _ _ g3) (by intro _ _ _ _ e; cases e)) (t4 _ _ g3))
    · refine r_ixL (SqL.of gl2) rfl ?_
      exact k l4 [6] HZ (by decide) bx (fun x o nb e => but _ _ nb (t0 _ _ e)) (fr a4 h4) (but _ _ ((hb.same t0).ne (t5 _ _ g4) (by intro _ _ _ _ e; cases e)) (t5 _ _ g4))
    · refine r_ixL (SqL.of gl2) rfl ?_
      exact k l5 [7] HZ (by decide) bx (fun x o nb e => but _ _ nb (t0 _ _ e)) (fr a5 h5) (but _ _ ((hb.same t0).ne (t6 _ _ g5) (by intro _ _ _ _ e; cases e)) (t6 _ _ g5))
    · refine r_ixL (SqL.of gl2) rfl ?_
      exact k l6 [8] HZ (by decide) bx (fun x o nb e => but _ _ nb (t0 _ _ e)) (fr a6 h6) (but _ _ ((hb.same t0).ne (t7 _ _ g6) (by intro _ _ _ _ e; cases e)) (t7 _ _ g6))
    · refine r_ixL (SqL.of gl2) rfl ?_
      exact k l7 [2, 2] HZ (by decide) bx (fun x o nb e => but _ _ nb (t0 _ _ e)) (fr a7 h7) (but _ _ ((hb.same t0).ne (t8 _ _ g7) (by intro _ _ _ _ e; cases e)) (t8 _ _ g7))
    · refine r_ixL (SqL.of gl2) rfl ?_
      exact k l8 [2, 3] HZ (by decide) bx (fun x o nb e => but _ _ nb (t0 _ _ e)) (fr a8 h8) (but _ _ ((hb.same t0).ne (t9 _ _ g8) (by intro _ _ _ _ e; cases e)) (t9 _ _ g8))
    · refine r_ixL (SqL.of gl2) rfl ?_
      exact k l9 [2, 4] HZ (by decide) bx (fun x o nb e => but _ _ nb (t0 _ _ e)) (fr a9 h9) (but _ _ ((hb.same t0).ne (t10 _ _ g9) (by intro _ _ _ _ e; cases e)) (t10 _ _ g9))
    · refine r_ixL (SqL.of gl2) rfl ?_
      exact k l10 [3, 2] HZ (by decide) bx (fun x o nb e => but _ _ nb (t0 _ _ e)) (fr a10 h10) (but _ _ ((hb.same t0).ne (t11 _ _ g10) (by intro _ _ _ _ e; cases e)) (t11 _ _ g10))
    · refine r_ixL (SqL.of gl2) rfl ?_
      exact k l11 [4, 2] HZ (by decide) bx (fun x o nb e => but _ _ nb (t0 _ _ e)) (fr a11 h11) (but _ _ ((hb.same t0).ne (t12 _ _ g11) (by intro _ _ _ _ e; cases e)) (t12 _ _ g11))
    · refine r_ixL (SqL.of gl2) rfl ?_
      exact k l12 [2, 2, 2] HZ (by decide) bx (fun x o nb e => but _ _ nb (t0 _ _ e)) (fr a12 h12) (but _ _ ((hb.same t0).ne (t13 _ _ g12) (by intro _ _ _ _ e; cases e)) (t13 _ _ g12))
theorem ok_row {f : Addr} {fd : FuncData} (F : Fun K "_law_row" "_law_row" s__law_row f fd) (Z : Zs mg) (d__law_take : DefD P w K mg base 1 "_law_take" 2 [] byPlace spTake) : FnG P w K mg base CX0 2 f fd ["box", "numbers"] spRow := by
  refine okG F sc__law_row (fun vs H Q E h => ?_) (fun cdv B up z H vs Q E hG hr h => ?_)
  · obtain ⟨b, n, l, ns, rfl, _⟩ := h
    rfl
  obtain ⟨b, n, l, ns, rfl, hb, hn, hl, le, nb, k⟩ := h
  refine ⟨_, (pss_one (ps_ret (pe_ifExp (pt_cmpR op_eq (pd_pos d__law_take hG hr (by decide) (by rfl) (pa_cons (pv 0) (pa_cons pe_int pa_nil))) pe_int (nomark _)) (pe_callTy (show CallR _ _ (rListOf K) from c_list) (by rfl) Z.list_ (by decide +kernel) (pa_cons (pv 1) pa_nil)) (pe_callTy (show CallR _ _ (rTupleOf K) from c_tuple) (by rfl) Z.tuple_ (by decide +kernel) (pa_cons (pv 1) pa_nil))))), ?_⟩
  walk_at "r"
  refine ⟨b, 2, n, rfl, hb, by omega, by decide, by decide, fun r HZ r0 r1 bx but => ?_⟩
  have hl2 := but _ _ nb hl
  walk_at "r"
  obtain rfl | rfl : r = 0 ∨ r = 1 := by omega
  · rw [decide_eq_true (show V.int 0 = V.int 0 from rfl)]
    walk_at "r"
    refine r_listL (SqL.of hl2) fun t ht => ?_
    have s1 := Same.upd_new (o := .lst (ns.map V.int)) ht
    exact k ⟨false, ns, le⟩ _ t rfl (bx.same s1) (but.trans (But.of s1)) (by
      cases c : H t with
      | none => rfl
      | some o =>
        by_cases e : t = b
        · subst e
          obtain ⟨_, _, _, _, e2, _⟩ := bx
          rw [e2] at ht; cases ht
        · rw [but _ _ e c] at ht; cases ht) upd_same
  · rw [decide_eq_false (show ¬ V.int 1 = V.int 0 by decide)]
    walk_at "r"
    refine r_tupleL (SqL.of hl2) fun t ht => ?_
    have s1 := Same.upd_new (o := .tup (ns.map V.int)) ht
    exact k ⟨true, ns, le⟩ _ t rfl (bx.same s1) (but.trans (But.of s1)) (by
      cases c : H t with
      | none => rfl
      | some o =>
        by_cases e : t = b
        · subst e
          obtain ⟨_, _, _, _, e2, _⟩ := bx
          rw [e2] at ht; cases ht
        · rw [but _ _ e c] at ht; cases ht) upd_same
theorem r_lrg {ta : TE} {σ : L2.St} {H : Hp} {Q : VK} (h : ta σ H fun x H1 => ∃ n, x = .int n ∧ RgOk 0 n ∧ ∀ q, H1 q = none → Q (.ref q) (upd H1 q (.lst (rgV 0 n)))) : tLstRg (tRg1 ta) σ H Q := h
theorem rgV_map (n : Nat) : rgV 0 ((n : Nat) : Int) = ((List.range n).map fun i : Nat => ((i : Nat) : Int)).map V.int := by
  unfold rgV
  rw [List.map_map, Int.sub_zero, Int.toNat_natCast]
  refine List.map_congr_left fun i _ => ?_
  show V.int (0 + ((i : Nat) : Int)) = V.int ((i : Nat) : Int)
  rw [Int.zero_add]
theorem But.over {b D : Addr} {H A : Hp} {o : HO} (s : But b H A) (d : H D = none) : But b H (upd A D o) := fun a u n e => by
  rw [upd_ne (ne_of_none e d)]
  exact s a u n e
theorem BoxAt.over {A : Hp} {b D : Addr} {n : Nat} {o : HO} (h : BoxAt A b n) (ne : D ≠ b) : BoxAt (upd A D o) b n := by
  obtain ⟨g, m, c, t, h1, r⟩ := h
  exact ⟨g, m, c, t, by rw [upd_ne (Ne.symm ne)]; exact h1, r⟩
theorem BoxAt.off {H : Hp} {b D : Addr} {n : Nat} (h : BoxAt H b n) (d : H D = none) : D ≠ b := fun e => by
  obtain ⟨g, m, c, t, h1, r⟩ := h
  rw [e, h1] at d
  cases d
theorem weigh_of {x y : Int} (h1 : 1 ≤ x) (h2 : x ≤ 1000000) (h3 : 1 ≤ y) (h4 : y ≤ 1000000) (h5 : Int.gcd x y = 1) : weighB x y = true := by
  unfold weighB
  simp [h1, h2, h3, h4, h5]
theorem setB_nil (n : Int) : setB [] n = true := rfl
theorem asc_sorted : ∀ l : List Int, l.Pairwise (· < ·) → ascB l = true
  | [], _ => rfl
  | [_], _ => rfl
  | x :: y :: r, h => by
    rw [List.pairwise_cons] at h
    unfold ascB
    rw [asc_sorted (y :: r) h.2, Bool.and_true]
    exact decide_eq_true (h.1 y (List.mem_cons_self ..))
theorem setB_of {l : List Int} {n : Int} (h1 : ∀ x ∈ l, 0 ≤ x ∧ x < n) (h2 : l.Pairwise (· < ·)) : setB l n = true := by
  unfold setB
  rw [asc_sorted l h2, Bool.and_true, List.all_eq_true]
  intro x hx
  rw [Bool.and_eq_true, decide_eq_true_eq, decide_eq_true_eq]
  exact h1 x hx
theorem range_sorted (n : Nat) : (((List.range n).map fun i : Nat => ((i : Nat) : Int))).Pairwise (· < ·) := by
  rw [List.pairwise_map]
  refine List.Pairwise.imp (fun h => ?_) List.pairwise_lt_range
  omega
theorem ok_guard {f : Addr} {fd : FuncData} (F : Fun K "_law_guard" "_law_guard" s__law_guard f fd) (Z : Zs mg) (d__law_take : DefD P w K mg base 1 "_law_take" 2 [] byPlace spTake) (d__law_product : DefD P w K mg base 1 "_law_product" 1 [] byPlace spProduct) (d__law_row : DefD P w K mg base 2 "_law_row" 2 [] byPlace spRow) : FnG P w K mg base CX0 3 f fd ["box", "widths"] spGuard := by
  refine okG F sc__law_guard (fun vs H Q E h => ?_) (fun cdv B up z H vs Q E hG hr h => ?_)
  · obtain ⟨b, n, a, zs, rfl, _⟩ := h
    rfl
  obtain ⟨b, n, a, zs, rfl, hz, hb, hn, ha, k⟩ := h
  obtain ⟨_, m2, m8⟩ := menu_stores zs hz
  refine ⟨_, (pss_cons (ps_par rfl sc__law_guard.nd (i := 2) (j := 3) rfl rfl (by decide) rfl rfl (pa_cons (pd_pos d__law_product hG hr (by decide) (by rfl) (pa_cons (pv 1) pa_nil)) (pa_cons (pd_pos d__law_take hG hr (by decide) (by rfl) (pa_cons (pv 0) (pa_cons pe_int pa_nil))) pa_nil)) rfl)
  (pss_cons (ps_if (pt_cmpR op_lt (pv 3) pe_int (nomark _)) (pss_one (ps_ret (pd_pos d__law_row hG hr (by decide) (by rfl) (pa_cons (pv 0) (pa_cons (pe_ix (show IxR _ (rIxL K) from ix_list) (pe_lst (pa_cons (pe_lst pa_nil) (pa_cons (pe_listRg rfl (by rfl) Z.list_ (prg_1 (by rfl) Z.range_ (pv 2))) pa_nil))) (pv 3) (fun _ _ => rfl)) pa_nil))))) pss_nil)
  (pss_one (ps_ret (pd_pos d__law_row hG hr (by decide) (by rfl) (pa_cons (pv 0) (pa_cons (pe_lc (own := [("one", 4)]) (tt := _) rfl sc__law_guard.nd (pi_range1 (by rfl) Z.range_ (pa_cons (pv 2) pa_nil)) (blkOk_by (N := ["box", "widths", "many", "way", "one"]) (sc := defScope s__law_guard) (by decide +kernel)) (fun _ _ _ _ _ => (pg_name (i := 4) sc__law_guard.nd rfl (by first | exact Or.inl rfl | exact Or.inr rfl))) (fun _ _ _ _ _ => (pts_one (pt_cmpR op_eq (pd_pos d__law_take hG hr (by decide) (by rfl) (pa_cons (pv 0) (pa_cons pe_int pa_nil))) pe_int (nomark _)))) (fun _ _ _ _ _ => (pv 4))) pa_nil))))))), ?_⟩
  walk_at "r"
  refine r_par ?_
  walk_at "r"
  refine ⟨a, zs, rfl, hz, ha, ?_⟩
  walk_at "r"
  refine ⟨b, 6, n, rfl, hb, by omega, by decide, by decide, fun r H1 r0 r1 bx but => ?_⟩
  refine ⟨_, _, rfl, ?_⟩
  walk_at "r"
  by_cases c : r < 2
  · rw [decide_eq_true c]
    walk_at "r"
    refine ⟨by show 0 ≤ sizeLine; decide, fun l0 h0 => ?_⟩
    have s0 := Same.upd_new (o := .lst []) h0
    have g0 : (upd H1 l0 (.lst [])) l0 = some (.lst (([] : List Int).map V.int)) := upd_same
    generalize upd H1 l0 (.lst []) = H2 at s0 g0 ⊢
    refine r_lrg ?_
    walk_at "r"
    refine ⟨_, rfl, RgOk.of_le (by decide) (by omega) (by decide) (by omega), fun l1 h1 => ?_⟩
    have s1 := Same.upd_new (o := .lst (rgV 0 ((allRows zs).length : Nat))) h1
    have g1 : (upd H2 l1 (.lst (rgV 0 ((allRows zs).length : Nat)))) l1 = some (.lst (((List.range (allRows zs).length).map fun i : Nat => ((i : Nat) : Int)).map V.int)) := by
      rw [upd_same, rgV_map]
    generalize upd H2 l1 (.lst (rgV 0 ((allRows zs).length : Nat))) = H3 at s1 g1 ⊢
    walk_at "r"
    refine ⟨by show 2 ≤ sizeLine; decide, fun l2 h2 => ?_⟩
    have s2 := Same.upd_new (o := .lst [.ref l0, .ref l1]) h2
    have g2 : (upd H3 l2 (.lst [.ref l0, .ref l1])) l2 = some (.lst [.ref l0, .ref l1]) := upd_same
    generalize upd H3 l2 (.lst [.ref l0, .ref l1]) = H4 at s2 g2 ⊢
    walk_at "r"
    have s02 := (s0.trans s1).trans s2
    have bx4 := bx.same s02
    have done : ∀ (r : Row) (H' : Hp) (c : Addr), setB r.vals ((allRows zs).length : Nat) = true → BoxAt H' b (n + 1 + 1) → But b H4 H' → H4 c = none → H' c = some r.obj → Q (.ref c) H' := fun r H' c h1 h2 h3 h4 h5 => k r H' c h1 (h2.mono (by omega)) ((but.trans (But.of s02)).trans h3) h5
    obtain rfl | rfl : r = 0 ∨ r = 1 := by omega
    · refine r_ixL (SqL.of g2) (atI_nat (j := 0) rfl) ?_
      walk_at "r"
      exact ⟨b, n + 1, l0, [], rfl, bx4, by omega, (s1.trans s2) _ _ g0, by simp, bx4.ne ((s1.trans s2) _ _ g0) (by intro _ _ _ _ e; cases e), fun r H' c hv h2 h3 h4 h5 => done r H' c (by rw [hv]; rfl) h2 h3 h4 h5⟩
    · refine r_ixL (SqL.of g2) (atI_nat (j := 1) rfl) ?_
      walk_at "r"
      have ne1 : l1 ≠ b := fun e => by
        have := bx.same s0
        exact this.off h1 e
      exact ⟨b, n + 1, l1, _, rfl, bx4, by omega, s2 _ _ g1, by rw [List.length_map, List.length_range]; omega, ne1, fun r H' c hv h2 h3 h4 h5 => done r H' c (by
        rw [hv]
        refine setB_of (fun x hx => ?_) (range_sorted _)
        obtain ⟨i, hi, rfl⟩ := List.mem_map.mp hx
        have := List.mem_range.mp hi
        omega) h2 h3 h4 h5⟩
  · rw [decide_eq_false c]
    walk_at "r"
    refine r_lc ?_
    walk_at "r"
    refine ⟨_, rfl, by omega, by omega, fun D hD => ?_⟩
    have nD := bx.off hD
    rw [Int.toNat_natCast]
    refine it_range (fun i A => But b H1 A ∧ BoxAt A b (n + 1 + i) ∧ ∃ l : List Int, A D = some (.lst (l.map V.int)) ∧ l.length ≤ i ∧ (∀ x ∈ l, 0 ≤ x ∧ x < (i : Nat)) ∧ l.Pairwise (· < ·)) ⟨(But.refl H1).over hD, bx.over nD, [], upd_same, Nat.le_refl _, fun x hx => (by cases hx), List.Pairwise.nil⟩ (fun i A hi p => ?_) (fun A p => ?_)
    · obtain ⟨bA, xA, l, dA, le, hl, hs⟩ := p
      refine r_gname ⟨rfl, ?_⟩
      walk_at "r"
      refine ⟨b, 2, n + 1 + i, rfl, xA, by omega, by decide, by decide, fun r2 A2 q0 q1 bx2 but2 => ?_⟩
      walk_at "r"
      have dA2 := but2 _ _ nD dA
      have bH := bA.trans but2
      obtain rfl | rfl : r2 = 0 ∨ r2 = 1 := by omega
      · rw [decide_eq_true (show V.int 0 = V.int 0 from rfl)]
        walk_at "r"
        refine ⟨_, dA2, by rw [List.length_map, sizeLine_eq]; omega, bH.over hD, bx2.over nD, l ++ [((i : Nat) : Int)], ?_, by rw [List.length_append, List.length_singleton]; omega, ?_, ?_⟩
        · rw [upd_same, List.map_append, Int.zero_add]
          rfl
        · intro x hx
          rcases List.mem_append.mp hx with h | h
          · have := hl x h
            omega
          · rw [List.mem_singleton.mp h]
            omega
        · rw [List.pairwise_append]
          refine ⟨hs, List.pairwise_singleton _ _, fun x hx y hy => ?_⟩
          rw [List.mem_singleton.mp hy]
          exact (hl x hx).2
      · rw [decide_eq_false (show ¬ V.int 1 = V.int 0 by decide)]
        walk_at "r"
        exact ⟨bH, bx2, l, dA2, by omega, fun x hx => by have := hl x hx; omega, hs⟩
    · obtain ⟨bA, xA, l, dA, le, hl, hs⟩ := p
      walk_at "r"
      exact ⟨b, _, D, l, rfl, xA, by omega, dA, by omega, nD, fun r H' c hv h2 h3 h4 h5 => k r H' c (by rw [hv]; exact setB_of hl hs) (h2.mono (by omega)) ((but.trans bA).trans h3) h5⟩
theorem ok_weights {f : Addr} {fd : FuncData} (F : Fun K "_law_weights" "_law_weights" s__law_weights f fd) (Z : Zs mg) (d__law_take : DefD P w K mg base 1 "_law_take" 2 [] byPlace spTake) : FnG P w K mg base CX0 2 f fd ["box"] spWeights := by
  refine okG F sc__law_weights (fun vs H Q E h => ?_) (fun cdv B up z H vs Q E hG hr h => ?_)
  · obtain ⟨b, n, rfl, _⟩ := h
    rfl
  obtain ⟨b, n, rfl, hb, hn, k⟩ := h
  refine ⟨_, (pss_cons (ps_par rfl sc__law_weights.nd (i := 1) (j := 2) rfl rfl (by decide) rfl rfl (pa_cons (pd_pos d__law_take hG hr (by decide) (by rfl) (pa_cons (pv 0) (pa_cons pe_int pa_nil))) (pa_cons (pe_op op_add pe_int (pd_pos d__law_take hG hr (by decide) (by rfl) (pa_cons (pv 0) (pa_cons pe_int pa_nil)))) pa_nil)) rfl)
  (pss_one (ps_ret (pe_ix (show IxR _ (rIxL K) from ix_list) (pe_lst (pa_cons (pe_tup (pa_cons pe_int (pa_cons pe_int pa_nil))) (pa_cons (pe_tup (pa_cons pe_int (pa_cons (pv 2) pa_nil))) (pa_cons (pe_tup (pa_cons (pv 2) (pa_cons (pe_op op_add (pv 2) pe_int) pa_nil))) (pa_cons (pe_tup (pa_cons (pe_op op_add (pv 2) pe_int) (pa_cons (pv 2) pa_nil))) (pa_cons (pe_tup (pa_cons (pe_op op_pow pe_int pe_int) (pa_cons pe_int pa_nil))) (pa_cons (pe_tup (pa_cons pe_int (pa_cons (pe_op op_pow pe_int pe_int) pa_nil))) pa_nil))))))) (pv 1) (fun _ _ => rfl))))), ?_⟩
  walk_at "r"
  refine r_par ?_
  walk_at "r"
  refine ⟨b, 6, n, rfl, hb, by omega, by decide, by decide, fun r H1 r0 r1 bx but => ?_⟩
  walk_at "r"
  refine ⟨b, 999999, n + 1, rfl, bx, by omega, by decide, by decide, fun r2 H2 q0 q1 bx2 but2 => ?_⟩
  walk_at "r"
  refine ⟨_, _, rfl, ?_⟩
  walk_at "r"
  refine ⟨by show 2 ≤ sizeLine; decide, fun t0 h0 => ?_⟩
  have s0 := Same.upd_new (o := .tup [.int 1, .int 1]) h0
  have g0 : (upd H2 t0 (.tup [.int 1, .int 1])) t0 = some (.tup [.int 1, .int 1]) := upd_same
  generalize upd H2 t0 (.tup [.int 1, .int 1]) = K0 at s0 g0 ⊢
  walk_at "r"
  refine ⟨by show 2 ≤ sizeLine; decide, fun t1 h1 => ?_⟩
  have s1 := Same.upd_new (o := .tup [.int 1, .int (1 + r2)]) h1
  have g1 : (upd K0 t1 (.tup [.int 1, .int (1 + r2)])) t1 = some (.tup [.int 1, .int (1 + r2)]) := upd_same
  generalize upd K0 t1 (.tup [.int 1, .int (1 + r2)]) = K1 at s1 g1 ⊢
  walk_at "r"
  refine ⟨by show 2 ≤ sizeLine; decide, fun t2 h2 => ?_⟩
  have s2 := Same.upd_new (o := .tup [.int (1 + r2), .int (1 + r2 + 1)]) h2
  have g2 : (upd K1 t2 (.tup [.int (1 + r2), .int (1 + r2 + 1)])) t2 = some (.tup [.int (1 + r2), .int (1 + r2 + 1)]) := upd_same
  generalize upd K1 t2 (.tup [.int (1 + r2), .int (1 + r2 + 1)]) = K2 at s2 g2 ⊢
  walk_at "r"
  refine ⟨by show 2 ≤ sizeLine; decide, fun t3 h3 => ?_⟩
  have s3 := Same.upd_new (o := .tup [.int (1 + r2 + 1), .int (1 + r2)]) h3
  have g3 : (upd K2 t3 (.tup [.int (1 + r2 + 1), .int (1 + r2)])) t3 = some (.tup [.int (1 + r2 + 1), .int (1 + r2)]) := upd_same
  generalize upd K2 t3 (.tup [.int (1 + r2 + 1), .int (1 + r2)]) = K3 at s3 g3 ⊢
  walk_at "r"
  refine r_i ⟨by decide, by decide⟩ ?_
  rw [show (10 : Int) ^ Int.toNat 6 = 1000000 from by decide]
  walk_at "r"
  refine ⟨by show 2 ≤ sizeLine; decide, fun t4 h4 => ?_⟩
  have s4 := Same.upd_new (o := .tup [.int 1000000, .int 999999]) h4
  have g4 : (upd K3 t4 (.tup [.int 1000000, .int 999999])) t4 = some (.tup [.int 1000000, .int 999999]) := upd_same
  generalize upd K3 t4 (.tup [.int 1000000, .int 999999]) = K4 at s4 g4 ⊢
  walk_at "r"
  refine r_i ⟨by decide, by decide⟩ ?_
  rw [show (10 : Int) ^ Int.toNat 6 = 1000000 from by decide]
  walk_at "r"
  refine ⟨by show 2 ≤ sizeLine; decide, fun t5 h5 => ?_⟩
  have s5 := Same.upd_new (o := .tup [.int 1, .int 1000000]) h5
  have g5 : (upd K4 t5 (.tup [.int 1, .int 1000000])) t5 = some (.tup [.int 1, .int 1000000]) := upd_same
  generalize upd K4 t5 (.tup [.int 1, .int 1000000]) = K5 at s5 g5 ⊢
  walk_at "r"
  refine ⟨by show 6 ≤ sizeLine; decide, fun L hL => ?_⟩
  have sL := Same.upd_new (o := .lst [.ref t0, .ref t1, .ref t2, .ref t3, .ref t4, .ref t5]) hL
  have gL : (upd K5 L (.lst [.ref t0, .ref t1, .ref t2, .ref t3, .ref t4, .ref t5])) L = some (.lst [.ref t0, .ref t1, .ref t2, .ref t3, .ref t4, .ref t5]) := upd_same
  generalize upd K5 L (.lst [.ref t0, .ref t1, .ref t2, .ref t3, .ref t4, .ref t5]) = KL at sL gL ⊢
  walk_at "r"
  have u5 := s5.trans sL
  have u4 := s4.trans u5
  have u3 := s3.trans u4
  have u2 := s2.trans u3
  have u1 := s1.trans u2
  have u0 := s0.trans u1
  have fin : ∀ x y c, weighB x y = true → KL c = some (.tup [.int x, .int y]) → Q (.ref c) KL := fun x y c h1 h2 => k x y KL c h1 ((bx2.same u0).mono (by omega)) ((but.trans but2).trans (But.of u0)) h2
  obtain rfl | rfl | rfl | rfl | rfl | rfl : r = 0 ∨ r = 1 ∨ r = 2 ∨ r = 3 ∨ r = 4 ∨ r = 5 := by omega
  · refine r_ixL (SqL.of gL) (atI_nat (j := 0) rfl) ?_
    exact fin _ _ t0 (by decide) (u1 _ _ g0)
  · refine r_ixL (SqL.of gL) (atI_nat (j := 1) rfl) ?_
    exact fin _ _ t1 (weigh_of (by decide) (by decide) (by omega) (by omega) (by simp)) (u2 _ _ g1)
  · refine r_ixL (SqL.of gL) (atI_nat (j := 2) rfl) ?_
    exact fin _ _ t2 (weigh_of (by omega) (by omega) (by omega) (by omega) (by simp)) (u3 _ _ g2)
  · refine r_ixL (SqL.of gL) (atI_nat (j := 3) rfl) ?_
    exact fin _ _ t3 (weigh_of (by omega) (by omega) (by omega) (by omega) (by simp)) (u4 _ _ g3)
  · refine r_ixL (SqL.of gL) (atI_nat (j := 4) rfl) ?_
    exact fin _ _ t4 (by decide +kernel) (u5 _ _ g4)
  · refine r_ixL (SqL.of gL) (atI_nat (j := 5) rfl) ?_
    exact fin _ _ t5 (by decide +kernel) (sL _ _ g5)
end
end Eld
set_option Elab.async false
set_option maxRecDepth 100000
set_option maxHeartbeats 4000000
set_option linter.all false
namespace Eld
open PySem L2
local macro_rules | `(tactic| walk_at "r1") => `(tactic| with_reducible first
  | refine r_seq ?_ | refine r_asgN ?_ | refine r_asg ?_ | refine r_gname ?_ | refine r_gsub ?_ | refine r_var rfl ?_ | refine r_c ?_ | refine r_op ?_ | refine r_un ?_ | refine r_u ?_ | refine r_i0 ?_ | refine r_cb ?_ | refine r_cons ?_ | refine r_nil ?_ | refine r_cl ?_ | refine r_fn rfl rfl ?_ | refine r_mt ?_
  | refine r_test ?_ | refine r_tb ?_ | refine r_bl ?_ | refine r_and ?_ | refine r_or ?_ | refine r_not ?_ | refine r_andV ?_ | refine r_orV ?_ | refine r_notV ?_ | refine r_ifX ?_ | refine r_ifs ?_ | refine r_chain ?_ | refine r_ret ?_ | refine r_next ?_ | refine r_drop ?_ | refine iteT ?_ | refine iteF ?_ | refine iteNT ?_ | refine iteNF ?_
  | refine r_int1 ?_ | refine r_boolB ?_ | refine r_eqI ?_ | refine r_neI ?_ | refine r_eqB ?_ | refine r_neB ?_ | refine r_eqS ?_ | refine r_neS ?_ | refine r_abs ?_ | refine r_max2 ?_ | refine r_min2 ?_ | refine r_yes ?_ | refine r_tup ?_ | refine r_sfld ?_ | refine r_m0 ?_ | refine r_m1 ?_ | refine r_lst ?_ | refine r_rng1 ?_ | refine r_rng2 ?_ | refine r_ixL (SqL.of (by assumption)) rfl ?_)
local macro_rules | `(tactic| walk_at "r") => `(tactic| repeat (first | walk_at "r1" | ((with_reducible refine r_var ?hv ?_); (case hv => rfl))))

/-! ## a leaf, drawn -/
theorem Row.data_depth (r : Row) : r.data.depth = 1 := by
  unfold Row.data intsD
  split <;> simp [PyData.depth, ints_depth]
structure Leaf (zs : List Int) (t : Tx) : Prop where
  good : t.good zs ((allRows zs).length : Nat) = true
  parts : t.parts = 1
  holes : t.holes = 0
  depth : t.depth = 0
  nodes : t.nodes = 1
  dd : t.data.depth ≤ 2
def spLeaf : Sp := fun vs H Q _ => ∃ b n a zs, vs = [.ref b, .ref a] ∧ zs ∈ menu ∧ BoxAt H b n ∧ n < 1900000 ∧ H a = some (.lst (zs.map V.int)) ∧ ∀ t H' v, Leaf zs t → BoxAt H' b (n + 20) → But b H H' → Tx.At H' t v → Q v H'
section
variable {P : Program} {w : World} {K : PySem.W.Frag} {mg : Str → Option Value} {base : Heap}
theorem ok_leaf {f : Addr} {fd : FuncData} (F : Fun K "_law_leaf" "_law_leaf" s__law_leaf f fd) (Z : Zs mg) (d__law_take : DefD P w K mg base 1 "_law_take" 2 [] byPlace spTake) (d__law_product : DefD P w K mg base 1 "_law_product" 1 [] byPlace spProduct) (d__law_row : DefD P w K mg base 2 "_law_row" 2 [] byPlace spRow) (d__law_weights : DefD P w K mg base 2 "_law_weights" 1 [] byPlace spWeights) : FnG P w K mg base CX0 3 f fd ["box", "widths"] spLeaf := by
  refine okG F sc__law_leaf (fun vs H Q E h => ?_) (fun cdv B up z H vs Q E hG hr h => ?_)
  · obtain ⟨b, n, a, zs, rfl, _⟩ := h
    rfl
  obtain ⟨b, n, a, zs, rfl, hz, hb, hn, ha, k⟩ := h
  obtain ⟨_, m2, m8⟩ := menu_stores zs hz
  obtain ⟨l1, l3⟩ := menu_len zs hz
  have nab : a ≠ b := hb.ne ha (fun g m c t => row_notBox ⟨false, zs, by omega⟩ g m c t)
  refine ⟨_, (pss_cons (ps_asg (pe_tup (pa_cons (pd_pos d__law_take hG hr (by decide) (by rfl) (pa_cons (pv 0) (pa_cons pe_int pa_nil))) (pa_cons (pd_pos d__law_take hG hr (by decide) (by rfl) (pa_cons (pv 0) (pa_cons (pe_callB (show CallR _ _ (rLen K) from c_len) (by rfl) Z.len_ (by decide +kernel) (pa_cons (pv 1) pa_nil)) pa_nil))) pa_nil))) (by (refine (show PG _ _ (gTup K 2 (gCons (gName 4) (gCons (gName 5) gNil))) from ?_); refine pg_tup rfl (pgs_cons ?_ (pgs_cons ?_ pgs_nil)); exact (pg_name (i := 4) sc__law_leaf.nd rfl (by first | exact Or.inl rfl | exact Or.inr rfl)); exact (pg_name (i := 5) sc__law_leaf.nd rfl (by first | exact Or.inl rfl | exact Or.inr rfl)))))
  (pss_cons (ps_if (pt_cmpR op_eq (pv 4) pe_int (nomark _)) (pss_one (ps_ret (pe_tup (pa_cons pe_str pa_nil)))) pss_nil)
  (pss_cons (ps_if (pt_cmpR op_lt (pv 4) pe_int (nomark _)) (pss_cons (ps_setLc (i := 6) (own := [("one", 2)]) (tt := tYes) rfl sc__law_leaf.nd rfl rfl (sw_true rfl rfl rfl (by decide +kernel)) (pi_range1 (by rfl) Z.range_ (pa_cons (pd_pos d__law_product hG hr (by decide) (by rfl) (pa_cons (pv 1) pa_nil)) pa_nil)) (blkOk_by (N := ["box", "widths", "one", "other", "way", "name", "numbers"]) (sc := defScope s__law_leaf) (by decide +kernel)) (fun _ _ _ _ _ => (pg_name (i := 2) sc__law_leaf.nd rfl (by first | exact Or.inl rfl | exact Or.inr rfl))) (fun _ _ _ _ _ => pts_nil) (fun _ _ _ _ _ => (pd_pos d__law_take hG hr (by decide) (by rfl) (pa_cons (pv 0) (pa_cons (pe_ix (show IxR _ (rIxL K) from ix_list) (pv 1) (pv 5) (fun _ _ => rfl)) pa_nil)))))
  (pss_one (ps_ret (pe_tup (pa_cons pe_str (pa_cons (pv 5) (pa_cons (pd_pos d__law_row hG hr (by decide) (by rfl) (pa_cons (pv 0) (pa_cons (pv 6) pa_nil))) pa_nil))))))) pss_nil)
  (pss_cons (ps_set (i := 2) sc__law_leaf.nd rfl (by first | exact Or.inl rfl | exact Or.inr rfl) (pd_pos d__law_take hG hr (by decide) (by rfl) (pa_cons (pv 0) (pa_cons (pe_op op_sub (pe_ix (show IxR _ (rIxL K) from ix_list) (pv 1) (pv 5) (fun _ _ => rfl)) pe_int) pa_nil))))
  (pss_cons (ps_set (i := 3) sc__law_leaf.nd rfl (by first | exact Or.inl rfl | exact Or.inr rfl) (pe_op op_add (pe_op op_add (pv 2) pe_int) (pd_pos d__law_take hG hr (by decide) (by rfl) (pa_cons (pv 0) (pa_cons (pe_op op_sub (pe_op op_sub (pe_ix (show IxR _ (rIxL K) from ix_list) (pv 1) (pv 5) (fun _ _ => rfl)) pe_int) (pv 2)) pa_nil)))))
  (pss_one (ps_ret (pe_tup (pa_cons pe_str (pa_cons (pv 5) (pa_cons (pe_tup (pa_cons (pv 2) (pa_cons (pv 3) pa_nil))) (pa_cons (pd_pos d__law_weights hG hr (by decide) (by rfl) (pa_cons (pv 0) pa_nil)) pa_nil)))))))))))), ?_⟩
  walk_at "r"
  refine ⟨b, 5, n, rfl, hb, by omega, by decide, by decide, fun r H1 r0 r1 bx but => ?_⟩
  have ha1 := but _ _ nab ha
  walk_at "r"
  refine r_lenL (SqL.of ha1) ?_
  rw [List.length_map]
  walk_at "r"
  refine ⟨b, ((zs.length : Nat) : Int), n + 1, rfl, bx, by omega, by omega, by omega, fun nm H2 q0 q1 bx2 but2 => ?_⟩
  have ha2 := but2 _ _ nab ha1
  walk_at "r"
  refine ⟨by show 2 ≤ sizeLine; decide, fun T hT => ?_⟩
  have s3 := Same.upd_new (o := .tup [.int r, .int nm]) hT
  have g3 : (upd H2 T (.tup [.int r, .int nm])) T = some (.tup [.int r, .int nm]) := upd_same
  generalize upd H2 T (.tup [.int r, .int nm]) = H3 at s3 g3 ⊢
  refine ⟨T, _, rfl, SqT.of g3, rfl, _, _, rfl, _, _, rfl, rfl, ?_⟩
  have ha3 := s3 _ _ ha2
  have bx3 := bx2.same s3
  have but3 := (but.trans but2).trans (But.of s3)
  walk_at "r"
  obtain ⟨j, rfl⟩ := Int.eq_ofNat_of_zero_le q0
  have jl : j < zs.length := by omega
  have hzj : zs[j]? = some (zs[j]'jl) := List.getElem?_eq_getElem _
  have hgd : zs.getD (((j : Nat) : Int)).toNat 0 = zs[j]'jl := by
    rw [Int.toNat_natCast, List.getD_eq_getElem?_getD, hzj]
    rfl
  have hzv : (zs.map V.int)[j]? = some (.int (zs[j]'jl)) := by rw [List.getElem?_map, hzj]; rfl
  obtain ⟨z2, z8⟩ := menu_mem zs hz _ (List.getElem_mem jl)
  have hnm : nameB zs ((j : Nat) : Int) = true := by
    unfold nameB
    rw [Bool.and_eq_true, decide_eq_true_eq, decide_eq_true_eq]
    omega
  generalize zs[j]'jl = zj at hzj hgd hzv z2 z8
  have fin : ∀ t H' v, Leaf zs t → BoxAt H' b (n + 20) → But b H3 H' → Tx.At H' t v → Q v H' := fun t H' v h1 h2 h3 h4 => k t H' v h1 h2 (but3.trans h3) h4
  by_cases c0 : r = 0
  · subst c0
    rw [decide_eq_true (show V.int 0 = V.int 0 from rfl)]
    walk_at "r"
    refine ⟨by show 1 ≤ sizeLine; decide, fun T2 hT2 => ?_⟩
    exact fin .skip _ _ ⟨rfl, rfl, rfl, rfl, rfl, by decide⟩ ((bx3.same (Same.upd_new hT2)).mono (by omega)) (But.of (Same.upd_new hT2)) ⟨T2, rfl, upd_same⟩
  rw [decide_eq_false (show ¬ V.int r = V.int 0 from fun e => c0 (V.int.inj e))]
  walk_at "r"
  by_cases c3 : r < 3
  · rw [decide_eq_true c3]
    walk_at "r"
    refine r_lc ?_
    walk_at "r"
    refine ⟨a, zs, rfl, hz, ha3, ?_⟩
    refine ⟨_, rfl, by omega, by omega, fun D hD => ?_⟩
    have nD := bx3.off hD
    rw [Int.toNat_natCast]
    refine it_range (fun i A => But b H3 A ∧ BoxAt A b (n + 1 + 1 + i) ∧ ∃ l : List Int, A D = some (.lst (l.map V.int)) ∧ l.length = i ∧ (∀ x ∈ l, 0 ≤ x ∧ x < zj)) ⟨(But.refl H3).over hD, bx3.over nD, [], upd_same, rfl, fun x hx => (by cases hx)⟩ (fun i A hi p => ?_) (fun A p => ?_)
    · obtain ⟨bA, xA, l, dA, le, hl⟩ := p
      refine r_gname ⟨rfl, ?_⟩
      walk_at "r"
      refine r_ixL (SqL.of (bA _ _ nab ha3)) (atI_nat hzv) ?_
      walk_at "r"
      refine ⟨b, zj, _, rfl, xA, by omega, by omega, by omega, fun r2 A2 w0 w1 bx4 but4 => ?_⟩
      have dA2 := but4 _ _ nD dA
      refine ⟨_, dA2, by rw [List.length_map, sizeLine_eq]; omega, (bA.trans but4).over hD, bx4.over nD, l ++ [r2], ?_, by rw [List.length_append, List.length_singleton, le], ?_⟩
      · rw [upd_same, List.map_append]
        rfl
      · intro x hx
        rcases List.mem_append.mp hx with h | h
        · exact hl x h
        · rw [List.mem_singleton.mp h]
          exact ⟨w0, w1⟩
    · obtain ⟨bA, xA, l, dA, le, hl⟩ := p
      walk_at "r"
      refine ⟨b, _, D, l, rfl, xA, by omega, dA, by omega, nD, fun r3 A3 c hv bx5 but5 _ hc => ?_⟩
      walk_at "r"
      refine ⟨by show 3 ≤ sizeLine; decide, fun T2 hT2 => ?_⟩
      have sT := Same.upd_new (o := .tup [.str "set", .int (j : Nat), .ref c]) hT2
      refine fin (.set ((j : Nat) : Int) r3) _ _ ⟨?_, rfl, rfl, rfl, rfl, ?_⟩ ((bx5.same sT).mono (by omega)) ((bA.trans but5).trans (But.of sT)) ⟨T2, .ref c, rfl, upd_same, c, rfl, sT _ _ hc⟩
      · show (nameB zs ((j : Nat) : Int) && (decide ((r3.vals.length : Int) = ((allRows zs).length : Nat)) && r3.vals.all fun x => decide (0 ≤ x) && decide (x < zs.getD (((j : Nat) : Int)).toNat 0))) = true
        rw [hnm, hgd, hv, le, decide_eq_true rfl, Bool.true_and, Bool.true_and, List.all_eq_true]
        intro x hx
        rw [Bool.and_eq_true, decide_eq_true_eq, decide_eq_true_eq]
        exact hl x hx
      · simp [Tx.data, PyData.depth, PyData.depthAll, r3.data_depth]
  · rw [decide_eq_false c3]
    walk_at "r"
    refine r_ixL (SqL.of ha3) (atI_nat hzv) ?_
    walk_at "r"
    refine ⟨b, zj - 1, _, rfl, bx3, by omega, by omega, by omega, fun one H4 w0 w1 bx4 but4 => ?_⟩
    have ha4 := but4 _ _ nab ha3
    walk_at "r"
    refine r_ixL (SqL.of ha4) (atI_nat hzv) ?_
    walk_at "r"
    refine ⟨b, zj - 1 - one, _, rfl, bx4, by omega, by omega, by omega, fun oth H5 y0 y1 bx5 but5 => ?_⟩
    walk_at "r"
    refine ⟨by show 2 ≤ sizeLine; decide, fun T2 hT2 => ?_⟩
    have sT := Same.upd_new (o := .tup [.int one, .int (one + 1 + oth)]) hT2
    have gT : (upd H5 T2 (.tup [.int one, .int (one + 1 + oth)])) T2 = some (.tup [.int one, .int (one + 1 + oth)]) := upd_same
    generalize upd H5 T2 (.tup [.int one, .int (one + 1 + oth)]) = H6 at sT gT ⊢
    walk_at "r"
    refine ⟨b, _, rfl, bx5.same sT, by omega, fun x y H7 c hxy bx7 but7 hc => ?_⟩
    walk_at "r"
    refine ⟨by show 4 ≤ sizeLine; decide, fun T3 hT3 => ?_⟩
    have sT3 := Same.upd_new (o := .tup [.str "draw", .int (j : Nat), .ref T2, .ref c]) hT3
    have nT2 : T2 ≠ b := (bx5.same sT).ne gT (by intro _ _ _ _ e; cases e)
    refine fin (.draw ((j : Nat) : Int) one (one + 1 + oth) x y) _ _ ⟨?_, rfl, rfl, rfl, rfl, ?_⟩ ((bx7.same sT3).mono (by omega)) (((but4.trans but5).trans (But.of sT)).trans (but7.trans (But.of sT3))) ⟨T3, T2, c, rfl, upd_same, sT3 _ _ (but7 _ _ nT2 gT), sT3 _ _ hc⟩
    · show (nameB zs ((j : Nat) : Int) && (setB [one, one + 1 + oth] (zs.getD (((j : Nat) : Int)).toNat 0) && weighB x y)) = true
      rw [hnm, hgd, hxy, Bool.true_and, Bool.and_true]
      refine setB_of (fun u hu => ?_) ?_
      · rcases List.mem_cons.mp hu with h | h
        · omega
        · rw [List.mem_singleton.mp h]
          omega
      · rw [List.pairwise_cons]
        refine ⟨fun u hu => ?_, List.pairwise_singleton _ _⟩
        rw [List.mem_singleton.mp hu]
        omega
    · simp [Tx.data, PyData.depth, PyData.depthAll]
end
end Eld
set_option Elab.async false
set_option maxRecDepth 100000
set_option maxHeartbeats 4000000
set_option linter.all false
namespace Eld
open PySem L2
local macro_rules | `(tactic| walk_at "r1") => `(tactic| with_reducible first
  | refine r_seq ?_ | refine r_asgN ?_ | refine r_asg ?_ | refine r_gname ?_ | refine r_gsub ?_ | refine r_var rfl ?_ | refine r_c ?_ | refine r_op ?_ | refine r_un ?_ | refine r_u ?_ | refine r_i0 ?_ | refine r_cb ?_ | refine r_cons ?_ | refine r_nil ?_ | refine r_cl ?_ | refine r_fn rfl rfl ?_ | refine r_mt ?_
  | refine r_test ?_ | refine r_tb ?_ | refine r_bl ?_ | refine r_and ?_ | refine r_or ?_ | refine r_not ?_ | refine r_andV ?_ | refine r_orV ?_ | refine r_notV ?_ | refine r_ifX ?_ | refine r_ifs ?_ | refine r_chain ?_ | refine r_ret ?_ | refine r_next ?_ | refine r_drop ?_ | refine iteT ?_ | refine iteF ?_ | refine iteNT ?_ | refine iteNF ?_
  | refine r_int1 ?_ | refine r_boolB ?_ | refine r_eqI ?_ | refine r_neI ?_ | refine r_eqB ?_ | refine r_neB ?_ | refine r_eqS ?_ | refine r_neS ?_ | refine r_abs ?_ | refine r_max2 ?_ | refine r_min2 ?_ | refine r_yes ?_ | refine r_tup ?_ | refine r_sfld ?_ | refine r_m0 ?_ | refine r_m1 ?_ | refine r_lst ?_ | refine r_rng1 ?_ | refine r_rng2 ?_ | refine r_ixL (SqL.of (by assumption)) rfl ?_)
local macro_rules | `(tactic| walk_at "r") => `(tactic| repeat (first | walk_at "r1" | ((with_reducible refine r_var ?hv ?_); (case hv => rfl))))

/-! ## the law's own reading of a text -/
def Tx.ixs (t : Tx) : List V := (List.range t.kids.length).map fun i : Nat => V.int ((t.frm + i : Nat) : Int)
def spKids : Sp := fun vs H Q _ => ∃ v t, vs = [v] ∧ Tx.At H t v ∧ ∀ H' q, Same H H' → H' q = some (.tup t.ixs) → Q (.ref q) H'
theorem r_dg2 {td ty tx : TE} {σ : L2.St} {H : Hp} {Q : VK} (h : td σ H fun x H1 => ∃ a, x = .ref a ∧ IsD H1 a ∧ ty σ H1 fun y H2 => tx σ H2 fun z H3 => ∃ o, DGet H3 a y o ∧ Q (o.getD z) H3) : tDGet2 td ty tx σ H Q := h
theorem r_disp {trs : List (TE × TE)} {σ : L2.St} {H : Hp} {Q : VK} (h : ∀ p, H p = none → tPairs trs σ (upd H p (.dK [])) fun ps H2 => H2 p = some (.dK []) ∧ ∃ kvs : List (L2.Key × V), ps = kvs.map (fun kv => (kV kv.1, kv.2)) ∧ kvs.length ≤ 15 ∧ Q (.ref p) (upd H2 p (.dK (mergeK [] kvs)))) : tDisp trs σ H Q := h
theorem r_pcons {tk tv : TE} {r : List (TE × TE)} {σ : L2.St} {H : Hp} {Q : List (V × V) → Hp → Prop} (h : tk σ H fun x H1 => tv σ H1 fun y H2 => tPairs r σ H2 fun ps H3 => Q ((x, y) :: ps) H3) : tPairs ((tk, tv) :: r) σ H Q := h
theorem r_pnil {σ : L2.St} {H : Hp} {Q : List (V × V) → Hp → Prop} (h : Q [] H) : tPairs [] σ H Q := h
def kidKs (a b c d : V) : List (L2.Key × V) := [(.inr "then", a), (.inr "either", b), (.inr "if", c), (.inr "while", d)]
theorem kidKs_merge (a b c d : V) : mergeK [] (kidKs a b c d) = kidKs a b c d := by
  have e1 : ¬ ("then" : Str) = "either" := by decide +kernel
  have e2 : ¬ ("then" : Str) = "if" := by decide +kernel
  have e3 : ¬ ("then" : Str) = "while" := by decide +kernel
  have e4 : ¬ ("either" : Str) = "if" := by decide +kernel
  have e5 : ¬ ("either" : Str) = "while" := by decide +kernel
  have e6 : ¬ ("if" : Str) = "while" := by decide +kernel
  simp [mergeK, kidKs, putK, e1, e2, e3, e4, e5, e6]
theorem vneg {x y : Str} {a : V} {r : List (L2.Key × V)} (h : ¬ x = y) : valV (((.inr x : L2.Key), a) :: r) (.inr y) = valV r (.inr y) := valV_neg fun e => h (Sum.inr.inj e)
theorem vpos {x : Str} {a : V} {r : List (L2.Key × V)} : valV (((.inr x : L2.Key), a) :: r) (.inr x) = some a := valV_pos rfl
def Tx.pick (a b c d : V) : Tx → Option V
  | .thn _ _ => some a
  | .eith _ _ => some b
  | .iff _ _ _ => some c
  | .whil _ _ => some d
  | _ => none
theorem kidKs_pick (a b c d : V) (t : Tx) : valV (kidKs a b c d) (.inr t.kind) = t.pick a b c d := by
  cases t with
  | skip =>
    show valV [((.inr ("then" : Str) : L2.Key), a), (.inr ("either" : Str), b), (.inr ("if" : Str), c), (.inr ("while" : Str), d)] (.inr ("skip" : Str)) = _
    rw [vneg (show ¬ ("then" : Str) = "skip" by decide +kernel)]
    rw [vneg (show ¬ ("either" : Str) = "skip" by decide +kernel)]
    rw [vneg (show ¬ ("if" : Str) = "skip" by decide +kernel)]
    rw [vneg (show ¬ ("while" : Str) = "skip" by decide +kernel)]
    rfl
  | hole =>
    show valV [((.inr ("then" : Str) : L2.Key), a), (.inr ("either" : Str), b), (.inr ("if" : Str), c), (.inr ("while" : Str), d)] (.inr ("hole" : Str)) = _
    rw [vneg (show ¬ ("then" : Str) = "hole" by decide +kernel)]
    rw [vneg (show ¬ ("either" : Str) = "hole" by decide +kernel)]
    rw [vneg (show ¬ ("if" : Str) = "hole" by decide +kernel)]
    rw [vneg (show ¬ ("while" : Str) = "hole" by decide +kernel)]
    rfl
  | set _ _ =>
    show valV [((.inr ("then" : Str) : L2.Key), a), (.inr ("either" : Str), b), (.inr ("if" : Str), c), (.inr ("while" : Str), d)] (.inr ("set" : Str)) = _
    rw [vneg (show ¬ ("then" : Str) = "set" by decide +kernel)]
    rw [vneg (show ¬ ("either" : Str) = "set" by decide +kernel)]
    rw [vneg (show ¬ ("if" : Str) = "set" by decide +kernel)]
    rw [vneg (show ¬ ("while" : Str) = "set" by decide +kernel)]
    rfl
  | draw _ _ _ _ _ =>
    show valV [((.inr ("then" : Str) : L2.Key), a), (.inr ("either" : Str), b), (.inr ("if" : Str), c), (.inr ("while" : Str), d)] (.inr ("draw" : Str)) = _
    rw [vneg (show ¬ ("then" : Str) = "draw" by decide +kernel)]
    rw [vneg (show ¬ ("either" : Str) = "draw" by decide +kernel)]
    rw [vneg (show ¬ ("if" : Str) = "draw" by decide +kernel)]
    rw [vneg (show ¬ ("while" : Str) = "draw" by decide +kernel)]
    rfl
  | thn _ _ =>
    show valV [((.inr ("then" : Str) : L2.Key), a), (.inr ("either" : Str), b), (.inr ("if" : Str), c), (.inr ("while" : Str), d)] (.inr ("then" : Str)) = _
    rw [vpos]
    rfl
  | iff _ _ _ =>
    show valV [((.inr ("then" : Str) : L2.Key), a), (.inr ("either" : Str), b), (.inr ("if" : Str), c), (.inr ("while" : Str), d)] (.inr ("if" : Str)) = _
    rw [vneg (show ¬ ("then" : Str) = "if" by decide +kernel)]
    rw [vneg (show ¬ ("either" : Str) = "if" by decide +kernel)]
    rw [vpos]
    rfl
  | eith _ _ =>
    show valV [((.inr ("then" : Str) : L2.Key), a), (.inr ("either" : Str), b), (.inr ("if" : Str), c), (.inr ("while" : Str), d)] (.inr ("either" : Str)) = _
    rw [vneg (show ¬ ("then" : Str) = "either" by decide +kernel)]
    rw [vpos]
    rfl
  | whil _ _ =>
    show valV [((.inr ("then" : Str) : L2.Key), a), (.inr ("either" : Str), b), (.inr ("if" : Str), c), (.inr ("while" : Str), d)] (.inr ("while" : Str)) = _
    rw [vneg (show ¬ ("then" : Str) = "while" by decide +kernel)]
    rw [vneg (show ¬ ("either" : Str) = "while" by decide +kernel)]
    rw [vneg (show ¬ ("if" : Str) = "while" by decide +kernel)]
    rw [vpos]
    rfl
section
variable {P : Program} {w : World} {K : PySem.W.Frag} {mg : Str → Option Value} {base : Heap}
theorem ok_kids {f : Addr} {fd : FuncData} (F : Fun K "_law_kids" "_law_kids" s__law_kids f fd) : FnG P w K mg base CX0 1 f fd ["thing"] spKids := by
  refine okG F sc__law_kids (fun vs H Q E h => ?_) (fun cdv B up z H vs Q E hG hr h => ?_)
  · obtain ⟨v, t, rfl, _⟩ := h
    rfl
  obtain ⟨v, t, rfl, ht, k⟩ := h
  have hu1 : (B.deeper (PyProof.Rows.envOfC "_law_kids" (defScope s__law_kids) z.heap.objs.size f cdv)).units + 1 < cLine := by have := hr.units; omega
  refine ⟨_, (pss_one (ps_ret (pe_dget2 hu1 (pe_disp (pps_cons pe_str (pe_tup (pa_cons pe_int (pa_cons pe_int pa_nil))) (pps_cons pe_str (pe_tup (pa_cons pe_int (pa_cons pe_int pa_nil))) (pps_cons pe_str (pe_tup (pa_cons pe_int (pa_cons pe_int pa_nil))) (pps_cons pe_str (pe_tup (pa_cons pe_int pa_nil)) pps_nil)))) (by rfl) (by rfl) (by intro h; cases h) (by decide)) (pe_ix (show IxR _ (rIxT K) from ix_tup) (pv 0) pe_int (fun _ _ => rfl)) (pe_tup pa_nil) ⟨by rfl, by rfl, by rfl, by rfl⟩))), ?_⟩
  walk_at "r"
  refine r_dg2 ?_
  refine r_disp fun p hp => ?_
  have sp := Same.upd_new (o := .dK []) hp
  have gp : (upd H p (.dK [])) p = some (.dK []) := upd_same
  generalize upd H p (.dK []) = H1 at sp gp ⊢
  refine r_pcons ?_
  walk_at "r"
  refine ⟨by show 2 ≤ sizeLine; decide, fun t0 h0 => ?_⟩
  have s0 := Same.upd_new (o := .tup [.int 1, .int 2]) h0
  have g0 : (upd H1 t0 (.tup [.int 1, .int 2])) t0 = some (.tup [.int 1, .int 2]) := upd_same
  generalize upd H1 t0 (.tup [.int 1, .int 2]) = H2 at s0 g0 ⊢
  refine r_pcons ?_
  walk_at "r"
  refine ⟨by show 2 ≤ sizeLine; decide, fun t1 h1 => ?_⟩
  have s1 := Same.upd_new (o := .tup [.int 1, .int 2]) h1
  have g1 : (upd H2 t1 (.tup [.int 1, .int 2])) t1 = some (.tup [.int 1, .int 2]) := upd_same
  generalize upd H2 t1 (.tup [.int 1, .int 2]) = H3 at s1 g1 ⊢
  refine r_pcons ?_
  walk_at "r"
  refine ⟨by show 2 ≤ sizeLine; decide, fun t2 h2 => ?_⟩
  have s2 := Same.upd_new (o := .tup [.int 2, .int 3]) h2
  have g2 : (upd H3 t2 (.tup [.int 2, .int 3])) t2 = some (.tup [.int 2, .int 3]) := upd_same
  generalize upd H3 t2 (.tup [.int 2, .int 3]) = H4 at s2 g2 ⊢
  refine r_pcons ?_
  walk_at "r"
  refine ⟨by show 1 ≤ sizeLine; decide, fun t3 h3 => ?_⟩
  have s3 := Same.upd_new (o := .tup [.int 2]) h3
  have g3 : (upd H4 t3 (.tup [.int 2])) t3 = some (.tup [.int 2]) := upd_same
  generalize upd H4 t3 (.tup [.int 2]) = H5 at s3 g3 ⊢
  refine r_pnil ?_
  have u4 := s2.trans s3
  have u3 := s1.trans u4
  have u2 := s0.trans u3
  refine ⟨u2 _ _ gp, kidKs (.ref t0) (.ref t1) (.ref t2) (.ref t3), rfl, by show 4 ≤ 15; decide, ?_⟩
  rw [kidKs_merge]
  have n0 : t0 ≠ p := ne_of (u3 _ _ g0) (u2 _ _ gp) (by intro e; cases e)
  have n1 : t1 ≠ p := ne_of (u4 _ _ g1) (u2 _ _ gp) (by intro e; cases e)
  have n2 : t2 ≠ p := ne_of (s3 _ _ g2) (u2 _ _ gp) (by intro e; cases e)
  have n3 : t3 ≠ p := ne_of g3 (u2 _ _ gp) (by intro e; cases e)
  have f0 : (upd H5 p (.dK (kidKs (.ref t0) (.ref t1) (.ref t2) (.ref t3)))) t0 = some (.tup [.int 1, .int 2]) := by rw [upd_ne n0]; exact u3 _ _ g0
  have f1 : (upd H5 p (.dK (kidKs (.ref t0) (.ref t1) (.ref t2) (.ref t3)))) t1 = some (.tup [.int 1, .int 2]) := by rw [upd_ne n1]; exact u4 _ _ g1
  have f2 : (upd H5 p (.dK (kidKs (.ref t0) (.ref t1) (.ref t2) (.ref t3)))) t2 = some (.tup [.int 2, .int 3]) := by rw [upd_ne n2]; exact s3 _ _ g2
  have f3 : (upd H5 p (.dK (kidKs (.ref t0) (.ref t1) (.ref t2) (.ref t3)))) t3 = some (.tup [.int 2]) := by rw [upd_ne n3]; exact g3
  have fp : (upd H5 p (.dK (kidKs (.ref t0) (.ref t1) (.ref t2) (.ref t3)))) p = some (.dK (kidKs (.ref t0) (.ref t1) (.ref t2) (.ref t3))) := upd_same
  have sH : Same H (upd H5 p (.dK (kidKs (.ref t0) (.ref t1) (.ref t2) (.ref t3)))) := Same.over (sp.trans u2) hp
  generalize upd H5 p (.dK (kidKs (.ref t0) (.ref t1) (.ref t2) (.ref t3))) = H6 at f0 f1 f2 f3 fp sH ⊢
  obtain ⟨a, hd, ks, rfl, ha, hl, hk, hlen, -⟩ := (ht.same sH).view
  refine ⟨p, rfl, .inl ⟨_, .inl fp⟩, ?_⟩
  walk_at "r"
  refine r_ixT (SqT.of ha) (atI_nat (j := 0) rfl) ?_
  walk_at "r"
  refine ⟨by show 0 ≤ sizeLine; decide, fun t4 h4 => ?_⟩
  have s4 := Same.upd_new (o := .tup []) h4
  have g4 : (upd H6 t4 (.tup [])) t4 = some (.tup []) := upd_same
  generalize upd H6 t4 (.tup []) = H7 at s4 g4 ⊢
  have fin : ∀ q, H7 q = some (.tup t.ixs) → Q (.ref q) H7 := fun q h => k H7 q (sH.trans s4) h
  refine ⟨valV (kidKs (.ref t0) (.ref t1) (.ref t2) (.ref t3)) (.inr t.kind), ?_, ?_⟩
  · exact .inl ⟨_, .inr t.kind, .inl (s4 _ _ fp), rfl, rfl⟩
  · show Q ((valV (kidKs (V.ref t0) (V.ref t1) (V.ref t2) (V.ref t3)) (Sum.inr t.kind)).getD (V.ref t4)) H7
    rw [kidKs_pick]
    cases t with
    | thn _ _ => exact fin t0 (s4 _ _ f0)
    | eith _ _ => exact fin t1 (s4 _ _ f1)
    | iff _ _ _ => exact fin t2 (s4 _ _ f2)
    | whil _ _ => exact fin t3 (s4 _ _ f3)
    | _ => exact fin t4 g4
theorem ok_ltupled {f : Addr} {fd : FuncData} (F : Fun K "_law_tupled" "_law_tupled" s__law_tupled f fd) (Z : Zs mg)
    (mk : ∀ n, FnG P w K mg base CX0 (n + 1) f fd ["thing"] (spTupledN n) → DefD P w K mg base (n + 1) "_law_tupled" 1 [] byPlace (spTupledN n)) : ∀ n, FnG P w K mg base CX0 (n + 1) f fd ["thing"] (spTupledN n)
  | 0 => fnG_none fun vs H Q E h => by obtain ⟨_, _, _, _, h, _⟩ := h; omega
  | n + 1 => by
    have d__law_tupled := mk n (ok_ltupled F Z mk n)
    refine okG F sc__law_tupled (fun vs H Q E h => ?_) (fun cdv B up z H vs Q E hG hr h => ?_)
    · obtain ⟨v, d, rfl, _⟩ := h
      rfl
    obtain ⟨v, d, rfl, hd, hn, k⟩ := h
    refine ⟨_, (pss_one (ps_ret (pe_ifExp (pt_val (pe_callB call_isiT (by rfl) Z.isinstance_ (by decide +kernel) (pa_cons (pv 0) (pa_cons (pe_tup (pa_cons (pe_ty "list" (by rfl) Z.list_ (by decide +kernel)) (pa_cons (pe_ty "tuple" (by rfl) Z.tuple_ (by decide +kernel)) pa_nil))) pa_nil)))) (pe_callTy (show CallR _ _ (rTupleOf K) from c_tuple) (by rfl) Z.tuple_ (by decide +kernel) (pa_cons (pe_lc (own := [("item", 1)]) (tt := tYes) rfl sc__law_tupled.nd (pi_or (pi_list (pv 0)) (pi_tup (pv 0))) (blkOk_by (N := ["thing", "item"]) (sc := defScope s__law_tupled) (by decide +kernel)) (fun _ _ _ _ _ => (pg_name (i := 1) sc__law_tupled.nd rfl (by first | exact Or.inl rfl | exact Or.inr rfl))) (fun _ _ _ _ _ => pts_nil) (fun _ _ _ _ _ => (pd_pos d__law_tupled hG hr (by omega) (by rfl) (pa_cons (pv 1) pa_nil)))) pa_nil)) (pv 0)))), ?_⟩
    walk_at "r"
    refine ⟨by show 2 ≤ sizeLine; decide, fun p hp => ?_⟩
    have s1 : Same H (upd H p (.tup [.ty "list", .ty "tuple"])) := Same.upd_new hp
    have gp : (upd H p (.tup [.ty "list", .ty "tuple"])) p = some (.tup [.ty "list", .ty "tuple"]) := upd_same
    generalize upd H p (.tup [.ty "list", .ty "tuple"]) = H1 at s1 gp ⊢
    walk_at "r"
    have step : ∀ {v : V} {t : String} {c : Bool} {Q : VK}, TyX K H1 v (.type t) → PySem.W.kitAny K (.type t) [.type "list", .type "tuple"] = some c → Q (.bl c) H1 → rIsiT K [v, .ref p] H1 Q := fun {v t c Q} ty hk k =>
      ⟨v, p, [.ty "list", .ty "tuple"], .type t, [.type "list", .type "tuple"], _, rfl, gp, .cons (.ty _) (.cons (.ty _) .nil), ty, hk, k⟩
    have seq : ∀ {xs : List V} {ds : List PyData} {a : Addr} {H1 : Hp}, Same H H1 → AnyAt H a xs → xs.length ≤ 1000 → DtAll H xs ds → PyData.depthAll ds < n → (∀ H' v', Same H H' → Dt H' v' (.tuple (tupledAll ds)) → Q v' H') → _ := @r_tupled K n H Q
    cases hd with
    | int i =>
      refine step (.base (.int i)) (kitAny_cons (b := false) (kit_ty (by decide +kernel)) (fun _ => kitAny_cons (b := false) (kit_ty (by decide +kernel)) (fun _ => rfl) (fun z => by cases z)) (fun z => by cases z)) ?_
      walk_at "r"
      exact k H1 _ s1 (by rw [tupledD]; exact .int i)
    | str x =>
      refine step (.base (.str x)) (kitAny_cons (b := false) (kit_ty (by decide +kernel)) (fun _ => kitAny_cons (b := false) (kit_ty (by decide +kernel)) (fun _ => rfl) (fun z => by cases z)) (fun z => by cases z)) ?_
      walk_at "r"
      exact k H1 _ s1 (by rw [tupledD]; exact .str x)
    | lst e l a =>
      refine step (.base (.lst (s1 _ _ e))) (kitAny_cons (b := true) (kit_ty (by decide +kernel)) (fun z => by cases z) (fun _ => rfl)) ?_
      walk_at "r"
      exact seq s1 (.inl e) l a (by simp only [PyData.depth] at hn; omega) fun H' v' s h => k H' v' s (by rw [tupledD]; exact h)
    | tup e l a =>
      refine step (.base (.tup (s1 _ _ e))) (kitAny_cons (b := false) (kit_ty (by decide +kernel)) (fun _ => kitAny_cons (b := true) (kit_ty (by decide +kernel)) (fun z => by cases z) (fun _ => rfl)) (fun z => by cases z)) ?_
      walk_at "r"
      exact seq s1 (.inr e) l a (by simp only [PyData.depth] at hn; omega) fun H' v' s h => k H' v' s (by rw [tupledD]; exact h)
end
end Eld
set_option Elab.async false
set_option maxRecDepth 100000
set_option maxHeartbeats 4000000
set_option linter.all false
namespace Eld
open PySem L2
local macro_rules | `(tactic| walk_at "r1") => `(tactic| with_reducible first
  | refine r_seq ?_ | refine r_asgN ?_ | refine r_asg ?_ | refine r_gname ?_ | refine r_gsub ?_ | refine r_var rfl ?_ | refine r_c ?_ | refine r_op ?_ | refine r_un ?_ | refine r_u ?_ | refine r_i0 ?_ | refine r_cb ?_ | refine r_cons ?_ | refine r_nil ?_ | refine r_cl ?_ | refine r_fn rfl rfl ?_ | refine r_mt ?_
  | refine r_test ?_ | refine r_tb ?_ | refine r_bl ?_ | refine r_and ?_ | refine r_or ?_ | refine r_not ?_ | refine r_andV ?_ | refine r_orV ?_ | refine r_notV ?_ | refine r_ifX ?_ | refine r_ifs ?_ | refine r_chain ?_ | refine r_ret ?_ | refine r_next ?_ | refine r_drop ?_ | refine iteT ?_ | refine iteF ?_ | refine iteNT ?_ | refine iteNF ?_
  | refine r_int1 ?_ | refine r_boolB ?_ | refine r_eqI ?_ | refine r_neI ?_ | refine r_eqB ?_ | refine r_neB ?_ | refine r_eqS ?_ | refine r_neS ?_ | refine r_abs ?_ | refine r_max2 ?_ | refine r_min2 ?_ | refine r_yes ?_ | refine r_tup ?_ | refine r_sfld ?_ | refine r_m0 ?_ | refine r_m1 ?_ | refine r_lst ?_ | refine r_rng1 ?_ | refine r_rng2 ?_ | refine r_ixL (SqL.of (by assumption)) rfl ?_)
local macro_rules | `(tactic| walk_at "r") => `(tactic| repeat (first | walk_at "r1" | ((with_reducible refine r_var ?hv ?_); (case hv => rfl))))

/-! ## the law's put and filled -/
def spLFilledN (n : Nat) : Sp := fun vs H Q _ => ∃ v t x s, vs = [v, x] ∧ Tx.At H t v ∧ Tx.At H s x ∧ t.nodes < n ∧ ∀ H' r, Same H H' → Tx.At H' (t.filled s) r → Q r H'
theorem r_orL {ti tj : TI} {σ : L2.St} {H : Hp} {R : It → Hp → Prop} (h : ti σ H R) : iOr ti tj σ H R := .inl h
theorem r_orR {ti tj : TI} {σ : L2.St} {H : Hp} {R : It → Hp → Prop} (h : tj σ H R) : iOr ti tj σ H R := .inr h
theorem ixs_at {t : Tx} {i : Nat} (il : i < t.kids.length) : t.ixs[i]? = some (V.int ((t.frm + i : Nat) : Int)) := by
  unfold Tx.ixs
  rw [List.getElem?_map, List.getElem?_range il]
  rfl
theorem ixs_len (t : Tx) : t.ixs.length = t.kids.length := by
  unfold Tx.ixs
  rw [List.length_map, List.length_range]
/-- a tuple that is cut at a part -/
theorem cut_at {x y : V} {hd ks : List V} {i : Nat} (h : ks[i]? = some y) : x :: (hd ++ ks) = (x :: (hd ++ ks.take i)) ++ (y :: ks.drop (i + 1)) := by
  have il := (List.getElem?_eq_some_iff.mp h).1
  have e3 : y :: ks.drop (i + 1) = ks.drop i := by
    rw [List.drop_eq_getElem_cons il]
    rw [List.getElem?_eq_getElem il] at h
    cases h
    rfl
  rw [e3, List.cons_append, List.append_assoc, List.take_append_drop]
section
variable {P : Program} {w : World} {K : PySem.W.Frag} {mg : Str → Option Value} {base : Heap}
theorem ok_lput {f : Addr} {fd : FuncData} (F : Fun K "_law_put" "_law_put" s__law_put f fd) (Z : Zs mg) (d__law_kids : DefD P w K mg base 1 "_law_kids" 1 [] byPlace spKids)
    (mk : ∀ n, FnG P w K mg base CX0 (n + 1) f fd ["thing", "way", "piece"] (spReplacedN K n) → DefD P w K mg base (n + 1) "_law_put" 3 [] byPlace (spReplacedN K n)) : ∀ n, FnG P w K mg base CX0 (n + 1) f fd ["thing", "way", "piece"] (spReplacedN K n)
  | 0 => fnG_none fun vs H Q E h => by obtain ⟨_, _, _, _, _, _, _, _, _, _, _, h, _⟩ := h; omega
  | n + 1 => by
    have d__law_put := mk n (ok_lput F Z d__law_kids mk n)
    refine okG F sc__law_put (fun vs H Q E h => ?_) (fun cdv B up z H vs Q E hG hr h => ?_)
    · obtain ⟨v, t, pa, ws, x, s, u, rfl, _⟩ := h
      rfl
    obtain ⟨v, t, pa, ws, x, s, u, rfl, ht, hx, hp, hn, hn2, hw, k⟩ := h
    have hu : (B.deeper (PyProof.Rows.envOfC "_law_put" (defScope s__law_put) z.heap.objs.size f cdv)).units + 64 < cLine := hr.units
    refine ⟨_, (pss_cons (ps_if (pt_cmpR (show OpR _ _ (rEqD K) from op_eqD hu) (pv 1) (pe_tup pa_nil) (nomark _)) (pss_one (ps_ret (pv 2))) pss_nil)
  (pss_cons (ps_set (i := 3) sc__law_put.nd rfl (by first | exact Or.inl rfl | exact Or.inr rfl) (pe_ix (show IxR _ (rIxT K) from ix_tup) (pd_pos d__law_kids hG hr (by omega) (by rfl) (pa_cons (pv 0) pa_nil)) (pe_ix (show IxR _ (rIxT K) from ix_tup) (pv 1) pe_int (fun _ _ => rfl)) (fun _ _ => rfl)))
  (pss_one (ps_ret (pe_op (show OpR _ _ (rCatA K) from op_catA) (pe_op (show OpR _ _ (rCatA K) from op_catA) (pe_slice sl_tupA (pv 0) po_none (po_some (pv 3))) (pe_tup (pa_cons (pd_pos d__law_put hG hr (by omega) (by rfl) (pa_cons (pe_ix (show IxR _ (rIxT K) from ix_tup) (pv 0) (pv 3) (fun _ _ => rfl)) (pa_cons (pe_slice sl_tupA (pv 1) (po_some pe_int) po_none) (pa_cons (pv 2) pa_nil)))) pa_nil))) (pe_slice sl_tupA (pv 0) (po_some (pe_op op_add (pv 3) pe_int)) po_none)))))), ?_⟩
    obtain ⟨a, hd, ks, rfl, ha, hl, hk, hlen, make⟩ := ht.view
    walk_at "r"
    refine ⟨by show 0 ≤ sizeLine; decide, fun T hT => ?_⟩
    have sT : Same H (upd H T (.tup [])) := Same.upd_new hT
    have gT : (upd H T (.tup [])) T = some (.tup (([] : List Int).map V.int)) := upd_same
    generalize upd H T (.tup []) = H1 at sT gT ⊢
    refine ⟨tupD (ws.map fun n : Nat => ((n : Nat) : Int)), tupD [], tup_dp (sT _ _ hp), tup_dp gT, tup_shaped _, tup_shaped _, ?_⟩
    rw [tup_eqv]
    cases ws with
    | nil =>
      rw [decide_eq_true (show (([] : List Nat).map fun n : Nat => ((n : Nat) : Int)) = [] from rfl)]
      walk_at "r"
      exact k _ x sT (hx.same sT)
    | cons i r =>
      rw [decide_eq_false (show ¬ ((i :: r).map fun n : Nat => ((n : Nat) : Int)) = [] from fun e => nomatch e)]
      walk_at "r"
      simp only [Tx.follow] at hw
      cases c : t.kids[i]? with
      | none => rw [c] at hw; cases hw
      | some k1 =>
        rw [c] at hw
        have hw : k1.follow r = some u := hw
        have il : i < t.kids.length := (List.getElem?_eq_some_iff.mp c).1
        have ikl : i < ks.length := by rw [← hk.len]; exact il
        have hki : ks[i]? = some ks[i] := List.getElem?_eq_getElem ikl
        obtain ⟨k2, hk2, hat⟩ := hk.get hki
        rw [c] at hk2
        cases hk2
        generalize ks[i] = y at hki hat
        have e1 : V.str t.kind :: (hd ++ ks) = (V.str t.kind :: (hd ++ ks.take i)) ++ (y :: ks.drop (i + 1)) := by
          have e3 : y :: ks.drop (i + 1) = ks.drop i := by
            rw [List.drop_eq_getElem_cons ikl]
            rw [List.getElem?_eq_getElem ikl] at hki
            cases hki
            rfl
          rw [e3, List.cons_append, List.append_assoc, List.take_append_drop]
        have ll : t.frm + i = (V.str t.kind :: (hd ++ ks.take i)).length := by
          rw [List.length_cons, List.length_append, List.length_take, Nat.min_eq_left (by omega)]
          omega
        refine ⟨_, t, rfl, ht.same sT, fun H1b kq s1b hkq => ?_⟩
        have sT := sT.trans s1b
        walk_at "r"
        have hp1 := sT _ _ hp
        refine r_ixT (SqT.of hp1) (atI_nat (j := 0) (v := .int (i : Nat)) rfl) ?_
        walk_at "r"
        refine r_ixT (SqT.of hkq) (atI_nat (j := i) (v := .int ((t.frm + i : Nat) : Int)) (by unfold Tx.ixs; rw [List.getElem?_map, List.getElem?_range il]; rfl)) ?_
        walk_at "r"
        refine r_sl ?_
        walk_at "r"
        refine r_pn ?_
        refine r_pt ?_
        walk_at "r"
        refine ⟨_, rfl, ?_⟩
        have ha1 := sT _ _ ha
        rw [e1] at ha1
        refine r_front ha1 ll fun p1 H2 s2 hp2 => ?_
        walk_at "r"
        refine r_ixT (SqT.of (s2 _ _ ha1)) (atI_nat (j := t.frm + i) (v := y) (by rw [ll, List.getElem?_append_right (Nat.le_refl _), Nat.sub_self]; rfl)) ?_
        walk_at "r"
        refine r_sl ?_
        walk_at "r"
        refine r_pt ?_
        walk_at "r"
        refine ⟨1, rfl, ?_⟩
        refine r_pn ?_
        refine r_back (ys := [V.int ((i : Nat) : Int)]) (zs := wsV r) (n := 1) (s2 _ _ hp1) rfl fun q1 H3 s3 hq1 => ?_
        walk_at "r"
        have s13 := (sT.trans s2).trans s3
        refine ⟨y, k1, q1, r, x, s, u, rfl, hat.same s13, hx.same s13, hq1, by rw [List.length_cons] at hn; omega, by omega, hw, fun H4 r1 s4 hr1 => ?_⟩
        walk_at "r"
        refine ⟨by show 1 ≤ sizeLine; decide, fun T2 hT2 => ?_⟩
        have s5 : Same H4 (upd H4 T2 (.tup [r1])) := Same.upd_new hT2
        have g5 : (upd H4 T2 (.tup [r1])) T2 = some (.tup [r1]) := upd_same
        generalize upd H4 T2 (.tup [r1]) = H5 at s5 g5 ⊢
        have lk : t.kids.length ≤ 2 := by cases t <;> simp [Tx.kids]
        have lf : t.frm ≤ 4 := by cases t <;> simp [Tx.frm]
        have s25 := (s3.trans s4).trans s5
        refine r_cat (s25 _ _ hp2) g5 (by rw [← ll, List.length_singleton]; omega) fun p3 H6 s6 hp3 => ?_
        walk_at "r"
        refine r_sl ?_
        walk_at "r"
        refine r_pt ?_
        walk_at "r"
        refine ⟨((t.frm + i + 1 : Nat) : Int), rfl, ?_⟩
        refine r_pn ?_
        have s16 := (s2.trans s25).trans s6
        have ha6 := s16 _ _ ha1
        rw [show (V.str t.kind :: (hd ++ ks.take i)) ++ (y :: ks.drop (i + 1)) = ((V.str t.kind :: (hd ++ ks.take i)) ++ [y]) ++ ks.drop (i + 1) by rw [List.append_assoc]; rfl] at ha6
        refine r_back ha6 (by rw [List.length_append, ← ll, List.length_singleton]) fun q2 H7 s7 hq2 => ?_
        walk_at "r"
        refine r_cat (s7 _ _ hp3) hq2 (by rw [List.length_append, ← ll, List.length_singleton, List.length_drop, ← hk.len]; omega) fun p4 H8 s8 hp4 => ?_
        have sAll := (sT.trans s16).trans (s7.trans s8)
        refine k H8 _ sAll ?_
        simp only [Tx.put, c]
        refine make H8 p4 (t.kids.set i (k1.put r s)) (ks.set i r1) sAll ?_ (by rw [List.length_set]) ((hk.same sAll).set ((hr1.same (s5.trans s6)).same (s7.trans s8)) i)
        rw [hp4, List.set_eq_take_append_cons_drop, if_pos ikl]
        simp
theorem ok_lfilled {f : Addr} {fd : FuncData} (F : Fun K "_law_filled" "_law_filled" s__law_filled f fd) (Z : Zs mg) (d__law_kids : DefD P w K mg base 1 "_law_kids" 1 [] byPlace spKids)
    (mk : ∀ n, FnG P w K mg base CX0 (n + 1) f fd ["thing", "piece"] (spLFilledN n) → DefD P w K mg base (n + 1) "_law_filled" 2 [] byPlace (spLFilledN n)) : ∀ n, FnG P w K mg base CX0 (n + 1) f fd ["thing", "piece"] (spLFilledN n)
  | 0 => fnG_none fun vs H Q E h => by obtain ⟨_, _, _, _, _, _, _, h, _⟩ := h; omega
  | n + 1 => by
    have d__law_filled := mk n (ok_lfilled F Z d__law_kids mk n)
    refine okG F sc__law_filled (fun vs H Q E h => ?_) (fun cdv B up z H vs Q E hG hr h => ?_)
    · obtain ⟨v, t, x, s, rfl, _⟩ := h
      rfl
    obtain ⟨v, t, x, s, rfl, ht, hx, hn, k⟩ := h
    refine ⟨_, (pss_cons (ps_set (i := 2) sc__law_filled.nd rfl (by first | exact Or.inl rfl | exact Or.inr rfl) (pe_ifExp (pt_cmpR op_eq (pe_ix (show IxR _ (rIxT K) from ix_tup) (pv 0) pe_int (fun _ _ => rfl)) pe_str (nomark _)) (pv 1) (pv 0)))
  (pss_cons (ps_for PassesOwn.never rfl (pi_or (pi_list (pe_ifExp (pt_cmpR op_eq (pe_ix (show IxR _ (rIxT K) from ix_tup) (pv 0) pe_int (fun _ _ => rfl)) pe_str (nomark _)) (pe_lst pa_nil) (pd_pos d__law_kids hG hr (by omega) (by rfl) (pa_cons (pv 0) pa_nil)))) (pi_tup (pe_ifExp (pt_cmpR op_eq (pe_ix (show IxR _ (rIxT K) from ix_tup) (pv 0) pe_int (fun _ _ => rfl)) pe_str (nomark _)) (pe_lst pa_nil) (pd_pos d__law_kids hG hr (by omega) (by rfl) (pa_cons (pv 0) pa_nil))))) (pg_name (i := 3) sc__law_filled.nd rfl (by first | exact Or.inl rfl | exact Or.inr rfl))
  (pss_one (ps_set (i := 2) sc__law_filled.nd rfl (by first | exact Or.inl rfl | exact Or.inr rfl) (pe_op (show OpR _ _ (rCatA K) from op_catA) (pe_op (show OpR _ _ (rCatA K) from op_catA) (pe_slice sl_tupA (pv 2) po_none (po_some (pv 3))) (pe_tup (pa_cons (pd_pos d__law_filled hG hr (by omega) (by rfl) (pa_cons (pe_ix (show IxR _ (rIxT K) from ix_tup) (pv 0) (pv 3) (fun _ _ => rfl)) (pa_cons (pv 1) pa_nil))) pa_nil))) (pe_slice sl_tupA (pv 2) (po_some (pe_op op_add (pv 3) pe_int)) po_none)))))
  (pss_one (ps_ret (pv 2))))), ?_⟩
    obtain ⟨a, hd, ks, rfl, ha, hl, hk, hlen, make⟩ := ht.view
    walk_at "r"
    refine r_ixT (SqT.of ha) (atI_nat (j := 0) rfl) ?_
    walk_at "r"
    rcases t.hole_or with rfl | ⟨hh, hf⟩
    · rw [decide_eq_true (show V.str Tx.hole.kind = V.str ("hole" : Str) from rfl)]
      walk_at "r"
      with_reducible refine r_for ?_
      refine r_orL ?_
      refine r_il ?_
      walk_at "r"
      refine r_ixT (SqT.of ha) (atI_nat (j := 0) rfl) ?_
      walk_at "r"
      rw [decide_eq_true (show V.str Tx.hole.kind = V.str ("hole" : Str) from rfl)]
      walk_at "r"
      refine ⟨by show 0 ≤ sizeLine; decide, fun L hL => ?_⟩
      have sL := Same.upd_new (o := .lst []) hL
      refine ⟨L, rfl, ⟨_, SqL.of upd_same⟩, ?_⟩
      refine for_list (K := K) (a := L) (xs := []) (fun i τ A => A = upd H L (.lst []) ∧ ∃ a3, τ = [some (.ref a), some x, some x, a3]) ⟨rfl, _, rfl⟩ (fun i τ A _ p => by rw [p.1]; exact SqL.of upd_same) ?_ ?_
      · rintro i y τ A hy _
        cases hy
      · rintro τ A ⟨rfl, a3, rfl⟩
        walk_at "r"
        exact k _ x sL (hx.same sL)
    · rw [hh]
      walk_at "r"
      with_reducible refine r_for ?_
      refine r_orR ?_
      refine r_it ?_
      walk_at "r"
      refine r_ixT (SqT.of ha) (atI_nat (j := 0) rfl) ?_
      walk_at "r"
      rw [hh]
      walk_at "r"
      refine ⟨_, t, rfl, ht, fun H1 q s1 hq => ?_⟩
      refine ⟨q, rfl, ⟨_, SqT.of hq⟩, ?_⟩
      have ha1 := s1 _ _ ha
      have hk1 := hk.same s1
      refine for_tup (K := K) (a := q) (xs := t.ixs) (fun i τ A => Same H1 A ∧ ∃ fa rs a3, τ = [some (.ref a), some x, some (.ref fa), a3] ∧ A fa = some (.tup (.str t.kind :: (hd ++ (rs ++ ks.drop i)))) ∧ rs.length = i ∧ KidsAt A ((t.kids.take i).map fun k => k.filled s) rs)
        ⟨Same.refl _, a, [], _, rfl, ha1, rfl, trivial⟩ (fun i τ A _ p => SqT.of (p.1 _ _ hq)) ?_ ?_
      · rintro i y τ A hy ⟨sA, fa, rs, a3, rfl, hfa, rl, hrs⟩
        have il : i < t.kids.length := by have := (List.getElem?_eq_some_iff.mp hy).1; rw [ixs_len] at this; exact this
        rw [ixs_at il] at hy
        cases hy
        have ikl : i < ks.length := by rw [← hk.len]; exact il
        have hki : ks[i]? = some ks[i] := List.getElem?_eq_getElem ikl
        obtain ⟨k1, hk1', hat⟩ := hk1.get hki
        have hdrop : ks.drop i = ks[i] :: ks.drop (i + 1) := List.drop_eq_getElem_cons ikl
        generalize ks[i] = y at hki hat hdrop
        rw [hdrop] at hfa
        have lk : t.kids.length ≤ 2 := by cases t <;> simp [Tx.kids]
        have lf : t.frm ≤ 4 := by cases t <;> simp [Tx.frm]
        have hfa2 : A fa = some (.tup ((.str t.kind :: (hd ++ rs)) ++ (y :: ks.drop (i + 1)))) := by rw [hfa]; simp
        have ll : t.frm + i = (V.str t.kind :: (hd ++ rs)).length := by rw [List.length_cons, List.length_append]; omega
        walk_at "r"
        refine r_sl ?_
        walk_at "r"
        refine r_pn ?_
        refine r_pt ?_
        walk_at "r"
        refine ⟨_, rfl, ?_⟩
        refine r_front hfa2 ll fun p1 H2 s2 hp2 => ?_
        walk_at "r"
        have ha2 := (sA.trans s2) _ _ ha1
        have e1 := cut_at (x := V.str t.kind) (hd := hd) hki
        have lt2 : t.frm + i = (V.str t.kind :: (hd ++ ks.take i)).length := by
          rw [List.length_cons, List.length_append, List.length_take, Nat.min_eq_left (by omega)]
          omega
        refine r_ixT (SqT.of ha2) (atI_nat (j := t.frm + i) (v := y) (by rw [e1, lt2, List.getElem?_append_right (Nat.le_refl _), Nat.sub_self]; rfl)) ?_
        walk_at "r"
        refine ⟨y, k1, x, s, rfl, hat.same (sA.trans s2), hx.same ((s1.trans sA).trans s2), by have := kids_nodes hk1'; omega, fun H3 r s3 hr3 => ?_⟩
        walk_at "r"
        refine ⟨by show 1 ≤ sizeLine; decide, fun T hT => ?_⟩
        have sT := Same.upd_new (o := .tup [r]) hT
        have gT : (upd H3 T (.tup [r])) T = some (.tup [r]) := upd_same
        generalize upd H3 T (.tup [r]) = H4 at sT gT ⊢
        have s24 := s3.trans sT
        refine r_cat (s24 _ _ hp2) gT (by rw [← ll, List.length_singleton]; omega) fun p2 H5 s5 hp5 => ?_
        walk_at "r"
        refine r_sl ?_
        walk_at "r"
        refine r_pt ?_
        walk_at "r"
        refine ⟨((t.frm + i + 1 : Nat) : Int), rfl, ?_⟩
        refine r_pn ?_
        have sA5 := (s2.trans s24).trans s5
        have hfa5 := sA5 _ _ hfa2
        rw [show (V.str t.kind :: (hd ++ rs)) ++ (y :: ks.drop (i + 1)) = ((V.str t.kind :: (hd ++ rs)) ++ [y]) ++ ks.drop (i + 1) by rw [List.append_assoc]; rfl] at hfa5
        refine r_back hfa5 (by rw [List.length_append, ← ll, List.length_singleton]) fun q2 H6 s6 hq6 => ?_
        walk_at "r"
        refine r_cat (s6 _ _ hp5) hq6 (by rw [List.length_append, ← ll, List.length_singleton, List.length_drop, ← hk.len]; omega) fun p3 H7 s7 hp7 => ?_
        have s57 := s6.trans s7
        have sAll := sA5.trans s57
        refine ⟨sA.trans sAll, p3, rs ++ [r], _, rfl, ?_, by rw [List.length_append, List.length_singleton, rl], ?_⟩
        · rw [hp7]
          simp
        · rw [take_next hk1', List.map_append]
          exact KidsAt.push (hr3.same ((sT.trans s5).trans s57)) (hrs.same sAll)
      · rintro τ A ⟨sA, fa, rs, a3, rfl, hfa, rl, hrs⟩
        rw [ixs_len, hk.len, List.drop_length, List.append_nil] at hfa
        rw [ixs_len, List.take_length] at hrs
        walk_at "r"
        refine k A _ (s1.trans sA) ?_
        rw [← hf s]
        exact make A fa _ rs (s1.trans sA) hfa (by rw [List.length_map]) hrs
end
end Eld
set_option Elab.async false
set_option maxRecDepth 100000
set_option maxHeartbeats 4000000
set_option linter.all false
namespace Eld
open PySem L2
local macro_rules | `(tactic| walk_at "r1") => `(tactic| with_reducible first
  | refine r_seq ?_ | refine r_asgN ?_ | refine r_asg ?_ | refine r_gname ?_ | refine r_gsub ?_ | refine r_var rfl ?_ | refine r_c ?_ | refine r_op ?_ | refine r_un ?_ | refine r_u ?_ | refine r_i0 ?_ | refine r_cb ?_ | refine r_cons ?_ | refine r_nil ?_ | refine r_cl ?_ | refine r_fn rfl rfl ?_ | refine r_mt ?_
  | refine r_test ?_ | refine r_tb ?_ | refine r_bl ?_ | refine r_and ?_ | refine r_or ?_ | refine r_not ?_ | refine r_andV ?_ | refine r_orV ?_ | refine r_notV ?_ | refine r_ifX ?_ | refine r_ifs ?_ | refine r_chain ?_ | refine r_ret ?_ | refine r_next ?_ | refine r_drop ?_ | refine iteT ?_ | refine iteF ?_ | refine iteNT ?_ | refine iteNF ?_
  | refine r_int1 ?_ | refine r_boolB ?_ | refine r_eqI ?_ | refine r_neI ?_ | refine r_eqB ?_ | refine r_neB ?_ | refine r_eqS ?_ | refine r_neS ?_ | refine r_abs ?_ | refine r_max2 ?_ | refine r_min2 ?_ | refine r_yes ?_ | refine r_tup ?_ | refine r_sfld ?_ | refine r_m0 ?_ | refine r_m1 ?_ | refine r_lst ?_ | refine r_rng1 ?_ | refine r_rng2 ?_ | refine r_ixL (SqL.of (by assumption)) rfl ?_)
local macro_rules | `(tactic| walk_at "r") => `(tactic| repeat (first | walk_at "r1" | ((with_reducible refine r_var ?hv ?_); (case hv => rfl))))

/-! ## the law's shape of a text, all parts with their paths -/
def spShapeN (n : Nat) : Sp := fun vs H Q _ => ∃ v t, vs = [v] ∧ Tx.At H t v ∧ t.nodes < n ∧ ∀ H' q, Same H H' → H' q = some (.tup [.int (t.parts : Nat), .int (t.depth : Nat)]) → Q (.ref q) H'
/-- the shapes of parts -/
def ShapesAt (H : Hp) : List Tx → List V → Prop
  | [], [] => True
  | t :: ts, p :: ps => (∃ q, p = .ref q ∧ H q = some (.tup [.int (t.parts : Nat), .int (t.depth : Nat)])) ∧ ShapesAt H ts ps
  | _, _ => False
theorem ShapesAt.same {H H' : Hp} (s : Same H H') : ∀ {W : List Tx} {ps : List V}, ShapesAt H W ps → ShapesAt H' W ps
  | [], [], _ => trivial
  | x :: W, p :: ps, h => by
    obtain ⟨⟨q, e, g⟩, r⟩ := h
    exact ⟨⟨q, e, s _ _ g⟩, ShapesAt.same s r⟩
  | [], _ :: _, h => h.elim
  | _ :: _, [], h => h.elim
theorem ShapesAt.off {H : Hp} {L : Addr} {o : HO} {xs : List V} (hL : H L = some (.lst xs)) : ∀ {W : List Tx} {ps : List V}, ShapesAt H W ps → ShapesAt (upd H L o) W ps
  | [], [], _ => trivial
  | x :: W, p :: ps, h => by
    obtain ⟨⟨q, e, g⟩, r⟩ := h
    have ne : q ≠ L := by
      rintro rfl
      rw [hL] at g
      cases g
    exact ⟨⟨q, e, by rw [upd_ne ne]; exact g⟩, ShapesAt.off hL r⟩
  | [], _ :: _, h => h.elim
  | _ :: _, [], h => h.elim
theorem ShapesAt.push {H : Hp} {t : Tx} {q : Addr} (g : H q = some (.tup [.int (t.parts : Nat), .int (t.depth : Nat)])) : ∀ {W : List Tx} {ps : List V}, ShapesAt H W ps → ShapesAt H (W ++ [t]) (ps ++ [.ref q])
  | [], [], _ => ⟨⟨q, rfl, g⟩, trivial⟩
  | _ :: _, _ :: _, h => ⟨h.1, ShapesAt.push g h.2⟩
  | [], _ :: _, h => h.elim
  | _ :: _, [], h => h.elim
theorem ShapesAt.len {H : Hp} : ∀ {W : List Tx} {ps : List V}, ShapesAt H W ps → W.length = ps.length
  | [], [], _ => rfl
  | _ :: _, _ :: _, h => by rw [List.length_cons, List.length_cons, ShapesAt.len h.2]
  | [], _ :: _, h => h.elim
  | _ :: _, [], h => h.elim
theorem ShapesAt.get {H : Hp} : ∀ {W : List Tx} {ps : List V} {i : Nat} {p : V}, ShapesAt H W ps → ps[i]? = some p → ∃ t q, W[i]? = some t ∧ p = .ref q ∧ H q = some (.tup [.int (t.parts : Nat), .int (t.depth : Nat)])
  | t :: _, _ :: _, 0, _, h, e => by
    cases e
    obtain ⟨⟨q, e, g⟩, r⟩ := h
    exact ⟨t, q, rfl, e, g⟩
  | _ :: W, _ :: ps, i + 1, _, h, e => ShapesAt.get (W := W) (ps := ps) (i := i) h.2 e
  | [], [], _, _, _, e => by cases e
  | [], _ :: _, _, _, h, _ => h.elim
  | _ :: _, [], _, _, h, _ => h.elim
theorem nat_sum_cast : ∀ l : List Nat, (l.map fun n : Nat => (n : Int)).sum = ((l.sum : Nat) : Int)
  | [] => rfl
  | x :: l => by rw [List.map_cons, List.sum_cons, List.sum_cons, nat_sum_cast l]; omega
section
variable {P : Program} {w : World} {K : PySem.W.Frag} {mg : Str → Option Value} {base : Heap}
theorem ok_shape {f : Addr} {fd : FuncData} (F : Fun K "_law_shape" "_law_shape" s__law_shape f fd) (Z : Zs mg) (d__law_kids : DefD P w K mg base 1 "_law_kids" 1 [] byPlace spKids)
    (mk : ∀ n, FnG P w K mg base CX0 (n + 1) f fd ["thing"] (spShapeN n) → DefD P w K mg base (n + 1) "_law_shape" 1 [] byPlace (spShapeN n)) : ∀ n, FnG P w K mg base CX0 (n + 1) f fd ["thing"] (spShapeN n)
  | 0 => fnG_none fun vs H Q E h => by obtain ⟨_, _, _, _, h, _⟩ := h; omega
  | n + 1 => by
    have d__law_shape := mk n (ok_shape F Z d__law_kids mk n)
    refine okG F sc__law_shape (fun vs H Q E h => ?_) (fun cdv B up z H vs Q E hG hr h => ?_)
    · obtain ⟨v, t, rfl, _⟩ := h
      rfl
    obtain ⟨v, t, rfl, ht, hn, k⟩ := h
    refine ⟨_, (pss_cons (ps_setLc (i := 1) (own := [("at", 3)]) (tt := tYes) rfl sc__law_shape.nd rfl rfl (sw_true rfl rfl rfl (by decide +kernel)) (pi_tup (pd_pos d__law_kids hG hr (by omega) (by rfl) (pa_cons (pv 0) pa_nil))) (blkOk_by (N := ["thing", "kids", "loops", "at", "kid"]) (sc := defScope s__law_shape) (by decide +kernel)) (fun _ _ _ _ _ => (pg_name (i := 3) sc__law_shape.nd rfl (by first | exact Or.inl rfl | exact Or.inr rfl))) (fun _ _ _ _ _ => pts_nil) (fun _ _ _ _ _ => (pd_pos d__law_shape hG hr (by omega) (by rfl) (pa_cons (pe_ix (show IxR _ (rIxT K) from ix_tup) (pv 0) (pv 3) (fun _ _ => rfl)) pa_nil))))
  (pss_cons (ps_set (i := 2) sc__law_shape.nd rfl (by first | exact Or.inl rfl | exact Or.inr rfl) (pe_op op_add (pe_callB (show CallR _ _ (rMax K) from cr_max rfl) (by rfl) Z.max_ (by decide +kernel) (pa_cons (pe_op op_cat (pe_lst (pa_cons pe_int pa_nil)) (pe_lc (own := [("kid", 4)]) (tt := tYes) rfl sc__law_shape.nd (pi_list (pv 1)) (blkOk_by (N := ["thing", "kids", "loops", "at", "kid"]) (sc := defScope s__law_shape) (by decide +kernel)) (fun _ _ _ _ _ => (pg_name (i := 4) sc__law_shape.nd rfl (by first | exact Or.inl rfl | exact Or.inr rfl))) (fun _ _ _ _ _ => pts_nil) (fun _ _ _ _ _ => (pe_ix (show IxR _ (rIxT K) from ix_tup) (pv 4) pe_int (fun _ _ => rfl))))) pa_nil)) (pe_callTy c_int (by rfl) Z.int_ (by decide +kernel) (pa_cons (pe_cmpR op_eq (pe_ix (show IxR _ (rIxT K) from ix_tup) (pv 0) pe_int (fun _ _ => rfl)) pe_str (nomark _)) pa_nil))))
  (pss_one (ps_ret (pe_tup (pa_cons (pe_op op_add (pe_callB (cr_sum rfl) (by rfl) Z.sum_ (by decide +kernel) (pa_cons (pe_lc (own := [("kid", 4)]) (tt := tYes) rfl sc__law_shape.nd (pi_list (pv 1)) (blkOk_by (N := ["thing", "kids", "loops", "at", "kid"]) (sc := defScope s__law_shape) (by decide +kernel)) (fun _ _ _ _ _ => (pg_name (i := 4) sc__law_shape.nd rfl (by first | exact Or.inl rfl | exact Or.inr rfl))) (fun _ _ _ _ _ => pts_nil) (fun _ _ _ _ _ => (pe_ix (show IxR _ (rIxT K) from ix_tup) (pv 4) pe_int (fun _ _ => rfl)))) pa_nil)) (pe_callTy c_int (by rfl) Z.int_ (by decide +kernel) (pa_cons (pe_cmpR op_ne (pe_ix (show IxR _ (rIxT K) from ix_tup) (pv 0) pe_int (fun _ _ => rfl)) pe_str (nomark _)) pa_nil))) (pa_cons (pv 2) pa_nil))))))), ?_⟩
    obtain ⟨a, hd, ks, rfl, ha, hl, hk, hlen, make⟩ := ht.view
    have lk : t.kids.length ≤ 2 := by cases t <;> simp [Tx.kids]
    walk_at "r"
    refine r_lc ?_
    refine r_it ?_
    walk_at "r"
    refine ⟨_, t, rfl, ht, fun H1 q s1 hq => ⟨q, rfl, ⟨_, SqT.of hq⟩, fun D hD => ?_⟩⟩
    refine it_tup (xs := t.ixs) (fun i A => Same H1 A ∧ ∃ ps, A D = some (.lst ps) ∧ ShapesAt A (t.kids.take i) ps) ⟨Same.upd_new hD, [], upd_same, by rw [List.take_zero]; trivial⟩ (fun i A _ p => SqT.of (p.1 _ _ hq)) (fun i y A hy p => ?_) (fun A p => ?_)
    · obtain ⟨sA, ps, dA, hS⟩ := p
      have il : i < t.kids.length := by have := (List.getElem?_eq_some_iff.mp hy).1; rw [ixs_len] at this; exact this
      rw [ixs_at il] at hy
      cases hy
      have ikl : i < ks.length := by rw [← hk.len]; exact il
      have hki : ks[i]? = some ks[i] := List.getElem?_eq_getElem ikl
      obtain ⟨k1, hk1, hat⟩ := hk.get hki
      generalize ks[i] = y at hki hat
      have e1 := cut_at (x := V.str t.kind) (hd := hd) hki
      have lt2 : t.frm + i = (V.str t.kind :: (hd ++ ks.take i)).length := by
        rw [List.length_cons, List.length_append, List.length_take, Nat.min_eq_left (by omega)]
        omega
      refine r_gname ⟨rfl, ?_⟩
      walk_at "r"
      refine r_ixT (SqT.of ((s1.trans sA) _ _ ha)) (atI_nat (j := t.frm + i) (v := y) (by rw [e1, lt2, List.getElem?_append_right (Nat.le_refl _), Nat.sub_self]; rfl)) ?_
      walk_at "r"
      refine ⟨y, k1, rfl, hat.same (s1.trans sA), by have := kids_nodes hk1; omega, fun A2 q2 s2 hq2 => ?_⟩
      have dA2 := s2 _ _ dA
      have pl : ps.length ≤ 2 := by
        rw [← hS.len, List.length_take]
        omega
      refine ⟨ps, dA2, by rw [sizeLine_eq]; omega, Same.over (sA.trans s2) hD, ps ++ [.ref q2], upd_same, ?_⟩
      rw [take_next hk1]
      exact ShapesAt.off dA2 (ShapesAt.push hq2 (hS.same s2))
    · obtain ⟨sA, ps, dA, hS⟩ := p
      rw [ixs_len, List.take_length] at hS
      have pl : ps.length ≤ 2 := by
        rw [← hS.len]
        exact lk
      have s1A := s1.trans sA
      walk_at "r"
      refine ⟨by show 1 ≤ sizeLine; decide, fun Z0 hZ0 => ?_⟩
      have sZ : Same A (upd A Z0 (.lst [V.int 0])) := Same.upd_new hZ0
      have gZ : (upd A Z0 (.lst [V.int 0])) Z0 = some (.lst [V.int 0]) := upd_same
      generalize upd A Z0 (.lst [V.int 0]) = B0 at sZ gZ ⊢
      have dDB0 := sZ _ _ dA
      have hSB0 := hS.same sZ
      refine r_lc ?_
      refine r_il ?_
      walk_at "r"
      refine ⟨_, rfl, ⟨_, SqL.of dDB0⟩, fun D2 hD2 => ?_⟩
      refine it_list (xs := ps) (fun i A' => Same B0 A' ∧ A' D2 = some (.lst ((((t.kids.take i).map Tx.depth).map fun n : Nat => V.int (n : Int))))) ⟨Same.upd_new hD2, upd_same⟩ (fun i A' _ p => SqL.of (p.1 _ _ dDB0)) (fun i y A' hy p => ?_) (fun B1 p => ?_)
      · obtain ⟨sA', dA'⟩ := p
        obtain ⟨k1, q1, hk1, rfl, g1⟩ := hSB0.get hy
        have il : i < t.kids.length := (List.getElem?_eq_some_iff.mp hk1).1
        refine r_gname ⟨rfl, ?_⟩
        walk_at "r"
        refine r_ixT (SqT.of (sA' _ _ g1)) (atI_nat (j := 1) rfl) ?_
        refine ⟨_, dA', by rw [List.length_map, List.length_map, List.length_take, sizeLine_eq]; omega, Same.over sA' hD2, ?_⟩
        rw [upd_same, take_next hk1, List.map_append, List.map_append]
        rfl
      · obtain ⟨sB1, dB1⟩ := p
        rw [← hSB0.len, List.take_length] at dB1
        refine ⟨Z0, D2, _, _, rfl, rfl, sB1 _ _ gZ, dB1, by rw [List.length_map, List.length_map, List.length_singleton, sizeLine_eq]; omega, fun R hR => ?_⟩
        have sR : Same B1 (upd B1 R (.lst ([V.int 0] ++ ((t.kids.map Tx.depth).map fun n : Nat => V.int (n : Int))))) := Same.upd_new hR
        have gR : (upd B1 R (.lst ([V.int 0] ++ ((t.kids.map Tx.depth).map fun n : Nat => V.int (n : Int))))) R = some (.lst (((0 :: t.kids.map Tx.depth).map fun n : Nat => (n : Int)).map V.int)) := by
          rw [upd_same, ints_cast]
          rfl
        generalize upd B1 R (.lst ([V.int 0] ++ ((t.kids.map Tx.depth).map fun n : Nat => V.int (n : Int)))) = B2 at sR gR ⊢
        have sB2 := (sZ.trans sB1).trans sR
        have ha2 := (s1A.trans sB2) _ _ ha
        walk_at "r"
        refine ⟨R, _, rfl, SqL.of gR, by simp, fun m m1 m2 => ?_⟩
        walk_at "r"
        refine r_ixT (SqT.of ha2) (atI_nat (j := 0) rfl) ?_
        walk_at "r"
        refine r_intB ?_
        walk_at "r"
        rw [t.w0_kind, t.depth_max m m1 m2]
        have dDB2 := sB2 _ _ dA
        have hSB2 := hS.same sB2
        refine r_lc ?_
        refine r_il ?_
        walk_at "r"
        refine ⟨_, rfl, ⟨_, SqL.of dDB2⟩, fun D3 hD3 => ?_⟩
        refine it_list (xs := ps) (fun i A' => Same B2 A' ∧ A' D3 = some (.lst ((((t.kids.take i).map Tx.parts).map fun n : Nat => V.int (n : Int))))) ⟨Same.upd_new hD3, upd_same⟩ (fun i A' _ p => SqL.of (p.1 _ _ dDB2)) (fun i y A' hy p => ?_) (fun B3 p => ?_)
        · obtain ⟨sA', dA'⟩ := p
          obtain ⟨k1, q1, hk1, rfl, g1⟩ := hSB2.get hy
          have il : i < t.kids.length := (List.getElem?_eq_some_iff.mp hk1).1
          refine r_gname ⟨rfl, ?_⟩
          walk_at "r"
          refine r_ixT (SqT.of (sA' _ _ g1)) (atI_nat (j := 0) rfl) ?_
          refine ⟨_, dA', by rw [List.length_map, List.length_map, List.length_take, sizeLine_eq]; omega, Same.over sA' hD3, ?_⟩
          rw [upd_same, take_next hk1, List.map_append, List.map_append]
          rfl
        · obtain ⟨sB3, dB3⟩ := p
          rw [← hSB2.len, List.take_length, ints_cast] at dB3
          walk_at "r"
          refine ⟨D3, _, rfl, SqL.of dB3, ?_⟩
          rw [nat_sum_cast]
          have ha3 := sB3 _ _ ha2
          walk_at "r"
          refine r_ixT (SqT.of ha3) (atI_nat (j := 0) rfl) ?_
          walk_at "r"
          refine r_intB ?_
          walk_at "r"
          rw [t.p0_kind, show (((t.kids.map Tx.parts).sum : Nat) : Int) + ((t.p0 : Nat) : Int) = ((t.parts : Nat) : Int) by rw [t.parts_kids]; omega]
          refine ⟨by show 2 ≤ sizeLine; decide, fun T hT => ?_⟩
          exact k _ T ((s1A.trans sB2).trans (sB3.trans (Same.upd_new hT))) upd_same
end
end Eld
set_option Elab.async false
set_option maxRecDepth 100000
set_option maxHeartbeats 4000000
set_option linter.all false
namespace Eld
open PySem L2
local macro_rules | `(tactic| walk_at "r1") => `(tactic| with_reducible first
  | refine r_seq ?_ | refine r_asgN ?_ | refine r_asg ?_ | refine r_gname ?_ | refine r_gsub ?_ | refine r_var rfl ?_ | refine r_c ?_ | refine r_op ?_ | refine r_un ?_ | refine r_u ?_ | refine r_i0 ?_ | refine r_cb ?_ | refine r_cons ?_ | refine r_nil ?_ | refine r_cl ?_ | refine r_fn rfl rfl ?_ | refine r_mt ?_
  | refine r_test ?_ | refine r_tb ?_ | refine r_bl ?_ | refine r_and ?_ | refine r_or ?_ | refine r_not ?_ | refine r_andV ?_ | refine r_orV ?_ | refine r_notV ?_ | refine r_ifX ?_ | refine r_ifs ?_ | refine r_chain ?_ | refine r_ret ?_ | refine r_next ?_ | refine r_drop ?_ | refine iteT ?_ | refine iteF ?_ | refine iteNT ?_ | refine iteNF ?_
  | refine r_int1 ?_ | refine r_boolB ?_ | refine r_eqI ?_ | refine r_neI ?_ | refine r_eqB ?_ | refine r_neB ?_ | refine r_eqS ?_ | refine r_neS ?_ | refine r_abs ?_ | refine r_max2 ?_ | refine r_min2 ?_ | refine r_yes ?_ | refine r_tup ?_ | refine r_sfld ?_ | refine r_m0 ?_ | refine r_m1 ?_ | refine r_lst ?_ | refine r_rng1 ?_ | refine r_rng2 ?_ | refine r_ixL (SqL.of (by assumption)) rfl ?_)
local macro_rules | `(tactic| walk_at "r") => `(tactic| repeat (first | walk_at "r1" | ((with_reducible refine r_var ?hv ?_); (case hv => rfl))))

/-! ## all parts with their paths -/
abbrev PT := List Nat × Tx
def PathsIn (G A : Hp) : List PT → List V → Prop
  | [], [] => True
  | x :: W, p :: ps => (∃ q wa v, p = .ref q ∧ A q = some (.tup [.ref wa, v]) ∧ A wa = some (.tup (wsV x.1)) ∧ Tx.At G x.2 v) ∧ PathsIn G A W ps
  | _, _ => False
theorem PathsIn.keep {G A A' : Hp} (s : ∀ q xs, A q = some (.tup xs) → A' q = some (.tup xs)) : ∀ {W : List PT} {ps : List V}, PathsIn G A W ps → PathsIn G A' W ps
  | [], [], _ => trivial
  | x :: W, p :: ps, h => by
    obtain ⟨⟨q, wa, v, e, g, g2, a⟩, r⟩ := h
    exact ⟨⟨q, wa, v, e, s _ _ g, s _ _ g2, a⟩, PathsIn.keep s r⟩
  | [], _ :: _, h => h.elim
  | _ :: _, [], h => h.elim
theorem PathsIn.at {G A : Hp} (s : Same G A) : ∀ {W : List PT} {ps : List V}, PathsIn G A W ps → PathsIn A A W ps
  | [], [], _ => trivial
  | x :: W, p :: ps, h => by
    obtain ⟨⟨q, wa, v, e, g, g2, a⟩, r⟩ := h
    exact ⟨⟨q, wa, v, e, g, g2, a.same s⟩, PathsIn.at s r⟩
  | [], _ :: _, h => h.elim
  | _ :: _, [], h => h.elim
theorem PathsIn.same {A A' : Hp} (s : Same A A') {W : List PT} {ps : List V} (h : PathsIn A A W ps) : PathsIn A' A' W ps := (h.keep fun q xs e => s _ _ e).at s
theorem PathsIn.len {G A : Hp} : ∀ {W : List PT} {ps : List V}, PathsIn G A W ps → W.length = ps.length
  | [], [], _ => rfl
  | _ :: _, _ :: _, h => by rw [List.length_cons, List.length_cons, PathsIn.len h.2]
  | [], _ :: _, h => h.elim
  | _ :: _, [], h => h.elim
theorem PathsIn.append {G A : Hp} : ∀ {W W' : List PT} {ps ps' : List V}, PathsIn G A W ps → PathsIn G A W' ps' → PathsIn G A (W ++ W') (ps ++ ps')
  | [], _, [], _, _, h2 => h2
  | _ :: _, _, _ :: _, _, h, h2 => ⟨h.1, PathsIn.append h.2 h2⟩
  | [], _, _ :: _, _, h, _ => h.elim
  | _ :: _, _, [], _, h, _ => h.elim
theorem PathsIn.get {G A : Hp} : ∀ {W : List PT} {ps : List V} {i : Nat} {p : V}, PathsIn G A W ps → ps[i]? = some p → ∃ x q wa v, W[i]? = some x ∧ p = .ref q ∧ A q = some (.tup [.ref wa, v]) ∧ A wa = some (.tup (wsV x.1)) ∧ Tx.At G x.2 v
  | x :: _, _ :: _, 0, _, h, e => by
    cases e
    obtain ⟨⟨q, wa, v, e, g, g2, a⟩, r⟩ := h
    exact ⟨x, q, wa, v, rfl, e, g, g2, a⟩
  | _ :: W, _ :: ps, i + 1, _, h, e => PathsIn.get (W := W) (ps := ps) (i := i) h.2 e
  | [], [], _, _, _, e => by cases e
  | [], _ :: _, _, _, h, _ => h.elim
  | _ :: _, [], _, _, h, _ => h.elim
def spAllPartsN (n : Nat) : Sp := fun vs H Q _ => ∃ v t, vs = [v] ∧ Tx.At H t v ∧ t.nodes < n ∧ n ≤ 1000 ∧ ∀ H' l ls ps, Same H H' → H l = none → H' l = some (.lst ls) → PathsIn H' H' ps ls → ps.length = t.nodes → (∀ p ∈ ps, t.follow p.1 = some p.2 ∧ p.1.length < t.nodes) → Q (.ref l) H'
theorem take_nodes (t : Tx) (i : Nat) : ((t.kids.take i).map Tx.nodes).sum ≤ (t.kids.map Tx.nodes).sum := by
  have e : (t.kids.map Tx.nodes).sum = ((t.kids.take i).map Tx.nodes).sum + ((t.kids.drop i).map Tx.nodes).sum := by
    rw [← List.sum_append, ← List.map_append, List.take_append_drop]
  omega
section
variable {P : Program} {w : World} {K : PySem.W.Frag} {mg : Str → Option Value} {base : Heap}
theorem ok_all_parts {f : Addr} {fd : FuncData} (F : Fun K "_law_all_parts" "_law_all_parts" s__law_all_parts f fd) (Z : Zs mg) (d__law_kids : DefD P w K mg base 1 "_law_kids" 1 [] byPlace spKids)
    (mk : ∀ n, FnG P w K mg base CX0 (n + 1) f fd ["thing"] (spAllPartsN n) → DefD P w K mg base (n + 1) "_law_all_parts" 1 [] byPlace (spAllPartsN n)) : ∀ n, FnG P w K mg base CX0 (n + 1) f fd ["thing"] (spAllPartsN n)
  | 0 => fnG_none fun vs H Q E h => by obtain ⟨_, _, _, _, h, _⟩ := h; omega
  | n + 1 => by
    have d__law_all_parts := mk n (ok_all_parts F Z d__law_kids mk n)
    refine okG F sc__law_all_parts (fun vs H Q E h => ?_) (fun cdv B up z H vs Q E hG hr h => ?_)
    · obtain ⟨v, t, rfl, _⟩ := h
      rfl
    obtain ⟨v, t, rfl, ht, hn, hn2, k⟩ := h
    refine ⟨_, (pss_cons (ps_par rfl sc__law_all_parts.nd (i := 2) (j := 3) rfl rfl (by decide) rfl rfl (pa_cons (pe_lst (pa_cons (pe_tup (pa_cons (pe_tup pa_nil) (pa_cons (pv 0) pa_nil))) pa_nil)) (pa_cons (pd_pos d__law_kids hG hr (by omega) (by rfl) (pa_cons (pv 0) pa_nil)) pa_nil)) rfl)
  (pss_cons (ps_for PassesOwn.never rfl (pi_range1 (by rfl) Z.range_ (pa_cons (pe_callB (show CallR _ _ (rLen K) from c_len) (by rfl) Z.len_ (by decide +kernel) (pa_cons (pv 3) pa_nil)) pa_nil)) (pg_name (i := 1) sc__law_all_parts.nd rfl (by first | exact Or.inl rfl | exact Or.inr rfl))
  (pss_one (ps_set (i := 2) sc__law_all_parts.nd rfl (by first | exact Or.inl rfl | exact Or.inr rfl) (pe_op op_cat (pv 2) (pe_lc (own := [("way", 4), ("piece", 5)]) (tt := tYes) rfl sc__law_all_parts.nd (pi_list (pd_pos d__law_all_parts hG hr (by omega) (by rfl) (pa_cons (pe_ix (show IxR _ (rIxT K) from ix_tup) (pv 0) (pe_ix (show IxR _ (rIxT K) from ix_tup) (pv 3) (pv 1) (fun _ _ => rfl)) (fun _ _ => rfl)) pa_nil))) (blkOk_by (N := ["thing", "k", "found", "kids", "way", "piece"]) (sc := defScope s__law_all_parts) (by decide +kernel)) (fun _ _ _ _ _ => (by (refine (show PG _ _ (gTup K 2 (gCons (gName 4) (gCons (gName 5) gNil))) from ?_); refine pg_tup rfl (pgs_cons ?_ (pgs_cons ?_ pgs_nil)); exact (pg_name (i := 4) sc__law_all_parts.nd rfl (by first | exact Or.inl rfl | exact Or.inr rfl)); exact (pg_name (i := 5) sc__law_all_parts.nd rfl (by first | exact Or.inl rfl | exact Or.inr rfl))))) (fun _ _ _ _ _ => pts_nil) (fun _ _ _ _ _ => (pe_tup (pa_cons (pe_op (show OpR _ _ (rCatA K) from op_catA) (pe_tup (pa_cons (pv 1) pa_nil)) (pv 4)) (pa_cons (pv 5) pa_nil)))))))))
  (pss_one (ps_ret (pv 2))))), ?_⟩
    obtain ⟨a, hd, ks, rfl, ha, hl, hk, hlen, make⟩ := ht.view
    have lk : t.kids.length ≤ 2 := by cases t <;> simp [Tx.kids]
    walk_at "r"
    refine r_par ?_
    walk_at "r"
    refine ⟨by show 0 ≤ sizeLine; decide, fun T0 hT0 => ?_⟩
    have s0 := Same.upd_new (o := .tup []) hT0
    have g0 : (upd H T0 (.tup [])) T0 = some (.tup []) := upd_same
    generalize upd H T0 (.tup []) = H1 at s0 g0 ⊢
    walk_at "r"
    refine ⟨by show 2 ≤ sizeLine; decide, fun T1 hT1 => ?_⟩
    have s1 := Same.upd_new (o := .tup [.ref T0, .ref a]) hT1
    have g1 : (upd H1 T1 (.tup [.ref T0, .ref a])) T1 = some (.tup [.ref T0, .ref a]) := upd_same
    generalize upd H1 T1 (.tup [.ref T0, .ref a]) = H2 at s1 g1 ⊢
    walk_at "r"
    refine ⟨by show 1 ≤ sizeLine; decide, fun L hL => ?_⟩
    have hL0 := (s0.trans s1).free hL
    have s2 := Same.upd_new (o := .lst [.ref T1]) hL
    have g2 : (upd H2 L (.lst [.ref T1])) L = some (.lst [.ref T1]) := upd_same
    generalize upd H2 L (.lst [.ref T1]) = H3 at s2 g2 ⊢
    have s03 := (s0.trans s1).trans s2
    walk_at "r"
    refine ⟨_, t, rfl, ht.same s03, fun H4 q s4 hq => ?_⟩
    refine ⟨_, _, rfl, ?_⟩
    have s04 := s03.trans s4
    walk_at "r"
    with_reducible refine r_for ?_
    walk_at "r"
    refine r_lenT (SqT.of hq) ?_
    rw [ixs_len]
    walk_at "r"
    refine ⟨_, rfl, by omega, by omega, ?_⟩
    rw [Int.toNat_natCast]
    have hk4 := hk.same s04
    have np := nodes_pos t
    refine for_range (fun i σ A => ∃ (M : Addr) (ls : List V) (ps : List PT) (a1 a4 a5 : Option V), σ = [some (.ref a), a1, some (.ref M), some (.ref q), a4, a5] ∧ Same H4 A ∧ H M = none ∧ A M = some (.lst ls) ∧ PathsIn A A ps ls ∧ ps.length = 1 + ((t.kids.take i).map Tx.nodes).sum ∧ ∀ p ∈ ps, t.follow p.1 = some p.2 ∧ p.1.length < t.nodes)
      ⟨L, _, [([], t)], _, _, _, rfl, Same.refl _, hL0, s4 _ _ g2, ⟨⟨T1, T0, _, rfl, (s2.trans s4) _ _ g1, (s1.trans (s2.trans s4)) _ _ g0, ht.same s04⟩, trivial⟩, by rw [List.take_zero]; rfl, fun p hp => by rw [List.mem_singleton.mp hp]; exact ⟨rfl, np⟩⟩ (fun i σ A hi p => ?_) (fun σ A p => ?_)
    · obtain ⟨M, ls, ps, a1, a4, a5, rfl, sA, hM, gM, hP, lP, fP⟩ := p
      have ikl : i < ks.length := by rw [← hk.len]; exact hi
      have hki : ks[i]? = some ks[i] := List.getElem?_eq_getElem ikl
      obtain ⟨k1, hk1, hat⟩ := hk4.get hki
      generalize ks[i] = y at hki hat
      have e1 := cut_at (x := V.str t.kind) (hd := hd) hki
      have lt2 : t.frm + i = (V.str t.kind :: (hd ++ ks.take i)).length := by
        rw [List.length_cons, List.length_append, List.length_take, Nat.min_eq_left (by omega)]
        omega
      have kn1 := kids_nodes hk1
      rw [Int.zero_add]
      walk_at "r"
      refine r_lc ?_
      refine r_il ?_
      walk_at "r"
      refine r_ixT (SqT.of (sA _ _ hq)) (atI_nat (ixs_at hi)) ?_
      walk_at "r"
      refine r_ixT (SqT.of ((s04.trans sA) _ _ ha)) (atI_nat (j := t.frm + i) (v := y) (by rw [e1, lt2, List.getElem?_append_right (Nat.le_refl _), Nat.sub_self]; rfl)) ?_
      walk_at "r"
      refine ⟨y, k1, rfl, hat.same sA, by omega, by omega, fun H5 l2 ls2 ps2 s5 hl2 gl2 hP2 lP2 fP2 => ?_⟩
      refine ⟨l2, rfl, ⟨_, SqL.of gl2⟩, fun D hD => ?_⟩
      refine it_list (xs := ls2) (fun j A' => Same H5 A' ∧ ∃ rs, A' D = some (.lst rs) ∧ PathsIn H5 A' ((ps2.take j).map fun p => (i :: p.1, p.2)) rs) ⟨Same.upd_new hD, [], upd_same, by rw [List.take_zero]; trivial⟩ (fun j A' _ p => SqL.of (p.1 _ _ gl2)) (fun j z A' hz p => ?_) (fun A' p => ?_)
      · obtain ⟨sA', rs, dA', hR⟩ := p
        obtain ⟨px, qx, wa, vx, hpx, rfl, gx, gw, atx⟩ := hP2.get hz
        have fpx := fP2 px (List.mem_of_getElem? hpx)
        have jl : j < ps2.length := (List.getElem?_eq_some_iff.mp hpx).1
        refine ⟨qx, _, rfl, SqT.of (sA' _ _ gx), rfl, _, _, rfl, _, _, rfl, rfl, ?_⟩
        refine ⟨rfl, ?_⟩
        walk_at "r"
        refine ⟨by show 1 ≤ sizeLine; decide, fun T2 hT2 => ?_⟩
        have sT2 := Same.upd_new (o := .tup [.int (i : Nat)]) hT2
        have gT2 : (upd A' T2 (.tup [.int (i : Nat)])) T2 = some (.tup [.int (i : Nat)]) := upd_same
        generalize upd A' T2 (.tup [.int (i : Nat)]) = B1 at sT2 gT2 ⊢
        walk_at "r"
        refine r_cat gT2 (sT2 _ _ (sA' _ _ gw)) (by unfold wsV; rw [List.length_singleton, List.length_map, List.length_map]; omega) fun p3 B2 s6 hp3 => ?_
        walk_at "r"
        refine ⟨by show 2 ≤ sizeLine; decide, fun T3 hT3 => ?_⟩
        have sT3 := Same.upd_new (o := .tup [.ref p3, vx]) hT3
        have gT3 : (upd B2 T3 (.tup [.ref p3, vx])) T3 = some (.tup [.ref p3, vx]) := upd_same
        generalize upd B2 T3 (.tup [.ref p3, vx]) = B3 at sT3 gT3 ⊢
        have s13 := (sT2.trans s6).trans sT3
        have dB3 := s13 _ _ dA'
        have rl : rs.length ≤ 1000 := by
          rw [← hR.len, List.length_map, List.length_take]
          omega
        refine ⟨rs, dB3, by rw [sizeLine_eq]; omega, Same.over (sA'.trans s13) hD, rs ++ [.ref T3], upd_same, ?_⟩
        rw [take_next hpx, List.map_append]
        have nD : ∀ q xs, B3 q = some (.tup xs) → (upd B3 D (.lst (rs ++ [.ref T3]))) q = some (.tup xs) := fun q xs e => by
          rw [upd_ne (ne_of e dB3 (by intro z; cases z))]
          exact e
        exact PathsIn.append (hR.keep fun q xs e => nD q xs (s13 _ _ e)) ⟨⟨T3, p3, vx, rfl, nD _ _ gT3, nD _ _ (sT3 _ _ hp3), atx⟩, trivial⟩
      · obtain ⟨sA', rs, dA', hR⟩ := p
        rw [← hP2.len, List.take_length] at hR
        have s5A := s5.trans sA'
        have tn2 := take_nodes t i
        have tn3 := t.nodes_kids
        refine ⟨M, D, ls, rs, rfl, rfl, s5A _ _ gM, dA', ?_, fun M2 hM2 => ?_⟩
        · rw [← hP.len, ← hR.len, List.length_map, lP, lP2, sizeLine_eq]
          omega
        · have sF := Same.upd_new (o := .lst (ls ++ rs)) hM2
          have sAll := s5A.trans sF
          refine ⟨M2, ls ++ rs, ps ++ ps2.map fun p => (i :: p.1, p.2), _, _, _, rfl, sA.trans sAll, (s04.trans (sA.trans s5A)).free hM2, upd_same, PathsIn.append (hP.same sAll) (PathsIn.same sF (hR.at sA')), ?_, ?_⟩
          · rw [List.length_append, List.length_map, lP, lP2, take_next hk1, List.map_append, List.sum_append]
            simp
            omega
          · intro p hp
            rcases List.mem_append.mp hp with h | h
            · exact fP p h
            · obtain ⟨p', hp', rfl⟩ := List.mem_map.mp h
              obtain ⟨f1, f2⟩ := fP2 p' hp'
              refine ⟨?_, by rw [List.length_cons]; omega⟩
              simp only [Tx.follow, hk1]
              exact f1
    · obtain ⟨M, ls, ps, a1, a4, a5, rfl, sA, hM, gM, hP, lP, fP⟩ := p
      walk_at "r"
      rw [List.take_length] at lP
      have tn3 := t.nodes_kids
      exact k A M ls ps (s04.trans sA) hM gM hP (by omega) fP
end
end Eld
set_option Elab.async false
set_option maxRecDepth 100000
set_option maxHeartbeats 4000000
set_option linter.all false
namespace Eld
open PySem L2
local macro_rules | `(tactic| walk_at "r1") => `(tactic| with_reducible first
  | refine r_seq ?_ | refine r_asgN ?_ | refine r_asg ?_ | refine r_gname ?_ | refine r_gsub ?_ | refine r_var rfl ?_ | refine r_c ?_ | refine r_op ?_ | refine r_un ?_ | refine r_u ?_ | refine r_i0 ?_ | refine r_cb ?_ | refine r_cons ?_ | refine r_nil ?_ | refine r_cl ?_ | refine r_fn rfl rfl ?_ | refine r_mt ?_
  | refine r_test ?_ | refine r_tb ?_ | refine r_bl ?_ | refine r_and ?_ | refine r_or ?_ | refine r_not ?_ | refine r_andV ?_ | refine r_orV ?_ | refine r_notV ?_ | refine r_ifX ?_ | refine r_ifs ?_ | refine r_chain ?_ | refine r_ret ?_ | refine r_next ?_ | refine r_drop ?_ | refine iteT ?_ | refine iteF ?_ | refine iteNT ?_ | refine iteNF ?_
  | refine r_int1 ?_ | refine r_boolB ?_ | refine r_eqI ?_ | refine r_neI ?_ | refine r_eqB ?_ | refine r_neB ?_ | refine r_eqS ?_ | refine r_neS ?_ | refine r_abs ?_ | refine r_max2 ?_ | refine r_min2 ?_ | refine r_yes ?_ | refine r_tup ?_ | refine r_sfld ?_ | refine r_m0 ?_ | refine r_m1 ?_ | refine r_lst ?_ | refine r_rng1 ?_ | refine r_rng2 ?_ | refine r_ixL (SqL.of (by assumption)) rfl ?_)
local macro_rules | `(tactic| walk_at "r") => `(tactic| repeat (first | walk_at "r1" | ((with_reducible refine r_var ?hv ?_); (case hv => rfl))))

/-! ## a pile of leaves and loops -/
/-- a leaf or a hole -/
structure Lf (zs : List Int) (t : Tx) : Prop where
  good : t.good zs ((allRows zs).length : Nat) = true
  parts : t.parts = 1
  depth : t.depth = 0
  nodes : t.nodes = 1
  dd : t.data.depth ≤ 2
theorem Tx.data_lay : ∀ t : Tx, t.data.canLay0 = true
  | .skip => by simp [Tx.data, PyData.canLay0, PyData.canLayAll0]; decide +kernel
  | .hole => by simp [Tx.data, PyData.canLay0, PyData.canLayAll0]; decide +kernel
  | .set n r => by
    have : r.data.canLay0 = true := by unfold Row.data intsD; split <;> simp [PyData.canLay0, ints_lay]
    simp [Tx.data, PyData.canLay0, PyData.canLayAll0, this]; decide +kernel
  | .draw n p q x y => by simp [Tx.data, PyData.canLay0, PyData.canLayAll0]; decide +kernel
  | .thn a b => by simp [Tx.data, PyData.canLay0, PyData.canLayAll0, a.data_lay, b.data_lay]; decide +kernel
  | .iff s a b => by
    have : s.data.canLay0 = true := by unfold Row.data intsD; split <;> simp [PyData.canLay0, ints_lay]
    simp [Tx.data, PyData.canLay0, PyData.canLayAll0, a.data_lay, b.data_lay, this]; decide +kernel
  | .eith a b => by simp [Tx.data, PyData.canLay0, PyData.canLayAll0, a.data_lay, b.data_lay]; decide +kernel
  | .whil s a => by
    have : s.data.canLay0 = true := by unfold Row.data intsD; split <;> simp [PyData.canLay0, ints_lay]
    simp [Tx.data, PyData.canLay0, PyData.canLayAll0, a.data_lay, this]; decide +kernel
theorem datas_lay : ∀ ts : List Tx, PyData.canLayAll0 (ts.map Tx.data) = true
  | [] => by simp [PyData.canLayAll0]
  | t :: ts => by simp [PyData.canLayAll0, t.data_lay, datas_lay ts]
theorem datas_depth {n : Nat} : ∀ ts : List Tx, (∀ t ∈ ts, t.data.depth ≤ n) → PyData.depthAll (ts.map Tx.data) ≤ n
  | [], _ => by simp [PyData.depthAll]
  | t :: ts, h => by
    have h1 := h t (List.mem_cons_self ..)
    have h2 := datas_depth ts fun x hx => h x (List.mem_cons_of_mem _ hx)
    simp only [List.map_cons, PyData.depthAll]
    omega
theorem KidsAt.dp {K : PySem.W.Frag} {H : Hp} : ∀ {ts : List Tx} {vs : List V}, KidsAt H ts vs → DpAll K H vs (ts.map Tx.data)
  | [], [], _ => .nil
  | _ :: _, _ :: _, h => .cons (Dt.dp _ _ h.1.dt) (KidsAt.dp h.2)
  | [], _ :: _, h => h.elim
  | _ :: _, [], h => h.elim
theorem KidsAt.but {H H' : Hp} {b : Addr} {n : Nat} (hb : BoxAt H b n) (s : But b H H') : ∀ {ts : List Tx} {vs : List V}, KidsAt H ts vs → KidsAt H' ts vs
  | [], [], _ => trivial
  | _ :: _, _ :: _, h => ⟨h.1.but hb s, KidsAt.but hb s h.2⟩
  | [], _ :: _, h => h.elim
  | _ :: _, [], h => h.elim
theorem r_eqNil {K : PySem.W.Frag} {H : Hp} {Q : VK} {R N : Addr} {ts : List Tx} {vs : List V} {zs : List Int} (hR : H R = some (.lst vs)) (hk : KidsAt H ts vs) (hl : ∀ t ∈ ts, Lf zs t) (hN : H N = some (.lst [])) (k : Q (.bl ts.isEmpty) H) : rEqD K (.ref R) (.ref N) H Q := by
  refine ⟨.list (ts.map Tx.data), .list [], .lst (SqL.of hR) hk.dp, .lst (SqL.of hN) .nil, ?_, by simp [SeqAt.shaped, PyData.canLay0, PyData.canLayAll0, PyData.depth, PyData.depthAll], ?_⟩
  · have h1 := datas_lay ts
    have h2 := datas_depth (n := 2) ts fun t ht => (hl t ht).dd
    simp only [SeqAt.shaped, Bool.and_eq_true, decide_eq_true_eq]
    exact ⟨by simp only [PyData.canLay0]; exact h1, by simp only [PyData.depth]; omega⟩
  · have e : PyData.eqv (.list (ts.map Tx.data)) (.list []) = ts.isEmpty := by cases ts <;> simp [PyData.eqv, PyData.eqvAll]
    rw [e]
    exact k
theorem cut_tail {xs : List V} : cutV xs (some 1) none = xs.tail := by
  unfold cutV
  rw [HT.sIx_none, show (some (1 : Int)) = some ((1 : Nat) : Int) from rfl, HT.sIx_nat]
  cases xs with
  | nil => rfl
  | cons x xs =>
    rw [List.length_cons, Nat.min_eq_left (by omega), List.drop_succ_cons, List.drop_zero]
    exact List.take_of_length_le (by omega)
theorem r_par3 {i j l : Nat} {ta : TA} {D : Ends} {σ : L2.St} {H : Hp} (h : ta σ H fun vs H1 => ∃ u v w, vs = [u, v, w] ∧ D.nx (((σ.set i (some u)).set j (some v)).set l (some w)) H1) : tPar3 i j l ta D σ H := h
/-- what a pile is -/
structure Pile (zs : List Int) (ts : List Tx) (loops : Nat) (t : Tx) : Prop where
  good : t.good zs ((allRows zs).length : Nat) = true
  parts : t.parts = ts.length + loops
  holes : t.holes = (ts.map Tx.holes).sum
  depth : t.depth ≤ loops
  nodes : t.nodes + 1 = 2 * ts.length + loops
  dd : t.data.depth ≤ ts.length + loops + 1
/-- a pile under way: what is there, what is left -/
structure Mid (zs : List Int) (ts : List Tx) (loops : Nat) (t : Tx) (tsr : List Tx) (left i : Nat) : Prop where
  lf : ∀ u ∈ tsr, Lf zs u
  cnt : tsr.length + left + i + 1 = ts.length + loops
  good : t.good zs ((allRows zs).length : Nat) = true
  parts : t.parts + tsr.length + left = ts.length + loops
  holes : t.holes + (tsr.map Tx.holes).sum = (ts.map Tx.holes).sum
  depth : t.depth + left ≤ loops
  nodes : t.nodes + 2 * tsr.length + left + 1 = 2 * ts.length + loops
  dd : max 2 t.data.depth + tsr.length + left ≤ ts.length + loops + 1
theorem Mid.loop {zs : List Int} {ts tsr : List Tx} {loops left i : Nat} {t : Tx} (m : Mid zs ts loops t tsr (left + 1) i) {r : Row} (hr : setB r.vals ((allRows zs).length : Nat) = true) : Mid zs ts loops (.whil r t) tsr left (i + 1) := by
  obtain ⟨h1, h2, h3, h4, h5, h6, h7, h8⟩ := m
  refine ⟨h1, by omega, ?_, ?_, h5, ?_, ?_, ?_⟩
  · simp only [Tx.good, hr, h3, Bool.and_self]
  · simp only [Tx.parts]; omega
  · simp only [Tx.depth]; omega
  · simp only [Tx.nodes]; omega
  · have := r.data_depth
    have e : (Tx.whil r t).data.depth = max 1 t.data.depth + 1 := by simp [Tx.data, PyData.depth, PyData.depthAll, this]
    have : 1 ≤ t.data.depth := by cases t <;> simp [Tx.data, PyData.depth]
    rw [e]
    omega
theorem Tx.dd1 (t : Tx) : 1 ≤ t.data.depth := by cases t <;> simp [Tx.data, PyData.depth]
theorem Mid.then1 {zs : List Int} {ts tsr : List Tx} {loops left i : Nat} {t u : Tx} (m : Mid zs ts loops t (u :: tsr) left i) : Mid zs ts loops (.thn t u) tsr left (i + 1) := by
  obtain ⟨h1, h2, h3, h4, h5, h6, h7, h8⟩ := m
  obtain ⟨u1, u2, u3, u4, u5⟩ := h1 u (List.mem_cons_self ..)
  rw [List.length_cons] at h2 h4 h7 h8
  rw [List.map_cons, List.sum_cons] at h5
  refine ⟨fun x hx => h1 x (List.mem_cons_of_mem _ hx), by omega, ?_, ?_, ?_, ?_, ?_, ?_⟩
  · simp only [Tx.good, u1, h3, Bool.and_self]
  · simp only [Tx.parts]; omega
  · simp only [Tx.holes]; omega
  · simp only [Tx.depth]; omega
  · simp only [Tx.nodes]; omega
  · have e : (Tx.thn t u).data.depth = max t.data.depth u.data.depth + 1 := by simp [Tx.data, PyData.depth, PyData.depthAll]
    have := t.dd1
    rw [e]
    omega
theorem Mid.then2 {zs : List Int} {ts tsr : List Tx} {loops left i : Nat} {t u : Tx} (m : Mid zs ts loops t (u :: tsr) left i) : Mid zs ts loops (.thn u t) tsr left (i + 1) := by
  obtain ⟨h1, h2, h3, h4, h5, h6, h7, h8⟩ := m
  obtain ⟨u1, u2, u3, u4, u5⟩ := h1 u (List.mem_cons_self ..)
  rw [List.length_cons] at h2 h4 h7 h8
  rw [List.map_cons, List.sum_cons] at h5
  refine ⟨fun x hx => h1 x (List.mem_cons_of_mem _ hx), by omega, ?_, ?_, ?_, ?_, ?_, ?_⟩
  · simp only [Tx.good, u1, h3, Bool.and_self]
  · simp only [Tx.parts]; omega
  · simp only [Tx.holes]; omega
  · simp only [Tx.depth]; omega
  · simp only [Tx.nodes]; omega
  · have e : (Tx.thn u t).data.depth = max u.data.depth t.data.depth + 1 := by simp [Tx.data, PyData.depth, PyData.depthAll]
    have := t.dd1
    rw [e]
    omega
def spPile : Sp := fun vs H Q _ => ∃ (b : Addr) (n : Nat) (a l : Addr) (zs : List Int) (ls : List V) (ts : List Tx) (loops : Nat), vs = [.ref b, .ref a, .ref l, .int (loops : Nat)] ∧ zs ∈ menu ∧ BoxAt H b n ∧ n < 1800000 ∧ H a = some (.lst (zs.map V.int)) ∧ a ≠ b ∧ H l = some (.lst ls) ∧ KidsAt H ts ls ∧ (∀ t ∈ ts, Lf zs t) ∧ 1 ≤ ts.length ∧ ts.length + loops ≤ 100 ∧
  ∀ t H' v, Pile zs ts loops t → BoxAt H' b (n + 2200) → But b H H' → Tx.At H' t v → Q v H'
section
variable {P : Program} {w : World} {K : PySem.W.Frag} {mg : Str → Option Value} {base : Heap}
theorem ok_pile {f : Addr} {fd : FuncData} (F : Fun K "_law_pile" "_law_pile" s__law_pile f fd) (Z : Zs mg) (d__law_take : DefD P w K mg base 1 "_law_take" 2 [] byPlace spTake) (d__law_guard : DefD P w K mg base 3 "_law_guard" 2 [] byPlace spGuard) : FnG P w K mg base CX0 4 f fd ["box", "widths", "leaves", "loops"] spPile := by
  refine okG F sc__law_pile (fun vs H Q E h => ?_) (fun cdv B up z H vs Q E hG hr h => ?_)
  · obtain ⟨b, n, a, l, zs, ls, ts, loops, rfl, _⟩ := h
    rfl
  obtain ⟨b, n, a, l, zs, ls, ts, loops, rfl, hz, hb, hn, ha, nab, hl, hk, hlf, h1, h40, k⟩ := h
  have hu : (B.deeper (PyProof.Rows.envOfC "_law_pile" (defScope s__law_pile) z.heap.objs.size f cdv)).units + 64 < cLine := hr.units
  refine ⟨_, (pss_cons (ps_par3 rfl sc__law_pile.nd (i := 5) (j := 6) (l := 7) rfl rfl rfl (by decide) (by decide) (by decide) rfl rfl rfl (pa_cons (pe_ix (show IxR _ (rIxL K) from ix_list) (pv 2) pe_int (fun _ _ => rfl)) (pa_cons (pe_slice (show SlR _ (rSlL K) from sl_list) (pv 2) (po_some pe_int) po_none) (pa_cons (pv 3) pa_nil))) rfl)
  (pss_cons (ps_for PassesOwn.never rfl (pi_range1 (by rfl) Z.range_ (pa_cons (pe_op op_add (pe_op op_sub (pe_callB (show CallR _ _ (rLen K) from c_len) (by rfl) Z.len_ (by decide +kernel) (pa_cons (pv 2) pa_nil)) pe_int) (pv 3)) pa_nil)) (pg_name (i := 4) sc__law_pile.nd rfl (by first | exact Or.inl rfl | exact Or.inr rfl))
  (pss_one (ps_if (PW.pt (pw_or (pt_cmpR (show OpR _ _ (rEqD K) from op_eqD hu) (pv 6) (pe_lst pa_nil) (nomark _)) (pw_or1 (pt_cmpR op_lt (pd_pos d__law_take hG hr (by decide) (by rfl) (pa_cons (pv 0) (pa_cons (pe_op op_add (pe_callB (show CallR _ _ (rLen K) from c_len) (by rfl) Z.len_ (by decide +kernel) (pa_cons (pv 6) pa_nil)) (pv 7)) pa_nil))) (pv 7) (nomark _))))) (pss_one (ps_par rfl sc__law_pile.nd (i := 5) (j := 7) rfl rfl (by decide) rfl rfl (pa_cons (pe_tup (pa_cons pe_str (pa_cons (pd_pos d__law_guard hG hr (by decide) (by rfl) (pa_cons (pv 0) (pa_cons (pv 1) pa_nil))) (pa_cons (pv 5) pa_nil)))) (pa_cons (pe_op op_sub (pv 7) pe_int) pa_nil)) rfl)) (pss_cons (ps_set (i := 5) sc__law_pile.nd rfl (by first | exact Or.inl rfl | exact Or.inr rfl) (pe_ifExp (pt_cmpR op_eq (pd_pos d__law_take hG hr (by decide) (by rfl) (pa_cons (pv 0) (pa_cons pe_int pa_nil))) pe_int (nomark _)) (pe_tup (pa_cons pe_str (pa_cons (pv 5) (pa_cons (pe_ix (show IxR _ (rIxL K) from ix_list) (pv 6) pe_int (fun _ _ => rfl)) pa_nil)))) (pe_tup (pa_cons pe_str (pa_cons (pe_ix (show IxR _ (rIxL K) from ix_list) (pv 6) pe_int (fun _ _ => rfl)) (pa_cons (pv 5) pa_nil))))))
  (pss_one (ps_set (i := 6) sc__law_pile.nd rfl (by first | exact Or.inl rfl | exact Or.inr rfl) (pe_slice (show SlR _ (rSlL K) from sl_list) (pv 6) (po_some pe_int) po_none)))))))
  (pss_one (ps_ret (pv 5))))), ?_⟩
  obtain ⟨t0, tr, rfl⟩ : ∃ t0 tr, ts = t0 :: tr := by
    cases ts with
    | nil => simp at h1
    | cons t0 tr => exact ⟨t0, tr, rfl⟩
  cases ls with
  | nil => exact hk.elim
  | cons v0 vr =>
    walk_at "r"
    refine r_par3 ?_
    walk_at "r"
    refine r_ixL (SqL.of hl) (atI_nat (j := 0) rfl) ?_
    walk_at "r"
    refine r_sl ?_
    walk_at "r"
    refine r_pt ?_
    walk_at "r"
    refine ⟨1, rfl, ?_⟩
    refine r_pn ?_
    refine ⟨l, _, rfl, SqL.of hl, fun R hR => ?_⟩
    rw [cut_tail, List.tail_cons]
    have sR := Same.upd_new (o := .lst vr) hR
    have gR : (upd H R (.lst vr)) R = some (.lst vr) := upd_same
    generalize upd H R (.lst vr) = H1 at sR gR ⊢
    walk_at "r"
    refine ⟨_, _, _, rfl, ?_⟩
    have s2 := sR
    walk_at "r"
    with_reducible refine r_for ?_
    walk_at "r"
    refine r_lenL (SqL.of (s2 _ _ hl)) ?_
    walk_at "r"
    have etn : (((((v0 :: vr).length : Nat) : Int) - 1 + ((loops : Nat) : Int))).toNat = tr.length + loops := by
      have := hk.len
      rw [List.length_cons, List.length_cons] at this
      rw [List.length_cons]
      omega
    have lts : (t0 :: tr).length = tr.length + 1 := List.length_cons
    have lvr : (v0 :: vr).length = tr.length + 1 := by rw [← hk.len]; exact lts
    obtain ⟨f1, f2, f3, f4, f5⟩ := hlf t0 (List.mem_cons_self ..)
    refine ⟨_, rfl, by omega, by omega, ?_⟩
    rw [etn]
    refine for_range (fun i σ A => ∃ (t : Tx) (v : V) (Rr : Addr) (rs : List V) (tsr : List Tx) (left : Nat) (a4 : Option V), σ = [some (.ref b), some (.ref a), some (.ref l), some (.int (loops : Nat)), a4, some v, some (.ref Rr), some (.int (left : Nat))] ∧ But b H A ∧ BoxAt A b (n + 22 * i) ∧ A Rr = some (.lst rs) ∧ Rr ≠ b ∧ KidsAt A tsr rs ∧ Tx.At A t v ∧ Mid zs (t0 :: tr) loops t tsr left i)
      ⟨t0, v0, R, vr, tr, loops, _, rfl, But.of sR, hb.same sR, gR, hb.off hR, hk.2.same sR, hk.1.same sR, ⟨fun u hu => hlf u (List.mem_cons_of_mem _ hu), by omega, f1, by omega, by rw [List.map_cons, List.sum_cons], by omega, by omega, by omega⟩⟩ (fun i σ A hi p => ?_) (fun σ A p => ?_)
    · obtain ⟨t, v, Rr, rs, tsr, left, a4, rfl, bH0, bx0, gR0, nR, hkA0, hat0, hm⟩ := p
      walk_at "r"
      refine ⟨by show 0 ≤ sizeLine; decide, fun N hN => ?_⟩
      have sN := Same.upd_new (o := .lst []) hN
      have gN : (upd A N (.lst [])) N = some (.lst []) := upd_same
      have bH1 := bH0.trans (But.of sN)
      generalize upd A N (.lst []) = A1 at sN gN bH1 ⊢
      refine r_eqNil (sN _ _ gR0) (hkA0.same sN) hm.lf gN ?_
      cases tsr with
      | nil =>
        rw [show ([] : List Tx).isEmpty = true from rfl]
        walk_at "r"
        have cnt := hm.cnt
        rw [List.length_nil] at cnt
        cases left with
        | zero => omega
        | succ left =>
          have bxA := bx0.same sN
          have bH := bH1
          have gRA := sN _ _ gR0
          have hkA := hkA0.same sN
          have hatA := hat0.same sN
          generalize tsrE : ([] : List Tx) = tsr at hm hkA
          refine r_par ?_
          walk_at "r"
          refine ⟨b, _, a, zs, rfl, hz, bxA, by omega, bH _ _ nab ha, fun r A2 c hs bx2 but2 hc => ?_⟩
          walk_at "r"
          refine ⟨by show 3 ≤ sizeLine; decide, fun T2 hT2 => ?_⟩
          have sT2 := Same.upd_new (o := .tup [.str "while", .ref c, v]) hT2
          have gT2 : (upd A2 T2 (.tup [.str "while", .ref c, v])) T2 = some (.tup [.str "while", .ref c, v]) := upd_same
          generalize upd A2 T2 (.tup [.str "while", .ref c, v]) = A3 at sT2 gT2 ⊢
          walk_at "r"
          rw [show (((left + 1 : Nat) : Int) - 1) = ((left : Nat) : Int) by omega]
          refine ⟨_, _, rfl, ?_⟩
          have but3 := but2.trans (But.of sT2)
          exact ⟨.whil r t, .ref T2, Rr, rs, tsr, left, _, rfl, bH.trans but3, (bx2.same sT2).mono (by omega), but3 _ _ nR gRA, nR, hkA.but bxA but3, ⟨T2, .ref c, v, rfl, gT2, ⟨c, rfl, sT2 _ _ hc⟩, hatA.but bxA but3⟩, hm.loop hs⟩
      | cons u tsr =>
        rw [show (u :: tsr).isEmpty = false from rfl]
        walk_at "r"
        have lrs := hkA0.len
        refine r_lenL (SqL.of (sN _ _ gR0)) ?_
        rw [← lrs]
        walk_at "r"
        have cnt := hm.cnt
        rw [List.length_cons] at cnt
        refine ⟨b, _, _, rfl, bx0.same sN, by omega, by rw [List.length_cons]; omega, by rw [List.length_cons]; omega, fun r0 A1' r00 r01 bxT butT => ?_⟩
        have bH := bH1.trans butT
        have bxA := bxT
        have gRA := butT _ _ nR (sN _ _ gR0)
        have hkA := (hkA0.same sN).but (bx0.same sN) butT
        have hatA := (hat0.same sN).but (bx0.same sN) butT
        generalize hA1 : A1' = A1 at bH bxA gRA hkA hatA bxT butT ⊢
        walk_at "r"
        by_cases c : r0 < ((left : Nat) : Int)
        · rw [decide_eq_true c]
          walk_at "r"
          cases left with
          | zero => omega
          | succ left =>
            generalize tsrE : u :: tsr = tsr at hm hkA
            refine r_par ?_
            walk_at "r"
            refine ⟨b, _, a, zs, rfl, hz, bxA, by omega, bH _ _ nab ha, fun r A2 c hs bx2 but2 hc => ?_⟩
            walk_at "r"
            refine ⟨by show 3 ≤ sizeLine; decide, fun T2 hT2 => ?_⟩
            have sT2 := Same.upd_new (o := .tup [.str "while", .ref c, v]) hT2
            have gT2 : (upd A2 T2 (.tup [.str "while", .ref c, v])) T2 = some (.tup [.str "while", .ref c, v]) := upd_same
            generalize upd A2 T2 (.tup [.str "while", .ref c, v]) = A3 at sT2 gT2 ⊢
            walk_at "r"
            rw [show (((left + 1 : Nat) : Int) - 1) = ((left : Nat) : Int) by omega]
            refine ⟨_, _, rfl, ?_⟩
            have but3 := but2.trans (But.of sT2)
            exact ⟨.whil r t, .ref T2, Rr, rs, tsr, left, _, rfl, bH.trans but3, (bx2.same sT2).mono (by omega), but3 _ _ nR gRA, nR, hkA.but bxA but3, ⟨T2, .ref c, v, rfl, gT2, ⟨c, rfl, sT2 _ _ hc⟩, hatA.but bxA but3⟩, hm.loop hs⟩
        · rw [decide_eq_false c]
          walk_at "r"
          cases rs with
          | nil => exact hkA.elim
          | cons y rs =>
            refine ⟨b, 2, _, rfl, bxA, by omega, by decide, by decide, fun r1 A2 q0 q1 bx2 but2 => ?_⟩
            have bH2 := bH.trans but2
            have gR2 := but2 _ _ nR gRA
            have hk2 := hkA.but bxA but2
            have hat2 := hatA.but bxA but2
            walk_at "r"
            obtain rfl | rfl : r1 = 0 ∨ r1 = 1 := by omega
            · rw [decide_eq_true (show V.int 0 = V.int 0 from rfl)]
              walk_at "r"
              refine r_ixL (SqL.of gR2) (atI_nat (j := 0) rfl) ?_
              walk_at "r"
              refine ⟨by show 3 ≤ sizeLine; decide, fun T2 hT2 => ?_⟩
              have sT2 := Same.upd_new (o := .tup [.str "then", v, y]) hT2
              have gT2 : (upd A2 T2 (.tup [.str "then", v, y])) T2 = some (.tup [.str "then", v, y]) := upd_same
              generalize upd A2 T2 (.tup [.str "then", v, y]) = A3 at sT2 gT2 ⊢
              walk_at "r"
              refine r_sl ?_
              walk_at "r"
              refine r_pt ?_
              walk_at "r"
              refine ⟨1, rfl, ?_⟩
              refine r_pn ?_
              refine ⟨Rr, _, rfl, SqL.of (sT2 _ _ gR2), fun R2 hR2 => ?_⟩
              rw [cut_tail, List.tail_cons]
              have sR2 := Same.upd_new (o := .lst rs) hR2
              have s3 := sT2.trans sR2
              exact ⟨.thn t u, .ref T2, R2, rs, tsr, left, _, rfl, bH2.trans (But.of s3), (bx2.same s3).mono (by omega), upd_same, (bx2.same sT2).off hR2, hk2.2.same s3, ⟨T2, _, _, rfl, sR2 _ _ gT2, hat2.same s3, hk2.1.same s3⟩, hm.then1⟩
            · rw [decide_eq_false (show ¬ V.int 1 = V.int 0 by decide)]
              walk_at "r"
              refine r_ixL (SqL.of gR2) (atI_nat (j := 0) rfl) ?_
              walk_at "r"
              refine ⟨by show 3 ≤ sizeLine; decide, fun T2 hT2 => ?_⟩
              have sT2 := Same.upd_new (o := .tup [.str "then", y, v]) hT2
              have gT2 : (upd A2 T2 (.tup [.str "then", y, v])) T2 = some (.tup [.str "then", y, v]) := upd_same
              generalize upd A2 T2 (.tup [.str "then", y, v]) = A3 at sT2 gT2 ⊢
              walk_at "r"
              refine r_sl ?_
              walk_at "r"
              refine r_pt ?_
              walk_at "r"
              refine ⟨1, rfl, ?_⟩
              refine r_pn ?_
              refine ⟨Rr, _, rfl, SqL.of (sT2 _ _ gR2), fun R2 hR2 => ?_⟩
              rw [cut_tail, List.tail_cons]
              have sR2 := Same.upd_new (o := .lst rs) hR2
              have s3 := sT2.trans sR2
              exact ⟨.thn u t, .ref T2, R2, rs, tsr, left, _, rfl, bH2.trans (But.of s3), (bx2.same s3).mono (by omega), upd_same, (bx2.same sT2).off hR2, hk2.2.same s3, ⟨T2, _, _, rfl, sR2 _ _ gT2, hk2.1.same s3, hat2.same s3⟩, hm.then2⟩
    · obtain ⟨t, v, Rr, rs, tsr, left, a4, rfl, bH0, bx0, gR0, nR, hkA0, hat0, hm⟩ := p
      walk_at "r"
      have cnt := hm.cnt
      have e0 : tsr = [] := List.eq_nil_of_length_eq_zero (by omega)
      have e1 : left = 0 := by omega
      subst e0 e1
      obtain ⟨h1, h2, h3, h4, h5, h6, h7, h8⟩ := hm
      rw [List.length_nil] at h4 h7 h8
      exact k t A v ⟨h3, by omega, h5, by omega, by omega, by omega⟩ (bx0.mono (by omega)) bH0 hat0
end
end Eld
set_option Elab.async false
set_option maxRecDepth 100000
set_option maxHeartbeats 4000000
set_option linter.all false
namespace Eld
open PySem L2
local macro_rules | `(tactic| walk_at "r1") => `(tactic| with_reducible first
  | refine r_seq ?_ | refine r_asgN ?_ | refine r_asg ?_ | refine r_gname ?_ | refine r_gsub ?_ | refine r_var rfl ?_ | refine r_c ?_ | refine r_op ?_ | refine r_un ?_ | refine r_u ?_ | refine r_i0 ?_ | refine r_cb ?_ | refine r_cons ?_ | refine r_nil ?_ | refine r_cl ?_ | refine r_fn rfl rfl ?_ | refine r_mt ?_
  | refine r_test ?_ | refine r_tb ?_ | refine r_bl ?_ | refine r_and ?_ | refine r_or ?_ | refine r_not ?_ | refine r_andV ?_ | refine r_orV ?_ | refine r_notV ?_ | refine r_ifX ?_ | refine r_ifs ?_ | refine r_chain ?_ | refine r_ret ?_ | refine r_next ?_ | refine r_drop ?_ | refine iteT ?_ | refine iteF ?_ | refine iteNT ?_ | refine iteNF ?_
  | refine r_int1 ?_ | refine r_boolB ?_ | refine r_eqI ?_ | refine r_neI ?_ | refine r_eqB ?_ | refine r_neB ?_ | refine r_eqS ?_ | refine r_neS ?_ | refine r_abs ?_ | refine r_max2 ?_ | refine r_min2 ?_ | refine r_yes ?_ | refine r_tup ?_ | refine r_sfld ?_ | refine r_m0 ?_ | refine r_m1 ?_ | refine r_lst ?_ | refine r_rng1 ?_ | refine r_rng2 ?_ | refine r_ixL (SqL.of (by assumption)) rfl ?_)
local macro_rules | `(tactic| walk_at "r") => `(tactic| repeat (first | walk_at "r1" | ((with_reducible refine r_var ?hv ?_); (case hv => rfl))))

/-! ## texts of a size, surroundings -/
theorem Leaf.lf {zs : List Int} {t : Tx} (h : Leaf zs t) : Lf zs t := ⟨h.good, h.parts, h.depth, h.nodes, h.dd⟩
theorem Leaf.off {zs : List Int} {t : Tx} (hz : zs ∈ menu) (h : Leaf zs t) {A : Hp} {D : Addr} {o : HO} {vs : List V} {v : V} (hat : Tx.At A t v) (hD : A D = some (.lst vs)) (hr : ∀ x ∈ vs, ∃ q, x = V.ref q) : Tx.At (upd A D o) t v := by
  have tp : ∀ {a : Addr} {xs : List V}, A a = some (.tup xs) → (upd A D o) a = some (.tup xs) := fun {a xs} e => by
    rw [upd_ne (ne_of e hD (by intro z; cases z))]
    exact e
  cases t with
  | skip => obtain ⟨a, e, g⟩ := hat; exact ⟨a, e, tp g⟩
  | hole => obtain ⟨a, e, g⟩ := hat; exact ⟨a, e, tp g⟩
  | draw n p q x y => obtain ⟨a, c, d, e, g, gc, gd⟩ := hat; exact ⟨a, c, d, e, tp g, tp gc, tp gd⟩
  | set n r =>
    obtain ⟨a, c, e, g, q, eq, gq⟩ := hat
    refine ⟨a, c, e, tp g, q, eq, ?_⟩
    have ne : q ≠ D := by
      rintro rfl
      rw [hD] at gq
      have hg := h.good
      simp only [Tx.good, Tx.own, Bool.and_eq_true, decide_eq_true_eq] at hg
      have h2 := (menu_stores zs hz).2.1
      unfold Row.obj at gq
      split at gq
      · cases gq
      · cases gq
        cases hv : r.vals with
        | nil => rw [hv] at hg; simp at hg; omega
        | cons x xs =>
          obtain ⟨q2, e2⟩ := hr (V.int x) (by rw [hv]; exact List.mem_cons_self ..)
          cases e2
    rw [upd_ne ne]
    exact gq
  | thn a b => have := h.nodes; simp only [Tx.nodes] at this; have := nodes_pos a; omega
  | iff s a b => have := h.nodes; simp only [Tx.nodes] at this; have := nodes_pos a; omega
  | eith a b => have := h.nodes; simp only [Tx.nodes] at this; have := nodes_pos a; omega
  | whil s a => have := h.nodes; simp only [Tx.nodes] at this; have := nodes_pos a; omega
theorem leaves_off {zs : List Int} (hz : zs ∈ menu) {A : Hp} {D : Addr} {o : HO} {vs : List V} (hD : A D = some (.lst vs)) (hr : ∀ x ∈ vs, ∃ q, x = V.ref q) : ∀ {ts : List Tx} {ws : List V}, (∀ t ∈ ts, Leaf zs t) → KidsAt A ts ws → KidsAt (upd A D o) ts ws
  | [], [], _, _ => trivial
  | t :: ts, w :: ws, h, k => ⟨Leaf.off hz (h t (List.mem_cons_self ..)) k.1 hD hr, leaves_off hz hD hr (fun x hx => h x (List.mem_cons_of_mem _ hx)) k.2⟩
  | [], _ :: _, _, h => h.elim
  | _ :: _, [], _, h => h.elim
theorem Tx.At.isRef {H : Hp} {t : Tx} {v : V} (h : Tx.At H t v) : ∃ q, v = V.ref q := by
  obtain ⟨a, _, _, e, _⟩ := h.view
  exact ⟨a, e⟩
theorem KidsAt.refs {H : Hp} : ∀ {ts : List Tx} {vs : List V}, KidsAt H ts vs → ∀ x ∈ vs, ∃ q, x = V.ref q
  | [], [], _ => fun x hx => (by cases hx)
  | _ :: _, _ :: _, h => fun x hx => (List.mem_cons.mp hx).elim (fun e => e ▸ h.1.isRef) fun e => KidsAt.refs h.2 x e
  | [], _ :: _, h => h.elim
  | _ :: _, [], h => h.elim
theorem holes_0 {zs : List Int} : ∀ {ts : List Tx}, (∀ t ∈ ts, Leaf zs t) → (ts.map Tx.holes).sum = 0
  | [], _ => rfl
  | t :: ts, h => by rw [List.map_cons, List.sum_cons, (h t (List.mem_cons_self ..)).holes, holes_0 fun x hx => h x (List.mem_cons_of_mem _ hx)]
/-- a text of a size -/
structure Sized (zs : List Int) (many : Nat) (t : Tx) : Prop where
  good : t.good zs ((allRows zs).length : Nat) = true
  parts : t.parts = many
  holes : t.holes = 0
  depth : t.depth ≤ 4
  nodes : t.nodes ≤ 2 * many
  dd : t.data.depth ≤ many + 1
def spSized : Sp := fun vs H Q _ => ∃ (b : Addr) (n : Nat) (a : Addr) (zs : List Int) (many : Nat), vs = [.ref b, .ref a, .int (many : Nat)] ∧ zs ∈ menu ∧ BoxAt H b n ∧ n < 1700000 ∧ H a = some (.lst (zs.map V.int)) ∧ a ≠ b ∧ 1 ≤ many ∧ many ≤ 24 ∧
  ∀ t H' v, Sized zs many t → BoxAt H' b (n + 3000) → But b H H' → Tx.At H' t v → Q v H'
structure Around (zs : List Int) (t : Tx) : Prop where
  good : t.good zs ((allRows zs).length : Nat) = true
  parts : t.parts ≤ 24
  h1 : 1 ≤ t.holes
  h3 : t.holes ≤ 3
  depth : t.depth ≤ 4
  nodes : t.nodes ≤ 60
  dd : t.data.depth ≤ 25
def spAround : Sp := fun vs H Q _ => ∃ (b : Addr) (n : Nat) (a : Addr) (zs : List Int) (many : Nat), vs = [.ref b, .ref a, .int (many : Nat)] ∧ zs ∈ menu ∧ BoxAt H b n ∧ n < 1700000 ∧ H a = some (.lst (zs.map V.int)) ∧ a ≠ b ∧ 1 ≤ many ∧ many ≤ 8 ∧
  ∀ t H' v, Around zs t → BoxAt H' b (n + 3000) → But b H H' → Tx.At H' t v → Q v H'
section
variable {P : Program} {w : World} {K : PySem.W.Frag} {mg : Str → Option Value} {base : Heap}
theorem ok_sized {f : Addr} {fd : FuncData} (F : Fun K "_law_sized" "_law_sized" s__law_sized f fd) (Z : Zs mg) (d__law_take : DefD P w K mg base 1 "_law_take" 2 [] byPlace spTake) (d__law_leaf : DefD P w K mg base 3 "_law_leaf" 2 [] byPlace spLeaf) (d__law_pile : DefD P w K mg base 4 "_law_pile" 4 [] byPlace spPile) : FnG P w K mg base CX0 5 f fd ["box", "widths", "many"] spSized := by
  refine okG F sc__law_sized (fun vs H Q E h => ?_) (fun cdv B up z H vs Q E hG hr h => ?_)
  · obtain ⟨b, n, a, zs, many, rfl, _⟩ := h
    rfl
  obtain ⟨b, n, a, zs, many, rfl, hz, hb, hn, ha, nab, m1, m24, k⟩ := h
  refine ⟨_, (pss_cons (ps_set (i := 3) sc__law_sized.nd rfl (by first | exact Or.inl rfl | exact Or.inr rfl) (pd_pos d__law_take hG hr (by decide) (by rfl) (pa_cons (pv 0) (pa_cons (pe_callB (c_min2 rfl) (by rfl) Z.min_ (by decide +kernel) (pa_cons pe_int (pa_cons (pv 2) pa_nil))) pa_nil))))
  (pss_one (ps_ret (pd_pos d__law_pile hG hr (by decide) (by rfl) (pa_cons (pv 0) (pa_cons (pv 1) (pa_cons (pe_lc (own := [("turn", 4)]) (tt := tYes) rfl sc__law_sized.nd (pi_range1 (by rfl) Z.range_ (pa_cons (pe_op op_sub (pv 2) (pv 3)) pa_nil)) (blkOk_by (N := ["box", "widths", "many", "loops", "turn"]) (sc := defScope s__law_sized) (by decide +kernel)) (fun _ _ _ _ _ => (pg_name (i := 4) sc__law_sized.nd rfl (by first | exact Or.inl rfl | exact Or.inr rfl))) (fun _ _ _ _ _ => pts_nil) (fun _ _ _ _ _ => (pd_pos d__law_leaf hG hr (by decide) (by rfl) (pa_cons (pv 0) (pa_cons (pv 1) pa_nil))))) (pa_cons (pv 3) pa_nil)))))))), ?_⟩
  walk_at "r"
  have hmin : (if ((many : Nat) : Int) < 5 then ((many : Nat) : Int) else 5) = ((min many 5 : Nat) : Int) := by split <;> omega
  rw [hmin]
  refine ⟨b, _, n, rfl, hb, by omega, by omega, by omega, fun r H1 r0 r1 bx but => ?_⟩
  obtain ⟨loops, rfl⟩ := Int.eq_ofNat_of_zero_le r0
  walk_at "r"
  refine r_lc ?_
  walk_at "r"
  have ha1 := but _ _ nab ha
  refine ⟨_, rfl, by omega, by omega, fun D hD => ?_⟩
  have nD := bx.off hD
  rw [show ((((many : Nat) : Int) - ((loops : Nat) : Int))).toNat = many - loops by omega]
  refine it_range (fun i A => But b H1 A ∧ BoxAt A b (n + 1 + 20 * i) ∧ ∃ (ts : List Tx) (vs : List V), A D = some (.lst vs) ∧ ts.length = i ∧ (∀ t ∈ ts, Leaf zs t) ∧ KidsAt A ts vs) ⟨(But.refl H1).over hD, bx.over nD, [], [], upd_same, rfl, fun x hx => (by cases hx), trivial⟩ (fun i A hi p => ?_) (fun A p => ?_)
  · obtain ⟨bA, xA, ts, vs, dA, le, hlf, hK⟩ := p
    refine r_gname ⟨rfl, ?_⟩
    walk_at "r"
    refine ⟨b, _, a, zs, rfl, hz, xA, by omega, bA _ _ nab ha1, fun t A2 v ht bx2 but2 hat => ?_⟩
    have dA2 := but2 _ _ nD dA
    have hK2 := hK.but xA but2
    have lv := hK.len
    refine ⟨vs, dA2, by rw [sizeLine_eq]; omega, (bA.trans but2).over hD, (bx2.over nD).mono (by omega), ts ++ [t], vs ++ [v], upd_same, by rw [List.length_append, List.length_singleton, le], ?_, ?_⟩
    · intro x hx
      rcases List.mem_append.mp hx with h | h
      · exact hlf x h
      · rw [List.mem_singleton.mp h]
        exact ht
    · exact KidsAt.push (Leaf.off hz ht hat dA2 hK2.refs) (leaves_off hz dA2 hK2.refs hlf hK2)
  · obtain ⟨bA, xA, ts, vs, dA, le, hlf, hK⟩ := p
    walk_at "r"
    refine ⟨b, _, a, D, zs, vs, ts, loops, rfl, hz, xA, by omega, bA _ _ nab ha1, nab, dA, hK, fun t ht => (hlf t ht).lf, by omega, by omega, fun t H' v pt bx3 but3 hat => ?_⟩
    obtain ⟨p1, p2, p3, p4, p5, p6⟩ := pt
    exact k t H' v ⟨p1, by omega, by rw [p3, holes_0 hlf], by omega, by omega, by omega⟩ (bx3.mono (by omega)) ((but.trans bA).trans but3) hat
theorem ifs_set {c : Bool} {t : TS} {D : Ends} {σ : L2.St} {H : Hp} (j : Nat) (Pw : Int → Prop) (hA : c = true → ∃ wv, Pw wv ∧ ∀ D : Ends, D.nx (σ.set j (some (.int wv))) H → t D σ H) (hB : c = false → ∃ wv, Pw wv ∧ σ = σ.set j (some (.int wv)))
    (h : ∀ wv, Pw wv → D.nx (σ.set j (some (.int wv))) H) : if c = true then t D σ H else tNext D σ H := by
  cases c with
  | true =>
    obtain ⟨wv, pw, q⟩ := hA rfl
    exact q D (h wv pw)
  | false =>
    obtain ⟨wv, pw, e⟩ := hB rfl
    have := h wv pw
    rw [← e] at this
    exact this
theorem KidsAt.drop {H : Hp} : ∀ {ts : List Tx} {vs : List V} (i : Nat), KidsAt H ts vs → KidsAt H (ts.drop i) (vs.drop i)
  | _, _, 0, h => h
  | [], [], _ + 1, _ => trivial
  | _ :: ts, _ :: vs, i + 1, h => KidsAt.drop (ts := ts) (vs := vs) i h.2
  | [], _ :: _, _ + 1, h => h.elim
  | _ :: _, [], _ + 1, h => h.elim
theorem KidsAt.take {H : Hp} : ∀ {ts : List Tx} {vs : List V} (i : Nat), KidsAt H ts vs → KidsAt H (ts.take i) (vs.take i)
  | _, _, 0, _ => trivial
  | [], [], _ + 1, _ => trivial
  | _ :: ts, _ :: vs, i + 1, h => ⟨h.1, KidsAt.take (ts := ts) (vs := vs) i h.2⟩
  | [], _ :: _, _ + 1, h => h.elim
  | _ :: _, [], _ + 1, h => h.elim
theorem cut_drop {xs : List V} {i : Nat} (h : i ≤ xs.length) : cutV xs (some ((i : Nat) : Int)) none = xs.drop i := by
  unfold cutV
  rw [HT.sIx_none, HT.sIx_nat, Nat.min_eq_left h]
  exact List.take_of_length_le (by rw [List.length_drop]; omega)
theorem cut_take {xs : List V} {i : Nat} (h : i ≤ xs.length) : cutV xs none (some ((i : Nat) : Int)) = xs.take i := by
  unfold cutV
  rw [HT.sIx_none, HT.sIx_nat, Nat.min_eq_left h, List.drop_zero, Nat.sub_zero]
/-- how many leaves of its own -/
theorem own_le {h m wv : Int} (h1 : 1 ≤ h) (h3 : h ≤ 3) (m1 : 1 ≤ m) : ∃ own : Nat, (if (if 24 + h * (m - 1) < wv then 24 + h * (m - 1) else wv) - h * m > 0 then (if 24 + h * (m - 1) < wv then 24 + h * (m - 1) else wv) - h * m else 0) = ((own : Nat) : Int) ∧ ((own : Nat) : Int) + h ≤ 24 := by
  have hm : (if 24 + h * (m - 1) < wv then 24 + h * (m - 1) else wv) ≤ 24 + h * (m - 1) := by split <;> omega
  have hh : 24 + h * (m - 1) - h * m + h = 24 := by rw [Int.mul_sub, Int.mul_one]; omega
  generalize (if 24 + h * (m - 1) < wv then 24 + h * (m - 1) else wv) = mn at hm ⊢
  generalize h * m = hm2 at hh ⊢
  generalize 24 + h * (m - 1) = aa at hm hh
  by_cases c : mn - hm2 > 0
  · rw [if_pos c]
    exact ⟨(mn - hm2).toNat, by omega, by omega⟩
  · rw [if_neg c]
    exact ⟨0, rfl, by omega⟩
/-- a surrounding, drawn -/
theorem ok_around {f : Addr} {fd : FuncData} (F : Fun K "_law_around" "_law_around" s__law_around f fd) (Z : Zs mg) (d__law_take : DefD P w K mg base 1 "_law_take" 2 [] byPlace spTake) (d__law_leaf : DefD P w K mg base 3 "_law_leaf" 2 [] byPlace spLeaf) (d__law_pile : DefD P w K mg base 4 "_law_pile" 4 [] byPlace spPile) : FnG P w K mg base CX0 5 f fd ["box", "widths", "many"] spAround := by
  refine okG F sc__law_around (fun vs H Q E h => ?_) (fun cdv B up z H vs Q E hG hr h => ?_)
  · obtain ⟨b, n, a, zs, many, rfl, _⟩ := h
    rfl
  obtain ⟨b, n, a, zs, many, rfl, hz, hb, hn, ha, nab, m1, m8, k⟩ := h
  refine ⟨_, (pss_cons (ps_par3 rfl sc__law_around.nd (i := 7) (j := 8) (l := 9) rfl rfl rfl (by decide) (by decide) (by decide) rfl rfl rfl (pa_cons (pe_op op_add pe_int (pd_pos d__law_take hG hr (by decide) (by rfl) (pa_cons (pv 0) (pa_cons pe_int pa_nil)))) (pa_cons (pd_pos d__law_take hG hr (by decide) (by rfl) (pa_cons (pv 0) (pa_cons pe_int pa_nil))) (pa_cons (pe_op op_add pe_int (pd_pos d__law_take hG hr (by decide) (by rfl) (pa_cons (pv 0) (pa_cons pe_int pa_nil)))) pa_nil))) rfl)
  (pss_cons (ps_if (pt_cmpR op_eq (pv 8) pe_int (nomark _)) (pss_one (ps_set (i := 9) sc__law_around.nd rfl (by first | exact Or.inl rfl | exact Or.inr rfl) (pe_op op_sub (pe_op op_add (pe_op op_mul (pv 7) (pv 2)) (pv 9)) pe_int))) pss_nil)
  (pss_cons (ps_set (i := 3) sc__law_around.nd rfl (by first | exact Or.inl rfl | exact Or.inr rfl) (pe_callB (c_max2 rfl) (by rfl) Z.max_ (by decide +kernel) (pa_cons pe_int (pa_cons (pe_op op_sub (pe_callB (c_min2 rfl) (by rfl) Z.min_ (by decide +kernel) (pa_cons (pv 9) (pa_cons (pe_op op_add pe_int (pe_op op_mul (pv 7) (pe_op op_sub (pv 2) pe_int))) pa_nil))) (pe_op op_mul (pv 7) (pv 2))) pa_nil))))
  (pss_cons (ps_set (i := 4) sc__law_around.nd rfl (by first | exact Or.inl rfl | exact Or.inr rfl) (pd_pos d__law_take hG hr (by decide) (by rfl) (pa_cons (pv 0) (pa_cons (pe_callB (c_min2 rfl) (by rfl) Z.min_ (by decide +kernel) (pa_cons pe_int (pa_cons (pe_op op_add (pv 3) pe_int) pa_nil))) pa_nil))))
  (pss_cons (ps_set (i := 5) sc__law_around.nd rfl (by first | exact Or.inl rfl | exact Or.inr rfl) (pe_op op_cat (pe_lc (own := [("turn", 10)]) (tt := tYes) rfl sc__law_around.nd (pi_range1 (by rfl) Z.range_ (pa_cons (pe_op op_sub (pv 3) (pv 4)) pa_nil)) (blkOk_by (N := ["box", "widths", "many", "own", "loops", "leaves", "at", "holes", "way", "wanted", "turn"]) (sc := defScope s__law_around) (by decide +kernel)) (fun _ _ _ _ _ => (pg_name (i := 10) sc__law_around.nd rfl (by first | exact Or.inl rfl | exact Or.inr rfl))) (fun _ _ _ _ _ => pts_nil) (fun _ _ _ _ _ => (pd_pos d__law_leaf hG hr (by decide) (by rfl) (pa_cons (pv 0) (pa_cons (pv 1) pa_nil))))) (pe_op op_rep (pe_lst (pa_cons (pe_tup (pa_cons pe_str pa_nil)) pa_nil)) (pv 7))))
  (pss_cons (ps_set (i := 6) sc__law_around.nd rfl (by first | exact Or.inl rfl | exact Or.inr rfl) (pd_pos d__law_take hG hr (by decide) (by rfl) (pa_cons (pv 0) (pa_cons (pe_callB (show CallR _ _ (rLen K) from c_len) (by rfl) Z.len_ (by decide +kernel) (pa_cons (pv 5) pa_nil)) pa_nil))))
  (pss_one (ps_ret (pd_pos d__law_pile hG hr (by decide) (by rfl) (pa_cons (pv 0) (pa_cons (pv 1) (pa_cons (pe_op op_cat (pe_slice (show SlR _ (rSlL K) from sl_list) (pv 5) (po_some (pv 6)) po_none) (pe_slice (show SlR _ (rSlL K) from sl_list) (pv 5) po_none (po_some (pv 6)))) (pa_cons (pv 4) pa_nil))))))))))))), ?_⟩
  walk_at "r"
  refine r_par3 ?_
  walk_at "r"
  refine ⟨b, 3, n, rfl, hb, by omega, by omega, by omega, fun h0 H1 h00 h01 bx1 but1 => ?_⟩
  walk_at "r"
  refine ⟨b, 3, _, rfl, bx1, by omega, by omega, by omega, fun way H2 w0 w1 bx2 but2 => ?_⟩
  walk_at "r"
  refine ⟨b, 6, _, rfl, bx2, by omega, by omega, by omega, fun wd H3 d0 d1 bx3 but3 => ?_⟩
  walk_at "r"
  refine ⟨_, _, _, rfl, ?_⟩
  walk_at "r"
  refine ifs_set 9 (fun wv => 0 ≤ wv ∧ wv ≤ 1000) (fun hc => ⟨(1 + h0) * ((many : Nat) : Int) + (22 + wd) - 22, ?_, fun D hD => ?_⟩) (fun hc => ⟨22 + wd, by omega, rfl⟩) (fun wv hw => ?_)
  · obtain rfl | rfl | rfl : h0 = 0 ∨ h0 = 1 ∨ h0 = 2 := by omega
    all_goals omega
  · walk_at "r"
    refine r_i (.inl ⟨by omega, by omega⟩) ?_
    walk_at "r"
    exact hD
  walk_at "r"
  refine r_i (.inl ⟨by omega, by omega⟩) ?_
  walk_at "r"
  refine r_i (.inl ⟨by omega, by omega⟩) ?_
  walk_at "r"
  obtain ⟨own, eo, lo⟩ := own_le (h := 1 + h0) (m := ((many : Nat) : Int)) (wv := wv) (by omega) (by omega) (by omega)
  rw [eo]
  have hmin : (if ((own : Nat) : Int) + 1 < 5 then ((own : Nat) : Int) + 1 else 5) = ((min (own + 1) 5 : Nat) : Int) := by split <;> omega
  rw [hmin]
  have but13 := (but1.trans but2).trans but3
  refine ⟨b, _, _, rfl, bx3, by omega, by omega, by omega, fun r H4 r0 r1 bx4 but4 => ?_⟩
  have ha4 := (but13.trans but4) _ _ nab ha
  obtain ⟨loops, rfl⟩ := Int.eq_ofNat_of_zero_le r0
  obtain ⟨hn0, rfl⟩ := Int.eq_ofNat_of_zero_le h00
  walk_at "r"
  refine r_lc ?_
  walk_at "r"
  refine ⟨_, rfl, by omega, by omega, fun D hD => ?_⟩
  have nD := bx4.off hD
  rw [show ((((own : Nat) : Int) - ((loops : Nat) : Int))).toNat = own - loops by omega]
  refine it_range (fun i A => But b H4 A ∧ BoxAt A b (n + 1 + 1 + 1 + 1 + 20 * i) ∧ ∃ (ts : List Tx) (vs : List V), A D = some (.lst vs) ∧ ts.length = i ∧ (∀ t ∈ ts, Leaf zs t) ∧ KidsAt A ts vs) ⟨(But.refl H4).over hD, bx4.over nD, [], [], upd_same, rfl, fun x hx => (by cases hx), trivial⟩ (fun i A hi p => ?_) (fun A p => ?_)
  · obtain ⟨bA, xA, ts, vs, dA, le, hlf, hK⟩ := p
    refine r_gname ⟨rfl, ?_⟩
    walk_at "r"
    refine ⟨b, _, a, zs, rfl, hz, xA, by omega, bA _ _ nab ha4, fun t A2 v ht bx2 but2 hat => ?_⟩
    have dA2 := but2 _ _ nD dA
    have hK2 := hK.but xA but2
    have lv := hK.len
    refine ⟨vs, dA2, by rw [sizeLine_eq]; omega, (bA.trans but2).over hD, (bx2.over nD).mono (by omega), ts ++ [t], vs ++ [v], upd_same, by rw [List.length_append, List.length_singleton, le], ?_, ?_⟩
    · intro x hx
      rcases List.mem_append.mp hx with h | h
      · exact hlf x h
      · rw [List.mem_singleton.mp h]
        exact ht
    · exact KidsAt.push (Leaf.off hz ht hat dA2 hK2.refs) (leaves_off hz dA2 hK2.refs hlf hK2)
  · obtain ⟨bA, xA, ts, vs, dA, le, hlf, hK⟩ := p
    walk_at "r"
    refine ⟨by show 1 ≤ sizeLine; decide, fun T hT => ?_⟩
    have sT := Same.upd_new (o := .tup [.str "hole"]) hT
    have gT : (upd A T (.tup [.str "hole"])) T = some (.tup [.str "hole"]) := upd_same
    generalize upd A T (.tup [.str "hole"]) = A1 at sT gT ⊢
    walk_at "r"
    refine ⟨by show 1 ≤ sizeLine; decide, fun L hL => ?_⟩
    have sL := Same.upd_new (o := .lst [.ref T]) hL
    have gL : (upd A1 L (.lst [.ref T])) L = some (.lst [.ref T]) := upd_same
    generalize upd A1 L (.lst [.ref T]) = A2 at sL gL ⊢
    walk_at "r"
    refine ⟨L, _, _, rfl, rfl, gL, by omega, by omega, by rw [List.length_singleton, sizeLine_eq]; omega, fun L2 hL2 => ?_⟩
    have erep : (List.replicate (1 + ((hn0 : Nat) : Int)).toNat [V.ref T]).flatten = List.replicate (hn0 + 1) (V.ref T) := by
      rw [show (1 + ((hn0 : Nat) : Int)).toNat = hn0 + 1 by omega]
      generalize hn0 + 1 = q
      induction q with
      | zero => rfl
      | succ q ih => rw [List.replicate_succ, List.flatten_cons, ih, List.replicate_succ]; rfl
    rw [erep]
    have sL2 := Same.upd_new (o := .lst (List.replicate (hn0 + 1) (V.ref T))) hL2
    have gL2 : (upd A2 L2 (.lst (List.replicate (hn0 + 1) (V.ref T)))) L2 = some (.lst (List.replicate (hn0 + 1) (V.ref T))) := upd_same
    generalize upd A2 L2 (.lst (List.replicate (hn0 + 1) (V.ref T))) = A3 at sL2 gL2 ⊢
    have s13 := (sT.trans sL).trans sL2
    have lv := hK.len
    refine ⟨D, L2, _, _, rfl, rfl, s13 _ _ dA, gL2, by rw [List.length_replicate, sizeLine_eq]; omega, fun L3 hL3 => ?_⟩
    have sL3 := Same.upd_new (o := .lst (vs ++ List.replicate (hn0 + 1) (V.ref T))) hL3
    have gL3 : (upd A3 L3 (.lst (vs ++ List.replicate (hn0 + 1) (V.ref T)))) L3 = some (.lst (vs ++ List.replicate (hn0 + 1) (V.ref T))) := upd_same
    generalize upd A3 L3 (.lst (vs ++ List.replicate (hn0 + 1) (V.ref T))) = A4 at sL3 gL3 ⊢
    have s14 := s13.trans sL3
    have gT4 := ((sL.trans sL2).trans sL3) _ _ gT
    have hK4 : KidsAt A4 (ts ++ List.replicate (hn0 + 1) Tx.hole) (vs ++ List.replicate (hn0 + 1) (V.ref T)) := by
      refine KidsAt.append (hK.same s14) ?_
      generalize hn0 + 1 = q
      induction q with
      | zero => trivial
      | succ q ih => exact ⟨⟨T, rfl, gT4⟩, ih⟩
    have lfs : ∀ t ∈ ts ++ List.replicate (hn0 + 1) Tx.hole, Lf zs t := fun t ht => by
      rcases List.mem_append.mp ht with h | h
      · exact (hlf t h).lf
      · rw [(List.mem_replicate.mp h).2]
        exact ⟨rfl, rfl, rfl, rfl, by decide⟩
    have lall : (ts ++ List.replicate (hn0 + 1) Tx.hole).length = own - loops + hn0 + 1 := by rw [List.length_append, List.length_replicate, le]; omega
    have hall : ((ts ++ List.replicate (hn0 + 1) Tx.hole).map Tx.holes).sum = hn0 + 1 := by
      rw [List.map_append, List.sum_append, holes_0 hlf, List.map_replicate, Nat.zero_add]
      generalize hn0 + 1 = q
      induction q with
      | zero => rfl
      | succ q ih => rw [List.replicate_succ, List.sum_cons, ih]; show 1 + q = q + 1; omega
    generalize ts ++ List.replicate (hn0 + 1) Tx.hole = us at hK4 lfs lall hall
    generalize vs ++ List.replicate (hn0 + 1) (V.ref T) = ws at hK4 gL3
    have lus := hK4.len
    walk_at "r"
    refine r_lenL (SqL.of gL3) ?_
    rw [← lus]
    walk_at "r"
    have bx14 := xA.same s14
    refine ⟨b, _, _, rfl, bx14, by omega, by omega, by omega, fun at0 A5 a0 a1 bx5 but5 => ?_⟩
    obtain ⟨at1, rfl⟩ := Int.eq_ofNat_of_zero_le a0
    have hK5 := hK4.but bx14 but5
    have nL3 : L3 ≠ b := (xA.same s13).off hL3
    have gL5 := but5 _ _ nL3 gL3
    walk_at "r"
    have atl : at1 ≤ ws.length := by omega
    refine r_sl ?_
    walk_at "r"
    refine r_pt ?_
    walk_at "r"
    refine ⟨_, rfl, ?_⟩
    refine r_pn ?_
    refine ⟨L3, _, rfl, SqL.of gL5, fun L4 hL4 => ?_⟩
    rw [cut_drop atl]
    have s5 := Same.upd_new (o := .lst (ws.drop at1)) hL4
    have g5 : (upd A5 L4 (.lst (ws.drop at1))) L4 = some (.lst (ws.drop at1)) := upd_same
    generalize upd A5 L4 (.lst (ws.drop at1)) = A6 at s5 g5 ⊢
    refine r_sl ?_
    walk_at "r"
    refine r_pn ?_
    refine r_pt ?_
    walk_at "r"
    refine ⟨_, rfl, ?_⟩
    refine ⟨L3, _, rfl, SqL.of (s5 _ _ gL5), fun L5 hL5 => ?_⟩
    rw [cut_take atl]
    have s6 := Same.upd_new (o := .lst (ws.take at1)) hL5
    have g6 : (upd A6 L5 (.lst (ws.take at1))) L5 = some (.lst (ws.take at1)) := upd_same
    generalize upd A6 L5 (.lst (ws.take at1)) = A7 at s6 g6 ⊢
    refine ⟨L4, L5, _, _, rfl, rfl, s6 _ _ g5, g6, by rw [List.length_drop, List.length_take, sizeLine_eq]; omega, fun L6 hL6 => ?_⟩
    have s7 := Same.upd_new (o := .lst (ws.drop at1 ++ ws.take at1)) hL6
    have g7 : (upd A7 L6 (.lst (ws.drop at1 ++ ws.take at1))) L6 = some (.lst (ws.drop at1 ++ ws.take at1)) := upd_same
    generalize upd A7 L6 (.lst (ws.drop at1 ++ ws.take at1)) = A8 at s7 g7 ⊢
    have s58 := (s5.trans s6).trans s7
    have hK8 : KidsAt A8 (us.drop at1 ++ us.take at1) (ws.drop at1 ++ ws.take at1) := KidsAt.append ((hK5.same s58).drop at1) ((hK5.same s58).take at1)
    have lf8 : ∀ t ∈ us.drop at1 ++ us.take at1, Lf zs t := fun t ht => by
      rcases List.mem_append.mp ht with h | h
      · exact lfs t (List.mem_of_mem_drop h)
      · exact lfs t (List.mem_of_mem_take h)
    have l8 : (us.drop at1 ++ us.take at1).length = own - loops + hn0 + 1 := by rw [List.length_append, List.length_drop, List.length_take, ← lall]; omega
    have h8 : ((us.drop at1 ++ us.take at1).map Tx.holes).sum = hn0 + 1 := by
      have e : ((us.take at1 ++ us.drop at1).map Tx.holes).sum = hn0 + 1 := by rw [List.take_append_drop]; exact hall
      rw [List.map_append, List.sum_append] at e ⊢
      omega
    have but58 := ((but13.trans but4).trans bA).trans ((But.of s14).trans (but5.trans (But.of s58)))
    walk_at "r"
    refine ⟨b, _, a, L6, zs, _, _, loops, rfl, hz, bx5.same s58, by omega, but58 _ _ nab ha, nab, g7, hK8, lf8, by omega, by omega, fun t H' v pt bx9 but9 hat => ?_⟩
    obtain ⟨p1, p2, p3, p4, p5, p6⟩ := pt
    refine k t H' v ⟨p1, by omega, by omega, by omega, by omega, by omega, by omega⟩ (bx9.mono (by omega)) (but58.trans but9) hat
end
end Eld
set_option Elab.async false
set_option maxRecDepth 100000
set_option maxHeartbeats 4000000
set_option linter.all false
namespace Eld
open PySem PySem.Spec PyProof.Rows L2
/-! ## calls by name of defs that may raise -/
section
variable {X : Cx} {W : WX} {ks : List Str} {k j n : Nat} {gV : List V → List V → List V} {sp : Sp} {x : Str} {p pos : Pos} {e : Expr} {es : List Expr} {kws : List Keyword} {t tkk : TA}
theorem pdX_kw0 (d : DefX X.prog X.w X.K X.mg X.base k x n ks gV sp) (tk : Takes X W) (hG : X.A.guards = some []) (hr : Room j X.A) (hk : k ≤ j) (hg : Gl X x) (hkw : PK X kws tkk) (hall : (backToKw pos (keywordEach kws X.env)).all (·.1.isSome) = true := by rfl)
    (hks : (backToKw pos (keywordEach kws X.env)).filterMap (·.1) = ks := by rfl) (hd : (x == ("__debug__" : Str)) = false := by decide)
    (hp : ((backTo pos (starEach [] X.env)).any (·.1) || (backToKw pos (keywordEach kws X.env)).any (·.1.isNone)) = false := by rfl) : PE X (.Call (.Name x p) [] kws pos) (tClS (rFnS n ks.length gV sp (WE W)) tNil tkk) := by
  obtain ⟨f, fd, ps, g, hm, kp, F, b⟩ := d
  exact pn_kw0S (callVS_fn F b (fun σ => passAt tk σ) hG (hr.mono hk)) hg hm kp hkw hall hks hd hp
theorem pdX_kw (d : DefX X.prog X.w X.K X.mg X.base k x n ks gV sp) (tk : Takes X W) (hG : X.A.guards = some []) (hr : Room j X.A) (hk : k ≤ j) (hg : Gl X x) (ha : PA X (e :: es) t) (hkw : PK X kws tkk) (hall : (backToKw pos (keywordEach kws X.env)).all (·.1.isSome) = true := by rfl)
    (hks : (backToKw pos (keywordEach kws X.env)).filterMap (·.1) = ks := by rfl) (hd : (x == ("__debug__" : Str)) = false := by decide) (he : starEach (e :: es) X.env = (false, eval e X.env) :: starEach es X.env := by rfl)
    (hp : ((backTo pos (starEach (e :: es) X.env)).any (·.1) || (backToKw pos (keywordEach kws X.env)).any (·.1.isNone)) = false := by rfl) : PE X (.Call (.Name x p) (e :: es) kws pos) (tClS (rFnS n ks.length gV sp (WE W)) t tkk) := by
  obtain ⟨f, fd, ps, g, hm, kp, F, b⟩ := d
  exact pn_kwS (callVS_fn F b (fun σ => passAt tk σ) hG (hr.mono hk)) hg hm kp ha hkw hall hks hd he hp
end
end Eld
set_option Elab.async false
set_option maxRecDepth 100000
set_option maxHeartbeats 4000000
set_option linter.all false
namespace Eld
open PySem L2
local macro_rules | `(tactic| walk_at "r1") => `(tactic| with_reducible first
  | refine r_seq ?_ | refine r_asgN ?_ | refine r_asg ?_ | refine r_gname ?_ | refine r_gsub ?_ | refine r_var rfl ?_ | refine r_c ?_ | refine r_op ?_ | refine r_un ?_ | refine r_u ?_ | refine r_i0 ?_ | refine r_cb ?_ | refine r_cons ?_ | refine r_nil ?_ | refine r_cl ?_ | refine r_fn rfl rfl ?_ | refine r_mt ?_
  | refine r_test ?_ | refine r_tb ?_ | refine r_bl ?_ | refine r_and ?_ | refine r_or ?_ | refine r_not ?_ | refine r_andV ?_ | refine r_orV ?_ | refine r_notV ?_ | refine r_ifX ?_ | refine r_ifs ?_ | refine r_chain ?_ | refine r_ret ?_ | refine r_next ?_ | refine r_drop ?_ | refine iteT ?_ | refine iteF ?_ | refine iteNT ?_ | refine iteNF ?_
  | refine r_int1 ?_ | refine r_boolB ?_ | refine r_eqI ?_ | refine r_neI ?_ | refine r_eqB ?_ | refine r_neB ?_ | refine r_eqS ?_ | refine r_neS ?_ | refine r_abs ?_ | refine r_max2 ?_ | refine r_min2 ?_ | refine r_yes ?_ | refine r_tup ?_ | refine r_sfld ?_ | refine r_m0 ?_ | refine r_m1 ?_ | refine r_lst ?_ | refine r_rng1 ?_ | refine r_rng2 ?_ | refine r_ixL (SqL.of (by assumption)) rfl ?_)
local macro_rules | `(tactic| walk_at "r") => `(tactic| repeat (first | walk_at "r1" | ((with_reducible refine r_var ?hv ?_); (case hv => rfl))))

local macro_rules | `(tactic| walk_at "r1") => `(tactic| with_reducible first | refine r_clS ?_ | refine r_fnS rfl rfl ?_ | refine r_mtS ?_ | refine r_mkO ?_)
/-! ## what is told -/
abbrev byBoth : List V → List V → List V := fun xs ys => xs ++ ys
abbrev byRot : List V → List V → List V := fun _ ys => ys.drop 1 ++ ys.take 1
abbrev byOneSwap : List V → List V → List V := fun xs ys => xs ++ ys.reverse
theorem cv_look (v : V) : (cv v).lookup ("count" : Str) = some v := by unfold cv; rw [look_cons, if_pos rfl]
/-- what the top has written of the error -/
structure ErrT (K : PySem.W.Frag) (mg : Str → Option Value) (Ce : Addr) : Prop where
  g : mg "TooMany" = some (.ref Ce)
  x : XfC K Ce
  n : PySem.W.findIn K (.ref Ce) "count" = some none
  e : PySem.W.exmOne K (.ref Ce) (.ref Ce) = some true
/-- what is due of a whole -/
def dueV (t : Tx) (r : V) : List V := if 24 < t.parts then [.str "many", .int (t.parts : Nat)] else if 4 < t.depth then [.str "many", .int (t.depth : Nat)] else [.str "text", r]
/-- what goes into a filling or a putting, and the whole -/
def Asked2 (C : Addr) (K : PySem.W.Frag) (H : Hp) (p : Addr) (zs : List Int) (q : Addr) (W : Tx) : Prop := ∃ v t x s, H q = some (.tup [v, x]) ∧ SpaceAt C K H p zs ∧ Tx.At H t v ∧ t.nodes < 210 ∧ t.data.depth < 50 ∧ fromV (holesV zs ((allRows zs).length : Nat) t) 1 3 = true ∧
  Tx.At H s x ∧ s.nodes < 210 ∧ s.data.depth < 50 ∧ holesV zs ((allRows zs).length : Nat) s = some 0 ∧ W = t.tupled.filled s.tupled ∧ W.nodes < 210
def Asked3 (C : Addr) (K : PySem.W.Frag) (H : Hp) (p : Addr) (zs : List Int) (q : Addr) (W : Tx) : Prop := ∃ v t wa ws x s u, H q = some (.tup [v, .ref wa, x]) ∧ SpaceAt C K H p zs ∧ Tx.At H t v ∧ t.nodes < 210 ∧ t.data.depth < 50 ∧ holesV zs ((allRows zs).length : Nat) t = some 0 ∧ H wa = some (.tup (wsV ws)) ∧ ws.length < 100 ∧ t.follow ws = some u ∧
  Tx.At H s x ∧ s.nodes < 210 ∧ s.data.depth < 50 ∧ holesV zs ((allRows zs).length : Nat) s = some 0 ∧ W = t.tupled.put ws s.tupled ∧ W.nodes < 210
def spTold (C : Addr) (K : PySem.W.Frag) : Sp := fun vs H Q _ => ∃ (p q : Addr) (nm : Bool) (zs : List Int) (W : Tx), vs = [.ref p, .ref q, .bl nm] ∧ (Asked2 C K H p zs q W ∨ Asked3 C K H p zs q W) ∧ ∀ H' l r, Same H H' → H' l = some (.lst (dueV W r)) → (W.parts ≤ 24 → W.depth ≤ 4 → Tx.At H' W r) → Q (.ref l) H'
section
variable {P : Program} {w : World} {K : PySem.W.Frag} {mg : Str → Option Value} {base : Heap} {C Ce : Addr}
theorem ok_told {f : Addr} {fd : FuncData} (F : Fun K "_law_told" "_law_told" s__law_told f fd) (Z : Zs mg) (ET : ErrT K mg Ce) (d_fill : DefX P w K mg base 214 "fill" 3 [] byPlace (spFill C Ce K)) (d_fill_text_space_surrounding : DefX P w K mg base 214 "fill" 0 ["text", "space", "surrounding"] byRot (spFill C Ce K))
    (d_put_at : DefX P w K mg base 214 "put_at" 4 [] byPlace (spPutAt C Ce K)) (d_put_at_part_path : DefX P w K mg base 214 "put_at" 2 ["part", "path"] byOneSwap (spPutAt C Ce K)) : FnG P w K mg base CX0 215 f fd ["room", "things", "named"] (spTold C K) := by
  refine okG F sc__law_told (fun vs H Q E h => ?_) (fun cdv B up z H vs Q E hG hr h => ?_)
  · obtain ⟨p, q, nm, zs, W, rfl, _⟩ := h
    rfl
  refine ⟨_, (pss_one (ps_try_mix rfl rfl takes0 (fun W pn xe tk _ =>
      (pss_cons (ps_if (pt_cmpR op_eq (pe_callB (show CallR _ _ (rLen K) from c_len) (by rfl) Z.len_ (by decide +kernel) (pa_cons (pv 1) pa_nil)) pe_int (nomark _))
          (pss_cons (ps_asg (pv 1) (by (refine (show PG _ _ (gTup K 2 (gCons (gName 4) (gCons (gName 6) gNil))) from ?_); refine pg_tup rfl (pgs_cons ?_ (pgs_cons ?_ pgs_nil)); exact (pg_name (i := 4) sc__law_told.nd rfl (by first | exact Or.inl rfl | exact Or.inr rfl)); exact (pg_name (i := 6) sc__law_told.nd rfl (by first | exact Or.inl rfl | exact Or.inr rfl)))))
            (pss_one (ps_ret (pe_lst (pa_cons pe_str (pa_cons (pe_ifExp (pt_val (pv 2)) (pdX_kw0 d_fill_text_space_surrounding tk hG hr (by decide) (by rfl) (pk_cons (pv 6) (pk_cons (pv 0) (pk_cons (pv 4) pk_nil)))) (pdX_pos d_fill tk hG hr (by decide) (by rfl) (pa_cons (pv 0) (pa_cons (pv 4) (pa_cons (pv 6) pa_nil))))) pa_nil)))))) pss_nil)
      (pss_cons (ps_asg (pv 1) (by (refine (show PG _ _ (gTup K 3 (gCons (gName 4) (gCons (gName 5) (gCons (gName 6) gNil)))) from ?_); refine pg_tup rfl (pgs_cons ?_ (pgs_cons ?_ (pgs_cons ?_ pgs_nil))); exact (pg_name (i := 4) sc__law_told.nd rfl (by first | exact Or.inl rfl | exact Or.inr rfl)); exact (pg_name (i := 5) sc__law_told.nd rfl (by first | exact Or.inl rfl | exact Or.inr rfl)); exact (pg_name (i := 6) sc__law_told.nd rfl (by first | exact Or.inl rfl | exact Or.inr rfl)))))
      (pss_one (ps_ret (pe_lst (pa_cons pe_str (pa_cons (pe_ifExp (pt_val (pv 2)) (pdX_kw d_put_at_part_path tk hG hr (by decide) (by rfl) (pa_cons (pv 0) (pa_cons (pv 4) pa_nil)) (pk_cons (pv 6) (pk_cons (pv 5) pk_nil))) (pdX_pos d_put_at tk hG hr (by decide) (by rfl) (pa_cons (pv 0) (pa_cons (pv 4) (pa_cons (pv 5) (pa_cons (pv 6) pa_nil)))))) pa_nil))))))))
    (.named (i := 3) sc__law_told.nd rfl rfl ⟨rfl, by decide, .inl ET.g⟩ (fun e oe cls d pn hz hf => (pss_one (ps_ret (pe_lst (pa_cons pe_str (pa_cons (pe_xf ET.x ET.n hz hf (pv 3)) pa_nil)))))) .nil))), ?_⟩
  obtain ⟨p, q, nm, zs, W, rfl, h, k⟩ := h
  rcases h with h | h
  · obtain ⟨v, t, x, s, hq, hp, ht, tn, td, th, hx, xn, xd, xh, rfl, wn⟩ := h
    walk_at "r"
    refine r_lenT (SqT.of hq) ?_
    walk_at "r"
    rw [decide_eq_true (show V.int (([v, x] : List V).length : Nat) = V.int 2 from rfl)]
    walk_at "r"
    refine ⟨q, _, rfl, SqT.of hq, rfl, _, _, rfl, _, _, rfl, rfl, ?_⟩
    walk_at "r"
    cases nm with
    | true =>
      walk_at "r"
      refine ⟨p, zs, v, t, x, s, rfl, hp, ht, tn, by omega, th, hx, xn, by omega, xh, wn, ?_⟩
      generalize t.tupled.filled s.tupled = Wn at k wn ⊢
      by_cases c1 : 24 < Wn.parts
      · refine .inl ⟨c1, fun d' G nd sG gd => ?_⟩
        refine ⟨true, ET.e, fun _ e ne => ?_, (fun q => by cases q)⟩
        walk_at "r"
        refine ⟨_, rfl, rfl, rfl, d', cv _, _, rfl, gd, cv_look _, ?_⟩
        walk_at "r"
        refine ⟨by show 2 ≤ sizeLine; decide, fun l hl => ?_⟩
        exact k _ l .non (sG.trans (Same.upd_new hl)) (by rw [upd_same]; unfold dueV; rw [if_pos c1]) (fun a b => absurd c1 (by omega))
      by_cases c2 : 4 < Wn.depth
      · refine .inr (.inl ⟨by omega, c2, fun d' G nd sG gd => ?_⟩)
        refine ⟨true, ET.e, fun _ e ne => ?_, (fun q => by cases q)⟩
        walk_at "r"
        refine ⟨_, rfl, rfl, rfl, d', cv _, _, rfl, gd, cv_look _, ?_⟩
        walk_at "r"
        refine ⟨by show 2 ≤ sizeLine; decide, fun l hl => ?_⟩
        exact k _ l .non (sG.trans (Same.upd_new hl)) (by rw [upd_same]; unfold dueV; rw [if_neg c1, if_pos c2]) (fun a b => absurd c2 (by omega))
      refine .inr (.inr ⟨by omega, by omega, fun H' r s1 hr1 => ?_⟩)
      walk_at "r"
      refine ⟨by show 2 ≤ sizeLine; decide, fun l hl => ?_⟩
      exact k _ l r (s1.trans (Same.upd_new hl)) (by rw [upd_same]; unfold dueV; rw [if_neg c1, if_neg c2]) (fun _ _ => hr1.same (Same.upd_new hl))
    | false =>
      walk_at "r"
      refine ⟨p, zs, v, t, x, s, rfl, hp, ht, tn, by omega, th, hx, xn, by omega, xh, wn, ?_⟩
      generalize t.tupled.filled s.tupled = Wn at k wn ⊢
      by_cases c1 : 24 < Wn.parts
      · refine .inl ⟨c1, fun d' G nd sG gd => ?_⟩
        refine ⟨true, ET.e, fun _ e ne => ?_, (fun q => by cases q)⟩
        walk_at "r"
        refine ⟨_, rfl, rfl, rfl, d', cv _, _, rfl, gd, cv_look _, ?_⟩
        walk_at "r"
        refine ⟨by show 2 ≤ sizeLine; decide, fun l hl => ?_⟩
        exact k _ l .non (sG.trans (Same.upd_new hl)) (by rw [upd_same]; unfold dueV; rw [if_pos c1]) (fun a b => absurd c1 (by omega))
      by_cases c2 : 4 < Wn.depth
      · refine .inr (.inl ⟨by omega, c2, fun d' G nd sG gd => ?_⟩)
        refine ⟨true, ET.e, fun _ e ne => ?_, (fun q => by cases q)⟩
        walk_at "r"
        refine ⟨_, rfl, rfl, rfl, d', cv _, _, rfl, gd, cv_look _, ?_⟩
        walk_at "r"
        refine ⟨by show 2 ≤ sizeLine; decide, fun l hl => ?_⟩
        exact k _ l .non (sG.trans (Same.upd_new hl)) (by rw [upd_same]; unfold dueV; rw [if_neg c1, if_pos c2]) (fun a b => absurd c2 (by omega))
      refine .inr (.inr ⟨by omega, by omega, fun H' r s1 hr1 => ?_⟩)
      walk_at "r"
      refine ⟨by show 2 ≤ sizeLine; decide, fun l hl => ?_⟩
      exact k _ l r (s1.trans (Same.upd_new hl)) (by rw [upd_same]; unfold dueV; rw [if_neg c1, if_neg c2]) (fun _ _ => hr1.same (Same.upd_new hl))
  · obtain ⟨v, t, wa, ws, x, s, u, hq, hp, ht, tn, td, th, hw, wl, wf, hx, xn, xd, xh, rfl, wn⟩ := h
    walk_at "r"
    refine r_lenT (SqT.of hq) ?_
    walk_at "r"
    rw [decide_eq_false (show ¬ V.int (([v, .ref wa, x] : List V).length : Nat) = V.int 2 from fun e => by have := V.int.inj e; simp at this)]
    walk_at "r"
    refine ⟨q, _, rfl, SqT.of hq, rfl, _, _, rfl, _, _, rfl, _, _, rfl, rfl, ?_⟩
    walk_at "r"
    cases nm with
    | true =>
      walk_at "r"
      refine ⟨p, zs, v, t, wa, ws, x, s, u, rfl, hp, ht, tn, by omega, th, hw, wl, wf, hx, xn, by omega, xh, wn, ?_⟩
      generalize t.tupled.put ws s.tupled = Wn at k wn ⊢
      by_cases c1 : 24 < Wn.parts
      · refine .inl ⟨c1, fun d' G nd sG gd => ?_⟩
        refine ⟨true, ET.e, fun _ e ne => ?_, (fun q => by cases q)⟩
        walk_at "r"
        refine ⟨_, rfl, rfl, rfl, d', cv _, _, rfl, gd, cv_look _, ?_⟩
        walk_at "r"
        refine ⟨by show 2 ≤ sizeLine; decide, fun l hl => ?_⟩
        exact k _ l .non (sG.trans (Same.upd_new hl)) (by rw [upd_same]; unfold dueV; rw [if_pos c1]) (fun a b => absurd c1 (by omega))
      by_cases c2 : 4 < Wn.depth
      · refine .inr (.inl ⟨by omega, c2, fun d' G nd sG gd => ?_⟩)
        refine ⟨true, ET.e, fun _ e ne => ?_, (fun q => by cases q)⟩
        walk_at "r"
        refine ⟨_, rfl, rfl, rfl, d', cv _, _, rfl, gd, cv_look _, ?_⟩
        walk_at "r"
        refine ⟨by show 2 ≤ sizeLine; decide, fun l hl => ?_⟩
        exact k _ l .non (sG.trans (Same.upd_new hl)) (by rw [upd_same]; unfold dueV; rw [if_neg c1, if_pos c2]) (fun a b => absurd c2 (by omega))
      refine .inr (.inr ⟨by omega, by omega, fun H' r s1 hr1 => ?_⟩)
      walk_at "r"
      refine ⟨by show 2 ≤ sizeLine; decide, fun l hl => ?_⟩
      exact k _ l r (s1.trans (Same.upd_new hl)) (by rw [upd_same]; unfold dueV; rw [if_neg c1, if_neg c2]) (fun _ _ => hr1.same (Same.upd_new hl))
    | false =>
      walk_at "r"
      refine ⟨p, zs, v, t, wa, ws, x, s, u, rfl, hp, ht, tn, by omega, th, hw, wl, wf, hx, xn, by omega, xh, wn, ?_⟩
      generalize t.tupled.put ws s.tupled = Wn at k wn ⊢
      by_cases c1 : 24 < Wn.parts
      · refine .inl ⟨c1, fun d' G nd sG gd => ?_⟩
        refine ⟨true, ET.e, fun _ e ne => ?_, (fun q => by cases q)⟩
        walk_at "r"
        refine ⟨_, rfl, rfl, rfl, d', cv _, _, rfl, gd, cv_look _, ?_⟩
        walk_at "r"
        refine ⟨by show 2 ≤ sizeLine; decide, fun l hl => ?_⟩
        exact k _ l .non (sG.trans (Same.upd_new hl)) (by rw [upd_same]; unfold dueV; rw [if_pos c1]) (fun a b => absurd c1 (by omega))
      by_cases c2 : 4 < Wn.depth
      · refine .inr (.inl ⟨by omega, c2, fun d' G nd sG gd => ?_⟩)
        refine ⟨true, ET.e, fun _ e ne => ?_, (fun q => by cases q)⟩
        walk_at "r"
        refine ⟨_, rfl, rfl, rfl, d', cv _, _, rfl, gd, cv_look _, ?_⟩
        walk_at "r"
        refine ⟨by show 2 ≤ sizeLine; decide, fun l hl => ?_⟩
        exact k _ l .non (sG.trans (Same.upd_new hl)) (by rw [upd_same]; unfold dueV; rw [if_neg c1, if_pos c2]) (fun a b => absurd c2 (by omega))
      refine .inr (.inr ⟨by omega, by omega, fun H' r s1 hr1 => ?_⟩)
      walk_at "r"
      refine ⟨by show 2 ≤ sizeLine; decide, fun l hl => ?_⟩
      exact k _ l r (s1.trans (Same.upd_new hl)) (by rw [upd_same]; unfold dueV; rw [if_neg c1, if_neg c2]) (fun _ _ => hr1.same (Same.upd_new hl))
end
end Eld
set_option Elab.async false
set_option maxRecDepth 100000
set_option maxHeartbeats 4000000
set_option linter.all false
namespace Eld
open PySem L2
local macro_rules | `(tactic| walk_at "r1") => `(tactic| with_reducible first
  | refine r_seq ?_ | refine r_asgN ?_ | refine r_asg ?_ | refine r_gname ?_ | refine r_gsub ?_ | refine r_var rfl ?_ | refine r_c ?_ | refine r_op ?_ | refine r_un ?_ | refine r_u ?_ | refine r_i0 ?_ | refine r_cb ?_ | refine r_cons ?_ | refine r_nil ?_ | refine r_cl ?_ | refine r_fn rfl rfl ?_ | refine r_mt ?_
  | refine r_test ?_ | refine r_tb ?_ | refine r_bl ?_ | refine r_and ?_ | refine r_or ?_ | refine r_not ?_ | refine r_andV ?_ | refine r_orV ?_ | refine r_notV ?_ | refine r_ifX ?_ | refine r_ifs ?_ | refine r_chain ?_ | refine r_ret ?_ | refine r_next ?_ | refine r_drop ?_ | refine iteT ?_ | refine iteF ?_ | refine iteNT ?_ | refine iteNF ?_
  | refine r_int1 ?_ | refine r_boolB ?_ | refine r_eqI ?_ | refine r_neI ?_ | refine r_eqB ?_ | refine r_neB ?_ | refine r_eqS ?_ | refine r_neS ?_ | refine r_abs ?_ | refine r_max2 ?_ | refine r_min2 ?_ | refine r_yes ?_ | refine r_tup ?_ | refine r_sfld ?_ | refine r_m0 ?_ | refine r_m1 ?_ | refine r_lst ?_ | refine r_rng1 ?_ | refine r_rng2 ?_ | refine r_ixL (SqL.of (by assumption)) rfl ?_)
local macro_rules | `(tactic| walk_at "r") => `(tactic| repeat (first | walk_at "r1" | ((with_reducible refine r_var ?hv ?_); (case hv => rfl))))

/-! ## texts as they are shown -/
structure Sh (n m : Nat) (d : PyData) : Prop where
  sh : d.showable = true
  nd : d.hasDict = false
  sl : d.leavesShort 13 = true
  dp : d.depth ≤ n
  bk : d.bulk ≤ m
theorem r_repr {K : PySem.W.Frag} {H : Hp} {Q : VK} {a : Addr} {d : PyData} (h : Dp K H (.ref a) d) (s : Sh 60 1048576 d) (k : Q (.str d.shown) H) : rReprD K [.ref a] H Q :=
  ⟨a, d, rfl, h, s.sh, s.nd, s.dp, PyData.shown_fits_bulk (B := 13) (by decide) (by decide) s.sl (by have := s.bk; omega), k⟩
theorem int_sh {i : Int} (h : i.natAbs < 10000000) : Sh 0 0 (.int i) := by
  have e := PySem.int_text_length_le10 (a := i) (k := 7) (by decide) h
  have l : i.natAbs.log2 < 1920 := by
    rcases Nat.eq_zero_or_pos i.natAbs with z | z
    · rw [z]; decide
    · refine (Nat.log2_lt (Nat.ne_of_gt z)).mpr (Nat.lt_of_lt_of_le h ?_)
      exact Nat.le_trans (by decide : 10000000 ≤ 2 ^ 30) (Nat.pow_le_pow_right (by decide) (by decide))
  refine ⟨?_, ?_, ?_, ?_, ?_⟩
  · simp only [PyData.showable, decide_eq_true_eq]; exact l
  · simp only [PyData.hasDict]
  · simp only [PyData.leavesShort, decide_eq_true_eq]
    show (Str.ofString (toString i)).length ≤ 13
    rw [PySem.ofString_length]
    omega
  · simp only [PyData.depth]; omega
  · simp only [PyData.bulk]; omega
theorem str_sh {x : Str} {m : Nat} (h : x.cps.toList.all (fun c => decide (c < 16 ^ 8)) = true) (l : x.cps.size ≤ m) : Sh 0 m (.str x) := by
  refine ⟨?_, ?_, ?_, ?_, ?_⟩
  · simp only [PyData.showable]
  · simp only [PyData.hasDict]
  · simp only [PyData.leavesShort]; exact h
  · simp only [PyData.depth]; omega
  · simp only [PyData.bulk]; exact l
/-- all of a list -/
structure ShA (n m : Nat) (ds : List PyData) : Prop where
  sh : PyData.showableAll ds = true
  nd : PyData.hasDictAll ds = false
  sl : PyData.leavesShortAll 13 ds = true
  dp : PyData.depthAll ds ≤ n
  bk : PyData.bulkAll ds ≤ m
theorem ShA.nil : ShA 0 0 [] := by
  refine ⟨?_, ?_, ?_, ?_, ?_⟩ <;> simp [PyData.showableAll, PyData.hasDictAll, PyData.leavesShortAll, PyData.depthAll, PyData.bulkAll]
theorem ShA.cons {n m n' m' : Nat} {d : PyData} {ds : List PyData} (h : Sh n m d) (r : ShA n' m' ds) : ShA (max n n') (m + 1 + m') (d :: ds) := by
  obtain ⟨a1, a2, a3, a4, a5⟩ := h
  obtain ⟨b1, b2, b3, b4, b5⟩ := r
  refine ⟨?_, ?_, ?_, ?_, ?_⟩
  · simp only [PyData.showableAll, a1, b1, Bool.and_self]
  · simp only [PyData.hasDictAll, a2, b2, Bool.or_self]
  · simp only [PyData.leavesShortAll, a3, b3, Bool.and_self]
  · simp only [PyData.depthAll]; omega
  · simp only [PyData.bulkAll]; omega
theorem ShA.lst {n m : Nat} {ds : List PyData} (h : ShA n m ds) : Sh (n + 1) m (.list ds) := by
  obtain ⟨b1, b2, b3, b4, b5⟩ := h
  refine ⟨?_, ?_, ?_, ?_, ?_⟩
  · simp only [PyData.showable, b1]
  · simp only [PyData.hasDict, b2]
  · simp only [PyData.leavesShort, b3]
  · simp only [PyData.depth]; omega
  · simp only [PyData.bulk]; omega
theorem ShA.tup {n m : Nat} {ds : List PyData} (h : ShA n m ds) : Sh (n + 1) m (.tuple ds) := by
  obtain ⟨b1, b2, b3, b4, b5⟩ := h
  refine ⟨?_, ?_, ?_, ?_, ?_⟩
  · simp only [PyData.showable, b1]
  · simp only [PyData.hasDict, b2]
  · simp only [PyData.leavesShort, b3]
  · simp only [PyData.depth]; omega
  · simp only [PyData.bulk]; omega
theorem Sh.le {n m n' m' : Nat} {d : PyData} (h : Sh n m d) (a : n ≤ n') (b : m ≤ m') : Sh n' m' d := ⟨h.sh, h.nd, h.sl, Nat.le_trans h.dp a, Nat.le_trans h.bk b⟩
theorem ShA.le {n m n' m' : Nat} {d : List PyData} (h : ShA n m d) (a : n ≤ n') (b : m ≤ m') : ShA n' m' d := ⟨h.sh, h.nd, h.sl, Nat.le_trans h.dp a, Nat.le_trans h.bk b⟩
theorem ints_sh : ∀ {l : List Int}, (∀ x ∈ l, x.natAbs < 10000000) → ShA 0 l.length (intsD l)
  | [], _ => ShA.nil
  | x :: l, h => ((ShA.cons (int_sh (h x (List.mem_cons_self ..))) (ints_sh fun y hy => h y (List.mem_cons_of_mem _ hy)))).le (by omega) (by rw [List.length_cons]; omega)
theorem Row.sh {r : Row} (h : ∀ x ∈ r.vals, x.natAbs < 10000000) : Sh 1 1000 r.data := by
  have hl := r.le
  unfold Row.data
  split
  · exact (ints_sh h).tup.le (by omega) hl
  · exact (ints_sh h).lst.le (by omega) hl
theorem menu_small {zs : List Int} (hz : zs ∈ menu) : ((allRows zs).length : Int) ≤ 8 ∧ zs.length ≤ 3 ∧ ∀ z ∈ zs, z ≤ 8 := ⟨by have := (menu_stores zs hz).2.2; omega, (menu_len zs hz).2, fun z h => (menu_mem zs hz z h).2⟩
theorem set_small {l : List Int} {n : Int} (h : setB l n = true) (hn : n ≤ 8) : ∀ x ∈ l, x.natAbs < 10000000 := fun x hx => by
  unfold setB at h
  rw [Bool.and_eq_true, List.all_eq_true] at h
  have := h.1 x hx
  rw [Bool.and_eq_true, decide_eq_true_eq, decide_eq_true_eq] at this
  omega
theorem getD_small {zs : List Int} (hz : ∀ z ∈ zs, z ≤ 8) (i : Nat) : zs.getD i 0 ≤ 8 := by
  rw [List.getD_eq_getElem?_getD]
  cases c : zs[i]? with
  | none => decide
  | some z => exact hz z (List.mem_of_getElem? c)
theorem nm_small {zs : List Int} (hz : zs.length ≤ 3) {n : Int} (h : nameB zs n = true) : n.natAbs < 10000000 := by
  unfold nameB at h
  rw [Bool.and_eq_true, decide_eq_true_eq, decide_eq_true_eq] at h
  omega
theorem kd_sh {x : Str} (h : (x.cps.toList.all (fun c => decide (c < 16 ^ 8)) && decide (x.cps.size ≤ 6)) = true) : Sh 0 6 (.str x) := by
  rw [Bool.and_eq_true, decide_eq_true_eq] at h
  exact str_sh h.1 h.2
/-- a good text can be shown -/
theorem good_sh {zs : List Int} (hz : zs ∈ menu) : ∀ {t : Tx}, t.good zs ((allRows zs).length : Nat) = true → Sh t.data.depth (1100 * t.nodes) t.data
  | .skip, _ => ⟨(ShA.cons (kd_sh (x := "skip") (by decide +kernel)) ShA.nil).tup.sh, (ShA.cons (kd_sh (x := "skip") (by decide +kernel)) ShA.nil).tup.nd, (ShA.cons (kd_sh (x := "skip") (by decide +kernel)) ShA.nil).tup.sl, Nat.le_refl _, Nat.le_trans (ShA.cons (kd_sh (x := "skip") (by decide +kernel)) ShA.nil).tup.bk (by decide)⟩
  | .hole, _ => ⟨(ShA.cons (kd_sh (x := "hole") (by decide +kernel)) ShA.nil).tup.sh, (ShA.cons (kd_sh (x := "hole") (by decide +kernel)) ShA.nil).tup.nd, (ShA.cons (kd_sh (x := "hole") (by decide +kernel)) ShA.nil).tup.sl, Nat.le_refl _, Nat.le_trans (ShA.cons (kd_sh (x := "hole") (by decide +kernel)) ShA.nil).tup.bk (by decide)⟩
  | .set n r, h => by
    obtain ⟨m8, m3, mz⟩ := menu_small hz
    simp only [Tx.good, Tx.own, Bool.and_eq_true, List.all_eq_true, decide_eq_true_eq] at h
    have hr : ∀ x ∈ r.vals, x.natAbs < 10000000 := fun x hx => by
      have h1 := h.2.2 x hx
      have h2 := getD_small mz n.toNat
      omega
    have := (ShA.cons (kd_sh (x := "set") (by decide +kernel)) (ShA.cons (int_sh (nm_small m3 h.1)) (ShA.cons (Row.sh hr) ShA.nil))).tup
    exact ⟨this.sh, this.nd, this.sl, Nat.le_refl _, Nat.le_trans this.bk (by simp only [Tx.nodes]; omega)⟩
  | .draw n p q x y, h => by
    obtain ⟨m8, m3, mz⟩ := menu_small hz
    simp only [Tx.good, Tx.own, Bool.and_eq_true, List.all_cons, List.all_nil, decide_eq_true_eq] at h
    have h2 := getD_small mz n.toNat
    have hs := set_small h.2.1 h2
    have this := (ShA.cons (kd_sh (x := "draw") (by decide +kernel)) (ShA.cons (int_sh (nm_small m3 h.1)) (ShA.cons (ShA.cons (int_sh (hs p (by simp))) (ShA.cons (int_sh (hs q (by simp))) ShA.nil)).tup (ShA.cons (ShA.cons (int_sh (i := x) (by omega)) (ShA.cons (int_sh (i := y) (by omega)) ShA.nil)).tup ShA.nil)))).tup
    exact ⟨this.sh, this.nd, this.sl, Nat.le_refl _, Nat.le_trans this.bk (by simp only [Tx.nodes]; omega)⟩
  | .thn a b, h => by
    simp only [Tx.good, Bool.and_eq_true] at h
    have this := (ShA.cons (kd_sh (x := "then") (by decide +kernel)) (ShA.cons (good_sh hz h.1) (ShA.cons (good_sh hz h.2) ShA.nil))).tup
    exact ⟨this.sh, this.nd, this.sl, Nat.le_refl _, Nat.le_trans this.bk (by simp only [Tx.nodes]; omega)⟩
  | .iff s a b, h => by
    obtain ⟨m8, m3, mz⟩ := menu_small hz
    simp only [Tx.good, Bool.and_eq_true] at h
    have this := (ShA.cons (kd_sh (x := "if") (by decide +kernel)) (ShA.cons (Row.sh (set_small h.1 m8)) (ShA.cons (good_sh hz h.2.1) (ShA.cons (good_sh hz h.2.2) ShA.nil)))).tup
    exact ⟨this.sh, this.nd, this.sl, Nat.le_refl _, Nat.le_trans this.bk (by simp only [Tx.nodes]; omega)⟩
  | .eith a b, h => by
    simp only [Tx.good, Bool.and_eq_true] at h
    have this := (ShA.cons (kd_sh (x := "either") (by decide +kernel)) (ShA.cons (good_sh hz h.1) (ShA.cons (good_sh hz h.2) ShA.nil))).tup
    exact ⟨this.sh, this.nd, this.sl, Nat.le_refl _, Nat.le_trans this.bk (by simp only [Tx.nodes]; omega)⟩
  | .whil s a, h => by
    obtain ⟨m8, m3, mz⟩ := menu_small hz
    simp only [Tx.good, Bool.and_eq_true] at h
    have this := (ShA.cons (kd_sh (x := "while") (by decide +kernel)) (ShA.cons (Row.sh (set_small h.1 m8)) (ShA.cons (good_sh hz h.2) ShA.nil))).tup
    exact ⟨this.sh, this.nd, this.sl, Nat.le_refl _, Nat.le_trans this.bk (by simp only [Tx.nodes]; omega)⟩
end Eld
set_option Elab.async false
set_option maxRecDepth 100000
set_option maxHeartbeats 4000000
set_option linter.all false
namespace Eld
open PySem L2
local macro_rules | `(tactic| walk_at "r1") => `(tactic| with_reducible first
  | refine r_seq ?_ | refine r_asgN ?_ | refine r_asg ?_ | refine r_gname ?_ | refine r_gsub ?_ | refine r_var rfl ?_ | refine r_c ?_ | refine r_op ?_ | refine r_un ?_ | refine r_u ?_ | refine r_i0 ?_ | refine r_cb ?_ | refine r_cons ?_ | refine r_nil ?_ | refine r_cl ?_ | refine r_fn rfl rfl ?_ | refine r_mt ?_
  | refine r_test ?_ | refine r_tb ?_ | refine r_bl ?_ | refine r_and ?_ | refine r_or ?_ | refine r_not ?_ | refine r_andV ?_ | refine r_orV ?_ | refine r_notV ?_ | refine r_ifX ?_ | refine r_ifs ?_ | refine r_chain ?_ | refine r_ret ?_ | refine r_next ?_ | refine r_drop ?_ | refine iteT ?_ | refine iteF ?_ | refine iteNT ?_ | refine iteNF ?_
  | refine r_int1 ?_ | refine r_boolB ?_ | refine r_eqI ?_ | refine r_neI ?_ | refine r_eqB ?_ | refine r_neB ?_ | refine r_eqS ?_ | refine r_neS ?_ | refine r_abs ?_ | refine r_max2 ?_ | refine r_min2 ?_ | refine r_yes ?_ | refine r_tup ?_ | refine r_sfld ?_ | refine r_m0 ?_ | refine r_m1 ?_ | refine r_lst ?_ | refine r_rng1 ?_ | refine r_rng2 ?_ | refine r_ixL (SqL.of (by assumption)) rfl ?_)
local macro_rules | `(tactic| walk_at "r") => `(tactic| repeat (first | walk_at "r1" | ((with_reducible refine r_var ?hv ?_); (case hv => rfl))))

/-! ## what a whole is, its meeting -/
theorem Asked2.same {C : Addr} {K : PySem.W.Frag} {H H' : Hp} {p : Addr} {zs : List Int} {q : Addr} {W : Tx} (h : Asked2 C K H p zs q W) (s : Same H H') : Asked2 C K H' p zs q W := by
  obtain ⟨v, t, x, u, a1, a2, a3, a4, a5, a6, a7, a8⟩ := h
  exact ⟨v, t, x, u, s _ _ a1, a2.same s, a3.same s, a4, a5, a6, a7.same s, a8⟩
theorem Asked3.same {C : Addr} {K : PySem.W.Frag} {H H' : Hp} {p : Addr} {zs : List Int} {q : Addr} {W : Tx} (h : Asked3 C K H p zs q W) (s : Same H H') : Asked3 C K H' p zs q W := by
  obtain ⟨v, t, wa, ws, x, u, z, a1, a2, a3, a4, a5, a6, a7, a8, a9, b1, b2⟩ := h
  exact ⟨v, t, wa, ws, x, u, z, s _ _ a1, a2.same s, a3.same s, a4, a5, a6, s _ _ a7, a8, a9, b1.same s, b2⟩
def Asked (C : Addr) (K : PySem.W.Frag) (H : Hp) (p : Addr) (zs : List Int) (q : Addr) (W : Tx) : Prop := Asked2 C K H p zs q W ∨ Asked3 C K H p zs q W
theorem Asked.same {C : Addr} {K : PySem.W.Frag} {H H' : Hp} {p : Addr} {zs : List Int} {q : Addr} {W : Tx} (h : Asked C K H p zs q W) (s : Same H H') : Asked C K H' p zs q W := h.imp (fun a => a.same s) fun a => a.same s
theorem Asked.sp {C : Addr} {K : PySem.W.Frag} {H : Hp} {p : Addr} {zs : List Int} {q : Addr} {W : Tx} (h : Asked C K H p zs q W) : SpaceAt C K H p zs ∧ W.nodes < 210 := by
  rcases h with ⟨v, t, x, u, a1, a2, a3, a4, a5, a6, a7, a8, a9, b1, b2, b3⟩ | ⟨v, t, wa, ws, x, u, z, a1, a2, a3, a4, a5, a6, a7, a8, a9, b1, b2, b3, b4, b5, b6⟩
  · exact ⟨a2, b3⟩
  · exact ⟨a2, b6⟩
def spMeets (C : Addr) (K : PySem.W.Frag) : Sp := fun vs H Q _ => ∃ (p q : Addr) (wv : V) (zs : List Int) (W : Tx) (D : PyData), vs = [.ref p, wv, .ref q] ∧ zs ∈ menu ∧ Asked C K H p zs q W ∧ Tx.At H W wv ∧ W.good zs ((allRows zs).length : Nat) = true ∧ W.holes = 0 ∧ W.data.depth ≤ 55 ∧
  Dt H (.ref q) D ∧ Sh 60 1048576 D ∧ ∀ H', Same H H' → Q (.bl true) H'
theorem holesV_ok {zs : List Int} {many : Int} {t : Tx} (h1 : t.good zs many = true) (h2 : t.parts ≤ 24) (h3 : t.depth ≤ 4) : holesV zs many t = some ((t.holes : Nat) : Int) := by
  unfold holesV
  rw [h1, decide_eq_true h2, decide_eq_true h3]
  rfl
theorem holesV_no {zs : List Int} {many : Int} {t : Tx} (h : 24 < t.parts ∨ 4 < t.depth) : holesV zs many t = none := by
  unfold holesV
  rcases h with h | h
  · rw [decide_eq_false (show ¬ t.parts ≤ 24 by omega)]
    simp
  · rw [decide_eq_false (show ¬ t.depth ≤ 4 by omega)]
    simp
theorem pair_sh {a b : Nat} (ha : a < 210) (hb : b < 210) : Sh 60 1048576 (.tuple [.int (a : Nat), .int (b : Nat)]) := (ShA.cons (int_sh (i := (a : Nat)) (by omega)) (ShA.cons (int_sh (i := (b : Nat)) (by omega)) ShA.nil)).tup.le (by decide) (by decide)
theorem many_sh {a : Nat} (ha : a < 210) : Sh 60 1048576 (.list [.str "many", .int (a : Nat)]) := (ShA.cons (kd_sh (x := "many") (by decide +kernel)) (ShA.cons (int_sh (i := (a : Nat)) (by omega)) ShA.nil)).lst.le (by decide) (by decide)
theorem text_sh {zs : List Int} (hz : zs ∈ menu) {t : Tx} (h : t.good zs ((allRows zs).length : Nat) = true) (hn : t.nodes < 210) (hd : t.data.depth ≤ 55) : Sh 60 1048576 (.list [.str "text", t.data]) := (ShA.cons (kd_sh (x := "text") (by decide +kernel)) (ShA.cons (good_sh hz h) ShA.nil)).lst.le (by omega) (by omega)
theorem Tx.parts_nodes : ∀ t : Tx, t.parts ≤ t.nodes
  | .skip => Nat.le_refl _
  | .hole => Nat.le_refl _
  | .set _ _ => Nat.le_refl _
  | .draw _ _ _ _ _ => Nat.le_refl _
  | .thn a b => by have := a.parts_nodes; have := b.parts_nodes; simp only [Tx.parts, Tx.nodes]; omega
  | .iff _ a b => by have := a.parts_nodes; have := b.parts_nodes; simp only [Tx.parts, Tx.nodes]; omega
  | .eith a b => by have := a.parts_nodes; have := b.parts_nodes; simp only [Tx.parts, Tx.nodes]; omega
  | .whil _ a => by have := a.parts_nodes; simp only [Tx.parts, Tx.nodes]; omega
theorem Tx.depth_nodes : ∀ t : Tx, t.depth ≤ t.nodes
  | .skip => Nat.zero_le _
  | .hole => Nat.zero_le _
  | .set _ _ => Nat.zero_le _
  | .draw _ _ _ _ _ => Nat.zero_le _
  | .thn a b => by have := a.depth_nodes; have := b.depth_nodes; simp only [Tx.depth, Tx.nodes]; omega
  | .iff _ a b => by have := a.depth_nodes; have := b.depth_nodes; simp only [Tx.depth, Tx.nodes]; omega
  | .eith a b => by have := a.depth_nodes; have := b.depth_nodes; simp only [Tx.depth, Tx.nodes]; omega
  | .whil _ a => by have := a.depth_nodes; simp only [Tx.depth, Tx.nodes]; omega
section
variable {P : Program} {w : World} {K : PySem.W.Frag} {mg : Str → Option Value} {base : Heap} {C : Addr}
theorem ok_meets {f : Addr} {fd : FuncData} (F : Fun K "_law_meets" "_law_meets" s__law_meets f fd) (Z : Zs mg) (d__law_shape : DefD P w K mg base 211 "_law_shape" 1 [] byPlace (spShapeN 210)) (d__law_told : DefD P w K mg base 215 "_law_told" 3 [] byPlace (spTold C K)) (d_size : DefD P w K mg base 213 "size" 1 [] byPlace spSize) (d_depth : DefD P w K mg base 213 "depth" 1 [] byPlace spDepth) (d_is_text : DefD P w K mg base 7 "is_text" 2 [] byPlace (spIsText C K)) : FnG P w K mg base CX0 216 f fd ["room", "whole", "things"] (spMeets C K) := by
  refine okG F sc__law_meets (fun vs H Q E h => ?_) (fun cdv B up z H vs Q E hG hr h => ?_)
  · obtain ⟨p, q, wv, zs, W, D, rfl, _⟩ := h
    rfl
  obtain ⟨p, q, wv, zs, W, D, rfl, hz, hq, hW, wg, w0, wd, hD, sD, k⟩ := h
  have hu : (B.deeper (PyProof.Rows.envOfC "_law_meets" (defScope s__law_meets) z.heap.objs.size f cdv)).units + 64 < cLine := hr.units
  obtain ⟨hp, wn⟩ := hq.sp
  have pn := W.parts_nodes
  have dn := W.depth_nodes
  refine ⟨_, (pss_cons (ps_par rfl sc__law_meets.nd (i := 5) (j := 6) rfl rfl (by decide) rfl rfl (pa_cons (pd_pos d__law_shape hG hr (by decide) (by rfl) (pa_cons (pv 1) pa_nil)) (pa_cons (pe_callB (show CallR _ _ (rReprD K) from call_reprD hG hu) (by rfl) Z.repr_ (by decide +kernel) (pa_cons (pv 2) pa_nil)) pa_nil)) rfl)
  (pss_cons (ps_set (i := 3) sc__law_meets.nd rfl (by first | exact Or.inl rfl | exact Or.inr rfl) (pe_ifExp (pt_cmpR op_gt (pe_ix (show IxR _ (rIxT K) from ix_tup) (pv 5) pe_int (fun _ _ => rfl)) pe_int (nomark _)) (pe_lst (pa_cons pe_str (pa_cons (pe_ix (show IxR _ (rIxT K) from ix_tup) (pv 5) pe_int (fun _ _ => rfl)) pa_nil))) (pe_lst (pa_cons pe_str (pa_cons (pe_ix (show IxR _ (rIxT K) from ix_tup) (pv 5) pe_int (fun _ _ => rfl)) pa_nil)))))
  (pss_cons (ps_if (PW.pt (pw_and (pt_cmpR op_le (pe_ix (show IxR _ (rIxT K) from ix_tup) (pv 5) pe_int (fun _ _ => rfl)) pe_int (nomark _)) (pw_and1 (pt_cmpR op_le (pe_ix (show IxR _ (rIxT K) from ix_tup) (pv 5) pe_int (fun _ _ => rfl)) pe_int (nomark _))))) (pss_cons (ps_set (i := 3) sc__law_meets.nd rfl (by first | exact Or.inl rfl | exact Or.inr rfl) (pe_lst (pa_cons pe_str (pa_cons (pv 1) pa_nil))))
  (pss_one (ps_if (pt_cmpR op_ne (pe_callB (show CallR _ _ (rReprD K) from call_reprD hG hu) (by rfl) Z.repr_ (by decide +kernel) (pa_cons (pe_tup (pa_cons (pd_pos d_size hG hr (by decide) (by rfl) (pa_cons (pv 1) pa_nil)) (pa_cons (pd_pos d_depth hG hr (by decide) (by rfl) (pa_cons (pv 1) pa_nil)) pa_nil))) pa_nil)) (pe_callB (show CallR _ _ (rReprD K) from call_reprD hG hu) (by rfl) Z.repr_ (by decide +kernel) (pa_cons (pv 5) pa_nil)) (nomark _)) (pss_one (ps_ret pe_bl)) pss_nil))) pss_nil)
  (pss_cons (ps_for PassesOwn.never rfl (pi_range1 (by rfl) Z.range_ (pa_cons pe_int pa_nil)) (pg_name (i := 4) sc__law_meets.nd rfl (by first | exact Or.inl rfl | exact Or.inr rfl))
  (pss_one (ps_if (pt_cmpR op_ne (pe_callB (show CallR _ _ (rReprD K) from call_reprD hG hu) (by rfl) Z.repr_ (by decide +kernel) (pa_cons (pd_pos d__law_told hG hr (by decide) (by rfl) (pa_cons (pv 0) (pa_cons (pv 2) (pa_cons (pe_cmpR op_eq (pv 4) pe_int (nomark _)) pa_nil)))) pa_nil)) (pe_callB (show CallR _ _ (rReprD K) from call_reprD hG hu) (by rfl) Z.repr_ (by decide +kernel) (pa_cons (pv 3) pa_nil)) (nomark _)) (pss_one (ps_ret pe_bl)) pss_nil)))
  (pss_one (ps_ret (pe_and (pe_cmpR op_eq (pe_cmpR op_isBl (pd_pos d_is_text hG hr (by decide) (by rfl) (pa_cons (pv 0) (pa_cons (pv 1) pa_nil))) pe_bl (nomark _)) (pe_cmpR op_eq (pe_ix (show IxR _ (rIxL K) from ix_list) (pv 3) pe_int (fun _ _ => rfl)) pe_str (nomark _)) (nomark _)) (pe_one (pe_cmpR op_eq (pe_callB (show CallR _ _ (rReprD K) from call_reprD hG hu) (by rfl) Z.repr_ (by decide +kernel) (pa_cons (pv 2) pa_nil)) (pv 6) (nomark _)))))))))), ?_⟩
  walk_at "r"
  refine r_par ?_
  walk_at "r"
  refine ⟨wv, W, rfl, hW, wn, fun H1 sq s1 hsq => ?_⟩
  walk_at "r"
  refine r_repr (Dt.dp _ _ (Dt.same s1 _ _ hD)) sD ?_
  refine ⟨_, _, rfl, ?_⟩
  walk_at "r"
  refine r_ixT (SqT.of hsq) (atI_nat (j := 0) rfl) ?_
  walk_at "r"
  by_cases c1 : 24 < W.parts
  · rw [decide_eq_true (show (24 : Int) < ((W.parts : Nat) : Int) by omega)]
    walk_at "r"
    refine r_ixT (SqT.of hsq) (atI_nat (j := 0) rfl) ?_
    walk_at "r"
    refine ⟨by show 2 ≤ sizeLine; decide, fun dl hdl => ?_⟩
    have sd := Same.upd_new (o := .lst [.str "many", .int ((W.parts : Nat) : Int)]) hdl
    have gd : (upd H1 dl (.lst [.str "many", .int ((W.parts : Nat) : Int)])) dl = some (.lst [.str "many", .int ((W.parts : Nat) : Int)]) := upd_same
    generalize upd H1 dl (.lst [.str "many", .int ((W.parts : Nat) : Int)]) = H2 at sd gd ⊢
    walk_at "r"
    have s2 := s1.trans sd
    refine r_ixT (SqT.of (sd _ _ hsq)) (atI_nat (j := 0) rfl) ?_
    walk_at "r"
    rw [decide_eq_false (show ¬ ((W.parts : Nat) : Int) ≤ 24 by omega)]
    walk_at "r"
    with_reducible refine r_for ?_
    walk_at "r"
    refine ⟨2, rfl, by decide, by decide, ?_⟩
    refine for_range (fun i σ A => ∃ a4 : Option V, σ = [some (.ref p), some wv, some (.ref q), some (.ref dl), a4, some (.ref sq), some (.str D.shown)] ∧ Same H2 A) ⟨_, rfl, Same.refl _⟩ (fun i σ A hi pp => ?_) (fun σ A pp => ?_)
    · obtain ⟨a4, rfl, sA⟩ := pp
      walk_at "r"
      refine ⟨p, q, _, zs, W, rfl, hq.same (s2.trans sA), fun A1 l r s3 hl hr2 => ?_⟩
      unfold dueV at hl
      rw [if_pos c1] at hl
      walk_at "r"
      refine r_repr (d := .list [.str "many", .int (W.parts : Nat)]) (.lst (SqL.of hl) (.cons (.str _) (.cons (.int _) .nil))) (many_sh (a := W.parts) (by omega)) ?_
      have sF := (s2.trans sA).trans s3
      have gA := (sA.trans s3) _ _ gd
      walk_at "r"
      refine r_repr (d := .list [.str "many", .int (W.parts : Nat)]) (.lst (SqL.of gA) (.cons (.str _) (.cons (.int _) .nil))) (many_sh (a := W.parts) (by omega)) ?_
      walk_at "r"
      rw [decide_eq_true (rfl : V.str (PyData.shown (.list [.str "many", .int (W.parts : Nat)])) = V.str (PyData.shown (.list [.str "many", .int (W.parts : Nat)])))]
      walk_at "r"
      exact ⟨_, rfl, sA.trans s3⟩
    · obtain ⟨a4, rfl, sA⟩ := pp
      have sF := s2.trans sA
      walk_at "r"
      refine ⟨p, zs, wv, W, rfl, hp.same sF, hW.same sF, by omega, fun A1 s3 => ?_⟩
      rw [holesV_no (.inl c1)]
      refine ⟨_, _, rfl, rfl, ?_⟩
      walk_at "r"
      refine r_ixL (SqL.of ((sA.trans s3) _ _ gd)) (atI_nat (j := 0) rfl) ?_
      walk_at "r"
      rw [show decide (V.bl (decide (decide ((none : Option Int) = some (0 : Int)) = true)) = V.bl (decide (V.str ("many" : Str) = V.str ("text" : Str)))) = true from by decide +kernel]
      walk_at "r"
      refine r_repr (Dt.dp _ _ (Dt.same (sF.trans s3) _ _ hD)) sD ?_
      walk_at "r"
      rw [decide_eq_true (rfl : V.str D.shown = V.str D.shown)]
      walk_at "r"
      exact k _ (sF.trans s3)
  rw [decide_eq_false (show ¬ (24 : Int) < ((W.parts : Nat) : Int) by omega)]
  walk_at "r"
  refine r_ixT (SqT.of hsq) (atI_nat (j := 1) rfl) ?_
  walk_at "r"
  refine ⟨by show 2 ≤ sizeLine; decide, fun dl hdl => ?_⟩
  have sd := Same.upd_new (o := .lst [.str "many", .int ((W.depth : Nat) : Int)]) hdl
  have gd : (upd H1 dl (.lst [.str "many", .int ((W.depth : Nat) : Int)])) dl = some (.lst [.str "many", .int ((W.depth : Nat) : Int)]) := upd_same
  generalize upd H1 dl (.lst [.str "many", .int ((W.depth : Nat) : Int)]) = H2 at sd gd ⊢
  walk_at "r"
  refine r_ixT (SqT.of (sd _ _ hsq)) (atI_nat (j := 0) rfl) ?_
  walk_at "r"
  rw [decide_eq_true (show ((W.parts : Nat) : Int) ≤ 24 by omega)]
  walk_at "r"
  refine r_ixT (SqT.of (sd _ _ hsq)) (atI_nat (j := 1) rfl) ?_
  walk_at "r"
  have s2 := s1.trans sd
  by_cases c2 : 4 < W.depth
  · rw [decide_eq_false (show ¬ ((W.depth : Nat) : Int) ≤ 4 by omega)]
    walk_at "r"
    with_reducible refine r_for ?_
    walk_at "r"
    refine ⟨2, rfl, by decide, by decide, ?_⟩
    refine for_range (fun i σ A => ∃ a4 : Option V, σ = [some (.ref p), some wv, some (.ref q), some (.ref dl), a4, some (.ref sq), some (.str D.shown)] ∧ Same H2 A) ⟨_, rfl, Same.refl _⟩ (fun i σ A hi pp => ?_) (fun σ A pp => ?_)
    · obtain ⟨a4, rfl, sA⟩ := pp
      walk_at "r"
      refine ⟨p, q, _, zs, W, rfl, hq.same (s2.trans sA), fun A1 l r s3 hl hr2 => ?_⟩
      unfold dueV at hl
      rw [if_neg c1, if_pos c2] at hl
      walk_at "r"
      refine r_repr (d := .list [.str "many", .int (W.depth : Nat)]) (.lst (SqL.of hl) (.cons (.str _) (.cons (.int _) .nil))) (many_sh (a := W.depth) (by omega)) ?_
      have sF := (s2.trans sA).trans s3
      have gA := (sA.trans s3) _ _ gd
      walk_at "r"
      refine r_repr (d := .list [.str "many", .int (W.depth : Nat)]) (.lst (SqL.of gA) (.cons (.str _) (.cons (.int _) .nil))) (many_sh (a := W.depth) (by omega)) ?_
      walk_at "r"
      rw [decide_eq_true (rfl : V.str (PyData.shown (.list [.str "many", .int (W.depth : Nat)])) = V.str (PyData.shown (.list [.str "many", .int (W.depth : Nat)])))]
      walk_at "r"
      exact ⟨_, rfl, sA.trans s3⟩
    · obtain ⟨a4, rfl, sA⟩ := pp
      have sF := s2.trans sA
      walk_at "r"
      refine ⟨p, zs, wv, W, rfl, hp.same sF, hW.same sF, by omega, fun A1 s3 => ?_⟩
      rw [holesV_no (.inr (by omega))]
      refine ⟨_, _, rfl, rfl, ?_⟩
      walk_at "r"
      refine r_ixL (SqL.of ((sA.trans s3) _ _ gd)) (atI_nat (j := 0) rfl) ?_
      walk_at "r"
      rw [show decide (V.bl (decide (decide ((none : Option Int) = some (0 : Int)) = true)) = V.bl (decide (V.str ("many" : Str) = V.str ("text" : Str)))) = true from by decide +kernel]
      walk_at "r"
      refine r_repr (Dt.dp _ _ (Dt.same (sF.trans s3) _ _ hD)) sD ?_
      walk_at "r"
      rw [decide_eq_true (rfl : V.str D.shown = V.str D.shown)]
      walk_at "r"
      exact k _ (sF.trans s3)
  rw [decide_eq_true (show ((W.depth : Nat) : Int) ≤ 4 by omega)]
  walk_at "r"
  have gW := hW.same s2
  generalize H2 = H3 at sd s2 gW ⊢
  refine ⟨by show 2 ≤ sizeLine; decide, fun dl2 hdl2 => ?_⟩
  have sd2 := Same.upd_new (o := .lst [.str "text", wv]) hdl2
  have gd2 : (upd H3 dl2 (.lst [.str "text", wv])) dl2 = some (.lst [.str "text", wv]) := upd_same
  generalize upd H3 dl2 (.lst [.str "text", wv]) = H4 at sd2 gd2 ⊢
  have s4 := s2.trans sd2
  walk_at "r"
  have ex : ∃ zs ∈ menu, textOr zs ((allRows zs).length : Nat) W = true := ⟨zs, hz, by
    unfold textOr
    rw [holesV_ok wg (by omega) (by omega), w0]
    rfl⟩
  refine ⟨wv, W, rfl, hW.same s4, wn, ex, fun H5 s5 => ?_⟩
  walk_at "r"
  refine ⟨wv, W, rfl, hW.same (s4.trans s5), wn, ex, fun H6 s6 => ?_⟩
  walk_at "r"
  refine ⟨by show 2 ≤ sizeLine; decide, fun T hT => ?_⟩
  have sT := Same.upd_new (o := .tup [.int ((W.parts : Nat) : Int), .int ((W.depth : Nat) : Int)]) hT
  have gT : (upd H6 T (.tup [.int ((W.parts : Nat) : Int), .int ((W.depth : Nat) : Int)])) T = some (.tup [.int ((W.parts : Nat) : Int), .int ((W.depth : Nat) : Int)]) := upd_same
  generalize upd H6 T (.tup [.int ((W.parts : Nat) : Int), .int ((W.depth : Nat) : Int)]) = H7 at sT gT ⊢
  have s57 := (s5.trans s6).trans sT
  walk_at "r"
  refine r_repr (d := .tuple [.int (W.parts : Nat), .int (W.depth : Nat)]) (.tup (SqT.of gT) (.cons (.int _) (.cons (.int _) .nil))) (pair_sh (by omega) (by omega)) ?_
  walk_at "r"
  refine r_repr (d := .tuple [.int (W.parts : Nat), .int (W.depth : Nat)]) (.tup (SqT.of (((sd.trans sd2).trans s57) _ _ hsq)) (.cons (.int _) (.cons (.int _) .nil))) (pair_sh (by omega) (by omega)) ?_
  walk_at "r"
  rw [decide_eq_true (rfl : V.str (PyData.shown (.tuple [.int (W.parts : Nat), .int (W.depth : Nat)])) = V.str (PyData.shown (.tuple [.int (W.parts : Nat), .int (W.depth : Nat)])))]
  walk_at "r"
  have gd := s57 _ _ gd2
  have s2' := s4.trans s57
  clear s2 sd sd2 s4 s57 gT sT s5 s6 gW gd2
  generalize dl2 = dl at gd ⊢
  generalize H7 = H2 at gd s2' ⊢
  have s2 := s2'
  with_reducible refine r_for ?_
  walk_at "r"
  refine ⟨2, rfl, by decide, by decide, ?_⟩
  refine for_range (fun i σ A => ∃ a4 : Option V, σ = [some (.ref p), some wv, some (.ref q), some (.ref dl), a4, some (.ref sq), some (.str D.shown)] ∧ Same H2 A) ⟨_, rfl, Same.refl _⟩ (fun i σ A hi pp => ?_) (fun σ A pp => ?_)
  · obtain ⟨a4, rfl, sA⟩ := pp
    walk_at "r"
    refine ⟨p, q, _, zs, W, rfl, hq.same (s2.trans sA), fun A1 l r s3 hl hr2 => ?_⟩
    unfold dueV at hl
    rw [if_neg c1, if_neg c2] at hl
    walk_at "r"
    refine r_repr (d := .list [.str "text", W.data]) (.lst (SqL.of hl) (.cons (.str _) (.cons (Dt.dp _ _ (hr2 (by omega) (by omega)).dt) .nil))) (text_sh hz wg wn wd) ?_
    have sF := (s2.trans sA).trans s3
    have gA := (sA.trans s3) _ _ gd
    walk_at "r"
    refine r_repr (d := .list [.str "text", W.data]) (.lst (SqL.of gA) (.cons (.str _) (.cons (Dt.dp _ _ (hW.same sF).dt) .nil))) (text_sh hz wg wn wd) ?_
    walk_at "r"
    rw [decide_eq_true (rfl : V.str (PyData.shown (.list [.str "text", W.data])) = V.str (PyData.shown (.list [.str "text", W.data])))]
    walk_at "r"
    exact ⟨_, rfl, sA.trans s3⟩
  · obtain ⟨a4, rfl, sA⟩ := pp
    have sF := s2.trans sA
    walk_at "r"
    refine ⟨p, zs, wv, W, rfl, hp.same sF, hW.same sF, by omega, fun A1 s3 => ?_⟩
    rw [holesV_ok wg (by omega) (by omega), w0]
    refine ⟨_, _, rfl, rfl, ?_⟩
    walk_at "r"
    refine r_ixL (SqL.of ((sA.trans s3) _ _ gd)) (atI_nat (j := 0) rfl) ?_
    walk_at "r"
    rw [show decide (V.bl (decide (decide ((some (((0 : Nat) : Int)) : Option Int) = some (0 : Int)) = true)) = V.bl (decide (V.str ("text" : Str) = V.str ("text" : Str)))) = true from by decide +kernel]
    walk_at "r"
    refine r_repr (Dt.dp _ _ (Dt.same (sF.trans s3) _ _ hD)) sD ?_
    walk_at "r"
    rw [decide_eq_true (rfl : V.str D.shown = V.str D.shown)]
    walk_at "r"
    exact k _ (sF.trans s3)
end
end Eld
set_option Elab.async false
set_option maxRecDepth 100000
set_option maxHeartbeats 4000000
set_option linter.all false
namespace Eld
open PySem L2
local macro_rules | `(tactic| walk_at "r1") => `(tactic| with_reducible first
  | refine r_seq ?_ | refine r_asgN ?_ | refine r_asg ?_ | refine r_gname ?_ | refine r_gsub ?_ | refine r_var rfl ?_ | refine r_c ?_ | refine r_op ?_ | refine r_un ?_ | refine r_u ?_ | refine r_i0 ?_ | refine r_cb ?_ | refine r_cons ?_ | refine r_nil ?_ | refine r_cl ?_ | refine r_fn rfl rfl ?_ | refine r_mt ?_
  | refine r_test ?_ | refine r_tb ?_ | refine r_bl ?_ | refine r_and ?_ | refine r_or ?_ | refine r_not ?_ | refine r_andV ?_ | refine r_orV ?_ | refine r_notV ?_ | refine r_ifX ?_ | refine r_ifs ?_ | refine r_chain ?_ | refine r_ret ?_ | refine r_next ?_ | refine r_drop ?_ | refine iteT ?_ | refine iteF ?_ | refine iteNT ?_ | refine iteNF ?_
  | refine r_int1 ?_ | refine r_boolB ?_ | refine r_eqI ?_ | refine r_neI ?_ | refine r_eqB ?_ | refine r_neB ?_ | refine r_eqS ?_ | refine r_neS ?_ | refine r_abs ?_ | refine r_max2 ?_ | refine r_min2 ?_ | refine r_yes ?_ | refine r_tup ?_ | refine r_sfld ?_ | refine r_m0 ?_ | refine r_m1 ?_ | refine r_lst ?_ | refine r_rng1 ?_ | refine r_rng2 ?_ | refine r_ixL (SqL.of (by assumption)) rfl ?_)
local macro_rules | `(tactic| walk_at "r") => `(tactic| repeat (first | walk_at "r1" | ((with_reducible refine r_var ?hv ?_); (case hv => rfl))))

/-! ## what fillings and puttings are -/
theorem Tx.good_tupled (zs : List Int) (many : Int) : ∀ t : Tx, t.tupled.good zs many = t.good zs many
  | .skip => rfl
  | .hole => rfl
  | .set _ _ => rfl
  | .draw _ _ _ _ _ => rfl
  | .thn a b => by simp only [Tx.tupled, Tx.good, a.good_tupled zs many, b.good_tupled zs many]
  | .iff s a b => by simp only [Tx.tupled, Tx.good, a.good_tupled zs many, b.good_tupled zs many]; rfl
  | .eith a b => by simp only [Tx.tupled, Tx.good, a.good_tupled zs many, b.good_tupled zs many]
  | .whil s a => by simp only [Tx.tupled, Tx.good, a.good_tupled zs many]; rfl
theorem Tx.good_filled {zs : List Int} {many : Int} {s : Tx} (hs : s.good zs many = true) : ∀ {t : Tx}, t.good zs many = true → (t.filled s).good zs many = true
  | .skip, h => h
  | .hole, _ => hs
  | .set _ _, h => h
  | .draw _ _ _ _ _, h => h
  | .thn a b, h => by
    simp only [Tx.good, Bool.and_eq_true] at h
    simp only [Tx.filled, Tx.good, Tx.good_filled hs h.1, Tx.good_filled hs h.2, Bool.and_self]
  | .iff g a b, h => by
    simp only [Tx.good, Bool.and_eq_true] at h
    simp only [Tx.filled, Tx.good, h.1, Tx.good_filled hs h.2.1, Tx.good_filled hs h.2.2, Bool.and_self]
  | .eith a b, h => by
    simp only [Tx.good, Bool.and_eq_true] at h
    simp only [Tx.filled, Tx.good, Tx.good_filled hs h.1, Tx.good_filled hs h.2, Bool.and_self]
  | .whil g a, h => by
    simp only [Tx.good, Bool.and_eq_true] at h
    simp only [Tx.filled, Tx.good, h.1, Tx.good_filled hs h.2, Bool.and_self]
theorem Tx.holes_filled {s : Tx} (hs : s.holes = 0) : ∀ t : Tx, (t.filled s).holes = 0
  | .skip => rfl
  | .hole => hs
  | .set _ _ => rfl
  | .draw _ _ _ _ _ => rfl
  | .thn a b => by simp only [Tx.filled, Tx.holes, Tx.holes_filled hs a, Tx.holes_filled hs b]
  | .iff _ a b => by simp only [Tx.filled, Tx.holes, Tx.holes_filled hs a, Tx.holes_filled hs b]
  | .eith a b => by simp only [Tx.filled, Tx.holes, Tx.holes_filled hs a, Tx.holes_filled hs b]
  | .whil _ a => by simp only [Tx.filled, Tx.holes, Tx.holes_filled hs a]
theorem Tx.nodes_filled (s : Tx) : ∀ t : Tx, (t.filled s).nodes ≤ t.nodes + t.holes * s.nodes
  | .skip => by simp [Tx.filled, Tx.nodes]
  | .hole => by simp only [Tx.filled, Tx.nodes, Tx.holes]; omega
  | .set _ _ => by simp [Tx.filled, Tx.nodes]
  | .draw _ _ _ _ _ => by simp [Tx.filled, Tx.nodes]
  | .thn a b => by
    have := Tx.nodes_filled s a; have := Tx.nodes_filled s b
    simp only [Tx.filled, Tx.nodes, Tx.holes, Nat.add_mul]; omega
  | .iff _ a b => by
    have := Tx.nodes_filled s a; have := Tx.nodes_filled s b
    simp only [Tx.filled, Tx.nodes, Tx.holes, Nat.add_mul]; omega
  | .eith a b => by
    have := Tx.nodes_filled s a; have := Tx.nodes_filled s b
    simp only [Tx.filled, Tx.nodes, Tx.holes, Nat.add_mul]; omega
  | .whil _ a => by
    have := Tx.nodes_filled s a
    simp only [Tx.filled, Tx.nodes, Tx.holes]; omega
theorem dep_thn (a b : Tx) : (Tx.thn a b).data.depth = max a.data.depth b.data.depth + 1 := by simp [Tx.data, PyData.depth, PyData.depthAll]
theorem dep_eith (a b : Tx) : (Tx.eith a b).data.depth = max a.data.depth b.data.depth + 1 := by simp [Tx.data, PyData.depth, PyData.depthAll]
theorem dep_iff (g : Row) (a b : Tx) : (Tx.iff g a b).data.depth = max 1 (max a.data.depth b.data.depth) + 1 := by simp [Tx.data, PyData.depth, PyData.depthAll, g.data_depth]
theorem dep_whil (g : Row) (a : Tx) : (Tx.whil g a).data.depth = max 1 a.data.depth + 1 := by simp [Tx.data, PyData.depth, PyData.depthAll, g.data_depth]
theorem Tx.dep_filled (s : Tx) : ∀ t : Tx, (t.filled s).data.depth ≤ t.data.depth + s.data.depth
  | .skip => by simp only [Tx.filled]; omega
  | .hole => by simp only [Tx.filled]; omega
  | .set _ _ => by simp only [Tx.filled]; omega
  | .draw _ _ _ _ _ => by simp only [Tx.filled]; omega
  | .thn a b => by
    have := Tx.dep_filled s a; have := Tx.dep_filled s b
    simp only [Tx.filled, dep_thn]; omega
  | .iff _ a b => by
    have := Tx.dep_filled s a; have := Tx.dep_filled s b
    simp only [Tx.filled, dep_iff]; omega
  | .eith a b => by
    have := Tx.dep_filled s a; have := Tx.dep_filled s b
    simp only [Tx.filled, dep_eith]; omega
  | .whil _ a => by
    have := Tx.dep_filled s a
    simp only [Tx.filled, dep_whil]; omega
theorem Row.tupled_depth (r : Row) : r.tupled.data.depth = r.data.depth := by rw [r.data_depth, r.tupled.data_depth]
theorem Tx.dep_tupled : ∀ t : Tx, t.tupled.data.depth = t.data.depth
  | .skip => rfl
  | .hole => rfl
  | .set n r => by simp [Tx.tupled, Tx.data, PyData.depth, PyData.depthAll, r.tupled_depth]
  | .draw _ _ _ _ _ => rfl
  | .thn a b => by simp only [Tx.tupled, dep_thn, a.dep_tupled, b.dep_tupled]
  | .iff s a b => by simp only [Tx.tupled, dep_iff, a.dep_tupled, b.dep_tupled]
  | .eith a b => by simp only [Tx.tupled, dep_eith, a.dep_tupled, b.dep_tupled]
  | .whil s a => by simp only [Tx.tupled, dep_whil, a.dep_tupled]
theorem Tx.holes_tupled : ∀ t : Tx, t.tupled.holes = t.holes
  | .skip => rfl
  | .hole => rfl
  | .set _ _ => rfl
  | .draw _ _ _ _ _ => rfl
  | .thn a b => by simp only [Tx.tupled, Tx.holes, a.holes_tupled, b.holes_tupled]
  | .iff s a b => by simp only [Tx.tupled, Tx.holes, a.holes_tupled, b.holes_tupled]
  | .eith a b => by simp only [Tx.tupled, Tx.holes, a.holes_tupled, b.holes_tupled]
  | .whil s a => by simp only [Tx.tupled, Tx.holes, a.holes_tupled]
theorem Tx.tupled_filled (s : Tx) : ∀ t : Tx, (t.filled s).tupled = t.tupled.filled s.tupled
  | .skip => rfl
  | .hole => rfl
  | .set _ _ => rfl
  | .draw _ _ _ _ _ => rfl
  | .thn a b => by simp only [Tx.filled, Tx.tupled, Tx.tupled_filled s a, Tx.tupled_filled s b]
  | .iff _ a b => by simp only [Tx.filled, Tx.tupled, Tx.tupled_filled s a, Tx.tupled_filled s b]
  | .eith a b => by simp only [Tx.filled, Tx.tupled, Tx.tupled_filled s a, Tx.tupled_filled s b]
  | .whil _ a => by simp only [Tx.filled, Tx.tupled, Tx.tupled_filled s a]
/-! one part replaced -/
/-- what of a part follows from what of its parts -/
theorem kid_set {t k k' : Tx} {i : Nat} (h : t.kids[i]? = some k) (zs : List Int) (many : Int) : ((t.good zs many = true → k.good zs many = true) ∧ (t.good zs many = true → k'.good zs many = true → (t.withKids (t.kids.set i k')).good zs many = true)) ∧ ((t.holes = 0 → k.holes = 0) ∧ (t.holes = 0 → k'.holes = 0 → (t.withKids (t.kids.set i k')).holes = 0)) ∧
    (t.withKids (t.kids.set i k')).nodes + k.nodes = t.nodes + k'.nodes ∧ (∀ m, k'.data.depth ≤ k.data.depth + m → (t.withKids (t.kids.set i k')).data.depth ≤ t.data.depth + m) ∧ (t.withKids (t.kids.set i k')).tupled = t.tupled.withKids (t.tupled.kids.set i k'.tupled) := by
  cases t with
  | skip => simp [Tx.kids] at h
  | hole => simp [Tx.kids] at h
  | set _ _ => simp [Tx.kids] at h
  | draw _ _ _ _ _ => simp [Tx.kids] at h
  | thn a b =>
    match i, h with
    | 0, h =>
      cases h
      refine ⟨⟨fun g => ?_, fun g e => ?_⟩, ⟨fun g => ?_, fun g e => ?_⟩, ?_, fun m e => ?_, rfl⟩
      · simp only [Tx.good, Bool.and_eq_true] at g; exact g.1
      · simp only [Tx.good, Bool.and_eq_true] at g; show (k'.good zs many && b.good zs many) = true; rw [e, g.2]; rfl
      · simp only [Tx.holes] at g; omega
      · simp only [Tx.holes] at g; show k'.holes + b.holes = 0; omega
      · show 1 + (k'.nodes + b.nodes) + k.nodes = 1 + (k.nodes + b.nodes) + k'.nodes; omega
      · show (Tx.thn k' b).data.depth ≤ _; rw [dep_thn, dep_thn]; omega
    | 1, h =>
      cases h
      refine ⟨⟨fun g => ?_, fun g e => ?_⟩, ⟨fun g => ?_, fun g e => ?_⟩, ?_, fun m e => ?_, rfl⟩
      · simp only [Tx.good, Bool.and_eq_true] at g; exact g.2
      · simp only [Tx.good, Bool.and_eq_true] at g; show (a.good zs many && k'.good zs many) = true; rw [e, g.1]; rfl
      · simp only [Tx.holes] at g; omega
      · simp only [Tx.holes] at g; show a.holes + k'.holes = 0; omega
      · show 1 + (a.nodes + k'.nodes) + k.nodes = 1 + (a.nodes + k.nodes) + k'.nodes; omega
      · show (Tx.thn a k').data.depth ≤ _; rw [dep_thn, dep_thn]; omega
    | i + 2, h => simp [Tx.kids] at h
  | iff r a b =>
    match i, h with
    | 0, h =>
      cases h
      refine ⟨⟨fun g => ?_, fun g e => ?_⟩, ⟨fun g => ?_, fun g e => ?_⟩, ?_, fun m e => ?_, rfl⟩
      · simp only [Tx.good, Bool.and_eq_true] at g; exact g.2.1
      · simp only [Tx.good, Bool.and_eq_true] at g; show (setB r.vals many && (k'.good zs many && b.good zs many)) = true; rw [e, g.1, g.2.2]; rfl
      · simp only [Tx.holes] at g; omega
      · simp only [Tx.holes] at g; show k'.holes + b.holes = 0; omega
      · show 1 + (k'.nodes + b.nodes) + k.nodes = 1 + (k.nodes + b.nodes) + k'.nodes; omega
      · show (Tx.iff r k' b).data.depth ≤ _; rw [dep_iff, dep_iff]; omega
    | 1, h =>
      cases h
      refine ⟨⟨fun g => ?_, fun g e => ?_⟩, ⟨fun g => ?_, fun g e => ?_⟩, ?_, fun m e => ?_, rfl⟩
      · simp only [Tx.good, Bool.and_eq_true] at g; exact g.2.2
      · simp only [Tx.good, Bool.and_eq_true] at g; show (setB r.vals many && (a.good zs many && k'.good zs many)) = true; rw [e, g.1, g.2.1]; rfl
      · simp only [Tx.holes] at g; omega
      · simp only [Tx.holes] at g; show a.holes + k'.holes = 0; omega
      · show 1 + (a.nodes + k'.nodes) + k.nodes = 1 + (a.nodes + k.nodes) + k'.nodes; omega
      · show (Tx.iff r a k').data.depth ≤ _; rw [dep_iff, dep_iff]; omega
    | i + 2, h => simp [Tx.kids] at h
  | eith a b =>
    match i, h with
    | 0, h =>
      cases h
      refine ⟨⟨fun g => ?_, fun g e => ?_⟩, ⟨fun g => ?_, fun g e => ?_⟩, ?_, fun m e => ?_, rfl⟩
      · simp only [Tx.good, Bool.and_eq_true] at g; exact g.1
      · simp only [Tx.good, Bool.and_eq_true] at g; show (k'.good zs many && b.good zs many) = true; rw [e, g.2]; rfl
      · simp only [Tx.holes] at g; omega
      · simp only [Tx.holes] at g; show k'.holes + b.holes = 0; omega
      · show 1 + (k'.nodes + b.nodes) + k.nodes = 1 + (k.nodes + b.nodes) + k'.nodes; omega
      · show (Tx.eith k' b).data.depth ≤ _; rw [dep_eith, dep_eith]; omega
    | 1, h =>
      cases h
      refine ⟨⟨fun g => ?_, fun g e => ?_⟩, ⟨fun g => ?_, fun g e => ?_⟩, ?_, fun m e => ?_, rfl⟩
      · simp only [Tx.good, Bool.and_eq_true] at g; exact g.2
      · simp only [Tx.good, Bool.and_eq_true] at g; show (a.good zs many && k'.good zs many) = true; rw [e, g.1]; rfl
      · simp only [Tx.holes] at g; omega
      · simp only [Tx.holes] at g; show a.holes + k'.holes = 0; omega
      · show 1 + (a.nodes + k'.nodes) + k.nodes = 1 + (a.nodes + k.nodes) + k'.nodes; omega
      · show (Tx.eith a k').data.depth ≤ _; rw [dep_eith, dep_eith]; omega
    | i + 2, h => simp [Tx.kids] at h
  | whil r a =>
    match i, h with
    | 0, h =>
      cases h
      refine ⟨⟨fun g => ?_, fun g e => ?_⟩, ⟨fun g => g, fun g e => e⟩, ?_, fun m e => ?_, rfl⟩
      · simp only [Tx.good, Bool.and_eq_true] at g; exact g.2
      · simp only [Tx.good, Bool.and_eq_true] at g; show (setB r.vals many && k'.good zs many) = true; rw [e, g.1]; rfl
      · show 1 + k'.nodes + k.nodes = 1 + k.nodes + k'.nodes; omega
      · show (Tx.whil r k').data.depth ≤ _; rw [dep_whil, dep_whil]; omega
    | i + 1, h => simp [Tx.kids] at h
/-- what a putting is -/
theorem put_ok {zs : List Int} {many : Int} {s : Tx} (sg : s.good zs many = true) (s0 : s.holes = 0) : ∀ (ws : List Nat) {t u : Tx}, t.follow ws = some u → t.good zs many = true → t.holes = 0 →
    (t.put ws s).good zs many = true ∧ (t.put ws s).holes = 0 ∧ (t.put ws s).nodes ≤ t.nodes + s.nodes ∧ (t.put ws s).data.depth ≤ t.data.depth + s.data.depth ∧ (t.put ws s).tupled = t.tupled.put ws s.tupled ∧ u.nodes ≤ t.nodes ∧ u.good zs many = true
  | [], t, u, h, g, g0 => by
    cases h
    exact ⟨sg, s0, by show s.nodes ≤ _; omega, by show s.data.depth ≤ _; omega, rfl, Nat.le_refl _, g⟩
  | i :: r, t, u, h, g, g0 => by
    simp only [Tx.follow] at h
    cases c : t.kids[i]? with
    | none => rw [c] at h; cases h
    | some k =>
      rw [c] at h
      obtain ⟨⟨e1, e2⟩, ⟨e3, e4⟩, e5, e6, e7⟩ := kid_set (k' := k.put r s) c zs many
      obtain ⟨f1, f2, f3, f4, f5, f6, f7⟩ := put_ok sg s0 r (show k.follow r = some u from h) (e1 g) (e3 g0)
      have kn := kids_nodes c
      have c2 : t.tupled.kids[i]? = some k.tupled := by rw [t.kids_tupled, List.getElem?_map, c]; rfl
      simp only [Tx.put, c, c2]
      refine ⟨e2 g f1, e4 g0 f2, by omega, e6 _ f4, ?_, by omega, f7⟩
      rw [e7, f5]
end Eld
set_option Elab.async false
set_option maxRecDepth 100000
set_option maxHeartbeats 4000000
set_option linter.all false
namespace Eld
open PySem L2
local macro_rules | `(tactic| walk_at "r1") => `(tactic| with_reducible first
  | refine r_seq ?_ | refine r_asgN ?_ | refine r_asg ?_ | refine r_gname ?_ | refine r_gsub ?_ | refine r_var rfl ?_ | refine r_c ?_ | refine r_op ?_ | refine r_un ?_ | refine r_u ?_ | refine r_i0 ?_ | refine r_cb ?_ | refine r_cons ?_ | refine r_nil ?_ | refine r_cl ?_ | refine r_fn rfl rfl ?_ | refine r_mt ?_
  | refine r_test ?_ | refine r_tb ?_ | refine r_bl ?_ | refine r_and ?_ | refine r_or ?_ | refine r_not ?_ | refine r_andV ?_ | refine r_orV ?_ | refine r_notV ?_ | refine r_ifX ?_ | refine r_ifs ?_ | refine r_chain ?_ | refine r_ret ?_ | refine r_next ?_ | refine r_drop ?_ | refine iteT ?_ | refine iteF ?_ | refine iteNT ?_ | refine iteNF ?_
  | refine r_int1 ?_ | refine r_boolB ?_ | refine r_eqI ?_ | refine r_neI ?_ | refine r_eqB ?_ | refine r_neB ?_ | refine r_eqS ?_ | refine r_neS ?_ | refine r_abs ?_ | refine r_max2 ?_ | refine r_min2 ?_ | refine r_yes ?_ | refine r_tup ?_ | refine r_sfld ?_ | refine r_m0 ?_ | refine r_m1 ?_ | refine r_lst ?_ | refine r_rng1 ?_ | refine r_rng2 ?_ | refine r_ixL (SqL.of (by assumption)) rfl ?_)
local macro_rules | `(tactic| walk_at "r") => `(tactic| repeat (first | walk_at "r1" | ((with_reducible refine r_var ?hv ?_); (case hv => rfl))))

/-! ## the law -/
theorem SpaceAt.but {C : Addr} {K : PySem.W.Frag} {H H' : Hp} {p b : Addr} {n : Nat} {zs : List Int} (h : SpaceAt C K H p zs) (hb : BoxAt H b n) (s : But b H H') : SpaceAt C K H' p zs := by
  obtain ⟨dx, tz, q, ts, h1, h2, h3, h4⟩ := h
  have t : ∀ a o, H a = some o → (∀ g m c t, o ≠ .lst [.int g, .bl t, .int m, .int c]) → H' a = some o := fun a o e d => s a o (hb.ne e d) e
  refine ⟨dx, tz, q, ts, t _ _ h1 (by intro _ _ _ _ e; cases e), ?_, (by obtain ⟨o, e, d⟩ := h3; exact ⟨o, t _ _ e (by intro _ _ _ _ e; cases e), d⟩), h4.1, fun i u r a b => t _ _ (h4.2 i u r a b) (by intro _ _ _ _ e; cases e)⟩
  rcases h2 with (e | ⟨o, e⟩) | q
  · exact .inl (.inl (t _ _ e (by intro _ _ _ _ e; cases e)))
  · exact .inl (.inr ⟨o, t _ _ e (by intro _ _ _ _ e; cases e)⟩)
  · exact .inr q
theorem r_space {H : Hp} {Q : VK} : True := trivial
def spRight : Sp := fun vs H Q _ => ∃ b, vs = [.ref b] ∧ BoxAt H b 0 ∧ ∀ H', But b H H' → Q (.bl true) H'
def spLaw (K : PySem.W.Frag) : Sp := fun vs H Q _ => ∃ (a : Addr) (ns : List Int), vs = [.ref a] ∧ ns.length ≤ sizeLine ∧ SqL K H a (ns.map V.int) ∧ ∀ G, Q (.bl true) G
/-- a part with a size is shown as it is -/
structure Has (zs : List Int) (t : Tx) : Prop where
  any : ∃ zs ∈ menu, textOr zs ((allRows zs).length : Nat) t = true
  nodes : t.nodes < 210
theorem Sized.has {zs : List Int} (hz : zs ∈ menu) {m : Nat} (hm : m ≤ 24) {t : Tx} (h : Sized zs m t) : Has zs t := by
  obtain ⟨h1, h2, h3, h4, h5, h6⟩ := h
  refine ⟨⟨zs, hz, ?_⟩, by omega⟩
  unfold textOr
  rw [holesV_ok h1 (by omega) h4, h3]
  rfl
theorem Around.has {zs : List Int} (hz : zs ∈ menu) {t : Tx} (h : Around zs t) : Has zs t := by
  obtain ⟨h1, h2, h3, h4, h5, h6, h7⟩ := h
  refine ⟨⟨zs, hz, ?_⟩, by omega⟩
  unfold textOr
  rw [holesV_ok h1 h2 h5]
  unfold fromV
  simp only [Bool.or_eq_true, Bool.and_eq_true, decide_eq_true_eq]
  right
  omega
theorem Around.surr {zs : List Int} {t : Tx} (h : Around zs t) : fromV (holesV zs ((allRows zs).length : Nat) t) 1 3 = true := by
  obtain ⟨h1, h2, h3, h4, h5, h6, h7⟩ := h
  rw [holesV_ok h1 h2 h5]
  unfold fromV
  simp only [Bool.and_eq_true, decide_eq_true_eq]
  omega
theorem Sized.text {zs : List Int} {m : Nat} (hm : m ≤ 24) {t : Tx} (h : Sized zs m t) : holesV zs ((allRows zs).length : Nat) t = some 0 := by
  obtain ⟨h1, h2, h3, h4, h5, h6⟩ := h
  rw [holesV_ok h1 (by omega) h4, h3]
  rfl
theorem fill_W {zs : List Int} {th pc : Tx} {m : Nat} (ht : Around zs th) (hp : Sized zs m pc) (hm : m ≤ 24) : (th.filled pc).tupled = th.tupled.filled pc.tupled ∧ (th.filled pc).tupled.nodes < 210 ∧ (th.filled pc).tupled.good zs ((allRows zs).length : Nat) = true ∧ (th.filled pc).tupled.holes = 0 ∧ (th.filled pc).tupled.data.depth ≤ 55 ∧ (th.filled pc).data.depth < 60 := by
  obtain ⟨h1, h2, h3, h4, h5, h6, h7⟩ := ht
  obtain ⟨p1, p2, p3, p4, p5, p6⟩ := hp
  have e1 := Tx.nodes_filled pc th
  have e2 : th.holes * pc.nodes ≤ 3 * pc.nodes := Nat.mul_le_mul_right _ h4
  have e3 := Tx.dep_filled pc th
  refine ⟨Tx.tupled_filled pc th, by rw [Tx.nodes_tupled]; omega, by rw [Tx.good_tupled]; exact Tx.good_filled p1 h1, by rw [Tx.holes_tupled]; exact Tx.holes_filled p3 th, by rw [Tx.dep_tupled]; omega, by omega⟩
theorem put_W {zs : List Int} {wh pc u : Tx} {m m' : Nat} {ws : List Nat} (hw : Sized zs m' wh) (hm' : m' ≤ 24) (hp : Sized zs m pc) (hm : m ≤ 24) (hf : wh.follow ws = some u) : (wh.put ws pc).tupled = wh.tupled.put ws pc.tupled ∧ (wh.put ws pc).tupled.nodes < 210 ∧ (wh.put ws pc).tupled.good zs ((allRows zs).length : Nat) = true ∧ (wh.put ws pc).tupled.holes = 0 ∧ (wh.put ws pc).tupled.data.depth ≤ 55 ∧ (wh.put ws pc).data.depth < 60 ∧ u.nodes ≤ wh.nodes := by
  obtain ⟨h1, h2, h3, h4, h5, h6⟩ := hw
  obtain ⟨p1, p2, p3, p4, p5, p6⟩ := hp
  obtain ⟨f1, f2, f3, f4, f5, f6, f7⟩ := put_ok p1 p3 ws hf h1 h3
  exact ⟨f5, by rw [Tx.nodes_tupled]; omega, by rw [Tx.good_tupled]; exact f1, by rw [Tx.holes_tupled]; exact f2, by rw [Tx.dep_tupled]; omega, by omega, f6⟩
theorem follow_small : ∀ (ws : List Nat) {t u : Tx}, t.follow ws = some u → ∀ i ∈ ws, i < 2
  | [], _, _, _ => fun i hi => (by cases hi)
  | j :: r, t, u, h => fun i hi => by
    simp only [Tx.follow] at h
    cases c : t.kids[j]? with
    | none => rw [c] at h; cases h
    | some k =>
      rw [c] at h
      rcases List.mem_cons.mp hi with e | e
      · subst e
        have := (List.getElem?_eq_some_iff.mp c).1
        have : t.kids.length ≤ 2 := by cases t <;> simp [Tx.kids]
        omega
      · exact follow_small r (show k.follow r = some u from h) i e
theorem ws_sh {ws : List Nat} (h : ∀ i ∈ ws, i < 2) (l : ws.length < 100) : Sh 1 100 (.tuple (intsD (ws.map fun n : Nat => ((n : Nat) : Int)))) := (ints_sh (l := ws.map fun n : Nat => ((n : Nat) : Int)) fun x hx => by
  obtain ⟨i, hi, rfl⟩ := List.mem_map.mp hx
  have := h i hi
  omega).tup.le (by decide) (by rw [List.length_map]; omega)
section
variable {P : Program} {w : World} {K : PySem.W.Frag} {mg : Str → Option Value} {base : Heap} {C : Addr}
theorem ok_right {f : Addr} {fd : FuncData} (F : Fun K "_law_right" "_law_right" s__law_right f fd) (Z : Zs mg) (d__law_widths : DefD P w K mg base 2 "_law_widths" 1 [] byPlace spSizes) (d_read_space : DefD P w K mg base 6 "read_space" 1 [] byPlace (spRead C K)) (d__law_take : DefD P w K mg base 1 "_law_take" 2 [] byPlace spTake)
    (d__law_sized : DefD P w K mg base 5 "_law_sized" 3 [] byPlace spSized) (d__law_around : DefD P w K mg base 5 "_law_around" 3 [] byPlace spAround) (d_size : DefD P w K mg base 213 "size" 1 [] byPlace spSize) (d_depth_text : DefD P w K mg base 213 "depth" 0 ["text"] byBoth spDepth) (d__law_shape : DefD P w K mg base 211 "_law_shape" 1 [] byPlace (spShapeN 210))
    (d__law_meets : DefD P w K mg base 216 "_law_meets" 3 [] byPlace (spMeets C K)) (d__law_tupled : DefD P w K mg base 61 "_law_tupled" 1 [] byPlace (spTupledN 60)) (d__law_filled : DefD P w K mg base 211 "_law_filled" 2 [] byPlace (spLFilledN 210)) (d__law_put : DefD P w K mg base 101 "_law_put" 3 [] byPlace (spReplacedN K 100)) (d__law_all_parts : DefD P w K mg base 211 "_law_all_parts" 1 [] byPlace (spAllPartsN 210)) : FnG P w K mg base CX0 217 f fd ["box"] spRight := by
  refine okG F sc__law_right (fun vs H Q E h => ?_) (fun cdv B up z H vs Q E hG hr h => ?_)
  · obtain ⟨b, rfl, _⟩ := h
    rfl
  obtain ⟨b, rfl, hb, k⟩ := h
  have hu : (B.deeper (PyProof.Rows.envOfC "_law_right" (defScope s__law_right) z.heap.objs.size f cdv)).units + 64 < cLine := hr.units
  refine ⟨_, (pss_cons (ps_set (i := 1) sc__law_right.nd rfl (by first | exact Or.inl rfl | exact Or.inr rfl) (pd_pos d__law_widths hG hr (by decide) (by rfl) (pa_cons (pv 0) pa_nil)))
  (pss_cons (ps_par rfl sc__law_right.nd (i := 7) (j := 8) rfl rfl (by decide) rfl rfl (pa_cons (pd_pos d_read_space hG hr (by decide) (by rfl) (pa_cons (pe_join pe_str (pe_lc (own := [("width", 13)]) (tt := tYes) rfl sc__law_right.nd (pi_list (pv 1)) (blkOk_by (N := ["box", "widths", "piece", "thing", "one", "whole", "turn", "room", "many", "spots", "wanted", "way", "old", "width"]) (sc := defScope s__law_right) (by decide +kernel)) (fun _ _ _ _ _ => (pg_name (i := 13) sc__law_right.nd rfl (by first | exact Or.inl rfl | exact Or.inr rfl))) (fun _ _ _ _ _ => pts_nil) (fun _ _ _ _ _ => (pe_callTy c_str (by rfl) Z.str_ (by decide +kernel) (pa_cons (pv 13) pa_nil))))) pa_nil)) (pa_cons (pe_op op_add pe_int (pd_pos d__law_take hG hr (by decide) (by rfl) (pa_cons (pv 0) (pa_cons pe_int pa_nil)))) pa_nil)) rfl)
  (pss_cons (ps_set (i := 2) sc__law_right.nd rfl (by first | exact Or.inl rfl | exact Or.inr rfl) (pd_pos d__law_sized hG hr (by decide) (by rfl) (pa_cons (pv 0) (pa_cons (pv 1) (pa_cons (pv 8) pa_nil)))))
  (pss_cons (ps_set (i := 3) sc__law_right.nd rfl (by first | exact Or.inl rfl | exact Or.inr rfl) (pd_pos d__law_around hG hr (by decide) (by rfl) (pa_cons (pv 0) (pa_cons (pv 1) (pa_cons (pv 8) pa_nil)))))
  (pss_cons (ps_for PassesOwn.never rfl (pi_list (pe_lst (pa_cons (pv 3) (pa_cons (pv 2) pa_nil)))) (pg_name (i := 4) sc__law_right.nd rfl (by first | exact Or.inl rfl | exact Or.inr rfl))
  (pss_one (ps_if (pt_cmpR op_ne (pe_callB (show CallR _ _ (rReprD K) from call_reprD hG hu) (by rfl) Z.repr_ (by decide +kernel) (pa_cons (pe_tup (pa_cons (pd_pos d_size hG hr (by decide) (by rfl) (pa_cons (pv 4) pa_nil)) (pa_cons (pd_kw0 d_depth_text hG hr (by decide) (by rfl) (pk_cons (pv 4) pk_nil)) pa_nil))) pa_nil)) (pe_callB (show CallR _ _ (rReprD K) from call_reprD hG hu) (by rfl) Z.repr_ (by decide +kernel) (pa_cons (pd_pos d__law_shape hG hr (by decide) (by rfl) (pa_cons (pv 4) pa_nil)) pa_nil)) (nomark _)) (pss_one (ps_ret pe_bl)) pss_nil)))
  (pss_cons (ps_if (pt_not (pt_val (pd_pos d__law_meets hG hr (by decide) (by rfl) (pa_cons (pv 7) (pa_cons (pd_pos d__law_tupled hG hr (by decide) (by rfl) (pa_cons (pd_pos d__law_filled hG hr (by decide) (by rfl) (pa_cons (pv 3) (pa_cons (pv 2) pa_nil))) pa_nil)) (pa_cons (pe_tup (pa_cons (pv 3) (pa_cons (pv 2) pa_nil))) pa_nil)))))) (pss_one (ps_ret pe_bl)) pss_nil)
  (pss_cons (ps_set (i := 5) sc__law_right.nd rfl (by first | exact Or.inl rfl | exact Or.inr rfl) (pd_pos d__law_sized hG hr (by decide) (by rfl) (pa_cons (pv 0) (pa_cons (pv 1) (pa_cons (pe_ix (show IxR _ (rIxL K) from ix_list) (pe_lst (pa_cons pe_int (pa_cons pe_int (pa_cons pe_int (pa_cons pe_int (pa_cons pe_int (pa_cons pe_int pa_nil))))))) (pd_pos d__law_take hG hr (by decide) (by rfl) (pa_cons (pv 0) (pa_cons pe_int pa_nil))) (fun _ _ => rfl)) pa_nil)))))
  (pss_cons (ps_for PassesOwn.never rfl (pi_range1 (by rfl) Z.range_ (pa_cons pe_int pa_nil)) (pg_name (i := 6) sc__law_right.nd rfl (by first | exact Or.inl rfl | exact Or.inr rfl))
  (pss_cons (ps_set (i := 9) sc__law_right.nd rfl (by first | exact Or.inl rfl | exact Or.inr rfl) (pd_pos d__law_all_parts hG hr (by decide) (by rfl) (pa_cons (pv 5) pa_nil)))
  (pss_cons (ps_asg (pe_ix (show IxR _ (rIxL K) from ix_list) (pv 9) (pd_pos d__law_take hG hr (by decide) (by rfl) (pa_cons (pv 0) (pa_cons (pe_callB (show CallR _ _ (rLen K) from c_len) (by rfl) Z.len_ (by decide +kernel) (pa_cons (pv 9) pa_nil)) pa_nil))) (fun _ _ => rfl)) (by (refine (show PG _ _ (gTup K 2 (gCons (gName 11) (gCons (gName 12) gNil))) from ?_); refine pg_tup rfl (pgs_cons ?_ (pgs_cons ?_ pgs_nil)); exact (pg_name (i := 11) sc__law_right.nd rfl (by first | exact Or.inl rfl | exact Or.inr rfl)); exact (pg_name (i := 12) sc__law_right.nd rfl (by first | exact Or.inl rfl | exact Or.inr rfl)))))
  (pss_cons (ps_set (i := 10) sc__law_right.nd rfl (by first | exact Or.inl rfl | exact Or.inr rfl) (pe_op op_add (pe_op op_sub (pe_op op_add pe_int (pd_pos d__law_take hG hr (by decide) (by rfl) (pa_cons (pv 0) (pa_cons pe_int pa_nil)))) (pe_ix (show IxR _ (rIxT K) from ix_tup) (pd_pos d__law_shape hG hr (by decide) (by rfl) (pa_cons (pv 5) pa_nil)) pe_int (fun _ _ => rfl))) (pe_ix (show IxR _ (rIxT K) from ix_tup) (pd_pos d__law_shape hG hr (by decide) (by rfl) (pa_cons (pv 12) pa_nil)) pe_int (fun _ _ => rfl))))
  (pss_cons (ps_set (i := 2) sc__law_right.nd rfl (by first | exact Or.inl rfl | exact Or.inr rfl) (pd_pos d__law_sized hG hr (by decide) (by rfl) (pa_cons (pv 0) (pa_cons (pv 1) (pa_cons (pe_callB (c_max2 rfl) (by rfl) Z.max_ (by decide +kernel) (pa_cons pe_int (pa_cons (pe_callB (c_min2 rfl) (by rfl) Z.min_ (by decide +kernel) (pa_cons pe_int (pa_cons (pv 10) pa_nil))) pa_nil))) pa_nil)))))
  (pss_one (ps_if (pt_not (pt_val (pd_pos d__law_meets hG hr (by decide) (by rfl) (pa_cons (pv 7) (pa_cons (pd_pos d__law_tupled hG hr (by decide) (by rfl) (pa_cons (pd_pos d__law_put hG hr (by decide) (by rfl) (pa_cons (pv 5) (pa_cons (pv 11) (pa_cons (pv 2) pa_nil)))) pa_nil)) (pa_cons (pe_tup (pa_cons (pv 5) (pa_cons (pv 11) (pa_cons (pv 2) pa_nil)))) pa_nil)))))) (pss_one (ps_ret pe_bl)) pss_nil)))))))
  (pss_one (ps_ret (pd_pos d__law_meets hG hr (by decide) (by rfl) (pa_cons (pv 7) (pa_cons (pd_pos d__law_tupled hG hr (by decide) (by rfl) (pa_cons (pd_pos d__law_filled hG hr (by decide) (by rfl) (pa_cons (pv 3) (pa_cons (pv 2) pa_nil))) pa_nil)) (pa_cons (pe_tup (pa_cons (pv 3) (pa_cons (pv 2) pa_nil))) pa_nil)))))))))))))), ?_⟩
  walk_at "r"
  refine ⟨b, 0, rfl, hb, by decide, fun wl zs H1 hz bx1 but1 hwl0 hwl => ?_⟩
  obtain ⟨l1, l3⟩ := menu_len zs hz
  have nwl : wl ≠ b := hb.off hwl0
  walk_at "r"
  refine r_par ?_
  walk_at "r"
  refine ⟨⟨_, rfl⟩, ?_⟩
  refine ⟨_, rfl, wl, rfl, ⟨_, SqL.of hwl⟩, fun D hD => ?_⟩
  refine it_list (xs := zs.map V.int) (fun i A => Same H1 A ∧ A D = some (.lst ((zs.take i).map fun z => V.str (numStr z)))) ⟨Same.upd_new hD, upd_same⟩ (fun i A _ s => SqL.of (s.1 _ _ hwl)) (fun i x A hx s => ?_) (fun H2 s => ?_)
  · obtain ⟨y, hy, rfl⟩ := map_get hx
    obtain ⟨y1, y2⟩ := menu_mem zs hz y (List.mem_of_getElem? hy)
    refine r_gname ⟨rfl, ?_⟩
    walk_at "r"
    refine r_strI (num_small y y1 y2) ?_
    refine ⟨_, s.2, by rw [List.length_map, List.length_take, sizeLine_eq]; omega, Same.over s.1 hD, ?_⟩
    rw [upd_same, take_next hy, List.map_append]
    rfl
  obtain ⟨s12, dD⟩ := s
  have e : (zs.take (zs.map V.int).length).map (fun z => V.str (numStr z)) = (zs.map numStr).map V.str := by
    rw [List.length_map, List.take_length, List.map_map]
    rfl
  rw [e] at dD
  refine ⟨_, D, zs.map numStr, rfl, rfl, .inl (SqL.of dD), menu_line zs hz, ?_⟩
  walk_at "r"
  refine ⟨zs, rfl, hz, fun H3 p s23 hp0 hp => ?_⟩
  walk_at "r"
  have s13 := s12.trans s23
  refine ⟨b, 8, 1, rfl, bx1.same s13, by decide, by decide, by decide, fun r H4 r0 r1 bx4 but4 => ?_⟩
  obtain ⟨m0, rfl⟩ := Int.eq_ofNat_of_zero_le r0
  have hp4 := hp.but (bx1.same s13) but4
  have wl4 := but4 _ _ nwl (s13 _ _ hwl)
  walk_at "r"
  refine ⟨_, _, rfl, ?_⟩
  walk_at "r"
  rw [show (1 : Int) + ((m0 : Nat) : Int) = ((m0 + 1 : Nat) : Int) by omega]
  have m8 : m0 + 1 ≤ 8 := by omega
  have m1 : 1 ≤ m0 + 1 := by omega
  generalize m0 + 1 = many at m8 m1 ⊢
  refine ⟨b, _, wl, zs, many, rfl, hz, bx4, by decide, wl4, nwl, m1, by omega, fun pc H5 pv hpc bx5 but5 hpv => ?_⟩
  have hp5 := hp4.but bx4 but5
  have wl5 := but5 _ _ nwl wl4
  walk_at "r"
  refine ⟨b, _, wl, zs, many, rfl, hz, bx5, by decide, wl5, nwl, m1, m8, fun th H6 tv hth bx6 but6 htv => ?_⟩
  have hp6 := hp5.but bx5 but6
  have wl6 := but6 _ _ nwl wl5
  have hpv6 := hpv.but bx5 but6
  walk_at "r"
  with_reducible refine r_for ?_
  refine r_il ?_
  walk_at "r"
  refine ⟨by show 2 ≤ sizeLine; decide, fun L hL => ?_⟩
  have sL := Same.upd_new (o := .lst [tv, pv]) hL
  have gL : (upd H6 L (.lst [tv, pv])) L = some (.lst [tv, pv]) := upd_same
  generalize upd H6 L (.lst [tv, pv]) = H7 at sL gL ⊢
  refine ⟨L, rfl, ⟨_, SqL.of gL⟩, ?_⟩
  refine for_list (K := K) (a := L) (xs := [tv, pv]) (fun i σ A => ∃ a4 : Option V, σ = [some (.ref b), some (.ref wl), some pv, some tv, a4, none, none, some (.ref p), some (.int (many : Nat)), none, none, none, none, none] ∧ Same H7 A) ⟨_, rfl, Same.refl _⟩ (fun i σ A _ pp => SqL.of (pp.choose_spec.2 _ _ gL)) ?_ ?_
  · rintro i x σ A hx ⟨a4, rfl, sA⟩
    obtain ⟨t, hat, hh⟩ : ∃ t, Tx.At A t x ∧ Has zs t := by
      match i, hx with
      | 0, hx => cases hx; exact ⟨th, htv.same (sL.trans sA), hth.has hz⟩
      | 1, hx => cases hx; exact ⟨pc, hpv6.same (sL.trans sA), hpc.has hz (by omega)⟩
      | i + 2, hx => simp at hx
    have pn := t.parts_nodes
    have dn := t.depth_nodes
    have tn := hh.nodes
    walk_at "r"
    refine ⟨x, t, rfl, hat, tn, hh.any, fun A1 s1 => ?_⟩
    walk_at "r"
    refine ⟨x, t, rfl, hat.same s1, tn, hh.any, fun A2 s2 => ?_⟩
    walk_at "r"
    refine ⟨by show 2 ≤ sizeLine; decide, fun T hT => ?_⟩
    have sT := Same.upd_new (o := .tup [.int ((t.parts : Nat) : Int), .int ((t.depth : Nat) : Int)]) hT
    have gT : (upd A2 T (.tup [.int ((t.parts : Nat) : Int), .int ((t.depth : Nat) : Int)])) T = some (.tup [.int ((t.parts : Nat) : Int), .int ((t.depth : Nat) : Int)]) := upd_same
    generalize upd A2 T (.tup [.int ((t.parts : Nat) : Int), .int ((t.depth : Nat) : Int)]) = A3 at sT gT ⊢
    walk_at "r"
    refine r_repr (d := .tuple [.int (t.parts : Nat), .int (t.depth : Nat)]) (.tup (SqT.of gT) (.cons (.int _) (.cons (.int _) .nil))) (pair_sh (by omega) (by omega)) ?_
    walk_at "r"
    refine ⟨x, t, rfl, hat.same ((s1.trans s2).trans sT), tn, fun A4 q4 s4 hq4 => ?_⟩
    walk_at "r"
    refine r_repr (d := .tuple [.int (t.parts : Nat), .int (t.depth : Nat)]) (.tup (SqT.of hq4) (.cons (.int _) (.cons (.int _) .nil))) (pair_sh (by omega) (by omega)) ?_
    walk_at "r"
    rw [decide_eq_true (rfl : V.str (PyData.shown (.tuple [.int (t.parts : Nat), .int (t.depth : Nat)])) = V.str (PyData.shown (.tuple [.int (t.parts : Nat), .int (t.depth : Nat)])))]
    walk_at "r"
    exact ⟨_, rfl, sA.trans (((s1.trans s2).trans sT).trans s4)⟩
  · rintro σ A ⟨a4, rfl, sA⟩
    have s6A := sL.trans sA
    walk_at "r"
    obtain ⟨w1, w2, w3, w4, w5, w6⟩ := fill_W hth hpc (by omega)
    refine ⟨tv, th, pv, pc, rfl, (htv.same s6A), (hpv6.same s6A), by have := hth.nodes; omega, fun Ha ra sa hra => ?_⟩
    walk_at "r"
    refine tupled_of hra w6 fun Hb vb sb hvb => ?_
    walk_at "r"
    refine ⟨by show 2 ≤ sizeLine; decide, fun q hq0 => ?_⟩
    have sq := Same.upd_new (o := .tup [tv, pv]) hq0
    have gq : (upd Hb q (.tup [tv, pv])) q = some (.tup [tv, pv]) := upd_same
    generalize upd Hb q (.tup [tv, pv]) = Hc at sq gq ⊢
    have sac := (sa.trans sb).trans sq
    walk_at "r"
    refine ⟨p, q, vb, zs, (th.filled pc).tupled, .tuple [th.data, pc.data], rfl, hz, .inl ⟨tv, th, pv, pc, gq, (hp6.same s6A).same sac, (htv.same s6A).same sac, by have := hth.nodes; omega, by have := hth.dd; omega, hth.surr, (hpv6.same s6A).same sac, by have := hpc.nodes; omega, by have := hpc.dd; omega, hpc.text (by omega), w1, w2⟩, hvb.same sq, w3, w4, w5,
      .tup gq (by simp) (.cons ((htv.same s6A).same sac).dt (.cons ((hpv6.same s6A).same sac).dt .nil)), (ShA.cons (good_sh hz hth.good) (ShA.cons (good_sh hz hpc.good) ShA.nil)).tup.le (by have := hth.dd; have := hpc.dd; omega) (by have := hth.nodes; have := hpc.nodes; omega), fun Hd sd => ?_⟩
    have sad := sac.trans sd
    have s8 := s6A.trans sad
    walk_at "r"
    refine ⟨by show 6 ≤ sizeLine; decide, fun M hM => ?_⟩
    have sM := Same.upd_new (o := .lst [.int 1, .int 5, .int 12, .int 22, .int 23, .int 24]) hM
    have gM : (upd Hd M (.lst [.int 1, .int 5, .int 12, .int 22, .int 23, .int 24])) M = some (.lst [.int 1, .int 5, .int 12, .int 22, .int 23, .int 24]) := upd_same
    generalize upd Hd M (.lst [.int 1, .int 5, .int 12, .int 22, .int 23, .int 24]) = H9 at sM gM ⊢
    have s9 := s8.trans sM
    have bx9 := bx6.same s9
    walk_at "r"
    refine ⟨b, 6, _, rfl, bx9, by decide, by decide, by decide, fun r6 H10 r60 r61 bx10 but10 => ?_⟩
    have nM : M ≠ b := (bx6.same s8).off hM
    have gM10 := but10 _ _ nM gM
    obtain ⟨mv, emv, mv1, mv24⟩ : ∃ mv : Nat, atI [V.int 1, V.int 5, V.int 12, V.int 22, V.int 23, V.int 24] r6 = some (V.int (mv : Nat)) ∧ 1 ≤ mv ∧ mv ≤ 24 := by
      obtain rfl | rfl | rfl | rfl | rfl | rfl : r6 = 0 ∨ r6 = 1 ∨ r6 = 2 ∨ r6 = 3 ∨ r6 = 4 ∨ r6 = 5 := by omega
      · exact ⟨1, rfl, by decide, by decide⟩
      · exact ⟨5, rfl, by decide, by decide⟩
      · exact ⟨12, rfl, by decide, by decide⟩
      · exact ⟨22, rfl, by decide, by decide⟩
      · exact ⟨23, rfl, by decide, by decide⟩
      · exact ⟨24, rfl, by decide, by decide⟩
    walk_at "r"
    refine r_ixL (SqL.of gM10) emv ?_
    walk_at "r"
    have hp10 := (hp6.same s9).but bx9 but10
    have wl10 := but10 _ _ nwl (s9 _ _ wl6)
    have htv10 := (htv.same s9).but bx9 but10
    have hpv10 := (hpv6.same s9).but bx9 but10
    refine ⟨b, _, wl, zs, mv, rfl, hz, bx10, by decide, wl10, nwl, mv1, mv24, fun wh H11 wv hwh bx11 but11 hwv => ?_⟩
    have hp11 := hp10.but bx10 but11
    have wl11 := but11 _ _ nwl wl10
    have htv11 := htv10.but bx10 but11
    have hpv11 := hpv10.but bx10 but11
    have but_all : But b H H11 := (((but1.trans (But.of s13)).trans (but4.trans (but5.trans but6))).trans (But.of s9)).trans (but10.trans but11)
    walk_at "r"
    with_reducible refine r_for ?_
    walk_at "r"
    refine ⟨2, rfl, by decide, by decide, ?_⟩
    have bx11' : BoxAt H11 b (20000 + 4000 * 0) := bx11.mono (by omega)
    refine for_range (fun i σ A => ∃ (pc' : Tx) (pv' : V) (m' : Nat) (a4 a6 a9 a10 a11 a12 a13 : Option V), σ = [some (.ref b), some (.ref wl), some pv', some tv, a4, some wv, a6, some (.ref p), some (.int (many : Nat)), a9, a10, a11, a12, a13] ∧ But b H11 A ∧ BoxAt A b (20000 + 4000 * i) ∧ SpaceAt C K A p zs ∧ A wl = some (.lst (zs.map V.int)) ∧ Tx.At A th tv ∧ Tx.At A wh wv ∧ Sized zs m' pc' ∧ m' ≤ 24 ∧ Tx.At A pc' pv')
      ⟨pc, pv, many, _, _, _, _, _, _, _, rfl, But.refl _, bx11', hp11, wl11, htv11, hwv, hpc, by omega, hpv11⟩ (fun i σ A hi pp => ?_) (fun σ A pp => ?_)
    · obtain ⟨pc', pv', m', a4, a6, a9, a10, a11, a12, a13, rfl, bA, xA, spA, wlA, thA, whA, hpc', hm', pcA⟩ := pp
      have wn := hwh.nodes
      walk_at "r"
      refine ⟨wv, wh, rfl, whA, by omega, by decide, fun A1 l ls ps s1 hl gl hP lP fP => ?_⟩
      have x1 := xA.same s1
      walk_at "r"
      refine r_lenL (SqL.of gl) ?_
      rw [← hP.len]
      walk_at "r"
      have npos := nodes_pos wh
      refine ⟨b, _, _, rfl, x1, by omega, by omega, by omega, fun r A2 ra rb x2 bu2 => ?_⟩
      obtain ⟨j, rfl⟩ := Int.eq_ofNat_of_zero_le ra
      have nl : l ≠ b := xA.off hl
      have gl2 := bu2 _ _ nl gl
      have jl : j < ls.length := by rw [← hP.len]; omega
      have hj : ls[j]? = some (ls[j]'jl) := List.getElem?_eq_getElem _
      obtain ⟨px, qx, wa, vx, hpx, ex, gx, gw, atx⟩ := hP.get hj
      obtain ⟨f1, f2⟩ := fP px (List.mem_of_getElem? hpx)
      have nqx : qx ≠ b := x1.ne gx (by intro _ _ _ _ e; cases e)
      have nwa : wa ≠ b := x1.ne gw (by intro _ _ _ _ e; cases e)
      have gx2 := bu2 _ _ nqx gx
      have gw2 := bu2 _ _ nwa gw
      have atx2 := atx.but x1 bu2
      have sp2 := (spA.same s1).but x1 bu2
      have wl2 := bu2 _ _ nwl (s1 _ _ wlA)
      have th2 := (thA.same s1).but x1 bu2
      have wh2 := (whA.same s1).but x1 bu2
      walk_at "r"
      refine r_ixL (SqL.of gl2) (atI_nat hj) ?_
      rw [ex]
      refine ⟨qx, _, rfl, SqT.of gx2, rfl, _, _, rfl, _, _, rfl, rfl, ?_⟩
      walk_at "r"
      refine ⟨b, 6, _, rfl, x2, by omega, by decide, by decide, fun r2 A3 rc rd x3 bu3 => ?_⟩
      have atx3 := atx2.but x2 bu3
      have gw3 := bu3 _ _ nwa gw2
      have sp3 := sp2.but x2 bu3
      have wl3 := bu3 _ _ nwl wl2
      have th3 := th2.but x2 bu3
      have wh3 := wh2.but x2 bu3
      walk_at "r"
      refine ⟨wv, wh, rfl, wh3, by omega, fun A4 q4 s4 hq4 => ?_⟩
      walk_at "r"
      refine r_ixT (SqT.of hq4) (atI_nat (j := 0) rfl) ?_
      walk_at "r"
      have un : px.2.nodes ≤ wh.nodes := (put_ok hpc.good hpc.holes px.1 f1 hwh.good hwh.holes).2.2.2.2.2.1
      refine ⟨vx, px.2, rfl, atx3.same s4, by omega, fun A5 q5 s5 hq5 => ?_⟩
      walk_at "r"
      refine r_ixT (SqT.of hq5) (atI_nat (j := 0) rfl) ?_
      walk_at "r"
      have s45 := s4.trans s5
      have x5 := x3.same s45
      obtain ⟨sz, esz, sz1, sz24⟩ : ∃ sz : Nat, (if (if 22 + r2 - ((wh.parts : Nat) : Int) + ((px.2.parts : Nat) : Int) < 24 then 22 + r2 - ((wh.parts : Nat) : Int) + ((px.2.parts : Nat) : Int) else 24) > 1 then (if 22 + r2 - ((wh.parts : Nat) : Int) + ((px.2.parts : Nat) : Int) < 24 then 22 + r2 - ((wh.parts : Nat) : Int) + ((px.2.parts : Nat) : Int) else 24) else 1) = ((sz : Nat) : Int) ∧ 1 ≤ sz ∧ sz ≤ 24 := by
        generalize 22 + r2 - ((wh.parts : Nat) : Int) + ((px.2.parts : Nat) : Int) = X
        by_cases c1 : X < 24
        · rw [if_pos c1]
          by_cases c2 : X > 1
          · rw [if_pos c2]
            exact ⟨X.toNat, by omega, by omega, by omega⟩
          · rw [if_neg c2]
            exact ⟨1, rfl, by decide, by decide⟩
        · rw [if_neg c1]
          exact ⟨24, rfl, by decide, by decide⟩
      rw [esz]
      refine ⟨b, _, wl, zs, sz, rfl, hz, x5, by omega, s45 _ _ wl3, nwl, sz1, sz24, fun np A6 nv hnp x6 bu6 hnv => ?_⟩
      have wh6 := (wh3.same s45).but x5 bu6
      have th6 := (th3.same s45).but x5 bu6
      have sp6 := (sp3.same s45).but x5 bu6
      have wl6 := bu6 _ _ nwl (s45 _ _ wl3)
      have gw6 := bu6 _ _ nwa (s45 _ _ gw3)
      obtain ⟨w1, w2, w3, w4, w5, w6, w7⟩ := put_W hwh mv24 hnp sz24 f1
      have sm := follow_small px.1 f1
      walk_at "r"
      refine ⟨wv, wh, wa, px.1, nv, np, px.2, rfl, wh6, hnv, gw6, by omega, by decide, f1, fun Ha ra2 sa hra => ?_⟩
      walk_at "r"
      refine tupled_of hra w6 fun Hb vb sb hvb => ?_
      walk_at "r"
      refine ⟨by show 3 ≤ sizeLine; decide, fun q hq0 => ?_⟩
      have sq := Same.upd_new (o := .tup [wv, .ref wa, nv]) hq0
      have gq : (upd Hb q (.tup [wv, .ref wa, nv])) q = some (.tup [wv, .ref wa, nv]) := upd_same
      generalize upd Hb q (.tup [wv, .ref wa, nv]) = Hc at sq gq ⊢
      have sac := (sa.trans sb).trans sq
      have gwc := sac _ _ gw6
      walk_at "r"
      refine ⟨p, q, vb, zs, (wh.put px.1 np).tupled, .tuple [wh.data, .tuple (intsD (px.1.map fun n : Nat => ((n : Nat) : Int))), np.data], rfl, hz, .inr ⟨wv, wh, wa, px.1, nv, np, px.2, gq, sp6.same sac, wh6.same sac, by omega, by have := hwh.dd; omega, hwh.text mv24, gwc, by omega, f1, hnv.same sac, by have := hnp.nodes; omega, by have := hnp.dd; omega, hnp.text sz24, w1, w2⟩, hvb.same sq, w3, w4, w5,
        .tup gq (by simp) (.cons (wh6.same sac).dt (.cons (.tup gwc (by unfold wsV; rw [List.length_map, List.length_map]; omega) (ints_dt _)) (.cons (hnv.same sac).dt .nil))), (ShA.cons (good_sh hz hwh.good) (ShA.cons (ws_sh sm (by omega)) (ShA.cons (good_sh hz hnp.good) ShA.nil))).tup.le (by have := hwh.dd; have := hnp.dd; omega) (by have := hnp.nodes; omega), fun Hd sd => ?_⟩
      have sad := sac.trans sd
      walk_at "r"
      have b16 : But b H11 A6 := ((bA.trans (But.of s1)).trans (bu2.trans bu3)).trans ((But.of s45).trans bu6)
      exact ⟨np, nv, sz, _, _, _, _, _, _, _, rfl, b16.trans (But.of sad), (x6.same sad).mono (by omega), sp6.same sad, sad _ _ wl6, th6.same sad, wh6.same sad, hnp, sz24, hnv.same sad⟩
    · obtain ⟨pc', pv', m', a4, a6, a9, a10, a11, a12, a13, rfl, bA, xA, spA, wlA, thA, whA, hpc', hm', pcA⟩ := pp
      walk_at "r"
      obtain ⟨w1, w2, w3, w4, w5, w6⟩ := fill_W hth hpc' hm'
      refine ⟨tv, th, pv', pc', rfl, thA, pcA, by have := hth.nodes; omega, fun Ha ra sa hra => ?_⟩
      walk_at "r"
      refine tupled_of hra w6 fun Hb vb sb hvb => ?_
      walk_at "r"
      refine ⟨by show 2 ≤ sizeLine; decide, fun q hq0 => ?_⟩
      have sq := Same.upd_new (o := .tup [tv, pv']) hq0
      have gq : (upd Hb q (.tup [tv, pv'])) q = some (.tup [tv, pv']) := upd_same
      generalize upd Hb q (.tup [tv, pv']) = Hc at sq gq ⊢
      have sac := (sa.trans sb).trans sq
      walk_at "r"
      refine ⟨p, q, vb, zs, (th.filled pc').tupled, .tuple [th.data, pc'.data], rfl, hz, .inl ⟨tv, th, pv', pc', gq, spA.same sac, thA.same sac, by have := hth.nodes; omega, by have := hth.dd; omega, hth.surr, pcA.same sac, by have := hpc'.nodes; omega, by have := hpc'.dd; omega, hpc'.text hm', w1, w2⟩, hvb.same sq, w3, w4, w5,
        .tup gq (by simp) (.cons (thA.same sac).dt (.cons (pcA.same sac).dt .nil)), (ShA.cons (good_sh hz hth.good) (ShA.cons (good_sh hz hpc'.good) ShA.nil)).tup.le (by have := hth.dd; have := hpc'.dd; omega) (by have := hth.nodes; have := hpc'.nodes; omega), fun Hd sd => ?_⟩
      have sad := sac.trans sd
      exact k Hd (but_all.trans (bA.trans (But.of sad)))
theorem ok_law {f : Addr} {fd : FuncData} (F : Fun K "law" "law" s_law f fd) (Z : Zs mg) (d__law_cell : DefD P w K mg base 1 "_law_cell" 2 [] byPlace (spCell K)) (d__law_box : DefD P w K mg base 1 "_law_box" 1 [] byPlace spBox)
    (d__law_right : DefD P w K mg base 217 "_law_right" 1 [] byPlace spRight) : FnG P w K mg base CX0 218 f fd ["script"] (spLaw K) := by
  refine okG F sc_law (fun vs H Q E h => ?_) (fun cdv B up z H vs Q E hG hr h => ?_)
  · obtain ⟨a, ns, rfl, _⟩ := h
    rfl
  · obtain ⟨a, ns, rfl, hl, ha, k⟩ := h
    refine ⟨_, (pss_cons (ps_for PassesOwn.never rfl (pi_range1 (by rfl) Z.range_ (pa_cons (pe_callB (c_max2 rfl) (by rfl) Z.max_ (by decide +kernel) (pa_cons pe_int (pa_cons (pe_callB (c_min2 rfl) (by rfl) Z.min_ (by decide +kernel) (pa_cons pe_int (pa_cons (pe_callB (show CallR _ _ (rLen K) from c_len) (by rfl) Z.len_ (by decide +kernel) (pa_cons (pv 0) pa_nil)) pa_nil))) pa_nil))) pa_nil)) (pg_name (i := 1) sc_law.nd rfl (by first | exact Or.inl rfl | exact Or.inr rfl))
  (pss_one (ps_if (pt_not (pt_val (pd_pos d__law_right hG hr (by decide) (by rfl) (pa_cons (pd_pos d__law_box hG hr (by decide) (by rfl) (pa_cons (pd_pos d__law_cell hG hr (by decide) (by rfl) (pa_cons (pv 0) (pa_cons (pv 1) pa_nil))) pa_nil)) pa_nil)))) (pss_one (ps_ret pe_bl)) pss_nil)))
  (pss_one (ps_ret pe_bl))), ?_⟩
    refine r_seq ?_
    refine r_for ?_
    walk_at "r"
    refine r_lenL ha ?_
    walk_at "r"
    generalize hm : (if (if ((ns.map V.int).length : Int) < 4 then ((ns.map V.int).length : Int) else 4) > 2 then (if ((ns.map V.int).length : Int) < 4 then ((ns.map V.int).length : Int) else 4) else 2) = m
    have m4 : 0 ≤ m ∧ m ≤ 4 := by rw [← hm]; split <;> split <;> omega
    refine ⟨_, rfl, by omega, by omega, ?_⟩
    refine for_range (fun i τ G => ∃ v1 : Option V, τ = [some (.ref a), v1] ∧ Same H G) ⟨none, rfl, Same.refl H⟩ ?_ ?_
    · rintro i τ G hi ⟨v1, rfl, sG⟩
      rw [Int.zero_add]
      walk_at "r"
      refine ⟨a, ns, i, rfl, by omega, hl, SqL.same ha sG, fun r G2 s2 => ?_⟩
      walk_at "r"
      refine ⟨r, rfl, fun b G3 s3 n3 b3 => ?_⟩
      walk_at "r"
      refine ⟨b, rfl, b3, fun G4 bt => ?_⟩
      walk_at "r"
      exact ⟨_, rfl, fun a' o e => bt _ _ (ne_of_none (sG.trans s2 _ _ e) n3) (s3 _ _ (s2 _ _ (sG _ _ e)))⟩
    · rintro τ G ⟨v1, rfl, sG⟩
      walk_at "r"
      exact k G
end
end Eld
set_option Elab.async false
set_option maxRecDepth 100000
set_option maxHeartbeats 4000000
set_option linter.all false
namespace Eld
open PySem L2
local macro_rules | `(tactic| walk_at "r1") => `(tactic| with_reducible first
  | refine r_seq ?_ | refine r_asgN ?_ | refine r_asg ?_ | refine r_gname ?_ | refine r_gsub ?_ | refine r_var rfl ?_ | refine r_c ?_ | refine r_op ?_ | refine r_un ?_ | refine r_u ?_ | refine r_i0 ?_ | refine r_cb ?_ | refine r_cons ?_ | refine r_nil ?_ | refine r_cl ?_ | refine r_fn rfl rfl ?_ | refine r_mt ?_
  | refine r_test ?_ | refine r_tb ?_ | refine r_bl ?_ | refine r_and ?_ | refine r_or ?_ | refine r_not ?_ | refine r_andV ?_ | refine r_orV ?_ | refine r_notV ?_ | refine r_ifX ?_ | refine r_ifs ?_ | refine r_chain ?_ | refine r_ret ?_ | refine r_next ?_ | refine r_drop ?_ | refine iteT ?_ | refine iteF ?_ | refine iteNT ?_ | refine iteNF ?_
  | refine r_int1 ?_ | refine r_boolB ?_ | refine r_eqI ?_ | refine r_neI ?_ | refine r_eqB ?_ | refine r_neB ?_ | refine r_eqS ?_ | refine r_neS ?_ | refine r_abs ?_ | refine r_max2 ?_ | refine r_min2 ?_ | refine r_yes ?_ | refine r_tup ?_ | refine r_sfld ?_ | refine r_m0 ?_ | refine r_m1 ?_ | refine r_lst ?_ | refine r_rng1 ?_ | refine r_rng2 ?_ | refine r_ixL (SqL.of (by assumption)) rfl ?_)
local macro_rules | `(tactic| walk_at "r") => `(tactic| repeat (first | walk_at "r1" | ((with_reducible refine r_var ?hv ?_); (case hv => rfl))))

theorem mk_fun {K : PySem.W.Frag} {x ql : Str} {st : Stmt} {f : Addr} {oc : Value} {od an : Option Addr} {osl : Array (Option Value)} {kV doc pm cdv ct : Value} (l : K.lookup f = some ⟨oc, od, .func (PySem.W.fnOf x ql (defArgs st) (defBody st) (defScope st) .none kV doc pm an cdv ct), osl⟩) (c : PySem.W.codeIn K cdv ql = true) (k : PySem.W.keepIn K (.ref f) = true) :
    Fun K x ql st f (PySem.W.fnOf x ql (defArgs st) (defBody st) (defScope st) .none kV doc pm an cdv ct) := fun_mk l c k
theorem exm_of {K : PySem.W.Frag} {c d : Addr} {b : Bool} (h1 : PySem.W.subIn K (.ref d) (.type "BaseException") = some true) (h2 : PySem.W.isClsIn K d = true) (h3 : PySem.W.typeIn K (.ref d) = some (.type "type")) (h4 : PySem.W.subIn K (.ref c) (.ref d) = some b) : PySem.W.exmOne K (.ref c) (.ref d) = some b := by
  have e1 : (PySem.W.subIn K (.ref d) (.type "BaseException") == some true) = true := by rw [h1] <;> rfl
  have e2 : ((PySem.W.clsIn K d).isSome && PySem.W.typeIn K (.ref d) == some (.type "type")) = true := by
    have h2' : (PySem.W.clsIn K d).isSome = true := h2
    rw [h2', h3] <;> rfl
  show (if (PySem.W.subIn K (.ref d) (.type "BaseException") == some true) = true then (if ((PySem.W.clsIn K d).isSome && PySem.W.typeIn K (.ref d) == some (.type "type")) = true then PySem.W.subIn K (.ref c) (.ref d) else none) else none) = some b
  rw [if_pos e1, if_pos e2]
  exact h4
theorem vals_rev : ∀ {zs : List V} {ws : List Value}, Vals zs ws → Vals zs.reverse ws.reverse
  | _, _, .nil => .nil
  | _, _, .cons r rs => by rw [List.reverse_cons, List.reverse_cons]; exact Vals.append (vals_rev rs) (.cons r .nil)
theorem vals_drop : ∀ {zs : List V} {ws : List Value} (n : Nat), Vals zs ws → Vals (zs.drop n) (ws.drop n)
  | _, _, 0, h => h
  | _, _, _ + 1, .nil => .nil
  | _, _, n + 1, .cons _ rs => vals_drop n rs
theorem vals_take : ∀ {zs : List V} {ws : List Value} (n : Nat), Vals zs ws → Vals (zs.take n) (ws.take n)
  | _, _, 0, _ => .nil
  | _, _, _ + 1, .nil => .nil
  | _, _, n + 1, .cons r rs => .cons r (vals_take n rs)
theorem vals_rot {zs : List V} {ws : List Value} (h : Vals zs ws) : Vals (zs.drop 1 ++ zs.take 1) (ws.drop 1 ++ ws.take 1) := Vals.append (vals_drop 1 h) (vals_take 1 h)
theorem all_mk {l : PySem.W.OpenLaw} {w : World} {K : PySem.W.Frag} {h : Heap} {mg : Str → Option Value} {fa CS  f0 f1 f2 f3 f4 f5 f6 f7 f8 f9 f10 f11 f12 f13 f14 f15 f16 f17 f18 f19 f20 f21 f22 f23 f24 f25 f26 f27 f28 f29 f30 f31 f32 f33 f34 f35 f36 f37 f38 f39 f40 f41 f42 f43 f44 f45 f46 f47 f48 f49 f50 f51 f52 f53 f54 f55 f56 f57 f58 : Addr} (X : K.In h) (G : h.Ns mainGlobals mg) (hfa : mg "law" = some (.ref fa))
    {od0 an0 od1 an1 od2 an2 od3 an3 od4 an4 od5 an5 od6 an6 od7 an7 od8 an8 od9 an9 od10 an10 od11 an11 od12 an12 od13 an13 od14 an14 od15 an15 od16 an16 od17 an17 od18 an18 od19 an19 od20 an20 od21 an21 od22 an22 od23 an23 od24 an24 od25 an25 od26 an26 od27 an27 od28 an28 od29 an29 od30 an30 od31 an31 od32 an32 od33 an33 od34 an34 od35 an35 od36 an36 od37 an37 od38 an38 od39 an39 od40 an40 od41 an41 od42 an42 od43 an43 od44 an44 od45 an45 od46 an46 od47 an47 od48 an48 od49 an49 od50 an50 od51 an51 od52 an52 od53 an53 od54 an54 od55 an55 od56 an56 od57 an57 od58 an58 : Option Addr} {sl0 sl1 sl2 sl3 sl4 sl5 sl6 sl7 sl8 sl9 sl10 sl11 sl12 sl13 sl14 sl15 sl16 sl17 sl18 sl19 sl20 sl21 sl22 sl23 sl24 sl25 sl26 sl27 sl28 sl29 sl30 sl31 sl32 sl33 sl34 sl35 sl36 sl37 sl38 sl39 sl40 sl41 sl42 sl43 sl44 sl45 sl46 sl47 sl48 sl49 sl50 sl51 sl52 sl53 sl54 sl55 sl56 sl57 sl58 : Array (Option Value)} {oc0 kV0 dc0 pm0 cd0 ct0 oc1 kV1 dc1 pm1 cd1 ct1 oc2 kV2 dc2 pm2 cd2 ct2 oc3 kV3 dc3 pm3 cd3 ct3 oc4 kV4 dc4 pm4 cd4 ct4 oc5 kV5 dc5 pm5 cd5 ct5 oc6 kV6 dc6 pm6 cd6 ct6 oc7 kV7 dc7 pm7 cd7 ct7 oc8 kV8 dc8 pm8 cd8 ct8 oc9 kV9 dc9 pm9 cd9 ct9 oc10 kV10 dc10 pm10 cd10 ct10 oc11 kV11 dc11 pm11 cd11 ct11 oc12 kV12 dc12 pm12 cd12 ct12 oc13 kV13 dc13 pm13 cd13 ct13 oc14 kV14 dc14 pm14 cd14 ct14 oc15 kV15 dc15 pm15 cd15 ct15 oc16 kV16 dc16 pm16 cd16 ct16 oc17 kV17 dc17 pm17 cd17 ct17 oc18 kV18 dc18 pm18 cd18 ct18 oc19 kV19 dc19 pm19 cd19 ct19 oc20 kV20 dc20 pm20 cd20 ct20 oc21 kV21 dc21 pm21 cd21 ct21 oc22 kV22 dc22 pm22 cd22 ct22 oc23 kV23 dc23 pm23 cd23 ct23 oc24 kV24 dc24 pm24 cd24 ct24 oc25 kV25 dc25 pm25 cd25 ct25 oc26 kV26 dc26 pm26 cd26 ct26 oc27 kV27 dc27 pm27 cd27 ct27 oc28 kV28 dc28 pm28 cd28 ct28 oc29 kV29 dc29 pm29 cd29 ct29 oc30 kV30 dc30 pm30 cd30 ct30 oc31 kV31 dc31 pm31 cd31 ct31 oc32 kV32 dc32 pm32 cd32 ct32 oc33 kV33 dc33 pm33 cd33 ct33 oc34 kV34 dc34 pm34 cd34 ct34 oc35 kV35 dc35 pm35 cd35 ct35 oc36 kV36 dc36 pm36 cd36 ct36 oc37 kV37 dc37 pm37 cd37 ct37 oc38 kV38 dc38 pm38 cd38 ct38 oc39 kV39 dc39 pm39 cd39 ct39 oc40 kV40 dc40 pm40 cd40 ct40 oc41 kV41 dc41 pm41 cd41 ct41 oc42 kV42 dc42 pm42 cd42 ct42 oc43 kV43 dc43 pm43 cd43 ct43 oc44 kV44 dc44 pm44 cd44 ct44 oc45 kV45 dc45 pm45 cd45 ct45 oc46 kV46 dc46 pm46 cd46 ct46 oc47 kV47 dc47 pm47 cd47 ct47 oc48 kV48 dc48 pm48 cd48 ct48 oc49 kV49 dc49 pm49 cd49 ct49 oc50 kV50 dc50 pm50 cd50 ct50 oc51 kV51 dc51 pm51 cd51 ct51 oc52 kV52 dc52 pm52 cd52 ct52 oc53 kV53 dc53 pm53 cd53 ct53 oc54 kV54 dc54 pm54 cd54 ct54 oc55 kV55 dc55 pm55 cd55 ct55 oc56 kV56 dc56 pm56 cd56 ct56 oc57 kV57 dc57 pm57 cd57 ct57 oc58 kV58 dc58 pm58 cd58 ct58 : Value} {tMOST_SIZE tMOST_DEPTH tMOST_HOLES tMOST_WEIGHT tMOST_NAMES tMOST_STORES : Nat}
    {zLA zPA zSA CT zcE zxf : Addr} {xnm xq : Str} {xN : Addr} {xbs xsub : List Value} {xsn : List Str} {xab : Bool} {xcol : Option Bool} {xdd : Option Addr} {xa xb xc xd xe : Option Value} {xoc xkV xdc xpm xcd xct : Value} {xod xan : Option Addr} {xsl : Array (Option Value)}
    (aCS : PySem.W.nsIn K mainGlobals "Space" = some (some (.ref CS)))
    (a0 : PySem.W.nsIn K mainGlobals "_law_take" = some (some (.ref f0)))
    (l0 : K.lookup f0 = some ⟨oc0, od0, .func (PySem.W.fnOf "_law_take" "_law_take" (defArgs s__law_take) (defBody s__law_take) (defScope s__law_take) .none kV0 dc0 pm0 an0 cd0 ct0), sl0⟩)
    (c0 : PySem.W.codeIn K cd0 "_law_take" = true)
    (k0 : PySem.W.keepIn K (.ref f0) = true)
    (a1 : PySem.W.nsIn K mainGlobals "is_integer" = some (some (.ref f1)))
    (l1 : K.lookup f1 = some ⟨oc1, od1, .func (PySem.W.fnOf "is_integer" "is_integer" (defArgs s_is_integer) (defBody s_is_integer) (defScope s_is_integer) .none kV1 dc1 pm1 an1 cd1 ct1), sl1⟩)
    (c1 : PySem.W.codeIn K cd1 "is_integer" = true)
    (k1 : PySem.W.keepIn K (.ref f1) = true)
    (a2 : PySem.W.nsIn K mainGlobals "is_list" = some (some (.ref f2)))
    (l2 : K.lookup f2 = some ⟨oc2, od2, .func (PySem.W.fnOf "is_list" "is_list" (defArgs s_is_list) (defBody s_is_list) (defScope s_is_list) .none kV2 dc2 pm2 an2 cd2 ct2), sl2⟩)
    (c2 : PySem.W.codeIn K cd2 "is_list" = true)
    (k2 : PySem.W.keepIn K (.ref f2) = true)
    (a3 : PySem.W.nsIn K mainGlobals "is_from" = some (some (.ref f3)))
    (l3 : K.lookup f3 = some ⟨oc3, od3, .func (PySem.W.fnOf "is_from" "is_from" (defArgs s_is_from) (defBody s_is_from) (defScope s_is_from) .none kV3 dc3 pm3 an3 cd3 ct3), sl3⟩)
    (c3 : PySem.W.codeIn K cd3 "is_from" = true)
    (k3 : PySem.W.keepIn K (.ref f3) = true)
    (a4 : PySem.W.nsIn K mainGlobals "is_index" = some (some (.ref f4)))
    (l4 : K.lookup f4 = some ⟨oc4, od4, .func (PySem.W.fnOf "is_index" "is_index" (defArgs s_is_index) (defBody s_is_index) (defScope s_is_index) .none kV4 dc4 pm4 an4 cd4 ct4), sl4⟩)
    (c4 : PySem.W.codeIn K cd4 "is_index" = true)
    (k4 : PySem.W.keepIn K (.ref f4) = true)
    (a5 : PySem.W.nsIn K mainGlobals "is_sizes" = some (some (.ref f5)))
    (l5 : K.lookup f5 = some ⟨oc5, od5, .func (PySem.W.fnOf "is_sizes" "is_sizes" (defArgs s_is_sizes) (defBody s_is_sizes) (defScope s_is_sizes) .none kV5 dc5 pm5 an5 cd5 ct5), sl5⟩)
    (c5 : PySem.W.codeIn K cd5 "is_sizes" = true)
    (k5 : PySem.W.keepIn K (.ref f5) = true)
    (a6 : PySem.W.nsIn K mainGlobals "is_digits" = some (some (.ref f6)))
    (l6 : K.lookup f6 = some ⟨oc6, od6, .func (PySem.W.fnOf "is_digits" "is_digits" (defArgs s_is_digits) (defBody s_is_digits) (defScope s_is_digits) .none kV6 dc6 pm6 an6 cd6 ct6), sl6⟩)
    (c6 : PySem.W.codeIn K cd6 "is_digits" = true)
    (k6 : PySem.W.keepIn K (.ref f6) = true)
    (a7 : PySem.W.nsIn K mainGlobals "all_values" = some (some (.ref f7)))
    (l7 : K.lookup f7 = some ⟨oc7, od7, .func (PySem.W.fnOf "all_values" "all_values" (defArgs s_all_values) (defBody s_all_values) (defScope s_all_values) .none kV7 dc7 pm7 an7 cd7 ct7), sl7⟩)
    (c7 : PySem.W.codeIn K cd7 "all_values" = true)
    (k7 : PySem.W.keepIn K (.ref f7) = true)
    (a8 : PySem.W.findIn K (.ref CS) "__init__" = some (some (.ref f8)))
    (i8 : PySem.W.isFn K (.ref f8) = true)
    (l8 : K.lookup f8 = some ⟨oc8, od8, .func (PySem.W.fnOf "__init__" "Space.__init__" (defArgs s_Space___init__) (defBody s_Space___init__) (defScope s_Space___init__) .none kV8 dc8 pm8 an8 cd8 ct8), sl8⟩)
    (c8 : PySem.W.codeIn K cd8 "Space.__init__" = true)
    (k8 : PySem.W.keepIn K (.ref f8) = true)
    (a9 : PySem.W.nsIn K mainGlobals "need_space" = some (some (.ref f9)))
    (l9 : K.lookup f9 = some ⟨oc9, od9, .func (PySem.W.fnOf "need_space" "need_space" (defArgs s_need_space) (defBody s_need_space) (defScope s_need_space) .none kV9 dc9 pm9 an9 cd9 ct9), sl9⟩)
    (c9 : PySem.W.codeIn K cd9 "need_space" = true)
    (k9 : PySem.W.keepIn K (.ref f9) = true)
    (a10 : PySem.W.nsIn K mainGlobals "read_space" = some (some (.ref f10)))
    (l10 : K.lookup f10 = some ⟨oc10, od10, .func (PySem.W.fnOf "read_space" "read_space" (defArgs s_read_space) (defBody s_read_space) (defScope s_read_space) .none kV10 dc10 pm10 an10 cd10 ct10), sl10⟩)
    (c10 : PySem.W.codeIn K cd10 "read_space" = true)
    (k10 : PySem.W.keepIn K (.ref f10) = true)
    (a11 : PySem.W.nsIn K mainGlobals "_law_cell" = some (some (.ref f11)))
    (l11 : K.lookup f11 = some ⟨oc11, od11, .func (PySem.W.fnOf "_law_cell" "_law_cell" (defArgs s__law_cell) (defBody s__law_cell) (defScope s__law_cell) .none kV11 dc11 pm11 an11 cd11 ct11), sl11⟩)
    (c11 : PySem.W.codeIn K cd11 "_law_cell" = true)
    (k11 : PySem.W.keepIn K (.ref f11) = true)
    (a12 : PySem.W.nsIn K mainGlobals "_law_box" = some (some (.ref f12)))
    (l12 : K.lookup f12 = some ⟨oc12, od12, .func (PySem.W.fnOf "_law_box" "_law_box" (defArgs s__law_box) (defBody s__law_box) (defScope s__law_box) .none kV12 dc12 pm12 an12 cd12 ct12), sl12⟩)
    (c12 : PySem.W.codeIn K cd12 "_law_box" = true)
    (k12 : PySem.W.keepIn K (.ref f12) = true)
    (a13 : PySem.W.nsIn K mainGlobals "is_ascending" = some (some (.ref f13)))
    (l13 : K.lookup f13 = some ⟨oc13, od13, .func (PySem.W.fnOf "is_ascending" "is_ascending" (defArgs s_is_ascending) (defBody s_is_ascending) (defScope s_is_ascending) .none kV13 dc13 pm13 an13 cd13 ct13), sl13⟩)
    (c13 : PySem.W.codeIn K cd13 "is_ascending" = true)
    (k13 : PySem.W.keepIn K (.ref f13) = true)
    (a14 : PySem.W.nsIn K mainGlobals "is_set_below" = some (some (.ref f14)))
    (l14 : K.lookup f14 = some ⟨oc14, od14, .func (PySem.W.fnOf "is_set_below" "is_set_below" (defArgs s_is_set_below) (defBody s_is_set_below) (defScope s_is_set_below) .none kV14 dc14 pm14 an14 cd14 ct14), sl14⟩)
    (c14 : PySem.W.codeIn K cd14 "is_set_below" = true)
    (k14 : PySem.W.keepIn K (.ref f14) = true)
    (a15 : PySem.W.nsIn K mainGlobals "is_hole_count" = some (some (.ref f15)))
    (l15 : K.lookup f15 = some ⟨oc15, od15, .func (PySem.W.fnOf "is_hole_count" "is_hole_count" (defArgs s_is_hole_count) (defBody s_is_hole_count) (defScope s_is_hole_count) .none kV15 dc15 pm15 an15 cd15 ct15), sl15⟩)
    (c15 : PySem.W.codeIn K cd15 "is_hole_count" = true)
    (k15 : PySem.W.keepIn K (.ref f15) = true)
    (a16 : PySem.W.nsIn K mainGlobals "is_name" = some (some (.ref f16)))
    (l16 : K.lookup f16 = some ⟨oc16, od16, .func (PySem.W.fnOf "is_name" "is_name" (defArgs s_is_name) (defBody s_is_name) (defScope s_is_name) .none kV16 dc16 pm16 an16 cd16 ct16), sl16⟩)
    (c16 : PySem.W.codeIn K cd16 "is_name" = true)
    (k16 : PySem.W.keepIn K (.ref f16) = true)
    (a17 : PySem.W.nsIn K mainGlobals "is_pair" = some (some (.ref f17)))
    (l17 : K.lookup f17 = some ⟨oc17, od17, .func (PySem.W.fnOf "is_pair" "is_pair" (defArgs s_is_pair) (defBody s_is_pair) (defScope s_is_pair) .none kV17 dc17 pm17 an17 cd17 ct17), sl17⟩)
    (c17 : PySem.W.codeIn K cd17 "is_pair" = true)
    (k17 : PySem.W.keepIn K (.ref f17) = true)
    (a18 : PySem.W.nsIn K mainGlobals "is_setting" = some (some (.ref f18)))
    (l18 : K.lookup f18 = some ⟨oc18, od18, .func (PySem.W.fnOf "is_setting" "is_setting" (defArgs s_is_setting) (defBody s_is_setting) (defScope s_is_setting) .none kV18 dc18 pm18 an18 cd18 ct18), sl18⟩)
    (c18 : PySem.W.codeIn K cd18 "is_setting" = true)
    (k18 : PySem.W.keepIn K (.ref f18) = true)
    (a19 : PySem.W.nsIn K mainGlobals "is_weighing" = some (some (.ref f19)))
    (l19 : K.lookup f19 = some ⟨oc19, od19, .func (PySem.W.fnOf "is_weighing" "is_weighing" (defArgs s_is_weighing) (defBody s_is_weighing) (defScope s_is_weighing) .none kV19 dc19 pm19 an19 cd19 ct19), sl19⟩)
    (c19 : PySem.W.codeIn K cd19 "is_weighing" = true)
    (k19 : PySem.W.keepIn K (.ref f19) = true)
    (a20 : PySem.W.nsIn K mainGlobals "children" = some (some (.ref f20)))
    (l20 : K.lookup f20 = some ⟨oc20, od20, .func (PySem.W.fnOf "children" "children" (defArgs s_children) (defBody s_children) (defScope s_children) .none kV20 dc20 pm20 an20 cd20 ct20), sl20⟩)
    (c20 : PySem.W.codeIn K cd20 "children" = true)
    (k20 : PySem.W.keepIn K (.ref f20) = true)
    (a21 : PySem.W.nsIn K mainGlobals "is_part" = some (some (.ref f21)))
    (l21 : K.lookup f21 = some ⟨oc21, od21, .func (PySem.W.fnOf "is_part" "is_part" (defArgs s_is_part) (defBody s_is_part) (defScope s_is_part) .none kV21 dc21 pm21 an21 cd21 ct21), sl21⟩)
    (c21 : PySem.W.codeIn K cd21 "is_part" = true)
    (k21 : PySem.W.keepIn K (.ref f21) = true)
    (a22 : PySem.W.nsIn K mainGlobals "holes_of" = some (some (.ref f22)))
    (l22 : K.lookup f22 = some ⟨oc22, od22, .func (PySem.W.fnOf "holes_of" "holes_of" (defArgs s_holes_of) (defBody s_holes_of) (defScope s_holes_of) .none kV22 dc22 pm22 an22 cd22 ct22), sl22⟩)
    (c22 : PySem.W.codeIn K cd22 "holes_of" = true)
    (k22 : PySem.W.keepIn K (.ref f22) = true)
    (a23 : PySem.W.nsIn K mainGlobals "is_text" = some (some (.ref f23)))
    (l23 : K.lookup f23 = some ⟨oc23, od23, .func (PySem.W.fnOf "is_text" "is_text" (defArgs s_is_text) (defBody s_is_text) (defScope s_is_text) .none kV23 dc23 pm23 an23 cd23 ct23), sl23⟩)
    (c23 : PySem.W.codeIn K cd23 "is_text" = true)
    (k23 : PySem.W.keepIn K (.ref f23) = true)
    (a24 : PySem.W.nsIn K mainGlobals "is_surrounding" = some (some (.ref f24)))
    (l24 : K.lookup f24 = some ⟨oc24, od24, .func (PySem.W.fnOf "is_surrounding" "is_surrounding" (defArgs s_is_surrounding) (defBody s_is_surrounding) (defScope s_is_surrounding) .none kV24 dc24 pm24 an24 cd24 ct24), sl24⟩)
    (c24 : PySem.W.codeIn K cd24 "is_surrounding" = true)
    (k24 : PySem.W.keepIn K (.ref f24) = true)
    (a25 : PySem.W.nsIn K mainGlobals "is_text_or_surrounding" = some (some (.ref f25)))
    (l25 : K.lookup f25 = some ⟨oc25, od25, .func (PySem.W.fnOf "is_text_or_surrounding" "is_text_or_surrounding" (defArgs s_is_text_or_surrounding) (defBody s_is_text_or_surrounding) (defScope s_is_text_or_surrounding) .none kV25 dc25 pm25 an25 cd25 ct25), sl25⟩)
    (c25 : PySem.W.codeIn K cd25 "is_text_or_surrounding" = true)
    (k25 : PySem.W.keepIn K (.ref f25) = true)
    (a26 : PySem.W.nsIn K mainGlobals "need_text" = some (some (.ref f26)))
    (l26 : K.lookup f26 = some ⟨oc26, od26, .func (PySem.W.fnOf "need_text" "need_text" (defArgs s_need_text) (defBody s_need_text) (defScope s_need_text) .none kV26 dc26 pm26 an26 cd26 ct26), sl26⟩)
    (c26 : PySem.W.codeIn K cd26 "need_text" = true)
    (k26 : PySem.W.keepIn K (.ref f26) = true)
    (a27 : PySem.W.nsIn K mainGlobals "need_any_text" = some (some (.ref f27)))
    (l27 : K.lookup f27 = some ⟨oc27, od27, .func (PySem.W.fnOf "need_any_text" "need_any_text" (defArgs s_need_any_text) (defBody s_need_any_text) (defScope s_need_any_text) .none kV27 dc27 pm27 an27 cd27 ct27), sl27⟩)
    (c27 : PySem.W.codeIn K cd27 "need_any_text" = true)
    (k27 : PySem.W.keepIn K (.ref f27) = true)
    (a28 : PySem.W.nsIn K mainGlobals "in_tuples" = some (some (.ref f28)))
    (l28 : K.lookup f28 = some ⟨oc28, od28, .func (PySem.W.fnOf "in_tuples" "in_tuples" (defArgs s_in_tuples) (defBody s_in_tuples) (defScope s_in_tuples) .none kV28 dc28 pm28 an28 cd28 ct28), sl28⟩)
    (c28 : PySem.W.codeIn K cd28 "in_tuples" = true)
    (k28 : PySem.W.keepIn K (.ref f28) = true)
    (a29 : PySem.W.nsIn K mainGlobals "listed_parts" = some (some (.ref f29)))
    (l29 : K.lookup f29 = some ⟨oc29, od29, .func (PySem.W.fnOf "listed_parts" "listed_parts" (defArgs s_listed_parts) (defBody s_listed_parts) (defScope s_listed_parts) .none kV29 dc29 pm29 an29 cd29 ct29), sl29⟩)
    (c29 : PySem.W.codeIn K cd29 "listed_parts" = true)
    (k29 : PySem.W.keepIn K (.ref f29) = true)
    (a30 : PySem.W.nsIn K mainGlobals "size_of" = some (some (.ref f30)))
    (l30 : K.lookup f30 = some ⟨oc30, od30, .func (PySem.W.fnOf "size_of" "size_of" (defArgs s_size_of) (defBody s_size_of) (defScope s_size_of) .none kV30 dc30 pm30 an30 cd30 ct30), sl30⟩)
    (c30 : PySem.W.codeIn K cd30 "size_of" = true)
    (k30 : PySem.W.keepIn K (.ref f30) = true)
    (a31 : PySem.W.nsIn K mainGlobals "depth_of" = some (some (.ref f31)))
    (l31 : K.lookup f31 = some ⟨oc31, od31, .func (PySem.W.fnOf "depth_of" "depth_of" (defArgs s_depth_of) (defBody s_depth_of) (defScope s_depth_of) .none kV31 dc31 pm31 an31 cd31 ct31), sl31⟩)
    (c31 : PySem.W.codeIn K cd31 "depth_of" = true)
    (k31 : PySem.W.keepIn K (.ref f31) = true)
    (a32 : PySem.W.nsIn K mainGlobals "filled" = some (some (.ref f32)))
    (l32 : K.lookup f32 = some ⟨oc32, od32, .func (PySem.W.fnOf "filled" "filled" (defArgs s_filled) (defBody s_filled) (defScope s_filled) .none kV32 dc32 pm32 an32 cd32 ct32), sl32⟩)
    (c32 : PySem.W.codeIn K cd32 "filled" = true)
    (k32 : PySem.W.keepIn K (.ref f32) = true)
    (a33 : PySem.W.nsIn K mainGlobals "replaced" = some (some (.ref f33)))
    (l33 : K.lookup f33 = some ⟨oc33, od33, .func (PySem.W.fnOf "replaced" "replaced" (defArgs s_replaced) (defBody s_replaced) (defScope s_replaced) .none kV33 dc33 pm33 an33 cd33 ct33), sl33⟩)
    (c33 : PySem.W.codeIn K cd33 "replaced" = true)
    (k33 : PySem.W.keepIn K (.ref f33) = true)
    (a34 : PySem.W.nsIn K mainGlobals "is_path" = some (some (.ref f34)))
    (l34 : K.lookup f34 = some ⟨oc34, od34, .func (PySem.W.fnOf "is_path" "is_path" (defArgs s_is_path) (defBody s_is_path) (defScope s_is_path) .none kV34 dc34 pm34 an34 cd34 ct34), sl34⟩)
    (c34 : PySem.W.codeIn K cd34 "is_path" = true)
    (k34 : PySem.W.keepIn K (.ref f34) = true)
    (a35 : PySem.W.nsIn K mainGlobals "size" = some (some (.ref f35)))
    (l35 : K.lookup f35 = some ⟨oc35, od35, .func (PySem.W.fnOf "size" "size" (defArgs s_size) (defBody s_size) (defScope s_size) .none kV35 dc35 pm35 an35 cd35 ct35), sl35⟩)
    (c35 : PySem.W.codeIn K cd35 "size" = true)
    (k35 : PySem.W.keepIn K (.ref f35) = true)
    (a36 : PySem.W.nsIn K mainGlobals "depth" = some (some (.ref f36)))
    (l36 : K.lookup f36 = some ⟨oc36, od36, .func (PySem.W.fnOf "depth" "depth" (defArgs s_depth) (defBody s_depth) (defScope s_depth) .none kV36 dc36 pm36 an36 cd36 ct36), sl36⟩)
    (c36 : PySem.W.codeIn K cd36 "depth" = true)
    (k36 : PySem.W.keepIn K (.ref f36) = true)
    (a37 : PySem.W.nsIn K mainGlobals "within_bounds" = some (some (.ref f37)))
    (l37 : K.lookup f37 = some ⟨oc37, od37, .func (PySem.W.fnOf "within_bounds" "within_bounds" (defArgs s_within_bounds) (defBody s_within_bounds) (defScope s_within_bounds) .none kV37 dc37 pm37 an37 cd37 ct37), sl37⟩)
    (c37 : PySem.W.codeIn K cd37 "within_bounds" = true)
    (k37 : PySem.W.keepIn K (.ref f37) = true)
    (a38 : PySem.W.nsIn K mainGlobals "put_at" = some (some (.ref f38)))
    (l38 : K.lookup f38 = some ⟨oc38, od38, .func (PySem.W.fnOf "put_at" "put_at" (defArgs s_put_at) (defBody s_put_at) (defScope s_put_at) .none kV38 dc38 pm38 an38 cd38 ct38), sl38⟩)
    (c38 : PySem.W.codeIn K cd38 "put_at" = true)
    (k38 : PySem.W.keepIn K (.ref f38) = true)
    (a39 : PySem.W.nsIn K mainGlobals "fill" = some (some (.ref f39)))
    (l39 : K.lookup f39 = some ⟨oc39, od39, .func (PySem.W.fnOf "fill" "fill" (defArgs s_fill) (defBody s_fill) (defScope s_fill) .none kV39 dc39 pm39 an39 cd39 ct39), sl39⟩)
    (c39 : PySem.W.codeIn K cd39 "fill" = true)
    (k39 : PySem.W.keepIn K (.ref f39) = true)
    (a40 : PySem.W.nsIn K mainGlobals "_law_product" = some (some (.ref f40)))
    (l40 : K.lookup f40 = some ⟨oc40, od40, .func (PySem.W.fnOf "_law_product" "_law_product" (defArgs s__law_product) (defBody s__law_product) (defScope s__law_product) .none kV40 dc40 pm40 an40 cd40 ct40), sl40⟩)
    (c40 : PySem.W.codeIn K cd40 "_law_product" = true)
    (k40 : PySem.W.keepIn K (.ref f40) = true)
    (a41 : PySem.W.nsIn K mainGlobals "_law_widths" = some (some (.ref f41)))
    (l41 : K.lookup f41 = some ⟨oc41, od41, .func (PySem.W.fnOf "_law_widths" "_law_widths" (defArgs s__law_widths) (defBody s__law_widths) (defScope s__law_widths) .none kV41 dc41 pm41 an41 cd41 ct41), sl41⟩)
    (c41 : PySem.W.codeIn K cd41 "_law_widths" = true)
    (k41 : PySem.W.keepIn K (.ref f41) = true)
    (a42 : PySem.W.nsIn K mainGlobals "_law_row" = some (some (.ref f42)))
    (l42 : K.lookup f42 = some ⟨oc42, od42, .func (PySem.W.fnOf "_law_row" "_law_row" (defArgs s__law_row) (defBody s__law_row) (defScope s__law_row) .none kV42 dc42 pm42 an42 cd42 ct42), sl42⟩)
    (c42 : PySem.W.codeIn K cd42 "_law_row" = true)
    (k42 : PySem.W.keepIn K (.ref f42) = true)
    (a43 : PySem.W.nsIn K mainGlobals "_law_guard" = some (some (.ref f43)))
    (l43 : K.lookup f43 = some ⟨oc43, od43, .func (PySem.W.fnOf "_law_guard" "_law_guard" (defArgs s__law_guard) (defBody s__law_guard) (defScope s__law_guard) .none kV43 dc43 pm43 an43 cd43 ct43), sl43⟩)
    (c43 : PySem.W.codeIn K cd43 "_law_guard" = true)
    (k43 : PySem.W.keepIn K (.ref f43) = true)
    (a44 : PySem.W.nsIn K mainGlobals "_law_weights" = some (some (.ref f44)))
    (l44 : K.lookup f44 = some ⟨oc44, od44, .func (PySem.W.fnOf "_law_weights" "_law_weights" (defArgs s__law_weights) (defBody s__law_weights) (defScope s__law_weights) .none kV44 dc44 pm44 an44 cd44 ct44), sl44⟩)
    (c44 : PySem.W.codeIn K cd44 "_law_weights" = true)
    (k44 : PySem.W.keepIn K (.ref f44) = true)
    (a45 : PySem.W.nsIn K mainGlobals "_law_leaf" = some (some (.ref f45)))
    (l45 : K.lookup f45 = some ⟨oc45, od45, .func (PySem.W.fnOf "_law_leaf" "_law_leaf" (defArgs s__law_leaf) (defBody s__law_leaf) (defScope s__law_leaf) .none kV45 dc45 pm45 an45 cd45 ct45), sl45⟩)
    (c45 : PySem.W.codeIn K cd45 "_law_leaf" = true)
    (k45 : PySem.W.keepIn K (.ref f45) = true)
    (a46 : PySem.W.nsIn K mainGlobals "_law_kids" = some (some (.ref f46)))
    (l46 : K.lookup f46 = some ⟨oc46, od46, .func (PySem.W.fnOf "_law_kids" "_law_kids" (defArgs s__law_kids) (defBody s__law_kids) (defScope s__law_kids) .none kV46 dc46 pm46 an46 cd46 ct46), sl46⟩)
    (c46 : PySem.W.codeIn K cd46 "_law_kids" = true)
    (k46 : PySem.W.keepIn K (.ref f46) = true)
    (a47 : PySem.W.nsIn K mainGlobals "_law_tupled" = some (some (.ref f47)))
    (l47 : K.lookup f47 = some ⟨oc47, od47, .func (PySem.W.fnOf "_law_tupled" "_law_tupled" (defArgs s__law_tupled) (defBody s__law_tupled) (defScope s__law_tupled) .none kV47 dc47 pm47 an47 cd47 ct47), sl47⟩)
    (c47 : PySem.W.codeIn K cd47 "_law_tupled" = true)
    (k47 : PySem.W.keepIn K (.ref f47) = true)
    (a48 : PySem.W.nsIn K mainGlobals "_law_put" = some (some (.ref f48)))
    (l48 : K.lookup f48 = some ⟨oc48, od48, .func (PySem.W.fnOf "_law_put" "_law_put" (defArgs s__law_put) (defBody s__law_put) (defScope s__law_put) .none kV48 dc48 pm48 an48 cd48 ct48), sl48⟩)
    (c48 : PySem.W.codeIn K cd48 "_law_put" = true)
    (k48 : PySem.W.keepIn K (.ref f48) = true)
    (a49 : PySem.W.nsIn K mainGlobals "_law_filled" = some (some (.ref f49)))
    (l49 : K.lookup f49 = some ⟨oc49, od49, .func (PySem.W.fnOf "_law_filled" "_law_filled" (defArgs s__law_filled) (defBody s__law_filled) (defScope s__law_filled) .none kV49 dc49 pm49 an49 cd49 ct49), sl49⟩)
    (c49 : PySem.W.codeIn K cd49 "_law_filled" = true)
    (k49 : PySem.W.keepIn K (.ref f49) = true)
    (a50 : PySem.W.nsIn K mainGlobals "_law_shape" = some (some (.ref f50)))
    (l50 : K.lookup f50 = some ⟨oc50, od50, .func (PySem.W.fnOf "_law_shape" "_law_shape" (defArgs s__law_shape) (defBody s__law_shape) (defScope s__law_shape) .none kV50 dc50 pm50 an50 cd50 ct50), sl50⟩)
    (c50 : PySem.W.codeIn K cd50 "_law_shape" = true)
    (k50 : PySem.W.keepIn K (.ref f50) = true)
    (a51 : PySem.W.nsIn K mainGlobals "_law_all_parts" = some (some (.ref f51)))
    (l51 : K.lookup f51 = some ⟨oc51, od51, .func (PySem.W.fnOf "_law_all_parts" "_law_all_parts" (defArgs s__law_all_parts) (defBody s__law_all_parts) (defScope s__law_all_parts) .none kV51 dc51 pm51 an51 cd51 ct51), sl51⟩)
    (c51 : PySem.W.codeIn K cd51 "_law_all_parts" = true)
    (k51 : PySem.W.keepIn K (.ref f51) = true)
    (a52 : PySem.W.nsIn K mainGlobals "_law_pile" = some (some (.ref f52)))
    (l52 : K.lookup f52 = some ⟨oc52, od52, .func (PySem.W.fnOf "_law_pile" "_law_pile" (defArgs s__law_pile) (defBody s__law_pile) (defScope s__law_pile) .none kV52 dc52 pm52 an52 cd52 ct52), sl52⟩)
    (c52 : PySem.W.codeIn K cd52 "_law_pile" = true)
    (k52 : PySem.W.keepIn K (.ref f52) = true)
    (a53 : PySem.W.nsIn K mainGlobals "_law_sized" = some (some (.ref f53)))
    (l53 : K.lookup f53 = some ⟨oc53, od53, .func (PySem.W.fnOf "_law_sized" "_law_sized" (defArgs s__law_sized) (defBody s__law_sized) (defScope s__law_sized) .none kV53 dc53 pm53 an53 cd53 ct53), sl53⟩)
    (c53 : PySem.W.codeIn K cd53 "_law_sized" = true)
    (k53 : PySem.W.keepIn K (.ref f53) = true)
    (a54 : PySem.W.nsIn K mainGlobals "_law_around" = some (some (.ref f54)))
    (l54 : K.lookup f54 = some ⟨oc54, od54, .func (PySem.W.fnOf "_law_around" "_law_around" (defArgs s__law_around) (defBody s__law_around) (defScope s__law_around) .none kV54 dc54 pm54 an54 cd54 ct54), sl54⟩)
    (c54 : PySem.W.codeIn K cd54 "_law_around" = true)
    (k54 : PySem.W.keepIn K (.ref f54) = true)
    (a55 : PySem.W.nsIn K mainGlobals "_law_told" = some (some (.ref f55)))
    (l55 : K.lookup f55 = some ⟨oc55, od55, .func (PySem.W.fnOf "_law_told" "_law_told" (defArgs s__law_told) (defBody s__law_told) (defScope s__law_told) .none kV55 dc55 pm55 an55 cd55 ct55), sl55⟩)
    (c55 : PySem.W.codeIn K cd55 "_law_told" = true)
    (k55 : PySem.W.keepIn K (.ref f55) = true)
    (a56 : PySem.W.nsIn K mainGlobals "_law_meets" = some (some (.ref f56)))
    (l56 : K.lookup f56 = some ⟨oc56, od56, .func (PySem.W.fnOf "_law_meets" "_law_meets" (defArgs s__law_meets) (defBody s__law_meets) (defScope s__law_meets) .none kV56 dc56 pm56 an56 cd56 ct56), sl56⟩)
    (c56 : PySem.W.codeIn K cd56 "_law_meets" = true)
    (k56 : PySem.W.keepIn K (.ref f56) = true)
    (a57 : PySem.W.nsIn K mainGlobals "_law_right" = some (some (.ref f57)))
    (l57 : K.lookup f57 = some ⟨oc57, od57, .func (PySem.W.fnOf "_law_right" "_law_right" (defArgs s__law_right) (defBody s__law_right) (defScope s__law_right) .none kV57 dc57 pm57 an57 cd57 ct57), sl57⟩)
    (c57 : PySem.W.codeIn K cd57 "_law_right" = true)
    (k57 : PySem.W.keepIn K (.ref f57) = true)
    (a58 : PySem.W.nsIn K mainGlobals "law" = some (some (.ref f58)))
    (l58 : K.lookup f58 = some ⟨oc58, od58, .func (PySem.W.fnOf "law" "law" (defArgs s_law) (defBody s_law) (defScope s_law) .none kV58 dc58 pm58 an58 cd58 ct58), sl58⟩)
    (c58 : PySem.W.codeIn K cd58 "law" = true)
    (k58 : PySem.W.keepIn K (.ref f58) = true)
    (pgCS : PySem.W.plainGet K CS Str.empty = true)
    (hdCS : PySem.W.hasDictIn K CS = true)
    (poCS : PySem.W.plainOver K CS = true)
    (saCS : PySem.W.findIn K (.ref CS) "__setattr__" = some (some (.builtin "object.__setattr__")))
    (mkCS : PySem.W.makesIn K CS = true)
    (kcCS : PySem.W.keepIn K (.ref CS) = true)
    (haCS : PySem.W.findIn K (.ref CS) "__class__" = some (some (.builtin "object.__class__")))
    (hmCS : PySem.W.mroIn K CS (.type "object") = some true)
    (nCS_sizes : PySem.W.findIn K (.ref CS) "sizes" = some none)
    (nCS__stores : PySem.W.findIn K (.ref CS) "_stores" = some none)
    (nCS_never : PySem.W.findIn K (.ref CS) "never" = some none)
    (qCS_NoneType : PySem.W.kitOne K (.type "NoneType") (.ref CS) = some false)
    (qCS_list : PySem.W.kitOne K (.type "list") (.ref CS) = some false)
    (qCS_tuple : PySem.W.kitOne K (.type "tuple") (.ref CS) = some false)
    (qCS_str : PySem.W.kitOne K (.type "str") (.ref CS) = some false)
    (qCS_int : PySem.W.kitOne K (.type "int") (.ref CS) = some false)
    (qCS_bool : PySem.W.kitOne K (.type "bool") (.ref CS) = some false)
    (hn : PySem.W.specialIn K (.builtin "object.__class__") "__get__" = some (some (.builtin "getset_descriptor.__get__")))
    (ht : PySem.W.takesIn K (.builtin "object.__class__") = some true)
    (aE : PySem.W.nsIn K mainGlobals "EndError" = some (some (.ref zcE)))
    (xg : PySem.W.nsIn K mainGlobals "TooMany" = some (some (.ref CT)))
    (xl : K.lookup CT = some (excClassObj xnm xq CT xN xbs [.ref zcE, .type "ValueError", .type "Exception", .type "BaseException", .type "object"] true xsn xsub xab xcol xdd xa xb xc xd xe "ValueError.__new__"))
    (xs : PySem.W.findIn K (.ref CT) "__setattr__" = some (some (.builtin "object.__setattr__")))
    (xga : PySem.W.findIn K (.ref CT) "__getattribute__" = some (some (.builtin "BaseException.__getattribute__")))
    (xgg : PySem.W.findIn K (.ref CT) "__getattr__" = some none)
    (xn : PySem.W.findIn K (.ref CT) "count" = some none)
    (xi : PySem.W.findIn K (.ref CT) "__init__" = some (some (.ref zxf)))
    (xt : PySem.W.typeIn K (.ref zxf) = some (.type "function"))
    (xfl : K.lookup zxf = some ⟨xoc, xod, .func (PySem.W.fnOf "__init__" "TooMany.__init__" (defArgs s_TooMany___init__) (defBody s_TooMany___init__) (defScope s_TooMany___init__) .none xkV xdc xpm xan xcd xct), xsl⟩)
    (xfc : PySem.W.codeIn K xcd "TooMany.__init__" = true)
    (xfk : PySem.W.keepIn K (.ref zxf) = true)
    (xk : PySem.W.keepIn K (.ref CT) = true)
    (xe_ : PySem.W.subIn K (.ref CT) (.type "BaseException") = some true)
    (xty : PySem.W.typeIn K (.ref CT) = some (.type "type"))
    (xh : PySem.W.hasDictIn K CT = true)
    (xis : PySem.W.isClsIn K CT = true)
    (xs_00 : PySem.W.subIn K (.ref CT) (.ref CT) = some true)
    (zgL : PySem.W.nsIn K mainGlobals "LENGTHS" = some (some (.ref zLA)))
    (zgP : PySem.W.nsIn K mainGlobals "PARTS_FROM" = some (some (.ref zPA)))
    (zgA : PySem.W.nsIn K mainGlobals "ALL_SIZES" = some (some (.ref zSA)))
    (tbL : ∃ es n, KDict K w zLA es n)
    (tbP : ∃ es n, KDict K w zPA es n)
    (tA : tupRefsB K zSA 13 = true)
    (gl_skip : getB K zLA "skip" 1 = true)
    (gl_hole : getB K zLA "hole" 1 = true)
    (gl_set : getB K zLA "set" 3 = true)
    (gl_draw : getB K zLA "draw" 4 = true)
    (gl_then : getB K zLA "then" 3 = true)
    (gl_if : getB K zLA "if" 4 = true)
    (gl_either : getB K zLA "either" 3 = true)
    (gl_while : getB K zLA "while" 3 = true)
    (gp_skip : getB K zPA "skip" 1 = true)
    (gp_hole : getB K zPA "hole" 1 = true)
    (gp_set : getB K zPA "set" 3 = true)
    (gp_draw : getB K zPA "draw" 4 = true)
    (gp_then : getB K zPA "then" 1 = true)
    (gp_if : getB K zPA "if" 2 = true)
    (gp_either : getB K zPA "either" 1 = true)
    (gp_while : getB K zPA "while" 2 = true)
    (tz0 : tupIntsB K ((seqRefs K zSA).getD 0 0) [2] = true)
    (tz1 : tupIntsB K ((seqRefs K zSA).getD 1 0) [3] = true)
    (tz2 : tupIntsB K ((seqRefs K zSA).getD 2 0) [4] = true)
    (tz3 : tupIntsB K ((seqRefs K zSA).getD 3 0) [5] = true)
    (tz4 : tupIntsB K ((seqRefs K zSA).getD 4 0) [6] = true)
    (tz5 : tupIntsB K ((seqRefs K zSA).getD 5 0) [7] = true)
    (tz6 : tupIntsB K ((seqRefs K zSA).getD 6 0) [8] = true)
    (tz7 : tupIntsB K ((seqRefs K zSA).getD 7 0) [2, 2] = true)
    (tz8 : tupIntsB K ((seqRefs K zSA).getD 8 0) [2, 3] = true)
    (tz9 : tupIntsB K ((seqRefs K zSA).getD 9 0) [3, 2] = true)
    (tz10 : tupIntsB K ((seqRefs K zSA).getD 10 0) [2, 4] = true)
    (tz11 : tupIntsB K ((seqRefs K zSA).getD 11 0) [4, 2] = true)
    (tz12 : tupIntsB K ((seqRefs K zSA).getD 12 0) [2, 2, 2] = true)
    (z_isinstance : PySem.W.nsIn K mainGlobals "isinstance" = some none)
    (z_int : PySem.W.nsIn K mainGlobals "int" = some none)
    (z_bool : PySem.W.nsIn K mainGlobals "bool" = some none)
    (z_str : PySem.W.nsIn K mainGlobals "str" = some none)
    (z_list : PySem.W.nsIn K mainGlobals "list" = some none)
    (z_tuple : PySem.W.nsIn K mainGlobals "tuple" = some none)
    (z_len : PySem.W.nsIn K mainGlobals "len" = some none)
    (z_abs : PySem.W.nsIn K mainGlobals "abs" = some none)
    (z_max : PySem.W.nsIn K mainGlobals "max" = some none)
    (z_min : PySem.W.nsIn K mainGlobals "min" = some none)
    (z_sum : PySem.W.nsIn K mainGlobals "sum" = some none)
    (z_repr : PySem.W.nsIn K mainGlobals "repr" = some none)
    (z_all : PySem.W.nsIn K mainGlobals "all" = some none)
    (z_range : PySem.W.nsIn K mainGlobals "range" = some none)
    (z_zip : PySem.W.nsIn K mainGlobals "zip" = some none)
    (z_any : PySem.W.nsIn K mainGlobals "any" = some none)
    (z_enumerate : PySem.W.nsIn K mainGlobals "enumerate" = some none)
    (z_gcd : PySem.W.nsIn K mainGlobals "gcd" = some (some (.builtin "math.gcd")))
    (g_MOST_SIZE : PySem.W.nsIn K mainGlobals "MOST_SIZE" = some (some (.int 24 tMOST_SIZE)))
    (g_MOST_DEPTH : PySem.W.nsIn K mainGlobals "MOST_DEPTH" = some (some (.int 4 tMOST_DEPTH)))
    (g_MOST_HOLES : PySem.W.nsIn K mainGlobals "MOST_HOLES" = some (some (.int 3 tMOST_HOLES)))
    (g_MOST_WEIGHT : PySem.W.nsIn K mainGlobals "MOST_WEIGHT" = some (some (.int 1000000 tMOST_WEIGHT)))
    (g_MOST_NAMES : PySem.W.nsIn K mainGlobals "MOST_NAMES" = some (some (.int 3 tMOST_NAMES)))
    (g_MOST_STORES : PySem.W.nsIn K mainGlobals "MOST_STORES" = some (some (.int 8 tMOST_STORES)))
    : ∃ fd : FuncData, (∀ (s : Shared) (v : Value), BindsTo s fd ⟨[v], []⟩ [("script", v)]) ∧ ∀ base : Heap, K.In base → base.Ns mainGlobals mg → ModsD base → FnG l.prog w K mg base CX0 218 fa fd ["script"] (spLaw K) := by
  have e := hfa.symm.trans (PySem.W.mg_of X G a58)
  cases e
  have Z : Zs mg := ⟨PySem.W.mg_none_of X G z_isinstance, PySem.W.mg_none_of X G z_int, PySem.W.mg_none_of X G z_bool, PySem.W.mg_none_of X G z_str, PySem.W.mg_none_of X G z_list, PySem.W.mg_none_of X G z_tuple, PySem.W.mg_none_of X G z_len, PySem.W.mg_none_of X G z_abs, PySem.W.mg_none_of X G z_max, PySem.W.mg_none_of X G z_min, PySem.W.mg_none_of X G z_sum, PySem.W.mg_none_of X G z_repr, PySem.W.mg_none_of X G z_all, PySem.W.mg_none_of X G z_range, PySem.W.mg_none_of X G z_zip, PySem.W.mg_none_of X G z_any, PySem.W.mg_none_of X G z_enumerate, PySem.W.mg_of X G z_gcd, ⟨_, PySem.W.mg_of X G g_MOST_SIZE, ⟨_, rfl⟩⟩, ⟨_, PySem.W.mg_of X G g_MOST_DEPTH, ⟨_, rfl⟩⟩, ⟨_, PySem.W.mg_of X G g_MOST_HOLES, ⟨_, rfl⟩⟩, ⟨_, PySem.W.mg_of X G g_MOST_WEIGHT, ⟨_, rfl⟩⟩, ⟨_, PySem.W.mg_of X G g_MOST_NAMES, ⟨_, rfl⟩⟩, ⟨_, PySem.W.mg_of X G g_MOST_STORES, ⟨_, rfl⟩⟩⟩
  have S : Sc K mg CS := ⟨⟨pgCS, hdCS, poCS, saCS⟩, nCS_sizes, nCS__stores, nCS_never, PySem.W.mg_of X G aCS, haCS, hn, ht, hmCS, by simp [PySem.W.kitOne], qCS_NoneType, qCS_list, qCS_tuple, qCS_str, qCS_int, qCS_bool⟩
  have KS : Ks K w mg zLA zPA := ⟨⟨_, PySem.W.mg_of X G zgL, rfl⟩, ⟨_, PySem.W.mg_of X G zgP, rfl⟩, tabK tbL, fun t => match t with | .skip => getB_get gl_skip | .hole => getB_get gl_hole | .set _ _ => getB_get gl_set | .draw _ _ _ _ _ => getB_get gl_draw | .thn _ _ => getB_get gl_then | .iff _ _ _ => getB_get gl_if | .eith _ _ => getB_get gl_either | .whil _ _ => getB_get gl_while, fun t => match t with | .skip => getB_dct tbP gp_skip | .hole => getB_dct tbP gp_hole | .set _ _ => getB_dct tbP gp_set | .draw _ _ _ _ _ => getB_dct tbP gp_draw | .thn _ _ => getB_dct tbP gp_then | .iff _ _ _ => getB_dct tbP gp_if | .eith _ _ => getB_dct tbP gp_either | .whil _ _ => getB_dct tbP gp_while⟩
  have KA : Ka K mg zSA (seqRefs K zSA) := by
    obtain ⟨t1, t2⟩ := tupRefs_ok tA
    refine ⟨⟨_, PySem.W.mg_of X G zgA, rfl⟩, t1, t2, fun H i a zs h1 h2 => ?_⟩
    have e : (seqRefs K zSA).getD i 0 = a := by rw [List.getD_eq_getElem?_getD, h1]; rfl
    rw [← e]
    match i, h2 with
    | 0, h2 => cases h2; exact tupInts_ok tz0 H
    | 1, h2 => cases h2; exact tupInts_ok tz1 H
    | 2, h2 => cases h2; exact tupInts_ok tz2 H
    | 3, h2 => cases h2; exact tupInts_ok tz3 H
    | 4, h2 => cases h2; exact tupInts_ok tz4 H
    | 5, h2 => cases h2; exact tupInts_ok tz5 H
    | 6, h2 => cases h2; exact tupInts_ok tz6 H
    | 7, h2 => cases h2; exact tupInts_ok tz7 H
    | 8, h2 => cases h2; exact tupInts_ok tz8 H
    | 9, h2 => cases h2; exact tupInts_ok tz9 H
    | 10, h2 => cases h2; exact tupInts_ok tz10 H
    | 11, h2 => cases h2; exact tupInts_ok tz11 H
    | 12, h2 => cases h2; exact tupInts_ok tz12 H
    | _ + 13, h2 => cases h2
  have T0 : OexC K CT := ⟨⟨_, _, _, _, _, _, _, _, _, _, _, _, _, _, _, xl, (show PySem.HandSPX.refsVE [.type "ValueError", .type "Exception", .type "BaseException", .type "object"] = true by decide +kernel)⟩, xs, xe_, xty, xk⟩
  have ET : ErrT K mg CT := ⟨PySem.W.mg_of X G xg, ⟨xga, xgg, xe_, xh⟩, xn, exm_of xe_ xis xty xs_00⟩
  have XF0 := mk_fun (st := s_TooMany___init__) xfl xfc xfk
  have xb_0 := XF0.binds (ps := ["self", "count"]) fun _ _ _ _ _ _ us hl => match us, hl with | [_, _], _ => rfl
  have F0 := mk_fun (st := s__law_take) l0 c0 k0
  have b0 := F0.binds (ps := ["box", "many"]) fun _ _ _ _ _ _ us hl => match us, hl with | [_, _], _ => rfl
  have F1 := mk_fun (st := s_is_integer) l1 c1 k1
  have b1 := F1.binds (ps := ["value"]) fun _ _ _ _ _ _ us hl => match us, hl with | [_], _ => rfl
  have F2 := mk_fun (st := s_is_list) l2 c2 k2
  have b2 := F2.binds (ps := ["value"]) fun _ _ _ _ _ _ us hl => match us, hl with | [_], _ => rfl
  have F3 := mk_fun (st := s_is_from) l3 c3 k3
  have b3 := F3.binds (ps := ["value", "low", "high"]) fun _ _ _ _ _ _ us hl => match us, hl with | [_, _, _], _ => rfl
  have F4 := mk_fun (st := s_is_index) l4 c4 k4
  have b4 := F4.binds (ps := ["value", "count"]) fun _ _ _ _ _ _ us hl => match us, hl with | [_, _], _ => rfl
  have F5 := mk_fun (st := s_is_sizes) l5 c5 k5
  have b5 := F5.binds (ps := ["value"]) fun _ _ _ _ _ _ us hl => match us, hl with | [_], _ => rfl
  have F6 := mk_fun (st := s_is_digits) l6 c6 k6
  have b6 := F6.binds (ps := ["word"]) fun _ _ _ _ _ _ us hl => match us, hl with | [_], _ => rfl
  have F7 := mk_fun (st := s_all_values) l7 c7 k7
  have b7 := F7.binds (ps := ["sizes"]) fun _ _ _ _ _ _ us hl => match us, hl with | [_], _ => rfl
  have F8 := mk_fun (st := s_Space___init__) l8 c8 k8
  have b8 := F8.binds (ps := ["self", "sizes"]) fun _ _ _ _ _ _ us hl => match us, hl with | [_, _], _ => rfl
  have F9 := mk_fun (st := s_need_space) l9 c9 k9
  have b9 := F9.binds (ps := ["space"]) fun _ _ _ _ _ _ us hl => match us, hl with | [_], _ => rfl
  have F10 := mk_fun (st := s_read_space) l10 c10 k10
  have b10 := F10.binds (ps := ["line"]) fun _ _ _ _ _ _ us hl => match us, hl with | [_], _ => rfl
  have F11 := mk_fun (st := s__law_cell) l11 c11 k11
  have b11 := F11.binds (ps := ["script", "k"]) fun _ _ _ _ _ _ us hl => match us, hl with | [_, _], _ => rfl
  have F12 := mk_fun (st := s__law_box) l12 c12 k12
  have b12 := F12.binds (ps := ["great"]) fun _ _ _ _ _ _ us hl => match us, hl with | [_], _ => rfl
  have F13 := mk_fun (st := s_is_ascending) l13 c13 k13
  have b13 := F13.binds (ps := ["items"]) fun _ _ _ _ _ _ us hl => match us, hl with | [_], _ => rfl
  have F14 := mk_fun (st := s_is_set_below) l14 c14 k14
  have b14 := F14.binds (ps := ["value", "count"]) fun _ _ _ _ _ _ us hl => match us, hl with | [_, _], _ => rfl
  have F15 := mk_fun (st := s_is_hole_count) l15 c15 k15
  have b15 := F15.binds (ps := ["holes"]) fun _ _ _ _ _ _ us hl => match us, hl with | [_], _ => rfl
  have F16 := mk_fun (st := s_is_name) l16 c16 k16
  have b16 := F16.binds (ps := ["space", "value"]) fun _ _ _ _ _ _ us hl => match us, hl with | [_, _], _ => rfl
  have F17 := mk_fun (st := s_is_pair) l17 c17 k17
  have b17 := F17.binds (ps := ["space", "name", "value"]) fun _ _ _ _ _ _ us hl => match us, hl with | [_, _, _], _ => rfl
  have F18 := mk_fun (st := s_is_setting) l18 c18 k18
  have b18 := F18.binds (ps := ["space", "name", "values"]) fun _ _ _ _ _ _ us hl => match us, hl with | [_, _, _], _ => rfl
  have F19 := mk_fun (st := s_is_weighing) l19 c19 k19
  have b19 := F19.binds (ps := ["value"]) fun _ _ _ _ _ _ us hl => match us, hl with | [_], _ => rfl
  have F20 := mk_fun (st := s_children) l20 c20 k20
  have b20 := F20.binds (ps := ["part"]) fun _ _ _ _ _ _ us hl => match us, hl with | [_], _ => rfl
  have F21 := mk_fun (st := s_is_part) l21 c21 k21
  have b21 := F21.binds (ps := ["space", "value"]) fun _ _ _ _ _ _ us hl => match us, hl with | [_, _], _ => rfl
  have F22 := mk_fun (st := s_holes_of) l22 c22 k22
  have b22 := F22.binds (ps := ["space", "value"]) fun _ _ _ _ _ _ us hl => match us, hl with | [_, _], _ => rfl
  have F23 := mk_fun (st := s_is_text) l23 c23 k23
  have b23 := F23.binds (ps := ["space", "value"]) fun _ _ _ _ _ _ us hl => match us, hl with | [_, _], _ => rfl
  have F24 := mk_fun (st := s_is_surrounding) l24 c24 k24
  have b24 := F24.binds (ps := ["space", "value"]) fun _ _ _ _ _ _ us hl => match us, hl with | [_, _], _ => rfl
  have F25 := mk_fun (st := s_is_text_or_surrounding) l25 c25 k25
  have b25 := F25.binds (ps := ["space", "value"]) fun _ _ _ _ _ _ us hl => match us, hl with | [_, _], _ => rfl
  have F26 := mk_fun (st := s_need_text) l26 c26 k26
  have b26 := F26.binds (ps := ["space", "text"]) fun _ _ _ _ _ _ us hl => match us, hl with | [_, _], _ => rfl
  have F27 := mk_fun (st := s_need_any_text) l27 c27 k27
  have b27 := F27.binds (ps := ["text"]) fun _ _ _ _ _ _ us hl => match us, hl with | [_], _ => rfl
  have F28 := mk_fun (st := s_in_tuples) l28 c28 k28
  have b28 := F28.binds (ps := ["value"]) fun _ _ _ _ _ _ us hl => match us, hl with | [_], _ => rfl
  have F29 := mk_fun (st := s_listed_parts) l29 c29 k29
  have b29 := F29.binds (ps := ["part", "path"]) fun _ _ _ _ _ _ us hl => match us, hl with | [_, _], _ => rfl
  have F30 := mk_fun (st := s_size_of) l30 c30 k30
  have b30 := F30.binds (ps := ["text"]) fun _ _ _ _ _ _ us hl => match us, hl with | [_], _ => rfl
  have F31 := mk_fun (st := s_depth_of) l31 c31 k31
  have b31 := F31.binds (ps := ["part"]) fun _ _ _ _ _ _ us hl => match us, hl with | [_], _ => rfl
  have F32 := mk_fun (st := s_filled) l32 c32 k32
  have b32 := F32.binds (ps := ["surrounding", "text"]) fun _ _ _ _ _ _ us hl => match us, hl with | [_, _], _ => rfl
  have F33 := mk_fun (st := s_replaced) l33 c33 k33
  have b33 := F33.binds (ps := ["whole", "path", "part"]) fun _ _ _ _ _ _ us hl => match us, hl with | [_, _, _], _ => rfl
  have F34 := mk_fun (st := s_is_path) l34 c34 k34
  have b34 := F34.binds (ps := ["text", "value"]) fun _ _ _ _ _ _ us hl => match us, hl with | [_, _], _ => rfl
  have F35 := mk_fun (st := s_size) l35 c35 k35
  have b35 := F35.binds (ps := ["text"]) fun _ _ _ _ _ _ us hl => match us, hl with | [_], _ => rfl
  have F36 := mk_fun (st := s_depth) l36 c36 k36
  have b36 := F36.binds (ps := ["text"]) fun _ _ _ _ _ _ us hl => match us, hl with | [_], _ => rfl
  have F37 := mk_fun (st := s_within_bounds) l37 c37 k37
  have b37 := F37.binds (ps := ["text"]) fun _ _ _ _ _ _ us hl => match us, hl with | [_], _ => rfl
  have F38 := mk_fun (st := s_put_at) l38 c38 k38
  have b38 := F38.binds (ps := ["space", "text", "path", "part"]) fun _ _ _ _ _ _ us hl => match us, hl with | [_, _, _, _], _ => rfl
  have F39 := mk_fun (st := s_fill) l39 c39 k39
  have b39 := F39.binds (ps := ["space", "surrounding", "text"]) fun _ _ _ _ _ _ us hl => match us, hl with | [_, _, _], _ => rfl
  have F40 := mk_fun (st := s__law_product) l40 c40 k40
  have b40 := F40.binds (ps := ["numbers"]) fun _ _ _ _ _ _ us hl => match us, hl with | [_], _ => rfl
  have F41 := mk_fun (st := s__law_widths) l41 c41 k41
  have b41 := F41.binds (ps := ["box"]) fun _ _ _ _ _ _ us hl => match us, hl with | [_], _ => rfl
  have F42 := mk_fun (st := s__law_row) l42 c42 k42
  have b42 := F42.binds (ps := ["box", "numbers"]) fun _ _ _ _ _ _ us hl => match us, hl with | [_, _], _ => rfl
  have F43 := mk_fun (st := s__law_guard) l43 c43 k43
  have b43 := F43.binds (ps := ["box", "widths"]) fun _ _ _ _ _ _ us hl => match us, hl with | [_, _], _ => rfl
  have F44 := mk_fun (st := s__law_weights) l44 c44 k44
  have b44 := F44.binds (ps := ["box"]) fun _ _ _ _ _ _ us hl => match us, hl with | [_], _ => rfl
  have F45 := mk_fun (st := s__law_leaf) l45 c45 k45
  have b45 := F45.binds (ps := ["box", "widths"]) fun _ _ _ _ _ _ us hl => match us, hl with | [_, _], _ => rfl
  have F46 := mk_fun (st := s__law_kids) l46 c46 k46
  have b46 := F46.binds (ps := ["thing"]) fun _ _ _ _ _ _ us hl => match us, hl with | [_], _ => rfl
  have F47 := mk_fun (st := s__law_tupled) l47 c47 k47
  have b47 := F47.binds (ps := ["thing"]) fun _ _ _ _ _ _ us hl => match us, hl with | [_], _ => rfl
  have F48 := mk_fun (st := s__law_put) l48 c48 k48
  have b48 := F48.binds (ps := ["thing", "way", "piece"]) fun _ _ _ _ _ _ us hl => match us, hl with | [_, _, _], _ => rfl
  have F49 := mk_fun (st := s__law_filled) l49 c49 k49
  have b49 := F49.binds (ps := ["thing", "piece"]) fun _ _ _ _ _ _ us hl => match us, hl with | [_, _], _ => rfl
  have F50 := mk_fun (st := s__law_shape) l50 c50 k50
  have b50 := F50.binds (ps := ["thing"]) fun _ _ _ _ _ _ us hl => match us, hl with | [_], _ => rfl
  have F51 := mk_fun (st := s__law_all_parts) l51 c51 k51
  have b51 := F51.binds (ps := ["thing"]) fun _ _ _ _ _ _ us hl => match us, hl with | [_], _ => rfl
  have F52 := mk_fun (st := s__law_pile) l52 c52 k52
  have b52 := F52.binds (ps := ["box", "widths", "leaves", "loops"]) fun _ _ _ _ _ _ us hl => match us, hl with | [_, _, _, _], _ => rfl
  have F53 := mk_fun (st := s__law_sized) l53 c53 k53
  have b53 := F53.binds (ps := ["box", "widths", "many"]) fun _ _ _ _ _ _ us hl => match us, hl with | [_, _, _], _ => rfl
  have F54 := mk_fun (st := s__law_around) l54 c54 k54
  have b54 := F54.binds (ps := ["box", "widths", "many"]) fun _ _ _ _ _ _ us hl => match us, hl with | [_, _, _], _ => rfl
  have F55 := mk_fun (st := s__law_told) l55 c55 k55
  have b55 := F55.binds (ps := ["room", "things", "named"]) fun _ _ _ _ _ _ us hl => match us, hl with | [_, _, _], _ => rfl
  have F56 := mk_fun (st := s__law_meets) l56 c56 k56
  have b56 := F56.binds (ps := ["room", "whole", "things"]) fun _ _ _ _ _ _ us hl => match us, hl with | [_, _, _], _ => rfl
  have F57 := mk_fun (st := s__law_right) l57 c57 k57
  have b57 := F57.binds (ps := ["box"]) fun _ _ _ _ _ _ us hl => match us, hl with | [_], _ => rfl
  have F58 := mk_fun (st := s_law) l58 c58 k58
  have b58 := F58.binds (ps := ["script"]) fun _ _ _ _ _ _ us hl => match us, hl with | [_], _ => rfl
  refine ⟨PySem.W.fnOf "law" "law" (defArgs s_law) (defBody s_law) (defScope s_law) .none kV58 dc58 pm58 an58 cd58 ct58, fun s v => .of_eq rfl, fun base _ _ hM => ?_⟩
  have d_TooMany : ErrDC l.prog w K mg base "TooMany" CT := ⟨_, _, PySem.W.mg_of X G xg, T0, xi, xt, xn, ok_TooMany XF0 T0 xn, xb_0⟩
  have g11 : FnG l.prog w K mg base CX0 1 f11 _ _ (spCell K) := ok_cell F11 Z
  have d__law_cell : DefD l.prog w K mg base 1 "_law_cell" 2 [] byPlace (spCell K) := ⟨_, _, _, _, PySem.W.mg_of X G a11, k11, g11, kbn_place b11 2 rfl⟩
  have g12 : FnG l.prog w K mg base CX0 1 f12 _ _ spBox := ok_box F12 Z
  have d__law_box : DefD l.prog w K mg base 1 "_law_box" 1 [] byPlace spBox := ⟨_, _, _, _, PySem.W.mg_of X G a12, k12, g12, kbn_place b12 1 rfl⟩
  have g0 : FnG l.prog w K mg base CX0 1 f0 _ _ spTake := ok_take F0 Z
  have d__law_take : DefD l.prog w K mg base 1 "_law_take" 2 [] byPlace spTake := ⟨_, _, _, _, PySem.W.mg_of X G a0, k0, g0, kbn_place b0 2 rfl⟩
  have g41 : FnG l.prog w K mg base CX0 2 f41 _ _ spSizes := ok_widths F41 d__law_take
  have d__law_widths : DefD l.prog w K mg base 2 "_law_widths" 1 [] byPlace spSizes := ⟨_, _, _, _, PySem.W.mg_of X G a41, k41, g41, kbn_place b41 1 rfl⟩
  have g6 : FnG l.prog w K mg base CX0 1 f6 _ _ spIsDigits := ok_is_digits F6 
  have d_is_digits : DefD l.prog w K mg base 1 "is_digits" 1 [] byPlace spIsDigits := ⟨_, _, _, _, PySem.W.mg_of X G a6, k6, g6, kbn_place b6 1 rfl⟩
  have g2 : FnG l.prog w K mg base CX0 1 f2 _ _ (spListV K) := ok_listB F2 Z
  have d_is_list : DefD l.prog w K mg base 1 "is_list" 1 [] byPlace (spListV K) := ⟨_, _, _, _, PySem.W.mg_of X G a2, k2, g2, kbn_place b2 1 rfl⟩
  have g1 : FnG l.prog w K mg base CX0 1 f1 _ _ (spIntV K) := ok_integer F1 Z
  have d_is_integer : DefD l.prog w K mg base 1 "is_integer" 1 [] byPlace (spIntV K) := ⟨_, _, _, _, PySem.W.mg_of X G a1, k1, g1, kbn_place b1 1 rfl⟩
  have h1_3 : FnG l.prog w K mg base CX0 2 f3 _ _ spIsFrom := ok_is_from F3 d_is_integer
  have d_is_from : DefD l.prog w K mg base 2 "is_from" 3 [] byPlace spIsFrom := ⟨_, _, _, _, PySem.W.mg_of X G a3, k3, h1_3, kbn_place b3 3 rfl⟩
  have g5 : FnG l.prog w K mg base CX0 3 f5 _ _ (spIsSizes K) := ok_is_sizes F5 Z d_is_list d_is_from
  have d_is_sizes : DefD l.prog w K mg base 3 "is_sizes" 1 [] byPlace (spIsSizes K) := ⟨_, _, _, _, PySem.W.mg_of X G a5, k5, g5, kbn_place b5 1 rfl⟩
  have g7 : FnG l.prog w K mg base CX0 1 f7 _ _ (spAllValues K) := ok_all_values F7 Z
  have d_all_values : DefD l.prog w K mg base 1 "all_values" 1 [] byPlace (spAllValues K) := ⟨_, _, _, _, PySem.W.mg_of X G a7, k7, g7, kbn_place b7 1 rfl⟩
  have g8 : FnG l.prog w K mg base CX0 4 f8 _ _ (spInit CS K) := ok_init F8 Z S d_is_sizes d_all_values
  have k_Space : MakD l.prog w K mg base 4 "Space" CS 1 [] byPlace (spInit CS K) := ⟨_, _, _, _, PySem.W.mg_of X G aCS, ⟨mkCS, a8, i8, kcCS⟩, g8, kbn_place b8 2 rfl⟩
  have g10 : FnG l.prog w K mg base CX0 6 f10 _ _ (spRead CS K) := ok_read F10 Z S d_is_digits d_is_sizes k_Space
  have d_read_space : DefD l.prog w K mg base 6 "read_space" 1 [] byPlace (spRead CS K) := ⟨_, _, _, _, PySem.W.mg_of X G a10, k10, g10, kbn_place b10 1 rfl⟩
  have g40 : FnG l.prog w K mg base CX0 1 f40 _ _ spProduct := ok_product F40 
  have d__law_product : DefD l.prog w K mg base 1 "_law_product" 1 [] byPlace spProduct := ⟨_, _, _, _, PySem.W.mg_of X G a40, k40, g40, kbn_place b40 1 rfl⟩
  have g42 : FnG l.prog w K mg base CX0 2 f42 _ _ spRow := ok_row F42 Z d__law_take
  have d__law_row : DefD l.prog w K mg base 2 "_law_row" 2 [] byPlace spRow := ⟨_, _, _, _, PySem.W.mg_of X G a42, k42, g42, kbn_place b42 2 rfl⟩
  have g44 : FnG l.prog w K mg base CX0 2 f44 _ _ spWeights := ok_weights F44 Z d__law_take
  have d__law_weights : DefD l.prog w K mg base 2 "_law_weights" 1 [] byPlace spWeights := ⟨_, _, _, _, PySem.W.mg_of X G a44, k44, g44, kbn_place b44 1 rfl⟩
  have g45 : FnG l.prog w K mg base CX0 3 f45 _ _ spLeaf := ok_leaf F45 Z d__law_take d__law_product d__law_row d__law_weights
  have d__law_leaf : DefD l.prog w K mg base 3 "_law_leaf" 2 [] byPlace spLeaf := ⟨_, _, _, _, PySem.W.mg_of X G a45, k45, g45, kbn_place b45 2 rfl⟩
  have g43 : FnG l.prog w K mg base CX0 3 f43 _ _ spGuard := ok_guard F43 Z d__law_take d__law_product d__law_row
  have d__law_guard : DefD l.prog w K mg base 3 "_law_guard" 2 [] byPlace spGuard := ⟨_, _, _, _, PySem.W.mg_of X G a43, k43, g43, kbn_place b43 2 rfl⟩
  have g52 : FnG l.prog w K mg base CX0 4 f52 _ _ spPile := ok_pile F52 Z d__law_take d__law_guard
  have d__law_pile : DefD l.prog w K mg base 4 "_law_pile" 4 [] byPlace spPile := ⟨_, _, _, _, PySem.W.mg_of X G a52, k52, g52, kbn_place b52 4 rfl⟩
  have g53 : FnG l.prog w K mg base CX0 5 f53 _ _ spSized := ok_sized F53 Z d__law_take d__law_leaf d__law_pile
  have d__law_sized : DefD l.prog w K mg base 5 "_law_sized" 3 [] byPlace spSized := ⟨_, _, _, _, PySem.W.mg_of X G a53, k53, g53, kbn_place b53 3 rfl⟩
  have g54 : FnG l.prog w K mg base CX0 5 f54 _ _ spAround := ok_around F54 Z d__law_take d__law_leaf d__law_pile
  have d__law_around : DefD l.prog w K mg base 5 "_law_around" 3 [] byPlace spAround := ⟨_, _, _, _, PySem.W.mg_of X G a54, k54, g54, kbn_place b54 3 rfl⟩
  have g4 : FnG l.prog w K mg base CX0 2 f4 _ _ (spIndexV K) := ok_indexB F4 d_is_integer
  have d_is_index : DefD l.prog w K mg base 2 "is_index" 2 [] byPlace (spIndexV K) := ⟨_, _, _, _, PySem.W.mg_of X G a4, k4, g4, kbn_place b4 2 rfl⟩
  have g16 : FnG l.prog w K mg base CX0 3 f16 _ _ (spIsName CS K) := ok_is_name F16 Z S d_is_index
  have d_is_name : DefD l.prog w K mg base 3 "is_name" 2 [] byPlace (spIsName CS K) := ⟨_, _, _, _, PySem.W.mg_of X G a16, k16, g16, kbn_place b16 2 rfl⟩
  have g18 : FnG l.prog w K mg base CX0 4 f18 _ _ (spIsSetting CS K) := ok_is_setting F18 Z S d_is_name d_is_list d_is_index
  have d_is_setting : DefD l.prog w K mg base 4 "is_setting" 3 [] byPlace (spIsSetting CS K) := ⟨_, _, _, _, PySem.W.mg_of X G a18, k18, g18, kbn_place b18 3 rfl⟩
  have g13 : FnG l.prog w K mg base CX0 1 f13 _ _ (spAsc K) := ok_is_ascending F13 Z
  have d_is_ascending : DefD l.prog w K mg base 1 "is_ascending" 1 [] byPlace (spAsc K) := ⟨_, _, _, _, PySem.W.mg_of X G a13, k13, g13, kbn_place b13 1 rfl⟩
  have g14 : FnG l.prog w K mg base CX0 3 f14 _ _ (spSetBelow K) := ok_is_set_below F14 Z d_is_list d_is_index d_is_ascending
  have d_is_set_below : DefD l.prog w K mg base 3 "is_set_below" 2 [] byPlace (spSetBelow K) := ⟨_, _, _, _, PySem.W.mg_of X G a14, k14, g14, kbn_place b14 2 rfl⟩
  have g17 : FnG l.prog w K mg base CX0 4 f17 _ _ (spIsPair CS K) := ok_is_pair F17 Z S d_is_set_below
  have d_is_pair : DefD l.prog w K mg base 4 "is_pair" 3 [] byPlace (spIsPair CS K) := ⟨_, _, _, _, PySem.W.mg_of X G a17, k17, g17, kbn_place b17 3 rfl⟩
  have g3 : FnG l.prog w K mg base CX0 2 f3 _ _ (spFromV K) := ok_fromB F3 d_is_integer
  have d_is_from_2 : DefD l.prog w K mg base 2 "is_from" 3 [] byPlace (spFromV K) := ⟨_, _, _, _, PySem.W.mg_of X G a3, k3, g3, kbn_place b3 3 rfl⟩
  have g19 : FnG l.prog w K mg base CX0 3 f19 _ _ (spIsWeighing K) := ok_is_weighing F19 Z d_is_from_2
  have d_is_weighing : DefD l.prog w K mg base 3 "is_weighing" 1 [] byPlace (spIsWeighing K) := ⟨_, _, _, _, PySem.W.mg_of X G a19, k19, g19, kbn_place b19 1 rfl⟩
  have g21 : FnG l.prog w K mg base CX0 5 f21 _ _ (spIsPart CS K) := ok_is_part F21 Z S KS d_is_name d_is_setting d_is_pair d_is_weighing d_is_set_below
  have d_is_part : DefD l.prog w K mg base 5 "is_part" 2 [] byPlace (spIsPart CS K) := ⟨_, _, _, _, PySem.W.mg_of X G a21, k21, g21, kbn_place b21 2 rfl⟩
  have g20 : FnG l.prog w K mg base CX0 1 f20 _ _ spChildren := ok_children F20 KS
  have d_children : DefD l.prog w K mg base 1 "children" 1 [] byPlace spChildren := ⟨_, _, _, _, PySem.W.mg_of X G a20, k20, g20, kbn_place b20 1 rfl⟩
  have g22 : FnG l.prog w K mg base CX0 6 f22 _ _ (spHolesOf CS K) := ok_holes_of F22 Z d_is_part d_children
  have d_holes_of : DefD l.prog w K mg base 6 "holes_of" 2 [] byPlace (spHolesOf CS K) := ⟨_, _, _, _, PySem.W.mg_of X G a22, k22, g22, kbn_place b22 2 rfl⟩
  have g15 : FnG l.prog w K mg base CX0 3 f15 _ _ (spHoleCount K) := ok_is_hole_count F15 Z d_is_from_2
  have d_is_hole_count : DefD l.prog w K mg base 3 "is_hole_count" 1 [] byPlace (spHoleCount K) := ⟨_, _, _, _, PySem.W.mg_of X G a15, k15, g15, kbn_place b15 1 rfl⟩
  have g25 : FnG l.prog w K mg base CX0 7 f25 _ _ (spTextOr CS K) := ok_text_or F25 d_holes_of d_is_hole_count
  have d_is_text_or_surrounding : DefD l.prog w K mg base 7 "is_text_or_surrounding" 2 [] byPlace (spTextOr CS K) := ⟨_, _, _, _, PySem.W.mg_of X G a25, k25, g25, kbn_place b25 2 rfl⟩
  have g27 : FnG l.prog w K mg base CX0 8 f27 _ _ spNeedAny := ok_need_any F27 Z S KA d_is_text_or_surrounding k_Space
  have d_need_any_text : DefD l.prog w K mg base 8 "need_any_text" 1 [] byPlace spNeedAny := ⟨_, _, _, _, PySem.W.mg_of X G a27, k27, g27, kbn_place b27 1 rfl⟩
  have g29 : ∀ n, FnG l.prog w K mg base CX0 (n + 1) f29 _ _ (spListedN K n) := ok_listed F29 Z d_children fun n g => ⟨_, _, _, _, PySem.W.mg_of X G a29, k29, g, kbn_place b29 2 rfl⟩
  have d_listed_parts : DefD l.prog w K mg base 211 "listed_parts" 2 [] byPlace (spListedN K 210) := ⟨_, _, _, _, PySem.W.mg_of X G a29, k29, g29 210, kbn_place b29 2 rfl⟩
  have g30 : FnG l.prog w K mg base CX0 212 f30 _ _ (spSizeOf 210) := ok_size_of F30 Z d_listed_parts
  have d_size_of : DefD l.prog w K mg base 212 "size_of" 1 [] byPlace (spSizeOf 210) := ⟨_, _, _, _, PySem.W.mg_of X G a30, k30, g30, kbn_place b30 1 rfl⟩
  have g35 : FnG l.prog w K mg base CX0 213 f35 _ _ spSize := ok_size F35 d_need_any_text d_size_of
  have d_size : DefD l.prog w K mg base 213 "size" 1 [] byPlace spSize := ⟨_, _, _, _, PySem.W.mg_of X G a35, k35, g35, kbn_place b35 1 rfl⟩
  have g31 : ∀ n, FnG l.prog w K mg base CX0 (n + 1) f31 _ _ (spDepthN n) := ok_depth_of F31 Z d_children fun n g => ⟨_, _, _, _, PySem.W.mg_of X G a31, k31, g, kbn_place b31 1 rfl⟩
  have d_depth_of : DefD l.prog w K mg base 211 "depth_of" 1 [] byPlace (spDepthN 210) := ⟨_, _, _, _, PySem.W.mg_of X G a31, k31, g31 210, kbn_place b31 1 rfl⟩
  have g36 : FnG l.prog w K mg base CX0 213 f36 _ _ spDepth := ok_depth F36 d_need_any_text d_depth_of
  have d_depth_text : DefD l.prog w K mg base 213 "depth" 0 ["text"] byBoth spDepth := ⟨_, _, _, _, PySem.W.mg_of X G a36, k36, g36, Fun_kbn F36 (ps := ["text"]) 0 ["text"] (fun us ws => us ++ ws) byBoth (fun r s => Vals.append r s) fun _ _ _ _ _ _ us ws h1 h2 => match us, ws, h1, h2 with | [], [_], _, _ => rfl⟩
  have g46 : FnG l.prog w K mg base CX0 1 f46 _ _ spKids := ok_kids F46 
  have d__law_kids : DefD l.prog w K mg base 1 "_law_kids" 1 [] byPlace spKids := ⟨_, _, _, _, PySem.W.mg_of X G a46, k46, g46, kbn_place b46 1 rfl⟩
  have g50 : ∀ n, FnG l.prog w K mg base CX0 (n + 1) f50 _ _ (spShapeN n) := ok_shape F50 Z d__law_kids fun n g => ⟨_, _, _, _, PySem.W.mg_of X G a50, k50, g, kbn_place b50 1 rfl⟩
  have d__law_shape : DefD l.prog w K mg base 211 "_law_shape" 1 [] byPlace (spShapeN 210) := ⟨_, _, _, _, PySem.W.mg_of X G a50, k50, g50 210, kbn_place b50 1 rfl⟩
  have g9 : FnG l.prog w K mg base CX0 1 f9 _ _ (spNeedSpace CS K) := ok_need_space F9 Z S
  have d_need_space : DefD l.prog w K mg base 1 "need_space" 1 [] byPlace (spNeedSpace CS K) := ⟨_, _, _, _, PySem.W.mg_of X G a9, k9, g9, kbn_place b9 1 rfl⟩
  have g23 : FnG l.prog w K mg base CX0 7 f23 _ _ (spIsText CS K) := ok_is_text F23 d_need_space d_holes_of
  have d_is_text : DefD l.prog w K mg base 7 "is_text" 2 [] byPlace (spIsText CS K) := ⟨_, _, _, _, PySem.W.mg_of X G a23, k23, g23, kbn_place b23 2 rfl⟩
  have g26 : FnG l.prog w K mg base CX0 8 f26 _ _ (spNeedText CS K) := ok_need_text F26 d_is_text
  have d_need_text : DefD l.prog w K mg base 8 "need_text" 2 [] byPlace (spNeedText CS K) := ⟨_, _, _, _, PySem.W.mg_of X G a26, k26, g26, kbn_place b26 2 rfl⟩
  have g24 : FnG l.prog w K mg base CX0 7 f24 _ _ (spIsSurr CS K) := ok_is_surr F24 d_need_space d_holes_of d_is_hole_count
  have d_is_surrounding : DefD l.prog w K mg base 7 "is_surrounding" 2 [] byPlace (spIsSurr CS K) := ⟨_, _, _, _, PySem.W.mg_of X G a24, k24, g24, kbn_place b24 2 rfl⟩
  have g28 : ∀ n, FnG l.prog w K mg base CX0 (n + 1) f28 _ _ (spTupledN n) := ok_in_tuples F28 Z d_is_list fun n g => ⟨_, _, _, _, PySem.W.mg_of X G a28, k28, g, kbn_place b28 1 rfl⟩
  have d_in_tuples : DefD l.prog w K mg base 61 "in_tuples" 1 [] byPlace (spTupledN 60) := ⟨_, _, _, _, PySem.W.mg_of X G a28, k28, g28 60, kbn_place b28 1 rfl⟩
  have g32 : ∀ n, FnG l.prog w K mg base CX0 (n + 1) f32 _ _ (spFilledN n) := ok_filled F32 Z KS fun n g => ⟨_, _, _, _, PySem.W.mg_of X G a32, k32, g, kbn_place b32 2 rfl⟩
  have d_filled : DefD l.prog w K mg base 211 "filled" 2 [] byPlace (spFilledN 210) := ⟨_, _, _, _, PySem.W.mg_of X G a32, k32, g32 210, kbn_place b32 2 rfl⟩
  have g37 : FnG l.prog w K mg base (L2.CX l.prog w) 213 f37 _ _ (spWithin CT) := ok_within F37 Z d_size_of d_depth_of d_TooMany
  have d_within_bounds : DefX l.prog w K mg base 213 "within_bounds" 1 [] byPlace (spWithin CT) := ⟨_, _, _, _, PySem.W.mg_of X G a37, k37, g37, kbn_place b37 1 rfl⟩
  have g39 : FnG l.prog w K mg base (L2.CX l.prog w) 214 f39 _ _ (spFill CS CT K) := ok_fill F39 Z d_need_space d_need_text d_is_surrounding d_in_tuples d_filled d_within_bounds
  have d_fill : DefX l.prog w K mg base 214 "fill" 3 [] byPlace (spFill CS CT K) := ⟨_, _, _, _, PySem.W.mg_of X G a39, k39, g39, kbn_place b39 3 rfl⟩
  have d_fill_text_space_surrounding : DefX l.prog w K mg base 214 "fill" 0 ["text", "space", "surrounding"] byRot (spFill CS CT K) := ⟨_, _, _, _, PySem.W.mg_of X G a39, k39, g39, Fun_kbn F39 (ps := ["space", "surrounding", "text"]) 0 ["text", "space", "surrounding"] (fun _ ws => ws.drop 1 ++ ws.take 1) byRot (fun _ s => vals_rot s) fun _ _ _ _ _ _ us ws h1 h2 => match us, ws, h1, h2 with | [], [_, _, _], _, _ => rfl⟩
  have g34 : FnG l.prog w K mg base CX0 3 f34 _ _ spIsPath := ok_is_path F34 Z d_is_index d_children
  have d_is_path : DefD l.prog w K mg base 3 "is_path" 2 [] byPlace spIsPath := ⟨_, _, _, _, PySem.W.mg_of X G a34, k34, g34, kbn_place b34 2 rfl⟩
  have g33 : ∀ n, FnG l.prog w K mg base CX0 (n + 1) f33 _ _ (spReplacedN K n) := ok_replaced F33 Z KS fun n g => ⟨_, _, _, _, PySem.W.mg_of X G a33, k33, g, kbn_place b33 3 rfl⟩
  have d_replaced : DefD l.prog w K mg base 101 "replaced" 3 [] byPlace (spReplacedN K 100) := ⟨_, _, _, _, PySem.W.mg_of X G a33, k33, g33 100, kbn_place b33 3 rfl⟩
  have g38 : FnG l.prog w K mg base (L2.CX l.prog w) 214 f38 _ _ (spPutAt CS CT K) := ok_put_at F38 Z d_need_space d_need_text d_is_path d_is_text d_in_tuples d_replaced d_within_bounds
  have d_put_at : DefX l.prog w K mg base 214 "put_at" 4 [] byPlace (spPutAt CS CT K) := ⟨_, _, _, _, PySem.W.mg_of X G a38, k38, g38, kbn_place b38 4 rfl⟩
  have d_put_at_part_path : DefX l.prog w K mg base 214 "put_at" 2 ["part", "path"] byOneSwap (spPutAt CS CT K) := ⟨_, _, _, _, PySem.W.mg_of X G a38, k38, g38, Fun_kbn F38 (ps := ["space", "text", "path", "part"]) 2 ["part", "path"] (fun us ws => us ++ ws.reverse) byOneSwap (fun r s => Vals.append r (vals_rev s)) fun _ _ _ _ _ _ us ws h1 h2 => match us, ws, h1, h2 with | [_, _], [_, _], _, _ => rfl⟩
  have g55 : FnG l.prog w K mg base CX0 215 f55 _ _ (spTold CS K) := ok_told F55 Z ET d_fill d_fill_text_space_surrounding d_put_at d_put_at_part_path
  have d__law_told : DefD l.prog w K mg base 215 "_law_told" 3 [] byPlace (spTold CS K) := ⟨_, _, _, _, PySem.W.mg_of X G a55, k55, g55, kbn_place b55 3 rfl⟩
  have d_depth : DefD l.prog w K mg base 213 "depth" 1 [] byPlace spDepth := ⟨_, _, _, _, PySem.W.mg_of X G a36, k36, g36, kbn_place b36 1 rfl⟩
  have g56 : FnG l.prog w K mg base CX0 216 f56 _ _ (spMeets CS K) := ok_meets F56 Z d__law_shape d__law_told d_size d_depth d_is_text
  have d__law_meets : DefD l.prog w K mg base 216 "_law_meets" 3 [] byPlace (spMeets CS K) := ⟨_, _, _, _, PySem.W.mg_of X G a56, k56, g56, kbn_place b56 3 rfl⟩
  have g47 : ∀ n, FnG l.prog w K mg base CX0 (n + 1) f47 _ _ (spTupledN n) := ok_ltupled F47 Z fun n g => ⟨_, _, _, _, PySem.W.mg_of X G a47, k47, g, kbn_place b47 1 rfl⟩
  have d__law_tupled : DefD l.prog w K mg base 61 "_law_tupled" 1 [] byPlace (spTupledN 60) := ⟨_, _, _, _, PySem.W.mg_of X G a47, k47, g47 60, kbn_place b47 1 rfl⟩
  have g49 : ∀ n, FnG l.prog w K mg base CX0 (n + 1) f49 _ _ (spLFilledN n) := ok_lfilled F49 Z d__law_kids fun n g => ⟨_, _, _, _, PySem.W.mg_of X G a49, k49, g, kbn_place b49 2 rfl⟩
  have d__law_filled : DefD l.prog w K mg base 211 "_law_filled" 2 [] byPlace (spLFilledN 210) := ⟨_, _, _, _, PySem.W.mg_of X G a49, k49, g49 210, kbn_place b49 2 rfl⟩
  have g48 : ∀ n, FnG l.prog w K mg base CX0 (n + 1) f48 _ _ (spReplacedN K n) := ok_lput F48 Z d__law_kids fun n g => ⟨_, _, _, _, PySem.W.mg_of X G a48, k48, g, kbn_place b48 3 rfl⟩
  have d__law_put : DefD l.prog w K mg base 101 "_law_put" 3 [] byPlace (spReplacedN K 100) := ⟨_, _, _, _, PySem.W.mg_of X G a48, k48, g48 100, kbn_place b48 3 rfl⟩
  have g51 : ∀ n, FnG l.prog w K mg base CX0 (n + 1) f51 _ _ (spAllPartsN n) := ok_all_parts F51 Z d__law_kids fun n g => ⟨_, _, _, _, PySem.W.mg_of X G a51, k51, g, kbn_place b51 1 rfl⟩
  have d__law_all_parts : DefD l.prog w K mg base 211 "_law_all_parts" 1 [] byPlace (spAllPartsN 210) := ⟨_, _, _, _, PySem.W.mg_of X G a51, k51, g51 210, kbn_place b51 1 rfl⟩
  have g57 : FnG l.prog w K mg base CX0 217 f57 _ _ spRight := ok_right F57 Z d__law_widths d_read_space d__law_take d__law_sized d__law_around d_size d_depth_text d__law_shape d__law_meets d__law_tupled d__law_filled d__law_put d__law_all_parts
  have d__law_right : DefD l.prog w K mg base 217 "_law_right" 1 [] byPlace spRight := ⟨_, _, _, _, PySem.W.mg_of X G a57, k57, g57, kbn_place b57 1 rfl⟩
  exact ok_law F58 Z d__law_cell d__law_box d__law_right
end Eld
set_option Elab.async false
set_option maxRecDepth 100000
set_option maxHeartbeats 4000000
set_option linter.all false
namespace Eld
open PySem L2
local macro_rules | `(tactic| walk_at "r1") => `(tactic| with_reducible first
  | refine r_seq ?_ | refine r_asgN ?_ | refine r_asg ?_ | refine r_gname ?_ | refine r_gsub ?_ | refine r_var rfl ?_ | refine r_c ?_ | refine r_op ?_ | refine r_un ?_ | refine r_u ?_ | refine r_i0 ?_ | refine r_cb ?_ | refine r_cons ?_ | refine r_nil ?_ | refine r_cl ?_ | refine r_fn rfl rfl ?_ | refine r_mt ?_
  | refine r_test ?_ | refine r_tb ?_ | refine r_bl ?_ | refine r_and ?_ | refine r_or ?_ | refine r_not ?_ | refine r_andV ?_ | refine r_orV ?_ | refine r_notV ?_ | refine r_ifX ?_ | refine r_ifs ?_ | refine r_chain ?_ | refine r_ret ?_ | refine r_next ?_ | refine r_drop ?_ | refine iteT ?_ | refine iteF ?_ | refine iteNT ?_ | refine iteNF ?_
  | refine r_int1 ?_ | refine r_boolB ?_ | refine r_eqI ?_ | refine r_neI ?_ | refine r_eqB ?_ | refine r_neB ?_ | refine r_eqS ?_ | refine r_neS ?_ | refine r_abs ?_ | refine r_max2 ?_ | refine r_min2 ?_ | refine r_yes ?_ | refine r_tup ?_ | refine r_sfld ?_ | refine r_m0 ?_ | refine r_m1 ?_ | refine r_lst ?_ | refine r_rng1 ?_ | refine r_rng2 ?_ | refine r_ixL (SqL.of (by assumption)) rfl ?_)
local macro_rules | `(tactic| walk_at "r") => `(tactic| repeat (first | walk_at "r1" | ((with_reducible refine r_var ?hv ?_); (case hv => rfl))))

set_option maxHeartbeats 0 in
theorem hfacts {w : World} {K : PySem.W.Frag} {h : Heap} {mg : Str → Option Value} {fa : Addr} (KX : K.In h) (G : h.Ns mainGlobals mg) (hfa : mg ("law" : Str) = some (.ref fa)) (c : SaysX hfb hfn K) (ct : obsW htabs K = valW htabs w) :
    ∃ fd : FuncData, (∀ (s : Shared) (v : Value), BindsTo s fd ⟨[v], []⟩ [("script", v)]) ∧ ∀ base : Heap, K.In base → base.Ns mainGlobals mg → ModsD base → FnG PySem.Challenge.rw_endlots_k13_sizes_and_depths.prog w K mg base CX0 218 fa fd ["script"] (spLaw K) := by
  have hA1 : (hfb0 K && hfb1 K) = true := c.said
  obtain ⟨hA0, hB1⟩ := He.ba hA1
  have hT0 : ((htr0 K).all fun l => l.all id) = true := hA0
  have hT1 : ((htr1 K).all fun l => l.all id) = true := hB1
  obtain ⟨_, _, _, _, _, _, _, _, _, zl0, zc0, zk0⟩ := c.def0 0 (d := hd0) rfl rfl
  obtain ⟨_, _, _, _, _, _, _, _, _, zl1, zc1, zk1⟩ := c.def0 1 (d := hd1) rfl rfl
  obtain ⟨_, _, _, _, _, _, _, _, _, zl2, zc2, zk2⟩ := c.def0 2 (d := hd2) rfl rfl
  obtain ⟨_, _, _, _, _, _, _, _, _, zl3, zc3, zk3⟩ := c.def0 3 (d := hd3) rfl rfl
  obtain ⟨_, _, _, _, _, _, _, _, _, zl4, zc4, zk4⟩ := c.def0 4 (d := hd4) rfl rfl
  obtain ⟨_, _, _, _, _, _, _, _, _, zl5, zc5, zk5⟩ := c.def0 5 (d := hd5) rfl rfl
  obtain ⟨_, _, _, _, _, _, _, _, _, zl6, zc6, zk6⟩ := c.def0 6 (d := hd6) rfl rfl
  obtain ⟨_, _, _, _, _, _, _, _, _, zl7, zc7, zk7⟩ := c.def0 7 (d := hd7) rfl rfl
  obtain ⟨_, _, _, _, _, _, _, _, _, zl8, zc8, zk8⟩ := c.def0 8 (d := hd8) rfl rfl
  obtain ⟨_, _, _, _, _, _, _, _, _, zl9, zc9, zk9⟩ := c.def0 9 (d := hd9) rfl rfl
  obtain ⟨_, _, _, _, _, _, _, _, _, zl10, zc10, zk10⟩ := c.def0 10 (d := hd10) rfl rfl
  obtain ⟨_, _, _, _, _, _, _, _, _, zl11, zc11, zk11⟩ := c.def0 11 (d := hd11) rfl rfl
  obtain ⟨_, _, _, _, _, _, _, _, _, zl12, zc12, zk12⟩ := c.def0 12 (d := hd12) rfl rfl
  obtain ⟨_, _, _, _, _, _, _, _, _, zl13, zc13, zk13⟩ := c.def0 13 (d := hd13) rfl rfl
  obtain ⟨_, _, _, _, _, _, _, _, _, zl14, zc14, zk14⟩ := c.def0 14 (d := hd14) rfl rfl
  obtain ⟨_, _, _, _, _, _, _, _, _, zl15, zc15, zk15⟩ := c.def0 15 (d := hd15) rfl rfl
  obtain ⟨_, _, _, _, _, _, _, _, _, zl16, zc16, zk16⟩ := c.def0 16 (d := hd16) rfl rfl
  obtain ⟨_, _, _, _, _, _, _, _, _, zl17, zc17, zk17⟩ := c.def0 17 (d := hd17) rfl rfl
  obtain ⟨_, _, _, _, _, _, _, _, _, zl18, zc18, zk18⟩ := c.def0 18 (d := hd18) rfl rfl
  obtain ⟨_, _, _, _, _, _, _, _, _, zl19, zc19, zk19⟩ := c.def0 19 (d := hd19) rfl rfl
  obtain ⟨_, _, _, _, _, _, _, _, _, zl20, zc20, zk20⟩ := c.def0 20 (d := hd20) rfl rfl
  obtain ⟨_, _, _, _, _, _, _, _, _, zl21, zc21, zk21⟩ := c.def0 21 (d := hd21) rfl rfl
  obtain ⟨_, _, _, _, _, _, _, _, _, zl22, zc22, zk22⟩ := c.def0 22 (d := hd22) rfl rfl
  obtain ⟨_, _, _, _, _, _, _, _, _, zl23, zc23, zk23⟩ := c.def0 23 (d := hd23) rfl rfl
  obtain ⟨_, _, _, _, _, _, _, _, _, zl24, zc24, zk24⟩ := c.def0 24 (d := hd24) rfl rfl
  obtain ⟨_, _, _, _, _, _, _, _, _, zl25, zc25, zk25⟩ := c.def0 25 (d := hd25) rfl rfl
  obtain ⟨_, _, _, _, _, _, _, _, _, zl26, zc26, zk26⟩ := c.def0 26 (d := hd26) rfl rfl
  obtain ⟨_, _, _, _, _, _, _, _, _, zl27, zc27, zk27⟩ := c.def0 27 (d := hd27) rfl rfl
  obtain ⟨_, _, _, _, _, _, _, _, _, zl28, zc28, zk28⟩ := c.def0 28 (d := hd28) rfl rfl
  obtain ⟨_, _, _, _, _, _, _, _, _, zl29, zc29, zk29⟩ := c.def0 29 (d := hd29) rfl rfl
  obtain ⟨_, _, _, _, _, _, _, _, _, zl30, zc30, zk30⟩ := c.def0 30 (d := hd30) rfl rfl
  obtain ⟨_, _, _, _, _, _, _, _, _, zl31, zc31, zk31⟩ := c.def0 31 (d := hd31) rfl rfl
  obtain ⟨_, _, _, _, _, _, _, _, _, zl32, zc32, zk32⟩ := c.def0 32 (d := hd32) rfl rfl
  obtain ⟨_, _, _, _, _, _, _, _, _, zl33, zc33, zk33⟩ := c.def0 33 (d := hd33) rfl rfl
  obtain ⟨_, _, _, _, _, _, _, _, _, zl34, zc34, zk34⟩ := c.def0 34 (d := hd34) rfl rfl
  obtain ⟨_, _, _, _, _, _, _, _, _, zl35, zc35, zk35⟩ := c.def0 35 (d := hd35) rfl rfl
  obtain ⟨_, _, _, _, _, _, _, _, _, zl36, zc36, zk36⟩ := c.def0 36 (d := hd36) rfl rfl
  obtain ⟨_, _, _, _, _, _, _, _, _, zl37, zc37, zk37⟩ := c.def0 37 (d := hd37) rfl rfl
  obtain ⟨_, _, _, _, _, _, _, _, _, zl38, zc38, zk38⟩ := c.def0 38 (d := hd38) rfl rfl
  obtain ⟨_, _, _, _, _, _, _, _, _, zl39, zc39, zk39⟩ := c.def0 39 (d := hd39) rfl rfl
  obtain ⟨_, _, _, _, _, _, _, _, _, zl40, zc40, zk40⟩ := c.def0 40 (d := hd40) rfl rfl
  obtain ⟨_, _, _, _, _, _, _, _, _, zl41, zc41, zk41⟩ := c.def0 41 (d := hd41) rfl rfl
  obtain ⟨_, _, _, _, _, _, _, _, _, zl42, zc42, zk42⟩ := c.def0 42 (d := hd42) rfl rfl
  obtain ⟨_, _, _, _, _, _, _, _, _, zl43, zc43, zk43⟩ := c.def0 43 (d := hd43) rfl rfl
  obtain ⟨_, _, _, _, _, _, _, _, _, zl44, zc44, zk44⟩ := c.def0 44 (d := hd44) rfl rfl
  obtain ⟨_, _, _, _, _, _, _, _, _, zl45, zc45, zk45⟩ := c.def0 45 (d := hd45) rfl rfl
  obtain ⟨_, _, _, _, _, _, _, _, _, zl46, zc46, zk46⟩ := c.def0 46 (d := hd46) rfl rfl
  obtain ⟨_, _, _, _, _, _, _, _, _, zl47, zc47, zk47⟩ := c.def0 47 (d := hd47) rfl rfl
  obtain ⟨_, _, _, _, _, _, _, _, _, zl48, zc48, zk48⟩ := c.def0 48 (d := hd48) rfl rfl
  obtain ⟨_, _, _, _, _, _, _, _, _, zl49, zc49, zk49⟩ := c.def0 49 (d := hd49) rfl rfl
  obtain ⟨_, _, _, _, _, _, _, _, _, zl50, zc50, zk50⟩ := c.def0 50 (d := hd50) rfl rfl
  obtain ⟨_, _, _, _, _, _, _, _, _, zl51, zc51, zk51⟩ := c.def0 51 (d := hd51) rfl rfl
  obtain ⟨_, _, _, _, _, _, _, _, _, zl52, zc52, zk52⟩ := c.def0 52 (d := hd52) rfl rfl
  obtain ⟨_, _, _, _, _, _, _, _, _, zl53, zc53, zk53⟩ := c.def0 53 (d := hd53) rfl rfl
  obtain ⟨_, _, _, _, _, _, _, _, _, zl54, zc54, zk54⟩ := c.def0 54 (d := hd54) rfl rfl
  obtain ⟨_, _, _, _, _, _, _, _, _, zl55, zc55, zk55⟩ := c.def0 55 (d := hd55) rfl rfl
  obtain ⟨_, _, _, _, _, _, _, _, _, zl56, zc56, zk56⟩ := c.def0 56 (d := hd56) rfl rfl
  obtain ⟨_, _, _, _, _, _, _, _, _, zl57, zc57, zk57⟩ := c.def0 57 (d := hd57) rfl rfl
  obtain ⟨_, _, _, _, _, _, _, _, _, zl58, zc58, zk58⟩ := c.def0 58 (d := hd58) rfl rfl
  obtain ⟨_, _, _, _, _, _, _, _, _, zl59, zc59, zk59⟩ := c.def0 59 (d := hd59) rfl rfl
  obtain ⟨_, _, _, _, _, _, _, _, _, _, _, _, _, _, zx_xl⟩ := excB_ok (truth hT0 2 22 (l := ht2 K) (b := excB K (He.ga K "TooMany") [.ref (He.ga K "EndError"), .type "ValueError", .type "Exception", .type "BaseException", .type "object"]) rfl rfl)
  exact all_mk (l := PySem.Challenge.rw_endlots_k13_sizes_and_depths) (CS := He.ga K "Space") (f0 := He.fAd K ("_law_take", none)) (f1 := He.fAd K ("is_integer", none)) (f2 := He.fAd K ("is_list", none)) (f3 := He.fAd K ("is_from", none)) (f4 := He.fAd K ("is_index", none)) (f5 := He.fAd K ("is_sizes", none)) (f6 := He.fAd K ("is_digits", none)) (f7 := He.fAd K ("all_values", none)) (f8 := He.fAd K ("Space", some "__init__")) (f9 := He.fAd K ("need_space", none)) (f10 := He.fAd K ("read_space", none)) (f11 := He.fAd K ("_law_cell", none)) (f12 := He.fAd K ("_law_box", none)) (f13 := He.fAd K ("is_ascending", none)) (f14 := He.fAd K ("is_set_below", none)) (f15 := He.fAd K ("is_hole_count", none)) (f16 := He.fAd K ("is_name", none)) (f17 := He.fAd K ("is_pair", none)) (f18 := He.fAd K ("is_setting", none)) (f19 := He.fAd K ("is_weighing", none)) (f20 := He.fAd K ("children", none)) (f21 := He.fAd K ("is_part", none)) (f22 := He.fAd K ("holes_of", none)) (f23 := He.fAd K ("is_text", none)) (f24 := He.fAd K ("is_surrounding", none)) (f25 := He.fAd K ("is_text_or_surrounding", none)) (f26 := He.fAd K ("need_text", none)) (f27 := He.fAd K ("need_any_text", none)) (f28 := He.fAd K ("in_tuples", none)) (f29 := He.fAd K ("listed_parts", none)) (f30 := He.fAd K ("size_of", none)) (f31 := He.fAd K ("depth_of", none)) (f32 := He.fAd K ("filled", none)) (f33 := He.fAd K ("replaced", none)) (f34 := He.fAd K ("is_path", none)) (f35 := He.fAd K ("size", none)) (f36 := He.fAd K ("depth", none)) (f37 := He.fAd K ("within_bounds", none)) (f38 := He.fAd K ("put_at", none)) (f39 := He.fAd K ("fill", none)) (f40 := He.fAd K ("_law_product", none)) (f41 := He.fAd K ("_law_widths", none)) (f42 := He.fAd K ("_law_row", none)) (f43 := He.fAd K ("_law_guard", none)) (f44 := He.fAd K ("_law_weights", none)) (f45 := He.fAd K ("_law_leaf", none)) (f46 := He.fAd K ("_law_kids", none)) (f47 := He.fAd K ("_law_tupled", none)) (f48 := He.fAd K ("_law_put", none)) (f49 := He.fAd K ("_law_filled", none)) (f50 := He.fAd K ("_law_shape", none)) (f51 := He.fAd K ("_law_all_parts", none)) (f52 := He.fAd K ("_law_pile", none)) (f53 := He.fAd K ("_law_sized", none)) (f54 := He.fAd K ("_law_around", none)) (f55 := He.fAd K ("_law_told", none)) (f56 := He.fAd K ("_law_meets", none)) (f57 := He.fAd K ("_law_right", none)) (f58 := He.fAd K ("law", none)) (tMOST_SIZE := tkOf K "MOST_SIZE") (tMOST_DEPTH := tkOf K "MOST_DEPTH") (tMOST_HOLES := tkOf K "MOST_HOLES") (tMOST_WEIGHT := tkOf K "MOST_WEIGHT") (tMOST_NAMES := tkOf K "MOST_NAMES") (tMOST_STORES := tkOf K "MOST_STORES") (zLA := He.ga K "LENGTHS") (zPA := He.ga K "PARTS_FROM") (zSA := He.ga K "ALL_SIZES") (CT := He.ga K "TooMany") (zcE := He.ga K "EndError") (zxf := He.fAd K ("TooMany", some "__init__")) KX G hfa
    (of_decide_eq_true (truth hT0 0 0 (l := ht0 K) (b := decide (PySem.W.nsIn K mainGlobals "Space" = some (some (.ref (He.ga K "Space"))))) rfl rfl))
    (of_decide_eq_true (truth hT0 0 1 (l := ht0 K) (b := decide (PySem.W.nsIn K mainGlobals "_law_take" = some (some (.ref (He.fAd K ("_law_take", none)))))) rfl rfl))
    (zl0)
    (zc0)
    (zk0)
    (of_decide_eq_true (truth hT0 0 2 (l := ht0 K) (b := decide (PySem.W.nsIn K mainGlobals "is_integer" = some (some (.ref (He.fAd K ("is_integer", none)))))) rfl rfl))
    (zl1)
    (zc1)
    (zk1)
    (of_decide_eq_true (truth hT0 0 3 (l := ht0 K) (b := decide (PySem.W.nsIn K mainGlobals "is_list" = some (some (.ref (He.fAd K ("is_list", none)))))) rfl rfl))
    (zl2)
    (zc2)
    (zk2)
    (of_decide_eq_true (truth hT0 0 4 (l := ht0 K) (b := decide (PySem.W.nsIn K mainGlobals "is_from" = some (some (.ref (He.fAd K ("is_from", none)))))) rfl rfl))
    (zl3)
    (zc3)
    (zk3)
    (of_decide_eq_true (truth hT0 0 5 (l := ht0 K) (b := decide (PySem.W.nsIn K mainGlobals "is_index" = some (some (.ref (He.fAd K ("is_index", none)))))) rfl rfl))
    (zl4)
    (zc4)
    (zk4)
    (of_decide_eq_true (truth hT0 0 6 (l := ht0 K) (b := decide (PySem.W.nsIn K mainGlobals "is_sizes" = some (some (.ref (He.fAd K ("is_sizes", none)))))) rfl rfl))
    (zl5)
    (zc5)
    (zk5)
    (of_decide_eq_true (truth hT0 0 7 (l := ht0 K) (b := decide (PySem.W.nsIn K mainGlobals "is_digits" = some (some (.ref (He.fAd K ("is_digits", none)))))) rfl rfl))
    (zl6)
    (zc6)
    (zk6)
    (of_decide_eq_true (truth hT0 0 8 (l := ht0 K) (b := decide (PySem.W.nsIn K mainGlobals "all_values" = some (some (.ref (He.fAd K ("all_values", none)))))) rfl rfl))
    (zl7)
    (zc7)
    (zk7)
    (of_decide_eq_true (truth hT0 0 9 (l := ht0 K) (b := decide (PySem.W.findIn K (.ref (He.ga K "Space")) "__init__" = some (some (.ref (He.fAd K ("Space", some "__init__")))))) rfl rfl))
    (of_decide_eq_true (truth hT0 0 10 (l := ht0 K) (b := decide (PySem.W.isFn K (.ref (He.fAd K ("Space", some "__init__"))) = true)) rfl rfl))
    (zl8)
    (zc8)
    (zk8)
    (of_decide_eq_true (truth hT0 0 11 (l := ht0 K) (b := decide (PySem.W.nsIn K mainGlobals "need_space" = some (some (.ref (He.fAd K ("need_space", none)))))) rfl rfl))
    (zl9)
    (zc9)
    (zk9)
    (of_decide_eq_true (truth hT0 0 12 (l := ht0 K) (b := decide (PySem.W.nsIn K mainGlobals "read_space" = some (some (.ref (He.fAd K ("read_space", none)))))) rfl rfl))
    (zl10)
    (zc10)
    (zk10)
    (of_decide_eq_true (truth hT0 0 13 (l := ht0 K) (b := decide (PySem.W.nsIn K mainGlobals "_law_cell" = some (some (.ref (He.fAd K ("_law_cell", none)))))) rfl rfl))
    (zl11)
    (zc11)
    (zk11)
    (of_decide_eq_true (truth hT0 0 14 (l := ht0 K) (b := decide (PySem.W.nsIn K mainGlobals "_law_box" = some (some (.ref (He.fAd K ("_law_box", none)))))) rfl rfl))
    (zl12)
    (zc12)
    (zk12)
    (of_decide_eq_true (truth hT0 0 15 (l := ht0 K) (b := decide (PySem.W.nsIn K mainGlobals "is_ascending" = some (some (.ref (He.fAd K ("is_ascending", none)))))) rfl rfl))
    (zl13)
    (zc13)
    (zk13)
    (of_decide_eq_true (truth hT0 0 16 (l := ht0 K) (b := decide (PySem.W.nsIn K mainGlobals "is_set_below" = some (some (.ref (He.fAd K ("is_set_below", none)))))) rfl rfl))
    (zl14)
    (zc14)
    (zk14)
    (of_decide_eq_true (truth hT0 0 17 (l := ht0 K) (b := decide (PySem.W.nsIn K mainGlobals "is_hole_count" = some (some (.ref (He.fAd K ("is_hole_count", none)))))) rfl rfl))
    (zl15)
    (zc15)
    (zk15)
    (of_decide_eq_true (truth hT0 0 18 (l := ht0 K) (b := decide (PySem.W.nsIn K mainGlobals "is_name" = some (some (.ref (He.fAd K ("is_name", none)))))) rfl rfl))
    (zl16)
    (zc16)
    (zk16)
    (of_decide_eq_true (truth hT0 0 19 (l := ht0 K) (b := decide (PySem.W.nsIn K mainGlobals "is_pair" = some (some (.ref (He.fAd K ("is_pair", none)))))) rfl rfl))
    (zl17)
    (zc17)
    (zk17)
    (of_decide_eq_true (truth hT0 0 20 (l := ht0 K) (b := decide (PySem.W.nsIn K mainGlobals "is_setting" = some (some (.ref (He.fAd K ("is_setting", none)))))) rfl rfl))
    (zl18)
    (zc18)
    (zk18)
    (of_decide_eq_true (truth hT0 0 21 (l := ht0 K) (b := decide (PySem.W.nsIn K mainGlobals "is_weighing" = some (some (.ref (He.fAd K ("is_weighing", none)))))) rfl rfl))
    (zl19)
    (zc19)
    (zk19)
    (of_decide_eq_true (truth hT0 0 22 (l := ht0 K) (b := decide (PySem.W.nsIn K mainGlobals "children" = some (some (.ref (He.fAd K ("children", none)))))) rfl rfl))
    (zl20)
    (zc20)
    (zk20)
    (of_decide_eq_true (truth hT0 0 23 (l := ht0 K) (b := decide (PySem.W.nsIn K mainGlobals "is_part" = some (some (.ref (He.fAd K ("is_part", none)))))) rfl rfl))
    (zl21)
    (zc21)
    (zk21)
    (of_decide_eq_true (truth hT0 0 24 (l := ht0 K) (b := decide (PySem.W.nsIn K mainGlobals "holes_of" = some (some (.ref (He.fAd K ("holes_of", none)))))) rfl rfl))
    (zl22)
    (zc22)
    (zk22)
    (of_decide_eq_true (truth hT0 0 25 (l := ht0 K) (b := decide (PySem.W.nsIn K mainGlobals "is_text" = some (some (.ref (He.fAd K ("is_text", none)))))) rfl rfl))
    (zl23)
    (zc23)
    (zk23)
    (of_decide_eq_true (truth hT0 0 26 (l := ht0 K) (b := decide (PySem.W.nsIn K mainGlobals "is_surrounding" = some (some (.ref (He.fAd K ("is_surrounding", none)))))) rfl rfl))
    (zl24)
    (zc24)
    (zk24)
    (of_decide_eq_true (truth hT0 0 27 (l := ht0 K) (b := decide (PySem.W.nsIn K mainGlobals "is_text_or_surrounding" = some (some (.ref (He.fAd K ("is_text_or_surrounding", none)))))) rfl rfl))
    (zl25)
    (zc25)
    (zk25)
    (of_decide_eq_true (truth hT0 0 28 (l := ht0 K) (b := decide (PySem.W.nsIn K mainGlobals "need_text" = some (some (.ref (He.fAd K ("need_text", none)))))) rfl rfl))
    (zl26)
    (zc26)
    (zk26)
    (of_decide_eq_true (truth hT0 0 29 (l := ht0 K) (b := decide (PySem.W.nsIn K mainGlobals "need_any_text" = some (some (.ref (He.fAd K ("need_any_text", none)))))) rfl rfl))
    (zl27)
    (zc27)
    (zk27)
    (of_decide_eq_true (truth hT0 1 0 (l := ht1 K) (b := decide (PySem.W.nsIn K mainGlobals "in_tuples" = some (some (.ref (He.fAd K ("in_tuples", none)))))) rfl rfl))
    (zl28)
    (zc28)
    (zk28)
    (of_decide_eq_true (truth hT0 1 1 (l := ht1 K) (b := decide (PySem.W.nsIn K mainGlobals "listed_parts" = some (some (.ref (He.fAd K ("listed_parts", none)))))) rfl rfl))
    (zl29)
    (zc29)
    (zk29)
    (of_decide_eq_true (truth hT0 1 2 (l := ht1 K) (b := decide (PySem.W.nsIn K mainGlobals "size_of" = some (some (.ref (He.fAd K ("size_of", none)))))) rfl rfl))
    (zl30)
    (zc30)
    (zk30)
    (of_decide_eq_true (truth hT0 1 3 (l := ht1 K) (b := decide (PySem.W.nsIn K mainGlobals "depth_of" = some (some (.ref (He.fAd K ("depth_of", none)))))) rfl rfl))
    (zl31)
    (zc31)
    (zk31)
    (of_decide_eq_true (truth hT0 1 4 (l := ht1 K) (b := decide (PySem.W.nsIn K mainGlobals "filled" = some (some (.ref (He.fAd K ("filled", none)))))) rfl rfl))
    (zl32)
    (zc32)
    (zk32)
    (of_decide_eq_true (truth hT0 1 5 (l := ht1 K) (b := decide (PySem.W.nsIn K mainGlobals "replaced" = some (some (.ref (He.fAd K ("replaced", none)))))) rfl rfl))
    (zl33)
    (zc33)
    (zk33)
    (of_decide_eq_true (truth hT0 1 6 (l := ht1 K) (b := decide (PySem.W.nsIn K mainGlobals "is_path" = some (some (.ref (He.fAd K ("is_path", none)))))) rfl rfl))
    (zl34)
    (zc34)
    (zk34)
    (of_decide_eq_true (truth hT0 1 7 (l := ht1 K) (b := decide (PySem.W.nsIn K mainGlobals "size" = some (some (.ref (He.fAd K ("size", none)))))) rfl rfl))
    (zl35)
    (zc35)
    (zk35)
    (of_decide_eq_true (truth hT0 1 8 (l := ht1 K) (b := decide (PySem.W.nsIn K mainGlobals "depth" = some (some (.ref (He.fAd K ("depth", none)))))) rfl rfl))
    (zl36)
    (zc36)
    (zk36)
    (of_decide_eq_true (truth hT0 1 9 (l := ht1 K) (b := decide (PySem.W.nsIn K mainGlobals "within_bounds" = some (some (.ref (He.fAd K ("within_bounds", none)))))) rfl rfl))
    (zl37)
    (zc37)
    (zk37)
    (of_decide_eq_true (truth hT0 1 10 (l := ht1 K) (b := decide (PySem.W.nsIn K mainGlobals "put_at" = some (some (.ref (He.fAd K ("put_at", none)))))) rfl rfl))
    (zl38)
    (zc38)
    (zk38)
    (of_decide_eq_true (truth hT0 1 11 (l := ht1 K) (b := decide (PySem.W.nsIn K mainGlobals "fill" = some (some (.ref (He.fAd K ("fill", none)))))) rfl rfl))
    (zl39)
    (zc39)
    (zk39)
    (of_decide_eq_true (truth hT0 1 12 (l := ht1 K) (b := decide (PySem.W.nsIn K mainGlobals "_law_product" = some (some (.ref (He.fAd K ("_law_product", none)))))) rfl rfl))
    (zl40)
    (zc40)
    (zk40)
    (of_decide_eq_true (truth hT0 1 13 (l := ht1 K) (b := decide (PySem.W.nsIn K mainGlobals "_law_widths" = some (some (.ref (He.fAd K ("_law_widths", none)))))) rfl rfl))
    (zl41)
    (zc41)
    (zk41)
    (of_decide_eq_true (truth hT0 1 14 (l := ht1 K) (b := decide (PySem.W.nsIn K mainGlobals "_law_row" = some (some (.ref (He.fAd K ("_law_row", none)))))) rfl rfl))
    (zl42)
    (zc42)
    (zk42)
    (of_decide_eq_true (truth hT0 1 15 (l := ht1 K) (b := decide (PySem.W.nsIn K mainGlobals "_law_guard" = some (some (.ref (He.fAd K ("_law_guard", none)))))) rfl rfl))
    (zl43)
    (zc43)
    (zk43)
    (of_decide_eq_true (truth hT0 1 16 (l := ht1 K) (b := decide (PySem.W.nsIn K mainGlobals "_law_weights" = some (some (.ref (He.fAd K ("_law_weights", none)))))) rfl rfl))
    (zl44)
    (zc44)
    (zk44)
    (of_decide_eq_true (truth hT0 1 17 (l := ht1 K) (b := decide (PySem.W.nsIn K mainGlobals "_law_leaf" = some (some (.ref (He.fAd K ("_law_leaf", none)))))) rfl rfl))
    (zl45)
    (zc45)
    (zk45)
    (of_decide_eq_true (truth hT0 1 18 (l := ht1 K) (b := decide (PySem.W.nsIn K mainGlobals "_law_kids" = some (some (.ref (He.fAd K ("_law_kids", none)))))) rfl rfl))
    (zl46)
    (zc46)
    (zk46)
    (of_decide_eq_true (truth hT0 1 19 (l := ht1 K) (b := decide (PySem.W.nsIn K mainGlobals "_law_tupled" = some (some (.ref (He.fAd K ("_law_tupled", none)))))) rfl rfl))
    (zl47)
    (zc47)
    (zk47)
    (of_decide_eq_true (truth hT0 1 20 (l := ht1 K) (b := decide (PySem.W.nsIn K mainGlobals "_law_put" = some (some (.ref (He.fAd K ("_law_put", none)))))) rfl rfl))
    (zl48)
    (zc48)
    (zk48)
    (of_decide_eq_true (truth hT0 1 21 (l := ht1 K) (b := decide (PySem.W.nsIn K mainGlobals "_law_filled" = some (some (.ref (He.fAd K ("_law_filled", none)))))) rfl rfl))
    (zl49)
    (zc49)
    (zk49)
    (of_decide_eq_true (truth hT0 1 22 (l := ht1 K) (b := decide (PySem.W.nsIn K mainGlobals "_law_shape" = some (some (.ref (He.fAd K ("_law_shape", none)))))) rfl rfl))
    (zl50)
    (zc50)
    (zk50)
    (of_decide_eq_true (truth hT0 1 23 (l := ht1 K) (b := decide (PySem.W.nsIn K mainGlobals "_law_all_parts" = some (some (.ref (He.fAd K ("_law_all_parts", none)))))) rfl rfl))
    (zl51)
    (zc51)
    (zk51)
    (of_decide_eq_true (truth hT0 1 24 (l := ht1 K) (b := decide (PySem.W.nsIn K mainGlobals "_law_pile" = some (some (.ref (He.fAd K ("_law_pile", none)))))) rfl rfl))
    (zl52)
    (zc52)
    (zk52)
    (of_decide_eq_true (truth hT0 1 25 (l := ht1 K) (b := decide (PySem.W.nsIn K mainGlobals "_law_sized" = some (some (.ref (He.fAd K ("_law_sized", none)))))) rfl rfl))
    (zl53)
    (zc53)
    (zk53)
    (of_decide_eq_true (truth hT0 1 26 (l := ht1 K) (b := decide (PySem.W.nsIn K mainGlobals "_law_around" = some (some (.ref (He.fAd K ("_law_around", none)))))) rfl rfl))
    (zl54)
    (zc54)
    (zk54)
    (of_decide_eq_true (truth hT0 1 27 (l := ht1 K) (b := decide (PySem.W.nsIn K mainGlobals "_law_told" = some (some (.ref (He.fAd K ("_law_told", none)))))) rfl rfl))
    (zl55)
    (zc55)
    (zk55)
    (of_decide_eq_true (truth hT0 1 28 (l := ht1 K) (b := decide (PySem.W.nsIn K mainGlobals "_law_meets" = some (some (.ref (He.fAd K ("_law_meets", none)))))) rfl rfl))
    (zl56)
    (zc56)
    (zk56)
    (of_decide_eq_true (truth hT0 1 29 (l := ht1 K) (b := decide (PySem.W.nsIn K mainGlobals "_law_right" = some (some (.ref (He.fAd K ("_law_right", none)))))) rfl rfl))
    (zl57)
    (zc57)
    (zk57)
    (of_decide_eq_true (truth hT0 2 0 (l := ht2 K) (b := decide (PySem.W.nsIn K mainGlobals "law" = some (some (.ref (He.fAd K ("law", none)))))) rfl rfl))
    (zl58)
    (zc58)
    (zk58)
    (of_decide_eq_true (truth hT0 2 1 (l := ht2 K) (b := decide (PySem.W.plainGet K (He.ga K "Space") Str.empty = true)) rfl rfl))
    (of_decide_eq_true (truth hT0 2 2 (l := ht2 K) (b := decide (PySem.W.hasDictIn K (He.ga K "Space") = true)) rfl rfl))
    (of_decide_eq_true (truth hT0 2 3 (l := ht2 K) (b := decide (PySem.W.plainOver K (He.ga K "Space") = true)) rfl rfl))
    (of_decide_eq_true (truth hT0 2 4 (l := ht2 K) (b := decide (PySem.W.findIn K (.ref (He.ga K "Space")) "__setattr__" = some (some (.builtin "object.__setattr__")))) rfl rfl))
    (of_decide_eq_true (truth hT0 2 5 (l := ht2 K) (b := decide (PySem.W.makesIn K (He.ga K "Space") = true)) rfl rfl))
    (of_decide_eq_true (truth hT0 2 6 (l := ht2 K) (b := decide (PySem.W.keepIn K (.ref (He.ga K "Space")) = true)) rfl rfl))
    (of_decide_eq_true (truth hT0 2 7 (l := ht2 K) (b := decide (PySem.W.findIn K (.ref (He.ga K "Space")) "__class__" = some (some (.builtin "object.__class__")))) rfl rfl))
    (of_decide_eq_true (truth hT0 2 8 (l := ht2 K) (b := decide (PySem.W.mroIn K (He.ga K "Space") (.type "object") = some true)) rfl rfl))
    (of_decide_eq_true (truth hT0 2 9 (l := ht2 K) (b := decide (PySem.W.findIn K (.ref (He.ga K "Space")) "sizes" = some none)) rfl rfl))
    (of_decide_eq_true (truth hT0 2 10 (l := ht2 K) (b := decide (PySem.W.findIn K (.ref (He.ga K "Space")) "_stores" = some none)) rfl rfl))
    (of_decide_eq_true (truth hT0 2 11 (l := ht2 K) (b := decide (PySem.W.findIn K (.ref (He.ga K "Space")) "never" = some none)) rfl rfl))
    (of_decide_eq_true (truth hT0 2 12 (l := ht2 K) (b := decide (PySem.W.kitOne K (.type "NoneType") (.ref (He.ga K "Space")) = some false)) rfl rfl))
    (of_decide_eq_true (truth hT0 2 13 (l := ht2 K) (b := decide (PySem.W.kitOne K (.type "list") (.ref (He.ga K "Space")) = some false)) rfl rfl))
    (of_decide_eq_true (truth hT0 2 14 (l := ht2 K) (b := decide (PySem.W.kitOne K (.type "tuple") (.ref (He.ga K "Space")) = some false)) rfl rfl))
    (of_decide_eq_true (truth hT0 2 15 (l := ht2 K) (b := decide (PySem.W.kitOne K (.type "str") (.ref (He.ga K "Space")) = some false)) rfl rfl))
    (of_decide_eq_true (truth hT0 2 16 (l := ht2 K) (b := decide (PySem.W.kitOne K (.type "int") (.ref (He.ga K "Space")) = some false)) rfl rfl))
    (of_decide_eq_true (truth hT0 2 17 (l := ht2 K) (b := decide (PySem.W.kitOne K (.type "bool") (.ref (He.ga K "Space")) = some false)) rfl rfl))
    (of_decide_eq_true (truth hT0 2 18 (l := ht2 K) (b := decide (PySem.W.specialIn K (.builtin "object.__class__") "__get__" = some (some (.builtin "getset_descriptor.__get__")))) rfl rfl))
    (of_decide_eq_true (truth hT0 2 19 (l := ht2 K) (b := decide (PySem.W.takesIn K (.builtin "object.__class__") = some true)) rfl rfl))
    (of_decide_eq_true (truth hT0 2 20 (l := ht2 K) (b := decide (PySem.W.nsIn K mainGlobals "EndError" = some (some (.ref (He.ga K "EndError"))))) rfl rfl))
    (of_decide_eq_true (truth hT0 2 21 (l := ht2 K) (b := decide (PySem.W.nsIn K mainGlobals "TooMany" = some (some (.ref (He.ga K "TooMany"))))) rfl rfl))
    (zx_xl)
    (of_decide_eq_true (truth hT0 2 23 (l := ht2 K) (b := decide (PySem.W.findIn K (.ref (He.ga K "TooMany")) "__setattr__" = some (some (.builtin "object.__setattr__")))) rfl rfl))
    (of_decide_eq_true (truth hT0 2 24 (l := ht2 K) (b := decide (PySem.W.findIn K (.ref (He.ga K "TooMany")) "__getattribute__" = some (some (.builtin "BaseException.__getattribute__")))) rfl rfl))
    (of_decide_eq_true (truth hT0 2 25 (l := ht2 K) (b := decide (PySem.W.findIn K (.ref (He.ga K "TooMany")) "__getattr__" = some none)) rfl rfl))
    (of_decide_eq_true (truth hT0 2 26 (l := ht2 K) (b := decide (PySem.W.findIn K (.ref (He.ga K "TooMany")) "count" = some none)) rfl rfl))
    (of_decide_eq_true (truth hT0 2 27 (l := ht2 K) (b := decide (PySem.W.findIn K (.ref (He.ga K "TooMany")) "__init__" = some (some (.ref (He.fAd K ("TooMany", some "__init__")))))) rfl rfl))
    (of_decide_eq_true (truth hT0 2 28 (l := ht2 K) (b := decide (PySem.W.typeIn K (.ref (He.fAd K ("TooMany", some "__init__"))) = some (.type "function"))) rfl rfl))
    (zl59)
    (zc59)
    (zk59)
    (of_decide_eq_true (truth hT0 2 29 (l := ht2 K) (b := decide (PySem.W.keepIn K (.ref (He.ga K "TooMany")) = true)) rfl rfl))
    (of_decide_eq_true (truth hT0 3 0 (l := ht3 K) (b := decide (PySem.W.subIn K (.ref (He.ga K "TooMany")) (.type "BaseException") = some true)) rfl rfl))
    (of_decide_eq_true (truth hT0 3 1 (l := ht3 K) (b := decide (PySem.W.typeIn K (.ref (He.ga K "TooMany")) = some (.type "type"))) rfl rfl))
    (of_decide_eq_true (truth hT0 3 2 (l := ht3 K) (b := decide (PySem.W.hasDictIn K (He.ga K "TooMany") = true)) rfl rfl))
    (of_decide_eq_true (truth hT0 3 3 (l := ht3 K) (b := decide (PySem.W.isClsIn K (He.ga K "TooMany") = true)) rfl rfl))
    (of_decide_eq_true (truth hT0 3 4 (l := ht3 K) (b := decide (PySem.W.subIn K (.ref (He.ga K "TooMany")) (.ref (He.ga K "TooMany")) = some true)) rfl rfl))
    (of_decide_eq_true (truth hT0 3 5 (l := ht3 K) (b := decide (PySem.W.nsIn K mainGlobals "LENGTHS" = some (some (.ref (He.ga K "LENGTHS"))))) rfl rfl))
    (of_decide_eq_true (truth hT0 3 6 (l := ht3 K) (b := decide (PySem.W.nsIn K mainGlobals "PARTS_FROM" = some (some (.ref (He.ga K "PARTS_FROM"))))) rfl rfl))
    (of_decide_eq_true (truth hT0 3 7 (l := ht3 K) (b := decide (PySem.W.nsIn K mainGlobals "ALL_SIZES" = some (some (.ref (He.ga K "ALL_SIZES"))))) rfl rfl))
    (tabW ct 0 (t := (fun K => (He.ga K "LENGTHS"), ["skip", "hole", "set", "draw", "then", "if", "either", "while"])) rfl)
    (tabW ct 1 (t := (fun K => (He.ga K "PARTS_FROM"), ["skip", "hole", "set", "draw", "then", "if", "either", "while"])) rfl)
    (of_decide_eq_true (truth hT0 3 8 (l := ht3 K) (b := decide (tupRefsB K (He.ga K "ALL_SIZES") 13 = true)) rfl rfl))
    (of_decide_eq_true (truth hT0 3 9 (l := ht3 K) (b := decide (getB K (He.ga K "LENGTHS") "skip" 1 = true)) rfl rfl))
    (of_decide_eq_true (truth hT0 3 10 (l := ht3 K) (b := decide (getB K (He.ga K "LENGTHS") "hole" 1 = true)) rfl rfl))
    (of_decide_eq_true (truth hT0 3 11 (l := ht3 K) (b := decide (getB K (He.ga K "LENGTHS") "set" 3 = true)) rfl rfl))
    (of_decide_eq_true (truth hT0 3 12 (l := ht3 K) (b := decide (getB K (He.ga K "LENGTHS") "draw" 4 = true)) rfl rfl))
    (of_decide_eq_true (truth hT0 3 13 (l := ht3 K) (b := decide (getB K (He.ga K "LENGTHS") "then" 3 = true)) rfl rfl))
    (of_decide_eq_true (truth hT0 3 14 (l := ht3 K) (b := decide (getB K (He.ga K "LENGTHS") "if" 4 = true)) rfl rfl))
    (of_decide_eq_true (truth hT0 3 15 (l := ht3 K) (b := decide (getB K (He.ga K "LENGTHS") "either" 3 = true)) rfl rfl))
    (of_decide_eq_true (truth hT0 3 16 (l := ht3 K) (b := decide (getB K (He.ga K "LENGTHS") "while" 3 = true)) rfl rfl))
    (of_decide_eq_true (truth hT0 3 17 (l := ht3 K) (b := decide (getB K (He.ga K "PARTS_FROM") "skip" 1 = true)) rfl rfl))
    (of_decide_eq_true (truth hT0 3 18 (l := ht3 K) (b := decide (getB K (He.ga K "PARTS_FROM") "hole" 1 = true)) rfl rfl))
    (of_decide_eq_true (truth hT0 3 19 (l := ht3 K) (b := decide (getB K (He.ga K "PARTS_FROM") "set" 3 = true)) rfl rfl))
    (of_decide_eq_true (truth hT0 3 20 (l := ht3 K) (b := decide (getB K (He.ga K "PARTS_FROM") "draw" 4 = true)) rfl rfl))
    (of_decide_eq_true (truth hT0 3 21 (l := ht3 K) (b := decide (getB K (He.ga K "PARTS_FROM") "then" 1 = true)) rfl rfl))
    (of_decide_eq_true (truth hT0 3 22 (l := ht3 K) (b := decide (getB K (He.ga K "PARTS_FROM") "if" 2 = true)) rfl rfl))
    (of_decide_eq_true (truth hT0 3 23 (l := ht3 K) (b := decide (getB K (He.ga K "PARTS_FROM") "either" 1 = true)) rfl rfl))
    (of_decide_eq_true (truth hT0 3 24 (l := ht3 K) (b := decide (getB K (He.ga K "PARTS_FROM") "while" 2 = true)) rfl rfl))
    (of_decide_eq_true (truth hT0 3 25 (l := ht3 K) (b := decide (tupIntsB K ((seqRefs K (He.ga K "ALL_SIZES")).getD 0 0) [2] = true)) rfl rfl))
    (of_decide_eq_true (truth hT0 3 26 (l := ht3 K) (b := decide (tupIntsB K ((seqRefs K (He.ga K "ALL_SIZES")).getD 1 0) [3] = true)) rfl rfl))
    (of_decide_eq_true (truth hT0 3 27 (l := ht3 K) (b := decide (tupIntsB K ((seqRefs K (He.ga K "ALL_SIZES")).getD 2 0) [4] = true)) rfl rfl))
    (of_decide_eq_true (truth hT0 3 28 (l := ht3 K) (b := decide (tupIntsB K ((seqRefs K (He.ga K "ALL_SIZES")).getD 3 0) [5] = true)) rfl rfl))
    (of_decide_eq_true (truth hT0 3 29 (l := ht3 K) (b := decide (tupIntsB K ((seqRefs K (He.ga K "ALL_SIZES")).getD 4 0) [6] = true)) rfl rfl))
    (of_decide_eq_true (truth hT1 0 0 (l := ht4 K) (b := decide (tupIntsB K ((seqRefs K (He.ga K "ALL_SIZES")).getD 5 0) [7] = true)) rfl rfl))
    (of_decide_eq_true (truth hT1 0 1 (l := ht4 K) (b := decide (tupIntsB K ((seqRefs K (He.ga K "ALL_SIZES")).getD 6 0) [8] = true)) rfl rfl))
    (of_decide_eq_true (truth hT1 0 2 (l := ht4 K) (b := decide (tupIntsB K ((seqRefs K (He.ga K "ALL_SIZES")).getD 7 0) [2, 2] = true)) rfl rfl))
    (of_decide_eq_true (truth hT1 0 3 (l := ht4 K) (b := decide (tupIntsB K ((seqRefs K (He.ga K "ALL_SIZES")).getD 8 0) [2, 3] = true)) rfl rfl))
    (of_decide_eq_true (truth hT1 0 4 (l := ht4 K) (b := decide (tupIntsB K ((seqRefs K (He.ga K "ALL_SIZES")).getD 9 0) [3, 2] = true)) rfl rfl))
    (of_decide_eq_true (truth hT1 0 5 (l := ht4 K) (b := decide (tupIntsB K ((seqRefs K (He.ga K "ALL_SIZES")).getD 10 0) [2, 4] = true)) rfl rfl))
    (of_decide_eq_true (truth hT1 0 6 (l := ht4 K) (b := decide (tupIntsB K ((seqRefs K (He.ga K "ALL_SIZES")).getD 11 0) [4, 2] = true)) rfl rfl))
    (of_decide_eq_true (truth hT1 0 7 (l := ht4 K) (b := decide (tupIntsB K ((seqRefs K (He.ga K "ALL_SIZES")).getD 12 0) [2, 2, 2] = true)) rfl rfl))
    (of_decide_eq_true (truth hT1 0 8 (l := ht4 K) (b := decide (PySem.W.nsIn K mainGlobals "isinstance" = some none)) rfl rfl))
    (of_decide_eq_true (truth hT1 0 9 (l := ht4 K) (b := decide (PySem.W.nsIn K mainGlobals "int" = some none)) rfl rfl))
    (of_decide_eq_true (truth hT1 0 10 (l := ht4 K) (b := decide (PySem.W.nsIn K mainGlobals "bool" = some none)) rfl rfl))
    (of_decide_eq_true (truth hT1 0 11 (l := ht4 K) (b := decide (PySem.W.nsIn K mainGlobals "str" = some none)) rfl rfl))
    (of_decide_eq_true (truth hT1 0 12 (l := ht4 K) (b := decide (PySem.W.nsIn K mainGlobals "list" = some none)) rfl rfl))
    (of_decide_eq_true (truth hT1 0 13 (l := ht4 K) (b := decide (PySem.W.nsIn K mainGlobals "tuple" = some none)) rfl rfl))
    (of_decide_eq_true (truth hT1 0 14 (l := ht4 K) (b := decide (PySem.W.nsIn K mainGlobals "len" = some none)) rfl rfl))
    (of_decide_eq_true (truth hT1 0 15 (l := ht4 K) (b := decide (PySem.W.nsIn K mainGlobals "abs" = some none)) rfl rfl))
    (of_decide_eq_true (truth hT1 0 16 (l := ht4 K) (b := decide (PySem.W.nsIn K mainGlobals "max" = some none)) rfl rfl))
    (of_decide_eq_true (truth hT1 0 17 (l := ht4 K) (b := decide (PySem.W.nsIn K mainGlobals "min" = some none)) rfl rfl))
    (of_decide_eq_true (truth hT1 0 18 (l := ht4 K) (b := decide (PySem.W.nsIn K mainGlobals "sum" = some none)) rfl rfl))
    (of_decide_eq_true (truth hT1 0 19 (l := ht4 K) (b := decide (PySem.W.nsIn K mainGlobals "repr" = some none)) rfl rfl))
    (of_decide_eq_true (truth hT1 0 20 (l := ht4 K) (b := decide (PySem.W.nsIn K mainGlobals "all" = some none)) rfl rfl))
    (of_decide_eq_true (truth hT1 0 21 (l := ht4 K) (b := decide (PySem.W.nsIn K mainGlobals "range" = some none)) rfl rfl))
    (of_decide_eq_true (truth hT1 0 22 (l := ht4 K) (b := decide (PySem.W.nsIn K mainGlobals "zip" = some none)) rfl rfl))
    (of_decide_eq_true (truth hT1 0 23 (l := ht4 K) (b := decide (PySem.W.nsIn K mainGlobals "any" = some none)) rfl rfl))
    (of_decide_eq_true (truth hT1 0 24 (l := ht4 K) (b := decide (PySem.W.nsIn K mainGlobals "enumerate" = some none)) rfl rfl))
    (of_decide_eq_true (truth hT1 0 25 (l := ht4 K) (b := decide (PySem.W.nsIn K mainGlobals "gcd" = some (some (.builtin "math.gcd")))) rfl rfl))
    (of_decide_eq_true (truth hT1 0 26 (l := ht4 K) (b := decide (PySem.W.nsIn K mainGlobals "MOST_SIZE" = some (some (.int 24 (tkOf K "MOST_SIZE"))))) rfl rfl))
    (of_decide_eq_true (truth hT1 0 27 (l := ht4 K) (b := decide (PySem.W.nsIn K mainGlobals "MOST_DEPTH" = some (some (.int 4 (tkOf K "MOST_DEPTH"))))) rfl rfl))
    (of_decide_eq_true (truth hT1 0 28 (l := ht4 K) (b := decide (PySem.W.nsIn K mainGlobals "MOST_HOLES" = some (some (.int 3 (tkOf K "MOST_HOLES"))))) rfl rfl))
    (of_decide_eq_true (truth hT1 0 29 (l := ht4 K) (b := decide (PySem.W.nsIn K mainGlobals "MOST_WEIGHT" = some (some (.int 1000000 (tkOf K "MOST_WEIGHT"))))) rfl rfl))
    (of_decide_eq_true (truth hT1 1 0 (l := ht5 K) (b := decide (PySem.W.nsIn K mainGlobals "MOST_NAMES" = some (some (.int 3 (tkOf K "MOST_NAMES"))))) rfl rfl))
    (of_decide_eq_true (truth hT1 1 1 (l := ht5 K) (b := decide (PySem.W.nsIn K mainGlobals "MOST_STORES" = some (some (.int 8 (tkOf K "MOST_STORES"))))) rfl rfl))
end Eld
open PySem PySem.W PySem.Calls PyProof.Rows in
set_option maxRecDepth 100000 in
set_option maxHeartbeats 0 in
theorem PySem.Challenge.cw_endlots_k13_sizes_and_depths_holds : PySem.Challenge.rw_endlots_k13_sizes_and_depths.Holds := by
  w_on; o_law
  refine HandSHeadRun.head_imp (r := OpenLaw.row PySem.Challenge.rw_endlots_k13_sizes_and_depths) (q := Eld.hq) (H := Eld.hookXW Eld.has Eld.hfb Eld.hfn Eld.htabs) (ob := Eld.obXW Eld.has Eld.hfb Eld.hfn Eld.htabs) (M := 20000) (loose := Eld.hnames) (d := HandSHeadRun.topDef (OpenLaw.row PySem.Challenge.rw_endlots_k13_sizes_and_depths).prog 85) (kwd := []) Eld.obXW_eq
    Eld.hrunXT (by kernel_rfl) (by kernel_rfl) (by kernel_rfl) (by rfl) (by first | assumption | decide +kernel) (by decide +kernel) ⟨rfl, rfl, rfl, rfl, rfl, by decide +kernel⟩ ?hw ?hc
  case hw => w_witness2
  case hc =>
    refine Eld.walk_MX (l := PySem.Challenge.rw_endlots_k13_sizes_and_depths) (n := 63) (k := 218) (x := "script") rfl (by decide) (by kernel_rfl) ⟨rfl, by decide, by decide⟩ (by decide +kernel) ?F
    intro w mg fa h Y G hmg0
    obtain ⟨K, KX, c, ct⟩ := Y
    have hmg : mg ("law" : PySem.Str) = some (.ref fa) := by
      have e : (HandSHeadRun.topDef (OpenLaw.row PySem.Challenge.rw_endlots_k13_sizes_and_depths).prog 85).name = ("law" : PySem.Str) := by kernel_rfl
      rw [← e]
      exact hmg0
    obtain ⟨fd, hb, hF⟩ := Eld.hfacts (w := w) KX G hmg c ct
    exact ⟨K, fd, Eld.spLaw K, KX, hb, fun G a ns hl hS => ⟨a, ns, rfl, Nat.le_trans hl (by decide), hS, fun _ => rfl⟩, hF⟩
