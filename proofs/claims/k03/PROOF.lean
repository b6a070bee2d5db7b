import PyProof.Rows.All
import Wide.All
import OpenK.AllK
import Wide.FinOn
import PyProof.EqAt
import PyProof.EqKinds
import PyProof.TupleCall
import HandS.ForMost
import HandS.Defaults
import HandS.IsInst
import HandS.Gcd
import HandS.Wide
import HandS.Style
import HandS.TupAny
import HandS.Deep
import PyProof.SeqIndex
import PyProof.InstNe
import KE.KIndexOf
import HandS.Zip
import HandS.StrMore
import KE.GoesEnum
import HandS.ForExc
import HandS.TryMany
import HandS.ExcInit
import HandS.ExcField
import PyProof.Rows.RegFStrParts
import PySem.Challenge.RW_endlots_k03_refused_spaces_and_stores
set_option Elab.async false
set_option maxRecDepth 100000
set_option maxHeartbeats 4000000
set_option linter.all false
/-! Eld: calls under known guards (so that repr may be spoken of), and what else the laws of Endlots want. -/
namespace Eld
open PySem PySem.Spec PyProof.Rows L2

/-! ## a def that keeps a promise where nothing is being shown (repr) -/
structure FnG (P : Program) (w : World) (K : PySem.W.Frag) (mg : Str → Option Value) (base : Heap) (CX : CXT) (k : Nat) (f : Addr) (fd : FuncData) (ps : List Str) (sp : Sp) : Prop where
  len : ∀ vs H Q E, sp vs H Q E → vs.length = ps.length
  run : ∀ (B : Around) (up : List Env) (z : Shared) (H : Hp) (ar : Args) (us : List Value) (vs : List V) (Q : VK) (E : XK),
    B.guards = some [] → Room k B → Env0 P w K mg base B up z H → BindsTo z fd ar (ps.zip us) → Vals vs us → sp vs H Q E → codeAny (model P w) B (.call (.ref f) ar) (CR CX up P w H z Q E) z
section
variable {P : Program} {w : World} {K : PySem.W.Frag} {mg : Str → Option Value} {base : Heap} {CX : CXT} {f : Addr} {fd : FuncData} {ps : List Str} {sp : Sp}
theorem FnG.of {k : Nat} (F : FnOk P w K mg base CX k f fd ps sp) : FnG P w K mg base CX k f fd ps sp :=
  ⟨F.len, fun B up z H ar us vs Q E _ r => F.run B up z H ar us vs Q E r⟩
theorem FnG.lift {j k : Nat} (F : FnG P w K mg base CX j f fd ps sp) (h : j ≤ k) : FnG P w K mg base CX k f fd ps sp :=
  ⟨F.len, fun B up z H ar us vs Q E g r => F.run B up z H ar us vs Q E g (r.mono h)⟩
end
theorem deeper_guards {B : Around} {env : Env} (h : B.guards = some []) : (B.deeper env).guards = some [] := by
  first
    | exact h
    | (simpa [Around.deeper, Around.under, Code.guards, Code.isGuard, pushGuards] using h)
theorem in1_guards {B : Around} (h : B.guards = some []) : B.in1.guards = some [] := by
  first
    | exact h
    | (simpa [Around.in1] using h)
theorem make_guards {B : Around} {C : Addr} {us : List Value} {kw : List (Str × Value)} (h : B.guards = some []) : (B.under (.builtin "type.__call__" ⟨.ref C :: us, kw⟩)).guards = some [] := by
  first
    | exact h
    | (simpa [Around.under, Code.guards, Code.isGuard, pushGuards, guardIds] using h)

section
variable {P : Program} {w : World} {K : PySem.W.Frag} {mg : Str → Option Value} {base : Heap} {CX : CXT}
/-- the rule for a def -/
theorem fnG_of {k : Nat} {f : Addr} {nm ql : Str} {pa : Arguments} {bd : List Stmt} {sc : Scope} {dV kV doc pm cdv ct oc : Value} {an od : Option Addr} {osl : Array (Option Value)} {N ps : List Str} {sp : Sp}
    (lk : K.lookup f = some ⟨oc, od, .func (PySem.W.fnOf nm ql pa bd sc dV kV doc pm an cdv ct), osl⟩) (cd : PySem.W.codeIn K cdv ql = true) (S : FnScope N ps sc) (ln : ∀ vs H Q E, sp vs H Q E → vs.length = ps.length)
    (bo : ∀ (B : Around) (up : List Env) (z : Shared) (H : Hp) (vs : List V) (Q : VK) (E : XK), (B.deeper (envOfC ql sc z.heap.objs.size f cdv)).guards = some [] → Room k (B.deeper (envOfC ql sc z.heap.objs.size f cdv)) → sp vs H Q E →
      ∃ t, PSs (cxOf CX P w K mg base N ql sc f cdv B up z H E) bd t ∧ t { nx := fun _ G => Q .non G, rt := Q } (start N vs) H) :
    FnG P w K mg base CX (k + 1) f (PySem.W.fnOf nm ql pa bd sc dV kV doc pm an cdv ct) ps sp := by
  constructor
  · exact ln
  intro B up z H ar us vs Q E gd rm e0 bt rv hs
  have len := ln vs H Q E hs
  have there : ∀ b o, base.get? b = some o → z.heap.get? b = some o := fun b o e => (e0.bs b o e).1
  have inK : K.In z.heap := e0.mod.kin.keeps there
  have nolim : z.heap.NoLimit := e0.mod.nolimit.keeps there
  have kinds : ∀ y ∈ ps.zip us, sc.names.lookup y.1 = some .local ∨ (sc.names.lookup y.1 = some .cell ∧ ((cellsFrom (z.heap.objs.size + 1) sc.names []).lookup y.1).isSome = true) := by
    rintro ⟨n, v⟩ hy
    have hn : n ∈ ps := (List.of_mem_zip hy).1
    exact (S.par n hn).imp id fun q => ⟨q, PySem.W.cellsFrom_some _ _ _ (.inl q)⟩
  refine codeAny_call_function rm.depth (inK _ _ lk) rfl S.co S.gen rfl (PySem.W.codeRec_of inK cd) (bt _ _ _ _ ?_)
  refine wpAny_newFunctionEnv_cells S.kind kinds ?_
  rintro env rfl z1 ic
  refine ⟨nolim.keeps ic.toInCall.keep, codeAny_func ?_⟩
  obtain ⟨t, pt, ht⟩ := bo B up z H vs Q E (deeper_guards gd) (rm.deeper _) hs
  have I0 : Inv (cxOf CX P w K mg base N ql sc f cdv B up z H E) [] (start N vs) H z1 := inv_start S rm.hd e0 len rv ic
  refine wpAny_mono (pt.run [] z1 (start N vs) H _ I0 ht) ?_ (fun e z2 q => q)
  rintro fl z2 q
  cases fl with
  | next =>
    obtain ⟨τ, G, J, q⟩ := q
    exact ⟨V.non, G, J.os, J.bare, J.base, J.hok, rfl, q⟩
  | ret u =>
    obtain ⟨v, τ, G, J, rv', q⟩ := q
    exact ⟨v, G, J.os, J.bare, J.base, J.hok, rv', q⟩
  | brk => exact q.choose_spec.choose_spec.2.elim
  | cont => exact q.choose_spec.choose_spec.2.elim
theorem okG {x ql : Str} {st : Stmt} {f : Addr} {fd : FuncData} {N ps : List Str} {k : Nat} {sp : Sp} (F : Fun K x ql st f fd) (S : FnScope N ps (defScope st)) (ln : ∀ vs H Q E, sp vs H Q E → vs.length = ps.length)
    (bo : ∀ (cdv : Value) (B : Around) (up : List Env) (z : Shared) (H : Hp) (vs : List V) (Q : VK) (E : XK), (B.deeper (envOfC ql (defScope st) z.heap.objs.size f cdv)).guards = some [] → Room k (B.deeper (envOfC ql (defScope st) z.heap.objs.size f cdv)) → sp vs H Q E →
      ∃ t, PSs (cxOf CX0 P w K mg base N ql (defScope st) f cdv B up z H E).nox (defBody st) t ∧ t { nx := fun _ G => Q .non G, rt := Q } (start N vs) H) : FnG P w K mg base CX0 (k + 1) f fd ps sp := by
  obtain ⟨oc, od, kV, doc, pm, an, cdv, ct, osl, rfl, lk, cd⟩ := F.ex
  refine fnG_of lk cd S ln ?_
  intro B up z H vs Q E gd rm hs
  obtain ⟨t, h, q⟩ := bo cdv B up z H vs Q E gd rm hs
  exact ⟨t, h.nox, q⟩
end

/-! ## calls: the value called, values by place and by name -/
/-- called with the values xs by place and ys by the names ks -/
def CallV (X : Cx) (fv : Value) (ks : List Str) (r : List V → List V → Hp → VK → Prop) : Prop :=
  ∀ (pins : List (Addr × Obj)) (s : Shared) (σ : L2.St) (H : Hp) (xs ys : List V) (us ws : List Value) (Q : VK), Inv X pins σ H s → Vals xs us → Vals ys ws → r xs ys H Q →
    wpAny (model X.prog X.w) X.A (call fv us (ks.zip ws)) (EP X pins σ Q) X.xe s
section
variable {X : Cx} {CX : CXT} {k n : Nat} {f C : Addr} {fd : FuncData} {ps ks : List Str} {sp : Sp} {E : XK} {g : List Value → List Value → List Value} {gV : List V → List V → List V}
def rFn (n m : Nat) (gV : List V → List V → List V) (sp : Sp) (E : XK) : List V → List V → Hp → VK → Prop := fun xs ys H Q => xs.length = n ∧ ys.length = m ∧ sp (gV xs ys) H Q E
theorem callV_fn (F : FnG X.prog X.w X.K X.mg X.base CX k f fd ps sp) (hb : KBn X.K fd ps n ks g gV) (hx : Passes CX X E) (hG : X.A.guards = some []) (hr : Room k X.A) : CallV X (.ref f) ks (rFn n ks.length gV sp E) := by
  rintro pins s σ H xs ys us ws Q I rx ry ⟨l1, l2, h⟩
  have e1 : us.length = n := rx.length ▸ l1
  have e2 : ws.length = ks.length := ry.length ▸ l2
  refine wpAny_call (codeAny_mono (F.run X.A X.stack s H ⟨us, ks.zip ws⟩ (g us ws) (gV xs ys) Q E hG hr I.env0 (hb.to s us ws I.kIn e1 e2) (hb.rel rx ry) h) ?_)
  intro res s' hq
  match res, hq with
  | .error e, hq => exact hx pins σ H s e s' I hq
  | .ok (.ret u), hq => exact I.after hq
def rMk (C : Addr) (n m : Nat) (gV : List V → List V → List V) (sp : Sp) (E : XK) : List V → List V → Hp → VK → Prop := fun xs ys H Q => xs.length = n ∧ ys.length = m ∧
  ∀ x dx, H x = none → H dx = none → dx ≠ x → sp (gV (.ref x :: xs) ys) (upd (upd H dx (.own x)) x (.ins C dx [])) (fun v G => v = .non ∧ Q (.ref x) G) E
theorem callV_mk (M : Mk X.K C f) (F : FnG X.prog X.w X.K X.mg X.base CX k f fd ps sp) (hb : KBn X.K fd ps (n + 1) ks g gV) (hx : Passes CX X E) (hG : X.A.guards = some []) (hr : Room (k + 1) X.A) : CallV X (.ref C) ks (rMk C n ks.length gV sp E) := by
  rintro pins s σ H xs ys us ws Q I rx ry ⟨l1, l2, h⟩
  have e1 : (Value.ref (s.heap.objs.size + 1) :: us).length = n + 1 := by
    rw [List.length_cons, ← rx.length, l1]
  have e2 : ws.length = ks.length := ry.length ▸ l2
  have hs := h (s.heap.objs.size + 1) s.heap.objs.size (I.hok.fresh (Nat.le_succ _)) (I.hok.fresh (Nat.le_refl _)) (Nat.ne_of_lt (Nat.lt_succ_self _))
  have J := Inv.made (C := C) I
  have rx' : Vals (V.ref (s.heap.objs.size + 1) :: xs) (Value.ref (s.heap.objs.size + 1) :: us) := .cons rfl rx
  refine wpAny_call (make_map (f := f) I.kIn M.makes M.init (beq_iff_eq.mp M.fn) (codeAny_mono (F.run _ X.stack _ _ ⟨Value.ref (s.heap.objs.size + 1) :: us, ks.zip ws⟩ _ _ _ E (make_guards hG) (hr.make C us (ks.zip ws))
    (J.env0.make C us (ks.zip ws)) (hb.to _ _ ws J.kIn e1 e2) (hb.rel rx' ry) hs) ?_))
  intro res s' hq
  match res, hq with
  | .error e, hq => exact hx pins σ _ _ e s' J hq
  | .ok (.ret u), hq =>
    obtain ⟨v, G, I', rv, ev, q⟩ := J.after hq
    subst ev
    exact ⟨rv, ⟨V.ref (s.heap.objs.size + 1), G, I', rfl, q⟩⟩
end
/-- the reading of a call -/
def tCl (r : List V → List V → Hp → VK → Prop) (t tk : TA) : TE := fun σ H Q => t σ H fun xs H1 => tk σ H1 fun ys H2 => r xs ys H2 Q
section
variable {X : Cx} {ks : List Str} {fv : Value} {r : List V → List V → Hp → VK → Prop} {x m : Str} {p pos apos : Pos} {e o : Expr} {es : List Expr} {kws : List Keyword} {ta : TE} {t tk : TA}
/-- f(e, ..) -/
theorem pn_pos (c : CallV X fv [] r) (hg : Gl X x) (hm : X.mg x = some fv) (hk : PySem.W.keepIn X.K fv = true) (ha : PA X (e :: es) t) (hd : (x == ("__debug__" : Str)) = false := by decide)
    (he : starEach (e :: es) X.env = (false, eval e X.env) :: starEach es X.env := by rfl) (hp : (backTo pos (starEach es X.env)).any (·.1) = false := by rfl) : PE X (.Call (.Name x p) (e :: es) [] pos) (tCl r t tNil) := by
  constructor
  intro pins s σ H Q I h
  exact wpAny_Call_Name_kw (ld_glob I hg hm (PySem.W.callWith_K (h₀ := X.base) I.ok.mod.kin hk (thn (ha.run pos pins s σ H _ I h) fun us s1 ⟨xs, H1, I1, rx, q⟩ => ⟨I1.kIn, c pins s1 σ H1 xs [] us [] Q I1 rx .nil q⟩) he hp) hd)
/-- f() -/
theorem pn_none (c : CallV X fv [] r) (hg : Gl X x) (hm : X.mg x = some fv) (hk : PySem.W.keepIn X.K fv = true) (hd : (x == ("__debug__" : Str)) = false := by decide) : PE X (.Call (.Name x p) [] [] pos) (tCl r tNil tNil) := by
  constructor
  intro pins s σ H Q I h
  exact wpAny_Call_Name_kw (ld_glob I hg hm (PySem.W.callWith_K0 I.kIn hk (c pins s σ H [] [] [] [] Q I .nil .nil h)) hd)
/-- f(e, .., k = v, ..) -/
theorem pn_kw (c : CallV X fv ks r) (hg : Gl X x) (hm : X.mg x = some fv) (hk : PySem.W.keepIn X.K fv = true) (ha : PA X (e :: es) t) (hkw : PK X kws tk) (hall : (backToKw pos (keywordEach kws X.env)).all (·.1.isSome) = true := by rfl)
    (hks : (backToKw pos (keywordEach kws X.env)).filterMap (·.1) = ks := by rfl) (hd : (x == ("__debug__" : Str)) = false := by decide) (he : starEach (e :: es) X.env = (false, eval e X.env) :: starEach es X.env := by rfl)
    (hp : ((backTo pos (starEach (e :: es) X.env)).any (·.1) || (backToKw pos (keywordEach kws X.env)).any (·.1.isNone)) = false := by rfl) : PE X (.Call (.Name x p) (e :: es) kws pos) (tCl r t tk) := by
  constructor
  intro pins s σ H Q I h
  subst hks
  exact wpAny_Call_Name_kw (ld_glob I hg hm (PySem.W.callWith_KW (h₀ := X.base) I.ok.mod.kin hk hall (thn (ha.run pos pins s σ H _ I h) fun us s1 ⟨xs, H1, I1, rx, q⟩ =>
    thn (hkw.run pos pins s1 σ H1 _ I1 q) fun ws s2 ⟨ys, H2, I2, ry, q2⟩ => ⟨I2.kIn, c pins s2 σ H2 xs ys us ws Q I2 rx ry q2⟩) hp he) hd)
/-- f(k = v, ..) -/
theorem pn_kw0 (c : CallV X fv ks r) (hg : Gl X x) (hm : X.mg x = some fv) (hk : PySem.W.keepIn X.K fv = true) (hkw : PK X kws tk) (hall : (backToKw pos (keywordEach kws X.env)).all (·.1.isSome) = true := by rfl)
    (hks : (backToKw pos (keywordEach kws X.env)).filterMap (·.1) = ks := by rfl) (hd : (x == ("__debug__" : Str)) = false := by decide)
    (hp : ((backTo pos (starEach [] X.env)).any (·.1) || (backToKw pos (keywordEach kws X.env)).any (·.1.isNone)) = false := by rfl) : PE X (.Call (.Name x p) [] kws pos) (tCl r tNil tk) := by
  constructor
  intro pins s σ H Q I h
  subst hks
  exact wpAny_Call_Name_kw (ld_glob I hg hm (PySem.W.callWith_KW0 (h₀ := X.base) I.ok.mod.kin hk hall (thn (hkw.run pos pins s σ H _ I h) fun ws s2 ⟨ys, H2, I2, ry, q2⟩ => ⟨I2.kIn, c pins s2 σ H2 [] ys [] ws Q I2 .nil ry q2⟩) hp) hd)
/-- o.m(..): o is an instance of the class at C -/
def tMt (C : Addr) (m : Str) (r : List V → List V → Hp → VK → Prop) (ta : TE) (t tk : TA) : TE := fun σ H Q => ta σ H fun x H1 => ∃ a dx fs, x = .ref a ∧ H1 a = some (.ins C dx fs) ∧ List.lookup m fs = none ∧
  t σ H1 fun xs H2 => tk σ H2 fun ys H3 => r (.ref a :: xs) ys H3 Q
variable {C f : Addr} {pl : Sem Bool}
theorem pm_pos (c : CallV X (.ref f) [] r) (hc : Cls X.K C) (hm : Meth X.K C m f) (ho : PE X o ta) (ha : PA X (e :: es) t) (he : starEach (e :: es) X.env = (false, eval e X.env) :: starEach es X.env := by rfl) (hp : (backTo pos (starEach es X.env)).any (·.1) = false := by rfl)
    (ht : eval (.Call (.Attribute o m apos) (e :: es) [] pos) X.env = (do
      let ov ← eval o X.env
      standAt apos.atName
      let (f, first) ← holding [ov] (getMethod ov m pl)
      callWith pos f first (backTo pos (starEach (e :: es) X.env)) (backToKw pos (keywordEach [] X.env))) := by rfl) : PE X (.Call (.Attribute o m apos) (e :: es) [] pos) (tMt C m r ta t tNil) := by
  constructor
  intro pins s σ H Q I h
  refine PySem.W.methodCall_KW (pl := pl) (thn (ho.run pins s σ H _ I h) ?_) ht
  rintro u s1 ⟨y, H1, I1, ry, a, dx, fs, rfl, ea, l, q⟩
  obtain rfl : u = Value.ref a := ry
  exact getmeth_ok I1 ea hc hm l (PySem.W.callWith_K (first := [.ref a]) (h₀ := X.base) I.ok.mod.kin hm.kp (thn (ha.run pos pins s1 σ H1 _ I1 q) fun us s2 ⟨xs, H2, I2, rx, q2⟩ => ⟨I2.kIn, c pins s2 σ H2 _ [] (.ref a :: us) [] Q I2 (.cons (show RelV (V.ref a) (Value.ref a) from rfl) rx) .nil q2⟩) he hp)
theorem pm_none (c : CallV X (.ref f) [] r) (hc : Cls X.K C) (hm : Meth X.K C m f) (ho : PE X o ta)
    (ht : eval (.Call (.Attribute o m apos) [] [] pos) X.env = (do
      let ov ← eval o X.env
      standAt apos.atName
      let (f, first) ← holding [ov] (getMethod ov m pl)
      callWith pos f first (backTo pos (starEach [] X.env)) (backToKw pos (keywordEach [] X.env))) := by rfl) : PE X (.Call (.Attribute o m apos) [] [] pos) (tMt C m r ta tNil tNil) := by
  constructor
  intro pins s σ H Q I h
  refine PySem.W.methodCall_KW (pl := pl) (thn (ho.run pins s σ H _ I h) ?_) ht
  rintro u s1 ⟨y, H1, I1, ry, a, dx, fs, rfl, ea, l, q⟩
  obtain rfl : u = Value.ref a := ry
  exact getmeth_ok I1 ea hc hm l (PySem.W.callWith_K0 (first := [.ref a]) I1.kIn hm.kp (c pins s1 σ H1 _ [] [.ref a] [] Q I1 (.cons (show RelV (V.ref a) (Value.ref a) from rfl) .nil) .nil q))
theorem pm_kw0 (c : CallV X (.ref f) ks r) (hc : Cls X.K C) (hm : Meth X.K C m f) (ho : PE X o ta) (hkw : PK X kws tk) (hall : (backToKw pos (keywordEach kws X.env)).all (·.1.isSome) = true := by rfl)
    (hks : (backToKw pos (keywordEach kws X.env)).filterMap (·.1) = ks := by rfl)
    (hp : ((backTo pos (starEach [] X.env)).any (·.1) || (backToKw pos (keywordEach kws X.env)).any (·.1.isNone)) = false := by rfl)
    (ht : eval (.Call (.Attribute o m apos) [] kws pos) X.env = (do
      let ov ← eval o X.env
      standAt apos.atName
      let (f, first) ← holding [ov] (getMethod ov m pl)
      callWith pos f first (backTo pos (starEach [] X.env)) (backToKw pos (keywordEach kws X.env))) := by rfl) : PE X (.Call (.Attribute o m apos) [] kws pos) (tMt C m r ta tNil tk) := by
  constructor
  intro pins s σ H Q I h
  subst hks
  refine PySem.W.methodCall_KW (pl := pl) (thn (ho.run pins s σ H _ I h) ?_) ht
  rintro u s1 ⟨y, H1, I1, ry, a, dx, fs, rfl, ea, l, q⟩
  obtain rfl : u = Value.ref a := ry
  exact getmeth_ok I1 ea hc hm l (PySem.W.callWith_KW0 (first := [.ref a]) (h₀ := X.base) I.ok.mod.kin hm.kp hall (thn (hkw.run pos pins s1 σ H1 _ I1 q) fun ws s2 ⟨ys, H2, I2, ry', q2⟩ => ⟨I2.kIn, c pins s2 σ H2 _ ys [.ref a] ws Q I2 (.cons (show RelV (V.ref a) (Value.ref a) from rfl) .nil) ry' q2⟩) hp)
end
end Eld
set_option Elab.async false
set_option maxRecDepth 100000
set_option maxHeartbeats 4000000
set_option linter.all false
namespace Eld
open PySem PySem.Spec PyProof.Rows L2
section
variable {P : Program} {w : World} {K : PySem.W.Frag} {mg mb : Str → Option Value} {CX : CXT} {k : Nat} {fa a : Addr} {fd : FuncData} {x : Str} {sp : Sp} {z : Shared} {vs : List Value} {ns : List Int}
/-- what is wanted of a law's call -/
def LawR (z : Shared) (r : Result) (z' : Shared) : Prop := r = .ok (.ret (.bool true)) ∧ OldK z.heap z'.heap ∧ z'.os = z.os ∧ AllBare z'.gens
/-- from an abstract heap G in which at most the script is told -/
theorem law_fromG (G : Hp) (only : Only G) (here : ∀ b, G b ≠ none → b = a) (notK : G a ≠ none → K.lookup a = none) (seen : SqL K G a (ns.map V.int)) (ok : HOk P w G z.heap)
    (inK : K.In z.heap) (gl : z.heap.Ns mainGlobals mg) (bn : z.heap.Ns builtinsNs mb) (bb : ∀ y : Str, y ≠ "__name__" → mb y = bootBuiltins y) (nolim : z.heap.NoLimit) (gens : z.gens = #[])
    (ha : z.heap.get? a = some { cls := .type "list", data := .seq vs.toArray }) (rm : Room k callerA) (F : ∀ base : Heap, K.In base → base.Ns mainGlobals mg → FnG P w K mg base CX k fa fd [x] sp)
    (bt : ∀ (s : Shared) (u : Value), BindsTo s fd ⟨[u], []⟩ [(x, u)]) (want : sp [.ref a] G (fun v _ => v = .bl true) fun _ _ _ => False) (noErr : ∀ e z', CX [] G z (fun _ _ _ => False) e z' → False) :
    codeAny (model P w) callerA (.call (.ref fa) ⟨[.ref a], []⟩) (LawR z) z := by
  have out : ∀ {b : Addr} {o : Obj}, z.heap.get? b = some o → b ≠ a → G b = none := fun {b o} _ ne => by
    cases q : G b with
    | none => rfl
    | some u => exact absurd (here b (by rw [q]; exact Option.some_ne_none u)) ne
  have off : ∀ {b : Addr} {m : Str → Option Value}, z.heap.Ns b m → (hidT z.heap G).Ns b m := by
    rintro b m ⟨o, es, ep, e, d, r⟩
    have ne : b ≠ a := by
      rintro rfl
      have e' := ha.symm.trans e
      cases e'
      cases d
    exact ⟨o, es, ep, hidT_get e (out e ne), d, r⟩
  have kb : K.In (hidT z.heap G) := by
    intro b o e
    have e1 := inK b o e
    refine hidT_get e1 ?_
    by_cases q : G b = none
    · exact q
    · have eb := here b q
      subst eb
      rw [notK q] at e
      cases e
  obtain ⟨mc, l1, l2⟩ := nolim
  have md : Mod K mg (hidT z.heap G) := ⟨kb, off gl, ⟨mb, off bn, bb⟩, ⟨mc, off l1, l2⟩⟩
  have env : Env0 P w K mg (hidT z.heap G) callerA [] z G :=
    { frames := rfl, mod := md, bs := fun b o e => of_hidT e, bsz := Nat.le_of_eq (hidT_size _ _), funs := trivial, frf := fun b hb => (List.not_mem_nil hb).elim, hok := ok, bare := .of_eq gens }
  refine codeAny_mono ((F _ kb (off gl)).run callerA [] z G ⟨[.ref a], []⟩ [.ref a] [.ref a] _ _ rfl rm env (bt z (.ref a)) (.cons rfl .nil) want) ?_
  intro r z' q
  match r, q with
  | .error e, q => exact (noErr e z' q).elim
  | .ok (.ret u), ⟨v, G', os, bare, un, ok', rv, q⟩ =>
    cases (show v = .bl true from q)
    cases (show u = Value.bool true from rv)
    refine ⟨rfl, OldK.of_keep ?_, os, bare⟩
    intro b o e
    rcases only b with n | ⟨ob, xs, n⟩
    · exact un.keep b o e n (fun h => (List.not_mem_nil h).elim) (fun h => (List.not_mem_nil h).elim)
    · have e1 := (ok b _ n).1
      have e2 := (ok' b _ (un.frzs b ob _ n)).1
      exact e2.trans (e1.symm.trans e)
theorem law_callG (inK : K.In z.heap) (gl : z.heap.Ns mainGlobals mg) (bn : z.heap.Ns builtinsNs mb) (bb : ∀ y : Str, y ≠ "__name__" → mb y = bootBuiltins y) (nolim : z.heap.NoLimit) (gens : z.gens = #[])
    (ha : z.heap.get? a = some { cls := .type "list", data := .seq vs.toArray }) (hi : IntsAre vs ns) (hl : ns.length ≤ sizeLine) (rm : Room k callerA)
    (F : ∀ base : Heap, K.In base → base.Ns mainGlobals mg → FnG P w K mg base CX k fa fd [x] sp) (bt : ∀ (s : Shared) (u : Value), BindsTo s fd ⟨[u], []⟩ [(x, u)])
    (want : ∀ G : Hp, Only G → SqL K G a (ns.map V.int) → sp [.ref a] G (fun v _ => v = .bl true) fun _ _ _ => False) (noErr : ∀ G e z', CX [] G z (fun _ _ _ => False) e z' → False) :
    codeAny (model P w) callerA (.call (.ref fa) ⟨[.ref a], []⟩) (LawR z) z := by
  have rv := vals_ints hi
  have small : (ns.map V.int).length ≤ sizeLine := by rw [List.length_map]; exact hl
  cases hk : K.lookup a with
  | none =>
    let ob : Obj := { cls := .type "list", data := .seq vs.toArray }
    let G : Hp := fun b => if b = a then some (.frz ob (.lst (ns.map V.int))) else none
    have ga : G a = some (.frz ob (.lst (ns.map V.int))) := if_pos rfl
    have gn : ∀ b, b ≠ a → G b = none := fun b h => if_neg h
    have only : Only G := fun b => (Classical.em (b = a)).elim (fun h => .inr ⟨ob, _, h ▸ ga⟩) fun h => .inl (gn b h)
    have seen : SqL K G a (ns.map V.int) := .inl (.inr ⟨ob, ga⟩)
    refine law_fromG G only (fun b h => Classical.byContradiction fun n => h (gn b n)) (fun _ => hk) seen ?_ inK gl bn bb nolim gens ha rm F bt (want G only seen) (noErr G)
    intro b u e
    by_cases h : b = a
    · subst h
      rw [ga] at e
      cases e
      exact ⟨ha, small, vs, _, rv, ha⟩
    · rw [gn b h] at e
      cases e
  | some o =>
    have e := inK a o hk
    rw [ha] at e
    cases e
    have seen : SqL K (fun _ => none) a (ns.map V.int) := .inr ⟨_, vs.toArray, _, hk, rfl, rfl, rfl, by rw [List.size_toArray, hi.length]; exact hl, by simpa using rv⟩
    exact law_fromG (fun _ => none) (fun _ => .inl rfl) (fun _ h => absurd rfl h) (fun h => absurd rfl h) seen (fun _ _ e => by cases e) inK gl bn bb nolim gens ha rm F bt (want _ (fun _ => .inl rfl) seen) (noErr _)
end
/-- the goal that the head leaves -/
theorem walk_G {l : PySem.W.OpenLaw} {n k : Nat} {q : Program} {loose : List Str} {XP : (Str → Option Value) → Heap → Prop} {YP : World → Heap → Prop} {d : DefRec} {K : Params → PySem.W.Frag} {sp : PySem.W.Frag → Sp} {x : Str}
    (hn : l.most = some n) (n2 : n ≤ sizeLine) (hd : d.params.defaults = []) (rm : Room k callerA) (hY : ∀ (w : World) (h : Heap), YP w h → (K w.params).In h)
    (F : ∀ (w : World) (mg : Str → Option Value) (fa : Addr) (h : Heap), (K w.params).In h → h.Ns mainGlobals mg → mg d.name = some (.ref fa) →
      ∃ fd : FuncData, (∀ (s : Shared) (u : Value), BindsTo s fd ⟨[u], []⟩ [(x, u)]) ∧ ∀ base : Heap, (K w.params).In base → base.Ns mainGlobals mg → FnG l.prog w (K w.params) mg base CX0 k fa fd [x] (sp (K w.params)))
    (want : ∀ (w : World) (G : Hp) (a : Addr) (ns : List Int), ns.length ≤ n → SqL (K w.params) G a (ns.map V.int) → sp (K w.params) [.ref a] G (fun v _ => v = .bl true) fun _ _ _ => False) :
    PySem.W.WalkO q loose XP YP l.row.toRowW d [] (fun f vs => PySem.call f vs) := by
  refine Att.attach_call hn hd ?_
  intro w s₀ s₁ mg mb fa o pm cd doc a vs ns G Y ho hdt hcd hmg hobj hints hlen hg
  obtain ⟨fd, hb, hF⟩ := F w mg fa _ (hY w _ Y) G.T.g hmg
  exact law_callG (CX := CX0) (hY w _ Y) G.T.g G.T.b G.T.builtins G.T.nolimit hg hobj hints (Nat.le_trans hlen n2) rm hF hb (fun G _ h => want w G a ns hlen h) fun _ _ _ h => h.elim
end Eld
set_option Elab.async false
set_option maxRecDepth 100000
set_option maxHeartbeats 4000000
set_option linter.all false
namespace Eld
open PySem PySem.Spec PyProof.Rows L2
section
variable {X : Cx}
/-! ### repr of lists and tuples of data -/
def rReprD (K : PySem.W.Frag) : List V → Hp → VK → Prop := fun xs H Q => ∃ a d, xs = [.ref a] ∧ Dp K H (.ref a) d ∧ d.showable = true ∧ d.hasDict = false ∧ d.depth ≤ 60 ∧ d.shown.length ≤ sizeLine ∧ Q (.str d.shown) H
theorem call_reprD (hG : X.A.guards = some []) (hu : X.A.units + 64 < cLine) : CallR X (.builtin "repr") (rReprD X.K) := by
  rintro pins s σ H xs us Q I r ⟨a, d, rfl, dp, sh, nd, dd, sz, q⟩
  obtain ⟨u, rfl, ru⟩ := vals1 r
  obtain ⟨as, rd⟩ := Dp.reads I d _ u dp ru
  cases ru
  exact repr_of_reads' rd sh (PyData.noDict_hsm nd) hG (by omega) (fun _ _ e => e) (fun h' u tk hk => ⟨.str d.shown, H, I.kept hk, ⟨_, rfl⟩, q⟩) sz
/-! ### t.index(x), t a tuple of data -/
def rTupIx (K : PySem.W.Frag) : V → List V → Hp → VK → Prop := fun x xs H Q => ∃ (a : Addr) (y : V) (d z : PyData) (ds : List PyData) (j : Nat), x = .ref a ∧ xs = [y] ∧ Dp K H (.ref a) (.tuple ds) ∧ Dp K H y d ∧
  SeqAt.shaped (.tuple ds) = true ∧ SeqAt.shaped d = true ∧ ds[j]? = some z ∧ PyData.eqv z d = true ∧ (∀ (m : Nat) (z' : PyData), m < j → ds[m]? = some z' → PyData.eqv z' d = false) ∧ Q (.int (j : Nat)) H
theorem mt_tupIx (hu : X.A.units + 65 < cLine) : MtR X "tuple.index" (rTupIx X.K) := by
  rintro pins s σ H x xs v us Q I rx rxs ⟨a, y, d, z, ds, j, rfl, rfl, hl, hy, sl, sd, hz, hit, hno, q⟩
  cases rx
  obtain ⟨uy, rfl, ry⟩ := vals1 rxs
  obtain ⟨bs, r1⟩ := Dp.reads I d y uy hy ry
  have lay : PyData.canLayAll0 ds = true := by
    have := SeqAt.canLay_of_shaped sl
    simpa only [PyData.canLay0] using this
  have room : X.A.units + 1 + min (PyData.depthAll ds) d.depth < cLine := by
    have h1 : d.depth ≤ 64 := by
      have h := sd
      simp only [SeqAt.shaped, Bool.and_eq_true, decide_eq_true_eq] at h
      exact h.2
    have h2 : min (PyData.depthAll ds) d.depth ≤ d.depth := Nat.min_le_right _ _
    omega
  cases hl with
  | tup hs ha =>
    obtain ⟨its, rv, ⟨⟨cls, dd, data, sls⟩, ho, hc, n, hdt⟩, hlen⟩ := I.tuple hs
    simp only at hc hdt
    subst hc hdt
    obtain ⟨as, h4⟩ := Dp.readsAll I ds _ its ha rv
    have hn : its.length = ds.length := SeqAt.ReadsAll.length ds its as h4
    have hmap : its.map (SeqAt.readOf s.heap) = ds := SeqAt.readsAll_map ds its as lay h4
    have hjd : j < ds.length := (List.getElem?_eq_some_iff.mp hz).1
    have at_ : ∀ (m : Nat) (hm : m < its.toArray.size) (z' : PyData), ds[m]? = some z' → SeqAt.readOf s.heap its.toArray[m] = z' := by
      intro m hm z' hz'
      have hml : m < its.length := by simpa using hm
      rw [← hmap, List.getElem?_map, List.getElem?_eq_getElem hml] at hz'
      simpa using hz'
    refine call_meets F.slot_tuple_index ⟨_, ho, rfl⟩ F.entry_tuple_index (F.args_tuple_index_2 _ _)
      (SeqAt.tuple_index2_found a its.toArray n dd sls uy (fun m => if hm : m < its.toArray.size then PyData.eqv (SeqAt.readOf s.heap its.toArray[m]) d else false) j (by simpa [hn] using hjd) (Nat.zero_le _) (by simpa [hn] using hjd) ?_ ?_) ⟨ho, fun m hm => ?_, ?_⟩
    · have hj' : j < its.toArray.size := by simpa [hn] using hjd
      rw [dif_pos hj', at_ j hj' z hz]
      exact hit
    · intro m hm _ hmj
      have hmd : m < ds.length := Nat.lt_trans hmj hjd
      rw [dif_pos hm, at_ m hm _ (List.getElem?_eq_getElem hmd)]
      exact hno m _ hmj (List.getElem?_eq_getElem hmd)
    · rw [dif_pos hm]
      exact SeqAt.items_eqAt (vs := its.toArray) (show ReadsAll s.heap its.toArray.toList ds as from h4) r1 lay (SeqAt.canLay_of_shaped sd) room _ (Array.getElem_mem hm)
    · exact ⟨.int (j : Nat), H, I.tok _, ⟨_, rfl⟩, q⟩
end
/-! ### ==, != and len of an own class -/
section
variable {X : Cx} {CX : CXT} {k : Nat} {f C : Addr} {fd : FuncData} {ps : List Str} {sp : Sp} {E : XK}
def rOwnC (K : PySem.W.Frag) (C : Addr) (sp : Sp) (E : XK) : R2 := fun x y H Q => ∃ a dx fs t, x = .ref a ∧ H a = some (.ins C dx fs) ∧ TyX K H y t ∧ PySem.W.notFirst K C t = true ∧ sp [x, y] H Q E
theorem run_own {B : Around} {pins : List (Addr × Obj)} {s : Shared} {σ : L2.St} {H : Hp} {a : Addr} {y : V} {u : Value} {Q : VK} (F : FnG X.prog X.w X.K X.mg X.base CX k f fd ps sp) (hb : Binds X.K fd ps []) (hx : Passes CX X E)
    (hf : B.frames = X.A.frames) (hG : B.guards = some []) (hr : Room k B) (I : Inv X pins σ H s) (ry : RelV y u) (h : sp [.ref a, y] H Q E) : wpAny (model X.prog X.w) B (call (.ref f) [.ref a, u]) (EP X pins σ Q) X.xe s := by
  have e0 := I.env0
  have e1 : Env0 X.prog X.w X.K X.mg X.base B X.stack s H := ⟨hf.trans e0.frames, e0.mod, e0.bs, e0.bsz, e0.funs, e0.frf, e0.hok, e0.bare⟩
  have rv : Vals [V.ref a, y] [Value.ref a, u] := .cons rfl (.cons ry .nil)
  have ln : ([Value.ref a, u] ++ ([] : List Value)).length = ps.length := F.len _ _ _ _ h
  refine wpAny_call (codeAny_mono (F.run B X.stack s H ⟨[.ref a, u], []⟩ ([.ref a, u] ++ []) [.ref a, y] Q E hG hr e1 (hb s [.ref a, u] I.kIn ln) rv h) ?_)
  intro res s' hq
  match res, hq with
  | .error e, hq => exact hx pins σ H s e s' I hq
  | .ok (.ret w), hq => exact I.after hq
theorem op_ownEq (F : FnG X.prog X.w X.K X.mg X.base CX k f fd ps sp) (hb : Binds X.K fd ps []) (hx : Passes CX X E) (hs : PySem.W.findIn X.K (.ref C) "__eq__" = some (some (.ref f))) (hf : PySem.W.isFn X.K (.ref f) = true)
    (hG : X.A.guards = some []) (hr : Room k X.A) : OpR X (compareOp .Eq) (rOwnC X.K C sp E) := by
  rintro pins s σ H x y v u Q I rx ry ⟨a, dx, fs, t, rfl, ea, ty, nf, h⟩
  cases rx
  obtain ⟨mA, J, _⟩ := ins_get I.hok ea
  obtain ⟨od, J, _⟩ := J.look
  obtain ⟨G, Z, p, _⟩ := kit_of I ry ty
  obtain ⟨m, hF⟩ := I.fr
  show wpAny (model X.prog X.w) X.A (richCompare .Eq (.ref a) u) (EP X pins σ Q) X.xe s
  refine PySem.W.cmp_K (op := .Eq) hr.units0 hF I.ok.mod.kin J (Z.ty _ _ I.kIn p) nf hs hf (thn (run_own F hb hx rfl hG hr I ry h) ?_)
  rintro w s' ⟨z, H', I', rz, q⟩
  cases z with
  | non => cases rz; exact ⟨.non, H', I', rfl, q⟩
  | bl b => cases rz; exact ⟨.bl b, H', I', rfl, q⟩
  | int i => obtain ⟨t, rfl⟩ := rz; exact ⟨.int i, H', I', ⟨t, rfl⟩, q⟩
  | str i => obtain ⟨t, rfl⟩ := rz; exact ⟨.str i, H', I', ⟨t, rfl⟩, q⟩
  | byt i => obtain ⟨t, rfl⟩ := rz; exact ⟨.byt i, H', I', ⟨t, rfl⟩, q⟩
  | flt i => obtain ⟨t, rfl⟩ := rz; exact ⟨.flt i, H', I', ⟨t, rfl⟩, q⟩
  | ref i => cases rz; exact ⟨.ref i, H', I', rfl, q⟩
  | ty i => cases rz; exact ⟨.ty i, H', I', rfl, q⟩
/-- len(x), x of an own class -/
def rOwnLen (C : Addr) (sp : Sp) (E : XK) : List V → Hp → VK → Prop := fun xs H Q => ∃ a dx fs, xs = [.ref a] ∧ H a = some (.ins C dx fs) ∧ sp [.ref a] H (fun v G => ∃ n : Int, v = .int n ∧ 0 ≤ n ∧ n < 2 ^ 63 ∧ Q (.int n) G) E
theorem call_ownLen (F : FnG X.prog X.w X.K X.mg X.base CX k f fd ps sp) (hb : Binds X.K fd ps []) (hx : Passes CX X E) (hs : PySem.W.findIn X.K (.ref C) "__len__" = some (some (.ref f))) (hf : PySem.W.isFn X.K (.ref f) = true)
    (hG : X.A.guards = some []) (hr : Room (k + 1) X.A) : CallR X (.builtin "len") (rOwnLen C sp E) := by
  rintro pins s σ H xs us Q I r ⟨a, dx, fs, rfl, ea, h⟩
  obtain ⟨u, rfl, ru⟩ := vals1 r
  cases ru
  obtain ⟨mA, J, _⟩ := ins_get I.hok ea
  obtain ⟨od, J, _⟩ := J.look
  obtain ⟨m, hF⟩ := I.fr
  have e0 := I.env0
  have e1 : Env0 X.prog X.w X.K X.mg X.base X.A.in1 X.stack s H := e0.in1
  have rv : Vals [V.ref a] [Value.ref a] := .cons rfl .nil
  have ln : ([Value.ref a] ++ ([] : List Value)).length = ps.length := F.len _ _ _ _ h
  refine PySem.W.len_K hF I.ok.mod.kin J hs hf (wpAny_call (codeAny_mono (F.run X.A.in1 X.stack s H ⟨[.ref a], []⟩ ([.ref a] ++ []) [.ref a] _ E (in1_guards hG) hr.in1 e1 (hb s [.ref a] I.kIn ln) rv h) ?_))
  intro res s' hq
  match res, hq with
  | .error e, hq => exact hx pins σ H s e s' I hq
  | .ok (.ret w), hq =>
    obtain ⟨v, G, I', rv', n, rfl, h0, h1, q⟩ := I.after hq
    obtain ⟨t, rfl⟩ := rv'
    exact ⟨⟨h0, h1⟩, .int n, G, I'.tok _, ⟨_, rfl⟩, q⟩
/-- x != y, x of an own class with == alone -/
def rOwnNe (K : PySem.W.Frag) (C : Addr) (sp : Sp) (E : XK) : R2 := fun x y H Q => ∃ a dx fs t, x = .ref a ∧ H a = some (.ins C dx fs) ∧ TyX K H y t ∧ PySem.W.notFirst K C t = true ∧ sp [x, y] H (fun v G => ∃ b : Bool, v = .bl b ∧ Q (.bl (!b)) G) E
theorem slot_ne_bind (v : Value) : bindSpecial (.builtin "object.__ne__") v = pure (.builtin "object.__ne__", [v]) := by
  exact PySem.F.cmp_object.ne.bind v
theorem op_ownNe (F : FnG X.prog X.w X.K X.mg X.base CX k f fd ps sp) (hb : Binds X.K fd ps []) (hx : Passes CX X E) (hs : PySem.W.findIn X.K (.ref C) "__eq__" = some (some (.ref f))) (hf : PySem.W.isFn X.K (.ref f) = true)
    (hn : PySem.W.findIn X.K (.ref C) "__ne__" = some (some (.builtin "object.__ne__"))) (ho : PySem.W.subIn X.K (.ref C) (.type "object") = some true)
    (hG : X.A.guards = some []) (hr : Room (k + 1) X.A) : OpR X (compareOp .NotEq) (rOwnNe X.K C sp E) := by
  rintro pins s σ H x y v u Q I rx ry ⟨a, dx, fs, t, rfl, ea, ty, nf, h⟩
  cases rx
  obtain ⟨mA, J, _⟩ := ins_get I.hok ea
  obtain ⟨od, J, _⟩ := J.look
  obtain ⟨G, Z, p, _⟩ := kit_of I ry ty
  have inK := I.kIn
  have tl := Z.ty (model X.prog X.w) _ I.kIn p
  -- what == tells, turned
  have back : wpAny (model X.prog X.w) X.A.in1 (call (.ref f) [.ref a, u]) (fun r s' => ∃ b : Bool, r = .bool b ∧ EP X pins σ Q (.bool (!b)) s') X.xe s := by
    refine thn (run_own F hb hx rfl (in1_guards hG) hr.in1 I ry h) ?_
    rintro w s' ⟨z, H', I', rz, b, rfl, q⟩
    cases rz
    exact ⟨b, rfl, .bl (!b), H', I', rfl, q⟩
  have body : wpAny (model X.prog X.w) X.A.in1 (Builtin.«object.__ne__» ⟨[.ref a, u], []⟩) (fun fin s' => ∃ b : Bool, fin = .done (.ret (.bool b)) ∧ EP X pins σ Q (.bool b) s') X.xe s := by
    unfold Builtin.«object.__ne__»
    have hu : X.A.in1.units < cLine := hr.in1.units0
    repeat (first
      | with_reducible refine wpAny_cRoomFor hu ?_
      | (refine wpAny_bind (m := callSpecialIfBound? (.ref a) (Str.ofString "__eq__") [u]) (PySem.W.ifBound_K inK J hs hf (wpAny_mono back (fun r s' hr => by
          obtain ⟨b, rfl, q⟩ := hr
          repeat (first | exact ⟨_, rfl, q⟩ | exact wpAny_pure ⟨_, rfl, q⟩ | exact wpAny_truthy_bool ⟨_, rfl, q⟩ | (refine wpAny_bind (m := truthy (.bool _)) (wpAny_truthy_bool ?_)) | wp_step)) fun _ _ e => e)))
      | wp_step)
  have callNe : wpAny (model X.prog X.w) X.A (call (.builtin "object.__ne__") [.ref a, u]) (fun r s' => ∃ b : Bool, r = .bool b ∧ EP X pins σ Q (.bool b) s') X.xe s := by
    refine wpAny_call (codeAny_call_builtin PySem.F.cmp_object.ne.plain PySem.F.cmpEntry_ne (PySem.W.check_slot PySem.F.cmpKind_ne PySem.F.cmpSplit_ne (J.type.andThen (PySem.W.looks_subIn inK ho)) (PySem.F.cmpArgs_ne _ _) (wpAny_mono body ?_ fun _ _ e => e)))
    rintro fin s' ⟨b, rfl, q⟩
    exact ⟨b, rfl, q⟩
  have bound : wpAny (model X.prog X.w) X.A (callSpecialIfBound? (.ref a) (Str.ofString "__ne__") [u]) (fun r s' => ∃ b : Bool, r = some (.bool b) ∧ EP X pins σ Q (.bool b) s') X.xe s := by
    simp only [callSpecialIfBound?, bindSpecialIfBound?]
    refine wpAny_holding (wpAny_bind (wpAny_bind (wpAny_bind (J.type.here ((PySem.W.looks_findIn inK hn).here ?_)))))
    have fin : wpAny (model X.prog X.w) X.A (call (.builtin "object.__ne__") ([.ref a] ++ [u]) >>= fun v => pure (some v)) (fun r s' => ∃ b : Bool, r = some (.bool b) ∧ EP X pins σ Q (.bool b) s') X.xe s :=
      wpAny_bind (wpAny_mono callNe (fun r s' ⟨b, e, q⟩ => wpAny_pure ⟨b, by rw [e], q⟩) fun _ _ e => e)
    refine wpAny_bind (wpAny_askSetting (wpAny_ite ?_))
    split
    · refine wpAny_bind ?_
      rw [slot_ne_bind]
      exact wpAny_pure (wpAny_pure (by exact fin))
    · refine wpAny_tryCatch (wpAny_bind ?_)
      rw [slot_ne_bind]
      exact wpAny_pure (wpAny_pure (by exact fin))
  have one : wpAny (model X.prog X.w) X.A (tryCompare (.ref a) (Str.ofString "__ne__") u) (fun r s' => ∃ b : Bool, r = some (.bool b) ∧ EP X pins σ Q (.bool b) s') X.xe s := by
    unfold tryCompare
    exact wpAny_bind (wpAny_mono bound (fun r s' ⟨b, e, q⟩ => by subst e; exact wpAny_pure ⟨b, rfl, q⟩) fun _ _ e => e)
  show wpAny (model X.prog X.w) X.A (richCompare .NotEq (.ref a) u) (EP X pins σ Q) X.xe s
  unfold richCompare
  simp only [oneThing_ref]
  refine wpAny_holding (wpAny_bind (wpAny_cRoomFor hr.units0 ?_))
  refine wpAny_bind (J.type.here (wpAny_bind (tl.here ?_)))
  split
  · rename_i q
    have e : PySem.W.subIn X.K t (.ref C) = some false := by
      rcases Bool.or_eq_true_iff.mp nf with e | e
      · rw [beq_iff_eq.mp e] at q
        simp at q
      · exact beq_iff_eq.mp e
    refine wpAny_bind ((PySem.W.looks_subIn inK e).here ?_)
    simp only [Bool.false_eq_true, if_false]
    refine wpAny_bind (wpAny_mono one ?_ fun _ _ e => e)
    rintro r s' ⟨b, rfl, hq⟩
    exact wpAny_pure hq
  · refine wpAny_bind (wpAny_pure ?_)
    simp only [Bool.false_eq_true, if_false]
    refine wpAny_bind (wpAny_mono one ?_ fun _ _ e => e)
    rintro r s' ⟨b, rfl, hq⟩
    exact wpAny_pure hq
end
end Eld
set_option Elab.async false
set_option maxRecDepth 100000
set_option maxHeartbeats 4000000
set_option linter.all false
namespace Eld
open PySem PySem.Spec PyProof.Rows L2
section
variable {X : Cx}
/-! ### a tuple of which it is known that it has no dict -/
/-- a tuple that was made of a list here: it has no dict, so its methods may be asked -/
def BareT (H : Hp) (a : Addr) (ys : List V) : Prop := ∃ o : Obj, H a = some (.frz o (.tup ys)) ∧ o.dict = none
theorem BareT.sq {K : PySem.W.Frag} {H : Hp} {a : Addr} {ys : List V} (h : BareT H a ys) : SqT K H a ys := by
  obtain ⟨o, e, _⟩ := h
  exact .inl (.inr ⟨o, e⟩)
/-- tuple(l) of a list, the new tuple being known as one without a dict -/
def rTupleB (K : PySem.W.Frag) : List V → Hp → VK → Prop := fun xs H Q => ∃ p ys, xs = [.ref p] ∧ SqL K H p ys ∧ ∀ l (o : Obj), H l = none → o.dict = none → Q (.ref l) (upd H l (.frz o (.tup ys)))
theorem call_tupleB : CallR X (.type "tuple") (rTupleB X.K) := by
  intro pins s σ H xs us Q I r h
  obtain ⟨p, ys, rfl, hq, q⟩ := h
  obtain ⟨u, rfl, rx⟩ := vals1 r
  cases rx
  obtain ⟨its, r', pl, hz⟩ := I.list hq
  have hlen := r'.length
  refine call_tuple_list pl.isList (fun h' kp => ?_) (by simp only [List.size_toArray] <;> omega)
  have I1 : Inv X pins σ H { s with heap := h' } := I.kept (t' := s.toks) kp
  have I2 : Inv X pins σ (upd H h'.objs.size (.frz { cls := .type "tuple", data := .seq its.toArray } (.tup ys))) { s with heap := h'.push { cls := .type "tuple", data := .seq its.toArray } } :=
    I1.laid (t' := s.toks) (fun b o e => Heap.get?_push_of_some _ e) (Nat.le_refl _) (show ObjOk X.prog X.w _ _ _ (.frz _ (.tup ys)) from ⟨Heap.get?_push_size _ rfl, hz, its, r', IsTup.new _ _⟩)
  exact ⟨.ref h'.objs.size, _, I2, rfl, q _ _ (I1.hok.fresh (Nat.le_refl _)) rfl⟩
/-- o.m(e, ..) of such a tuple -/
def tTM (r : V → List V → Hp → VK → Prop) (to : TE) (t : TA) : TE := fun σ H Q => to σ H fun x H1 => (∃ a ys, x = .ref a ∧ BareT H1 a ys) ∧ t σ H1 fun xs H2 => r x xs H2 Q
variable {o e : Expr} {es : List Expr} {to : TE} {t : TA} {name : Str} {apos cpos : Pos} {id : String} {r : V → List V → Hp → VK → Prop}
theorem pe_tm (pa : PlainAttrs "tuple") (slot : Slot "tuple" name id) (hty : typeOf (.builtin id) = pure (.type "method_descriptor")) (hm : MtR X id r) (ho : PE X o to) (ha : PA X (e :: es) t)
    (hbase : attributeBase o name X.env (eval o X.env) = eval o X.env := by rfl)
    (hfew : ((backTo cpos (starEach (e :: es) X.env)).all (fun x => !x.1) && (backToKw cpos (keywordEach [] X.env)).all (fun x => x.1.isSome)
      && decide ((e :: es).length + ([] : List Keyword).length + (if ([] : List Keyword).isEmpty then 0 else 1) < 30)) = true := by rfl)
    (hline : (apos.endLine == cpos.line) = true := by rfl) (hs : starEach (e :: es) X.env = (false, eval e X.env) :: starEach es X.env := by rfl) (hplain : (backTo cpos (starEach es X.env)).any (·.1) = false := by rfl) :
    PE X (.Call (.Attribute o name apos) (e :: es) [] cpos) (tTM r to t) := by
  refine ⟨fun pins s σ H Q I h => ?_⟩
  refine wpAny_Call_method_late hbase hfew hline rfl (thn (ho.run pins s σ H _ I h) fun v s1 ⟨x, H1, I1, r1, ty, q1⟩ => ?_)
  obtain ⟨a, ys, rfl, ob, hob, hd⟩ := ty
  cases r1
  obtain ⟨g1, _, its, _, ob', g2, c2, _⟩ := (show ObjOk X.prog X.w H1 s1.heap a (.frz ob (.tup ys)) from I1.hok a _ hob)
  have h1 : s1.TypeIs (.ref a) "tuple" := ⟨ob', g2, c2⟩
  have h2 : ∀ b, Value.ref a = .ref b → ∃ ob, s1.heap.get? b = some ob ∧ ob.dict = none := fun b e => by cases e; exact ⟨ob, g1, hd⟩
  refine ⟨"tuple", id, pa, slot, hty, h1, h2, ?_⟩
  have hA := ha.run cpos pins s1 σ H1 _ I1 q1
  rw [hs] at hA ⊢
  refine Calls.callWith_builtin (by show (false || (backTo cpos (starEach es X.env)).any (·.1)) = false; rw [hplain] <;> rfl) (Calls.evalArgs_plain ?_)
  exact thn hA fun us s2 ⟨vs, H2, I2, r2, q2⟩ => hm pins s2 σ H2 (.ref a) vs (.ref a) us Q I2 rfl r2 q2
end
end Eld
set_option Elab.async false
set_option maxRecDepth 100000
set_option maxHeartbeats 4000000
set_option linter.all false
namespace Eld
open PySem PySem.Spec PyProof.Rows L2
/-! ## defs, methods and classes by name, and how they are called -/
section
variable (P : Program) (w : World) (K : PySem.W.Frag) (mg : Str → Option Value) (base : Heap)
/-- the def x, called with n values by place and the names ks -/
def DefD (k : Nat) (x : Str) (n : Nat) (ks : List Str) (gV : List V → List V → List V) (sp : Sp) : Prop :=
  ∃ (f : Addr) (fd : FuncData) (ps : List Str) (g : List Value → List Value → List Value), mg x = some (.ref f) ∧ PySem.W.keepIn K (.ref f) = true ∧ FnG P w K mg base CX0 k f fd ps sp ∧ KBn K fd ps n ks g gV
/-- the method m of the class at C; n counts self -/
def MetD (k : Nat) (C : Addr) (m : Str) (n : Nat) (ks : List Str) (gV : List V → List V → List V) (sp : Sp) : Prop :=
  ∃ (f : Addr) (fd : FuncData) (ps : List Str) (g : List Value → List Value → List Value), Cls K C ∧ Meth K C m f ∧ FnG P w K mg base CX0 k f fd ps sp ∧ KBn K fd ps n ks g gV
/-- the class x at C, made with n values by place and the names ks -/
def MakD (k : Nat) (x : Str) (C : Addr) (n : Nat) (ks : List Str) (gV : List V → List V → List V) (sp : Sp) : Prop :=
  ∃ (f : Addr) (fd : FuncData) (ps : List Str) (g : List Value → List Value → List Value), mg x = some (.ref C) ∧ Mk K C f ∧ FnG P w K mg base CX0 k f fd ps sp ∧ KBn K fd ps (n + 1) ks g gV
end
abbrev byPlace : List V → List V → List V := fun xs _ => xs
theorem kbn_place {K : PySem.W.Frag} {fd : FuncData} {ps : List Str} (b : Binds K fd ps []) (n : Nat) (h : n = ps.length) : KBn K fd ps n [] (fun us _ => us) byPlace := by
  refine ⟨fun s us ws X l1 l2 => ?_, fun r _ => r⟩
  have ew : ws = [] := List.eq_nil_of_length_eq_zero l2
  subst ew
  have := b s us X (by rw [List.append_nil, l1, h])
  simpa using this
/-- by names: h as in Fun.binds, «fun _ _ _ _ _ _ us ws h1 h2 => match us, ws, h1, h2 with | [_], [_], _, _ => rfl» -/
theorem Fun_kbn {K : PySem.W.Frag} {x ql : Str} {st : Stmt} {f : Addr} {fd : FuncData} {ps : List Str} (F : Fun K x ql st f fd) (n : Nat) (ks : List Str) (g : List Value → List Value → List Value) (gV : List V → List V → List V)
    (rel : ∀ {vs : List V} {us : List Value} {zs : List V} {ws : List Value}, Vals vs us → Vals zs ws → Vals (gV vs zs) (g us ws))
    (h : ∀ (kV doc pm : Value) (an : Option Addr) (cdv ct : Value) (us ws : List Value), us.length = n → ws.length = ks.length →
      bindArgs (PySem.W.fnOf x ql (defArgs st) (defBody st) (defScope st) .none kV doc pm an cdv ct) ⟨us, ks.zip ws⟩ = pure (ps.zip (g us ws))) : KBn K fd ps n ks g gV := by
  obtain ⟨oc, od, kV, doc, pm, an, cdv, ct, osl, rfl, lk, hcd⟩ := F.ex
  exact ⟨fun s us ws X l1 l2 => BindsTo.of_eq (h kV doc pm an cdv ct us ws l1 l2), rel⟩
section
variable {X : Cx} {ks : List Str} {k j n : Nat} {gV : List V → List V → List V} {sp : Sp} {x m : Str} {C : Addr} {p pos apos : Pos} {e o : Expr} {es : List Expr} {kws : List Keyword} {ta : TE} {t tk : TA}
theorem DefD.callV (d : DefD X.prog X.w X.K X.mg X.base k x n ks gV sp) (hG : X.A.guards = some []) (hr : Room j X.A) (hk : k ≤ j) : ∃ f, X.mg x = some (.ref f) ∧ PySem.W.keepIn X.K (.ref f) = true ∧ CallV X (.ref f) ks (rFn n ks.length gV sp E0) := by
  obtain ⟨f, fd, ps, g, hm, kp, F, b⟩ := d
  exact ⟨f, hm, kp, callV_fn F b pass0 hG (hr.mono hk)⟩
theorem MetD.callV (d : MetD X.prog X.w X.K X.mg X.base k C m n ks gV sp) (hG : X.A.guards = some []) (hr : Room j X.A) (hk : k ≤ j) : ∃ f, Cls X.K C ∧ Meth X.K C m f ∧ CallV X (.ref f) ks (rFn n ks.length gV sp E0) := by
  obtain ⟨f, fd, ps, g, hc, hm, F, b⟩ := d
  exact ⟨f, hc, hm, callV_fn F b pass0 hG (hr.mono hk)⟩
theorem MakD.callV (d : MakD X.prog X.w X.K X.mg X.base k x C n ks gV sp) (hG : X.A.guards = some []) (hr : Room j X.A) (hk : k + 1 ≤ j) : X.mg x = some (.ref C) ∧ PySem.W.keepIn X.K (.ref C) = true ∧ CallV X (.ref C) ks (rMk C n ks.length gV sp E0) := by
  obtain ⟨f, fd, ps, g, hm, M, F, b⟩ := d
  exact ⟨hm, M.kp, callV_mk M F b pass0 hG (hr.mono hk)⟩

theorem pd_pos (d : DefD X.prog X.w X.K X.mg X.base k x n [] gV sp) (hG : X.A.guards = some []) (hr : Room j X.A) (hk : k ≤ j) (hg : Gl X x) (ha : PA X (e :: es) t) (hd : (x == ("__debug__" : Str)) = false := by decide)
    (he : starEach (e :: es) X.env = (false, eval e X.env) :: starEach es X.env := by rfl) (hp : (backTo pos (starEach es X.env)).any (·.1) = false := by rfl) : PE X (.Call (.Name x p) (e :: es) [] pos) (tCl (rFn n 0 gV sp E0) t tNil) := by
  obtain ⟨f, hm, kp, c⟩ := d.callV hG hr hk
  exact pn_pos c hg hm kp ha hd he hp
theorem pd_none (d : DefD X.prog X.w X.K X.mg X.base k x n [] gV sp) (hG : X.A.guards = some []) (hr : Room j X.A) (hk : k ≤ j) (hg : Gl X x) (hd : (x == ("__debug__" : Str)) = false := by decide) :
    PE X (.Call (.Name x p) [] [] pos) (tCl (rFn n 0 gV sp E0) tNil tNil) := by
  obtain ⟨f, hm, kp, c⟩ := d.callV hG hr hk
  exact pn_none c hg hm kp hd
theorem pd_kw0 (d : DefD X.prog X.w X.K X.mg X.base k x n ks gV sp) (hG : X.A.guards = some []) (hr : Room j X.A) (hk : k ≤ j) (hg : Gl X x) (hkw : PK X kws tk) (hall : (backToKw pos (keywordEach kws X.env)).all (·.1.isSome) = true := by rfl)
    (hks : (backToKw pos (keywordEach kws X.env)).filterMap (·.1) = ks := by rfl) (hd : (x == ("__debug__" : Str)) = false := by decide)
    (hp : ((backTo pos (starEach [] X.env)).any (·.1) || (backToKw pos (keywordEach kws X.env)).any (·.1.isNone)) = false := by rfl) : PE X (.Call (.Name x p) [] kws pos) (tCl (rFn n ks.length gV sp E0) tNil tk) := by
  obtain ⟨f, hm, kp, c⟩ := d.callV hG hr hk
  exact pn_kw0 c hg hm kp hkw hall hks hd hp
theorem pd_kw (d : DefD X.prog X.w X.K X.mg X.base k x n ks gV sp) (hG : X.A.guards = some []) (hr : Room j X.A) (hk : k ≤ j) (hg : Gl X x) (ha : PA X (e :: es) t) (hkw : PK X kws tk) (hall : (backToKw pos (keywordEach kws X.env)).all (·.1.isSome) = true := by rfl)
    (hks : (backToKw pos (keywordEach kws X.env)).filterMap (·.1) = ks := by rfl) (hd : (x == ("__debug__" : Str)) = false := by decide) (he : starEach (e :: es) X.env = (false, eval e X.env) :: starEach es X.env := by rfl)
    (hp : ((backTo pos (starEach (e :: es) X.env)).any (·.1) || (backToKw pos (keywordEach kws X.env)).any (·.1.isNone)) = false := by rfl) : PE X (.Call (.Name x p) (e :: es) kws pos) (tCl (rFn n ks.length gV sp E0) t tk) := by
  obtain ⟨f, hm, kp, c⟩ := d.callV hG hr hk
  exact pn_kw c hg hm kp ha hkw hall hks hd he hp
theorem pk_pos (d : MakD X.prog X.w X.K X.mg X.base k x C n [] gV sp) (hG : X.A.guards = some []) (hr : Room j X.A) (hk : k + 1 ≤ j) (hg : Gl X x) (ha : PA X (e :: es) t) (hd : (x == ("__debug__" : Str)) = false := by decide)
    (he : starEach (e :: es) X.env = (false, eval e X.env) :: starEach es X.env := by rfl) (hp : (backTo pos (starEach es X.env)).any (·.1) = false := by rfl) : PE X (.Call (.Name x p) (e :: es) [] pos) (tCl (rMk C n 0 gV sp E0) t tNil) := by
  obtain ⟨hm, kp, c⟩ := d.callV hG hr hk
  exact pn_pos c hg hm kp ha hd he hp
theorem pk_kw0 (d : MakD X.prog X.w X.K X.mg X.base k x C n ks gV sp) (hG : X.A.guards = some []) (hr : Room j X.A) (hk : k + 1 ≤ j) (hg : Gl X x) (hkw : PK X kws tk) (hall : (backToKw pos (keywordEach kws X.env)).all (·.1.isSome) = true := by rfl)
    (hks : (backToKw pos (keywordEach kws X.env)).filterMap (·.1) = ks := by rfl) (hd : (x == ("__debug__" : Str)) = false := by decide)
    (hp : ((backTo pos (starEach [] X.env)).any (·.1) || (backToKw pos (keywordEach kws X.env)).any (·.1.isNone)) = false := by rfl) : PE X (.Call (.Name x p) [] kws pos) (tCl (rMk C n ks.length gV sp E0) tNil tk) := by
  obtain ⟨hm, kp, c⟩ := d.callV hG hr hk
  exact pn_kw0 c hg hm kp hkw hall hks hd hp
variable {pl : Sem Bool}
theorem pq_pos (d : MetD X.prog X.w X.K X.mg X.base k C m n [] gV sp) (hG : X.A.guards = some []) (hr : Room j X.A) (hk : k ≤ j) (ho : PE X o ta) (ha : PA X (e :: es) t) (he : starEach (e :: es) X.env = (false, eval e X.env) :: starEach es X.env := by rfl)
    (hp : (backTo pos (starEach es X.env)).any (·.1) = false := by rfl) (ht : eval (.Call (.Attribute o m apos) (e :: es) [] pos) X.env = (do
      let ov ← eval o X.env
      standAt apos.atName
      let (f, first) ← holding [ov] (getMethod ov m pl)
      callWith pos f first (backTo pos (starEach (e :: es) X.env)) (backToKw pos (keywordEach [] X.env))) := by rfl) : PE X (.Call (.Attribute o m apos) (e :: es) [] pos) (tMt C m (rFn n 0 gV sp E0) ta t tNil) := by
  obtain ⟨f, hc, hm, c⟩ := d.callV hG hr hk
  exact pm_pos c hc hm ho ha he hp ht
theorem pq_none (d : MetD X.prog X.w X.K X.mg X.base k C m n [] gV sp) (hG : X.A.guards = some []) (hr : Room j X.A) (hk : k ≤ j) (ho : PE X o ta) (ht : eval (.Call (.Attribute o m apos) [] [] pos) X.env = (do
      let ov ← eval o X.env
      standAt apos.atName
      let (f, first) ← holding [ov] (getMethod ov m pl)
      callWith pos f first (backTo pos (starEach [] X.env)) (backToKw pos (keywordEach [] X.env))) := by rfl) : PE X (.Call (.Attribute o m apos) [] [] pos) (tMt C m (rFn n 0 gV sp E0) ta tNil tNil) := by
  obtain ⟨f, hc, hm, c⟩ := d.callV hG hr hk
  exact pm_none c hc hm ho ht
theorem pq_kw0 (d : MetD X.prog X.w X.K X.mg X.base k C m n ks gV sp) (hG : X.A.guards = some []) (hr : Room j X.A) (hk : k ≤ j) (ho : PE X o ta) (hkw : PK X kws tk) (hall : (backToKw pos (keywordEach kws X.env)).all (·.1.isSome) = true := by rfl)
    (hks : (backToKw pos (keywordEach kws X.env)).filterMap (·.1) = ks := by rfl)
    (hp : ((backTo pos (starEach [] X.env)).any (·.1) || (backToKw pos (keywordEach kws X.env)).any (·.1.isNone)) = false := by rfl) (ht : eval (.Call (.Attribute o m apos) [] kws pos) X.env = (do
      let ov ← eval o X.env
      standAt apos.atName
      let (f, first) ← holding [ov] (getMethod ov m pl)
      callWith pos f first (backTo pos (starEach [] X.env)) (backToKw pos (keywordEach kws X.env))) := by rfl) : PE X (.Call (.Attribute o m apos) [] kws pos) (tMt C m (rFn n ks.length gV sp E0) ta tNil tk) := by
  obtain ⟨f, hc, hm, c⟩ := d.callV hG hr hk
  exact pm_kw0 c hc hm ho hkw hall hks hp ht
end

/-! ## built-ins, their readings by name -/
section
variable {X : Cx}
def rInt1 : List V → Hp → VK → Prop := fun xs H Q => (∃ i, xs = [.int i] ∧ Q (.int i) H) ∨ ∃ k, xs = [.bl k] ∧ Q (.int (if k then 1 else 0)) H
theorem c_int : CallR X (.type "int") rInt1 := call_int1
def rAbs : List V → Hp → VK → Prop := fun xs H Q => ∃ i, xs = [.int i] ∧ Q (.int (if i < 0 then -i else i)) H
theorem c_abs : CallR X (.builtin "abs") rAbs := call_abs
def rMax2 : List V → Hp → VK → Prop := fun xs H Q => ∃ i j, xs = [.int i, .int j] ∧ Q (.int (if j > i then j else i)) H
theorem c_max2 (hc : X.calm = true) : CallR X (.builtin "max") rMax2 := call_max2 hc
def rMin2 : List V → Hp → VK → Prop := fun xs H Q => ∃ i j, xs = [.int i, .int j] ∧ Q (.int (if j < i then j else i)) H
theorem c_min2 (hc : X.calm = true) : CallR X (.builtin "min") rMin2 := call_min2 hc
def rBool1 : List V → Hp → VK → Prop := fun xs H Q => (∃ i, xs = [.int i] ∧ Q (.bl (i != 0)) H) ∨ ∃ k, xs = [.bl k] ∧ Q (.bl k) H
theorem c_bool : CallR X (.type "bool") rBool1 := call_bool1
def rStrI : List V → Hp → VK → Prop := fun xs H Q => ∃ i, xs = [.int i] ∧ i.natAbs.log2 < 1920 ∧ Q (.str (toString i)) H
theorem c_str : CallR X (.type "str") rStrI := call_str_int
def rLen (K : PySem.W.Frag) : List V → Hp → VK → Prop := fun xs H Q => ∃ x n, xs = [x] ∧ LenV K x H n ∧ Q (.int n) H
theorem c_len : CallR X (.builtin "len") (rLen X.K) := call_len
def rListOf (K : PySem.W.Frag) : List V → Hp → VK → Prop := fun xs H Q => ∃ p ys, xs = [.ref p] ∧ (SqL K H p ys ∨ SqT K H p ys) ∧ ∀ l, H l = none → Q (.ref l) (upd H l (.lst ys))
theorem c_list : CallR X (.type "list") (rListOf X.K) := call_list_of
def rTupleOf (K : PySem.W.Frag) : List V → Hp → VK → Prop := fun xs H Q => ∃ p ys, xs = [.ref p] ∧ ((SqL K H p ys ∧ ∀ l, H l = none → Q (.ref l) (upd H l (.tup ys))) ∨ (SqT K H p ys ∧ Q (.ref p) H))
theorem c_tuple : CallR X (.type "tuple") (rTupleOf X.K) := call_tuple_of
def rIntS : List V → Hp → VK → Prop := fun xs H Q => ∃ a n, xs = [.str a] ∧ PySem.intText? a = some n ∧ a.length ≤ 640 ∧ Q (.int n) H
theorem c_intS : CallR X (.type "int") rIntS := call_int_str
end

theorem pe_cls {X : Cx} {x : Str} {pos : Pos} {C : Addr} (hg : Gl X x) (hm : X.mg x = some (.ref C)) (hd : (x == ("__debug__" : Str)) = false := by decide) : PE X (.Name x pos) (tC (.ref C)) := pe_glob hg hm rfl hd
/-! ## readings, step by step -/
section
variable {σ : L2.St} {H : Hp} {Q : VK} {D : Ends} {K : PySem.W.Frag} {E : XK}
theorem r_seq {t : TS} {u : TS} (h : t { D with nx := u D } σ H) : tSeq t u D σ H := h
theorem r_asgN {te : TE} {i : Nat} (h : te σ H fun x H1 => D.nx (σ.set i (some x)) H1) : tAsg te (gName i) D σ H := h
theorem r_asg {te : TE} {g : TG} (h : te σ H fun x H1 => g x σ H1 D.nx) : tAsg te g D σ H := h
theorem r_gname {i : Nat} {v : V} {q : L2.St → Hp → Prop} (h : q (σ.set i (some v)) H) : gName i v σ H q := h
theorem r_gsub {to ti : TE} {t : TSet} {x : V} {q : L2.St → Hp → Prop} (h : to σ H fun o H1 => ti σ H1 fun i H2 => t o i x H2 fun H3 => q σ H3) : gSub to ti t x σ H q := h
theorem r_var {i : Nat} {v : V} (e : σ[i]? = some (some v)) (h : Q v H) : tVar i σ H Q := ⟨v, e, h⟩
theorem r_c {v : V} (h : Q v H) : tC v σ H Q := h
theorem r_op {r : R2} {ta tb : TE} (h : ta σ H fun x H1 => tb σ H1 fun y H2 => r x y H2 Q) : tOp r ta tb σ H Q := h
theorem r_un {r : V → Hp → VK → Prop} {ta : TE} (h : ta σ H fun x H1 => r x H1 Q) : tUn r ta σ H Q := h
theorem r_u {g : Int → V} {i : Int} (h : Q (g i) H) : rU g (.int i) H Q := ⟨i, rfl, h⟩
theorem r_i0 {g : Int → Int → V} {i j : Int} (h : Q (g i j) H) : rI0 g (.int i) (.int j) H Q := ⟨i, j, rfl, rfl, h⟩
theorem r_i {C : Int → Int → Prop} {g : Int → Int → V} {i j : Int} (hc : C i j) (h : Q (g i j) H) : rI C g (.int i) (.int j) H Q := ⟨i, j, rfl, rfl, hc, h⟩
theorem r_eqI {i j : Int} (h : Q (.bl (decide (V.int i = V.int j))) H) : rEq (.int i) (.int j) H Q := ⟨rfl, h⟩
theorem r_neI {i j : Int} (h : Q (.bl (!decide (V.int i = V.int j))) H) : rNe (.int i) (.int j) H Q := ⟨rfl, h⟩
theorem r_eqB {i j : Bool} (h : Q (.bl (decide (V.bl i = V.bl j))) H) : rEq (.bl i) (.bl j) H Q := ⟨rfl, h⟩
theorem r_neB {i j : Bool} (h : Q (.bl (!decide (V.bl i = V.bl j))) H) : rNe (.bl i) (.bl j) H Q := ⟨rfl, h⟩
theorem r_eqS {i j : Str} (h : Q (.bl (decide (V.str i = V.str j))) H) : rEq (.str i) (.str j) H Q := ⟨rfl, h⟩
theorem r_neS {i j : Str} (h : Q (.bl (!decide (V.str i = V.str j))) H) : rNe (.str i) (.str j) H Q := ⟨rfl, h⟩
theorem r_cb {r : List V → Hp → VK → Prop} {t : TA} (h : t σ H fun xs H1 => r xs H1 Q) : tCB r t σ H Q := h
theorem r_cl {r : List V → List V → Hp → VK → Prop} {t tk : TA} (h : t σ H fun xs H1 => tk σ H1 fun ys H2 => r xs ys H2 Q) : tCl r t tk σ H Q := h
theorem r_fn {n m : Nat} {gV : List V → List V → List V} {sp : Sp} {xs ys : List V} (h1 : xs.length = n) (h2 : ys.length = m) (h : sp (gV xs ys) H Q E) : rFn n m gV sp E xs ys H Q := ⟨h1, h2, h⟩
theorem r_mk {C : Addr} {n m : Nat} {gV : List V → List V → List V} {sp : Sp} {xs ys : List V} (h1 : xs.length = n) (h2 : ys.length = m)
    (h : ∀ x dx, H x = none → H dx = none → dx ≠ x → sp (gV (.ref x :: xs) ys) (upd (upd H dx (.own x)) x (.ins C dx [])) (fun v G => v = .non ∧ Q (.ref x) G) E) : rMk C n m gV sp E xs ys H Q := ⟨h1, h2, h⟩
theorem r_mt {C : Addr} {m : Str} {r : List V → List V → Hp → VK → Prop} {ta : TE} {t tk : TA} (h : ta σ H fun x H1 => ∃ a dx fs, x = .ref a ∧ H1 a = some (.ins C dx fs) ∧ List.lookup m fs = none ∧ t σ H1 fun xs H2 => tk σ H2 fun ys H3 => r (.ref a :: xs) ys H3 Q) : tMt C m r ta t tk σ H Q := h
theorem r_cons {ta : TE} {tr : TA} {q : List V → Hp → Prop} (h : ta σ H fun x H1 => tr σ H1 fun xs H2 => q (x :: xs) H2) : tCons ta tr σ H q := h
theorem r_nil {q : List V → Hp → Prop} (h : q [] H) : tNil σ H q := h
theorem r_test {t : TE} {q : Bool → Hp → Prop} (h : t σ H fun x H1 => ∃ k, x = .bl k ∧ q k H1) : tTest t σ H q := h
theorem r_tb {t : TE} {q : Bool → Hp → Prop} (h : t σ H fun x H1 => ∃ k, x = .bl k ∧ q k H1) : tB t σ H q := h
theorem r_bl {b : Bool} {q : Bool → Prop} (h : q b) : ∃ k, V.bl b = V.bl k ∧ q k := ⟨b, rfl, h⟩
theorem r_and {t u : TT} {q : Bool → Hp → Prop} (h : t σ H fun c H1 => if c = true then u σ H1 q else q false H1) : tAnd t u σ H q := h
theorem r_or {t u : TT} {q : Bool → Hp → Prop} (h : t σ H fun c H1 => if c = true then q true H1 else u σ H1 q) : tOr t u σ H q := h
theorem r_not {t : TT} {q : Bool → Hp → Prop} (h : t σ H fun c H1 => q (!c) H1) : tNot t σ H q := h
theorem r_andV {ta tb : TE} (h : ta σ H fun x H1 => ∃ c, x = .bl c ∧ if c = true then tb σ H1 Q else Q (.bl false) H1) : tAndV ta tb σ H Q := h
theorem r_orV {ta tb : TE} (h : ta σ H fun x H1 => ∃ c, x = .bl c ∧ if c = true then Q (.bl true) H1 else tb σ H1 Q) : tOrV ta tb σ H Q := h
theorem r_notV {ta : TE} (h : ta σ H fun x H1 => ∃ c, x = .bl c ∧ Q (.bl (!c)) H1) : tNotV ta σ H Q := h
theorem r_ifX {c : TT} {ta tb : TE} (h : c σ H fun k H1 => if k = true then ta σ H1 Q else tb σ H1 Q) : tIf c ta tb σ H Q := h
theorem r_ifs {c : TT} {t u : TS} (h : c σ H fun b H1 => if b = true then t D σ H1 else u D σ H1) : tIfS c t u D σ H := h
theorem r_chain {r r' : R2} {ta tb tc : TE} (h : ta σ H fun x H1 => tb σ H1 fun y H2 => r x y H2 fun z H3 => ∃ k, z = .bl k ∧ (if k = true then tc σ H3 fun w' H4 => r' y w' H4 Q else Q (.bl false) H3)) : tChain r r' ta tb tc σ H Q := h
theorem r_ret {te : TE} (h : te σ H D.rt) : tRet te D σ H := h
theorem r_next (h : D.nx σ H) : tNext D σ H := h
theorem r_drop {te : TE} (h : te σ H fun _ H1 => D.nx σ H1) : tDrop te D σ H := h
theorem r_ixL {p : Addr} {xs : List V} {i : Int} {v : V} (h : SqL K H p xs) (e : atI xs i = some v) (q : Q v H) : rIxL K (.ref p) (.int i) H Q := ⟨p, xs, i, v, rfl, rfl, h, e, q⟩
theorem r_ixT {p : Addr} {xs : List V} {i : Int} {v : V} (h : SqT K H p xs) (e : atI xs i = some v) (q : Q v H) : rIxT K (.ref p) (.int i) H Q := ⟨p, xs, i, v, rfl, rfl, h, e, q⟩
theorem r_setL {p : Addr} {xs : List V} {k : Int} {j : Nat} {v : V} {q : Hp → Prop} (h : H p = some (.lst xs)) (e : ixN xs.length k = some j) (hq : q (upd H p (.lst (xs.set j v)))) : rSetL (.ref p) (.int k) v H q := ⟨p, xs, k, j, rfl, rfl, h, e, hq⟩
theorem r_int1 {i : Int} (h : Q (.int i) H) : rInt1 [.int i] H Q := .inl ⟨i, rfl, h⟩
theorem r_abs {i : Int} (h : Q (.int (if i < 0 then -i else i)) H) : rAbs [.int i] H Q := ⟨i, rfl, h⟩
theorem r_max2 {i j : Int} (h : Q (.int (if j > i then j else i)) H) : rMax2 [.int i, .int j] H Q := ⟨i, j, rfl, h⟩
theorem r_min2 {i j : Int} (h : Q (.int (if j < i then j else i)) H) : rMin2 [.int i, .int j] H Q := ⟨i, j, rfl, h⟩
theorem r_boolB {k : Bool} (h : Q (.bl k) H) : rBool1 [.bl k] H Q := .inr ⟨k, rfl, h⟩
theorem r_strI {i : Int} (hi : i.natAbs.log2 < 1920) (h : Q (.str (toString i)) H) : rStrI [.int i] H Q := ⟨i, rfl, hi, h⟩
theorem r_lenL {p : Addr} {xs : List V} (hs : SqL K H p xs) (h : Q (.int (xs.length : Nat)) H) : rLen K [.ref p] H Q := ⟨.ref p, xs.length, rfl, .inl ⟨xs, hs, rfl⟩, h⟩
theorem r_lenT {p : Addr} {xs : List V} (hs : SqT K H p xs) (h : Q (.int (xs.length : Nat)) H) : rLen K [.ref p] H Q := ⟨.ref p, xs.length, rfl, .inr ⟨xs, hs, rfl⟩, h⟩
theorem r_lenS {y : Str} (hy : y.length ≤ sizeLine) (h : Q (.int (y.length : Nat)) H) : rLen K [.str y] H Q := ⟨.str y, y.length, rfl, ⟨hy, rfl⟩, h⟩
theorem r_listL {p : Addr} {ys : List V} (hs : SqL K H p ys) (h : ∀ l, H l = none → Q (.ref l) (upd H l (.lst ys))) : rListOf K [.ref p] H Q := ⟨p, ys, rfl, .inl hs, h⟩
theorem r_listT {p : Addr} {ys : List V} (hs : SqT K H p ys) (h : ∀ l, H l = none → Q (.ref l) (upd H l (.lst ys))) : rListOf K [.ref p] H Q := ⟨p, ys, rfl, .inr hs, h⟩
theorem r_tupleL {p : Addr} {ys : List V} (hs : SqL K H p ys) (h : ∀ l, H l = none → Q (.ref l) (upd H l (.tup ys))) : rTupleOf K [.ref p] H Q := ⟨p, ys, rfl, .inl ⟨hs, h⟩⟩
theorem r_tupleT {p : Addr} {ys : List V} (hs : SqT K H p ys) (h : Q (.ref p) H) : rTupleOf K [.ref p] H Q := ⟨p, ys, rfl, .inr ⟨hs, h⟩⟩
theorem r_isiB {x : V} {t T : String} {b : Bool} (ty : TyX K H x (.type t)) (hk : kitB t T = some b) (h : Q (.bl b) H) : rIsi K [x, .ty T] H Q := ⟨x, .ty T, .type t, .type T, b, rfl, .ty T, ty, kit_ty hk, h⟩
theorem r_isiO {x : V} {t : Value} {C : Addr} {b : Bool} (ty : TyX K H x t) (hk : PySem.W.kitOne K t (.ref C) = some b) (h : Q (.bl b) H) : rIsi K [x, .ref C] H Q := ⟨x, .ref C, t, .ref C, b, rfl, .own C, ty, hk, h⟩
theorem r_tup {t : TA} (h : t σ H fun xs H1 => xs.length ≤ sizeLine ∧ ∀ p, H1 p = none → Q (.ref p) (upd H1 p (.tup xs))) : tTup t σ H Q := h
theorem r_lst {t : TA} (h : t σ H fun xs H1 => xs.length ≤ sizeLine ∧ ∀ p, H1 p = none → Q (.ref p) (upd H1 p (.lst xs))) : tLst t σ H Q := h
theorem r_rng1 {t : TA} {R : It → Hp → Prop} (h : t σ H fun vs H1 => ∃ j : Int, vs = [.int j] ∧ -(2 ^ 62) ≤ j ∧ j < 2 ^ 62 ∧ R (Itr 0 j.toNat) H1) : iRng1 t σ H R := h
theorem r_rng2 {t : TA} {R : It → Hp → Prop} (h : t σ H fun vs H1 => ∃ i j : Int, vs = [.int i, .int j] ∧ (-(2 ^ 62) ≤ i ∧ i < 2 ^ 62 ∧ -(2 ^ 62) ≤ j ∧ j < 2 ^ 62) ∧ R (Itr i (j - i).toNat) H1) : iRng2 t σ H R := h
theorem r_sfld {ta tv : TE} {f : Str} (h : tv σ H fun y H1 => ta σ H1 fun x H2 => ∃ a C dx fs, x = .ref a ∧ H2 a = some (.ins C dx fs) ∧ Cls K C ∧ NoAttr K C f ∧ fs.length < 1000 ∧ D.nx σ (upd H2 a (.ins C dx (putF f y fs)))) : sFld K ta tv f D σ H := h
theorem r_m0 {r : V → List V → Hp → VK → Prop} {to : TE} (h : to σ H fun x H1 => (∃ a, x = .str a) ∧ r x [] H1 Q) : tM0 r to σ H Q := h
theorem r_m1 {r : V → List V → Hp → VK → Prop} {to te : TE} (h : to σ H fun x H1 => (∃ a, x = .str a) ∧ te σ H1 fun y H2 => r x [y] H2 Q) : tM1 r to te σ H Q := h
theorem r_fld {ta : TE} {f : Str} (h : tFld K ta f σ H Q) : tFld K ta f σ H Q := h
end
end Eld
set_option Elab.async false
set_option maxRecDepth 100000
set_option maxHeartbeats 4000000
set_option linter.all false
namespace Eld
open PySem PySem.Spec PyProof.Rows L2
/-! ## zip of a list and a tuple -/
def ItzM (K : PySem.W.Frag) (a b : Addr) : It where
  go := fun i H => ∃ xs ys x y, SqL K H a xs ∧ SqT K H b ys ∧ xs[i]? = some x ∧ ys[i]? = some y
  yld := fun i H v H' => ∃ T x y, v = .ref T ∧ H T = none ∧ H' = upd H T (.tup [x, y]) ∧ (∀ xs, SqL K H a xs → xs[i]? = some x) ∧ ∀ ys, SqT K H b ys → ys[i]? = some y
  stop := fun i H => ∃ xs ys, SqL K H a xs ∧ SqT K H b ys ∧ i = xs.length ∧ i = ys.length
/-- the five records of such a zip at its i-th turn -/
structure ZRec (z TI TO i1 i2 a b : Addr) (i : Nat) (h : Heap) : Prop where
  zz : IsZip h z TI TO .none
  ti : IsTupOf2 h TI (.ref i1) (.ref i2)
  to : ∃ x y, IsTupOf2 h TO x y
  l1 : h.IsListIter i1 a i
  l2 : h.IsTupleIter i2 b i
theorem list_inj {X : Cx} {pins : List (Addr × Obj)} {σ : L2.St} {H : Hp} {s : Shared} {a : Addr} {xs ys : List V} (I : Inv X pins σ H s) (h1 : SqL X.K H a xs) (h2 : SqL X.K H a ys) : xs = ys := I.list_inj h1 h2
theorem zrec_turn {P : Program} {w : World} {K : PySem.W.Frag} {elts : List Expr} {kk : Nat} {tpos : Pos} {a b z TI TO i1 i2 : Addr} (S : ZipSep2 z TI TO i1 i2 [i1, a] [i2, b]) (n1 : a ≠ i1) (n2 : b ≠ i2) :
    Turn P w K (.Tuple elts kk tpos) (ItzM K a b) [z, TI, TO, i1, i2] z (ZRec z TI TO i1 i2 a b) := by
  have five : ∀ {c : Addr}, c ∈ [z, TI, TO, i1, i2] → c = z ∨ c = TI ∨ c = TO ∨ c = i1 ∨ c = i2 := fun h => by simpa using h
  have there : ∀ (i : Nat) (h : Heap), ZRec z TI TO i1 i2 a b i h → ∀ c ∈ [z, TI, TO, i1, i2], ∃ o, h.get? c = some o ∧ ∀ v, o.data ≠ .cell v := by
    rintro i h ⟨hz, ht, ⟨x, y, ho⟩, ⟨o1, e1, _, d1⟩, ⟨o2, e2, _, d2⟩⟩ c hc
    rcases five hc with rfl | rfl | rfl | rfl | rfl
    · exact ⟨_, hz, fun v q => nomatch q⟩
    · exact ⟨_, ht, fun v q => nomatch q⟩
    · exact ⟨_, ho, fun v q => nomatch q⟩
    · exact ⟨o1, e1, fun v q => by rw [d1] at q; cases q⟩
    · exact ⟨o2, e2, fun v q => by rw [d2] at q; cases q⟩
  refine ⟨by simp, there, ?_, ?_, ?_, fun A i s Q E st h => wpAny_pyIter_zip st.zz h⟩
  · rintro i h h' ⟨hz, ht, ⟨x, y, ho⟩, h1, h2⟩ k
    exact ⟨k z (by simp) _ hz, k TI (by simp) _ ht, ⟨x, y, k TO (by simp) _ ho⟩, h1.at fun o q => k i1 (by simp) o q, h2.at fun o q => k i2 (by simp) o q⟩
  · rintro X rfl rfl rfl calm i pins s σ H E I fp st ⟨xs, ys, x, y, qx, qy, hx, hy⟩
    obtain ⟨hz, ht, ⟨x0, y0, ho⟩, h1, h2⟩ := id st
    obtain ⟨its, rv, pl, _⟩ := I.list qx
    obtain ⟨jts, rw', pt, _⟩ := I.tuple qy
    obtain ⟨u, hu, ru⟩ := rv.get hx
    obtain ⟨v, hv, rv'⟩ := rw'.get hy
    have hnd : X.A.in1.handled = none := I.ok.hd calm
    have lu : i < its.toArray.size := by simpa using (List.getElem?_eq_some_iff.mp hu).1
    have lv : i < jts.toArray.size := by simpa using (List.getElem?_eq_some_iff.mp hv).1
    have zl : z < s.heap.objs.size := Heap.lt_size hz
    refine wpAny_pyNext_zipD2_item S (Draws.list hnd i1 a n1 its.toArray) (Draws.tuple hnd i2 b n2 jts.toArray) hz ht ho ⟨h1, pl.isList⟩ ⟨h2, pt⟩ lu lv ?_
    intro x1 x2 h' tk e1 e2 hz' ho' st1 st2 hT sz keep
    have e1' : x1 = u := by
      have e : its.toArray[i]? = some x1 := e1
      rw [List.getElem?_toArray, hu] at e
      exact (Option.some.inj e).symm
    have e2' : x2 = v := by
      have e : jts.toArray[i]? = some x2 := e2
      rw [List.getElem?_toArray, hv] at e
      exact (Option.some.inj e).symm
    subst e1' e2'
    refine ⟨_, rfl, wpAny_letOwnedTupleGo_zip (s := { s with heap := h', toks := tk }) hz' ?_⟩
    intro h3 hz3 sb
    have hT3 : h3.get? s.heap.objs.size = some { cls := .type "tuple", data := .seq #[x1, x2] } := (sb.2 _ (Nat.ne_of_gt zl)).trans hT
    have ok : ObjOk X.prog X.w (upd H s.heap.objs.size (.tup [x, y])) h3 s.heap.objs.size (.tup [x, y]) := ⟨by show 2 ≤ sizeLine; decide, [x1, x2], .cons ru (.cons rv' .nil), ⟨_, hT3, rfl, _, rfl⟩⟩
    have same : ∀ c o, c ∉ [z, TI, TO, i1, i2] → s.heap.get? c = some o → h3.get? c = some o := by
      intro c o nc e
      have g : ∀ d ∈ [z, TI, TO, i1, i2], c ≠ d := fun d hd e' => nc (e' ▸ hd)
      exact (sb.2 c (g z (by simp))).trans (keep c o (g z (by simp)) (g TO (by simp)) (g i1 (by simp)) (g i2 (by simp)) e)
    have J := I.turnedNew (t' := tk) same fp (Nat.le_refl _) ok
    refine ⟨.ref s.heap.objs.size, _, J, rfl, ⟨_, x, y, rfl, I.hok.fresh (Nat.le_refl _), rfl, ?_, ?_⟩, ?_, ?_⟩
    · intro l hl
      rw [list_inj I hl qx]
      exact hx
    · intro l hl
      rw [I.tuple_inj hl qy]
      exact hy
    · refine ⟨hz3, ?_, ⟨x1, x2, ?_⟩, ?_, ?_⟩
      · exact (sb.2 _ S.TIz).trans (keep _ _ S.TIz S.TITO S.TIi1 S.TIi2 ht)
      · exact (sb.2 _ S.TOz).trans ho'
      · exact st1.1.at fun o q => (sb.2 _ (Ne.symm S.zi1)).trans q
      · exact st2.1.at fun o q => (sb.2 _ (Ne.symm S.zi2)).trans q
    · intro c hc
      obtain ⟨o, e, _⟩ := there i s.heap st c hc
      rw [upd_ne (Nat.ne_of_lt (Heap.lt_size e))]
      exact (fp c hc).1
  · rintro X rfl rfl rfl calm i pins s σ H E I fp st ⟨xs, ys, qx, qy, ex, ey⟩
    obtain ⟨hz, ht, ⟨x0, y0, ho⟩, h1, h2⟩ := id st
    obtain ⟨its, rv, pl, _⟩ := I.list qx
    obtain ⟨jts, rw', pt, _⟩ := I.tuple qy
    have hnd : X.A.in1.handled = none := I.ok.hd calm
    have l1 := rv.length
    have l2 := rw'.length
    refine wpAny_pyNext_zipD2_end S (Draws.list hnd i1 a n1 its.toArray) (Draws.tuple hnd i2 b n2 jts.toArray) hz ht ho ⟨h1, pl.isList⟩ ⟨h2, pt⟩ (by simp; omega) (by simp; omega) (.inl (by simp; omega)) ?_
    intro h' tk keep
    refine ⟨rfl, I.turnedL (t' := tk) (ch := [z, TI, TO, i1, i2]) ?_ fp⟩
    intro c o nc e
    have g : ∀ d ∈ [z, TI, TO, i1, i2], c ≠ d := fun d hd e' => nc (e' ▸ hd)
    exact keep c o (g z (by simp)) (g TO (by simp)) (g i1 (by simp)) (g i2 (by simp)) e
def iZipM (K : PySem.W.Frag) (ta : TA) : TI := fun σ H R => ta σ H fun vs H1 => ∃ a b xs ys, vs = [.ref a, .ref b] ∧ SqL K H1 a xs ∧ SqT K H1 b ys ∧ R (ItzM K a b) H1
theorem pi_zipM {X : Cx} {e e2 : Expr} {ta : TA} {p pos tpos : Pos} {elts : List Expr} {kk : Nat} (hg : Gl X "zip") (hm : X.mg "zip" = none) (ha : PA X [e, e2] ta)
    (h2 : starEach [e, e2] X.env = (false, eval e X.env) :: starEach [e2] X.env := by rfl) (h3 : (backTo pos (starEach [e2] X.env)).any (·.1) = false := by rfl) : PI X (.Tuple elts kk tpos) (.Call (.Name "zip" p) [e, e2] [] pos) (iZipM X.K ta) := by
  constructor
  intro pins s σ H R I h
  refine Call_ (ld_blt I hg hm PyProof.Rows.boot_zip (PyProof.Rows.callWith_type1 (thn (ha.run pos pins s σ H _ I h) ?_) h2 h3))
  rintro us s1 ⟨vs, H1, I1, r1, a, b, xs, ys, rfl, qx, qy, q⟩
  obtain ⟨u1, u2, rfl, ra, rb⟩ := vals2 r1
  cases ra
  cases rb
  obtain ⟨its, rv, pl, _⟩ := I1.list qx
  obtain ⟨jts, rw', pt, _⟩ := I1.tuple qy
  have la : a < s1.heap.objs.size := pl.lt
  have lb : b < s1.heap.objs.size := by
    obtain ⟨o, e, _⟩ := id pt
    exact Heap.lt_size e
  refine zip_begins2 (begins_list a its.toArray) (begins_tuple b jts.toArray) pl.isList pt ?_
  intro h' hz ht ho g1 g2 sz keep
  have I2 : Inv X pins σ H1 { s1 with heap := h' } := I1.kept (t' := s1.toks) keep
  refine wpAny_pyIter_zip hz ⟨s1.heap.objs.size + 4, [s1.heap.objs.size + 4, s1.heap.objs.size + 2, s1.heap.objs.size + 3, s1.heap.objs.size, s1.heap.objs.size + 1], _, _, H1, rfl, I2,
    zrec_turn (zip_sep2 (N := s1.heap.objs.size) (fp1 := [a]) (fp2 := [b]) (by simpa using la) (by simpa using lb)) (Nat.ne_of_lt la) (Nat.ne_of_lt (Nat.lt_succ_of_lt lb)), ⟨hz, ht, ⟨_, _, ho⟩, ⟨_, g1, rfl, rfl⟩, ⟨_, g2, rfl, rfl⟩⟩, ?_, q⟩
  intro c hc
  have hle : s1.heap.objs.size ≤ c := by
    have e : c = s1.heap.objs.size + 4 ∨ c = s1.heap.objs.size + 2 ∨ c = s1.heap.objs.size + 3 ∨ c = s1.heap.objs.size ∨ c = s1.heap.objs.size + 1 := by simpa using hc
    rcases e with rfl | rfl | rfl | rfl | rfl
    all_goals first | exact Nat.le_refl _ | exact Nat.le_add_right _ _
  exact I1.fpOk hle (I1.hok.fresh hle)
/-- over such a zip, the items as they are -/
theorem it_zipM {K : PySem.W.Frag} {a b : Addr} {xs ys : List V} {H0 : Hp} {Stop : Hp → Prop} {Turn : (Hp → Prop) → V → Hp → Prop} (hl : xs.length = ys.length) (Pv : Nat → Hp → Prop) (h0 : Pv 0 H0) (hq : ∀ i H, i ≤ xs.length → Pv i H → SqL K H a xs ∧ SqT K H b ys)
    (hs : ∀ i x y T H, xs[i]? = some x → ys[i]? = some y → Pv i H → H T = none → Turn (Pv (i + 1)) (.ref T) (upd H T (.tup [x, y]))) (hd : ∀ H, Pv xs.length H → Stop H) :
    ∃ W : Nat → Nat → Hp → Prop, (∃ m, W 0 m H0) ∧ ∀ i m H, W i m H → ((ItzM K a b).stop i H ∧ Stop H) ∨ ((ItzM K a b).go i H ∧ ∃ Nx : Hp → Prop, (∀ H', Nx H' → ∃ m', m' < m ∧ W (i + 1) m' H') ∧ ∀ x H', (ItzM K a b).yld i H x H' → Turn Nx x H') := by
  refine ⟨fun i m H => m + i = xs.length ∧ Pv i H, ⟨xs.length, rfl, h0⟩, ?_⟩
  rintro i m H ⟨e, p⟩
  obtain ⟨q1, q2⟩ := hq i H (by omega) p
  cases m with
  | zero =>
    have e' : i = xs.length := by omega
    subst e'
    exact .inl ⟨⟨xs, ys, q1, q2, rfl, hl⟩, hd H p⟩
  | succ m =>
    have l1 : i < xs.length := by omega
    have l2 : i < ys.length := by omega
    refine .inr ⟨⟨xs, ys, _, _, q1, q2, List.getElem?_eq_getElem l1, List.getElem?_eq_getElem l2⟩, Pv (i + 1), fun H' p' => ⟨m, Nat.lt_succ_self _, by omega, p'⟩, ?_⟩
    rintro x H' ⟨T, x', y', rfl, nT, rfl, f1, f2⟩
    exact hs i x' y' T H (f1 xs q1) (f2 ys q2) p nT
theorem it_zipT {K : PySem.W.Frag} {a b : Addr} {xs ys : List V} {H0 : Hp} {Stop : Hp → Prop} {Turn : (Hp → Prop) → V → Hp → Prop} (hl : xs.length = ys.length) (Pv : Nat → Hp → Prop) (h0 : Pv 0 H0) (hq : ∀ i H, i ≤ xs.length → Pv i H → SqT K H a xs ∧ SqT K H b ys)
    (hs : ∀ i x y T H, xs[i]? = some x → ys[i]? = some y → Pv i H → H T = none → Turn (Pv (i + 1)) (.ref T) (upd H T (.tup [x, y]))) (hd : ∀ H, Pv xs.length H → Stop H) :
    ∃ W : Nat → Nat → Hp → Prop, (∃ m, W 0 m H0) ∧ ∀ i m H, W i m H → ((RZ.ItzT K a b).stop i H ∧ Stop H) ∨ ((RZ.ItzT K a b).go i H ∧ ∃ Nx : Hp → Prop, (∀ H', Nx H' → ∃ m', m' < m ∧ W (i + 1) m' H') ∧ ∀ x H', (RZ.ItzT K a b).yld i H x H' → Turn Nx x H') := by
  refine ⟨fun i m H => m + i = xs.length ∧ Pv i H, ⟨xs.length, rfl, h0⟩, ?_⟩
  rintro i m H ⟨e, p⟩
  obtain ⟨q1, q2⟩ := hq i H (by omega) p
  cases m with
  | zero =>
    have e' : i = xs.length := by omega
    subst e'
    exact .inl ⟨⟨xs, ys, q1, q2, .inl (Nat.le_refl _)⟩, hd H p⟩
  | succ m =>
    have l1 : i < xs.length := by omega
    have l2 : i < ys.length := by omega
    refine .inr ⟨⟨xs, ys, _, _, q1, q2, List.getElem?_eq_getElem l1, List.getElem?_eq_getElem l2⟩, Pv (i + 1), fun H' p' => ⟨m, Nat.lt_succ_self _, by omega, p'⟩, ?_⟩
    rintro x H' ⟨T, x', y', rfl, nT, rfl, f1, f2⟩
    exact hs i x' y' T H (f1 xs q1) (f2 ys q2) p nT
end Eld
set_option Elab.async false
set_option maxRecDepth 100000
set_option maxHeartbeats 4000000
set_option linter.all false
namespace Eld
open PySem PySem.Spec PyProof.Rows L2
/-! ## try with several clauses, each with a name for the exception or without one -/
abbrev Suit := Addr → Value → Option Addr → TS
/-- the clauses' names cleared on the way out -/
def clr (o : Option Nat) (D : Ends) : Ends := match o with
  | none => D
  | some i => { nx := fun τ G => D.nx (τ.set i none) G, rt := D.rt, bk := fun τ G => D.bk (τ.set i none) G, ct := fun τ G => D.ct (τ.set i none) G }
def nam (o : Option Nat) (e : Addr) (τ : L2.St) : L2.St := match o with
  | none => τ
  | some i => τ.set i (some (.ref e))
/-- what the clauses wish of an exception, one after another -/
def wMix (K : PySem.W.Frag) (Wo : WX) (D : Ends) : List (Value × Option Nat × Suit) → WX
  | [] => Wo
  | (c, o, ts) :: r => fun cls d τ G => ∃ b, PySem.W.exmOne K cls c = some b ∧ (b = true → ∀ e, G e = none → ts e cls d (clr o D) (nam o e τ) G) ∧ (b = false → wMix K Wo D r cls d τ G)
inductive HdsM (X : Cx) : List ExceptHandler → List (Value × Option Nat × Suit) → Prop
  | nil : HdsM X [] []
  | bare {x : Str} {c : Value} {ts : Suit} {b0 : Stmt} {su : List Stmt} {p1 p2 : Pos} {hs : List ExceptHandler} {l : List (Value × Option Nat × Suit)} (hc : Names X x c)
      (h : ∀ (e : Addr) (oe : Obj) (cls : Value) (d : Option Addr) (pn : List (Addr × Obj)), Zc cls d oe → (∃ vs, oe.data = .fields vs) → PSs (X.suite e ((e, oe) :: pn)) (b0 :: su) (ts e cls d)) (r : HdsM X hs l) :
      HdsM X (.ExceptHandler (some (.Name x p1)) none (b0 :: su) p2 :: hs) ((c, none, ts) :: l)
  | named {x n : Str} {c : Value} {i : Nat} {ts : Suit} {b0 : Stmt} {su : List Stmt} {p1 p2 : Pos} {hs : List ExceptHandler} {l : List (Value × Option Nat × Suit)} (hN : X.N.Nodup) (hi : X.N[i]? = some n) (hl : X.env.kindOf n = some .local) (hc : Names X x c)
      (h : ∀ (e : Addr) (oe : Obj) (cls : Value) (d : Option Addr) (pn : List (Addr × Obj)), Zc cls d oe → (∃ vs, oe.data = .fields vs) → PSs (X.suite e ((e, oe) :: pn)) (b0 :: su) (ts e cls d)) (r : HdsM X hs l) :
      HdsM X (.ExceptHandler (some (.Name x p1)) (some n) (b0 :: su) p2 :: hs) ((c, some i, ts) :: l)
section
variable {X : Cx} {body : List Stmt} {h0 : ExceptHandler} {hds : List ExceptHandler} {l : List (Value × Option Nat × Suit)} {pos : Pos} {tb : WX → TS} {Wo : WX}
theorem ps_try_mix (st : X.stack = X.env :: X.outer) (fr : X.env.frame = some X.env.locals) (tk : Takes X Wo)
    (bo : ∀ (W : WX) (pn : List (Addr × Obj)) (xe : Value → Shared → Prop), Takes (X.tr pn xe) W → PassesOwn (model X.prog X.w) X.A X.env xe → PSs (X.tr pn xe) body (tb W))
    (hh : HdsM X (h0 :: hds) l) : PS X (.Try body (h0 :: hds) [] [] pos) (fun D σ H => tb (wMix X.K Wo D l) D σ H) := by
  constructor
  intro pins s σ H D I q
  have ok := I.ok
  have frs_ : X.A.frames = some (X.env :: X.outer) := st ▸ ok.frames
  let out : Value → Shared → Prop := fun u t => wpAny (model X.prog X.w) X.A (noteFrame u X.env) (fun _ t2 => wpAny (model X.prog X.w) X.A (setFlight u none) (fun _ t3 => wpAny (model X.prog X.w) X.A (handleBy u X.env (h0 :: hds)) (SP X pins D) X.xe t3) X.xe t2) X.xe t
  have tko : Takes (X.tr (X.pn ++ pins) out) (wMix X.K Wo D l) := by
    rintro u t ⟨e, BB, s0, pins', τ, G, cls, d, rfl, J0, nb, up, sky, na, os, ag, w⟩
    have J : Inv X pins τ G s0 := J0.ofTry ok
    have sk2 : Sky BB (X.env :: X.outer) e (Zc cls d) X.env.locals t.heap := st ▸ sky
    refine Sky.land Zc.steady frs_ fr sk2 ?_
    intro g3 f3 u3
    have J3 : Inv X pins τ G { t with heap := g3 } := J.landed nb f3.1 (up.trans u3) os ag
    obtain ⟨o3, v3, e3, z3, d3⟩ := f3.there
    have off : e ∉ frs (X.env :: X.outer) := by
      intro hm
      obtain ⟨_, o', e', hnf⟩ := f3.2.2.1.mem hm
      rw [e3] at e'
      cases e'
      exact hnf _ d3
    have nL : e ≠ X.env.locals := by
      intro z
      exact off (List.mem_filterMap.mpr ⟨X.env, List.mem_cons_self, z ▸ fr⟩)
    have nF : e ∉ X.fs := by
      intro hm
      obtain ⟨a1, a2, a3⟩ := List.mem_filterMap.mp hm
      exact off (List.mem_filterMap.mpr ⟨a1, List.mem_cons_of_mem _ a2, a3⟩)
    have S3 := J3.suite e3 d3 na nL nF
    have all : ∀ (hs' : List ExceptHandler) (l' : List (Value × Option Nat × Suit)), HdsM X hs' l' → wMix X.K Wo D l' cls d τ G → wpAny (model X.prog X.w) X.A (handleBy (.ref e) X.env hs') (SP X pins D) X.xe { t with heap := g3 } := by
      intro hs' l' hk
      have LT : PySem.W.Looks (model X.prog X.w) g3 (typeOf (.ref e)) cls := fun A Q E s k q => wpAny_typeOf_ref (k _ _ e3) (by rw [z3.1]; exact q)
      have ask : ∀ {x : Str} {c : Value} {p1 : Pos}, Names X x c → ∀ {Q E : Value → Shared → Prop}, Q c { t with heap := g3 } → wpAny (model X.prog X.w) (X.A.mark (some (.ref e))) (eval (.Name x p1) X.env) Q E { t with heap := g3 } := by
        rintro x c p1 ⟨hg, hdbg, hm | ⟨hm, hv, hnn⟩⟩ Q E q
        · exact ld_glob (X := X.suite e ((e, o3) :: (X.pn ++ pins))) S3 hg hm q hdbg
        · exact ld_blt (X := X.suite e ((e, o3) :: (X.pn ++ pins))) S3 hg hm hv q hnn hdbg
      induction hk with
      | nil =>
        intro w
        refine wpAny_handleBy_nil ?_
        obtain ⟨_, _, _, oe, vs, T, _, _, he, _, hd, h1, _⟩ := id f3
        unfold PySem.passOn
        refine wpAny_bind (wpAny_field he hd h1 ?_)
        rw [if_neg (show ¬ ((Value.ref T == Value.none) = true) by simp)]
        have last : wpAny (model X.prog X.w) X.A (setFlight (.ref e) X.env.frame) (fun _ t4 => wpAny (model X.prog X.w) X.A (throw (.ref e) : Sem Flow) (SP X pins D) X.xe t4) X.xe { t with heap := g3 } := by
          rw [fr]
          refine HandSPX.setFlight_upZ f3 ?_
          intro g4 f4 u4
          refine wpAny_throw (tk _ _ ?_)
          exact ⟨e, BB, s0, pins, τ, G, cls, d, rfl, J, nb, (up.trans u3).trans u4, .inr (.inr (st ▸ f4)), na, os, ag, w⟩
        first | exact wpAny_bind (wpAny_pure (wpAny_bind last)) | exact wpAny_bind last
      | @bare x c ts b0 su p1 p2 hs2 l2 hc hsu r ih =>
        rintro ⟨b, hb1, yes, no⟩
        have LM := PySem.W.exm_one (M := model X.prog X.w) (J3.kIn) LT hb1
        refine wpAny_handleBy_cons (codeAny_handlers_test (ask hc (LM.here ?_))) (by intro q; cases q)
        cases b with
        | false => exact ih (no rfl)
        | true =>
          refine codeAny_handlers_suite (HandSPX.lands_againZ f3 ?_)
          intro g4 f4 u4
          have J4 : Inv X pins τ G { t with heap := g4 } := J.landed nb f4.1 ((up.trans u3).trans u4) os ag
          obtain ⟨o4, v4, e4, z4, d4⟩ := f4.there
          have S4 := J4.suite e4 d4 na nL nF
          refine wpAny_mono ((hsu e o4 cls d (X.pn ++ pins) z4 ⟨_, d4⟩).run [] _ _ G _ S4 (yes rfl e na)) ?_ (fun _ _ z => False.elim z)
          intro fl t6 hq
          cases fl with
          | next => exact let ⟨τ6, G6, S6, q6⟩ := hq; ⟨τ6, G6, S6.unsuite ok, q6⟩
          | brk => exact let ⟨τ6, G6, S6, q6⟩ := hq; ⟨τ6, G6, S6.unsuite ok, q6⟩
          | cont => exact let ⟨τ6, G6, S6, q6⟩ := hq; ⟨τ6, G6, S6.unsuite ok, q6⟩
          | ret u => exact let ⟨x6, τ6, G6, S6, r6, q6⟩ := hq; ⟨x6, τ6, G6, S6.unsuite ok, r6, q6⟩
      | @named x n c i ts b0 su p1 p2 hs2 l2 hN hi hl hc hsu r ih =>
        rintro ⟨b, hb1, yes, no⟩
        have LM := PySem.W.exm_one (M := model X.prog X.w) (J3.kIn) LT hb1
        refine wpAny_handleBy_cons (codeAny_handlers_test (ask hc (LM.here ?_))) (by intro q; cases q)
        cases b with
        | false => exact ih (no rfl)
        | true =>
          refine codeAny_handlers_suite_as (HandSPX.lands_againZ f3 ?_)
          intro g4 f4 u4
          have J4 : Inv X pins τ G { t with heap := g4 } := J.landed nb f4.1 ((up.trans u3).trans u4) os ag
          obtain ⟨o4, v4, e4, z4, d4⟩ := f4.there
          have S4 := J4.suite e4 d4 na nL nF
          refine store_ok (X := X.suite e ((e, o4) :: (X.pn ++ pins))) (v := .ref e) S4 hN hi (.inl hl) rfl ?_ (.inr hl)
          intro t5 S5
          refine wpAny_mono ((hsu e o4 cls d (X.pn ++ pins) z4 ⟨_, d4⟩).run [] t5 _ G _ S5 (yes rfl e na)) ?_ (fun _ _ z => False.elim z)
          intro fl t6 hq
          have gone : ∀ {τ6 : L2.St} {G6 : Hp} {Q : Shared → Prop}, Inv (X.suite e ((e, o4) :: (X.pn ++ pins))) [] τ6 G6 t6 → (∀ t7, Inv X pins (τ6.set i none) G6 t7 → Q t7) →
              wpAny (model X.prog X.w) X.A (do bindName X.env n .none; unbindBehindTheSuite X.env n p2) (fun _ t7 => Q t7) X.xe t6 := by
            intro τ6 G6 Q S6 hq
            exact gone_ok (S6.unsuite ok) hN hi hl hq
          cases fl with
          | next =>
            obtain ⟨_, _, S6, q6⟩ := hq
            exact gone S6 fun t7 J7 => ⟨_, _, J7, q6⟩
          | brk =>
            obtain ⟨_, _, S6, q6⟩ := hq
            exact gone S6 fun t7 J7 => ⟨_, _, J7, q6⟩
          | cont =>
            obtain ⟨_, _, S6, q6⟩ := hq
            exact gone S6 fun t7 J7 => ⟨_, _, J7, q6⟩
          | ret u =>
            obtain ⟨_, _, _, S6, r6, q6⟩ := hq
            exact gone S6 fun t7 J7 => ⟨_, _, _, J7, r6, q6⟩
    exact all _ _ hh w
  refine wpAny_Try_except (wpAny_mono ((bo _ (X.pn ++ pins) out tko PassesOwn.looking).run [] s σ H D (I.toTry _) q) ?_ (fun _ _ h => h))
  intro fl t1 hq
  cases fl with
  | next => exact let ⟨τ, G, J, q⟩ := hq; wpAny_execs_nil ⟨τ, G, J.ofTry ok, q⟩
  | brk => exact let ⟨τ, G, J, q⟩ := hq; ⟨τ, G, J.ofTry ok, q⟩
  | cont => exact let ⟨τ, G, J, q⟩ := hq; ⟨τ, G, J.ofTry ok, q⟩
  | ret u => exact let ⟨x, τ, G, J, r, q⟩ := hq; ⟨x, τ, G, J.ofTry ok, r, q⟩
end
end Eld
set_option Elab.async false
set_option maxRecDepth 100000
set_option maxHeartbeats 4000000
set_option linter.all false
namespace Eld
open PySem PySem.Spec PyProof.Rows L2
/-! ## defs that may raise, and their calls, the wish of an exception hanging on the slots -/
section
variable {P : Program} {w : World} {K : PySem.W.Frag} {mg : Str → Option Value} {base : Heap}
theorem okGX {x ql : Str} {st : Stmt} {f : Addr} {fd : FuncData} {N ps : List Str} {k : Nat} {sp : Sp} (F : Fun K x ql st f fd) (S : FnScope N ps (defScope st)) (ln : ∀ vs H Q E, sp vs H Q E → vs.length = ps.length)
    (bo : ∀ (cdv : Value) (B : Around) (up : List Env) (z : Shared) (H : Hp) (vs : List V) (Q : VK) (E : XK), (B.deeper (envOfC ql (defScope st) z.heap.objs.size f cdv)).guards = some [] → Room k (B.deeper (envOfC ql (defScope st) z.heap.objs.size f cdv)) → sp vs H Q E →
      ∃ t, PSs (cxOf (L2.CX P w) P w K mg base N ql (defScope st) f cdv B up z H E) (defBody st) t ∧ t { nx := fun _ G => Q .non G, rt := Q } (start N vs) H) : FnG P w K mg base (L2.CX P w) (k + 1) f fd ps sp := by
  obtain ⟨oc, od, kV, doc, pm, an, cdv, ct, osl, rfl, lk, cd⟩ := F.ex
  refine fnG_of lk cd S ln ?_
  intro B up z H vs Q E gd rm hs
  exact bo cdv B up z H vs Q E gd rm hs
end
/-- called with the values xs by place and ys by the names ks -/
def CallVS (X : Cx) (fv : Value) (ks : List Str) (r : L2.St → List V → List V → Hp → VK → Prop) : Prop :=
  ∀ (pins : List (Addr × Obj)) (s : Shared) (σ : L2.St) (H : Hp) (xs ys : List V) (us ws : List Value) (Q : VK), Inv X pins σ H s → Vals xs us → Vals ys ws → r σ xs ys H Q →
    wpAny (model X.prog X.w) X.A (call fv us (ks.zip ws)) (EP X pins σ Q) X.xe s
section
variable {X : Cx} {CX : CXT} {k n : Nat} {f C : Addr} {fd : FuncData} {ps ks : List Str} {sp : Sp} {E : L2.St → XK} {g : List Value → List Value → List Value} {gV : List V → List V → List V}
def rFnS (n m : Nat) (gV : List V → List V → List V) (sp : Sp) (E : L2.St → XK) : L2.St → List V → List V → Hp → VK → Prop := fun σ xs ys H Q => xs.length = n ∧ ys.length = m ∧ sp (gV xs ys) H Q (E σ)
theorem callVS_fn (F : FnG X.prog X.w X.K X.mg X.base CX k f fd ps sp) (hb : KBn X.K fd ps n ks g gV) (hx : ∀ σ, PassesAt CX X σ (E σ)) (hG : X.A.guards = some []) (hr : Room k X.A) : CallVS X (.ref f) ks (rFnS n ks.length gV sp E) := by
  rintro pins s σ H xs ys us ws Q I rx ry ⟨l1, l2, h⟩
  have e1 : us.length = n := rx.length ▸ l1
  have e2 : ws.length = ks.length := ry.length ▸ l2
  refine wpAny_call (codeAny_mono (F.run X.A X.stack s H ⟨us, ks.zip ws⟩ (g us ws) (gV xs ys) Q (E σ) hG hr I.env0 (hb.to s us ws I.kIn e1 e2) (hb.rel rx ry) h) ?_)
  intro res s' hq
  match res, hq with
  | .error e, hq => exact hx σ pins H s e s' I hq
  | .ok (.ret u), hq => exact I.after hq
def rMkS (C : Addr) (n m : Nat) (gV : List V → List V → List V) (sp : Sp) (E : L2.St → XK) : L2.St → List V → List V → Hp → VK → Prop := fun σ xs ys H Q => xs.length = n ∧ ys.length = m ∧
  ∀ x dx, H x = none → H dx = none → dx ≠ x → sp (gV (.ref x :: xs) ys) (upd (upd H dx (.own x)) x (.ins C dx [])) (fun v G => v = .non ∧ Q (.ref x) G) (E σ)
theorem callVS_mk (M : Mk X.K C f) (F : FnG X.prog X.w X.K X.mg X.base CX k f fd ps sp) (hb : KBn X.K fd ps (n + 1) ks g gV) (hx : ∀ σ, PassesAt CX X σ (E σ)) (hG : X.A.guards = some []) (hr : Room (k + 1) X.A) : CallVS X (.ref C) ks (rMkS C n ks.length gV sp E) := by
  rintro pins s σ H xs ys us ws Q I rx ry ⟨l1, l2, h⟩
  have e1 : (Value.ref (s.heap.objs.size + 1) :: us).length = n + 1 := by
    rw [List.length_cons, ← rx.length, l1]
  have e2 : ws.length = ks.length := ry.length ▸ l2
  have hs := h (s.heap.objs.size + 1) s.heap.objs.size (I.hok.fresh (Nat.le_succ _)) (I.hok.fresh (Nat.le_refl _)) (Nat.ne_of_lt (Nat.lt_succ_self _))
  have J := Inv.made (C := C) I
  have rx' : Vals (V.ref (s.heap.objs.size + 1) :: xs) (Value.ref (s.heap.objs.size + 1) :: us) := .cons rfl rx
  refine wpAny_call (make_map (f := f) I.kIn M.makes M.init (beq_iff_eq.mp M.fn) (codeAny_mono (F.run _ X.stack _ _ ⟨Value.ref (s.heap.objs.size + 1) :: us, ks.zip ws⟩ _ _ _ (E σ) (make_guards hG) (hr.make C us (ks.zip ws))
    (J.env0.make C us (ks.zip ws)) (hb.to _ _ ws J.kIn e1 e2) (hb.rel rx' ry) hs) ?_))
  intro res s' hq
  match res, hq with
  | .error e, hq => exact hx σ pins _ _ e s' J hq
  | .ok (.ret u), hq =>
    obtain ⟨v, G, I', rv, ev, q⟩ := J.after hq
    subst ev
    exact ⟨rv, ⟨V.ref (s.heap.objs.size + 1), G, I', rfl, q⟩⟩
end
/-- the reading of a call -/
def tClS (r : L2.St → List V → List V → Hp → VK → Prop) (t tk : TA) : TE := fun σ H Q => t σ H fun xs H1 => tk σ H1 fun ys H2 => r σ xs ys H2 Q
section
variable {X : Cx} {ks : List Str} {fv : Value} {r : L2.St → List V → List V → Hp → VK → Prop} {x m : Str} {p pos apos : Pos} {e o : Expr} {es : List Expr} {kws : List Keyword} {ta : TE} {t tk : TA}
/-- f(e, ..) -/
theorem pn_posS (c : CallVS X fv [] r) (hg : Gl X x) (hm : X.mg x = some fv) (hk : PySem.W.keepIn X.K fv = true) (ha : PA X (e :: es) t) (hd : (x == ("__debug__" : Str)) = false := by decide)
    (he : starEach (e :: es) X.env = (false, eval e X.env) :: starEach es X.env := by rfl) (hp : (backTo pos (starEach es X.env)).any (·.1) = false := by rfl) : PE X (.Call (.Name x p) (e :: es) [] pos) (tClS r t tNil) := by
  constructor
  intro pins s σ H Q I h
  exact wpAny_Call_Name_kw (ld_glob I hg hm (PySem.W.callWith_K (h₀ := X.base) I.ok.mod.kin hk (thn (ha.run pos pins s σ H _ I h) fun us s1 ⟨xs, H1, I1, rx, q⟩ => ⟨I1.kIn, c pins s1 σ H1 xs [] us [] Q I1 rx .nil q⟩) he hp) hd)
/-- f() -/
theorem pn_noneS (c : CallVS X fv [] r) (hg : Gl X x) (hm : X.mg x = some fv) (hk : PySem.W.keepIn X.K fv = true) (hd : (x == ("__debug__" : Str)) = false := by decide) : PE X (.Call (.Name x p) [] [] pos) (tClS r tNil tNil) := by
  constructor
  intro pins s σ H Q I h
  exact wpAny_Call_Name_kw (ld_glob I hg hm (PySem.W.callWith_K0 I.kIn hk (c pins s σ H [] [] [] [] Q I .nil .nil h)) hd)
/-- f(e, .., k = v, ..) -/
theorem pn_kwS (c : CallVS X fv ks r) (hg : Gl X x) (hm : X.mg x = some fv) (hk : PySem.W.keepIn X.K fv = true) (ha : PA X (e :: es) t) (hkw : PK X kws tk) (hall : (backToKw pos (keywordEach kws X.env)).all (·.1.isSome) = true := by rfl)
    (hks : (backToKw pos (keywordEach kws X.env)).filterMap (·.1) = ks := by rfl) (hd : (x == ("__debug__" : Str)) = false := by decide) (he : starEach (e :: es) X.env = (false, eval e X.env) :: starEach es X.env := by rfl)
    (hp : ((backTo pos (starEach (e :: es) X.env)).any (·.1) || (backToKw pos (keywordEach kws X.env)).any (·.1.isNone)) = false := by rfl) : PE X (.Call (.Name x p) (e :: es) kws pos) (tClS r t tk) := by
  constructor
  intro pins s σ H Q I h
  subst hks
  exact wpAny_Call_Name_kw (ld_glob I hg hm (PySem.W.callWith_KW (h₀ := X.base) I.ok.mod.kin hk hall (thn (ha.run pos pins s σ H _ I h) fun us s1 ⟨xs, H1, I1, rx, q⟩ =>
    thn (hkw.run pos pins s1 σ H1 _ I1 q) fun ws s2 ⟨ys, H2, I2, ry, q2⟩ => ⟨I2.kIn, c pins s2 σ H2 xs ys us ws Q I2 rx ry q2⟩) hp he) hd)
/-- f(k = v, ..) -/
theorem pn_kw0S (c : CallVS X fv ks r) (hg : Gl X x) (hm : X.mg x = some fv) (hk : PySem.W.keepIn X.K fv = true) (hkw : PK X kws tk) (hall : (backToKw pos (keywordEach kws X.env)).all (·.1.isSome) = true := by rfl)
    (hks : (backToKw pos (keywordEach kws X.env)).filterMap (·.1) = ks := by rfl) (hd : (x == ("__debug__" : Str)) = false := by decide)
    (hp : ((backTo pos (starEach [] X.env)).any (·.1) || (backToKw pos (keywordEach kws X.env)).any (·.1.isNone)) = false := by rfl) : PE X (.Call (.Name x p) [] kws pos) (tClS r tNil tk) := by
  constructor
  intro pins s σ H Q I h
  subst hks
  exact wpAny_Call_Name_kw (ld_glob I hg hm (PySem.W.callWith_KW0 (h₀ := X.base) I.ok.mod.kin hk hall (thn (hkw.run pos pins s σ H _ I h) fun ws s2 ⟨ys, H2, I2, ry, q2⟩ => ⟨I2.kIn, c pins s2 σ H2 [] ys [] ws Q I2 .nil ry q2⟩) hp) hd)
/-- o.m(..): o is an instance of the class at C -/
def tMtS (C : Addr) (m : Str) (r : L2.St → List V → List V → Hp → VK → Prop) (ta : TE) (t tk : TA) : TE := fun σ H Q => ta σ H fun x H1 => ∃ a dx fs, x = .ref a ∧ H1 a = some (.ins C dx fs) ∧ List.lookup m fs = none ∧
  t σ H1 fun xs H2 => tk σ H2 fun ys H3 => r σ (.ref a :: xs) ys H3 Q
variable {C f : Addr} {pl : Sem Bool}
theorem pm_posS (c : CallVS X (.ref f) [] r) (hc : Cls X.K C) (hm : Meth X.K C m f) (ho : PE X o ta) (ha : PA X (e :: es) t) (he : starEach (e :: es) X.env = (false, eval e X.env) :: starEach es X.env := by rfl) (hp : (backTo pos (starEach es X.env)).any (·.1) = false := by rfl)
    (ht : eval (.Call (.Attribute o m apos) (e :: es) [] pos) X.env = (do
      let ov ← eval o X.env
      standAt apos.atName
      let (f, first) ← holding [ov] (getMethod ov m pl)
      callWith pos f first (backTo pos (starEach (e :: es) X.env)) (backToKw pos (keywordEach [] X.env))) := by rfl) : PE X (.Call (.Attribute o m apos) (e :: es) [] pos) (tMtS C m r ta t tNil) := by
  constructor
  intro pins s σ H Q I h
  refine PySem.W.methodCall_KW (pl := pl) (thn (ho.run pins s σ H _ I h) ?_) ht
  rintro u s1 ⟨y, H1, I1, ry, a, dx, fs, rfl, ea, l, q⟩
  obtain rfl : u = Value.ref a := ry
  exact getmeth_ok I1 ea hc hm l (PySem.W.callWith_K (first := [.ref a]) (h₀ := X.base) I.ok.mod.kin hm.kp (thn (ha.run pos pins s1 σ H1 _ I1 q) fun us s2 ⟨xs, H2, I2, rx, q2⟩ => ⟨I2.kIn, c pins s2 σ H2 _ [] (.ref a :: us) [] Q I2 (.cons (show RelV (V.ref a) (Value.ref a) from rfl) rx) .nil q2⟩) he hp)
theorem pm_noneS (c : CallVS X (.ref f) [] r) (hc : Cls X.K C) (hm : Meth X.K C m f) (ho : PE X o ta)
    (ht : eval (.Call (.Attribute o m apos) [] [] pos) X.env = (do
      let ov ← eval o X.env
      standAt apos.atName
      let (f, first) ← holding [ov] (getMethod ov m pl)
      callWith pos f first (backTo pos (starEach [] X.env)) (backToKw pos (keywordEach [] X.env))) := by rfl) : PE X (.Call (.Attribute o m apos) [] [] pos) (tMtS C m r ta tNil tNil) := by
  constructor
  intro pins s σ H Q I h
  refine PySem.W.methodCall_KW (pl := pl) (thn (ho.run pins s σ H _ I h) ?_) ht
  rintro u s1 ⟨y, H1, I1, ry, a, dx, fs, rfl, ea, l, q⟩
  obtain rfl : u = Value.ref a := ry
  exact getmeth_ok I1 ea hc hm l (PySem.W.callWith_K0 (first := [.ref a]) I1.kIn hm.kp (c pins s1 σ H1 _ [] [.ref a] [] Q I1 (.cons (show RelV (V.ref a) (Value.ref a) from rfl) .nil) .nil q))
theorem pm_kw0S (c : CallVS X (.ref f) ks r) (hc : Cls X.K C) (hm : Meth X.K C m f) (ho : PE X o ta) (hkw : PK X kws tk) (hall : (backToKw pos (keywordEach kws X.env)).all (·.1.isSome) = true := by rfl)
    (hks : (backToKw pos (keywordEach kws X.env)).filterMap (·.1) = ks := by rfl)
    (hp : ((backTo pos (starEach [] X.env)).any (·.1) || (backToKw pos (keywordEach kws X.env)).any (·.1.isNone)) = false := by rfl)
    (ht : eval (.Call (.Attribute o m apos) [] kws pos) X.env = (do
      let ov ← eval o X.env
      standAt apos.atName
      let (f, first) ← holding [ov] (getMethod ov m pl)
      callWith pos f first (backTo pos (starEach [] X.env)) (backToKw pos (keywordEach kws X.env))) := by rfl) : PE X (.Call (.Attribute o m apos) [] kws pos) (tMtS C m r ta tNil tk) := by
  constructor
  intro pins s σ H Q I h
  subst hks
  refine PySem.W.methodCall_KW (pl := pl) (thn (ho.run pins s σ H _ I h) ?_) ht
  rintro u s1 ⟨y, H1, I1, ry, a, dx, fs, rfl, ea, l, q⟩
  obtain rfl : u = Value.ref a := ry
  exact getmeth_ok I1 ea hc hm l (PySem.W.callWith_KW0 (first := [.ref a]) (h₀ := X.base) I.ok.mod.kin hm.kp hall (thn (hkw.run pos pins s1 σ H1 _ I1 q) fun ws s2 ⟨ys, H2, I2, ry', q2⟩ => ⟨I2.kIn, c pins s2 σ H2 _ ys [.ref a] ws Q I2 (.cons (show RelV (V.ref a) (Value.ref a) from rfl) .nil) ry' q2⟩) hp)
end
end Eld
set_option Elab.async false
set_option maxRecDepth 100000
set_option maxHeartbeats 4000000
set_option linter.all false
namespace Eld
open PySem PySem.Spec PyProof.Rows L2
/-! ## data with empty dicts in it -/
mutual
inductive Dx (K : PySem.W.Frag) (H : Hp) : V → PyData → Prop
  | non : Dx K H .non .none
  | bl (b : Bool) : Dx K H (.bl b) (.bool b)
  | int (i : Int) : Dx K H (.int i) (.int i)
  | str (x : Str) : Dx K H (.str x) (.str x)
  | lst {a : Addr} {xs : List V} {ds : List PyData} (h : H a = some (.lst xs)) (r : DxAll K H xs ds) : Dx K H (.ref a) (.list ds)
  | tup {a : Addr} {xs : List V} {ds : List PyData} (h : H a = some (.tup xs)) (r : DxAll K H xs ds) : Dx K H (.ref a) (.tuple ds)
  | emp {a : Addr} (h : H a = some (.dK [])) : Dx K H (.ref a) (.dict [])
inductive DxAll (K : PySem.W.Frag) (H : Hp) : List V → List PyData → Prop
  | nil : DxAll K H [] []
  | cons {v : V} {vs : List V} {d : PyData} {ds : List PyData} (h : Dx K H v d) (r : DxAll K H vs ds) : DxAll K H (v :: vs) (d :: ds)
end
section
variable {K : PySem.W.Frag} {H H' : Hp}
mutual
theorem Dx.same (s : Same H H') : ∀ (d : PyData) (v : V), Dx K H v d → Dx K H' v d
  | .none, _, h => by cases h; exact .non
  | .bool b, _, h => by cases h; exact .bl b
  | .int i, _, h => by cases h; exact .int i
  | .str x, _, h => by cases h; exact .str x
  | .list ds, _, h => by
    cases h with
    | lst e r => exact .lst (s _ _ e) (DxAll.same s ds _ r)
  | .tuple ds, _, h => by
    cases h with
    | tup e r => exact .tup (s _ _ e) (DxAll.same s ds _ r)
  | .dict _, _, h => by
    cases h with
    | emp e => exact .emp (s _ _ e)
theorem DxAll.same (s : Same H H') : ∀ (ds : List PyData) (vs : List V), DxAll K H vs ds → DxAll K H' vs ds
  | [], _, h => by cases h; exact .nil
  | d :: ds, _, h => by
    cases h with
    | cons h r => exact .cons (Dx.same s d _ h) (DxAll.same s ds _ r)
end
/-- the type's name -/
def tyD : PyData → String
  | .none => "NoneType"
  | .bool _ => "bool"
  | .int _ => "int"
  | .str _ => "str"
  | .list _ => "list"
  | .tuple _ => "tuple"
  | .dict _ => "dict"
theorem Dx.ty : ∀ {v : V} {d : PyData}, Dx K H v d → TyX K H v (.type (tyD d))
  | _, _, .non => .base .non
  | _, _, .bl b => .base (.bl b)
  | _, _, .int i => .base (.int i)
  | _, _, .str x => .base (.str x)
  | _, _, .lst h _ => .base (.lst h)
  | _, _, .tup h _ => .base (.tup h)
  | _, _, .emp h => .base (.dK h)
mutual
/-- no dict in it: plain data -/
theorem Dx.plain : ∀ (d : PyData) (v : V), Dx K H v d → d.hasDict = false → Dp K H v d
  | .none, _, h, _ => by cases h; exact .non
  | .bool b, _, h, _ => by cases h; exact .bl b
  | .int i, _, h, _ => by cases h; exact .int i
  | .str x, _, h, _ => by cases h; exact .str x
  | .list ds, _, h, n => by
    cases h with
    | lst e r => exact .lst (SqL.of e) (DxAll.plain ds _ r (by simpa [PyData.hasDict] using n))
  | .tuple ds, _, h, n => by
    cases h with
    | tup e r => exact .tup (SqT.of e) (DxAll.plain ds _ r (by simpa [PyData.hasDict] using n))
  | .dict _, _, h, n => by simp [PyData.hasDict] at n
theorem DxAll.plain : ∀ (ds : List PyData) (vs : List V), DxAll K H vs ds → PyData.hasDictAll ds = false → DpAll K H vs ds
  | [], _, h, _ => by cases h; exact .nil
  | d :: ds, _, h, n => by
    simp only [PyData.hasDictAll, Bool.or_eq_false_iff] at n
    cases h with
    | cons h r => exact .cons (Dx.plain d _ h n.1) (DxAll.plain ds _ r n.2)
end
theorem DxAll.length : ∀ {vs : List V} {ds : List PyData}, DxAll K H vs ds → vs.length = ds.length
  | _, _, .nil => rfl
  | _, _, .cons _ r => by rw [List.length_cons, List.length_cons, DxAll.length r]
theorem DxAll.at_ : ∀ {vs : List V} {ds : List PyData} {i : Nat} {v : V}, DxAll K H vs ds → vs[i]? = some v → ∃ d, ds[i]? = some d ∧ Dx K H v d
  | _, _, _, _, .nil, e => by simp at e
  | _, _, 0, _, .cons h _, e => by cases e; exact ⟨_, rfl, h⟩
  | _, _, i + 1, _, .cons _ r, e => DxAll.at_ (i := i) r (by simpa using e)
end
section
variable {X : Cx} {pins : List (Addr × Obj)} {σ : L2.St} {H : Hp} {s : Shared}
/-- the table of modules is there ahead of all -/
def ModsD (base : Heap) : Prop := ∃ o : Obj, base.get? sysModules = some o
theorem not_mods (I : Inv X pins σ H s) (m : ModsD X.base) {a : Addr} {o : HO} (e : H a = some o) : a ≠ sysModules := by
  rintro rfl
  obtain ⟨o', k⟩ := m
  rw [(I.bs _ _ k).2] at e
  cases e
mutual
theorem Dx.reads (I : Inv X pins σ H s) (m : ModsD X.base) : ∀ (d : PyData) (v : V) (u : Value), Dx X.K H v d → RelV v u → ∃ as, Reads s.heap u d as ∧ sysModules ∉ as
  | .none, _, _, h, r => by
    cases h
    cases r
    exact ⟨_, .none, by simp⟩
  | .bool b, _, _, h, r => by
    cases h
    cases r
    exact ⟨_, .bool b, by simp⟩
  | .int i, _, _, h, r => by
    cases h
    obtain ⟨t, rfl⟩ := r
    exact ⟨_, .int i t, by simp⟩
  | .str x, _, _, h, r => by
    cases h
    obtain ⟨t, rfl⟩ := r
    exact ⟨_, .str x t, by simp⟩
  | .list ds, _, _, h, r => by
    cases h with
    | lst e ra =>
      cases r
      obtain ⟨its, rv, ⟨o, n, ho, hc, _, hd⟩, _⟩ := I.list (SqL.of e)
      obtain ⟨as, hr, hn⟩ := DxAll.reads I m ds _ its ra rv
      refine ⟨_, .list ho hc hd hr, ?_⟩
      simp only [List.mem_cons, not_or]
      exact ⟨fun z => not_mods I m e z.symm, hn⟩
  | .tuple ds, _, _, h, r => by
    cases h with
    | tup e ra =>
      cases r
      obtain ⟨its, rv, ⟨o, ho, hc, n, hd⟩, _⟩ := I.tuple (SqT.of e)
      obtain ⟨as, hr, hn⟩ := DxAll.reads I m ds _ its ra rv
      exact ⟨_, .tuple ho hc hd hr, hn⟩
  | .dict _, _, _, h, r => by
    cases h with
    | @emp a e =>
      cases r
      obtain ⟨_, ns, vs, kv, o, es, ep, ho, ex, hd, _, pr, _⟩ := (show ObjOk X.prog X.w H s.heap a (.dK []) from I.hok a _ e)
      cases kv
      have el : es.toList = [] := by
        cases h2 : es.toList with
        | nil => rfl
        | cons z zs => rw [h2] at pr; cases pr
      refine ⟨_, .dict (as := []) (bs := []) ho ex.1 hd (by rw [el]; exact .nil) (by rw [el]; exact .nil), ?_⟩
      simp only [List.nil_append, List.append_nil, List.mem_singleton]
      intro z
      rw [z] at ns
      simp at ns
theorem DxAll.reads (I : Inv X pins σ H s) (m : ModsD X.base) : ∀ (ds : List PyData) (vs : List V) (us : List Value), DxAll X.K H vs ds → Vals vs us → ∃ as, ReadsAll s.heap us ds as ∧ sysModules ∉ as
  | [], _, _, h, r => by
    cases h
    cases r
    exact ⟨_, .nil, by simp⟩
  | d :: ds, _, _, h, r => by
    cases h with
    | cons h1 h2 =>
      cases r with
      | cons r1 r2 =>
        obtain ⟨as, q1, n1⟩ := Dx.reads I m d _ _ h1 r1
        obtain ⟨bs, q2, n2⟩ := DxAll.reads I m ds _ _ h2 r2
        refine ⟨_, .cons q1 q2, ?_⟩
        simp only [List.mem_append, not_or]
        exact ⟨n1, n2⟩
end
def rReprX (K : PySem.W.Frag) : List V → Hp → VK → Prop := fun xs H Q => ∃ a d, xs = [.ref a] ∧ Dx K H (.ref a) d ∧ d.showable = true ∧ d.depth ≤ 60 ∧ d.shown.length ≤ sizeLine ∧ Q (.str d.shown) H
theorem call_reprX (m : ModsD X.base) (hG : X.A.guards = some []) (hu : X.A.units + 64 < cLine) : CallR X (.builtin "repr") (rReprX X.K) := by
  rintro pins s σ H xs us Q I r ⟨a, d, rfl, dx, sh, dd, sz, q⟩
  obtain ⟨u, rfl, ru⟩ := vals1 r
  obtain ⟨as, rd, nm⟩ := Dx.reads I m d _ u dx ru
  cases ru
  exact repr_of_reads' rd sh (fun _ => nm) hG (by omega) (fun _ _ e => e) (fun h' u tk hk => ⟨.str d.shown, H, I.kept hk, ⟨_, rfl⟩, q⟩) sz
end
end Eld
set_option Elab.async false
set_option maxRecDepth 100000
set_option maxHeartbeats 4000000
set_option linter.all false
namespace Eld
open PySem L2
/-! ## what k02's parts say for any row: readings, walks, heaps, the box of draws -/
theorem r_yes {σ : L2.St} {H : Hp} {q : Bool → Hp → Prop} (h : q true H) : tYes σ H q := h
theorem iteNT {A B : Prop} (h : B) : if (!true) = true then A else B := by
  rw [if_neg (by decide)]
  exact h
theorem iteNF {A B : Prop} (h : A) : if (!false) = true then A else B := by
  rw [if_pos (by decide)]
  exact h
theorem pe_ty {X : Cx} {x : Str} {pos : Pos} (T : String) (hg : Gl X x) (hm : X.mg x = none) (hv : bootBuiltins x = some (.type T)) (hn : x ≠ "__name__" := by decide) (hd : (x == ("__debug__" : Str)) = false := by decide) : PE X (.Name x pos) (tC (.ty T)) := pe_bltn hg hm hv rfl hn hd
theorem pe_gc {X : Cx} {x : Str} {v : V} {pos : Pos} (hg : Gl X x) (h : ∃ u, X.mg x = some u ∧ RelV v u) (hd : (x == ("__debug__" : Str)) = false := by decide) : PE X (.Name x pos) (tC v) := by
  obtain ⟨u, hm, r⟩ := h
  exact pe_glob hg hm r hd
/-! ## walks of anything: an invariant over the turn and the heap -/
section
variable {K : PySem.W.Frag} {a : Addr} {xs : List V} {H0 : Hp} {Stop : Hp → Prop} {Turn : (Hp → Prop) → V → Hp → Prop}
theorem it_list (Pv : Nat → Hp → Prop) (h0 : Pv 0 H0) (hl : ∀ i H, i ≤ xs.length → Pv i H → SqL K H a xs) (hs : ∀ i x H, xs[i]? = some x → Pv i H → Turn (Pv (i + 1)) x H) (hd : ∀ H, Pv xs.length H → Stop H) :
    ∃ W : Nat → Nat → Hp → Prop, (∃ m, W 0 m H0) ∧ ∀ i m H, W i m H → ((Itl K a).stop i H ∧ Stop H) ∨ ((Itl K a).go i H ∧ ∃ Nx : Hp → Prop, (∀ H', Nx H' → ∃ m', m' < m ∧ W (i + 1) m' H') ∧ ∀ x H', (Itl K a).yld i H x H' → Turn Nx x H') := by
  refine ⟨fun i m H => m + i = xs.length ∧ Pv i H, ⟨xs.length, rfl, h0⟩, ?_⟩
  rintro i m H ⟨e, p⟩
  have q := hl i H (by omega) p
  cases m with
  | zero =>
    have e' : i = xs.length := by omega
    subst e'
    exact .inl ⟨⟨xs, q, Nat.le_refl _⟩, hd H p⟩
  | succ m =>
    have lt : i < xs.length := by omega
    refine .inr ⟨⟨xs, xs[i], q, List.getElem?_eq_getElem lt⟩, Pv (i + 1), fun H' p' => ⟨m, Nat.lt_succ_self _, by omega, p'⟩, ?_⟩
    rintro x H' ⟨rfl, y⟩
    exact hs i x _ (y xs q) p
theorem it_tup (Pv : Nat → Hp → Prop) (h0 : Pv 0 H0) (hl : ∀ i H, i ≤ xs.length → Pv i H → SqT K H a xs) (hs : ∀ i x H, xs[i]? = some x → Pv i H → Turn (Pv (i + 1)) x H) (hd : ∀ H, Pv xs.length H → Stop H) :
    ∃ W : Nat → Nat → Hp → Prop, (∃ m, W 0 m H0) ∧ ∀ i m H, W i m H → ((Itt K a).stop i H ∧ Stop H) ∨ ((Itt K a).go i H ∧ ∃ Nx : Hp → Prop, (∀ H', Nx H' → ∃ m', m' < m ∧ W (i + 1) m' H') ∧ ∀ x H', (Itt K a).yld i H x H' → Turn Nx x H') := by
  refine ⟨fun i m H => m + i = xs.length ∧ Pv i H, ⟨xs.length, rfl, h0⟩, ?_⟩
  rintro i m H ⟨e, p⟩
  have q := hl i H (by omega) p
  cases m with
  | zero =>
    have e' : i = xs.length := by omega
    subst e'
    exact .inl ⟨⟨xs, q, Nat.le_refl _⟩, hd H p⟩
  | succ m =>
    have lt : i < xs.length := by omega
    refine .inr ⟨⟨xs, xs[i], q, List.getElem?_eq_getElem lt⟩, Pv (i + 1), fun H' p' => ⟨m, Nat.lt_succ_self _, by omega, p'⟩, ?_⟩
    rintro x H' ⟨rfl, y⟩
    exact hs i x _ (y xs q) p
theorem it_range {lo : Int} {n : Nat} (Pv : Nat → Hp → Prop) (h0 : Pv 0 H0) (hs : ∀ i H, i < n → Pv i H → Turn (Pv (i + 1)) (.int (lo + i)) H) (hd : ∀ H, Pv n H → Stop H) :
    ∃ W : Nat → Nat → Hp → Prop, (∃ m, W 0 m H0) ∧ ∀ i m H, W i m H → ((Itr lo n).stop i H ∧ Stop H) ∨ ((Itr lo n).go i H ∧ ∃ Nx : Hp → Prop, (∀ H', Nx H' → ∃ m', m' < m ∧ W (i + 1) m' H') ∧ ∀ x H', (Itr lo n).yld i H x H' → Turn Nx x H') := by
  refine ⟨fun i m H => m + i = n ∧ Pv i H, ⟨n, rfl, h0⟩, ?_⟩
  rintro i m H ⟨e, p⟩
  cases m with
  | zero =>
    have e' : i = n := by omega
    subst e'
    exact .inl ⟨Nat.le_refl _, hd H p⟩
  | succ m =>
    refine .inr ⟨by show i < n; omega, Pv (i + 1), fun H' p' => ⟨m, Nat.lt_succ_self _, by omega, p'⟩, ?_⟩
    rintro x H' ⟨rfl, rfl⟩
    exact hs i _ (by omega) p
end
theorem Same.upd_new {H : Hp} {p : Addr} {o : HO} (h : H p = none) : Same H (upd H p o) := fun b u e => by rw [upd_ne (ne_of_none e h)]; exact e
/-- a list D that is made while all of G stands -/
theorem Same.over {G H : Hp} {D : Addr} {o : HO} (s : Same G H) (d : G D = none) : Same G (upd H D o) := fun b u e => by
  rw [upd_ne (ne_of_none e d)]
  exact s b u e
/-- the box of draws at b: a great number, its flag, its rest, how many draws so far (at most n) -/
def BoxAt (H : Hp) (b : Addr) (n : Nat) : Prop := ∃ (g m c : Int) (t : Bool), H b = some (.lst [.int g, .bl t, .int m, .int c]) ∧ 0 ≤ g ∧ 0 ≤ m ∧ m < 2147483648 ∧ 0 ≤ c ∧ c ≤ n
def But (b : Addr) (H H' : Hp) : Prop := ∀ a o, a ≠ b → H a = some o → H' a = some o
theorem SqL.same {K : PySem.W.Frag} {H H' : Hp} {a : Addr} {xs : List V} (h : SqL K H a xs) (s : Same H H') : SqL K H' a xs := by
  rcases h with (e | ⟨o, e⟩) | q
  · exact .inl (.inl (s _ _ e))
  · exact .inl (.inr ⟨o, s _ _ e⟩)
  · exact .inr q
theorem BoxAt.mono {H : Hp} {b : Addr} {n m : Nat} (h : BoxAt H b n) (l : n ≤ m) : BoxAt H b m := by
  obtain ⟨g, m', c, t, h1, h2, h3, h4, h5, h6⟩ := h
  exact ⟨g, m', c, t, h1, h2, h3, h4, h5, by omega⟩
theorem BoxAt.same {H H' : Hp} {b : Addr} {n : Nat} (h : BoxAt H b n) (s : Same H H') : BoxAt H' b n := by
  obtain ⟨g, m', c, t, h1, r⟩ := h
  exact ⟨g, m', c, t, s _ _ h1, r⟩
/-- a list of this length stands apart from a box -/
theorem BoxAt.ne {H : Hp} {b a : Addr} {n : Nat} {o : HO} (h : BoxAt H b n) (e : H a = some o) (d : ∀ g m c t, o ≠ .lst [.int g, .bl t, .int m, .int c]) : a ≠ b := by
  obtain ⟨g, m', c, t, h1, r⟩ := h
  exact ne_of e h1 (d _ _ _ _)
theorem But.of {b : Addr} {H H' : Hp} (s : Same H H') : But b H H' := fun a o _ e => s a o e
theorem But.refl {b : Addr} (H : Hp) : But b H H := fun _ _ _ e => e
theorem But.trans {b : Addr} {H H' H'' : Hp} (s : But b H H') (t : But b H' H'') : But b H H'' := fun a o n e => t a o n (s a o n e)
theorem if_both {c : Bool} {ta tb : TE} {σ : L2.St} {H : Hp} {Q : VK} (R : VK → Prop) (hA : c = true → ∀ Q, R Q → ta σ H Q) (hB : c = false → ∀ Q, R Q → tb σ H Q) (h : R Q) : if c = true then ta σ H Q else tb σ H Q := by
  cases c with
  | true => exact hA rfl Q h
  | false => exact hB rfl Q h
theorem r_for {wi : TI} {g : TG} {tb : TS} {D : Ends} {σ : L2.St} {H : Hp} (h : wi σ H fun J H1 => ∃ W : Nat → Nat → L2.St → Hp → Prop, (∃ m, W 0 m σ H1) ∧ ∀ i m σ H, W i m σ H →
    (J.stop i H ∧ D.nx σ H) ∨ (J.go i H ∧ ∃ N : L2.St → Hp → Prop, (∀ σ' H', N σ' H' → ∃ m', m' < m ∧ W (i + 1) m' σ' H') ∧ ∀ x H', J.yld i H x H' → g x σ H' fun σ2 H2 => tb { D with nx := N, ct := N, bk := D.nx } σ2 H2)) : tFor wi g tb D σ H := h
theorem r_lc {wi : TI} {g : TG} {tt : TT} {te : TE} {vs : List Nat} {σ : L2.St} {H : Hp} {Q : VK} (h : wi σ H fun J H1 => ∀ D, H1 D = none → ∃ W : Nat → Nat → Hp → Prop, (∃ m, W 0 m (upd H1 D (.lst []))) ∧ ∀ i m H, W i m H →
    (J.stop i H ∧ Q (.ref D) H) ∨ (J.go i H ∧ ∃ Nx : Hp → Prop, (∀ H', Nx H' → ∃ m', m' < m ∧ W (i + 1) m' H') ∧ ∀ x H', J.yld i H x H' → g x (wipe σ vs) H' fun σ2 H2 => wipe σ2 vs = wipe σ vs ∧ tt σ2 H2 fun b H3 =>
      if b = true then te σ2 H3 fun y H4 => ∃ acc, H4 D = some (.lst acc) ∧ acc.length < sizeLine ∧ Nx (upd H4 D (.lst (acc ++ [y]))) else Nx H3)) : tLc wi g tt te vs σ H Q := h
theorem r_il {K : PySem.W.Frag} {tl : TE} {σ : L2.St} {H : Hp} {R : It → Hp → Prop} (h : tl σ H fun x H1 => ∃ a, x = .ref a ∧ (∃ xs, SqL K H1 a xs) ∧ R (Itl K a) H1) : iList K tl σ H R := h
theorem r_par {i j : Nat} {ta : TA} {D : Ends} {σ : L2.St} {H : Hp} (h : ta σ H fun vs H1 => ∃ v w, vs = [v, w] ∧ D.nx ((σ.set i (some v)).set j (some w)) H1) : tPar i j ta D σ H := h
end Eld
set_option Elab.async false
set_option maxRecDepth 100000
set_option maxHeartbeats 4000000
set_option linter.all false
namespace Eld
open PySem PySem.Spec PyProof.Rows L2
/-! ## the package's errors with the one attribute given -/
def gv (v : V) : List (Str × V) := [("given", v)]
def spErr (C : Addr) : Sp := fun vs H Q _ => ∃ a v, vs = [.ref a, v] ∧ H a = some (exo a C none) ∧ ∀ dx, H dx = none → dx ≠ a → Q .non (upd (upd H dx (exd dx (gv v))) a (exo a C (some dx)))
section
variable (P : Program) (w : World) (K : PySem.W.Frag) (mg : Str → Option Value) (base : Heap)
/-- the error class x at C -/
def ErrD (x : Str) (C : Addr) : Prop := ∃ (f : Addr) (fd : FuncData), mg x = some (.ref C) ∧ OexC K C ∧ PySem.W.findIn K (.ref C) "__init__" = some (some (.ref f)) ∧ PySem.W.typeIn K (.ref f) = some (.type "function") ∧
  PySem.W.findIn K (.ref C) "given" = some none ∧ FnOk P w K mg base CX0 1 f fd ["self", "given"] (spErr C) ∧ Binds K fd ["self", "given"] []
end
section
variable {X : Cx} {x : Str} {C : Addr} {W : WX} {e : Expr} {es : List Expr} {ta : TA} {p pos pos2 : Pos}
/-- raise x(e) -/
theorem ps_err (d : ErrD X.prog X.w X.K X.mg X.base x C) (hc : X.calm = true) (tk : Takes X W) (hr : Room 2 X.A) (hg : Gl X x) (ha : PA X (e :: es) ta)
    (hd : (x == ("__debug__" : Str)) = false := by decide) (he : starEach (e :: es) X.env = (false, eval e X.env) :: starEach es X.env := by rfl) (hp : (backTo pos (starEach es X.env)).any (·.1) = false := by rfl) :
    PS X (.Raise (some (.Call (.Name x p) (e :: es) [] pos)) none pos2) (fun _ σ H => tMkO C (spErr C) [] ta σ H fun cls d G => W cls d σ G) := by
  obtain ⟨f, fd, gm, T, iC, tI, _, F, b⟩ := d
  exact ps_raise hc tk (pmk_oex (CX := CX0) (ds := []) (dvs := []) T iC tI F hr b .nil pass0 hg gm ha hd he hp)
end
theorem exo_exd {a d C : Addr} {o : Option Addr} : True := trivial
theorem err_done {H1 : Hp} {C : Addr} {v : V} {Qx : XK} (h : ∀ d G, H1 d = none → Same H1 G → G d = some (.xd (gv v)) → Qx (.ref C) (some d) G) :
    ([v] : List V).length ≤ 1000 ∧ ∀ a, H1 a = none → spErr C (.ref a :: ([v] ++ [])) (upd H1 a (exo a C none)) (fun u H2 => u = .non ∧ ∃ (d : Addr) (fs : List (Str × V)), H2 a = some (exo a C (some d)) ∧ H2 d = some (exd d fs) ∧ H1 d = none ∧ Qx (.ref C) (some d) (upd (del H2 a) d (.xd fs))) fun _ _ _ => False := by
  refine ⟨by show 1 ≤ 1000; decide, fun a ha => ⟨a, v, rfl, upd_same, fun dx hdx hne => ⟨rfl, dx, gv v, upd_same, ?_, ?_, ?_⟩⟩⟩
  · rw [upd_ne hne]
    exact upd_same
  · rw [upd_ne hne] at hdx
    exact hdx
  · rw [upd_ne hne] at hdx
    refine h dx _ hdx (fun b o e => ?_) upd_same
    rw [upd_ne (ne_of_none e hdx), del_ne (ne_of_none e ha), upd_ne (ne_of_none e ha), upd_ne (ne_of_none e hdx), upd_ne (ne_of_none e ha)]
    exact e
end Eld
set_option Elab.async false
set_option maxRecDepth 100000
set_option maxHeartbeats 4000000
set_option linter.all false
namespace Eld
open PySem PySem.Spec PyProof.Rows L2
/-! ## defs, methods and classes by name that may raise -/
section
variable (P : Program) (w : World) (K : PySem.W.Frag) (mg : Str → Option Value) (base : Heap)
def DefX (k : Nat) (x : Str) (n : Nat) (ks : List Str) (gV : List V → List V → List V) (sp : Sp) : Prop :=
  ∃ (f : Addr) (fd : FuncData) (ps : List Str) (g : List Value → List Value → List Value), mg x = some (.ref f) ∧ PySem.W.keepIn K (.ref f) = true ∧ FnG P w K mg base (L2.CX P w) k f fd ps sp ∧ KBn K fd ps n ks g gV
def MetX (k : Nat) (C : Addr) (m : Str) (n : Nat) (ks : List Str) (gV : List V → List V → List V) (sp : Sp) : Prop :=
  ∃ (f : Addr) (fd : FuncData) (ps : List Str) (g : List Value → List Value → List Value), Cls K C ∧ Meth K C m f ∧ FnG P w K mg base (L2.CX P w) k f fd ps sp ∧ KBn K fd ps n ks g gV
def MakX (k : Nat) (x : Str) (C : Addr) (n : Nat) (ks : List Str) (gV : List V → List V → List V) (sp : Sp) : Prop :=
  ∃ (f : Addr) (fd : FuncData) (ps : List Str) (g : List Value → List Value → List Value), mg x = some (.ref C) ∧ Mk K C f ∧ FnG P w K mg base (L2.CX P w) k f fd ps sp ∧ KBn K fd ps (n + 1) ks g gV
end
section
variable {X : Cx} {W : WX} {ks : List Str} {k j n : Nat} {gV : List V → List V → List V} {sp : Sp} {x m : Str} {C : Addr} {p pos apos : Pos} {e o : Expr} {es : List Expr} {ta : TE} {t : TA} {pl : Sem Bool}
theorem pdX_pos (d : DefX X.prog X.w X.K X.mg X.base k x n [] gV sp) (tk : Takes X W) (hG : X.A.guards = some []) (hr : Room j X.A) (hk : k ≤ j) (hg : Gl X x) (ha : PA X (e :: es) t) (hd : (x == ("__debug__" : Str)) = false := by decide)
    (he : starEach (e :: es) X.env = (false, eval e X.env) :: starEach es X.env := by rfl) (hp : (backTo pos (starEach es X.env)).any (·.1) = false := by rfl) : PE X (.Call (.Name x p) (e :: es) [] pos) (tClS (rFnS n 0 gV sp (WE W)) t tNil) := by
  obtain ⟨f, fd, ps, g, hm, kp, F, b⟩ := d
  exact pn_posS (callVS_fn F b (fun σ => passAt tk σ) hG (hr.mono hk)) hg hm kp ha hd he hp
theorem pkX_pos (d : MakX X.prog X.w X.K X.mg X.base k x C n [] gV sp) (tk : Takes X W) (hG : X.A.guards = some []) (hr : Room j X.A) (hk : k + 1 ≤ j) (hg : Gl X x) (ha : PA X (e :: es) t) (hd : (x == ("__debug__" : Str)) = false := by decide)
    (he : starEach (e :: es) X.env = (false, eval e X.env) :: starEach es X.env := by rfl) (hp : (backTo pos (starEach es X.env)).any (·.1) = false := by rfl) : PE X (.Call (.Name x p) (e :: es) [] pos) (tClS (rMkS C n 0 gV sp (WE W)) t tNil) := by
  obtain ⟨f, fd, ps, g, hm, M, F, b⟩ := d
  exact pn_posS (callVS_mk M F b (fun σ => passAt tk σ) hG (hr.mono hk)) hg hm M.kp ha hd he hp
theorem pqX_pos (d : MetX X.prog X.w X.K X.mg X.base k C m n [] gV sp) (tk : Takes X W) (hG : X.A.guards = some []) (hr : Room j X.A) (hk : k ≤ j) (ho : PE X o ta) (ha : PA X (e :: es) t) (he : starEach (e :: es) X.env = (false, eval e X.env) :: starEach es X.env := by rfl)
    (hp : (backTo pos (starEach es X.env)).any (·.1) = false := by rfl) (ht : eval (.Call (.Attribute o m apos) (e :: es) [] pos) X.env = (do
      let ov ← eval o X.env
      standAt apos.atName
      let (f, first) ← holding [ov] (getMethod ov m pl)
      callWith pos f first (backTo pos (starEach (e :: es) X.env)) (backToKw pos (keywordEach [] X.env))) := by rfl) : PE X (.Call (.Attribute o m apos) (e :: es) [] pos) (tMtS C m (rFnS n 0 gV sp (WE W)) ta t tNil) := by
  obtain ⟨f, fd, ps, g, hc, hm, F, b⟩ := d
  exact pm_posS (callVS_fn F b (fun σ => passAt tk σ) hG (hr.mono hk)) hc hm ho ha he hp ht
end
section
variable {σ : L2.St} {H : Hp} {Q : VK} {E : L2.St → XK}
theorem r_clS {r : L2.St → List V → List V → Hp → VK → Prop} {t tk : TA} (h : t σ H fun xs H1 => tk σ H1 fun ys H2 => r σ xs ys H2 Q) : tClS r t tk σ H Q := h
theorem r_fnS {n m : Nat} {gV : List V → List V → List V} {sp : Sp} {xs ys : List V} (h1 : xs.length = n) (h2 : ys.length = m) (h : sp (gV xs ys) H Q (E σ)) : rFnS n m gV sp E σ xs ys H Q := ⟨h1, h2, h⟩
theorem r_mkS {C : Addr} {n m : Nat} {gV : List V → List V → List V} {sp : Sp} {xs ys : List V} (h1 : xs.length = n) (h2 : ys.length = m)
    (h : ∀ x dx, H x = none → H dx = none → dx ≠ x → sp (gV (.ref x :: xs) ys) (upd (upd H dx (.own x)) x (.ins C dx [])) (fun v G => v = .non ∧ Q (.ref x) G) (E σ)) : rMkS C n m gV sp E σ xs ys H Q := ⟨h1, h2, h⟩
theorem r_mtS {C : Addr} {m : Str} {r : L2.St → List V → List V → Hp → VK → Prop} {ta : TE} {t tk : TA} (h : ta σ H fun x H1 => ∃ a dx fs, x = .ref a ∧ H1 a = some (.ins C dx fs) ∧ List.lookup m fs = none ∧ t σ H1 fun xs H2 => tk σ H2 fun ys H3 => r σ (.ref a :: xs) ys H3 Q) : tMtS C m r ta t tk σ H Q := h
end
end Eld
set_option Elab.async false
set_option maxRecDepth 100000
set_option maxHeartbeats 4000000
set_option linter.all false
namespace Eld
open PySem PySem.Spec PyProof.Rows L2
section
variable {P : Program} {w : World} {K : PySem.W.Frag} {mg mb : Str → Option Value} {CX : CXT} {k : Nat} {fa a : Addr} {fd : FuncData} {x : Str} {sp : Sp} {z : Shared} {vs : List Value} {ns : List Int}
/-- from an abstract heap G in which at most the script is told -/
theorem law_fromM (G : Hp) (only : Only G) (here : ∀ b, G b ≠ none → b = a) (notK : G a ≠ none → K.lookup a = none) (seen : SqL K G a (ns.map V.int)) (ok : HOk P w G z.heap)
    (inK : K.In z.heap) (gl : z.heap.Ns mainGlobals mg) (bn : z.heap.Ns builtinsNs mb) (bb : ∀ y : Str, y ≠ "__name__" → mb y = bootBuiltins y) (nolim : z.heap.NoLimit) (gens : z.gens = #[])
    (ha : z.heap.get? a = some { cls := .type "list", data := .seq vs.toArray }) (rm : Room k callerA) (hmod : ∃ mm, z.heap.Ns sysModules mm) (F : ∀ base : Heap, K.In base → base.Ns mainGlobals mg → ModsD base → FnG P w K mg base CX k fa fd [x] sp)
    (bt : ∀ (s : Shared) (u : Value), BindsTo s fd ⟨[u], []⟩ [(x, u)]) (want : sp [.ref a] G (fun v _ => v = .bl true) fun _ _ _ => False) (noErr : ∀ e z', CX [] G z (fun _ _ _ => False) e z' → False) :
    codeAny (model P w) callerA (.call (.ref fa) ⟨[.ref a], []⟩) (LawR z) z := by
  have out : ∀ {b : Addr} {o : Obj}, z.heap.get? b = some o → b ≠ a → G b = none := fun {b o} _ ne => by
    cases q : G b with
    | none => rfl
    | some u => exact absurd (here b (by rw [q]; exact Option.some_ne_none u)) ne
  have off : ∀ {b : Addr} {m : Str → Option Value}, z.heap.Ns b m → (hidT z.heap G).Ns b m := by
    rintro b m ⟨o, es, ep, e, d, r⟩
    have ne : b ≠ a := by
      rintro rfl
      have e' := ha.symm.trans e
      cases e'
      cases d
    exact ⟨o, es, ep, hidT_get e (out e ne), d, r⟩
  have kb : K.In (hidT z.heap G) := by
    intro b o e
    have e1 := inK b o e
    refine hidT_get e1 ?_
    by_cases q : G b = none
    · exact q
    · have eb := here b q
      subst eb
      rw [notK q] at e
      cases e
  obtain ⟨mc, l1, l2⟩ := nolim
  have hmB : ModsD (hidT z.heap G) := by
    obtain ⟨mm, hm⟩ := hmod
    obtain ⟨o, es, ep, e, _⟩ := off hm
    exact ⟨o, e⟩
  have md : Mod K mg (hidT z.heap G) := ⟨kb, off gl, ⟨mb, off bn, bb⟩, ⟨mc, off l1, l2⟩⟩
  have env : Env0 P w K mg (hidT z.heap G) callerA [] z G :=
    { frames := rfl, mod := md, bs := fun b o e => of_hidT e, bsz := Nat.le_of_eq (hidT_size _ _), funs := trivial, frf := fun b hb => (List.not_mem_nil hb).elim, hok := ok, bare := .of_eq gens }
  refine codeAny_mono ((F _ kb (off gl) hmB).run callerA [] z G ⟨[.ref a], []⟩ [.ref a] [.ref a] _ _ rfl rm env (bt z (.ref a)) (.cons rfl .nil) want) ?_
  intro r z' q
  match r, q with
  | .error e, q => exact (noErr e z' q).elim
  | .ok (.ret u), ⟨v, G', os, bare, un, ok', rv, q⟩ =>
    cases (show v = .bl true from q)
    cases (show u = Value.bool true from rv)
    refine ⟨rfl, OldK.of_keep ?_, os, bare⟩
    intro b o e
    rcases only b with n | ⟨ob, xs, n⟩
    · exact un.keep b o e n (fun h => (List.not_mem_nil h).elim) (fun h => (List.not_mem_nil h).elim)
    · have e1 := (ok b _ n).1
      have e2 := (ok' b _ (un.frzs b ob _ n)).1
      exact e2.trans (e1.symm.trans e)
theorem law_callM (inK : K.In z.heap) (gl : z.heap.Ns mainGlobals mg) (bn : z.heap.Ns builtinsNs mb) (bb : ∀ y : Str, y ≠ "__name__" → mb y = bootBuiltins y) (nolim : z.heap.NoLimit) (gens : z.gens = #[])
    (ha : z.heap.get? a = some { cls := .type "list", data := .seq vs.toArray }) (hi : IntsAre vs ns) (hl : ns.length ≤ sizeLine) (rm : Room k callerA)
    (hmod : ∃ mm, z.heap.Ns sysModules mm) (F : ∀ base : Heap, K.In base → base.Ns mainGlobals mg → ModsD base → FnG P w K mg base CX k fa fd [x] sp) (bt : ∀ (s : Shared) (u : Value), BindsTo s fd ⟨[u], []⟩ [(x, u)])
    (want : ∀ G : Hp, Only G → SqL K G a (ns.map V.int) → sp [.ref a] G (fun v _ => v = .bl true) fun _ _ _ => False) (noErr : ∀ G e z', CX [] G z (fun _ _ _ => False) e z' → False) :
    codeAny (model P w) callerA (.call (.ref fa) ⟨[.ref a], []⟩) (LawR z) z := by
  have rv := vals_ints hi
  have small : (ns.map V.int).length ≤ sizeLine := by rw [List.length_map]; exact hl
  cases hk : K.lookup a with
  | none =>
    let ob : Obj := { cls := .type "list", data := .seq vs.toArray }
    let G : Hp := fun b => if b = a then some (.frz ob (.lst (ns.map V.int))) else none
    have ga : G a = some (.frz ob (.lst (ns.map V.int))) := if_pos rfl
    have gn : ∀ b, b ≠ a → G b = none := fun b h => if_neg h
    have only : Only G := fun b => (Classical.em (b = a)).elim (fun h => .inr ⟨ob, _, h ▸ ga⟩) fun h => .inl (gn b h)
    have seen : SqL K G a (ns.map V.int) := .inl (.inr ⟨ob, ga⟩)
    refine law_fromM G only (fun b h => Classical.byContradiction fun n => h (gn b n)) (fun _ => hk) seen ?_ inK gl bn bb nolim gens ha rm hmod F bt (want G only seen) (noErr G)
    intro b u e
    by_cases h : b = a
    · subst h
      rw [ga] at e
      cases e
      exact ⟨ha, small, vs, _, rv, ha⟩
    · rw [gn b h] at e
      cases e
  | some o =>
    have e := inK a o hk
    rw [ha] at e
    cases e
    have seen : SqL K (fun _ => none) a (ns.map V.int) := .inr ⟨_, vs.toArray, _, hk, rfl, rfl, rfl, by rw [List.size_toArray, hi.length]; exact hl, by simpa using rv⟩
    exact law_fromM (fun _ => none) (fun _ => .inl rfl) (fun _ h => absurd rfl h) (fun h => absurd rfl h) seen (fun _ _ e => by cases e) inK gl bn bb nolim gens ha rm hmod F bt (want _ (fun _ => .inl rfl) seen) (noErr _)
end
/-- the goal that the head leaves -/
theorem walk_M {l : PySem.W.OpenLaw} {n k : Nat} {q : Program} {loose : List Str} {XP : (Str → Option Value) → Heap → Prop} {YP : World → Heap → Prop} {d : DefRec} {K : Params → PySem.W.Frag} {sp : PySem.W.Frag → Sp} {x : Str}
    (hn : l.most = some n) (n2 : n ≤ sizeLine) (hd : d.params.defaults = []) (rm : Room k callerA) (hi : importsNone q = true) (hY : ∀ (w : World) (h : Heap), YP w h → (K w.params).In h)
    (F : ∀ (w : World) (mg : Str → Option Value) (fa : Addr) (h : Heap), (K w.params).In h → h.Ns mainGlobals mg → mg d.name = some (.ref fa) →
      ∃ fd : FuncData, (∀ (s : Shared) (u : Value), BindsTo s fd ⟨[u], []⟩ [(x, u)]) ∧ ∀ base : Heap, (K w.params).In base → base.Ns mainGlobals mg → ModsD base → FnG l.prog w (K w.params) mg base CX0 k fa fd [x] (sp (K w.params)))
    (want : ∀ (w : World) (G : Hp) (a : Addr) (ns : List Int), ns.length ≤ n → SqL (K w.params) G a (ns.map V.int) → sp (K w.params) [.ref a] G (fun v _ => v = .bl true) fun _ _ _ => False) :
    PySem.W.WalkO q loose XP YP l.row.toRowW d [] (fun f vs => PySem.call f vs) := by
  refine Att.attach_call hn hd ?_
  intro w s₀ s₁ mg mb fa o pm cd doc a vs ns G Y ho hdt hcd hmg hobj hints hlen hg
  obtain ⟨fd, hb, hF⟩ := F w mg fa _ (hY w _ Y) G.T.g hmg
  exact law_callM (CX := CX0) (hY w _ Y) G.T.g G.T.b G.T.builtins G.T.nolimit hg hobj hints (Nat.le_trans hlen n2) rm (let ⟨mm, hm, _⟩ := (G.T.seer hi).mods; ⟨mm, hm⟩) hF hb (fun G _ h => want w G a ns hlen h) fun _ _ _ h => h.elim
end Eld
set_option Elab.async false
set_option maxRecDepth 100000
set_option maxHeartbeats 4000000
set_option linter.all false
namespace Eld
open PySem L2
local macro_rules | `(tactic| walk_at "r1") => `(tactic| with_reducible first
  | refine r_seq ?_ | refine r_asgN ?_ | refine r_asg ?_ | refine r_gname ?_ | refine r_gsub ?_ | refine r_var rfl ?_ | refine r_c ?_ | refine r_op ?_ | refine r_un ?_ | refine r_u ?_ | refine r_i0 ?_ | refine r_cb ?_ | refine r_cons ?_ | refine r_nil ?_ | refine r_cl ?_ | refine r_fn rfl rfl ?_ | refine r_mt ?_
  | refine r_test ?_ | refine r_tb ?_ | refine r_bl ?_ | refine r_and ?_ | refine r_or ?_ | refine r_not ?_ | refine r_andV ?_ | refine r_orV ?_ | refine r_notV ?_ | refine r_ifX ?_ | refine r_ifs ?_ | refine r_chain ?_ | refine r_ret ?_ | refine r_next ?_ | refine r_drop ?_ | refine iteT ?_ | refine iteF ?_ | refine iteNT ?_ | refine iteNF ?_
  | refine r_int1 ?_ | refine r_boolB ?_ | refine r_eqI ?_ | refine r_neI ?_ | refine r_eqB ?_ | refine r_neB ?_ | refine r_eqS ?_ | refine r_neS ?_ | refine r_abs ?_ | refine r_max2 ?_ | refine r_min2 ?_ | refine r_yes ?_ | refine r_tup ?_ | refine r_sfld ?_ | refine r_m0 ?_ | refine r_m1 ?_ | refine r_lst ?_ | refine r_rng1 ?_ | refine r_rng2 ?_ | refine r_ixL (SqL.of (by assumption)) rfl ?_)
local macro_rules | `(tactic| walk_at "r") => `(tactic| repeat (first | walk_at "r1" | ((with_reducible refine r_var ?hv ?_); (case hv => rfl))))

def top (i : Nat) : Stmt := PySem.Challenge.pw_endlots_k03_refused_spaces_and_stores.main.body.getD i (.Pass ⟨0, 0, 0, 0⟩)
abbrev s_InvalidSizes___init__ : Stmt := inClass (top 2) 0
theorem sc_InvalidSizes___init__ : FnScope ["self", "given"] ["self", "given"] (defScope s_InvalidSizes___init__) := ⟨rfl, rfl, rfl, by decide +kernel, rfl, by decide +kernel, by decide +kernel⟩
abbrev s_InvalidStore___init__ : Stmt := inClass (top 3) 0
theorem sc_InvalidStore___init__ : FnScope ["self", "given"] ["self", "given"] (defScope s_InvalidStore___init__) := ⟨rfl, rfl, rfl, by decide +kernel, rfl, by decide +kernel, by decide +kernel⟩
abbrev s_InvalidValues___init__ : Stmt := inClass (top 4) 0
theorem sc_InvalidValues___init__ : FnScope ["self", "given"] ["self", "given"] (defScope s_InvalidValues___init__) := ⟨rfl, rfl, rfl, by decide +kernel, rfl, by decide +kernel, by decide +kernel⟩
abbrev s_InvalidLine___init__ : Stmt := inClass (top 5) 0
theorem sc_InvalidLine___init__ : FnScope ["self", "given"] ["self", "given"] (defScope s_InvalidLine___init__) := ⟨rfl, rfl, rfl, by decide +kernel, rfl, by decide +kernel, by decide +kernel⟩
abbrev s_is_integer : Stmt := top 7
theorem sc_is_integer : FnScope ["value"] ["value"] (defScope s_is_integer) := ⟨rfl, rfl, rfl, by decide +kernel, rfl, by decide +kernel, by decide +kernel⟩
abbrev s_is_list : Stmt := top 8
theorem sc_is_list : FnScope ["value"] ["value"] (defScope s_is_list) := ⟨rfl, rfl, rfl, by decide +kernel, rfl, by decide +kernel, by decide +kernel⟩
abbrev s_is_from : Stmt := top 9
theorem sc_is_from : FnScope ["value", "low", "high"] ["value", "low", "high"] (defScope s_is_from) := ⟨rfl, rfl, rfl, by decide +kernel, rfl, by decide +kernel, by decide +kernel⟩
abbrev s_is_index : Stmt := top 10
theorem sc_is_index : FnScope ["value", "count"] ["value", "count"] (defScope s_is_index) := ⟨rfl, rfl, rfl, by decide +kernel, rfl, by decide +kernel, by decide +kernel⟩
abbrev s_is_digits : Stmt := top 11
theorem sc_is_digits : FnScope ["word"] ["word"] (defScope s_is_digits) := ⟨rfl, rfl, rfl, by decide +kernel, rfl, by decide +kernel, by decide +kernel⟩
abbrev s_Space___init__ : Stmt := inClass (top 15) 0
theorem sc_Space___init__ : FnScope ["self", "sizes"] ["self", "sizes"] (defScope s_Space___init__) := ⟨rfl, rfl, rfl, by decide +kernel, rfl, by decide +kernel, by decide +kernel⟩
abbrev s_Space___len__ : Stmt := inClass (top 15) 1
theorem sc_Space___len__ : FnScope ["self"] ["self"] (defScope s_Space___len__) := ⟨rfl, rfl, rfl, by decide +kernel, rfl, by decide +kernel, by decide +kernel⟩
abbrev s_Space___eq__ : Stmt := inClass (top 15) 2
theorem sc_Space___eq__ : FnScope ["self", "other"] ["self", "other"] (defScope s_Space___eq__) := ⟨rfl, rfl, rfl, by decide +kernel, rfl, by decide +kernel, by decide +kernel⟩
abbrev s_Space_at : Stmt := inClass (top 15) 3
theorem sc_Space_at : FnScope ["self", "store"] ["self", "store"] (defScope s_Space_at) := ⟨rfl, rfl, rfl, by decide +kernel, rfl, by decide +kernel, by decide +kernel⟩
abbrev s_Space_store : Stmt := inClass (top 15) 4
theorem sc_Space_store : FnScope ["self", "values"] ["self", "values"] (defScope s_Space_store) := ⟨rfl, rfl, rfl, by decide +kernel, rfl, by decide +kernel, by decide +kernel⟩
abbrev s_Space_line : Stmt := inClass (top 15) 5
theorem sc_Space_line : FnScope ["self", "size"] ["self"] (defScope s_Space_line) := ⟨rfl, rfl, rfl, by decide +kernel, rfl, by decide +kernel, by decide +kernel⟩
abbrev s_all_values : Stmt := top 16
theorem sc_all_values : FnScope ["sizes", "stores", "size", "values", "value"] ["sizes"] (defScope s_all_values) := ⟨rfl, rfl, rfl, by decide +kernel, rfl, by decide +kernel, by decide +kernel⟩
abbrev s_is_sizes : Stmt := top 17
theorem sc_is_sizes : FnScope ["value", "stores", "size"] ["value"] (defScope s_is_sizes) := ⟨rfl, rfl, rfl, by decide +kernel, rfl, by decide +kernel, by decide +kernel⟩
abbrev s_is_values : Stmt := top 18
theorem sc_is_values : FnScope ["value", "sizes", "item", "size"] ["value", "sizes"] (defScope s_is_values) := ⟨rfl, rfl, rfl, by decide +kernel, rfl, by decide +kernel, by decide +kernel⟩
abbrev s_read_space : Stmt := top 19
theorem sc_read_space : FnScope ["line", "words", "sizes", "word"] ["line"] (defScope s_read_space) := ⟨rfl, rfl, rfl, by decide +kernel, rfl, by decide +kernel, by decide +kernel⟩
abbrev s__law_cell : Stmt := top 21
theorem sc__law_cell : FnScope ["script", "k"] ["script", "k"] (defScope s__law_cell) := ⟨rfl, rfl, rfl, by decide +kernel, rfl, by decide +kernel, by decide +kernel⟩
abbrev s__law_box : Stmt := top 22
theorem sc__law_box : FnScope ["great"] ["great"] (defScope s__law_box) := ⟨rfl, rfl, rfl, by decide +kernel, rfl, by decide +kernel, by decide +kernel⟩
abbrev s__law_take : Stmt := top 23
theorem sc__law_take : FnScope ["box", "many", "mixed", "digit"] ["box", "many"] (defScope s__law_take) := ⟨rfl, rfl, rfl, by decide +kernel, rfl, by decide +kernel, by decide +kernel⟩
abbrev s__law_product : Stmt := top 24
theorem sc__law_product : FnScope ["sizes", "found", "size"] ["sizes"] (defScope s__law_product) := ⟨rfl, rfl, rfl, by decide +kernel, rfl, by decide +kernel, by decide +kernel⟩
abbrev s__law_good : Stmt := top 25
theorem sc__law_good : FnScope ["sizes", "least"] ["sizes"] (defScope s__law_good) := ⟨rfl, rfl, rfl, by decide +kernel, rfl, by decide +kernel, by decide +kernel⟩
abbrev s__law_drawn_sizes : Stmt := top 26
theorem sc__law_drawn_sizes : FnScope ["box", "turn"] ["box"] (defScope s__law_drawn_sizes) := ⟨rfl, rfl, rfl, by decide +kernel, rfl, by decide +kernel, by decide +kernel⟩
abbrev s__law_met : Stmt := top 27
theorem sc__law_met : FnScope ["way", "space", "thing", "e"] ["way", "space", "thing"] (defScope s__law_met) := ⟨rfl, rfl, rfl, by decide +kernel, rfl, by decide +kernel, by decide +kernel⟩
abbrev s__law_odd : Stmt := top 28
theorem sc__law_odd : FnScope ["box", "menu"] ["box"] (defScope s__law_odd) := ⟨rfl, rfl, rfl, by decide +kernel, rfl, by decide +kernel, by decide +kernel⟩
abbrev s__law_sizes_right : Stmt := top 29
theorem sc__law_sizes_right : FnScope ["box", "space", "turn", "odd", "sizes", "good", "handed", "due", "size"] ["box", "space"] (defScope s__law_sizes_right) := ⟨rfl, rfl, rfl, by decide +kernel, rfl, by decide +kernel, by decide +kernel⟩
abbrev s__law_stores_right : Stmt := top 30
theorem sc__law_stores_right : FnScope ["space", "many", "odd", "store"] ["space", "many"] (defScope s__law_stores_right) := ⟨rfl, rfl, rfl, by decide +kernel, rfl, by decide +kernel, by decide +kernel⟩
abbrev s__law_values_right : Stmt := top 31
theorem sc__law_values_right : FnScope ["box", "space", "sizes", "many", "turn", "row", "at", "spoiled", "odd", "worth"] ["box", "space", "sizes"] (defScope s__law_values_right) := ⟨rfl, rfl, rfl, by decide +kernel, rfl, by decide +kernel, by decide +kernel⟩
abbrev s__law_lines_right : Stmt := top 32
theorem sc__law_lines_right : FnScope ["box", "space", "sizes", "words", "odd", "way", "bad", "line", "at", "size"] ["box", "space", "sizes"] (defScope s__law_lines_right) := ⟨rfl, rfl, rfl, by decide +kernel, rfl, by decide +kernel, by decide +kernel⟩
abbrev s__law_grown_right : Stmt := top 33
theorem sc__law_grown_right : FnScope ["space", "way", "grown", "told"] ["space"] (defScope s__law_grown_right) := ⟨rfl, rfl, rfl, by decide +kernel, rfl, by decide +kernel, by decide +kernel⟩
abbrev s__law_right : Stmt := top 34
theorem sc__law_right : FnScope ["box", "menu", "sizes", "space", "turn", "size"] ["box"] (defScope s__law_right) := ⟨rfl, rfl, rfl, by decide +kernel, rfl, by decide +kernel, by decide +kernel⟩
abbrev s_law : Stmt := top 35
theorem sc_law : FnScope ["script", "k"] ["script"] (defScope s_law) := ⟨rfl, rfl, rfl, by decide +kernel, rfl, by decide +kernel, by decide +kernel⟩
structure Zs (mg : Str → Option Value) : Prop where
  isinstance_ : mg "isinstance" = none
  int_ : mg "int" = none
  bool_ : mg "bool" = none
  str_ : mg "str" = none
  list_ : mg "list" = none
  tuple_ : mg "tuple" = none
  len_ : mg "len" = none
  abs_ : mg "abs" = none
  max_ : mg "max" = none
  min_ : mg "min" = none
  sum_ : mg "sum" = none
  repr_ : mg "repr" = none
  all_ : mg "all" = none
  range_ : mg "range" = none
  zip_ : mg "zip" = none
  MOST_NAMES : ∃ u, mg "MOST_NAMES" = some u ∧ RelV (.int 3) u
  MOST_STORES : ∃ u, mg "MOST_STORES" = some u ∧ RelV (.int 8) u
/-! ## what the checks tell of any data -/
def intD : PyData → Bool
  | .int _ => true
  | _ => false
def fromD (lo hi : Int) : PyData → Bool
  | .int i => decide (lo ≤ i) && decide (i ≤ hi)
  | _ => false
def seqD : PyData → Option (List PyData)
  | .list ds => some ds
  | .tuple ds => some ds
  | _ => none
def valD : PyData → Int
  | .int i => i
  | _ => 1
def prodD (ds : List PyData) : Int := (ds.map valD).foldl (· * ·) 1
def sizesD (d : PyData) : Bool := match seqD d with
  | some ds => decide (1 ≤ ds.length) && decide (ds.length ≤ 3) && ds.all (fromD 2 8) && decide (prodD ds ≤ 8)
  | none => false
def indexD (n : Int) : PyData → Bool
  | .int i => decide (0 ≤ i) && decide (i < n)
  | _ => false
def spIsIntX (K : PySem.W.Frag) : Sp := fun vs H Q _ => ∃ v d, vs = [v] ∧ Dx K H v d ∧ Q (.bl (intD d)) H
def spIsListX (K : PySem.W.Frag) : Sp := fun vs H Q _ => ∃ v d, vs = [v] ∧ Dx K H v d ∧ ∀ H', Same H H' → Q (.bl (seqD d).isSome) H'
def spIsFromX (K : PySem.W.Frag) : Sp := fun vs H Q _ => ∃ v d lo hi, vs = [v, .int lo, .int hi] ∧ Dx K H v d ∧ Q (.bl (fromD lo hi d)) H
def spIsIndexX (K : PySem.W.Frag) : Sp := fun vs H Q _ => ∃ v d n, vs = [v, .int n] ∧ Dx K H v d ∧ Q (.bl (indexD n d)) H
def spIsDigitsX : Sp := fun vs H Q _ => ∃ a, vs = [.str a] ∧ Q (.bl (Txt.isascii a && Txt.isdigit a)) H
/-- x < y: told, whatever it is -/
theorem r_andB {b : Bool} {σ : L2.St} {H : Hp} {Q : VK} {tb : TE} (h1 : b = true → tb σ H Q) (h2 : b = false → Q (.bl false) H) : ∃ c, V.bl b = .bl c ∧ if c = true then tb σ H Q else Q (.bl false) H := by
  refine ⟨b, rfl, ?_⟩
  cases b with
  | true => exact h1 rfl
  | false => exact h2 rfl
section
variable {P : Program} {w : World} {K : PySem.W.Frag} {mg : Str → Option Value} {base : Heap}
theorem ok_is_integer {f : Addr} {fd : FuncData} (F : Fun K "is_integer" "is_integer" s_is_integer f fd) (Z : Zs mg) : FnG P w K mg base CX0 1 f fd ["value"] (spIsIntX K) := by
  refine okG F sc_is_integer (fun vs H Q E h => ?_) (fun cdv B up z H vs Q E hG hr h => ?_)
  · obtain ⟨v, d, rfl, _⟩ := h
    rfl
  · obtain ⟨v, d, rfl, dx, k⟩ := h
    refine ⟨_, (pss_one (ps_ret (pe_and (pe_callB call_isi (by rfl) Z.isinstance_ (by decide +kernel) (pa_cons (pv 0) (pa_cons (pe_ty "int" (by rfl) Z.int_ (by decide +kernel)) pa_nil))) (pe_one (pe_not (pe_callB call_isi (by rfl) Z.isinstance_ (by decide +kernel) (pa_cons (pv 0) (pa_cons (pe_ty "bool" (by rfl) Z.bool_ (by decide +kernel)) pa_nil)))))))), ?_⟩
    walk_at "r"
    have ty := dx.ty
    cases d with
    | int i =>
      refine r_isiB (b := true) ty (by simp only [tyD]; decide +kernel) ?_
      walk_at "r"
      refine r_isiB (b := false) ty (by simp only [tyD]; decide +kernel) ?_
      walk_at "r"
      exact k
    | bool b =>
      refine r_isiB (b := true) ty (by simp only [tyD]; decide +kernel) ?_
      walk_at "r"
      refine r_isiB (b := true) ty (by simp only [tyD]; decide +kernel) ?_
      walk_at "r"
      exact k
    | none => exact r_isiB (b := false) ty (by simp only [tyD]; decide +kernel) (by walk_at "r"; exact k)
    | str _ => exact r_isiB (b := false) ty (by simp only [tyD]; decide +kernel) (by walk_at "r"; exact k)
    | list _ => exact r_isiB (b := false) ty (by simp only [tyD]; decide +kernel) (by walk_at "r"; exact k)
    | tuple _ => exact r_isiB (b := false) ty (by simp only [tyD]; decide +kernel) (by walk_at "r"; exact k)
    | dict _ => exact r_isiB (b := false) ty (by simp only [tyD]; decide +kernel) (by walk_at "r"; exact k)
theorem ok_is_list {f : Addr} {fd : FuncData} (F : Fun K "is_list" "is_list" s_is_list f fd) (Z : Zs mg) : FnG P w K mg base CX0 1 f fd ["value"] (spIsListX K) := by
  refine okG F sc_is_list (fun vs H Q E h => ?_) (fun cdv B up z H vs Q E hG hr h => ?_)
  · obtain ⟨v, d, rfl, _⟩ := h
    rfl
  · obtain ⟨v, d, rfl, dx, k⟩ := h
    refine ⟨_, (pss_one (ps_ret (pe_callB call_isiT (by rfl) Z.isinstance_ (by decide +kernel) (pa_cons (pv 0) (pa_cons (pe_tup (pa_cons (pe_ty "list" (by rfl) Z.list_ (by decide +kernel)) (pa_cons (pe_ty "tuple" (by rfl) Z.tuple_ (by decide +kernel)) pa_nil))) pa_nil))))), ?_⟩
    walk_at "r"
    refine ⟨by show 2 ≤ sizeLine; decide, fun p hp => ?_⟩
    have s1 : Same H (upd H p (.tup [.ty "list", .ty "tuple"])) := Same.upd_new hp
    walk_at "r"
    have ty := (Dx.same s1 d v dx).ty
    refine ⟨v, p, [.ty "list", .ty "tuple"], .type (tyD d), [.type "list", .type "tuple"], (seqD d).isSome, rfl, upd_same, .cons (.ty _) (.cons (.ty _) .nil), ty, ?_, k _ s1⟩
    cases d with
    | list _ => exact kitAny_cons (b := true) (kit_ty (by simp only [tyD]; decide +kernel)) (fun z => by cases z) (fun _ => rfl)
    | tuple _ => exact kitAny_cons (b := false) (kit_ty (by simp only [tyD]; decide +kernel)) (fun _ => kitAny_cons (b := true) (kit_ty (by simp only [tyD]; decide +kernel)) (fun z => by cases z) (fun _ => rfl)) (fun z => by cases z)
    | none => exact kitAny_cons (b := false) (kit_ty (by simp only [tyD]; decide +kernel)) (fun _ => kitAny_cons (b := false) (kit_ty (by simp only [tyD]; decide +kernel)) (fun _ => rfl) (fun z => by cases z)) (fun z => by cases z)
    | bool _ => exact kitAny_cons (b := false) (kit_ty (by simp only [tyD]; decide +kernel)) (fun _ => kitAny_cons (b := false) (kit_ty (by simp only [tyD]; decide +kernel)) (fun _ => rfl) (fun z => by cases z)) (fun z => by cases z)
    | int _ => exact kitAny_cons (b := false) (kit_ty (by simp only [tyD]; decide +kernel)) (fun _ => kitAny_cons (b := false) (kit_ty (by simp only [tyD]; decide +kernel)) (fun _ => rfl) (fun z => by cases z)) (fun z => by cases z)
    | str _ => exact kitAny_cons (b := false) (kit_ty (by simp only [tyD]; decide +kernel)) (fun _ => kitAny_cons (b := false) (kit_ty (by simp only [tyD]; decide +kernel)) (fun _ => rfl) (fun z => by cases z)) (fun z => by cases z)
    | dict _ => exact kitAny_cons (b := false) (kit_ty (by simp only [tyD]; decide +kernel)) (fun _ => kitAny_cons (b := false) (kit_ty (by simp only [tyD]; decide +kernel)) (fun _ => rfl) (fun z => by cases z)) (fun z => by cases z)
theorem ok_is_from {f : Addr} {fd : FuncData} (F : Fun K "is_from" "is_from" s_is_from f fd) (d_is_integer : DefD P w K mg base 1 "is_integer" 1 [] byPlace (spIsIntX K)) : FnG P w K mg base CX0 2 f fd ["value", "low", "high"] (spIsFromX K) := by
  refine okG F sc_is_from (fun vs H Q E h => ?_) (fun cdv B up z H vs Q E hG hr h => ?_)
  · obtain ⟨v, d, lo, hi, rfl, _⟩ := h
    rfl
  · obtain ⟨v, d, lo, hi, rfl, dx, k⟩ := h
    refine ⟨_, (pss_one (ps_ret (pe_and (pd_pos d_is_integer hG hr (by decide) (by rfl) (pa_cons (pv 0) pa_nil)) (pe_one (pe_chain op_le op_le (pv 1) (pv 0) (pv 2)))))), ?_⟩
    walk_at "r"
    refine ⟨v, d, rfl, dx, ?_⟩
    cases dx with
    | int i =>
      have k' : Q (.bl (decide (lo ≤ i) && decide (i ≤ hi))) H := k
      simp only [intD]
      walk_at "r"
      by_cases c : lo ≤ i
      · rw [decide_eq_true c] at k' ⊢
        walk_at "r"
        exact k'
      · rw [decide_eq_false c] at k' ⊢
        walk_at "r"
        exact k'
    | non => simp only [intD]; walk_at "r"; exact k
    | bl _ => simp only [intD]; walk_at "r"; exact k
    | str _ => simp only [intD]; walk_at "r"; exact k
    | lst _ _ => simp only [intD]; walk_at "r"; exact k
    | tup _ _ => simp only [intD]; walk_at "r"; exact k
    | emp _ => simp only [intD]; walk_at "r"; exact k
theorem ok_is_index {f : Addr} {fd : FuncData} (F : Fun K "is_index" "is_index" s_is_index f fd) (d_is_integer : DefD P w K mg base 1 "is_integer" 1 [] byPlace (spIsIntX K)) : FnG P w K mg base CX0 2 f fd ["value", "count"] (spIsIndexX K) := by
  refine okG F sc_is_index (fun vs H Q E h => ?_) (fun cdv B up z H vs Q E hG hr h => ?_)
  · obtain ⟨v, d, n, rfl, _⟩ := h
    rfl
  · obtain ⟨v, d, n, rfl, dx, k⟩ := h
    refine ⟨_, (pss_one (ps_ret (pe_and (pd_pos d_is_integer hG hr (by decide) (by rfl) (pa_cons (pv 0) pa_nil)) (pe_one (pe_chain op_le op_lt pe_int (pv 0) (pv 1)))))), ?_⟩
    walk_at "r"
    refine ⟨v, d, rfl, dx, ?_⟩
    cases dx with
    | int i =>
      have k' : Q (.bl (decide (0 ≤ i) && decide (i < n))) H := k
      simp only [intD]
      walk_at "r"
      by_cases c : 0 ≤ i
      · rw [decide_eq_true c] at k' ⊢
        walk_at "r"
        exact k'
      · rw [decide_eq_false c] at k' ⊢
        walk_at "r"
        exact k'
    | non => simp only [intD]; walk_at "r"; exact k
    | bl _ => simp only [intD]; walk_at "r"; exact k
    | str _ => simp only [intD]; walk_at "r"; exact k
    | lst _ _ => simp only [intD]; walk_at "r"; exact k
    | tup _ _ => simp only [intD]; walk_at "r"; exact k
    | emp _ => simp only [intD]; walk_at "r"; exact k
theorem ok_is_digits {f : Addr} {fd : FuncData} (F : Fun K "is_digits" "is_digits" s_is_digits f fd) : FnG P w K mg base CX0 1 f fd ["word"] spIsDigitsX := by
  refine okG F sc_is_digits (fun vs H Q E h => ?_) (fun cdv B up z H vs Q E hG hr h => ?_)
  · obtain ⟨a, rfl, _⟩ := h
    rfl
  · obtain ⟨a, rfl, k⟩ := h
    refine ⟨_, (pss_one (ps_ret (pe_and (pe_m0 PySem.F.slot_str_isascii PySem.F.type_str_isascii mt_isascii (pv 0)) (pe_one (pe_m0 PySem.F.slot_str_isdigit PySem.F.type_str_isdigit mt_isdigit (pv 0)))))), ?_⟩
    walk_at "r"
    refine ⟨⟨a, rfl⟩, a, rfl, rfl, trivial, ?_⟩
    cases c : Txt.isascii a with
    | true =>
      walk_at "r"
      refine ⟨⟨a, rfl⟩, a, rfl, rfl, trivial, ?_⟩
      rw [c, Bool.true_and] at k
      exact k
    | false =>
      walk_at "r"
      rw [c, Bool.false_and] at k
      exact k
end
end Eld
set_option Elab.async false
set_option maxRecDepth 100000
set_option maxHeartbeats 4000000
set_option linter.all false
namespace Eld
open PySem L2
local macro_rules | `(tactic| walk_at "r1") => `(tactic| with_reducible first
  | refine r_seq ?_ | refine r_asgN ?_ | refine r_asg ?_ | refine r_gname ?_ | refine r_gsub ?_ | refine r_var rfl ?_ | refine r_c ?_ | refine r_op ?_ | refine r_un ?_ | refine r_u ?_ | refine r_i0 ?_ | refine r_cb ?_ | refine r_cons ?_ | refine r_nil ?_ | refine r_cl ?_ | refine r_fn rfl rfl ?_ | refine r_mt ?_
  | refine r_test ?_ | refine r_tb ?_ | refine r_bl ?_ | refine r_and ?_ | refine r_or ?_ | refine r_not ?_ | refine r_andV ?_ | refine r_orV ?_ | refine r_notV ?_ | refine r_ifX ?_ | refine r_ifs ?_ | refine r_chain ?_ | refine r_ret ?_ | refine r_next ?_ | refine r_drop ?_ | refine iteT ?_ | refine iteF ?_ | refine iteNT ?_ | refine iteNF ?_
  | refine r_int1 ?_ | refine r_boolB ?_ | refine r_eqI ?_ | refine r_neI ?_ | refine r_eqB ?_ | refine r_neB ?_ | refine r_eqS ?_ | refine r_neS ?_ | refine r_abs ?_ | refine r_max2 ?_ | refine r_min2 ?_ | refine r_yes ?_ | refine r_tup ?_ | refine r_sfld ?_ | refine r_m0 ?_ | refine r_m1 ?_ | refine r_lst ?_ | refine r_rng1 ?_ | refine r_rng2 ?_ | refine r_ixL (SqL.of (by assumption)) rfl ?_)
local macro_rules | `(tactic| walk_at "r") => `(tactic| repeat (first | walk_at "r1" | ((with_reducible refine r_var ?hv ?_); (case hv => rfl))))

/-! ## what is spoken of -/
def menu : List (List Int) := [[2], [3], [4], [5], [6], [7], [8], [2, 2], [2, 3], [2, 4], [3, 2], [4, 2], [2, 2, 2]]
/-- one more name with z values -/
def more (z : Int) (v : List Int) : List (List Int) := (List.range z.toNat).map fun (x : Nat) => v ++ [(x : Int)]
def wide (rows : List (List Int)) (z : Int) : List (List Int) := rows.flatMap (more z)
def allRows (zs : List Int) : List (List Int) := zs.foldl wide [[]]
/-- tuples of ints at these places -/
def RowsT (H : Hp) (ts : List Addr) (rows : List (List Int)) : Prop := ts.length = rows.length ∧ ∀ (i : Nat) (t : Addr) (r : List Int), ts[i]? = some t → rows[i]? = some r → H t = some (.tup (r.map V.int))
theorem RowsT.same {H H' : Hp} {ts : List Addr} {rows : List (List Int)} (h : RowsT H ts rows) (s : Same H H') : RowsT H' ts rows := ⟨h.1, fun i t r a b => s _ _ (h.2 i t r a b)⟩
theorem RowsT.push {H : Hp} {ts : List Addr} {rows : List (List Int)} {t : Addr} {r : List Int} (h : RowsT H ts rows) (e : H t = some (.tup (r.map V.int))) : RowsT H (ts ++ [t]) (rows ++ [r]) := by
  refine ⟨by simp [h.1], fun i u q a b => ?_⟩
  by_cases c : i < ts.length
  · rw [List.getElem?_append_left c] at a
    rw [List.getElem?_append_left (h.1 ▸ c)] at b
    exact h.2 i u q a b
  · have c1 : i = ts.length := by
      have := (List.getElem?_eq_some_iff.mp a).1
      simp at this
      omega
    subst c1
    simp at a
    rw [h.1] at b
    simp at b
    subst a b
    exact e
def spAllValues : Sp := fun vs H Q _ => ∃ a zs, vs = [.ref a] ∧ zs ∈ menu ∧ H a = some (.tup (zs.map V.int)) ∧ ∀ H' q ts, Same H H' → H q = none → BareT H' q (ts.map V.ref) → RowsT H' ts (allRows zs) → Q (.ref q) H'
theorem menu_len : ∀ zs ∈ menu, 1 ≤ zs.length ∧ zs.length ≤ 3 := by decide
theorem menu_mem : ∀ zs ∈ menu, ∀ z ∈ zs, (2 : Int) ≤ z ∧ z ≤ 8 := by decide
def prod (zs : List Int) : Int := zs.foldl (· * ·) 1
theorem menu_prod : ∀ zs ∈ menu, prod zs ≤ 8 := by decide
theorem menu_part : ∀ zs ∈ menu, ∀ i, i < 4 → -(2 ^ 64) < prod (zs.take i) ∧ prod (zs.take i) < 2 ^ 64 := by decide
theorem prod_take {zs : List Int} {i : Nat} {z : Int} (h : zs[i]? = some z) : prod (zs.take (i + 1)) = prod (zs.take i) * z := by
  unfold prod
  rw [List.take_add_one, h, List.foldl_append]
  rfl
theorem map_get {zs : List Int} {i : Nat} {x : V} (h : (zs.map V.int)[i]? = some x) : ∃ z, zs[i]? = some z ∧ x = .int z := by
  rw [List.getElem?_map] at h
  cases e : zs[i]? with
  | none => rw [e] at h; cases h
  | some z => rw [e] at h; exact ⟨z, rfl, (Option.some.inj h).symm⟩
theorem all_rep (n : Nat) : (List.replicate n true).all id = true := by
  rw [List.all_eq_true]
  intro b hb
  exact (List.mem_replicate.mp hb).2
theorem map_rep (n : Nat) : (List.replicate n true).map V.bl = List.replicate n (V.bl true) := by rw [List.map_replicate]
theorem menu_rows : ∀ zs ∈ menu, ∀ i, i < 3 → ∀ j, j < 9 → (((allRows (zs.take i)).take j).flatMap (more (zs.getD i 0))).length ≤ 64 := by decide
theorem menu_rows8 : ∀ zs ∈ menu, ∀ i, i < 4 → (allRows (zs.take i)).length ≤ 8 := by decide
theorem menu_deep : ∀ zs ∈ menu, ∀ i, i < 4 → ∀ r ∈ allRows (zs.take i), r.length ≤ 3 := by decide
theorem rows_take {zs : List Int} {i : Nat} {z : Int} (h : zs[i]? = some z) : allRows (zs.take (i + 1)) = wide (allRows (zs.take i)) z := by
  unfold allRows
  rw [List.take_add_one, h, List.foldl_append]
  rfl
theorem more_len (z : Int) (r : List Int) : (more z r).length = z.toNat := by simp [more]
theorem more_at {z : Int} {r : List Int} {k : Nat} (h : k < z.toNat) : (more z r)[k]? = some (r ++ [(k : Int)]) := by
  unfold more
  rw [List.getElem?_map, List.getElem?_range h]
  rfl
theorem take_next {α : Type} {l : List α} {k : Nat} {x : α} (h : l[k]? = some x) : l.take (k + 1) = l.take k ++ [x] := by rw [List.take_add_one, h]; rfl
theorem flat_next {rows : List (List Int)} {j : Nat} {r : List Int} {z : Int} (h : rows[j]? = some r) : (rows.take (j + 1)).flatMap (more z) = (rows.take j).flatMap (more z) ++ more z r := by
  rw [take_next h, List.flatMap_append]
  simp
theorem ref_get {ts : List Addr} {i : Nat} {x : V} (h : (ts.map V.ref)[i]? = some x) : ∃ t, ts[i]? = some t ∧ x = .ref t := by
  rw [List.getElem?_map] at h
  cases e : ts[i]? with
  | none => rw [e] at h; cases h
  | some z => rw [e] at h; exact ⟨z, rfl, (Option.some.inj h).symm⟩
theorem RowsT.get {H : Hp} {ts : List Addr} {rows : List (List Int)} {i : Nat} {t : Addr} (h : RowsT H ts rows) (e : ts[i]? = some t) : ∃ r, rows[i]? = some r ∧ H t = some (.tup (r.map V.int)) := by
  have il : i < rows.length := h.1 ▸ (List.getElem?_eq_some_iff.mp e).1
  exact ⟨rows[i], List.getElem?_eq_getElem il, h.2 i t _ e (List.getElem?_eq_getElem il)⟩
theorem RowsT.nil {H : Hp} : RowsT H [] [] := ⟨rfl, fun i t r a => by simp at a⟩
/-- r + (k,) -/
theorem r_catInt {K : PySem.W.Frag} {H : Hp} {Q : VK} {t q : Addr} {r : List Int} {k : Int} (ht : H t = some (.tup (r.map V.int))) (hq : H q = some (.tup [.int k])) (hl : r.length ≤ 10)
    (h : ∀ p H', Same H H' → H' p = some (.tup ((r ++ [k]).map V.int)) → Q (.ref p) H') : rCatA K (.ref t) (.ref q) H Q := by
  refine ⟨t, q, r.map V.int, [.int k], rfl, rfl, SqT.of ht, SqT.of hq, ?_, fun e => ?_, fun _ e => (nomatch e), fun _ _ p hp => ?_⟩
  · rw [List.length_map, sizeLine_eq]
    show r.length + 1 ≤ 16777216
    omega
  · have e' : r = [] := by simpa using e
    subst e'
    exact h q H (Same.refl H) hq
  · refine h p _ (Same.upd_new hp) ?_
    rw [upd_same, List.map_append]
    rfl
section
variable {P : Program} {w : World} {K : PySem.W.Frag} {mg : Str → Option Value} {base : Heap}
theorem ok_all_values {f : Addr} {fd : FuncData} (F : Fun K "all_values" "all_values" s_all_values f fd) (Z : Zs mg) : FnG P w K mg base CX0 1 f fd ["sizes"] spAllValues := by
  refine okG F sc_all_values (fun vs H Q E h => ?_) (fun cdv B up z H vs Q E hG hr h => ?_)
  · obtain ⟨a, zs, rfl, _⟩ := h
    rfl
  · obtain ⟨a, zs, rfl, hz, ha, k⟩ := h
    obtain ⟨l1, l3⟩ := menu_len zs hz
    have lz : (zs.map V.int).length = zs.length := List.length_map ..
    refine ⟨_, (pss_cons (ps_set (i := 1) sc_all_values.nd rfl (by first | exact Or.inl rfl | exact Or.inr rfl) (pe_lst (pa_cons (pe_tup pa_nil) pa_nil)))
  (pss_cons (ps_for PassesOwn.never rfl (pi_tup (pv 0)) (pg_name (i := 2) sc_all_values.nd rfl (by first | exact Or.inl rfl | exact Or.inr rfl))
  (pss_one (ps_setLc2 (i := 1) (own := [("values", 3), ("value", 4)]) (vs1 := [4]) (tt := tYes) (tt1 := tYes) rfl sc_all_values.nd rfl rfl (sw_true rfl rfl rfl (by decide +kernel)) (pi_list (pv 1)) (blkOk_by (N := ["sizes", "stores", "size", "values", "value"]) (sc := defScope s_all_values) (by decide +kernel)) (by decide) (fun _ _ _ _ _ => (pg_name (i := 3) sc_all_values.nd rfl (by first | exact Or.inl rfl | exact Or.inr rfl))) (fun _ _ _ _ _ => pts_nil) (fun _ _ _ _ _ => (pi_range1 (by rfl) Z.range_ (pa_cons (pv 2) pa_nil))) (fun _ _ _ _ _ => (pg_name (i := 4) sc_all_values.nd rfl (by first | exact Or.inl rfl | exact Or.inr rfl))) (fun _ _ _ _ _ => pts_nil) (fun _ _ _ _ _ => (pe_op (show OpR _ _ (rCatA K) from op_catA) (pv 3) (pe_tup (pa_cons (pv 4) pa_nil)))))))
  (pss_one (ps_ret (pe_callTy (show CallR _ _ (rTupleB K) from call_tupleB) (by rfl) Z.tuple_ (by decide +kernel) (pa_cons (pv 1) pa_nil)))))), ?_⟩
    walk_at "r"
    refine ⟨Nat.zero_le _, fun t ht => ?_⟩
    walk_at "r"
    refine ⟨by show 1 ≤ sizeLine; decide, fun l hl => ?_⟩
    have s0 : Same H (upd (upd H t (.tup [])) l (.lst [.ref t])) := (Same.upd_new ht).trans (Same.upd_new hl)
    have tl : t ≠ l := fun e => by rw [← e, upd_same] at hl; cases hl
    have r0 : RowsT (upd (upd H t (.tup [])) l (.lst [.ref t])) [t] [[]] := by
      have := RowsT.push (H := upd (upd H t (.tup [])) l (.lst [.ref t])) (t := t) (r := []) RowsT.nil (by rw [upd_ne tl]; exact upd_same)
      exact this
    walk_at "r"
    refine ⟨_, rfl, a, rfl, ⟨_, SqT.of (s0 _ _ ha)⟩, for_tup (K := K) (a := a) (xs := zs.map V.int) (fun i τ G => Same H G ∧ ∃ (m : Addr) (ts : List Addr) (v2 : Option V), τ = [some (.ref a), some (.ref m), v2, none, none] ∧ H m = none ∧ G m = some (.lst (ts.map V.ref)) ∧ RowsT G ts (allRows (zs.take i)))
      ⟨s0, l, [t], none, rfl, (Same.upd_new ht).free hl, upd_same, r0⟩ (fun i τ G _ p => SqT.of (p.1 _ _ ha)) ?_ ?_⟩
    · rintro i x τ G hx ⟨sG, m, ts, v2, rfl, hm, gm, rt⟩
      obtain ⟨y, hy, rfl⟩ := map_get hx
      have il : i < zs.length := (List.getElem?_eq_some_iff.mp hy).1
      obtain ⟨y1, y2⟩ := menu_mem zs hz y (List.mem_of_getElem? hy)
      have yd : zs.getD i 0 = y := by rw [List.getD_eq_getElem?_getD, hy]; rfl
      generalize hrows : allRows (zs.take i) = rows at rt
      have r8 : rows.length ≤ 8 := hrows ▸ menu_rows8 zs hz i (by omega)
      walk_at "r"
      refine ⟨_, rfl, m, rfl, ⟨_, SqL.of gm⟩, fun D hD => ?_⟩
      refine it_list (xs := ts.map V.ref) (fun j G2 => Same G G2 ∧ ∃ us : List Addr, G2 D = some (.lst (us.map V.ref)) ∧ RowsT G2 us ((rows.take j).flatMap (more y)))
        ⟨Same.upd_new hD, [], upd_same, by simpa using RowsT.nil⟩ (fun j G2 _ p => SqL.of (p.1 _ _ gm)) (fun j x G2 hx p => ?_) (fun G2 p => ?_)
      · obtain ⟨s2, us, d2, ru⟩ := p
        obtain ⟨u, hu, rfl⟩ := ref_get hx
        obtain ⟨r, hr', gu⟩ := rt.get hu
        have jl : j < rows.length := (List.getElem?_eq_some_iff.mp hr').1
        have rl : r.length ≤ 3 := menu_deep zs hz i (by omega) r (hrows ▸ List.mem_of_getElem? hr')
        refine r_gname ⟨rfl, ?_⟩
        walk_at "r"
        refine ⟨y, rfl, by omega, by omega, ?_⟩
        refine it_range (fun k G3 => Same G G3 ∧ ∃ us : List Addr, G3 D = some (.lst (us.map V.ref)) ∧ RowsT G3 us ((rows.take j).flatMap (more y) ++ (more y r).take k))
          ⟨s2, us, d2, by simpa using ru⟩ (fun k G3 hk p3 => ?_) (fun G3 p3 => ?_)
        · obtain ⟨s3, us3, d3, ru3⟩ := p3
          refine r_gname ⟨rfl, ?_⟩
          walk_at "r"
          refine ⟨by show 1 ≤ sizeLine; decide, fun q hq => ?_⟩
          have s4 : Same G3 (upd G3 q (.tup [.int (0 + (k : Int))])) := Same.upd_new hq
          refine r_catInt (s4 _ _ (s3 _ _ gu)) upd_same (by omega) fun p4 G4 s5 g4 => ?_
          have s6 := s4.trans s5
          have d4 := s6 _ _ d3
          have len : us3.length ≤ 72 := by
            rw [ru3.1, List.length_append, List.length_take]
            have h1 := menu_rows zs hz i (by omega) j (by omega)
            rw [hrows, yd] at h1
            omega
          refine ⟨us3.map V.ref, d4, by rw [List.length_map, sizeLine_eq]; omega, Same.over (s3.trans s6) hD, us3 ++ [p4], by rw [upd_same, List.map_append]; rfl, ?_⟩
          rw [take_next (more_at (z := y) (r := r) hk), ← List.append_assoc]
          have g4' : (upd G4 D (.lst (us3.map V.ref ++ [V.ref p4]))) p4 = some (.tup ((r ++ [(k : Int)]).map V.int)) := by
            have ne : p4 ≠ D := ne_of g4 d4 (by intro e; cases e)
            rw [upd_ne ne, g4]
            simp
          refine RowsT.push ⟨ru3.1, fun i' t' r' a' b' => ?_⟩ g4'
          have e1 := ru3.2 i' t' r' a' b'
          have ne : t' ≠ D := ne_of e1 d3 (by intro e; cases e)
          rw [upd_ne ne]
          exact s6 _ _ e1
        · obtain ⟨s3, us3, d3, ru3⟩ := p3
          refine ⟨s3, us3, d3, ?_⟩
          rw [flat_next hr', show (more y r) = (more y r).take y.toNat from by rw [List.take_of_length_le]; rw [more_len]; exact Nat.le_refl _]
          exact ru3
      · obtain ⟨s2, us, d2, ru⟩ := p
        refine ⟨sG.trans s2, D, us, _, rfl, sG.free hD, d2, ?_⟩
        rw [rows_take hy, hrows]
        have e : (rows.take (ts.map V.ref).length) = rows := by rw [List.length_map, rt.1, List.take_length]
        rw [e] at ru
        exact ru
    · rintro τ G ⟨sG, m, ts, v2, rfl, hm, gm, rt⟩
      rw [lz, List.take_length] at rt
      walk_at "r"
      refine ⟨_, _, rfl, SqL.of gm, fun q o hq ho => ?_⟩
      exact k _ q ts (sG.trans (Same.upd_new hq)) (sG.free hq) ⟨o, upd_same, ho⟩ (rt.same (Same.upd_new hq))
end
end Eld
set_option Elab.async false
set_option maxRecDepth 100000
set_option maxHeartbeats 4000000
set_option linter.all false
namespace Eld
open PySem L2
local macro_rules | `(tactic| walk_at "r1") => `(tactic| with_reducible first
  | refine r_seq ?_ | refine r_asgN ?_ | refine r_asg ?_ | refine r_gname ?_ | refine r_gsub ?_ | refine r_var rfl ?_ | refine r_c ?_ | refine r_op ?_ | refine r_un ?_ | refine r_u ?_ | refine r_i0 ?_ | refine r_cb ?_ | refine r_cons ?_ | refine r_nil ?_ | refine r_cl ?_ | refine r_fn rfl rfl ?_ | refine r_mt ?_
  | refine r_test ?_ | refine r_tb ?_ | refine r_bl ?_ | refine r_and ?_ | refine r_or ?_ | refine r_not ?_ | refine r_andV ?_ | refine r_orV ?_ | refine r_notV ?_ | refine r_ifX ?_ | refine r_ifs ?_ | refine r_chain ?_ | refine r_ret ?_ | refine r_next ?_ | refine r_drop ?_ | refine iteT ?_ | refine iteF ?_ | refine iteNT ?_ | refine iteNF ?_
  | refine r_int1 ?_ | refine r_boolB ?_ | refine r_eqI ?_ | refine r_neI ?_ | refine r_eqB ?_ | refine r_neB ?_ | refine r_eqS ?_ | refine r_neS ?_ | refine r_abs ?_ | refine r_max2 ?_ | refine r_min2 ?_ | refine r_yes ?_ | refine r_tup ?_ | refine r_sfld ?_ | refine r_m0 ?_ | refine r_m1 ?_ | refine r_lst ?_ | refine r_rng1 ?_ | refine r_rng2 ?_ | refine r_ixL (SqL.of (by assumption)) rfl ?_)
local macro_rules | `(tactic| walk_at "r") => `(tactic| repeat (first | walk_at "r1" | ((with_reducible refine r_var ?hv ?_); (case hv => rfl))))

def R7 : List Int := [2, 3, 4, 5, 6, 7, 8]
theorem in7 {z : Int} (h : 2 ≤ z ∧ z ≤ 8) : z ∈ R7 := by
  have : z = 2 ∨ z = 3 ∨ z = 4 ∨ z = 5 ∨ z = 6 ∨ z = 7 ∨ z = 8 := by omega
  rcases this with rfl | rfl | rfl | rfl | rfl | rfl | rfl <;> decide
theorem small1 : ∀ a ∈ R7, (-(2 ^ 64) < prod [a] ∧ prod [a] < 2 ^ 64) ∧ (prod [a] ≤ 8 → [a] ∈ menu) := by decide +kernel
theorem small2 : ∀ a ∈ R7, ∀ b ∈ R7, (-(2 ^ 64) < prod [a, b] ∧ prod [a, b] < 2 ^ 64) ∧ (prod [a, b] ≤ 8 → [a, b] ∈ menu) := by decide +kernel
theorem small3 : ∀ a ∈ R7, ∀ b ∈ R7, ∀ c ∈ R7, (-(2 ^ 64) < prod [a, b, c] ∧ prod [a, b, c] < 2 ^ 64) ∧ (prod [a, b, c] ≤ 8 → [a, b, c] ∈ menu) := by decide +kernel
theorem small_all : ∀ zs : List Int, (∀ z ∈ zs, 2 ≤ z ∧ z ≤ 8) → zs.length ≤ 3 → (-(2 ^ 64) < prod zs ∧ prod zs < 2 ^ 64) ∧ (1 ≤ zs.length → prod zs ≤ 8 → zs ∈ menu)
  | [], _, _ => ⟨by decide, fun h => by simp at h⟩
  | [a], h, _ => ⟨(small1 a (in7 (h a (by simp)))).1, fun _ => (small1 a (in7 (h a (by simp)))).2⟩
  | [a, b], h, _ => ⟨(small2 a (in7 (h a (by simp))) b (in7 (h b (by simp)))).1, fun _ => (small2 a (in7 (h a (by simp))) b (in7 (h b (by simp)))).2⟩
  | [a, b, c], h, _ => ⟨(small3 a (in7 (h a (by simp))) b (in7 (h b (by simp))) c (in7 (h c (by simp)))).1, fun _ => (small3 a (in7 (h a (by simp))) b (in7 (h b (by simp))) c (in7 (h c (by simp)))).2⟩
  | _ :: _ :: _ :: _ :: _, _, l => by simp at l
theorem part_small (zs : List Int) (h : ∀ z ∈ zs, 2 ≤ z ∧ z ≤ 8) (l : zs.length ≤ 3) (i : Nat) : -(2 ^ 64) < prod (zs.take i) ∧ prod (zs.take i) < 2 ^ 64 :=
  (small_all (zs.take i) (fun z m => h z (List.mem_of_mem_take m)) (by rw [List.length_take]; omega)).1
theorem ints_of : ∀ ds : List PyData, ds.all (fromD 2 8) = true → ∃ zs : List Int, ds = zs.map PyData.int ∧ ∀ z ∈ zs, 2 ≤ z ∧ z ≤ 8
  | [], _ => ⟨[], rfl, fun _ m => by cases m⟩
  | d :: ds, h => by
    rw [List.all_cons, Bool.and_eq_true] at h
    obtain ⟨zs, e, hz⟩ := ints_of ds h.2
    have h1 := h.1
    cases d with
    | int i =>
      simp only [fromD, Bool.and_eq_true, decide_eq_true_eq] at h1
      refine ⟨i :: zs, by rw [e]; rfl, fun z m => ?_⟩
      rcases List.mem_cons.mp m with rfl | m
      · exact h1
      · exact hz z m
    | none => simp [fromD] at h1
    | bool _ => simp [fromD] at h1
    | str _ => simp [fromD] at h1
    | list _ => simp [fromD] at h1
    | tuple _ => simp [fromD] at h1
    | dict _ => simp [fromD] at h1
theorem ints_vs {K : PySem.W.Frag} {H : Hp} : ∀ (zs : List Int) (xs : List V), DxAll K H xs (zs.map PyData.int) → xs = zs.map V.int
  | [], _, h => by cases h; rfl
  | z :: zs, _, h => by
    cases h with
    | cons h r =>
      cases h
      rw [ints_vs zs _ r]
      rfl
def spIsSizesX (K : PySem.W.Frag) : Sp := fun vs H Q _ => ∃ v d, vs = [v] ∧ Dx K H v d ∧ ∀ H', Same H H' → Q (.bl (sizesD d)) H'
section
variable {P : Program} {w : World} {K : PySem.W.Frag} {mg : Str → Option Value} {base : Heap}
theorem ok_is_sizes {f : Addr} {fd : FuncData} (F : Fun K "is_sizes" "is_sizes" s_is_sizes f fd) (Z : Zs mg) (d_is_list : DefD P w K mg base 1 "is_list" 1 [] byPlace (spIsListX K)) (d_is_from : DefD P w K mg base 2 "is_from" 3 [] byPlace (spIsFromX K)) :
    FnG P w K mg base CX0 3 f fd ["value"] (spIsSizesX K) := by
  refine okG F sc_is_sizes (fun vs H Q E h => ?_) (fun cdv B up z H vs Q E hG hr h => ?_)
  · obtain ⟨v, d, rfl, _⟩ := h
    rfl
  obtain ⟨v, d, rfl, dx, k⟩ := h
  have no : sizesD d = false → ∀ H', Same H H' → Q (.bl false) H' := fun e H' s => e ▸ k H' s
  have odd : seqD d = none → ∃ t, PSs (cxOf CX0 P w K mg base ["value", "stores", "size"] "is_sizes" (defScope s_is_sizes) f cdv B up z H E).nox (defBody s_is_sizes) t ∧ t { nx := fun _ G => Q .non G, rt := Q } (start ["value", "stores", "size"] [v]) H := by
    intro e
    refine ⟨_, (pss_cons (ps_if (PW.pt (pw_or (pt_not (pt_val (pd_pos d_is_list hG hr (by decide) (by rfl) (pa_cons (pv 0) pa_nil)))) (pw_or1 (pt_not (pt_chain op_le op_le pe_int (pe_callB (show CallR _ _ (rLen K) from c_len) (by rfl) Z.len_ (by decide +kernel) (pa_cons (pv 0) pa_nil)) (pe_gc (by rfl) Z.MOST_NAMES)))))) (pss_one (ps_ret pe_bl)) pss_nil)
  (pss_cons (ps_if (pt_not (pt_val (pe_callB (cr_all rfl) (by rfl) Z.all_ (by decide +kernel) (pa_cons (pe_lc (own := [("size", 2)]) (tt := tYes) rfl sc_is_sizes.nd (pi_list (pv 0)) (blkOk_by (N := ["value", "stores", "size"]) (sc := defScope s_is_sizes) (by decide +kernel)) (fun _ _ _ _ _ => (pg_name (i := 2) sc_is_sizes.nd rfl (by first | exact Or.inl rfl | exact Or.inr rfl))) (fun _ _ _ _ _ => pts_nil) (fun _ _ _ _ _ => (pd_pos d_is_from hG hr (by decide) (by rfl) (pa_cons (pv 2) (pa_cons pe_int (pa_cons (pe_gc (by rfl) Z.MOST_STORES) pa_nil)))))) pa_nil)))) (pss_one (ps_ret pe_bl)) pss_nil)
  (pss_cons (ps_set (i := 1) sc_is_sizes.nd rfl (by first | exact Or.inl rfl | exact Or.inr rfl) pe_int)
  (pss_cons (ps_for PassesOwn.never rfl (pi_list (pv 0)) (pg_name (i := 2) sc_is_sizes.nd rfl (by first | exact Or.inl rfl | exact Or.inr rfl))
  (pss_one (ps_set (i := 1) sc_is_sizes.nd rfl (by first | exact Or.inl rfl | exact Or.inr rfl) (pe_op op_mul (pv 1) (pv 2)))))
  (pss_one (ps_ret (pe_cmpR op_le (pv 1) (pe_gc (by rfl) Z.MOST_STORES) (nomark _)))))))), ?_⟩
    walk_at "r"
    refine ⟨v, d, rfl, dx, fun H1 s1 => ?_⟩
    rw [e]
    simp only [Option.isSome]
    walk_at "r"
    exact no (by simp [sizesD, e]) H1 s1
  cases dx with
  | non => exact odd rfl
  | bl _ => exact odd rfl
  | int _ => exact odd rfl
  | str _ => exact odd rfl
  | emp _ => exact odd rfl
  | @lst a xs ds ha dx =>
    · refine ⟨_, (pss_cons (ps_if (PW.pt (pw_or (pt_not (pt_val (pd_pos d_is_list hG hr (by decide) (by rfl) (pa_cons (pv 0) pa_nil)))) (pw_or1 (pt_not (pt_chain op_le op_le pe_int (pe_callB (show CallR _ _ (rLen K) from c_len) (by rfl) Z.len_ (by decide +kernel) (pa_cons (pv 0) pa_nil)) (pe_gc (by rfl) Z.MOST_NAMES)))))) (pss_one (ps_ret pe_bl)) pss_nil)
  (pss_cons (ps_if (pt_not (pt_val (pe_callB (cr_all rfl) (by rfl) Z.all_ (by decide +kernel) (pa_cons (pe_lc (own := [("size", 2)]) (tt := tYes) rfl sc_is_sizes.nd (pi_list (pv 0)) (blkOk_by (N := ["value", "stores", "size"]) (sc := defScope s_is_sizes) (by decide +kernel)) (fun _ _ _ _ _ => (pg_name (i := 2) sc_is_sizes.nd rfl (by first | exact Or.inl rfl | exact Or.inr rfl))) (fun _ _ _ _ _ => pts_nil) (fun _ _ _ _ _ => (pd_pos d_is_from hG hr (by decide) (by rfl) (pa_cons (pv 2) (pa_cons pe_int (pa_cons (pe_gc (by rfl) Z.MOST_STORES) pa_nil)))))) pa_nil)))) (pss_one (ps_ret pe_bl)) pss_nil)
  (pss_cons (ps_set (i := 1) sc_is_sizes.nd rfl (by first | exact Or.inl rfl | exact Or.inr rfl) pe_int)
  (pss_cons (ps_for PassesOwn.never rfl (pi_list (pv 0)) (pg_name (i := 2) sc_is_sizes.nd rfl (by first | exact Or.inl rfl | exact Or.inr rfl))
  (pss_one (ps_set (i := 1) sc_is_sizes.nd rfl (by first | exact Or.inl rfl | exact Or.inr rfl) (pe_op op_mul (pv 1) (pv 2)))))
  (pss_one (ps_ret (pe_cmpR op_le (pv 1) (pe_gc (by rfl) Z.MOST_STORES) (nomark _)))))))), ?_⟩
      walk_at "r"
      refine ⟨.ref a, _, rfl, .lst ha dx, fun H1 s1 => ?_⟩
      have lx : xs.length = ds.length := dx.length
      simp only [seqD, Option.isSome]
      walk_at "r"
      refine r_lenL (SqL.of (s1 _ _ ha)) ?_
      rw [lx]
      walk_at "r"
      by_cases c1 : (1 : Int) ≤ (ds.length : Nat)
      case neg =>
        rw [decide_eq_false c1]
        walk_at "r"
        exact no (by simp [sizesD, seqD]; omega) H1 s1
      rw [decide_eq_true c1]
      walk_at "r"
      by_cases c3 : ((ds.length : Nat) : Int) ≤ 3
      case neg =>
        rw [decide_eq_false c3]
        walk_at "r"
        exact no (by simp [sizesD, seqD]; omega) H1 s1
      rw [decide_eq_true c3]
      walk_at "r"
      refine ⟨_, rfl, a, rfl, ⟨_, SqL.of (s1 _ _ ha)⟩, fun D hD => ?_⟩
      refine it_list (xs := xs) (fun i G => Same H1 G ∧ G D = some (.lst (((ds.take i).map (fromD 2 8)).map V.bl))) ⟨Same.upd_new hD, upd_same⟩ (fun i G _ p => SqL.of (p.1 _ _ (s1 _ _ ha))) (fun i x G hx p => ?_) (fun G p => ?_)
      · obtain ⟨e, he, dy⟩ := dx.at_ hx
        refine r_gname ⟨rfl, ?_⟩
        walk_at "r"
        refine ⟨x, e, 2, 8, rfl, Dx.same (s1.trans p.1) _ _ dy, ?_⟩
        refine ⟨_, p.2, by rw [List.length_map, List.length_map, List.length_take, sizeLine_eq]; omega, Same.over p.1 hD, ?_⟩
        rw [upd_same, take_next he, List.map_append, List.map_append]
        rfl
      · obtain ⟨s2, d2⟩ := p
        rw [lx, List.take_length] at d2
        refine ⟨D, ds.map (fromD 2 8), rfl, SqL.of d2, ?_⟩
        have ea : (ds.map (fromD 2 8)).all id = ds.all (fromD 2 8) := by rw [List.all_map]; rfl
        rw [ea]
        cases call : ds.all (fromD 2 8) with
        | false =>
          walk_at "r"
          exact no (by simp [sizesD, seqD, call]) G (s1.trans s2)
        | true =>
          walk_at "r"
          obtain ⟨zs, rfl, zb⟩ := ints_of ds call
          have ex : xs = zs.map V.int := ints_vs _ _ dx
          subst ex
          have lz : zs.length ≤ 3 := by rw [List.length_map] at c3; omega
          refine ⟨_, rfl, a, rfl, ⟨_, SqL.of (s2 _ _ (s1 _ _ ha))⟩, for_list (K := K) (a := a) (xs := zs.map V.int) (fun i τ G2 => ∃ v2 : Option V, τ = [some (.ref a), some (.int (prod (zs.take i))), v2] ∧ Same G G2) ⟨_, rfl, Same.refl _⟩ (fun i τ G2 _ q => ?_) ?_ ?_⟩
          · obtain ⟨_, _, s3⟩ := q
            exact SqL.of (s3 _ _ (s2 _ _ (s1 _ _ ha)))
          · rintro i x τ G2 hx ⟨v2, rfl, s3⟩
            obtain ⟨y, hy, rfl⟩ := map_get hx
            walk_at "r"
            refine r_i (.inl (part_small zs zb lz i)) ?_
            walk_at "r"
            rw [← prod_take hy]
            exact ⟨_, rfl, s3⟩
          · rintro τ G2 ⟨v2, rfl, s3⟩
            rw [List.length_map, List.take_length]
            walk_at "r"
            have fin : sizesD (.list (zs.map PyData.int)) = decide (prod zs ≤ 8) := by
              have e1 : prodD (zs.map PyData.int) = prod zs := by
                unfold prodD prod
                rw [List.map_map]
                have : (valD ∘ PyData.int) = id := rfl
                rw [this, List.map_id]
              simp only [sizesD, seqD, e1]
              rw [decide_eq_true (show 1 ≤ (zs.map PyData.int).length by omega), decide_eq_true (show (zs.map PyData.int).length ≤ 3 by omega), call]
              rfl
            have := k G2 ((s1.trans s2).trans s3)
            rw [fin] at this
            exact this
  | @tup a xs ds ha dx =>
    · refine ⟨_, (pss_cons (ps_if (PW.pt (pw_or (pt_not (pt_val (pd_pos d_is_list hG hr (by decide) (by rfl) (pa_cons (pv 0) pa_nil)))) (pw_or1 (pt_not (pt_chain op_le op_le pe_int (pe_callB (show CallR _ _ (rLen K) from c_len) (by rfl) Z.len_ (by decide +kernel) (pa_cons (pv 0) pa_nil)) (pe_gc (by rfl) Z.MOST_NAMES)))))) (pss_one (ps_ret pe_bl)) pss_nil)
  (pss_cons (ps_if (pt_not (pt_val (pe_callB (cr_all rfl) (by rfl) Z.all_ (by decide +kernel) (pa_cons (pe_lc (own := [("size", 2)]) (tt := tYes) rfl sc_is_sizes.nd (pi_tup (pv 0)) (blkOk_by (N := ["value", "stores", "size"]) (sc := defScope s_is_sizes) (by decide +kernel)) (fun _ _ _ _ _ => (pg_name (i := 2) sc_is_sizes.nd rfl (by first | exact Or.inl rfl | exact Or.inr rfl))) (fun _ _ _ _ _ => pts_nil) (fun _ _ _ _ _ => (pd_pos d_is_from hG hr (by decide) (by rfl) (pa_cons (pv 2) (pa_cons pe_int (pa_cons (pe_gc (by rfl) Z.MOST_STORES) pa_nil)))))) pa_nil)))) (pss_one (ps_ret pe_bl)) pss_nil)
  (pss_cons (ps_set (i := 1) sc_is_sizes.nd rfl (by first | exact Or.inl rfl | exact Or.inr rfl) pe_int)
  (pss_cons (ps_for PassesOwn.never rfl (pi_tup (pv 0)) (pg_name (i := 2) sc_is_sizes.nd rfl (by first | exact Or.inl rfl | exact Or.inr rfl))
  (pss_one (ps_set (i := 1) sc_is_sizes.nd rfl (by first | exact Or.inl rfl | exact Or.inr rfl) (pe_op op_mul (pv 1) (pv 2)))))
  (pss_one (ps_ret (pe_cmpR op_le (pv 1) (pe_gc (by rfl) Z.MOST_STORES) (nomark _)))))))), ?_⟩
      walk_at "r"
      refine ⟨.ref a, _, rfl, .tup ha dx, fun H1 s1 => ?_⟩
      have lx : xs.length = ds.length := dx.length
      simp only [seqD, Option.isSome]
      walk_at "r"
      refine r_lenT (SqT.of (s1 _ _ ha)) ?_
      rw [lx]
      walk_at "r"
      by_cases c1 : (1 : Int) ≤ (ds.length : Nat)
      case neg =>
        rw [decide_eq_false c1]
        walk_at "r"
        exact no (by simp [sizesD, seqD]; omega) H1 s1
      rw [decide_eq_true c1]
      walk_at "r"
      by_cases c3 : ((ds.length : Nat) : Int) ≤ 3
      case neg =>
        rw [decide_eq_false c3]
        walk_at "r"
        exact no (by simp [sizesD, seqD]; omega) H1 s1
      rw [decide_eq_true c3]
      walk_at "r"
      refine ⟨_, rfl, a, rfl, ⟨_, SqT.of (s1 _ _ ha)⟩, fun D hD => ?_⟩
      refine it_tup (xs := xs) (fun i G => Same H1 G ∧ G D = some (.lst (((ds.take i).map (fromD 2 8)).map V.bl))) ⟨Same.upd_new hD, upd_same⟩ (fun i G _ p => SqT.of (p.1 _ _ (s1 _ _ ha))) (fun i x G hx p => ?_) (fun G p => ?_)
      · obtain ⟨e, he, dy⟩ := dx.at_ hx
        refine r_gname ⟨rfl, ?_⟩
        walk_at "r"
        refine ⟨x, e, 2, 8, rfl, Dx.same (s1.trans p.1) _ _ dy, ?_⟩
        refine ⟨_, p.2, by rw [List.length_map, List.length_map, List.length_take, sizeLine_eq]; omega, Same.over p.1 hD, ?_⟩
        rw [upd_same, take_next he, List.map_append, List.map_append]
        rfl
      · obtain ⟨s2, d2⟩ := p
        rw [lx, List.take_length] at d2
        refine ⟨D, ds.map (fromD 2 8), rfl, SqL.of d2, ?_⟩
        have ea : (ds.map (fromD 2 8)).all id = ds.all (fromD 2 8) := by rw [List.all_map]; rfl
        rw [ea]
        cases call : ds.all (fromD 2 8) with
        | false =>
          walk_at "r"
          exact no (by simp [sizesD, seqD, call]) G (s1.trans s2)
        | true =>
          walk_at "r"
          obtain ⟨zs, rfl, zb⟩ := ints_of ds call
          have ex : xs = zs.map V.int := ints_vs _ _ dx
          subst ex
          have lz : zs.length ≤ 3 := by rw [List.length_map] at c3; omega
          refine ⟨_, rfl, a, rfl, ⟨_, SqT.of (s2 _ _ (s1 _ _ ha))⟩, for_tup (K := K) (a := a) (xs := zs.map V.int) (fun i τ G2 => ∃ v2 : Option V, τ = [some (.ref a), some (.int (prod (zs.take i))), v2] ∧ Same G G2) ⟨_, rfl, Same.refl _⟩ (fun i τ G2 _ q => ?_) ?_ ?_⟩
          · obtain ⟨_, _, s3⟩ := q
            exact SqT.of (s3 _ _ (s2 _ _ (s1 _ _ ha)))
          · rintro i x τ G2 hx ⟨v2, rfl, s3⟩
            obtain ⟨y, hy, rfl⟩ := map_get hx
            walk_at "r"
            refine r_i (.inl (part_small zs zb lz i)) ?_
            walk_at "r"
            rw [← prod_take hy]
            exact ⟨_, rfl, s3⟩
          · rintro τ G2 ⟨v2, rfl, s3⟩
            rw [List.length_map, List.take_length]
            walk_at "r"
            have fin : sizesD (.tuple (zs.map PyData.int)) = decide (prod zs ≤ 8) := by
              have e1 : prodD (zs.map PyData.int) = prod zs := by
                unfold prodD prod
                rw [List.map_map]
                have : (valD ∘ PyData.int) = id := rfl
                rw [this, List.map_id]
              simp only [sizesD, seqD, e1]
              rw [decide_eq_true (show 1 ≤ (zs.map PyData.int).length by omega), decide_eq_true (show (zs.map PyData.int).length ≤ 3 by omega), call]
              rfl
            have := k G2 ((s1.trans s2).trans s3)
            rw [fin] at this
            exact this
end
end Eld
set_option Elab.async false
set_option maxRecDepth 100000
set_option maxHeartbeats 4000000
set_option linter.all false
namespace Eld
open PySem L2
local macro_rules | `(tactic| walk_at "r1") => `(tactic| with_reducible first
  | refine r_seq ?_ | refine r_asgN ?_ | refine r_asg ?_ | refine r_gname ?_ | refine r_gsub ?_ | refine r_var rfl ?_ | refine r_c ?_ | refine r_op ?_ | refine r_un ?_ | refine r_u ?_ | refine r_i0 ?_ | refine r_cb ?_ | refine r_cons ?_ | refine r_nil ?_ | refine r_cl ?_ | refine r_fn rfl rfl ?_ | refine r_mt ?_
  | refine r_test ?_ | refine r_tb ?_ | refine r_bl ?_ | refine r_and ?_ | refine r_or ?_ | refine r_not ?_ | refine r_andV ?_ | refine r_orV ?_ | refine r_notV ?_ | refine r_ifX ?_ | refine r_ifs ?_ | refine r_chain ?_ | refine r_ret ?_ | refine r_next ?_ | refine r_drop ?_ | refine iteT ?_ | refine iteF ?_ | refine iteNT ?_ | refine iteNF ?_
  | refine r_int1 ?_ | refine r_boolB ?_ | refine r_eqI ?_ | refine r_neI ?_ | refine r_eqB ?_ | refine r_neB ?_ | refine r_eqS ?_ | refine r_neS ?_ | refine r_abs ?_ | refine r_max2 ?_ | refine r_min2 ?_ | refine r_yes ?_ | refine r_tup ?_ | refine r_sfld ?_ | refine r_m0 ?_ | refine r_m1 ?_ | refine r_lst ?_ | refine r_rng1 ?_ | refine r_rng2 ?_ | refine r_ixL (SqL.of (by assumption)) rfl ?_)
local macro_rules | `(tactic| walk_at "r") => `(tactic| repeat (first | walk_at "r1" | ((with_reducible refine r_var ?hv ?_); (case hv => rfl))))

/-! ## a space -/
def spF (tz q : Addr) (n : Int) : List (Str × V) := [("sizes", .ref tz), ("_stores", .ref q), ("never", .int n)]
theorem ne1 : ¬ (("sizes" : Str) = "_stores") := by decide +kernel
theorem ne2 : ¬ (("sizes" : Str) = "never") := by decide +kernel
theorem ne3 : ¬ (("_stores" : Str) = "never") := by decide +kernel
theorem look_cons {x k : Str} {v : V} {r : List (Str × V)} : List.lookup x ((k, v) :: r) = if x = k then some v else List.lookup x r := by
  by_cases h : x = k
  · rw [if_pos h]
    simp [List.lookup, h]
  · rw [if_neg h]
    have : (x == k) = false := by simpa using h
    simp [List.lookup, this]
theorem spF_sizes (tz q : Addr) (n : Int) : (spF tz q n).lookup ("sizes" : Str) = some (.ref tz) := by unfold spF; rw [look_cons, if_pos rfl]
theorem spF_stores (tz q : Addr) (n : Int) : (spF tz q n).lookup ("_stores" : Str) = some (.ref q) := by unfold spF; rw [look_cons, if_neg (Ne.symm ne1), look_cons, if_pos rfl]
theorem spF_never (tz q : Addr) (n : Int) : (spF tz q n).lookup ("never" : Str) = some (.int n) := by unfold spF; rw [look_cons, if_neg (Ne.symm ne2), look_cons, if_neg (Ne.symm ne3), look_cons, if_pos rfl]
theorem spF_no (tz q : Addr) (n : Int) {m : Str} (h1 : ¬ m = "sizes") (h2 : ¬ m = "_stores") (h3 : ¬ m = "never") : (spF tz q n).lookup m = none := by unfold spF; rw [look_cons, if_neg h1, look_cons, if_neg h2, look_cons, if_neg h3]; rfl
theorem put1 (tz : Addr) : putF "sizes" (V.ref tz) [] = ([(("sizes" : Str), V.ref tz)] : List (Str × V)) := rfl
theorem put2 (tz q : Addr) : putF "_stores" (V.ref q) [(("sizes" : Str), V.ref tz)] = ([(("sizes" : Str), V.ref tz), (("_stores" : Str), V.ref q)] : List (Str × V)) := by
  show (if ("sizes" : Str) = "_stores" then [(("sizes" : Str), V.ref q)] else (("sizes" : Str), V.ref tz) :: putF "_stores" (V.ref q) []) = ([(("sizes" : Str), V.ref tz), (("_stores" : Str), V.ref q)] : List (Str × V))
  rw [if_neg ne1]
  rfl
theorem put3 (tz q : Addr) (n : Int) : putF "never" (V.int n) [(("sizes" : Str), V.ref tz), ("_stores", V.ref q)] = spF tz q n := by
  show (if ("sizes" : Str) = "never" then [(("sizes" : Str), V.int n), (("_stores" : Str), V.ref q)] else (("sizes" : Str), V.ref tz) :: (if ("_stores" : Str) = "never" then [(("_stores" : Str), V.int n)] else (("_stores" : Str), V.ref q) :: putF "never" (V.int n) [])) = spF tz q n
  rw [if_neg ne2, if_neg ne3]
  rfl
theorem BareT.to {H H' : Hp} {a : Addr} {ys : List V} (h : BareT H a ys) (f : ∀ o, H a = some o → H' a = some o) : BareT H' a ys := by
  obtain ⟨o, e, d⟩ := h
  exact ⟨o, f _ e, d⟩
theorem BareT.same {H H' : Hp} {a : Addr} {ys : List V} (h : BareT H a ys) (s : Same H H') : BareT H' a ys := h.to fun o e => s _ _ e
theorem BareT.ne {H : Hp} {a b : Addr} {ys : List V} {o : HO} (h : BareT H a ys) (e : H b = some o) (d : ∀ ob u, o ≠ .frz ob u) : a ≠ b := by
  obtain ⟨ob, e', _⟩ := h
  exact ne_of e' e fun z => d _ _ z.symm
/-- a Space with the sizes zs stands at p -/
def SpaceAt (C : Addr) (H : Hp) (p : Addr) (zs : List Int) : Prop := ∃ (dx tz q : Addr) (ts : List Addr), H p = some (.ins C dx (spF tz q ((allRows zs).length : Nat))) ∧ H tz = some (.tup (zs.map V.int)) ∧ BareT H q (ts.map V.ref) ∧ RowsT H ts (allRows zs)
theorem SpaceAt.same {C : Addr} {H H' : Hp} {p : Addr} {zs : List Int} (h : SpaceAt C H p zs) (s : Same H H') : SpaceAt C H' p zs := by
  obtain ⟨dx, tz, q, ts, h1, h2, h3, h4⟩ := h
  exact ⟨dx, tz, q, ts, s _ _ h1, s _ _ h2, h3.same s, h4.same s⟩
/-- what the top has written of the class -/
structure Sc (K : PySem.W.Frag) (mg : Str → Option Value) (C : Addr) : Prop where
  cl : Cls K C
  nS : NoAttr K C "sizes"
  nT : NoAttr K C "_stores"
  nN : NoAttr K C "never"
  cSpace : mg "Space" = some (.ref C)
  ha : PySem.W.findIn K (.ref C) "__class__" = some (some (.builtin "object.__class__"))
  hn : PySem.W.specialIn K (.builtin "object.__class__") "__get__" = some (some (.builtin "getset_descriptor.__get__"))
  ht : PySem.W.takesIn K (.builtin "object.__class__") = some true
  hm : PySem.W.mroIn K C (.type "object") = some true
  kC : PySem.W.kitOne K (.ref C) (.ref C) = some true
  kN : PySem.W.kitOne K (.type "NoneType") (.ref C) = some false
  kL : PySem.W.kitOne K (.type "list") (.ref C) = some false
  kT : PySem.W.kitOne K (.type "tuple") (.ref C) = some false
  kS : PySem.W.kitOne K (.type "str") (.ref C) = some false
  kI : PySem.W.kitOne K (.type "int") (.ref C) = some false
  kB : PySem.W.kitOne K (.type "bool") (.ref C) = some false
theorem Sc.ty {K : PySem.W.Frag} {mg : Str → Option Value} {C dx : Addr} {H : Hp} {p : Addr} {fs : List (Str × V)} (S : Sc K mg C) (e : H p = some (.ins C dx fs)) : TyX K H (.ref p) (.ref C) := .base (.ins e S.cl S.ha S.hn S.ht S.hm)
theorem r_tupleAny {K : PySem.W.Frag} {H : Hp} {Q : VK} {a : Addr} {ys : List V} (ha : H a = some (.lst ys) ∨ H a = some (.tup ys)) (h : ∀ l H', Same H H' → H' l = some (.tup ys) → Q (.ref l) H') : rTupleOf K [.ref a] H Q := by
  rcases ha with e | e
  · exact r_tupleL (SqL.of e) fun l hl => h l _ (Same.upd_new hl) upd_same
  · exact r_tupleT (SqT.of e) (h a H (Same.refl H) e)
theorem r_lenAny {K : PySem.W.Frag} {H : Hp} {Q : VK} {a : Addr} {ys : List V} (ha : H a = some (.lst ys) ∨ H a = some (.tup ys)) (h : Q (.int (ys.length : Nat)) H) : rLen K [.ref a] H Q := by
  rcases ha with e | e
  · exact r_lenL (SqL.of e) h
  · exact r_lenT (SqT.of e) h
theorem same_any {H H' : Hp} {a : Addr} {ys : List V} (s : Same H H') (ha : H a = some (.lst ys) ∨ H a = some (.tup ys)) : H' a = some (.lst ys) ∨ H' a = some (.tup ys) := ha.imp (s _ _) (s _ _)
/-- o.f of an instance that is told -/
theorem r_fldI {K : PySem.W.Frag} {σ : L2.St} {H : Hp} {Q : VK} {ta : TE} {f : Str} (h : ta σ H fun x H1 => ∃ a C dx fs v, x = .ref a ∧ H1 a = some (.ins C dx fs) ∧ Cls K C ∧ NoAttr K C f ∧ fs.lookup f = some v ∧ Q v H1) : tFld K ta f σ H Q := h
def numStr (i : Int) : Str := (toString i : String)
def lineOf (zs : List Int) : Str := Txt.join (" " : Str) (zs.map numStr)
/-! ## the promises -/
def spLen (C : Addr) : Sp := fun vs H Q _ => ∃ p zs, vs = [.ref p] ∧ SpaceAt C H p zs ∧ Q (.int ((allRows zs).length : Nat)) H
def spLine (C : Addr) : Sp := fun vs H Q _ => ∃ p zs, vs = [.ref p] ∧ zs ∈ menu ∧ SpaceAt C H p zs ∧ ∀ H', Same H H' → Q (.str (lineOf zs)) H'
theorem ints_dp {K : PySem.W.Frag} {H : Hp} : ∀ zs : List Int, DpAll K H (zs.map V.int) (zs.map PyData.int)
  | [] => .nil
  | z :: zs => .cons (.int z) (ints_dp zs)
def tupD (r : List Int) : PyData := .tuple (r.map PyData.int)
theorem tup_dp {K : PySem.W.Frag} {H : Hp} {t : Addr} {r : List Int} (h : H t = some (.tup (r.map V.int))) : Dp K H (.ref t) (tupD r) := .tup (SqT.of h) (ints_dp r)
theorem lst_dp {K : PySem.W.Frag} {H : Hp} {t : Addr} {r : List Int} (h : H t = some (.lst (r.map V.int))) : Dp K H (.ref t) (.list (r.map PyData.int)) := .lst (SqL.of h) (ints_dp r)
theorem ints_eqv : ∀ a b : List Int, PyData.eqvAll (a.map PyData.int) (b.map PyData.int) = decide (a = b)
  | [], [] => by simp [PyData.eqvAll]
  | [], b :: bs => by simp [PyData.eqvAll]
  | a :: as, [] => by simp [PyData.eqvAll]
  | a :: as, b :: bs => by
    have ih := ints_eqv as bs
    simp only [List.map_cons, PyData.eqvAll, PyData.eqv, ih]
    by_cases h : a = b
    · subst h
      simp
    · simp [h]
theorem tup_eqv (a b : List Int) : PyData.eqv (tupD a) (tupD b) = decide (a = b) := by
  simp only [tupD, PyData.eqv]
  exact ints_eqv a b
theorem lst_eqv (a b : List Int) : PyData.eqv (.list (a.map PyData.int)) (.list (b.map PyData.int)) = decide (a = b) := by
  simp only [PyData.eqv]
  exact ints_eqv a b
theorem ints_lay : ∀ a : List Int, PyData.canLayAll0 (a.map PyData.int) = true
  | [] => by simp [PyData.canLayAll0]
  | a :: as => by simp [PyData.canLayAll0, PyData.canLay0, ints_lay as]
theorem ints_depth : ∀ a : List Int, PyData.depthAll (a.map PyData.int) = 0
  | [] => by simp [PyData.depthAll]
  | a :: as => by simp [PyData.depthAll, PyData.depth, ints_depth as]
theorem tup_shaped (a : List Int) : SeqAt.shaped (tupD a) = true := by
  simp [SeqAt.shaped, tupD, PyData.canLay0, PyData.depth, ints_lay, ints_depth]
theorem lst_shaped (a : List Int) : SeqAt.shaped (.list (a.map PyData.int)) = true := by
  simp [SeqAt.shaped, PyData.canLay0, PyData.depth, ints_lay, ints_depth]
theorem num_small : ∀ z : Int, 2 ≤ z → z ≤ 8 → z.natAbs.log2 < 1920 := by
  intro z h1 h2
  have : z.natAbs ≤ 8 := by omega
  calc z.natAbs.log2 ≤ z.natAbs := by
        rcases Nat.eq_zero_or_pos z.natAbs with h | h
        · rw [h]; decide
        · exact Nat.le_of_lt (Nat.lt_of_lt_of_le (Nat.log2_lt (Nat.ne_of_gt h) |>.mpr (Nat.lt_two_pow_self)) (Nat.le_refl _))
    _ < 1920 := by omega
theorem menu_line : ∀ zs ∈ menu, ((zs.map numStr).map (·.length)).sum + (zs.map numStr).length * (" " : Str).length ≤ 16777216 := by decide +kernel
theorem ints_dx {K : PySem.W.Frag} {H : Hp} : ∀ zs : List Int, DxAll K H (zs.map V.int) (zs.map PyData.int)
  | [] => .nil
  | z :: zs => .cons (.int z) (ints_dx zs)
theorem menu_sizes : ∀ zs ∈ menu, sizesD (.list (zs.map PyData.int)) = true ∧ sizesD (.tuple (zs.map PyData.int)) = true := by decide +kernel
/-- an error of the class at C with v, in a heap that has all of H -/
def errE (E : XK) (C : Addr) (v : V) (H : Hp) : Prop := ∀ d G, H d = none → Same H G → G d = some (.xd (gv v)) → E (.ref C) (some d) G
theorem errE.same {E : XK} {C : Addr} {v : V} {H H' : Hp} (h : errE E C v H) (s : Same H H') : errE E C v H' := fun d G n t g => h d G (s.free n) (s.trans t) g
def spInitX (C Ce : Addr) (K : PySem.W.Frag) : Sp := fun vs H Q E => ∃ p v dx, vs = [.ref p, v] ∧ H p = some (.ins C dx []) ∧
  ((∃ a zs, v = .ref a ∧ zs ∈ menu ∧ (H a = some (.lst (zs.map V.int)) ∨ H a = some (.tup (zs.map V.int))) ∧ ∀ H', (∀ b o, b ≠ p → H b = some o → H' b = some o) → SpaceAt C H' p zs → Q .non H') ∨
    ∃ d, Dx K H v d ∧ sizesD d = false ∧ errE E Ce v H)
theorem r_mkO {C : Addr} {sp : Sp} {dvs : List V} {ta : TA} {σ : L2.St} {H : Hp} {Q : XK} (h : ta σ H fun vs H1 => vs.length ≤ 1000 ∧ ∀ a, H1 a = none → sp (.ref a :: (vs ++ dvs)) (upd H1 a (exo a C none)) (fun v H2 => v = .non ∧ ∃ (d : Addr) (fs : List (Str × V)), H2 a = some (exo a C (some d)) ∧ H2 d = some (exd d fs) ∧ H1 d = none ∧ Q (.ref C) (some d) (upd (del H2 a) d (.xd fs))) fun _ _ _ => False) : tMkO C sp dvs ta σ H Q := h
section
variable {P : Program} {w : World} {K : PySem.W.Frag} {mg : Str → Option Value} {base : Heap} {C Ce : Addr}
theorem ok_InvalidSizes {f : Addr} {fd : FuncData} (F : Fun K "__init__" "InvalidSizes.__init__" s_InvalidSizes___init__ f fd) (T : OexC K C) (hg : PySem.W.findIn K (.ref C) "given" = some none) : FnOk P w K mg base CX0 1 f fd ["self", "given"] (spErr C) := by
  refine F.ok sc_InvalidSizes___init__ (fun vs H Q E h => ?_) (fun cdv B up z H vs Q E hr h => ⟨_, (pss_one (ps_ost (pv 0) (pv 1))), ?_⟩)
  · obtain ⟨a, v, rfl, _⟩ := h
    rfl
  · obtain ⟨a, v, rfl, ha, k⟩ := h
    exact ⟨_, rfl, _, rfl, a, C, rfl, T, hg, .inl ⟨ha, fun dx n e => k dx n e⟩⟩
theorem ok_InvalidStore {f : Addr} {fd : FuncData} (F : Fun K "__init__" "InvalidStore.__init__" s_InvalidStore___init__ f fd) (T : OexC K C) (hg : PySem.W.findIn K (.ref C) "given" = some none) : FnOk P w K mg base CX0 1 f fd ["self", "given"] (spErr C) := by
  refine F.ok sc_InvalidStore___init__ (fun vs H Q E h => ?_) (fun cdv B up z H vs Q E hr h => ⟨_, (pss_one (ps_ost (pv 0) (pv 1))), ?_⟩)
  · obtain ⟨a, v, rfl, _⟩ := h
    rfl
  · obtain ⟨a, v, rfl, ha, k⟩ := h
    exact ⟨_, rfl, _, rfl, a, C, rfl, T, hg, .inl ⟨ha, fun dx n e => k dx n e⟩⟩
theorem ok_InvalidValues {f : Addr} {fd : FuncData} (F : Fun K "__init__" "InvalidValues.__init__" s_InvalidValues___init__ f fd) (T : OexC K C) (hg : PySem.W.findIn K (.ref C) "given" = some none) : FnOk P w K mg base CX0 1 f fd ["self", "given"] (spErr C) := by
  refine F.ok sc_InvalidValues___init__ (fun vs H Q E h => ?_) (fun cdv B up z H vs Q E hr h => ⟨_, (pss_one (ps_ost (pv 0) (pv 1))), ?_⟩)
  · obtain ⟨a, v, rfl, _⟩ := h
    rfl
  · obtain ⟨a, v, rfl, ha, k⟩ := h
    exact ⟨_, rfl, _, rfl, a, C, rfl, T, hg, .inl ⟨ha, fun dx n e => k dx n e⟩⟩
theorem ok_InvalidLine {f : Addr} {fd : FuncData} (F : Fun K "__init__" "InvalidLine.__init__" s_InvalidLine___init__ f fd) (T : OexC K C) (hg : PySem.W.findIn K (.ref C) "given" = some none) : FnOk P w K mg base CX0 1 f fd ["self", "given"] (spErr C) := by
  refine F.ok sc_InvalidLine___init__ (fun vs H Q E h => ?_) (fun cdv B up z H vs Q E hr h => ⟨_, (pss_one (ps_ost (pv 0) (pv 1))), ?_⟩)
  · obtain ⟨a, v, rfl, _⟩ := h
    rfl
  · obtain ⟨a, v, rfl, ha, k⟩ := h
    exact ⟨_, rfl, _, rfl, a, C, rfl, T, hg, .inl ⟨ha, fun dx n e => k dx n e⟩⟩
theorem ok_init {f : Addr} {fd : FuncData} (F : Fun K "__init__" "Space.__init__" s_Space___init__ f fd) (Z : Zs mg) (S : Sc K mg C) (d_is_sizes : DefD P w K mg base 3 "is_sizes" 1 [] byPlace (spIsSizesX K)) (d_all_values : DefD P w K mg base 1 "all_values" 1 [] byPlace spAllValues)
    (d_InvalidSizes : ErrD P w K mg base "InvalidSizes" Ce) : FnG P w K mg base (L2.CX P w) 4 f fd ["self", "sizes"] (spInitX C Ce K) := by
  refine okGX F sc_Space___init__ (fun vs H Q E h => ?_) (fun cdv B up z H vs Q E hG hr h => ?_)
  · obtain ⟨p, v, dx, rfl, _⟩ := h
    rfl
  refine ⟨_, (pss_cons (ps_if (pt_not (pt_val (pd_pos d_is_sizes hG hr (by decide) (by rfl) (pa_cons (pv 1) pa_nil)))) (pss_one (ps_err d_InvalidSizes rfl (takes_of rfl rfl rfl rfl) (hr.mono (by decide)) (by rfl) (pa_cons (pv 1) pa_nil))) pss_nil)
  (pss_cons (ps_fld (pv 0) (pe_callTy (show CallR _ _ (rTupleOf K) from c_tuple) (by rfl) Z.tuple_ (by decide +kernel) (pa_cons (pv 1) pa_nil)) rfl)
  (pss_cons (ps_fld (pv 0) (pd_pos d_all_values hG hr (by decide) (by rfl) (pa_cons (pe_fld (pv 0) rfl) pa_nil)) rfl)
  (pss_one (ps_fld (pv 0) (pe_callB (show CallR _ _ (rLen K) from c_len) (by rfl) Z.len_ (by decide +kernel) (pa_cons (pe_fld (pv 0) rfl) pa_nil)) rfl))))), ?_⟩
  obtain ⟨p, v, dx, rfl, hp, h⟩ := h
  rcases h with ⟨a, zs, rfl, hz, ha, k⟩ | ⟨d, dd, sd, k⟩
  · walk_at "r"
    have dd : ∃ d, Dx K H (.ref a) d ∧ sizesD d = true := by
      rcases ha with e | e
      · exact ⟨_, .lst e (ints_dx zs), (menu_sizes zs hz).1⟩
      · exact ⟨_, .tup e (ints_dx zs), (menu_sizes zs hz).2⟩
    obtain ⟨d, dd, sd⟩ := dd
    refine ⟨_, d, rfl, dd, fun H1 s1 => ?_⟩
    rw [sd]
    walk_at "r"
    refine r_tupleAny (same_any s1 ha) fun tz H2 s2 h2 => ?_
    have p2 : H2 p = some (.ins C dx []) := s2 _ _ (s1 _ _ hp)
    refine ⟨_, rfl, p, C, dx, [], rfl, p2, S.cl, S.nS, by show 0 < 1000; decide, ?_⟩
    rw [put1]
    have np : tz ≠ p := ne_of h2 p2 (by intro e; cases e)
    have h3 : (upd H2 p (.ins C dx [("sizes", V.ref tz)])) tz = some (.tup (zs.map V.int)) := by rw [upd_ne np]; exact h2
    have p3 : (upd H2 p (.ins C dx [("sizes", V.ref tz)])) p = some (.ins C dx [("sizes", V.ref tz)]) := upd_same
    generalize e3 : upd H2 p (.ins C dx [("sizes", V.ref tz)]) = H3 at h3 p3
    have s3 : ∀ b o, b ≠ p → H2 b = some o → H3 b = some o := fun b o nb e => by rw [← e3, upd_ne nb]; exact e
    walk_at "r"
    refine ⟨_, rfl, p, C, dx, _, _, rfl, p3, S.cl, S.nS, by rw [look_cons, if_pos rfl], ?_⟩
    walk_at "r"
    refine ⟨tz, zs, rfl, hz, h3, fun H4 q ts s4 q0 hq rt => ?_⟩
    refine ⟨_, rfl, p, C, dx, _, rfl, s4 _ _ p3, S.cl, S.nT, by show 1 < 1000; decide, ?_⟩
    rw [put2]
    have nq : q ≠ p := hq.ne (s4 _ _ p3) (by intro _ _ e; cases e)
    have p5 : (upd H4 p (.ins C dx [("sizes", V.ref tz), ("_stores", V.ref q)])) p = some (.ins C dx [("sizes", V.ref tz), ("_stores", V.ref q)]) := upd_same
    generalize e5 : upd H4 p (.ins C dx [("sizes", V.ref tz), ("_stores", V.ref q)]) = H5 at p5
    have s5 : ∀ b o, b ≠ p → H4 b = some o → H5 b = some o := fun b o nb e => by rw [← e5, upd_ne nb]; exact e
    walk_at "r"
    refine ⟨_, rfl, p, C, dx, _, _, rfl, p5, S.cl, S.nT, by rw [look_cons, if_neg (Ne.symm ne1), look_cons, if_pos rfl], ?_⟩
    walk_at "r"
    refine r_lenT (hq.to fun o e => s5 _ _ nq e).sq ?_
    refine ⟨_, rfl, p, C, dx, _, rfl, p5, S.cl, S.nN, by show 2 < 1000; decide, ?_⟩
    rw [put3, List.length_map, rt.1]
    refine k _ (fun b o nb e => ?_) ⟨dx, tz, q, ts, upd_same, ?_, ?_, rt.1, fun i t r a' b' => ?_⟩
    · rw [upd_ne nb]
      exact s5 _ _ nb (s4 _ _ (s3 _ _ nb (s2 _ _ (s1 _ _ e))))
    · rw [upd_ne np]
      exact s5 _ _ np (s4 _ _ h3)
    · exact hq.to fun o e => by
        rw [upd_ne nq]
        exact s5 _ _ nq e
    · have e1 := rt.2 i t r a' b'
      have nt : t ≠ p := ne_of e1 (s4 _ _ p3) (by intro e; cases e)
      rw [upd_ne nt]
      exact s5 _ _ nt e1
  · walk_at "r"
    refine ⟨v, d, rfl, dd, fun H1 s1 => ?_⟩
    rw [sd]
    walk_at "r"
    refine r_mkO ?_
    walk_at "r"
    exact err_done (k.same s1)
theorem ok_len {f : Addr} {fd : FuncData} (F : Fun K "__len__" "Space.__len__" s_Space___len__ f fd) (Z : Zs mg) (S : Sc K mg C) : FnG P w K mg base CX0 1 f fd ["self"] (spLen C) := by
  refine okG F sc_Space___len__ (fun vs H Q E h => ?_) (fun cdv B up z H vs Q E hG hr h => ?_)
  · obtain ⟨p, zs, rfl, _⟩ := h
    rfl
  · obtain ⟨p, zs, rfl, ⟨dx, tz, q, ts, h1, h2, h3, rt⟩, k⟩ := h
    refine ⟨_, (pss_one (ps_ret (pe_callB (show CallR _ _ (rLen K) from c_len) (by rfl) Z.len_ (by decide +kernel) (pa_cons (pe_fld (pv 0) rfl) pa_nil)))), ?_⟩
    walk_at "r"
    refine ⟨_, rfl, p, C, dx, _, _, rfl, h1, S.cl, S.nT, spF_stores _ _ _, ?_⟩
    walk_at "r"
    refine r_lenT h3.sq ?_
    rw [List.length_map, rt.1]
    exact k
theorem ok_line {f : Addr} {fd : FuncData} (F : Fun K "line" "Space.line" s_Space_line f fd) (Z : Zs mg) (S : Sc K mg C) : FnG P w K mg base CX0 1 f fd ["self"] (spLine C) := by
  refine okG F sc_Space_line (fun vs H Q E h => ?_) (fun cdv B up z H vs Q E hG hr h => ?_)
  · obtain ⟨p, zs, rfl, _⟩ := h
    rfl
  · obtain ⟨p, zs, rfl, hz, ⟨dx, tz, q, ts, h1, h2, h3, rt⟩, k⟩ := h
    refine ⟨_, (pss_one (ps_ret (pe_join pe_str (pe_lc (own := [("size", 1)]) (tt := tYes) rfl sc_Space_line.nd (pi_tup (pe_fld (pv 0) rfl)) (blkOk_by (N := ["self", "size"]) (sc := defScope s_Space_line) (by decide +kernel)) (fun _ _ _ _ _ => (pg_name (i := 1) sc_Space_line.nd rfl (by first | exact Or.inl rfl | exact Or.inr rfl))) (fun _ _ _ _ _ => pts_nil) (fun _ _ _ _ _ => (pe_callTy c_str (by rfl) Z.str_ (by decide +kernel) (pa_cons (pv 1) pa_nil))))))), ?_⟩
    walk_at "r"
    refine ⟨⟨_, rfl⟩, ?_⟩
    refine ⟨_, rfl, p, C, dx, _, _, rfl, h1, S.cl, S.nS, spF_sizes _ _ _, tz, rfl, ⟨_, SqT.of h2⟩, fun D hD => ?_⟩
    refine it_tup (xs := zs.map V.int) (fun i H2 => Same H H2 ∧ H2 D = some (.lst ((zs.take i).map fun z => V.str (numStr z)))) ⟨Same.upd_new hD, upd_same⟩ (fun i H2 _ s => SqT.of (s.1 _ _ h2)) (fun i x H2 hx s => ?_) (fun H2 s => ?_)
    · obtain ⟨y, hy, rfl⟩ := map_get hx
      obtain ⟨y1, y2⟩ := menu_mem zs hz y (List.mem_of_getElem? hy)
      obtain ⟨l1, l3⟩ := menu_len zs hz
      refine r_gname ⟨rfl, ?_⟩
      walk_at "r"
      refine r_strI (num_small y y1 y2) ?_
      refine ⟨_, s.2, by rw [List.length_map, List.length_take, sizeLine_eq]; omega, Same.over s.1 hD, ?_⟩
      rw [upd_same, take_next hy, List.map_append]
      rfl
    · obtain ⟨s1, s2⟩ := s
      have e : (zs.take (zs.map V.int).length).map (fun z => V.str (numStr z)) = (zs.map numStr).map V.str := by
        rw [List.length_map, List.take_length, List.map_map]
        rfl
      rw [e] at s2
      exact ⟨_, D, zs.map numStr, rfl, rfl, .inl (SqL.of s2), menu_line zs hz, k H2 s1⟩
end
end Eld
set_option Elab.async false
set_option maxRecDepth 100000
set_option maxHeartbeats 4000000
set_option linter.all false
namespace Eld
open PySem L2
local macro_rules | `(tactic| walk_at "r1") => `(tactic| with_reducible first
  | refine r_seq ?_ | refine r_asgN ?_ | refine r_asg ?_ | refine r_gname ?_ | refine r_gsub ?_ | refine r_var rfl ?_ | refine r_c ?_ | refine r_op ?_ | refine r_un ?_ | refine r_u ?_ | refine r_i0 ?_ | refine r_cb ?_ | refine r_cons ?_ | refine r_nil ?_ | refine r_cl ?_ | refine r_fn rfl rfl ?_ | refine r_mt ?_
  | refine r_test ?_ | refine r_tb ?_ | refine r_bl ?_ | refine r_and ?_ | refine r_or ?_ | refine r_not ?_ | refine r_andV ?_ | refine r_orV ?_ | refine r_notV ?_ | refine r_ifX ?_ | refine r_ifs ?_ | refine r_chain ?_ | refine r_ret ?_ | refine r_next ?_ | refine r_drop ?_ | refine iteT ?_ | refine iteF ?_ | refine iteNT ?_ | refine iteNF ?_
  | refine r_int1 ?_ | refine r_boolB ?_ | refine r_eqI ?_ | refine r_neI ?_ | refine r_eqB ?_ | refine r_neB ?_ | refine r_eqS ?_ | refine r_neS ?_ | refine r_abs ?_ | refine r_max2 ?_ | refine r_min2 ?_ | refine r_yes ?_ | refine r_tup ?_ | refine r_sfld ?_ | refine r_m0 ?_ | refine r_m1 ?_ | refine r_lst ?_ | refine r_rng1 ?_ | refine r_rng2 ?_ | refine r_ixL (SqL.of (by assumption)) rfl ?_)
local macro_rules | `(tactic| walk_at "r") => `(tactic| repeat (first | walk_at "r1" | ((with_reducible refine r_var ?hv ?_); (case hv => rfl))))

theorem r_splitS {H : Hp} {Q : VK} {a b : Str} (h0 : (b.length == 0) = false) (h1 : a.length + 2 ≤ sizeLine) (h : ∀ p, H p = none → Q (.ref p) (upd H p (.lst ((Txt.split a b).map V.str)))) : ∃ a' b', V.str a = .str a' ∧ [V.str b] = [.str b'] ∧ (b'.length == 0) = false ∧ a'.length + 2 ≤ sizeLine ∧ rNewStrs (Txt.split a' b') H Q := ⟨a, b, rfl, rfl, h0, h1, h⟩
theorem menu_split : ∀ zs ∈ menu, Txt.split (lineOf zs) " " = zs.map numStr ∧ (lineOf zs).length ≤ 100 := by decide +kernel
theorem menu_word : ∀ zs ∈ menu, ∀ z ∈ zs, Txt.isascii (numStr z) = true ∧ Txt.isdigit (numStr z) = true ∧ (numStr z).length = 1 ∧ PySem.intText? (numStr z) = some z := by decide +kernel
theorem menu_nodup : ∀ zs ∈ menu, (allRows zs).Nodup := by decide
theorem menu_below : ∀ zs ∈ menu, ∀ r ∈ allRows zs, r.length = zs.length ∧ ∀ i, i < 3 → i < zs.length → 0 ≤ r.getD i 0 ∧ r.getD i 0 < zs.getD i 0 := by decide
theorem getD_of {l : List Int} {i : Nat} {x : Int} (h : l[i]? = some x) : l.getD i 0 = x := by rw [List.getD_eq_getElem?_getD, h]; rfl
theorem dpAll_at {K : PySem.W.Frag} {H : Hp} {f : List Int → PyData} (hf : ∀ t r, H t = some (.tup (r.map V.int)) → Dp K H (.ref t) (f r)) : ∀ {ts : List Addr} {rows : List (List Int)}, RowsT H ts rows → DpAll K H (ts.map V.ref) (rows.map f)
  | [], [], _ => .nil
  | [], r :: rs, h => absurd h.1 (by simp)
  | t :: ts, [], h => absurd h.1 (by simp)
  | t :: ts, r :: rs, h => .cons (hf t r (h.2 0 t r rfl rfl)) (dpAll_at hf ⟨by simpa using h.1, fun i u q a b => h.2 (i + 1) u q (by simpa using a) (by simpa using b)⟩)
theorem rows_lay : ∀ rows : List (List Int), PyData.canLayAll0 (rows.map tupD) = true
  | [] => by simp [PyData.canLayAll0]
  | r :: rs => by simp [PyData.canLayAll0, tupD, PyData.canLay0, ints_lay r, rows_lay rs]
theorem rows_depth : ∀ rows : List (List Int), PyData.depthAll (rows.map tupD) ≤ 1
  | [] => by simp [PyData.depthAll]
  | r :: rs => by
    have h1 := rows_depth rs
    have h2 : (tupD r).depth = 1 := by simp [tupD, PyData.depth, ints_depth]
    simp only [List.map_cons, PyData.depthAll]
    omega
theorem rows_shaped (rows : List (List Int)) : SeqAt.shaped (.tuple (rows.map tupD)) = true := by
  have h := rows_depth rows
  have h2 : PyData.depth (.tuple (rows.map tupD)) ≤ 64 := by
    simp only [PyData.depth]
    omega
  simp only [SeqAt.shaped, PyData.canLay0, rows_lay, Bool.true_and, decide_eq_true_eq]
  exact h2
def valuesD (zs : List Int) (d : PyData) : Bool := match seqD d with
  | some ds => decide (ds.length = zs.length) && (List.zipWith (fun d z => indexD z d) ds zs).all id
  | none => false
def spIsValuesX (K : PySem.W.Frag) : Sp := fun vs H Q _ => ∃ v d tz zs, vs = [v, .ref tz] ∧ zs ∈ menu ∧ Dx K H v d ∧ H tz = some (.tup (zs.map V.int)) ∧ ∀ H', Same H H' → Q (.bl (valuesD zs d)) H'
section
variable {P : Program} {w : World} {K : PySem.W.Frag} {mg : Str → Option Value} {base : Heap} {C Ce : Addr}
theorem ok_is_values {f : Addr} {fd : FuncData} (F : Fun K "is_values" "is_values" s_is_values f fd) (Z : Zs mg) (d_is_list : DefD P w K mg base 1 "is_list" 1 [] byPlace (spIsListX K)) (d_is_index : DefD P w K mg base 2 "is_index" 2 [] byPlace (spIsIndexX K)) :
    FnG P w K mg base CX0 3 f fd ["value", "sizes"] (spIsValuesX K) := by
  refine okG F sc_is_values (fun vs H Q E h => ?_) (fun cdv B up z H vs Q E hG hr h => ?_)
  · obtain ⟨v, d, tz, zs, rfl, _⟩ := h
    rfl
  obtain ⟨v, d, tz, zs, rfl, hz, dx, ht, k⟩ := h
  obtain ⟨l1, l3⟩ := menu_len zs hz
  have no : valuesD zs d = false → ∀ H', Same H H' → Q (.bl false) H' := fun e H' s => e ▸ k H' s
  have odd : seqD d = none → ∃ t, PSs (cxOf CX0 P w K mg base ["value", "sizes", "item", "size"] "is_values" (defScope s_is_values) f cdv B up z H E).nox (defBody s_is_values) t ∧ t { nx := fun _ G => Q .non G, rt := Q } (start ["value", "sizes", "item", "size"] [v, .ref tz]) H := by
    intro e
    refine ⟨_, (pss_cons (ps_if (PW.pt (pw_or (pt_not (pt_val (pd_pos d_is_list hG hr (by decide) (by rfl) (pa_cons (pv 0) pa_nil)))) (pw_or1 (pt_cmpR op_ne (pe_callB (show CallR _ _ (rLen K) from c_len) (by rfl) Z.len_ (by decide +kernel) (pa_cons (pv 0) pa_nil)) (pe_callB (show CallR _ _ (rLen K) from c_len) (by rfl) Z.len_ (by decide +kernel) (pa_cons (pv 1) pa_nil)) (nomark _))))) (pss_one (ps_ret pe_bl)) pss_nil)
  (pss_one (ps_ret (pe_callB (cr_all rfl) (by rfl) Z.all_ (by decide +kernel) (pa_cons (pe_lc (own := [("item", 2), ("size", 3)]) (tt := tYes) rfl sc_is_values.nd (pi_zipM (by rfl) Z.zip_ (pa_cons (pv 0) (pa_cons (pv 1) pa_nil))) (blkOk_by (N := ["value", "sizes", "item", "size"]) (sc := defScope s_is_values) (by decide +kernel)) (fun _ _ _ _ _ => (by (refine (show PG _ _ (gTup K 2 (gCons (gName 2) (gCons (gName 3) gNil))) from ?_); refine pg_tup rfl (pgs_cons ?_ (pgs_cons ?_ pgs_nil)); exact (pg_name (i := 2) sc_is_values.nd rfl (by first | exact Or.inl rfl | exact Or.inr rfl)); exact (pg_name (i := 3) sc_is_values.nd rfl (by first | exact Or.inl rfl | exact Or.inr rfl))))) (fun _ _ _ _ _ => pts_nil) (fun _ _ _ _ _ => (pd_pos d_is_index hG hr (by decide) (by rfl) (pa_cons (pv 2) (pa_cons (pv 3) pa_nil))))) pa_nil))))), ?_⟩
    walk_at "r"
    refine ⟨v, d, rfl, dx, fun H1 s1 => ?_⟩
    rw [e]
    simp only [Option.isSome]
    walk_at "r"
    exact no (by simp [valuesD, e]) H1 s1
  cases dx with
  | non => exact odd rfl
  | bl _ => exact odd rfl
  | int _ => exact odd rfl
  | str _ => exact odd rfl
  | emp _ => exact odd rfl
  | @lst a xs ds ha dx =>
    refine ⟨_, (pss_cons (ps_if (PW.pt (pw_or (pt_not (pt_val (pd_pos d_is_list hG hr (by decide) (by rfl) (pa_cons (pv 0) pa_nil)))) (pw_or1 (pt_cmpR op_ne (pe_callB (show CallR _ _ (rLen K) from c_len) (by rfl) Z.len_ (by decide +kernel) (pa_cons (pv 0) pa_nil)) (pe_callB (show CallR _ _ (rLen K) from c_len) (by rfl) Z.len_ (by decide +kernel) (pa_cons (pv 1) pa_nil)) (nomark _))))) (pss_one (ps_ret pe_bl)) pss_nil)
  (pss_one (ps_ret (pe_callB (cr_all rfl) (by rfl) Z.all_ (by decide +kernel) (pa_cons (pe_lc (own := [("item", 2), ("size", 3)]) (tt := tYes) rfl sc_is_values.nd (pi_zipM (by rfl) Z.zip_ (pa_cons (pv 0) (pa_cons (pv 1) pa_nil))) (blkOk_by (N := ["value", "sizes", "item", "size"]) (sc := defScope s_is_values) (by decide +kernel)) (fun _ _ _ _ _ => (by (refine (show PG _ _ (gTup K 2 (gCons (gName 2) (gCons (gName 3) gNil))) from ?_); refine pg_tup rfl (pgs_cons ?_ (pgs_cons ?_ pgs_nil)); exact (pg_name (i := 2) sc_is_values.nd rfl (by first | exact Or.inl rfl | exact Or.inr rfl)); exact (pg_name (i := 3) sc_is_values.nd rfl (by first | exact Or.inl rfl | exact Or.inr rfl))))) (fun _ _ _ _ _ => pts_nil) (fun _ _ _ _ _ => (pd_pos d_is_index hG hr (by decide) (by rfl) (pa_cons (pv 2) (pa_cons (pv 3) pa_nil))))) pa_nil))))), ?_⟩
    walk_at "r"
    refine ⟨.ref a, _, rfl, .lst ha dx, fun H1 s1 => ?_⟩
    have lx : xs.length = ds.length := dx.length
    simp only [seqD, Option.isSome]
    walk_at "r"
    refine r_lenL (SqL.of (s1 _ _ ha)) ?_
    walk_at "r"
    refine r_lenT (SqT.of (s1 _ _ ht)) ?_
    rw [lx, List.length_map]
    walk_at "r"
    by_cases cl : ds.length = zs.length
    case neg =>
      rw [decide_eq_false (show ¬ V.int ((ds.length : Nat) : Int) = V.int ((zs.length : Nat) : Int) by intro e; exact cl (by have := V.int.inj e; omega))]
      walk_at "r"
      exact no (by simp [valuesD, seqD, cl]) H1 s1
    rw [decide_eq_true (show V.int ((ds.length : Nat) : Int) = V.int ((zs.length : Nat) : Int) by rw [cl])]
    walk_at "r"
    have lz : xs.length = (zs.map V.int).length := by rw [lx, List.length_map, cl]
    have zl : (List.zipWith (fun d z => indexD z d) ds zs).length = xs.length := by rw [List.length_zipWith, cl, Nat.min_self, lx, cl]
    refine ⟨_, rfl, _, rfl, a, tz, _, _, rfl, SqL.of (s1 _ _ ha), SqT.of (s1 _ _ ht), fun D hD => ?_⟩
    refine it_zipM lz (fun i G => Same H1 G ∧ G D = some (.lst (((List.zipWith (fun d z => indexD z d) ds zs).take i).map V.bl))) ⟨Same.upd_new hD, upd_same⟩ (fun i G _ p => ⟨SqL.of (p.1 _ _ (s1 _ _ ha)), SqT.of (p.1 _ _ (s1 _ _ ht))⟩) (fun i x y T G hx hy p hT => ?_) (fun G p => ?_)
    · obtain ⟨s2, d2⟩ := p
      obtain ⟨e, he, dy⟩ := dx.at_ hx
      obtain ⟨z', hz', rfl⟩ := map_get hy
      have il : i < xs.length := (List.getElem?_eq_some_iff.mp hx).1
      have sT : Same G (upd G T (.tup [x, .int z'])) := Same.upd_new hT
      refine ⟨T, _, rfl, SqT.of upd_same, rfl, _, _, rfl, _, _, rfl, rfl, ?_⟩
      refine ⟨rfl, ?_⟩
      walk_at "r"
      refine ⟨x, e, z', rfl, Dx.same ((s1.trans s2).trans sT) _ _ dy, ?_⟩
      refine ⟨_, sT _ _ d2, by rw [List.length_map, List.length_take, sizeLine_eq]; omega, Same.over (s2.trans sT) hD, ?_⟩
      have hp : (List.zipWith (fun d z => indexD z d) ds zs)[i]? = some (indexD z' e) := by rw [List.getElem?_zipWith, he, hz']
      rw [upd_same, take_next hp, List.map_append]
      rfl
    · obtain ⟨s2, d2⟩ := p
      rw [← zl, List.take_length] at d2
      refine ⟨D, _, rfl, SqL.of d2, ?_⟩
      have fin : valuesD zs (.list ds) = (List.zipWith (fun d z => indexD z d) ds zs).all id := by simp [valuesD, seqD, cl]
      have := k G (s1.trans s2)
      rw [fin] at this
      exact this
  | @tup a xs ds ha dx =>
    refine ⟨_, (pss_cons (ps_if (PW.pt (pw_or (pt_not (pt_val (pd_pos d_is_list hG hr (by decide) (by rfl) (pa_cons (pv 0) pa_nil)))) (pw_or1 (pt_cmpR op_ne (pe_callB (show CallR _ _ (rLen K) from c_len) (by rfl) Z.len_ (by decide +kernel) (pa_cons (pv 0) pa_nil)) (pe_callB (show CallR _ _ (rLen K) from c_len) (by rfl) Z.len_ (by decide +kernel) (pa_cons (pv 1) pa_nil)) (nomark _))))) (pss_one (ps_ret pe_bl)) pss_nil)
  (pss_one (ps_ret (pe_callB (cr_all rfl) (by rfl) Z.all_ (by decide +kernel) (pa_cons (pe_lc (own := [("item", 2), ("size", 3)]) (tt := tYes) rfl sc_is_values.nd (RZ.pi_zipA (by rfl) Z.zip_ (pa_cons (pv 0) (pa_cons (pv 1) pa_nil))) (blkOk_by (N := ["value", "sizes", "item", "size"]) (sc := defScope s_is_values) (by decide +kernel)) (fun _ _ _ _ _ => (by (refine (show PG _ _ (gTup K 2 (gCons (gName 2) (gCons (gName 3) gNil))) from ?_); refine pg_tup rfl (pgs_cons ?_ (pgs_cons ?_ pgs_nil)); exact (pg_name (i := 2) sc_is_values.nd rfl (by first | exact Or.inl rfl | exact Or.inr rfl)); exact (pg_name (i := 3) sc_is_values.nd rfl (by first | exact Or.inl rfl | exact Or.inr rfl))))) (fun _ _ _ _ _ => pts_nil) (fun _ _ _ _ _ => (pd_pos d_is_index hG hr (by decide) (by rfl) (pa_cons (pv 2) (pa_cons (pv 3) pa_nil))))) pa_nil))))), ?_⟩
    walk_at "r"
    refine ⟨.ref a, _, rfl, .tup ha dx, fun H1 s1 => ?_⟩
    have lx : xs.length = ds.length := dx.length
    simp only [seqD, Option.isSome]
    walk_at "r"
    refine r_lenT (SqT.of (s1 _ _ ha)) ?_
    walk_at "r"
    refine r_lenT (SqT.of (s1 _ _ ht)) ?_
    rw [lx, List.length_map]
    walk_at "r"
    by_cases cl : ds.length = zs.length
    case neg =>
      rw [decide_eq_false (show ¬ V.int ((ds.length : Nat) : Int) = V.int ((zs.length : Nat) : Int) by intro e; exact cl (by have := V.int.inj e; omega))]
      walk_at "r"
      exact no (by simp [valuesD, seqD, cl]) H1 s1
    rw [decide_eq_true (show V.int ((ds.length : Nat) : Int) = V.int ((zs.length : Nat) : Int) by rw [cl])]
    walk_at "r"
    have lz : xs.length = (zs.map V.int).length := by rw [lx, List.length_map, cl]
    have zl : (List.zipWith (fun d z => indexD z d) ds zs).length = xs.length := by rw [List.length_zipWith, cl, Nat.min_self, lx, cl]
    refine ⟨_, rfl, _, rfl, a, tz, _, _, rfl, .inr ⟨SqT.of (s1 _ _ ha), SqT.of (s1 _ _ ht), fun D hD => ?_⟩⟩
    refine it_zipT lz (fun i G => Same H1 G ∧ G D = some (.lst (((List.zipWith (fun d z => indexD z d) ds zs).take i).map V.bl))) ⟨Same.upd_new hD, upd_same⟩ (fun i G _ p => ⟨SqT.of (p.1 _ _ (s1 _ _ ha)), SqT.of (p.1 _ _ (s1 _ _ ht))⟩) (fun i x y T G hx hy p hT => ?_) (fun G p => ?_)
    · obtain ⟨s2, d2⟩ := p
      obtain ⟨e, he, dy⟩ := dx.at_ hx
      obtain ⟨z', hz', rfl⟩ := map_get hy
      have il : i < xs.length := (List.getElem?_eq_some_iff.mp hx).1
      have sT : Same G (upd G T (.tup [x, .int z'])) := Same.upd_new hT
      refine ⟨T, _, rfl, SqT.of upd_same, rfl, _, _, rfl, _, _, rfl, rfl, ?_⟩
      refine ⟨rfl, ?_⟩
      walk_at "r"
      refine ⟨x, e, z', rfl, Dx.same ((s1.trans s2).trans sT) _ _ dy, ?_⟩
      refine ⟨_, sT _ _ d2, by rw [List.length_map, List.length_take, sizeLine_eq]; omega, Same.over (s2.trans sT) hD, ?_⟩
      have hp : (List.zipWith (fun d z => indexD z d) ds zs)[i]? = some (indexD z' e) := by rw [List.getElem?_zipWith, he, hz']
      rw [upd_same, take_next hp, List.map_append]
      rfl
    · obtain ⟨s2, d2⟩ := p
      rw [← zl, List.take_length] at d2
      refine ⟨D, _, rfl, SqL.of d2, ?_⟩
      have fin : valuesD zs (.tuple ds) = (List.zipWith (fun d z => indexD z d) ds zs).all id := by simp [valuesD, seqD, cl]
      have := k G (s1.trans s2)
      rw [fin] at this
      exact this
end
end Eld
set_option Elab.async false
set_option maxRecDepth 100000
set_option maxHeartbeats 4000000
set_option linter.all false
namespace Eld
open PySem L2
local macro_rules | `(tactic| walk_at "r1") => `(tactic| with_reducible first
  | refine r_seq ?_ | refine r_asgN ?_ | refine r_asg ?_ | refine r_gname ?_ | refine r_gsub ?_ | refine r_var rfl ?_ | refine r_c ?_ | refine r_op ?_ | refine r_un ?_ | refine r_u ?_ | refine r_i0 ?_ | refine r_cb ?_ | refine r_cons ?_ | refine r_nil ?_ | refine r_cl ?_ | refine r_fn rfl rfl ?_ | refine r_mt ?_
  | refine r_test ?_ | refine r_tb ?_ | refine r_bl ?_ | refine r_and ?_ | refine r_or ?_ | refine r_not ?_ | refine r_andV ?_ | refine r_orV ?_ | refine r_notV ?_ | refine r_ifX ?_ | refine r_ifs ?_ | refine r_chain ?_ | refine r_ret ?_ | refine r_next ?_ | refine r_drop ?_ | refine iteT ?_ | refine iteF ?_ | refine iteNT ?_ | refine iteNF ?_
  | refine r_int1 ?_ | refine r_boolB ?_ | refine r_eqI ?_ | refine r_neI ?_ | refine r_eqB ?_ | refine r_neB ?_ | refine r_eqS ?_ | refine r_neS ?_ | refine r_abs ?_ | refine r_max2 ?_ | refine r_min2 ?_ | refine r_yes ?_ | refine r_tup ?_ | refine r_sfld ?_ | refine r_m0 ?_ | refine r_m1 ?_ | refine r_lst ?_ | refine r_rng1 ?_ | refine r_rng2 ?_ | refine r_ixL (SqL.of (by assumption)) rfl ?_)
local macro_rules | `(tactic| walk_at "r") => `(tactic| repeat (first | walk_at "r1" | ((with_reducible refine r_var ?hv ?_); (case hv => rfl))))

local macro_rules | `(tactic| walk_at "r1") => `(tactic| with_reducible first | refine r_clS ?_ | refine r_fnS rfl rfl ?_ | refine r_mtS ?_ | refine r_mkO ?_)
theorem menu_values : ∀ zs ∈ menu, ∀ r ∈ allRows zs, valuesD zs (.list (r.map PyData.int)) = true ∧ valuesD zs (.tuple (r.map PyData.int)) = true := by decide +kernel
def spAtX (C Ce : Addr) (K : PySem.W.Frag) : Sp := fun vs H Q E => ∃ p v zs, vs = [.ref p, v] ∧ SpaceAt C H p zs ∧
  ((∃ (i : Nat) (r : List Int), v = .int (i : Nat) ∧ (allRows zs)[i]? = some r ∧ ∀ t, H t = some (.tup (r.map V.int)) → Q (.ref t) H) ∨ ∃ d, Dx K H v d ∧ indexD ((allRows zs).length : Nat) d = false ∧ errE E Ce v H)
def spStoreX (C Ce : Addr) (K : PySem.W.Frag) : Sp := fun vs H Q E => ∃ p v zs, vs = [.ref p, v] ∧ zs ∈ menu ∧ SpaceAt C H p zs ∧
  ((∃ (a : Addr) (i : Nat) (r : List Int), v = .ref a ∧ (H a = some (.lst (r.map V.int)) ∨ H a = some (.tup (r.map V.int))) ∧ (allRows zs)[i]? = some r ∧ ∀ H', Same H H' → Q (.int (i : Nat)) H') ∨ ∃ d, Dx K H v d ∧ valuesD zs d = false ∧ errE E Ce v H)
/-- a word of one digit -/
def digW (w : Str) : Bool := (Txt.isascii w && Txt.isdigit w) && decide (w.length = 1)
def valW (w : Str) : Int := (PySem.intText? w).getD 0
/-- what the proof asks of a line that is no line of a space -/
def oddL (s : Str) : Bool := decide (s.length ≤ 1000) && (let ws := Txt.split s " "; decide (ws.length ≤ 1000) && ws.all (fun w => decide (w.length ≤ 640) && (!digW w || (PySem.intText? w).isSome)) && !(ws.all digW && sizesD (.list (ws.map fun w => .int (valW w)))))
def spReadX (C Ce : Addr) (K : PySem.W.Frag) : Sp := fun vs H Q E => ∃ v, vs = [v] ∧
  ((∃ zs, v = .str (lineOf zs) ∧ zs ∈ menu ∧ ∀ H' p, Same H H' → H p = none → SpaceAt C H' p zs → Q (.ref p) H') ∨ (∃ d, Dx K H v d ∧ tyD d ≠ "str" ∧ errE E Ce v H) ∨ ∃ s, v = .str s ∧ oddL s = true ∧ errE E Ce v H)
section
variable {P : Program} {w : World} {K : PySem.W.Frag} {mg : Str → Option Value} {base : Heap} {C Ce : Addr}
theorem ok_at {f : Addr} {fd : FuncData} (F : Fun K "at" "Space.at" s_Space_at f fd) (S : Sc K mg C) (d_is_index : DefD P w K mg base 2 "is_index" 2 [] byPlace (spIsIndexX K)) (d_InvalidStore : ErrD P w K mg base "InvalidStore" Ce) : FnG P w K mg base (L2.CX P w) 3 f fd ["self", "store"] (spAtX C Ce K) := by
  refine okGX F sc_Space_at (fun vs H Q E h => ?_) (fun cdv B up z H vs Q E hG hr h => ?_)
  · obtain ⟨p, v, zs, rfl, _⟩ := h
    rfl
  · obtain ⟨p, v, zs, rfl, ⟨dx, tz, q, ts, h1, h2, h3, rt⟩, h⟩ := h
    refine ⟨_, (pss_cons (ps_if (pt_not (pt_val (pd_pos d_is_index hG hr (by decide) (by rfl) (pa_cons (pv 1) (pa_cons (pe_fld (pv 0) rfl) pa_nil))))) (pss_one (ps_err d_InvalidStore rfl (takes_of rfl rfl rfl rfl) (hr.mono (by decide)) (by rfl) (pa_cons (pv 1) pa_nil))) pss_nil)
  (pss_one (ps_ret (pe_ix (show IxR _ (rIxT K) from ix_tup) (pe_fld (pv 0) rfl) (pv 1) (fun _ _ => rfl))))), ?_⟩
    walk_at "r"
    refine ⟨_, rfl, p, C, dx, _, _, rfl, h1, S.cl, S.nN, spF_never _ _ _, ?_⟩
    walk_at "r"
    rcases h with ⟨i, r, rfl, hi, k⟩ | ⟨d, dd, ix, k⟩
    · have il : i < (allRows zs).length := (List.getElem?_eq_some_iff.mp hi).1
      have it : i < ts.length := rt.1 ▸ il
      refine ⟨_, _, _, rfl, .int _, ?_⟩
      have ix : indexD ((allRows zs).length : Nat) (.int (i : Nat)) = true := by
        simp only [indexD, Bool.and_eq_true, decide_eq_true_eq]
        omega
      rw [ix]
      walk_at "r"
      refine ⟨_, rfl, p, C, dx, _, _, rfl, h1, S.cl, S.nT, spF_stores _ _ _, ?_⟩
      walk_at "r"
      have hti : ts[i]? = some ts[i] := List.getElem?_eq_getElem it
      refine r_ixT h3.sq (atI_nat (by rw [List.getElem?_map, hti]; rfl)) ?_
      exact k _ (rt.2 i _ r hti hi)
    · refine ⟨v, d, _, rfl, dd, ?_⟩
      rw [ix]
      walk_at "r"
      exact err_done k
theorem ok_store {f : Addr} {fd : FuncData} (F : Fun K "store" "Space.store" s_Space_store f fd) (Z : Zs mg) (S : Sc K mg C) (d_is_values : DefD P w K mg base 3 "is_values" 2 [] byPlace (spIsValuesX K)) (d_InvalidValues : ErrD P w K mg base "InvalidValues" Ce) : FnG P w K mg base (L2.CX P w) 4 f fd ["self", "values"] (spStoreX C Ce K) := by
  refine okGX F sc_Space_store (fun vs H Q E h => ?_) (fun cdv B up z H vs Q E hG hr h => ?_)
  · obtain ⟨p, v, zs, rfl, _⟩ := h
    rfl
  · have hu : (B.deeper (PyProof.Rows.envOfC "Space.store" (defScope s_Space_store) z.heap.objs.size f cdv)).units + 65 < cLine := by have := hr.un; omega
    obtain ⟨p, v, zs, rfl, hz, ⟨dx, tz, q, ts, h1, h2, h3, rt⟩, h⟩ := h
    refine ⟨_, (pss_cons (ps_if (pt_not (pt_val (pd_pos d_is_values hG hr (by decide) (by rfl) (pa_cons (pv 1) (pa_cons (pe_fld (pv 0) rfl) pa_nil))))) (pss_one (ps_err d_InvalidValues rfl (takes_of rfl rfl rfl rfl) (hr.mono (by decide)) (by rfl) (pa_cons (pv 1) pa_nil))) pss_nil)
  (pss_one (ps_ret (pe_tm PySem.F.plainAttrs_tuple PySem.F.slot_tuple_index PySem.F.type_tuple_index (mt_tupIx hu) (pe_fld (pv 0) rfl) (pa_cons (pe_callTy (show CallR _ _ (rTupleOf K) from c_tuple) (by rfl) Z.tuple_ (by decide +kernel) (pa_cons (pv 1) pa_nil)) pa_nil))))), ?_⟩
    walk_at "r"
    refine ⟨_, rfl, p, C, dx, _, _, rfl, h1, S.cl, S.nS, spF_sizes _ _ _, ?_⟩
    walk_at "r"
    rcases h with ⟨a, i, r, rfl, ha, hi, k⟩ | ⟨d, dd, vd, k⟩
    · have rmem : r ∈ allRows zs := List.mem_of_getElem? hi
      have dd : ∃ d, Dx K H (.ref a) d ∧ valuesD zs d = true := by
        rcases ha with e | e
        · exact ⟨_, .lst e (ints_dx r), (menu_values zs hz r rmem).1⟩
        · exact ⟨_, .tup e (ints_dx r), (menu_values zs hz r rmem).2⟩
      obtain ⟨d, dd, vd⟩ := dd
      refine ⟨_, d, tz, zs, rfl, hz, dd, h2, fun H1 s1 => ?_⟩
      rw [vd]
      walk_at "r"
      refine ⟨_, rfl, p, C, dx, _, _, rfl, s1 _ _ h1, S.cl, S.nT, spF_stores _ _ _, ⟨q, _, rfl, h3.same s1⟩, ?_⟩
      walk_at "r"
      refine r_tupleAny (same_any s1 ha) fun l H2 s2 g2 => ?_
      have hq : Dp K H2 (.ref q) (.tuple ((allRows zs).map tupD)) := .tup (h3.same (s1.trans s2)).sq (dpAll_at (fun t r e => tup_dp e) (rt.same (s1.trans s2)))
      refine ⟨q, .ref l, tupD r, tupD r, _, i, rfl, rfl, hq, tup_dp g2, rows_shaped _, tup_shaped _, by rw [List.getElem?_map, hi]; rfl, by rw [tup_eqv]; exact decide_eq_true rfl, fun m z' hm hz' => ?_, ?_⟩
      · rw [List.getElem?_map] at hz'
        cases e : (allRows zs)[m]? with
        | none => rw [e] at hz'; cases hz'
        | some r' =>
          rw [e] at hz'
          cases hz'
          rw [tup_eqv]
          refine decide_eq_false fun e' => ?_
          subst e'
          have := nd_ix (menu_nodup zs hz) e hi
          omega
      · exact k H2 (s1.trans s2)
    · refine ⟨v, d, tz, zs, rfl, hz, dd, h2, fun H1 s1 => ?_⟩
      rw [vd]
      walk_at "r"
      exact err_done (k.same s1)
end
end Eld
set_option Elab.async false
set_option maxRecDepth 100000
set_option maxHeartbeats 4000000
set_option linter.all false
namespace Eld
open PySem L2
local macro_rules | `(tactic| walk_at "r1") => `(tactic| with_reducible first
  | refine r_seq ?_ | refine r_asgN ?_ | refine r_asg ?_ | refine r_gname ?_ | refine r_gsub ?_ | refine r_var rfl ?_ | refine r_c ?_ | refine r_op ?_ | refine r_un ?_ | refine r_u ?_ | refine r_i0 ?_ | refine r_cb ?_ | refine r_cons ?_ | refine r_nil ?_ | refine r_cl ?_ | refine r_fn rfl rfl ?_ | refine r_mt ?_
  | refine r_test ?_ | refine r_tb ?_ | refine r_bl ?_ | refine r_and ?_ | refine r_or ?_ | refine r_not ?_ | refine r_andV ?_ | refine r_orV ?_ | refine r_notV ?_ | refine r_ifX ?_ | refine r_ifs ?_ | refine r_chain ?_ | refine r_ret ?_ | refine r_next ?_ | refine r_drop ?_ | refine iteT ?_ | refine iteF ?_ | refine iteNT ?_ | refine iteNF ?_
  | refine r_int1 ?_ | refine r_boolB ?_ | refine r_eqI ?_ | refine r_neI ?_ | refine r_eqB ?_ | refine r_neB ?_ | refine r_eqS ?_ | refine r_neS ?_ | refine r_abs ?_ | refine r_max2 ?_ | refine r_min2 ?_ | refine r_yes ?_ | refine r_tup ?_ | refine r_sfld ?_ | refine r_m0 ?_ | refine r_m1 ?_ | refine r_lst ?_ | refine r_rng1 ?_ | refine r_rng2 ?_ | refine r_ixL (SqL.of (by assumption)) rfl ?_)
local macro_rules | `(tactic| walk_at "r") => `(tactic| repeat (first | walk_at "r1" | ((with_reducible refine r_var ?hv ?_); (case hv => rfl))))

local macro_rules | `(tactic| walk_at "r1") => `(tactic| with_reducible first | refine r_clS ?_ | refine r_fnS rfl rfl ?_ | refine r_mtS ?_ | refine r_mkO ?_)
/-- what the proof asks of any line -/
def boundL (s : Str) : Bool := decide (s.length ≤ 1000) && (decide ((Txt.split s " ").length ≤ 1000) && (Txt.split s " ").all fun w => decide (w.length ≤ 640) && (!digW w || (PySem.intText? w).isSome))
theorem good_line : ∀ zs ∈ menu, boundL (lineOf zs) = true ∧ (Txt.split (lineOf zs) " ").all digW = true ∧ (Txt.split (lineOf zs) " ").map valW = zs := by decide +kernel
def spReadY (C Ce : Addr) (K : PySem.W.Frag) : Sp := fun vs H Q E => ∃ v, vs = [v] ∧
  ((∃ zs, v = .str (lineOf zs) ∧ zs ∈ menu ∧ ∀ H' p, Same H H' → H p = none → SpaceAt C H' p zs → Q (.ref p) H') ∨ (∃ d, Dx K H v d ∧ tyD d ≠ "str" ∧ errE E Ce v H) ∨
    ∃ s, v = .str s ∧ boundL s = true ∧ ((Txt.split s " ").all digW && sizesD (.list ((Txt.split s " ").map fun w => .int (valW w)))) = false ∧ errE E Ce v H)
section
variable {P : Program} {w : World} {K : PySem.W.Frag} {mg : Str → Option Value} {base : Heap} {C Ce Cs : Addr}
theorem ok_read {f : Addr} {fd : FuncData} (F : Fun K "read_space" "read_space" s_read_space f fd) (Z : Zs mg) (S : Sc K mg C) (d_is_digits : DefD P w K mg base 1 "is_digits" 1 [] byPlace spIsDigitsX) (d_is_sizes : DefD P w K mg base 3 "is_sizes" 1 [] byPlace (spIsSizesX K))
    (k_Space : MakX P w K mg base 4 "Space" C 1 [] byPlace (spInitX C Cs K)) (d_InvalidLine : ErrD P w K mg base "InvalidLine" Ce) : FnG P w K mg base (L2.CX P w) 6 f fd ["line"] (spReadY C Ce K) := by
  refine okGX F sc_read_space (fun vs H Q E h => ?_) (fun cdv B up z H vs Q E hG hr h => ?_)
  · obtain ⟨v, rfl, _⟩ := h
    rfl
  obtain ⟨v, rfl, h⟩ := h
  refine ⟨_, (pss_cons (ps_if (pt_not (pt_val (pe_callB call_isi (by rfl) Z.isinstance_ (by decide +kernel) (pa_cons (pv 0) (pa_cons (pe_ty "str" (by rfl) Z.str_ (by decide +kernel)) pa_nil))))) (pss_one (ps_err d_InvalidLine rfl (takes_of rfl rfl rfl rfl) (hr.mono (by decide)) (by rfl) (pa_cons (pv 0) pa_nil))) pss_nil)
  (pss_cons (ps_set (i := 1) sc_read_space.nd rfl (by first | exact Or.inl rfl | exact Or.inr rfl) (pe_split (pv 0) pe_str))
  (pss_cons (ps_if (pt_not (pt_val (pe_callB (cr_all rfl) (by rfl) Z.all_ (by decide +kernel) (pa_cons (pe_lc (own := [("word", 3)]) (tt := tYes) rfl sc_read_space.nd (pi_list (pv 1)) (blkOk_by (N := ["line", "words", "sizes", "word"]) (sc := defScope s_read_space) (by decide +kernel)) (fun _ _ _ _ _ => (pg_name (i := 3) sc_read_space.nd rfl (by first | exact Or.inl rfl | exact Or.inr rfl))) (fun _ _ _ _ _ => pts_nil) (fun _ _ _ _ _ => (pe_and (pd_pos d_is_digits hG hr (by decide) (by rfl) (pa_cons (pv 3) pa_nil)) (pe_one (pe_cmpR op_eq (pe_callB (show CallR _ _ (rLen K) from c_len) (by rfl) Z.len_ (by decide +kernel) (pa_cons (pv 3) pa_nil)) pe_int (nomark _)))))) pa_nil)))) (pss_one (ps_err d_InvalidLine rfl (takes_of rfl rfl rfl rfl) (hr.mono (by decide)) (by rfl) (pa_cons (pv 0) pa_nil))) pss_nil)
  (pss_cons (ps_setLc (i := 2) (own := [("word", 3)]) (tt := tYes) rfl sc_read_space.nd rfl rfl (sw_true rfl rfl rfl (by decide +kernel)) (pi_list (pv 1)) (blkOk_by (N := ["line", "words", "sizes", "word"]) (sc := defScope s_read_space) (by decide +kernel)) (fun _ _ _ _ _ => (pg_name (i := 3) sc_read_space.nd rfl (by first | exact Or.inl rfl | exact Or.inr rfl))) (fun _ _ _ _ _ => pts_nil) (fun _ _ _ _ _ => (pe_callTy c_intS (by rfl) Z.int_ (by decide +kernel) (pa_cons (pv 3) pa_nil))))
  (pss_cons (ps_if (pt_not (pt_val (pd_pos d_is_sizes hG hr (by decide) (by rfl) (pa_cons (pv 2) pa_nil)))) (pss_one (ps_err d_InvalidLine rfl (takes_of rfl rfl rfl rfl) (hr.mono (by decide)) (by rfl) (pa_cons (pv 0) pa_nil))) pss_nil)
  (pss_one (ps_ret (pkX_pos k_Space (takes_of rfl rfl rfl rfl) hG hr (by decide) (by rfl) (pa_cons (pv 2) pa_nil))))))))), ?_⟩
  have h : (∃ d, Dx K H v d ∧ tyD d ≠ "str" ∧ errE E Ce v H) ∨ ∃ s, v = .str s ∧ boundL s = true ∧ ((∃ zs, zs ∈ menu ∧ (Txt.split s " ").all digW = true ∧ (Txt.split s " ").map valW = zs ∧ ∀ H' p, Same H H' → H p = none → SpaceAt C H' p zs → Q (.ref p) H') ∨
      (((Txt.split s " ").all digW && sizesD (.list ((Txt.split s " ").map fun w => .int (valW w)))) = false ∧ errE E Ce v H)) := by
    rcases h with ⟨zs, rfl, hz, k⟩ | h | ⟨s, rfl, bl, od, k⟩
    · obtain ⟨e1, e2, e3⟩ := good_line zs hz
      exact .inr ⟨_, rfl, e1, .inl ⟨zs, hz, e2, e3, k⟩⟩
    · exact .inl h
    · exact .inr ⟨s, rfl, bl, .inr ⟨od, k⟩⟩
  rcases h with ⟨d, dd, nt, k⟩ | ⟨s, rfl, bl, h⟩
  · walk_at "r"
    refine r_isiB (b := false) dd.ty ?_ ?_
    · cases d with
      | str _ => exact absurd rfl nt
      | none => simp only [tyD]; decide +kernel
      | bool _ => simp only [tyD]; decide +kernel
      | int _ => simp only [tyD]; decide +kernel
      | list _ => simp only [tyD]; decide +kernel
      | tuple _ => simp only [tyD]; decide +kernel
      | dict _ => simp only [tyD]; decide +kernel
    · walk_at "r"
      exact err_done k
  · simp only [boundL, Bool.and_eq_true, decide_eq_true_eq] at bl
    obtain ⟨b1, b2, b3⟩ := bl
    generalize hws : Txt.split s " " = ws at b2 b3 h
    have bw : ∀ {i : Nat} {x : Str}, ws[i]? = some x → x.length ≤ 640 ∧ (digW x = true → PySem.intText? x = some (valW x)) := by
      intro i x e
      have := List.all_eq_true.mp b3 x (List.mem_of_getElem? e)
      simp only [Bool.and_eq_true, decide_eq_true_eq, Bool.or_eq_true, Bool.not_eq_true'] at this
      refine ⟨this.1, fun dg => ?_⟩
      rcases this.2 with n | n
      · rw [n] at dg; cases dg
      · obtain ⟨y, hy⟩ := Option.isSome_iff_exists.mp n
        simp [valW, hy]
    have wl : ∀ {i : Nat} {x : V}, (ws.map V.str)[i]? = some x → ∃ y, ws[i]? = some y ∧ x = .str y := by
      intro i x hx
      rw [List.getElem?_map] at hx
      cases e : ws[i]? with
      | none => rw [e] at hx; cases hx
      | some y => rw [e] at hx; exact ⟨y, rfl, (Option.some.inj hx).symm⟩
    have lw : (ws.map V.str).length = ws.length := List.length_map ..
    walk_at "r"
    refine r_isiB (b := true) (.base (.str _)) (by decide +kernel) ?_
    walk_at "r"
    refine ⟨⟨_, rfl⟩, ?_⟩
    walk_at "r"
    refine r_splitS (by decide) (by rw [sizeLine_eq]; omega) fun l hl => ?_
    rw [hws]
    have g1 : (upd H l (.lst (ws.map V.str))) l = some (.lst (ws.map V.str)) := upd_same
    have s1 : Same H (upd H l (.lst (ws.map V.str))) := Same.upd_new hl
    generalize upd H l (.lst (ws.map V.str)) = H1 at g1 s1 ⊢
    walk_at "r"
    refine ⟨_, rfl, l, rfl, ⟨_, SqL.of g1⟩, fun D hD => ?_⟩
    refine it_list (xs := ws.map V.str) (fun i H2 => Same H1 H2 ∧ H2 D = some (.lst (((ws.take i).map digW).map V.bl))) ⟨Same.upd_new hD, upd_same⟩ (fun i H2 _ p => SqL.of (p.1 _ _ g1)) (fun i x H2 hx p => ?_) (fun H2 p => ?_)
    · obtain ⟨y, hy, rfl⟩ := wl hx
      have il : i < ws.length := (List.getElem?_eq_some_iff.mp hy).1
      have bx := (bw hy).1
      have put : ∃ acc, H2 D = some (.lst acc) ∧ acc.length < sizeLine ∧ (Same H1 (upd H2 D (.lst (acc ++ [.bl (digW y)]))) ∧ (upd H2 D (.lst (acc ++ [.bl (digW y)]))) D = some (.lst (((ws.take (i + 1)).map digW).map V.bl))) := by
        refine ⟨_, p.2, by rw [List.length_map, List.length_map, List.length_take, sizeLine_eq]; omega, Same.over p.1 hD, ?_⟩
        rw [upd_same, take_next hy, List.map_append, List.map_append]
        rfl
      refine r_gname ⟨rfl, ?_⟩
      walk_at "r"
      refine ⟨_, rfl, ?_⟩
      cases c : (Txt.isascii y && Txt.isdigit y) with
      | false =>
        have e : digW y = false := by simp only [digW, c, Bool.false_and]
        rw [e] at put
        walk_at "r"
        exact put
      | true =>
        walk_at "r"
        refine r_lenS (by rw [sizeLine_eq]; omega) ?_
        walk_at "r"
        have e : digW y = decide (V.int ((y.length : Nat) : Int) = V.int 1) := by
          simp only [digW, c, Bool.true_and]
          by_cases q : y.length = 1
          · rw [q]; rfl
          · rw [decide_eq_false q, decide_eq_false (show ¬ V.int ((y.length : Nat) : Int) = V.int 1 by intro e; have := V.int.inj e; omega)]
        rw [← e]
        exact put
    · obtain ⟨s2, d2⟩ := p
      rw [lw, List.take_length] at d2
      refine ⟨D, ws.map digW, rfl, SqL.of d2, ?_⟩
      have ea : (ws.map digW).all id = ws.all digW := by rw [List.all_map]; rfl
      rw [ea]
      cases call : ws.all digW with
      | false =>
        rcases h with ⟨zs, _, al, _⟩ | ⟨_, k⟩
        · rw [call] at al; cases al
        · walk_at "r"
          exact err_done (k.same (s1.trans s2))
      | true =>
        walk_at "r"
        have g2 := s2 _ _ g1
        refine ⟨_, rfl, l, rfl, ⟨_, SqL.of g2⟩, fun D2 hD2 => ?_⟩
        refine it_list (xs := ws.map V.str) (fun i H3 => Same H2 H3 ∧ H3 D2 = some (.lst (((ws.take i).map valW).map V.int))) ⟨Same.upd_new hD2, upd_same⟩ (fun i H3 _ p => SqL.of (p.1 _ _ g2)) (fun i x H3 hx p3 => ?_) (fun H3 p3 => ?_)
        · obtain ⟨y, hy, rfl⟩ := wl hx
          have dg : digW y = true := List.all_eq_true.mp call y (List.mem_of_getElem? hy)
          refine r_gname ⟨rfl, ?_⟩
          walk_at "r"
          refine ⟨_, valW y, rfl, (bw hy).2 dg, (bw hy).1, ?_⟩
          refine ⟨_, p3.2, by rw [List.length_map, List.length_map, List.length_take, sizeLine_eq]; omega, Same.over p3.1 hD2, ?_⟩
          rw [upd_same, take_next hy, List.map_append, List.map_append]
          rfl
        · rw [lw, List.take_length] at p3
          obtain ⟨s3, d3⟩ := p3
          have s03 : Same H H3 := (s1.trans s2).trans s3
          walk_at "r"
          refine ⟨_, _, rfl, .lst d3 (ints_dx (ws.map valW)), fun H4 s4 => ?_⟩
          have eL : (ws.map valW).map PyData.int = ws.map fun w => .int (valW w) := by rw [List.map_map]; rfl
          rcases h with ⟨zs, hz, _, ev, k⟩ | ⟨od, k⟩
          · rw [ev, (menu_sizes zs hz).1]
            walk_at "r"
            refine r_mkS rfl rfl fun x dx hx hdx hne => ?_
            have new : Same H4 (upd (upd H4 dx (.own x)) x (.ins C dx [])) := fun b o e => by
              rw [upd_ne (ne_of_none e hx), upd_ne (ne_of_none e hdx)]
              exact e
            rw [ev] at d3
            refine ⟨x, _, dx, rfl, upd_same, .inl ⟨D2, zs, rfl, hz, .inl (new _ _ (s4 _ _ d3)), fun H5 s5 sp5 => ⟨rfl, ?_⟩⟩⟩
            have all : Same H H4 := s03.trans s4
            exact k H5 x (fun b o e => s5 b o (ne_of_none (all _ _ e) hx) (new _ _ (all _ _ e))) (all.free hx) sp5
          · rw [call, Bool.true_and] at od
            rw [eL, od]
            walk_at "r"
            exact err_done (k.same (s03.trans s4))
end
end Eld
set_option Elab.async false
set_option maxRecDepth 100000
set_option maxHeartbeats 4000000
set_option linter.all false
namespace Eld
open PySem L2
local macro_rules | `(tactic| walk_at "r1") => `(tactic| with_reducible first
  | refine r_seq ?_ | refine r_asgN ?_ | refine r_asg ?_ | refine r_gname ?_ | refine r_gsub ?_ | refine r_var rfl ?_ | refine r_c ?_ | refine r_op ?_ | refine r_un ?_ | refine r_u ?_ | refine r_i0 ?_ | refine r_cb ?_ | refine r_cons ?_ | refine r_nil ?_ | refine r_cl ?_ | refine r_fn rfl rfl ?_ | refine r_mt ?_
  | refine r_test ?_ | refine r_tb ?_ | refine r_bl ?_ | refine r_and ?_ | refine r_or ?_ | refine r_not ?_ | refine r_andV ?_ | refine r_orV ?_ | refine r_notV ?_ | refine r_ifX ?_ | refine r_ifs ?_ | refine r_chain ?_ | refine r_ret ?_ | refine r_next ?_ | refine r_drop ?_ | refine iteT ?_ | refine iteF ?_ | refine iteNT ?_ | refine iteNF ?_
  | refine r_int1 ?_ | refine r_boolB ?_ | refine r_eqI ?_ | refine r_neI ?_ | refine r_eqB ?_ | refine r_neB ?_ | refine r_eqS ?_ | refine r_neS ?_ | refine r_abs ?_ | refine r_max2 ?_ | refine r_min2 ?_ | refine r_yes ?_ | refine r_tup ?_ | refine r_sfld ?_ | refine r_m0 ?_ | refine r_m1 ?_ | refine r_lst ?_ | refine r_rng1 ?_ | refine r_rng2 ?_ | refine r_ixL (SqL.of (by assumption)) rfl ?_)
local macro_rules | `(tactic| walk_at "r") => `(tactic| repeat (first | walk_at "r1" | ((with_reducible refine r_var ?hv ?_); (case hv => rfl))))

/-! ## the law's own tools -/
def spTake : Sp := fun vs H Q _ => ∃ (b : Addr) (many : Int) (n : Nat), vs = [.ref b, .int many] ∧ BoxAt H b n ∧ n < 4000000 ∧ 0 < many ∧ many < 1073741824 ∧
  ∀ (r : Int) (H' : Hp), 0 ≤ r → r < many → BoxAt H' b (n + 1) → But b H H' → Q (.int r) H'
def spCell (K : PySem.W.Frag) : Sp := fun vs H Q _ => ∃ (a : Addr) (ns : List Int) (k : Nat), vs = [.ref a, .int (k : Nat)] ∧ k < 100 ∧ ns.length ≤ sizeLine ∧ SqL K H a (ns.map V.int) ∧ ∀ r H', Same H H' → Q (.int r) H'
def spBox : Sp := fun vs H Q _ => ∃ g, vs = [.int g] ∧ ∀ b H', Same H H' → H b = none → BoxAt H' b 0 → Q (.ref b) H'
def spProduct : Sp := fun vs H Q _ => ∃ a zs, vs = [.ref a] ∧ H a = some (.lst (zs.map V.int)) ∧ (∀ i, -(2 ^ 64) < prod ((zs : List Int).take i) ∧ prod (zs.take i) < 2 ^ 64) ∧ Q (.int (prod zs)) H
section
variable {P : Program} {w : World} {K : PySem.W.Frag} {mg : Str → Option Value} {base : Heap}
theorem ok_take {f : Addr} {fd : FuncData} (F : Fun K "_law_take" "_law_take" s__law_take f fd) (Z : Zs mg) : FnG P w K mg base CX0 1 f fd ["box", "many"] spTake := by
  refine okG F sc__law_take (fun vs H Q E h => ?_) (fun cdv B up z H vs Q E hG hr h => ?_)
  · obtain ⟨b, many, n, rfl, _⟩ := h
    rfl
  · obtain ⟨b, many, n, rfl, ⟨g, m, c, t, hb, hg, hm, hm2, hc, hcn⟩, hn, h0, h1, k⟩ := h
    refine ⟨_, (pss_cons (ps_if (PW.pt (pw_and (pt_val (pe_ix (show IxR _ (rIxL K) from ix_list) (pv 0) pe_int (fun _ _ => rfl))) (pw_and1 (pt_cmpR op_gt (pe_ix (show IxR _ (rIxL K) from ix_list) (pv 0) pe_int (fun _ _ => rfl)) pe_int (nomark _))))) (pss_cons (ps_set (i := 3) sc__law_take.nd rfl (by first | exact Or.inl rfl | exact Or.inr rfl) (pe_op op_mod (pe_callTy c_int (by rfl) Z.int_ (by decide +kernel) (pa_cons (pe_ix (show IxR _ (rIxL K) from ix_list) (pv 0) pe_int (fun _ _ => rfl)) pa_nil)) (pv 1)))
  (pss_cons (ps_asg (pe_op op_fdiv (pe_ix (show IxR _ (rIxL K) from ix_list) (pv 0) pe_int (fun _ _ => rfl)) (pv 1)) (pg_sub (pv 0) pe_int set_list))
  (pss_one (ps_ret (pv 3))))) pss_nil)
  (pss_cons (ps_asg (pe_op op_add (pe_ix (show IxR _ (rIxL K) from ix_list) (pv 0) pe_int (fun _ _ => rfl)) pe_int) (pg_sub (pv 0) pe_int set_list))
  (pss_cons (ps_set (i := 2) sc__law_take.nd rfl (by first | exact Or.inl rfl | exact Or.inr rfl) (pe_op op_mod (pe_callTy c_int (by rfl) Z.int_ (by decide +kernel) (pa_cons (pe_op op_pow (pe_op op_add (pe_op op_add (pe_ix (show IxR _ (rIxL K) from ix_list) (pv 0) pe_int (fun _ _ => rfl)) (pe_op op_mul pe_int (pe_ix (show IxR _ (rIxL K) from ix_list) (pv 0) pe_int (fun _ _ => rfl)))) pe_int) pe_int) pa_nil)) pe_int))
  (pss_one (ps_ret (pe_op op_mod (pe_op op_fdiv (pe_op op_mod (pe_callTy c_int (by rfl) Z.int_ (by decide +kernel) (pa_cons (pe_op op_pow (pe_op op_add (pe_op op_mul (pv 2) pe_int) (pe_op op_mul pe_int (pe_ix (show IxR _ (rIxL K) from ix_list) (pv 0) pe_int (fun _ _ => rfl)))) pe_int) pa_nil)) pe_int) pe_int) (pv 1))))))), ?_⟩
    have fin : ∀ g' c' : Int, 0 ≤ g' → 0 ≤ c' → c' ≤ n + 1 → ∀ o, o = (HO.lst [.int g', .bl t, .int m, .int c']) → BoxAt (upd H b o) b (n + 1) := fun g' c' h1 h2 h3 o e => by
      subst e
      exact ⟨g', m, c', t, upd_same, h1, hm, hm2, h2, h3⟩
    have but : ∀ o, But b H (upd H b o) := fun o a u ha e => by rw [upd_ne ha]; exact e
    walk_at "r"
    refine ite2 (fun ht => ?_) (fun ht => ?_)
    walk_at "r"
    refine ite2 (fun hp => ?_) (fun hp => ?_)
    · walk_at "r"
      refine r_i h0 ?_
      walk_at "r"
      refine r_i ⟨h0, h1⟩ ?_
      walk_at "r"
      refine r_setL hb rfl ?_
      walk_at "r"
      exact k _ _ (Int.emod_nonneg _ (by omega)) (Int.emod_lt_of_pos _ h0) (fin (g / many) c (Int.ediv_nonneg hg (by omega)) hc (by omega) _ rfl) (but _)
    all_goals
      walk_at "r"
      refine r_setL hb rfl ?_
      have hb2 : (upd H b (.lst [.int g, .bl t, .int m, .int (c + 1)])) b = some (.lst [.int g, .bl t, .int m, .int (c + 1)]) := upd_same
      walk_at "r"
      refine r_ixL (SqL.of hb2) rfl ?_
      walk_at "r"
      refine r_ixL (SqL.of hb2) rfl ?_
      walk_at "r"
      refine r_i (.inl ⟨by decide, by decide⟩) ?_
      walk_at "r"
      refine r_i ⟨by decide, by decide, by omega⟩ ?_
      walk_at "r"
      refine r_i (by decide) ?_
      walk_at "r"
      have hm0 := Int.emod_nonneg ((m + 15485867 * (c + 1) + 179425033) ^ (5 : Int).toNat) (show (2147483647 : Int) ≠ 0 by decide)
      have hm1 := Int.emod_lt_of_pos ((m + 15485867 * (c + 1) + 179425033) ^ (5 : Int).toNat) (show (0 : Int) < 2147483647 by decide)
      generalize (m + 15485867 * (c + 1) + 179425033) ^ (5 : Int).toNat % 2147483647 = mixed at hm0 hm1 ⊢
      refine r_i (.inl ⟨by omega, by omega⟩) ?_
      walk_at "r"
      refine r_ixL (SqL.of hb2) rfl ?_
      walk_at "r"
      refine r_i (.inl ⟨by decide, by decide⟩) ?_
      walk_at "r"
      refine r_i ⟨by decide, by decide, by omega⟩ ?_
      walk_at "r"
      refine r_i (by decide) ?_
      walk_at "r"
      refine r_i ⟨by decide, by decide⟩ ?_
      walk_at "r"
      refine r_i h0 ?_
      exact k _ _ (Int.emod_nonneg _ (by omega)) (Int.emod_lt_of_pos _ h0) (fin g (c + 1) hg (by omega) (by omega) _ rfl) (but _)
theorem ok_cell {f : Addr} {fd : FuncData} (F : Fun K "_law_cell" "_law_cell" s__law_cell f fd) (Z : Zs mg) : FnG P w K mg base CX0 1 f fd ["script", "k"] (spCell K) := by
  refine okG F sc__law_cell (fun vs H Q E h => ?_) (fun cdv B up z H vs Q E hG hr h => ?_)
  · obtain ⟨a, ns, k, rfl, _⟩ := h
    rfl
  · obtain ⟨a, ns, k, rfl, hk, hz, ha, q⟩ := h
    refine ⟨_, (pss_one (ps_ret (pe_ifExp (pt_cmpR op_lt (pv 1) (pe_callB (show CallR _ _ (rLen K) from c_len) (by rfl) Z.len_ (by decide +kernel) (pa_cons (pv 0) pa_nil)) (nomark _)) (pe_ix (show IxR _ (rIxL K) from ix_list) (pv 0) (pv 1) (fun _ _ => rfl)) (pe_op op_add (pe_op op_add (pe_op op_mul pe_int (pv 1)) pe_int) (pe_op op_mod (pe_callB (cr_sum rfl) (by rfl) Z.sum_ (by decide +kernel) (pa_cons (pe_slice (show SlR _ (rSlL K) from sl_list) (pv 0) po_none (po_some pe_int)) pa_nil)) pe_int))))), ?_⟩
    walk_at "r"
    refine r_lenL ha ?_
    walk_at "r"
    refine ite2 (fun c => ?_) (fun c => ?_)
    · rw [List.length_map] at c
      have c' : k < ns.length := by simpa using c
      walk_at "r"
      refine r_ixL ha (atI_nat (v := .int ns[k]) (by rw [List.getElem?_map, List.getElem?_eq_getElem c']; rfl)) ?_
      exact q _ _ (Same.refl H)
    · walk_at "r"
      refine r_i (.inl ⟨by decide, by decide⟩) ?_
      walk_at "r"
      refine ⟨.ref a, rfl, 1, rfl, a, ns.map V.int, rfl, ha, fun p hp => ?_⟩
      refine ⟨p, (cutV (ns.map V.int) none (some 1)).map (fun v => match v with | .int i => i | _ => 0), rfl, SqL.of ?_, ?_⟩
      · rw [upd_same]
        have : ∀ l : List V, (∀ x ∈ l, ∃ i, x = V.int i) → (l.map (fun v => match v with | .int i => i | _ => (0 : Int))).map V.int = l := by
          intro l hl
          induction l with
          | nil => rfl
          | cons x l ih =>
            obtain ⟨i, rfl⟩ := hl x (List.mem_cons_self ..)
            rw [List.map_cons, List.map_cons, ih fun y hy => hl y (List.mem_cons_of_mem _ hy)]
        rw [this]
        intro x hx
        have h1 := List.mem_of_mem_drop (List.mem_of_mem_take hx)
        obtain ⟨i, _, e⟩ := List.mem_map.mp h1
        exact ⟨i, e.symm⟩
      · walk_at "r"
        refine r_i (by decide) ?_
        walk_at "r"
        exact q _ _ (Same.upd_new hp)
theorem ok_box {f : Addr} {fd : FuncData} (F : Fun K "_law_box" "_law_box" s__law_box f fd) (Z : Zs mg) : FnG P w K mg base CX0 1 f fd ["great"] spBox := by
  refine okG F sc__law_box (fun vs H Q E h => ?_) (fun cdv B up z H vs Q E hG hr h => ?_)
  · obtain ⟨g, rfl, _⟩ := h
    rfl
  · obtain ⟨g, rfl, q⟩ := h
    refine ⟨_, (pss_one (ps_ret (pe_lst (pa_cons (pe_callB c_abs (by rfl) Z.abs_ (by decide +kernel) (pa_cons (pv 0) pa_nil)) (pa_cons (pe_cmpR op_ge (pe_callB c_abs (by rfl) Z.abs_ (by decide +kernel) (pa_cons (pv 0) pa_nil)) (pe_op op_pow pe_int pe_int) (nomark _)) (pa_cons (pe_op op_mod (pe_callTy c_int (by rfl) Z.int_ (by decide +kernel) (pa_cons (pe_callB c_abs (by rfl) Z.abs_ (by decide +kernel) (pa_cons (pv 0) pa_nil)) pa_nil)) pe_int) (pa_cons pe_int pa_nil))))))), ?_⟩
    walk_at "r"
    have nn : 0 ≤ (if g < 0 then -g else g) := by split <;> omega
    refine r_i ⟨by decide, by decide, by decide⟩ ?_
    walk_at "r"
    refine r_i (by decide) ?_
    walk_at "r"
    refine ⟨by show 4 ≤ sizeLine; decide, fun p hp => ?_⟩
    exact q p _ (Same.upd_new hp) hp ⟨_, _, 0, _, upd_same, nn, Int.emod_nonneg _ (by decide), Int.lt_of_lt_of_le (Int.emod_lt_of_pos _ (by decide)) (by decide), by decide, by decide⟩
theorem ok_product {f : Addr} {fd : FuncData} (F : Fun K "_law_product" "_law_product" s__law_product f fd) : FnG P w K mg base CX0 1 f fd ["sizes"] spProduct := by
  refine okG F sc__law_product (fun vs H Q E h => ?_) (fun cdv B up z H vs Q E hG hr h => ?_)
  · obtain ⟨a, zs, rfl, _⟩ := h
    rfl
  · obtain ⟨a, zs, rfl, ha, hb, k⟩ := h
    refine ⟨_, (pss_cons (ps_set (i := 1) sc__law_product.nd rfl (by first | exact Or.inl rfl | exact Or.inr rfl) pe_int)
  (pss_cons (ps_for PassesOwn.never rfl (pi_list (pv 0)) (pg_name (i := 2) sc__law_product.nd rfl (by first | exact Or.inl rfl | exact Or.inr rfl))
  (pss_one (ps_set (i := 1) sc__law_product.nd rfl (by first | exact Or.inl rfl | exact Or.inr rfl) (pe_op op_mul (pv 1) (pv 2)))))
  (pss_one (ps_ret (pv 1))))), ?_⟩
    walk_at "r"
    refine ⟨_, rfl, a, rfl, ⟨_, SqL.of ha⟩, for_list (K := K) (a := a) (xs := zs.map V.int) (fun i τ G => ∃ v2 : Option V, τ = [some (.ref a), some (.int (prod (zs.take i))), v2] ∧ G = H) ⟨_, rfl, rfl⟩ (fun i τ G _ q => ?_) ?_ ?_⟩
    · obtain ⟨_, _, rfl⟩ := q
      exact SqL.of ha
    · rintro i x τ G hx ⟨v2, rfl, rfl⟩
      obtain ⟨y, hy, rfl⟩ := map_get hx
      walk_at "r"
      refine r_i (.inl (hb i)) ?_
      walk_at "r"
      rw [← prod_take hy]
      exact ⟨_, rfl, rfl⟩
    · rintro τ G ⟨v2, rfl, rfl⟩
      rw [List.length_map, List.take_length]
      walk_at "r"
      exact k
end
end Eld
set_option Elab.async false
set_option maxRecDepth 100000
set_option maxHeartbeats 4000000
set_option linter.all false
namespace Eld
open PySem L2
local macro_rules | `(tactic| walk_at "r1") => `(tactic| with_reducible first
  | refine r_seq ?_ | refine r_asgN ?_ | refine r_asg ?_ | refine r_gname ?_ | refine r_gsub ?_ | refine r_var rfl ?_ | refine r_c ?_ | refine r_op ?_ | refine r_un ?_ | refine r_u ?_ | refine r_i0 ?_ | refine r_cb ?_ | refine r_cons ?_ | refine r_nil ?_ | refine r_cl ?_ | refine r_fn rfl rfl ?_ | refine r_mt ?_
  | refine r_test ?_ | refine r_tb ?_ | refine r_bl ?_ | refine r_and ?_ | refine r_or ?_ | refine r_not ?_ | refine r_andV ?_ | refine r_orV ?_ | refine r_notV ?_ | refine r_ifX ?_ | refine r_ifs ?_ | refine r_chain ?_ | refine r_ret ?_ | refine r_next ?_ | refine r_drop ?_ | refine iteT ?_ | refine iteF ?_ | refine iteNT ?_ | refine iteNF ?_
  | refine r_int1 ?_ | refine r_boolB ?_ | refine r_eqI ?_ | refine r_neI ?_ | refine r_eqB ?_ | refine r_neB ?_ | refine r_eqS ?_ | refine r_neS ?_ | refine r_abs ?_ | refine r_max2 ?_ | refine r_min2 ?_ | refine r_yes ?_ | refine r_tup ?_ | refine r_sfld ?_ | refine r_m0 ?_ | refine r_m1 ?_ | refine r_lst ?_ | refine r_rng1 ?_ | refine r_rng2 ?_ | refine r_ixL (SqL.of (by assumption)) rfl ?_)
local macro_rules | `(tactic| walk_at "r") => `(tactic| repeat (first | walk_at "r1" | ((with_reducible refine r_var ?hv ?_); (case hv => rfl))))

local macro_rules | `(tactic| walk_at "r1") => `(tactic| with_reducible first | refine r_clS ?_ | refine r_fnS rfl rfl ?_ | refine r_mtS ?_ | refine r_mkO ?_)
/-- what the top has written of the four errors -/
structure Errs (K : PySem.W.Frag) (mg : Str → Option Value) (c0 c1 c2 c3 cE : Addr) : Prop where
  g0 : mg "InvalidSizes" = some (.ref c0)
  g1 : mg "InvalidStore" = some (.ref c1)
  g2 : mg "InvalidValues" = some (.ref c2)
  g3 : mg "InvalidLine" = some (.ref c3)
  gE : mg "EndError" = some (.ref cE)
  x0 : XfC K c0
  x1 : XfC K c1
  x2 : XfC K c2
  x3 : XfC K c3
  n0 : PySem.W.findIn K (.ref c0) "given" = some none
  n1 : PySem.W.findIn K (.ref c1) "given" = some none
  n2 : PySem.W.findIn K (.ref c2) "given" = some none
  n3 : PySem.W.findIn K (.ref c3) "given" = some none
  e00 : PySem.W.exmOne K (.ref c0) (.ref c0) = some true
  e10 : PySem.W.exmOne K (.ref c1) (.ref c0) = some false
  e11 : PySem.W.exmOne K (.ref c1) (.ref c1) = some true
  e20 : PySem.W.exmOne K (.ref c2) (.ref c0) = some false
  e21 : PySem.W.exmOne K (.ref c2) (.ref c1) = some false
  e22 : PySem.W.exmOne K (.ref c2) (.ref c2) = some true
  e30 : PySem.W.exmOne K (.ref c3) (.ref c0) = some false
  e31 : PySem.W.exmOne K (.ref c3) (.ref c1) = some false
  e32 : PySem.W.exmOne K (.ref c3) (.ref c2) = some false
  e33 : PySem.W.exmOne K (.ref c3) (.ref c3) = some true
theorem gv_look (v : V) : (gv v).lookup ("given" : Str) = some v := by unfold gv; rw [look_cons, if_pos rfl]
/-- what is told, as a list -/
def outs (Q : VK) (H : Hp) (xs : List V) (H' : Hp) : Prop := ∀ l H'', H l = none → Same H' H'' → H'' l = some (.lst xs) → Q (.ref l) H''
def spMet (C : Addr) (K : PySem.W.Frag) : Sp := fun vs H Q _ => ∃ (way : Int) (p : Addr) (v : V) (zs : List Int), vs = [.int way, .ref p, v] ∧ zs ∈ menu ∧ SpaceAt C H p zs ∧
  ((way = 0 ∧ ∃ a zs', v = .ref a ∧ zs' ∈ menu ∧ (H a = some (.lst (zs'.map V.int)) ∨ H a = some (.tup (zs'.map V.int))) ∧ ∀ H', Same H H' → outs Q H [.str "told", .str (lineOf zs')] H') ∨
   (way = 0 ∧ ∃ d, Dx K H v d ∧ sizesD d = false ∧ ∀ H', Same H H' → outs Q H [.int 0, v] H') ∨
   (way = 1 ∧ ∃ (i : Nat) (r : List Int), v = .int (i : Nat) ∧ (allRows zs)[i]? = some r ∧ ∀ H' t, Same H H' → H' t = some (.tup (r.map V.int)) → outs Q H [.str "told", .ref t] H') ∨
   (way = 1 ∧ ∃ d, Dx K H v d ∧ indexD ((allRows zs).length : Nat) d = false ∧ ∀ H', Same H H' → outs Q H [.int 1, v] H') ∨
   (way = 2 ∧ ∃ (a : Addr) (i : Nat) (r : List Int), v = .ref a ∧ (H a = some (.lst (r.map V.int)) ∨ H a = some (.tup (r.map V.int))) ∧ (allRows zs)[i]? = some r ∧ ∀ H', Same H H' → outs Q H [.str "told", .int (i : Nat)] H') ∨
   (way = 2 ∧ ∃ d, Dx K H v d ∧ valuesD zs d = false ∧ ∀ H', Same H H' → outs Q H [.int 2, v] H') ∨
   (way = 3 ∧ ∃ zs', v = .str (lineOf zs') ∧ zs' ∈ menu ∧ ∀ H', Same H H' → outs Q H [.str "told", .str (lineOf zs')] H') ∨
   (way = 3 ∧ ((∃ d, Dx K H v d ∧ tyD d ≠ "str") ∨ ∃ s, v = .str s ∧ boundL s = true ∧ ((Txt.split s " ").all digW && sizesD (.list ((Txt.split s " ").map fun w => .int (valW w)))) = false) ∧ ∀ H', Same H H' → outs Q H [.int 3, v] H'))
section
variable {P : Program} {w : World} {K : PySem.W.Frag} {mg : Str → Option Value} {base : Heap} {C c0 c1 c2 c3 cE : Addr}
theorem ok_met {f : Addr} {fd : FuncData} (F : Fun K "_law_met" "_law_met" s__law_met f fd) (Z : Zs mg) (S : Sc K mg C) (R : Errs K mg c0 c1 c2 c3 cE) (k_Space : MakX P w K mg base 4 "Space" C 1 [] byPlace (spInitX C c0 K)) (m_at : MetX P w K mg base 3 C "at" 2 [] byPlace (spAtX C c1 K))
    (m_store : MetX P w K mg base 4 C "store" 2 [] byPlace (spStoreX C c2 K)) (m_line : MetD P w K mg base 1 C "line" 1 [] byPlace (spLine C)) (d_read_space : DefX P w K mg base 6 "read_space" 1 [] byPlace (spReadY C c3 K)) : FnG P w K mg base CX0 8 f fd ["way", "space", "thing"] (spMet C K) := by
  refine okG F sc__law_met (fun vs H Q E h => ?_) (fun cdv B up z H vs Q E hG hr h => ?_)
  · obtain ⟨way, p, v, zs, rfl, _⟩ := h
    rfl
  refine ⟨_, (pss_one (ps_try_mix rfl rfl takes0 (fun W pn xe tk _ =>
      (pss_cons (ps_if (pt_cmpR op_eq (pv 0) pe_int (nomark _)) (pss_one (ps_ret (pe_lst (pa_cons pe_str (pa_cons (pq_none m_line hG hr (by decide) (pkX_pos k_Space tk hG hr (by decide) (by rfl) (pa_cons (pv 2) pa_nil))) pa_nil))))) pss_nil)
      (pss_cons (ps_if (pt_cmpR op_eq (pv 0) pe_int (nomark _)) (pss_one (ps_ret (pe_lst (pa_cons pe_str (pa_cons (pqX_pos m_at tk hG hr (by decide) (pv 1) (pa_cons (pv 2) pa_nil)) pa_nil))))) pss_nil)
      (pss_one (ps_ret (pe_lst (pa_cons pe_str (pa_cons (pe_ifExp (pt_cmpR op_eq (pv 0) pe_int (nomark _)) (pqX_pos m_store tk hG hr (by decide) (pv 1) (pa_cons (pv 2) pa_nil)) (pq_none m_line hG hr (by decide) (pdX_pos d_read_space tk hG hr (by decide) (by rfl) (pa_cons (pv 2) pa_nil)))) pa_nil))))))))
    (.named (i := 3) sc__law_met.nd rfl rfl ⟨rfl, by decide, .inl R.g0⟩ (fun e oe cls d pn hz hf => (pss_one (ps_ret (pe_lst (pa_cons pe_int (pa_cons (pe_xf R.x0 R.n0 hz hf (pv 3)) pa_nil))))))
    (.named (i := 3) sc__law_met.nd rfl rfl ⟨rfl, by decide, .inl R.g1⟩ (fun e oe cls d pn hz hf => (pss_one (ps_ret (pe_lst (pa_cons pe_int (pa_cons (pe_xf R.x1 R.n1 hz hf (pv 3)) pa_nil))))))
    (.named (i := 3) sc__law_met.nd rfl rfl ⟨rfl, by decide, .inl R.g2⟩ (fun e oe cls d pn hz hf => (pss_one (ps_ret (pe_lst (pa_cons pe_int (pa_cons (pe_xf R.x2 R.n2 hz hf (pv 3)) pa_nil))))))
    (.named (i := 3) sc__law_met.nd rfl rfl ⟨rfl, by decide, .inl R.g3⟩ (fun e oe cls d pn hz hf => (pss_one (ps_ret (pe_lst (pa_cons pe_int (pa_cons (pe_xf R.x3 R.n3 hz hf (pv 3)) pa_nil))))))
    (.bare ⟨rfl, by decide, .inl R.gE⟩ (fun e oe cls d pn hz hf => (pss_one (ps_ret (pe_lst (pa_cons pe_str pa_nil))))) .nil))))))), ?_⟩
  obtain ⟨way, p, v, zs, rfl, hz, sp, h⟩ := h
  obtain ⟨dx, tz, q, ts, h1, h2, h3, rt⟩ := sp
  have sp : SpaceAt C H p zs := ⟨dx, tz, q, ts, h1, h2, h3, rt⟩
  rcases h with ⟨rfl, a, zs', rfl, hz', ha, k⟩ | ⟨rfl, d, dd, sd, k⟩ | ⟨rfl, i, r, rfl, hi, k⟩ | ⟨rfl, d, dd, sd, k⟩ | ⟨rfl, a, i, r, rfl, ha, hi, k⟩ | ⟨rfl, d, dd, sd, k⟩ | ⟨rfl, zs', rfl, hz', k⟩ | ⟨rfl, hb, k⟩
  · walk_at "r"
    rw [decide_eq_true rfl]
    walk_at "r"
    refine r_mkS rfl rfl fun x dx2 hx hdx hne => ?_
    have new : Same H (upd (upd H dx2 (.own x)) x (.ins C dx2 [])) := fun b o e => by
      rw [upd_ne (ne_of_none e hx), upd_ne (ne_of_none e hdx)]
      exact e
    refine ⟨x, _, dx2, rfl, upd_same, .inl ⟨a, zs', rfl, hz', same_any new ha, fun H5 s5 sp5 => ⟨rfl, ?_⟩⟩⟩
    have s05 : Same H H5 := fun b o e => s5 b o (ne_of_none e hx) (new _ _ e)
    obtain ⟨dy, ty, qy, tsy, y1, y2, y3, y4⟩ := sp5
    have sp5 : SpaceAt C H5 x zs' := ⟨dy, ty, qy, tsy, y1, y2, y3, y4⟩
    refine ⟨x, dy, _, rfl, y1, spF_no _ _ _ (by decide +kernel) (by decide +kernel) (by decide +kernel), ?_⟩
    walk_at "r"
    refine ⟨x, zs', rfl, hz', sp5, fun H6 s6 => ?_⟩
    walk_at "r"
    refine ⟨by show 2 ≤ sizeLine; decide, fun l hl => ?_⟩
    exact k _ (s05.trans s6) l _ ((s05.trans s6).free hl) (Same.upd_new hl) upd_same
  · walk_at "r"
    rw [decide_eq_true rfl]
    walk_at "r"
    refine r_mkS rfl rfl fun x dx2 hx hdx hne => ?_
    have new : Same H (upd (upd H dx2 (.own x)) x (.ins C dx2 [])) := fun b o e => by
      rw [upd_ne (ne_of_none e hx), upd_ne (ne_of_none e hdx)]
      exact e
    refine ⟨x, _, dx2, rfl, upd_same, .inr ⟨d, Dx.same new _ _ dd, sd, fun d' G nd sG gd => ?_⟩⟩
    refine ⟨true, R.e00, fun _ e ne => ?_, (fun q => by cases q)⟩
    walk_at "r"
    refine ⟨_, rfl, rfl, rfl, d', gv _, _, rfl, gd, gv_look _, ?_⟩
    walk_at "r"
    refine ⟨by show 2 ≤ sizeLine; decide, fun l hl => ?_⟩
    exact k _ (new.trans sG) l _ ((new.trans sG).free hl) (Same.upd_new hl) upd_same
  · walk_at "r"
    rw [decide_eq_false (show ¬ V.int 1 = V.int 0 by decide)]
    walk_at "r"
    rw [decide_eq_true rfl]
    walk_at "r"
    refine ⟨p, dx, _, rfl, h1, spF_no _ _ _ (by decide +kernel) (by decide +kernel) (by decide +kernel), ?_⟩
    walk_at "r"
    refine ⟨p, _, zs, rfl, sp, .inl ⟨i, r, rfl, hi, fun t ht => ?_⟩⟩
    walk_at "r"
    refine ⟨by show 2 ≤ sizeLine; decide, fun l hl => ?_⟩
    exact k _ t (Same.refl H) ht l _ hl (Same.upd_new hl) upd_same
  · walk_at "r"
    rw [decide_eq_false (show ¬ V.int 1 = V.int 0 by decide)]
    walk_at "r"
    rw [decide_eq_true rfl]
    walk_at "r"
    refine ⟨p, dx, _, rfl, h1, spF_no _ _ _ (by decide +kernel) (by decide +kernel) (by decide +kernel), ?_⟩
    walk_at "r"
    refine ⟨p, _, zs, rfl, sp, .inr ⟨d, dd, sd, fun d' G nd sG gd => ?_⟩⟩
    refine ⟨false, R.e10, (fun q => by cases q), fun _ => ⟨true, R.e11, fun _ e ne => ?_, (fun q => by cases q)⟩⟩
    walk_at "r"
    refine ⟨_, rfl, rfl, rfl, d', gv _, _, rfl, gd, gv_look _, ?_⟩
    walk_at "r"
    refine ⟨by show 2 ≤ sizeLine; decide, fun l hl => ?_⟩
    exact k _ (sG) l _ ((sG).free hl) (Same.upd_new hl) upd_same
  · walk_at "r"
    rw [decide_eq_false (show ¬ V.int 2 = V.int 0 by decide)]
    walk_at "r"
    rw [decide_eq_false (show ¬ V.int 2 = V.int 1 by decide)]
    walk_at "r"
    rw [decide_eq_true rfl]
    walk_at "r"
    refine ⟨p, dx, _, rfl, h1, spF_no _ _ _ (by decide +kernel) (by decide +kernel) (by decide +kernel), ?_⟩
    walk_at "r"
    refine ⟨p, _, zs, rfl, hz, sp, .inl ⟨a, i, r, rfl, ha, hi, fun H5 s5 => ?_⟩⟩
    walk_at "r"
    refine ⟨by show 2 ≤ sizeLine; decide, fun l hl => ?_⟩
    exact k _ s5 l _ (s5.free hl) (Same.upd_new hl) upd_same
  · walk_at "r"
    rw [decide_eq_false (show ¬ V.int 2 = V.int 0 by decide)]
    walk_at "r"
    rw [decide_eq_false (show ¬ V.int 2 = V.int 1 by decide)]
    walk_at "r"
    rw [decide_eq_true rfl]
    walk_at "r"
    refine ⟨p, dx, _, rfl, h1, spF_no _ _ _ (by decide +kernel) (by decide +kernel) (by decide +kernel), ?_⟩
    walk_at "r"
    refine ⟨p, _, zs, rfl, hz, sp, .inr ⟨d, dd, sd, fun d' G nd sG gd => ?_⟩⟩
    refine ⟨false, R.e20, (fun q => by cases q), fun _ => ⟨false, R.e21, (fun q => by cases q), fun _ => ⟨true, R.e22, fun _ e ne => ?_, (fun q => by cases q)⟩⟩⟩
    walk_at "r"
    refine ⟨_, rfl, rfl, rfl, d', gv _, _, rfl, gd, gv_look _, ?_⟩
    walk_at "r"
    refine ⟨by show 2 ≤ sizeLine; decide, fun l hl => ?_⟩
    exact k _ (sG) l _ ((sG).free hl) (Same.upd_new hl) upd_same
  · walk_at "r"
    rw [decide_eq_false (show ¬ V.int 3 = V.int 0 by decide)]
    walk_at "r"
    rw [decide_eq_false (show ¬ V.int 3 = V.int 1 by decide)]
    walk_at "r"
    rw [decide_eq_false (show ¬ V.int 3 = V.int 2 by decide)]
    walk_at "r"
    refine ⟨_, rfl, .inl ⟨zs', rfl, hz', fun H5 x s5 n5 sp5 => ?_⟩⟩
    obtain ⟨dy, ty, qy, tsy, y1, y2, y3, y4⟩ := sp5
    have sp5 : SpaceAt C H5 x zs' := ⟨dy, ty, qy, tsy, y1, y2, y3, y4⟩
    refine ⟨x, dy, _, rfl, y1, spF_no _ _ _ (by decide +kernel) (by decide +kernel) (by decide +kernel), ?_⟩
    walk_at "r"
    refine ⟨x, zs', rfl, hz', sp5, fun H6 s6 => ?_⟩
    walk_at "r"
    refine ⟨by show 2 ≤ sizeLine; decide, fun l hl => ?_⟩
    exact k _ (s5.trans s6) l _ ((s5.trans s6).free hl) (Same.upd_new hl) upd_same
  · walk_at "r"
    rw [decide_eq_false (show ¬ V.int 3 = V.int 0 by decide)]
    walk_at "r"
    rw [decide_eq_false (show ¬ V.int 3 = V.int 1 by decide)]
    walk_at "r"
    rw [decide_eq_false (show ¬ V.int 3 = V.int 2 by decide)]
    walk_at "r"
    refine ⟨_, rfl, ?_⟩
    rcases hb with ⟨d, dd, nt⟩ | ⟨s, rfl, bl, od⟩
    · refine .inr (.inl ⟨d, dd, nt, fun d' G nd sG gd => ?_⟩)
      refine ⟨false, R.e30, (fun q => by cases q), fun _ => ⟨false, R.e31, (fun q => by cases q), fun _ => ⟨false, R.e32, (fun q => by cases q), fun _ => ⟨true, R.e33, fun _ e ne => ?_, (fun q => by cases q)⟩⟩⟩⟩
      walk_at "r"
      refine ⟨_, rfl, rfl, rfl, d', gv _, _, rfl, gd, gv_look _, ?_⟩
      walk_at "r"
      refine ⟨by show 2 ≤ sizeLine; decide, fun l hl => ?_⟩
      exact k _ (sG) l _ ((sG).free hl) (Same.upd_new hl) upd_same
    · refine .inr (.inr ⟨s, rfl, bl, od, fun d' G nd sG gd => ?_⟩)
      refine ⟨false, R.e30, (fun q => by cases q), fun _ => ⟨false, R.e31, (fun q => by cases q), fun _ => ⟨false, R.e32, (fun q => by cases q), fun _ => ⟨true, R.e33, fun _ e ne => ?_, (fun q => by cases q)⟩⟩⟩⟩
      walk_at "r"
      refine ⟨_, rfl, rfl, rfl, d', gv _, _, rfl, gd, gv_look _, ?_⟩
      walk_at "r"
      refine ⟨by show 2 ≤ sizeLine; decide, fun l hl => ?_⟩
      exact k _ (sG) l _ ((sG).free hl) (Same.upd_new hl) upd_same
end
end Eld
set_option Elab.async false
set_option maxRecDepth 100000
set_option maxHeartbeats 4000000
set_option linter.all false
namespace Eld
open PySem L2
local macro_rules | `(tactic| walk_at "r1") => `(tactic| with_reducible first
  | refine r_seq ?_ | refine r_asgN ?_ | refine r_asg ?_ | refine r_gname ?_ | refine r_gsub ?_ | refine r_var rfl ?_ | refine r_c ?_ | refine r_op ?_ | refine r_un ?_ | refine r_u ?_ | refine r_i0 ?_ | refine r_cb ?_ | refine r_cons ?_ | refine r_nil ?_ | refine r_cl ?_ | refine r_fn rfl rfl ?_ | refine r_mt ?_
  | refine r_test ?_ | refine r_tb ?_ | refine r_bl ?_ | refine r_and ?_ | refine r_or ?_ | refine r_not ?_ | refine r_andV ?_ | refine r_orV ?_ | refine r_notV ?_ | refine r_ifX ?_ | refine r_ifs ?_ | refine r_chain ?_ | refine r_ret ?_ | refine r_next ?_ | refine r_drop ?_ | refine iteT ?_ | refine iteF ?_ | refine iteNT ?_ | refine iteNF ?_
  | refine r_int1 ?_ | refine r_boolB ?_ | refine r_eqI ?_ | refine r_neI ?_ | refine r_eqB ?_ | refine r_neB ?_ | refine r_eqS ?_ | refine r_neS ?_ | refine r_abs ?_ | refine r_max2 ?_ | refine r_min2 ?_ | refine r_yes ?_ | refine r_tup ?_ | refine r_sfld ?_ | refine r_m0 ?_ | refine r_m1 ?_ | refine r_lst ?_ | refine r_rng1 ?_ | refine r_rng2 ?_ | refine r_ixL (SqL.of (by assumption)) rfl ?_)
local macro_rules | `(tactic| walk_at "r") => `(tactic| repeat (first | walk_at "r1" | ((with_reducible refine r_var ?hv ?_); (case hv => rfl))))

/-- the numbers of which sizes are drawn -/
def pool : List Int := [2, 3, 4, 1, 8, 5, 9, 0, -2]
def goodB (zs : List Int) : Bool := sizesD (.list (zs.map PyData.int))
/-- as the law counts -/
def countB (zs : List Int) : Bool := zs.all (fun z => decide (2 ≤ z)) && decide (prod zs < 9)
theorem pool1 : ∀ a ∈ pool, (-(2 ^ 64) < prod [a] ∧ prod [a] < 2 ^ 64) ∧ goodB [a] = countB [a] := by decide +kernel
theorem pool2 : ∀ a ∈ pool, ∀ b ∈ pool, (-(2 ^ 64) < prod [a, b] ∧ prod [a, b] < 2 ^ 64) ∧ goodB [a, b] = countB [a, b] := by decide +kernel
theorem pool3 : ∀ a ∈ pool, ∀ b ∈ pool, ∀ c ∈ pool, (-(2 ^ 64) < prod [a, b, c] ∧ prod [a, b, c] < 2 ^ 64) ∧ goodB [a, b, c] = countB [a, b, c] := by decide +kernel
theorem pool_all : ∀ zs : List Int, (∀ z ∈ zs, z ∈ pool) → zs.length ≤ 3 → (-(2 ^ 64) < prod zs ∧ prod zs < 2 ^ 64) ∧ (1 ≤ zs.length → goodB zs = countB zs)
  | [], _, _ => ⟨by decide, fun h => by simp at h⟩
  | [a], h, _ => ⟨(pool1 a (h a (by simp))).1, fun _ => (pool1 a (h a (by simp))).2⟩
  | [a, b], h, _ => ⟨(pool2 a (h a (by simp)) b (h b (by simp))).1, fun _ => (pool2 a (h a (by simp)) b (h b (by simp))).2⟩
  | [a, b, c], h, _ => ⟨(pool3 a (h a (by simp)) b (h b (by simp)) c (h c (by simp))).1, fun _ => (pool3 a (h a (by simp)) b (h b (by simp)) c (h c (by simp))).2⟩
  | _ :: _ :: _ :: _ :: _, _, l => by simp at l
def spGood : Sp := fun vs H Q _ => ∃ a zs, vs = [.ref a] ∧ H a = some (.lst (zs.map V.int)) ∧ (∀ z ∈ zs, z ∈ pool) ∧ zs.length ≤ 4 ∧ ∀ H', Same H H' → Q (.bl (goodB zs)) H'
section
variable {P : Program} {w : World} {K : PySem.W.Frag} {mg : Str → Option Value} {base : Heap}
theorem ok_good {f : Addr} {fd : FuncData} (F : Fun K "_law_good" "_law_good" s__law_good f fd) (Z : Zs mg) (d__law_product : DefD P w K mg base 1 "_law_product" 1 [] byPlace spProduct) : FnG P w K mg base CX0 2 f fd ["sizes"] spGood := by
  refine okG F sc__law_good (fun vs H Q E h => ?_) (fun cdv B up z H vs Q E hG hr h => ?_)
  · obtain ⟨a, zs, rfl, _⟩ := h
    rfl
  · obtain ⟨a, zs, rfl, ha, hp, h4, k⟩ := h
    refine ⟨_, (pss_cons (ps_set (i := 1) sc__law_good.nd rfl (by first | exact Or.inl rfl | exact Or.inr rfl) (pe_callB (show CallR _ _ (rMin K) from cr_min rfl) (by rfl) Z.min_ (by decide +kernel) (pa_cons (pe_op op_cat (pv 0) (pe_lst (pa_cons pe_int pa_nil))) pa_nil)))
  (pss_one (ps_ret (pe_and (pe_chain op_lt op_lt pe_int (pe_callB (show CallR _ _ (rLen K) from c_len) (by rfl) Z.len_ (by decide +kernel) (pa_cons (pv 0) pa_nil)) pe_int) (pe_and (pe_cmpR op_gt (pv 1) pe_int (nomark _)) (pe_one (pe_cmpR op_lt (pd_pos d__law_product hG hr (by decide) (by rfl) (pa_cons (pv 0) pa_nil)) pe_int (nomark _)))))))), ?_⟩
    walk_at "r"
    refine ⟨by show 1 ≤ sizeLine; decide, fun l hl => ?_⟩
    have s1 := Same.upd_new (o := .lst [.int 2]) hl
    have g1 : (upd H l (.lst [.int 2])) l = some (.lst [.int 2]) := upd_same
    generalize upd H l (.lst [.int 2]) = H1 at s1 g1 ⊢
    refine ⟨a, l, _, _, rfl, rfl, s1 _ _ ha, g1, by rw [List.length_map, sizeLine_eq]; show zs.length + 1 ≤ 16777216; omega, fun p hp' => ?_⟩
    have e2 : zs.map V.int ++ [.int 2] = (zs ++ [2]).map V.int := by rw [List.map_append]; rfl
    rw [e2]
    have s2 := Same.upd_new (o := .lst ((zs ++ [2]).map V.int)) hp'
    have g2 : (upd H1 p (.lst ((zs ++ [2]).map V.int))) p = some (.lst ((zs ++ [2]).map V.int)) := upd_same
    generalize upd H1 p (.lst ((zs ++ [2]).map V.int)) = H2 at s2 g2 ⊢
    have s02 := s1.trans s2
    refine ⟨p, zs ++ [2], rfl, SqL.of g2, by simp, fun m hm hmin => ?_⟩
    have all2 : decide (1 < m) = zs.all (fun z => decide (2 ≤ z)) := by
      by_cases c : 1 < m
      · rw [decide_eq_true c]
        symm
        rw [List.all_eq_true]
        intro z hz
        have := hmin z (List.mem_append_left _ hz)
        exact decide_eq_true (by omega)
      · rw [decide_eq_false c]
        symm
        rw [Bool.eq_false_iff]
        intro h
        rw [List.all_eq_true] at h
        rcases List.mem_append.mp hm with z | z
        · have := of_decide_eq_true (h m z)
          omega
        · simp at z
          omega
    walk_at "r"
    refine r_lenL (SqL.of (s02 _ _ ha)) ?_
    rw [List.length_map]
    walk_at "r"
    have out : ∀ b, goodB zs = b → Q (.bl b) H2 := fun b e => e ▸ k H2 s02
    by_cases c1 : (0 : Int) < (zs.length : Nat)
    case neg =>
      rw [decide_eq_false c1]
      walk_at "r"
      exact out _ (by simp [goodB, sizesD, seqD]; omega)
    rw [decide_eq_true c1]
    walk_at "r"
    by_cases c2 : ((zs.length : Nat) : Int) < 4
    case neg =>
      rw [decide_eq_false c2]
      walk_at "r"
      exact out _ (by simp [goodB, sizesD, seqD]; omega)
    rw [decide_eq_true c2]
    walk_at "r"
    obtain ⟨pb, pg⟩ := pool_all zs hp (by omega)
    have pg := pg (by omega)
    rw [all2]
    cases ca : zs.all (fun z => decide (2 ≤ z)) with
    | false =>
      walk_at "r"
      exact out _ (by rw [pg, countB, ca]; rfl)
    | true =>
      walk_at "r"
      refine ⟨a, zs, rfl, s02 _ _ ha, fun i => (pool_all (zs.take i) (fun z hz => hp z (List.mem_of_mem_take hz)) (by rw [List.length_take]; omega)).1, ?_⟩
      walk_at "r"
      exact out _ (by rw [pg, countB, ca, Bool.true_and])
end
end Eld
set_option Elab.async false
set_option maxRecDepth 100000
set_option maxHeartbeats 4000000
set_option linter.all false
namespace Eld
open PySem L2
local macro_rules | `(tactic| walk_at "r1") => `(tactic| with_reducible first
  | refine r_seq ?_ | refine r_asgN ?_ | refine r_asg ?_ | refine r_gname ?_ | refine r_gsub ?_ | refine r_var rfl ?_ | refine r_c ?_ | refine r_op ?_ | refine r_un ?_ | refine r_u ?_ | refine r_i0 ?_ | refine r_cb ?_ | refine r_cons ?_ | refine r_nil ?_ | refine r_cl ?_ | refine r_fn rfl rfl ?_ | refine r_mt ?_
  | refine r_test ?_ | refine r_tb ?_ | refine r_bl ?_ | refine r_and ?_ | refine r_or ?_ | refine r_not ?_ | refine r_andV ?_ | refine r_orV ?_ | refine r_notV ?_ | refine r_ifX ?_ | refine r_ifs ?_ | refine r_chain ?_ | refine r_ret ?_ | refine r_next ?_ | refine r_drop ?_ | refine iteT ?_ | refine iteF ?_ | refine iteNT ?_ | refine iteNF ?_
  | refine r_int1 ?_ | refine r_boolB ?_ | refine r_eqI ?_ | refine r_neI ?_ | refine r_eqB ?_ | refine r_neB ?_ | refine r_eqS ?_ | refine r_neS ?_ | refine r_abs ?_ | refine r_max2 ?_ | refine r_min2 ?_ | refine r_yes ?_ | refine r_tup ?_ | refine r_sfld ?_ | refine r_m0 ?_ | refine r_m1 ?_ | refine r_lst ?_ | refine r_rng1 ?_ | refine r_rng2 ?_ | refine r_ixL (SqL.of (by assumption)) rfl ?_)
local macro_rules | `(tactic| walk_at "r") => `(tactic| repeat (first | walk_at "r1" | ((with_reducible refine r_var ?hv ?_); (case hv => rfl))))

def spDrawn : Sp := fun vs H Q _ => ∃ b n, vs = [.ref b] ∧ BoxAt H b n ∧ n < 3000000 ∧ ∀ (l : Addr) (zs : List Int) H', (∀ z ∈ zs, z ∈ pool) → zs.length ≤ 4 → BoxAt H' b (n + 5) → But b H H' → H l = none → H' l = some (.lst (zs.map V.int)) → Q (.ref l) H'
section
variable {P : Program} {w : World} {K : PySem.W.Frag} {mg : Str → Option Value} {base : Heap}
theorem ok_drawn {f : Addr} {fd : FuncData} (F : Fun K "_law_drawn_sizes" "_law_drawn_sizes" s__law_drawn_sizes f fd) (Z : Zs mg) (d__law_take : DefD P w K mg base 1 "_law_take" 2 [] byPlace spTake) : FnG P w K mg base CX0 2 f fd ["box"] spDrawn := by
  refine okG F sc__law_drawn_sizes (fun vs H Q E h => ?_) (fun cdv B up z H vs Q E hG hr h => ?_)
  · obtain ⟨b, n, rfl, _⟩ := h
    rfl
  · obtain ⟨b, n, rfl, hb, hn, k⟩ := h
    refine ⟨_, (pss_one (ps_ret (pe_lc (own := [("turn", 1)]) (tt := tYes) rfl sc__law_drawn_sizes.nd (pi_range1 (by rfl) Z.range_ (pa_cons (pe_ix (show IxR _ (rIxL K) from ix_list) (pe_lst (pa_cons pe_int (pa_cons pe_int (pa_cons pe_int (pa_cons pe_int (pa_cons pe_int (pa_cons pe_int pa_nil))))))) (pd_pos d__law_take hG hr (by decide) (by rfl) (pa_cons (pv 0) (pa_cons pe_int pa_nil))) (fun _ _ => rfl)) pa_nil)) (blkOk_by (N := ["box", "turn"]) (sc := defScope s__law_drawn_sizes) (by decide +kernel)) (fun _ _ _ _ _ => (pg_name (i := 1) sc__law_drawn_sizes.nd rfl (by first | exact Or.inl rfl | exact Or.inr rfl))) (fun _ _ _ _ _ => pts_nil) (fun _ _ _ _ _ => (pe_ix (show IxR _ (rIxL K) from ix_list) (pe_lst (pa_cons pe_int (pa_cons pe_int (pa_cons pe_int (pa_cons pe_int (pa_cons pe_int (pa_cons pe_int (pa_cons pe_int (pa_cons pe_int (pa_cons pe_int (pa_cons pe_int (pa_cons pe_int (pa_cons (pe_un un_neg pe_int) pa_nil))))))))))))) (pd_pos d__law_take hG hr (by decide) (by rfl) (pa_cons (pv 0) (pa_cons pe_int pa_nil))) (fun _ _ => rfl)))))), ?_⟩
    walk_at "r"
    refine r_lc ?_
    walk_at "r"
    refine ⟨by show 6 ≤ sizeLine; decide, fun l hl => ?_⟩
    have s1 := Same.upd_new (o := .lst [.int 1, .int 2, .int 2, .int 3, .int 3, .int 4]) hl
    have g1 : (upd H l (.lst [.int 1, .int 2, .int 2, .int 3, .int 3, .int 4])) l = some (.lst [.int 1, .int 2, .int 2, .int 3, .int 3, .int 4]) := upd_same
    generalize upd H l (.lst [.int 1, .int 2, .int 2, .int 3, .int 3, .int 4]) = H1 at s1 g1 ⊢
    walk_at "r"
    refine ⟨b, 6, n, rfl, hb.same s1, by omega, by decide, by decide, fun r H2 r0 r1 b2 but2 => ?_⟩
    have g2 := but2 _ _ ((hb.same s1).ne g1 (by intro _ _ _ _ e; cases e)) g1
    have cnt : ∃ c : Nat, atI [V.int 1, .int 2, .int 2, .int 3, .int 3, .int 4] r = some (.int (c : Nat)) ∧ c ≤ 4 := by
      obtain rfl | rfl | rfl | rfl | rfl | rfl : r = 0 ∨ r = 1 ∨ r = 2 ∨ r = 3 ∨ r = 4 ∨ r = 5 := by omega
      · exact ⟨1, rfl, by omega⟩
      · exact ⟨2, rfl, by omega⟩
      · exact ⟨2, rfl, by omega⟩
      · exact ⟨3, rfl, by omega⟩
      · exact ⟨3, rfl, by omega⟩
      · exact ⟨4, rfl, by omega⟩
    obtain ⟨c, ec, c4⟩ := cnt
    refine r_ixL (SqL.of g2) ec ?_
    refine ⟨_, rfl, by omega, by omega, fun D hD => ?_⟩
    have bt2 : But b H H2 := (But.of s1).trans but2
    have nD : D ≠ b := fun e => by obtain ⟨_, _, _, _, e', _⟩ := b2; rw [e, e'] at hD; cases hD
    refine it_range (fun i G => But b H2 G ∧ BoxAt G b (n + 1 + i) ∧ ∃ zs : List Int, zs.length = i ∧ (∀ z ∈ zs, z ∈ pool) ∧ G D = some (.lst (zs.map V.int)))
      ⟨But.of (Same.upd_new hD), b2.same (Same.upd_new hD), [], rfl, by simp, upd_same⟩ (fun i G hi p => ?_) (fun G p => ?_)
    · obtain ⟨bt, bG, zs, lz, pz, gD⟩ := p
      have i4 : i < 4 := by omega
      refine r_gname ⟨rfl, ?_⟩
      walk_at "r"
      refine ⟨by show 12 ≤ sizeLine; decide, fun l2 hl2 => ?_⟩
      have s3 := Same.upd_new (o := .lst [.int 2, .int 2, .int 3, .int 2, .int 4, .int 1, .int 8, .int 5, .int 9, .int 0, .int 2, .int (-2)]) hl2
      have g3 : (upd G l2 (.lst [.int 2, .int 2, .int 3, .int 2, .int 4, .int 1, .int 8, .int 5, .int 9, .int 0, .int 2, .int (-2)])) l2 = some (.lst [.int 2, .int 2, .int 3, .int 2, .int 4, .int 1, .int 8, .int 5, .int 9, .int 0, .int 2, .int (-2)]) := upd_same
      generalize upd G l2 (.lst [.int 2, .int 2, .int 3, .int 2, .int 4, .int 1, .int 8, .int 5, .int 9, .int 0, .int 2, .int (-2)]) = G3 at s3 g3 ⊢
      walk_at "r"
      refine ⟨b, 12, _, rfl, bG.same s3, by omega, by decide, by decide, fun r' G4 r0' r1' b4 but4 => ?_⟩
      have g4 := but4 _ _ ((bG.same s3).ne g3 (by intro _ _ _ _ e; cases e)) g3
      have val : ∃ z : Int, atI [V.int 2, .int 2, .int 3, .int 2, .int 4, .int 1, .int 8, .int 5, .int 9, .int 0, .int 2, .int (-2)] r' = some (.int z) ∧ z ∈ pool := by
        obtain rfl | rfl | rfl | rfl | rfl | rfl | rfl | rfl | rfl | rfl | rfl | rfl : r' = 0 ∨ r' = 1 ∨ r' = 2 ∨ r' = 3 ∨ r' = 4 ∨ r' = 5 ∨ r' = 6 ∨ r' = 7 ∨ r' = 8 ∨ r' = 9 ∨ r' = 10 ∨ r' = 11 := by omega
        all_goals exact ⟨_, rfl, by decide⟩
      obtain ⟨zv, ez, pv'⟩ := val
      refine r_ixL (SqL.of g4) ez ?_
      have dG4 := but4 _ _ nD (s3 _ _ gD)
      refine ⟨_, dG4, by rw [List.length_map, sizeLine_eq]; omega, ?_, ?_, zs ++ [zv], by rw [List.length_append, lz]; rfl, ?_, by rw [upd_same, List.map_append]; rfl⟩
      · intro a o na e
        have nD' : a ≠ D := ne_of_none e hD
        rw [upd_ne nD']
        exact but4 _ _ na (s3 _ _ (bt _ _ na e))
      · obtain ⟨g, m, c', t, e, r⟩ := b4
        exact ⟨g, m, c', t, by rw [upd_ne (Ne.symm nD)]; exact e, r⟩
      · intro z hz
        rcases List.mem_append.mp hz with hz | hz
        · exact pz z hz
        · simp at hz
          rw [hz]
          exact pv'
    · obtain ⟨bt, bG, zs, lz, pz, gD⟩ := p
      have c5 : ((c : Nat) : Int).toNat = c := by omega
      refine k D zs G pz (by omega) (bG.mono (by omega)) (bt2.trans bt) ?_ gD
      cases e : H D with
      | none => rfl
      | some o =>
        have := bt2 _ _ nD e
        rw [this] at hD
        cases hD
end
end Eld
set_option Elab.async false
set_option maxRecDepth 100000
set_option maxHeartbeats 4000000
set_option linter.all false
namespace Eld
open PySem L2
local macro_rules | `(tactic| walk_at "r1") => `(tactic| with_reducible first
  | refine r_seq ?_ | refine r_asgN ?_ | refine r_asg ?_ | refine r_gname ?_ | refine r_gsub ?_ | refine r_var rfl ?_ | refine r_c ?_ | refine r_op ?_ | refine r_un ?_ | refine r_u ?_ | refine r_i0 ?_ | refine r_cb ?_ | refine r_cons ?_ | refine r_nil ?_ | refine r_cl ?_ | refine r_fn rfl rfl ?_ | refine r_mt ?_
  | refine r_test ?_ | refine r_tb ?_ | refine r_bl ?_ | refine r_and ?_ | refine r_or ?_ | refine r_not ?_ | refine r_andV ?_ | refine r_orV ?_ | refine r_notV ?_ | refine r_ifX ?_ | refine r_ifs ?_ | refine r_chain ?_ | refine r_ret ?_ | refine r_next ?_ | refine r_drop ?_ | refine iteT ?_ | refine iteF ?_ | refine iteNT ?_ | refine iteNF ?_
  | refine r_int1 ?_ | refine r_boolB ?_ | refine r_eqI ?_ | refine r_neI ?_ | refine r_eqB ?_ | refine r_neB ?_ | refine r_eqS ?_ | refine r_neS ?_ | refine r_abs ?_ | refine r_max2 ?_ | refine r_min2 ?_ | refine r_yes ?_ | refine r_tup ?_ | refine r_sfld ?_ | refine r_m0 ?_ | refine r_m1 ?_ | refine r_lst ?_ | refine r_rng1 ?_ | refine r_rng2 ?_ | refine r_ixL (SqL.of (by assumption)) rfl ?_)
local macro_rules | `(tactic| walk_at "r") => `(tactic| repeat (first | walk_at "r1" | ((with_reducible refine r_var ?hv ?_); (case hv => rfl))))

/-- what is no list of sizes -/
def oddDs : List PyData := [.none, .bool true, .bool false, .str "", .str "2", .dict [], .list [.list [.int 2]], .list [.str "2"], .list [.none], .list [.int 2, .none], .list [.bool true, .int 2], .list [.int 2, .bool true], .int (-(10 ^ 40)), .tuple [.int 2, .str "2"], .list [.list [], .int 2]]
def spOdd (K : PySem.W.Frag) : Sp := fun vs H Q _ => ∃ b n, vs = [.ref b] ∧ BoxAt H b n ∧ n < 3000000 ∧ ∀ v d H', d ∈ oddDs → Dx K H' v d → BoxAt H' b (n + 1) → But b H H' → Q v H'
theorem odd_no : ∀ d ∈ oddDs, sizesD d = false := by
  intro d h
  simp only [oddDs, List.mem_cons, List.not_mem_nil, or_false] at h
  rcases h with rfl | rfl | rfl | rfl | rfl | rfl | rfl | rfl | rfl | rfl | rfl | rfl | rfl | rfl | rfl <;> decide +kernel
section
variable {P : Program} {w : World} {K : PySem.W.Frag} {mg : Str → Option Value} {base : Heap}
theorem ok_odd {f : Addr} {fd : FuncData} (F : Fun K "_law_odd" "_law_odd" s__law_odd f fd) (d__law_take : DefD P w K mg base 1 "_law_take" 2 [] byPlace spTake) : FnG P w K mg base CX0 2 f fd ["box"] (spOdd K) := by
  refine okG F sc__law_odd (fun vs H Q E h => ?_) (fun cdv B up z H vs Q E hG hr h => ?_)
  · obtain ⟨b, n, rfl, _⟩ := h
    rfl
  · obtain ⟨b, n, rfl, hb, hn, k⟩ := h
    refine ⟨_, (pss_cons (ps_set (i := 1) sc__law_odd.nd rfl (by first | exact Or.inl rfl | exact Or.inr rfl) (pe_lst (pa_cons pe_non (pa_cons pe_bl (pa_cons pe_bl (pa_cons pe_str (pa_cons pe_str (pa_cons pe_dnewK (pa_cons (pe_lst (pa_cons (pe_lst (pa_cons pe_int pa_nil)) pa_nil)) (pa_cons (pe_lst (pa_cons pe_str pa_nil)) (pa_cons (pe_lst (pa_cons pe_non pa_nil)) (pa_cons (pe_lst (pa_cons pe_int (pa_cons pe_non pa_nil))) (pa_cons (pe_lst (pa_cons pe_bl (pa_cons pe_int pa_nil))) (pa_cons (pe_lst (pa_cons pe_int (pa_cons pe_bl pa_nil))) (pa_cons (pe_un un_neg (pe_op op_pow pe_int pe_int)) (pa_cons (pe_tup (pa_cons pe_int (pa_cons pe_str pa_nil))) (pa_cons (pe_lst (pa_cons (pe_lst pa_nil) (pa_cons pe_int pa_nil))) pa_nil)))))))))))))))))
  (pss_one (ps_ret (pe_ix (show IxR _ (rIxL K) from ix_list) (pv 1) (pd_pos d__law_take hG hr (by decide) (by rfl) (pa_cons (pv 0) (pa_cons pe_int pa_nil))) (fun _ _ => rfl))))), ?_⟩
    walk_at "r"
    intro l0 h0
    have s0 := Same.upd_new (o := .dK []) h0
    have g0 : (upd H l0 (.dK [])) l0 = some (.dK []) := upd_same
    generalize upd H l0 (.dK []) = H1 at s0 g0 ⊢
    walk_at "r"
    refine ⟨by show 1 ≤ sizeLine; decide, fun l1 h1 => ?_⟩
    have s1 := Same.upd_new (o := .lst [.int 2]) h1
    have g1 : (upd H1 l1 (.lst [.int 2])) l1 = some (.lst [.int 2]) := upd_same
    generalize upd H1 l1 (.lst [.int 2]) = H2 at s1 g1 ⊢
    walk_at "r"
    refine ⟨by show 1 ≤ sizeLine; decide, fun l2 h2 => ?_⟩
    have s2 := Same.upd_new (o := .lst [.ref l1]) h2
    have g2 : (upd H2 l2 (.lst [.ref l1])) l2 = some (.lst [.ref l1]) := upd_same
    generalize upd H2 l2 (.lst [.ref l1]) = H3 at s2 g2 ⊢
    walk_at "r"
    refine ⟨by show 1 ≤ sizeLine; decide, fun l3 h3 => ?_⟩
    have s3 := Same.upd_new (o := .lst [.str "2"]) h3
    have g3 : (upd H3 l3 (.lst [.str "2"])) l3 = some (.lst [.str "2"]) := upd_same
    generalize upd H3 l3 (.lst [.str "2"]) = H4 at s3 g3 ⊢
    walk_at "r"
    refine ⟨by show 1 ≤ sizeLine; decide, fun l4 h4 => ?_⟩
    have s4 := Same.upd_new (o := .lst [.non]) h4
    have g4 : (upd H4 l4 (.lst [.non])) l4 = some (.lst [.non]) := upd_same
    generalize upd H4 l4 (.lst [.non]) = H5 at s4 g4 ⊢
    walk_at "r"
    refine ⟨by show 2 ≤ sizeLine; decide, fun l5 h5 => ?_⟩
    have s5 := Same.upd_new (o := .lst [.int 2, .non]) h5
    have g5 : (upd H5 l5 (.lst [.int 2, .non])) l5 = some (.lst [.int 2, .non]) := upd_same
    generalize upd H5 l5 (.lst [.int 2, .non]) = H6 at s5 g5 ⊢
    walk_at "r"
    refine ⟨by show 2 ≤ sizeLine; decide, fun l6 h6 => ?_⟩
    have s6 := Same.upd_new (o := .lst [.bl true, .int 2]) h6
    have g6 : (upd H6 l6 (.lst [.bl true, .int 2])) l6 = some (.lst [.bl true, .int 2]) := upd_same
    generalize upd H6 l6 (.lst [.bl true, .int 2]) = H7 at s6 g6 ⊢
    walk_at "r"
    refine ⟨by show 2 ≤ sizeLine; decide, fun l7 h7 => ?_⟩
    have s7 := Same.upd_new (o := .lst [.int 2, .bl true]) h7
    have g7 : (upd H7 l7 (.lst [.int 2, .bl true])) l7 = some (.lst [.int 2, .bl true]) := upd_same
    generalize upd H7 l7 (.lst [.int 2, .bl true]) = H8 at s7 g7 ⊢
    walk_at "r"
    refine r_i ⟨by decide, by decide, by decide⟩ ?_
    walk_at "r"
    refine ⟨by show 2 ≤ sizeLine; decide, fun l8 h8 => ?_⟩
    have s8 := Same.upd_new (o := .tup [.int 2, .str "2"]) h8
    have g8 : (upd H8 l8 (.tup [.int 2, .str "2"])) l8 = some (.tup [.int 2, .str "2"]) := upd_same
    generalize upd H8 l8 (.tup [.int 2, .str "2"]) = H9 at s8 g8 ⊢
    walk_at "r"
    refine ⟨by show 0 ≤ sizeLine; decide, fun l9 h9 => ?_⟩
    have s9 := Same.upd_new (o := .lst []) h9
    have g9 : (upd H9 l9 (.lst [])) l9 = some (.lst []) := upd_same
    generalize upd H9 l9 (.lst []) = H10 at s9 g9 ⊢
    walk_at "r"
    refine ⟨by show 2 ≤ sizeLine; decide, fun l10 h10 => ?_⟩
    have s10 := Same.upd_new (o := .lst [.ref l9, .int 2]) h10
    have g10 : (upd H10 l10 (.lst [.ref l9, .int 2])) l10 = some (.lst [.ref l9, .int 2]) := upd_same
    generalize upd H10 l10 (.lst [.ref l9, .int 2]) = H11 at s10 g10 ⊢
    walk_at "r"
    refine ⟨by show 15 ≤ sizeLine; decide, fun l hl => ?_⟩
    have sl := Same.upd_new (o := .lst [.non, .bl true, .bl false, .str "", .str "2", .ref l0, .ref l2, .ref l3, .ref l4, .ref l5, .ref l6, .ref l7, .int (-(10 ^ (40 : Int).toNat)), .ref l8, .ref l10]) hl
    have gl : (upd H11 l (.lst [.non, .bl true, .bl false, .str "", .str "2", .ref l0, .ref l2, .ref l3, .ref l4, .ref l5, .ref l6, .ref l7, .int (-(10 ^ (40 : Int).toNat)), .ref l8, .ref l10])) l = some (.lst [.non, .bl true, .bl false, .str "", .str "2", .ref l0, .ref l2, .ref l3, .ref l4, .ref l5, .ref l6, .ref l7, .int (-(10 ^ (40 : Int).toNat)), .ref l8, .ref l10]) := upd_same
    generalize upd H11 l (.lst [.non, .bl true, .bl false, .str "", .str "2", .ref l0, .ref l2, .ref l3, .ref l4, .ref l5, .ref l6, .ref l7, .int (-(10 ^ (40 : Int).toNat)), .ref l8, .ref l10]) = HL at sl gl ⊢
    have t11 : Same H11 HL := sl
    have t10 : Same H10 HL := s10.trans t11
    have t9 : Same H9 HL := s9.trans t10
    have t8 : Same H8 HL := s8.trans t9
    have t7 : Same H7 HL := s7.trans t8
    have t6 : Same H6 HL := s6.trans t7
    have t5 : Same H5 HL := s5.trans t6
    have t4 : Same H4 HL := s4.trans t5
    have t3 : Same H3 HL := s3.trans t4
    have t2 : Same H2 HL := s2.trans t3
    have t1 : Same H1 HL := s1.trans t2
    have t0 : Same H HL := s0.trans t1
    walk_at "r"
    have hbL := hb.same t0
    refine ⟨b, 15, n, rfl, hbL, by omega, by decide, by decide, fun r HZ r0 r1 bx but => ?_⟩
    have gz := but _ _ (hbL.ne gl (by intro _ _ _ _ e; cases e)) gl
    have bz : But b H HZ := (But.of t0).trans but
    have z0 := but _ _ (hbL.ne (t1 _ _ g0) (by intro _ _ _ _ e; cases e)) (t1 _ _ g0)
    have z1 := but _ _ (hbL.ne (t2 _ _ g1) (by intro _ _ _ _ e; cases e)) (t2 _ _ g1)
    have z2 := but _ _ (hbL.ne (t3 _ _ g2) (by intro _ _ _ _ e; cases e)) (t3 _ _ g2)
    have z3 := but _ _ (hbL.ne (t4 _ _ g3) (by intro _ _ _ _ e; cases e)) (t4 _ _ g3)
    have z4 := but _ _ (hbL.ne (t5 _ _ g4) (by intro _ _ _ _ e; cases e)) (t5 _ _ g4)
    have z5 := but _ _ (hbL.ne (t6 _ _ g5) (by intro _ _ _ _ e; cases e)) (t6 _ _ g5)
    have z6 := but _ _ (hbL.ne (t7 _ _ g6) (by intro _ _ _ _ e; cases e)) (t7 _ _ g6)
    have z7 := but _ _ (hbL.ne (t8 _ _ g7) (by intro _ _ _ _ e; cases e)) (t8 _ _ g7)
    have z8 := but _ _ (hbL.ne (t9 _ _ g8) (by intro _ _ _ _ e; cases e)) (t9 _ _ g8)
    have z9 := but _ _ (hbL.ne (t10 _ _ g9) (by intro _ _ _ _ e; cases e)) (t10 _ _ g9)
    have z10 := but _ _ (hbL.ne (t11 _ _ g10) (by intro _ _ _ _ e; cases e)) (t11 _ _ g10)
    obtain rfl | rfl | rfl | rfl | rfl | rfl | rfl | rfl | rfl | rfl | rfl | rfl | rfl | rfl | rfl : r = 0 ∨ r = 1 ∨ r = 2 ∨ r = 3 ∨ r = 4 ∨ r = 5 ∨ r = 6 ∨ r = 7 ∨ r = 8 ∨ r = 9 ∨ r = 10 ∨ r = 11 ∨ r = 12 ∨ r = 13 ∨ r = 14 := by omega
    · refine r_ixL (SqL.of gz) rfl ?_
      exact k _ (.none) HZ (by simp [oddDs]) (.non) bx bz
    · refine r_ixL (SqL.of gz) rfl ?_
      exact k _ (.bool true) HZ (by simp [oddDs]) (.bl _) bx bz
    · refine r_ixL (SqL.of gz) rfl ?_
      exact k _ (.bool false) HZ (by simp [oddDs]) (.bl _) bx bz
    · refine r_ixL (SqL.of gz) rfl ?_
      exact k _ (.str "") HZ (by simp [oddDs]) (.str _) bx bz
    · refine r_ixL (SqL.of gz) rfl ?_
      exact k _ (.str "2") HZ (by simp [oddDs]) (.str _) bx bz
    · refine r_ixL (SqL.of gz) rfl ?_
      exact k _ (.dict []) HZ (by simp [oddDs]) (.emp z0) bx bz
    · refine r_ixL (SqL.of gz) rfl ?_
      exact k _ (.list [.list [.int 2]]) HZ (by simp [oddDs]) (.lst z2 (.cons (.lst z1 (.cons (.int _) .nil)) .nil)) bx bz
    · refine r_ixL (SqL.of gz) rfl ?_
      exact k _ (.list [.str "2"]) HZ (by simp [oddDs]) (.lst z3 (.cons (.str _) .nil)) bx bz
    · refine r_ixL (SqL.of gz) rfl ?_
      exact k _ (.list [.none]) HZ (by simp [oddDs]) (.lst z4 (.cons .non .nil)) bx bz
    · refine r_ixL (SqL.of gz) rfl ?_
      exact k _ (.list [.int 2, .none]) HZ (by simp [oddDs]) (.lst z5 (.cons (.int _) (.cons .non .nil))) bx bz
    · refine r_ixL (SqL.of gz) rfl ?_
      exact k _ (.list [.bool true, .int 2]) HZ (by simp [oddDs]) (.lst z6 (.cons (.bl _) (.cons (.int _) .nil))) bx bz
    · refine r_ixL (SqL.of gz) rfl ?_
      exact k _ (.list [.int 2, .bool true]) HZ (by simp [oddDs]) (.lst z7 (.cons (.int _) (.cons (.bl _) .nil))) bx bz
    · refine r_ixL (SqL.of gz) rfl ?_
      exact k _ (.int (-(10 ^ 40))) HZ (by simp [oddDs]) (.int _) bx bz
    · refine r_ixL (SqL.of gz) rfl ?_
      exact k _ (.tuple [.int 2, .str "2"]) HZ (by simp [oddDs]) (.tup z8 (.cons (.int _) (.cons (.str _) .nil))) bx bz
    · refine r_ixL (SqL.of gz) rfl ?_
      exact k _ (.list [.list [], .int 2]) HZ (by simp [oddDs]) (.lst z10 (.cons (.lst z9 .nil) (.cons (.int _) .nil))) bx bz
end
end Eld
set_option Elab.async false
set_option maxRecDepth 100000
set_option maxHeartbeats 4000000
set_option linter.all false
namespace Eld
open PySem L2
local macro_rules | `(tactic| walk_at "r1") => `(tactic| with_reducible first
  | refine r_seq ?_ | refine r_asgN ?_ | refine r_asg ?_ | refine r_gname ?_ | refine r_gsub ?_ | refine r_var rfl ?_ | refine r_c ?_ | refine r_op ?_ | refine r_un ?_ | refine r_u ?_ | refine r_i0 ?_ | refine r_cb ?_ | refine r_cons ?_ | refine r_nil ?_ | refine r_cl ?_ | refine r_fn rfl rfl ?_ | refine r_mt ?_
  | refine r_test ?_ | refine r_tb ?_ | refine r_bl ?_ | refine r_and ?_ | refine r_or ?_ | refine r_not ?_ | refine r_andV ?_ | refine r_orV ?_ | refine r_notV ?_ | refine r_ifX ?_ | refine r_ifs ?_ | refine r_chain ?_ | refine r_ret ?_ | refine r_next ?_ | refine r_drop ?_ | refine iteT ?_ | refine iteF ?_ | refine iteNT ?_ | refine iteNF ?_
  | refine r_int1 ?_ | refine r_boolB ?_ | refine r_eqI ?_ | refine r_neI ?_ | refine r_eqB ?_ | refine r_neB ?_ | refine r_eqS ?_ | refine r_neS ?_ | refine r_abs ?_ | refine r_max2 ?_ | refine r_min2 ?_ | refine r_yes ?_ | refine r_tup ?_ | refine r_sfld ?_ | refine r_m0 ?_ | refine r_m1 ?_ | refine r_lst ?_ | refine r_rng1 ?_ | refine r_rng2 ?_ | refine r_ixL (SqL.of (by assumption)) rfl ?_)
local macro_rules | `(tactic| walk_at "r") => `(tactic| repeat (first | walk_at "r1" | ((with_reducible refine r_var ?hv ?_); (case hv => rfl))))

/-- what repr asks, by shape: no text is built -/
def showsX (d : PyData) : Bool := d.showable && decide (d.depth ≤ 60) && (PyData.layable0 d && d.intsShort 13)
/-- the same for what holds a dict or great numbers -/
def showsT (d : PyData) : Bool := d.showable && decide (d.depth ≤ 60) && decide (d.shown.length ≤ 1000)
theorem r_reprX {K : PySem.W.Frag} {H : Hp} {Q : VK} {a : Addr} {d : PyData} (h : Dx K H (.ref a) d) (ok : showsX d = true ∨ showsT d = true) (q : Q (.str d.shown) H) : rReprX K [.ref a] H Q := by
  rcases ok with ok | ok
  · simp only [showsX, Bool.and_eq_true, decide_eq_true_eq] at ok
    obtain ⟨⟨h1, h3⟩, h4, h5⟩ := ok
    have := PyProof.Rows.shown_le13 h4 h5
    exact ⟨a, d, rfl, h, h1, h3, by rw [sizeLine_eq]; omega, q⟩
  · simp only [showsT, Bool.and_eq_true, decide_eq_true_eq] at ok
    obtain ⟨⟨h1, h3⟩, h4⟩ := ok
    exact ⟨a, d, rfl, h, h1, h3, by rw [sizeLine_eq]; omega, q⟩
def zeroD (way : Int) (d : PyData) : PyData := .list [.int way, d]
theorem zero_dx {K : PySem.W.Frag} {H : Hp} {l : Addr} {way : Int} {v : V} {d : PyData} (e : H l = some (.lst [.int way, v])) (h : Dx K H v d) : Dx K H (.ref l) (zeroD way d) := .lst e (.cons (.int _) (.cons h .nil))
theorem pool_small : ∀ z ∈ pool, z.natAbs.log2 < 1920 ∧ PyData.weight (.int z) ≤ 10 ∧ PyData.intsShort 13 (.int z) = true := by decide +kernel
theorem ints_small : ∀ zs : List Int, (∀ z ∈ zs, z ∈ pool) → PyData.showableAll (zs.map PyData.int) = true ∧ PyData.weightAll (zs.map PyData.int) ≤ 11 * zs.length ∧ PyData.intsShortAll 13 (zs.map PyData.int) = true ∧ PyData.canLayAll0 (zs.map PyData.int) = true ∧ PyData.depthAll (zs.map PyData.int) = 0
  | [], _ => by simp [PyData.showableAll, PyData.weightAll, PyData.intsShortAll, PyData.canLayAll0, PyData.depthAll]
  | z :: zs, h => by
    obtain ⟨a1, a2, a3⟩ := pool_small z (h z (by simp))
    obtain ⟨b1, b2, b3, b4, b5⟩ := ints_small zs fun y m => h y (List.mem_cons_of_mem _ m)
    refine ⟨?_, ?_, ?_, ?_, ?_⟩
    · simp only [List.map_cons, PyData.showableAll, PyData.showable, b1, Bool.and_true, decide_eq_true_eq]
      exact a1
    · simp only [List.map_cons, PyData.weightAll, List.length_cons]
      omega
    · simp only [List.map_cons, PyData.intsShortAll, a3, b3, Bool.and_self]
    · simp only [List.map_cons, PyData.canLayAll0, PyData.canLay0, b4, Bool.and_self]
    · simp only [List.map_cons, PyData.depthAll, PyData.depth, b5]
      rfl
theorem shows_all (zs : List Int) (h : ∀ z ∈ zs, z ∈ pool) (l : zs.length ≤ 4) : showsX (zeroD 0 (.list (zs.map PyData.int))) = true ∧ showsX (zeroD 0 (.tuple (zs.map PyData.int))) = true := by
  obtain ⟨b1, b2, b3, b4, b5⟩ := ints_small zs h
  have i0 : PyData.intsShort 13 (.int 0) = true := by decide +kernel
  constructor
  all_goals
    simp only [showsX, zeroD, PyData.showable, PyData.showableAll, PyData.depth, PyData.depthAll, PyData.layable0, PyData.canLay0, PyData.canLayAll0, PyData.weight, PyData.weightAll, PyData.intsShort, PyData.intsShortAll, b1, b3, b4, b5, Bool.and_true, Bool.true_and, Bool.and_eq_true, decide_eq_true_eq]
    simp only [PyData.intsShort, decide_eq_true_eq] at i0
    refine ⟨⟨by decide, by omega⟩, ⟨by omega, by simp; omega⟩, i0⟩
def toldD (s : Str) : PyData := .list [.str "told", .str s]
theorem told_dx {K : PySem.W.Frag} {H : Hp} {l : Addr} {s : Str} (e : H l = some (.lst [.str "told", .str s])) : Dx K H (.ref l) (toldD s) := .lst e (.cons (.str _) (.cons (.str _) .nil))
theorem told_shows : ∀ zs ∈ menu, showsT (toldD (lineOf zs)) = true := by decide +kernel
theorem good_menu (zs : List Int) (h : goodB zs = true) : zs ∈ menu := by
  simp only [goodB, sizesD, seqD, Bool.and_eq_true, decide_eq_true_eq, List.length_map] at h
  obtain ⟨⟨⟨h1, h3⟩, ha⟩, hp⟩ := h
  obtain ⟨ys, e, hy⟩ := ints_of _ ha
  have ez : zs = ys := by
    have := congrArg (List.map valD) e
    rw [List.map_map, List.map_map] at this
    have f : (valD ∘ PyData.int) = id := rfl
    rw [f, List.map_id, List.map_id] at this
    exact this
  subst ez
  have e1 : prodD (zs.map PyData.int) = prod zs := by
    unfold prodD prod
    rw [List.map_map]
    have f : (valD ∘ PyData.int) = id := rfl
    rw [f, List.map_id]
  rw [e1] at hp
  exact (small_all zs hy h3).2 h1 hp
end Eld
set_option Elab.async false
set_option maxRecDepth 100000
set_option maxHeartbeats 4000000
set_option linter.all false
namespace Eld
open PySem L2
local macro_rules | `(tactic| walk_at "r1") => `(tactic| with_reducible first
  | refine r_seq ?_ | refine r_asgN ?_ | refine r_asg ?_ | refine r_gname ?_ | refine r_gsub ?_ | refine r_var rfl ?_ | refine r_c ?_ | refine r_op ?_ | refine r_un ?_ | refine r_u ?_ | refine r_i0 ?_ | refine r_cb ?_ | refine r_cons ?_ | refine r_nil ?_ | refine r_cl ?_ | refine r_fn rfl rfl ?_ | refine r_mt ?_
  | refine r_test ?_ | refine r_tb ?_ | refine r_bl ?_ | refine r_and ?_ | refine r_or ?_ | refine r_not ?_ | refine r_andV ?_ | refine r_orV ?_ | refine r_notV ?_ | refine r_ifX ?_ | refine r_ifs ?_ | refine r_chain ?_ | refine r_ret ?_ | refine r_next ?_ | refine r_drop ?_ | refine iteT ?_ | refine iteF ?_ | refine iteNT ?_ | refine iteNF ?_
  | refine r_int1 ?_ | refine r_boolB ?_ | refine r_eqI ?_ | refine r_neI ?_ | refine r_eqB ?_ | refine r_neB ?_ | refine r_eqS ?_ | refine r_neS ?_ | refine r_abs ?_ | refine r_max2 ?_ | refine r_min2 ?_ | refine r_yes ?_ | refine r_tup ?_ | refine r_sfld ?_ | refine r_m0 ?_ | refine r_m1 ?_ | refine r_lst ?_ | refine r_rng1 ?_ | refine r_rng2 ?_ | refine r_ixL (SqL.of (by assumption)) rfl ?_)
local macro_rules | `(tactic| walk_at "r") => `(tactic| repeat (first | walk_at "r1" | ((with_reducible refine r_var ?hv ?_); (case hv => rfl))))

theorem odd_shows : ∀ d ∈ oddDs, showsT (zeroD 0 d) = true := by
  intro d h
  simp only [oddDs, List.mem_cons, List.not_mem_nil, or_false] at h
  rcases h with rfl | rfl | rfl | rfl | rfl | rfl | rfl | rfl | rfl | rfl | rfl | rfl | rfl | rfl | rfl <;> decide +kernel
theorem told_shaped : ∀ z ∈ R7, SeqAt.shaped (toldD (lineOf [z])) = true ∧ (!PyData.eqv (toldD (lineOf [z])) (toldD (lineOf [z]))) = false := by decide +kernel
def spSizesRight (C : Addr) : Sp := fun vs H Q _ => ∃ (b p : Addr) (n : Nat) (zS : List Int), vs = [.ref b, .ref p] ∧ zS ∈ menu ∧ BoxAt H b n ∧ n < 2000000 ∧ SpaceAt C H p zS ∧ ∀ H', BoxAt H' b (n + 60) → But b H H' → Q (.bl true) H'
theorem SpaceAt.but {C : Addr} {H H' : Hp} {p b : Addr} {n : Nat} {zs : List Int} (h : SpaceAt C H p zs) (hb : BoxAt H b n) (s : But b H H') : SpaceAt C H' p zs := by
  obtain ⟨dx, tz, q, ts, h1, h2, h3, h4⟩ := h
  have t : ∀ a o, H a = some o → (∀ g m c t, o ≠ .lst [.int g, .bl t, .int m, .int c]) → H' a = some o := fun a o e d => s a o (hb.ne e d) e
  exact ⟨dx, tz, q, ts, t _ _ h1 (by intro _ _ _ _ e; cases e), t _ _ h2 (by intro _ _ _ _ e; cases e), (by obtain ⟨o, e, d⟩ := h3; exact ⟨o, t _ _ e (by intro _ _ _ _ e; cases e), d⟩), h4.1, fun i u r a b => t _ _ (h4.2 i u r a b) (by intro _ _ _ _ e; cases e)⟩
section
variable {P : Program} {w : World} {K : PySem.W.Frag} {mg : Str → Option Value} {base : Heap} {C : Addr}
theorem ok_sizes_right {f : Addr} {fd : FuncData} (F : Fun K "_law_sizes_right" "_law_sizes_right" s__law_sizes_right f fd) (Z : Zs mg) (hM : ModsD base) (d__law_drawn_sizes : DefD P w K mg base 2 "_law_drawn_sizes" 1 [] byPlace spDrawn) (d__law_good : DefD P w K mg base 2 "_law_good" 1 [] byPlace spGood)
    (d__law_met : DefD P w K mg base 8 "_law_met" 3 [] byPlace (spMet C K)) (d__law_odd : DefD P w K mg base 2 "_law_odd" 1 [] byPlace (spOdd K)) : FnG P w K mg base CX0 9 f fd ["box", "space"] (spSizesRight C) := by
  refine okG F sc__law_sizes_right (fun vs H Q E h => ?_) (fun cdv B up z H vs Q E hG hr h => ?_)
  · obtain ⟨b, p, n, zS, rfl, _⟩ := h
    rfl
  · have hu : (B.deeper (PyProof.Rows.envOfC "_law_sizes_right" (defScope s__law_sizes_right) z.heap.objs.size f cdv)).units + 64 < cLine := by have := hr.un; omega
    obtain ⟨b, p, n, zS, rfl, hz, hb, hn, sp, k⟩ := h
    refine ⟨_, (pss_cons (ps_for PassesOwn.never rfl (pi_range1 (by rfl) Z.range_ (pa_cons pe_int pa_nil)) (pg_name (i := 2) sc__law_sizes_right.nd rfl (by first | exact Or.inl rfl | exact Or.inr rfl))
  (pss_cons (ps_set (i := 4) sc__law_sizes_right.nd rfl (by first | exact Or.inl rfl | exact Or.inr rfl) (pd_pos d__law_drawn_sizes hG hr (by decide) (by rfl) (pa_cons (pv 0) pa_nil)))
  (pss_cons (ps_set (i := 5) sc__law_sizes_right.nd rfl (by first | exact Or.inl rfl | exact Or.inr rfl) (pd_pos d__law_good hG hr (by decide) (by rfl) (pa_cons (pv 4) pa_nil)))
  (pss_one (ps_for PassesOwn.never rfl (pi_list (pe_lst (pa_cons (pe_callTy (show CallR _ _ (rListOf K) from c_list) (by rfl) Z.list_ (by decide +kernel) (pa_cons (pv 4) pa_nil)) (pa_cons (pe_callTy (show CallR _ _ (rTupleOf K) from c_tuple) (by rfl) Z.tuple_ (by decide +kernel) (pa_cons (pv 4) pa_nil)) pa_nil)))) (pg_name (i := 6) sc__law_sizes_right.nd rfl (by first | exact Or.inl rfl | exact Or.inr rfl))
  (pss_cons (ps_set (i := 7) sc__law_sizes_right.nd rfl (by first | exact Or.inl rfl | exact Or.inr rfl) (pe_ifExp (pt_val (pv 5)) (pe_lst (pa_cons pe_str (pa_cons (pe_join pe_str (pe_lc (own := [("size", 8)]) (tt := tYes) rfl sc__law_sizes_right.nd (pi_list (pv 4)) (blkOk_by (N := ["box", "space", "turn", "odd", "sizes", "good", "handed", "due", "size"]) (sc := defScope s__law_sizes_right) (by decide +kernel)) (fun _ _ _ _ _ => (pg_name (i := 8) sc__law_sizes_right.nd rfl (by first | exact Or.inl rfl | exact Or.inr rfl))) (fun _ _ _ _ _ => pts_nil) (fun _ _ _ _ _ => (pe_callTy c_str (by rfl) Z.str_ (by decide +kernel) (pa_cons (pv 8) pa_nil))))) pa_nil))) (pe_lst (pa_cons pe_int (pa_cons (pv 6) pa_nil)))))
  (pss_one (ps_if (pt_cmpR op_ne (pe_callB (show CallR _ _ (rReprX K) from call_reprX hM hG hu) (by rfl) Z.repr_ (by decide +kernel) (pa_cons (pd_pos d__law_met hG hr (by decide) (by rfl) (pa_cons pe_int (pa_cons (pv 1) (pa_cons (pv 6) pa_nil)))) pa_nil)) (pe_callB (show CallR _ _ (rReprX K) from call_reprX hM hG hu) (by rfl) Z.repr_ (by decide +kernel) (pa_cons (pv 7) pa_nil)) (nomark _)) (pss_one (ps_ret pe_bl)) pss_nil))))))))
  (pss_cons (ps_for PassesOwn.never rfl (pi_list (pe_lst (pa_cons (pd_pos d__law_odd hG hr (by decide) (by rfl) (pa_cons (pv 0) pa_nil)) (pa_cons pe_int (pa_cons pe_int (pa_cons (pe_lst pa_nil) (pa_cons (pe_tup pa_nil) (pa_cons (pe_lst (pa_cons pe_int (pa_cons pe_int pa_nil))) (pa_cons (pe_lst (pa_cons pe_int (pa_cons pe_int pa_nil))) (pa_cons (pe_lst (pa_cons pe_int (pa_cons pe_int (pa_cons pe_int (pa_cons pe_int pa_nil))))) (pa_cons (pe_lst (pa_cons pe_int (pa_cons pe_int pa_nil))) (pa_cons (pe_lst (pa_cons pe_int pa_nil)) (pa_cons (pe_lst (pa_cons (pe_op op_pow pe_int pe_int) pa_nil)) (pa_cons (pe_lst (pa_cons pe_int (pa_cons pe_int (pa_cons pe_int (pa_cons pe_int pa_nil))))) (pa_cons pe_str (pa_cons (pe_lst (pa_cons pe_int (pa_cons (pe_un un_neg pe_int) (pa_cons (pe_un un_neg pe_int) pa_nil)))) pa_nil)))))))))))))))) (pg_name (i := 3) sc__law_sizes_right.nd rfl (by first | exact Or.inl rfl | exact Or.inr rfl))
  (pss_one (ps_if (pt_cmpR op_ne (pe_callB (show CallR _ _ (rReprX K) from call_reprX hM hG hu) (by rfl) Z.repr_ (by decide +kernel) (pa_cons (pd_pos d__law_met hG hr (by decide) (by rfl) (pa_cons pe_int (pa_cons (pv 1) (pa_cons (pv 3) pa_nil)))) pa_nil)) (pe_callB (show CallR _ _ (rReprX K) from call_reprX hM hG hu) (by rfl) Z.repr_ (by decide +kernel) (pa_cons (pe_lst (pa_cons pe_int (pa_cons (pv 3) pa_nil))) pa_nil)) (nomark _)) (pss_one (ps_ret pe_bl)) pss_nil)))
  (pss_one (ps_ret (pe_cmpR (show OpR _ _ (rEqD K) from op_eqD hu) (pe_lc (own := [("size", 8)]) (tt := _) rfl sc__law_sizes_right.nd (pi_range2 (by rfl) Z.range_ (pa_cons pe_int (pa_cons pe_int pa_nil))) (blkOk_by (N := ["box", "space", "turn", "odd", "sizes", "good", "handed", "due", "size"]) (sc := defScope s__law_sizes_right) (by decide +kernel)) (fun _ _ _ _ _ => (pg_name (i := 8) sc__law_sizes_right.nd rfl (by first | exact Or.inl rfl | exact Or.inr rfl))) (fun _ _ _ _ _ => (pts_one (pt_cmpR (show OpR _ _ (rNeD K) from op_neD hu) (pd_pos d__law_met hG hr (by decide) (by rfl) (pa_cons pe_int (pa_cons (pv 1) (pa_cons (pe_lst (pa_cons (pv 8) pa_nil)) pa_nil)))) (pe_lst (pa_cons pe_str (pa_cons (pe_callTy c_str (by rfl) Z.str_ (by decide +kernel) (pa_cons (pv 8) pa_nil)) pa_nil))) (nomark _)))) (fun _ _ _ _ _ => (pv 8))) (pe_lst pa_nil) (nomark _)))))), ?_⟩
    refine r_seq ?_
    refine r_for ?_
    walk_at "r"
    refine ⟨_, rfl, by decide, by decide, ?_⟩
    refine for_range (fun i τ G => ∃ v2 v3 v4 v5 v6 v7 : Option V, τ = [some (.ref b), some (.ref p), v2, v3, v4, v5, v6, v7, none] ∧ BoxAt G b (n + 5 * i) ∧ But b H G) ⟨none, none, none, none, none, none, rfl, hb, But.refl H⟩ ?_ ?_
    · rintro i τ G hi ⟨v2, v3, v4, v5, v6, v7, rfl, bG, bt⟩
      have i4 : i < 4 := hi
      walk_at "r"
      refine ⟨b, _, rfl, bG, by omega, fun l zs G1 pz l4 b1 bt1 n1 g1 => ?_⟩
      walk_at "r"
      refine ⟨l, zs, rfl, g1, pz, l4, fun G2 s2 => ?_⟩
      walk_at "r"
      have sp2 := ((sp.but hb bt).but bG bt1).same s2
      with_reducible refine r_for ?_
      refine r_il ?_
      walk_at "r"
      refine r_listL (SqL.of (s2 _ _ g1)) fun h1 nh1 => ?_
      have s3 := Same.upd_new (o := .lst (zs.map V.int)) nh1
      have g3 : (upd G2 h1 (.lst (zs.map V.int))) h1 = some (.lst (zs.map V.int)) := upd_same
      generalize upd G2 h1 (.lst (zs.map V.int)) = G3 at s3 g3 ⊢
      walk_at "r"
      refine r_tupleAny (.inl (s3 _ _ (s2 _ _ g1))) fun h2 G4 s4 g4 => ?_
      walk_at "r"
      refine ⟨by show 2 ≤ sizeLine; decide, fun y ny => ?_⟩
      have s5 := Same.upd_new (o := .lst [.ref h1, .ref h2]) ny
      have g5 : (upd G4 y (.lst [.ref h1, .ref h2])) y = some (.lst [.ref h1, .ref h2]) := upd_same
      generalize upd G4 y (.lst [.ref h1, .ref h2]) = G5 at s5 g5 ⊢
      have s25 : Same G2 G5 := (s3.trans s4).trans s5
      have sp5 := sp2.same s25
      refine ⟨y, rfl, ⟨_, SqL.of g5⟩, for_list (K := K) (a := y) (xs := [V.ref h1, .ref h2]) (fun j τ T => ∃ v6 v7 : Option V, τ = [some (.ref b), some (.ref p), some (.int (0 + (i : Int))), v3, some (.ref l), some (.bl (goodB zs)), v6, v7, none] ∧ Same G5 T)
        ⟨_, _, rfl, Same.refl _⟩ (fun j τ T _ q => ?_) ?_ ?_⟩
      · obtain ⟨_, _, _, sT⟩ := q
        exact SqL.of (sT _ _ g5)
      · rintro j x τ T hx ⟨v6, v7, rfl, sT⟩
        have j2 : j < 2 := (List.getElem?_eq_some_iff.mp hx).1
        have what : ∃ h d, x = .ref h ∧ (G5 h = some (.lst (zs.map V.int)) ∨ G5 h = some (.tup (zs.map V.int))) ∧ Dx K G5 (.ref h) d ∧ sizesD d = goodB zs ∧ showsX (zeroD 0 d) = true := by
          obtain ⟨sh1, sh2⟩ := shows_all zs pz l4
          obtain rfl | rfl : j = 0 ∨ j = 1 := by omega
          · obtain rfl := Option.some.inj hx
            exact ⟨h1, _, rfl, .inl (s5 _ _ (s4 _ _ g3)), .lst (s5 _ _ (s4 _ _ g3)) (ints_dx zs), rfl, sh1⟩
          · obtain rfl := Option.some.inj hx
            exact ⟨h2, _, rfl, .inr (s5 _ _ g4), .tup (s5 _ _ g4) (ints_dx zs), rfl, sh2⟩
        obtain ⟨h, d, rfl, hlt, hd, sd, sh⟩ := what
        have gl : T l = some (.lst (zs.map V.int)) := sT _ _ (s25 _ _ (s2 _ _ g1))
        have spT := sp5.same sT
        walk_at "r"
        cases gb : goodB zs with
        | true =>
          rw [gb] at sd
          have zm := good_menu zs gb
          obtain ⟨m1, m3⟩ := menu_len zs zm
          walk_at "r"
          refine ⟨⟨_, rfl⟩, ?_⟩
          refine ⟨_, rfl, l, rfl, ⟨_, SqL.of gl⟩, fun D hD => ?_⟩
          refine it_list (xs := zs.map V.int) (fun i A => Same T A ∧ A D = some (.lst ((zs.take i).map fun z => V.str (numStr z)))) ⟨Same.upd_new hD, upd_same⟩ (fun i A _ s => SqL.of (s.1 _ _ gl)) (fun i x A hx s => ?_) (fun A s => ?_)
          · obtain ⟨y, hy, rfl⟩ := map_get hx
            obtain ⟨y1, y2⟩ := menu_mem zs zm y (List.mem_of_getElem? hy)
            refine r_gname ⟨rfl, ?_⟩
            walk_at "r"
            refine r_strI (num_small y y1 y2) ?_
            refine ⟨_, s.2, by rw [List.length_map, List.length_take, sizeLine_eq]; omega, Same.over s.1 hD, ?_⟩
            rw [upd_same, take_next hy, List.map_append]
            rfl
          · obtain ⟨sA, dA⟩ := s
            have e : (zs.take (zs.map V.int).length).map (fun z => V.str (numStr z)) = (zs.map numStr).map V.str := by
              rw [List.length_map, List.take_length, List.map_map]
              rfl
            rw [e] at dA
            refine ⟨_, D, zs.map numStr, rfl, rfl, .inl (SqL.of dA), menu_line zs zm, ?_⟩
            have el : Txt.join (" " : Str) (zs.map numStr) = lineOf zs := rfl
            walk_at "r"
            rw [el]
            refine ⟨by show 2 ≤ sizeLine; decide, fun u nu => ?_⟩
            have su := Same.upd_new (o := .lst [.str "told", .str (lineOf zs)]) nu
            have gu : (upd A u (.lst [.str "told", .str (lineOf zs)])) u = some (.lst [.str "told", .str (lineOf zs)]) := upd_same
            generalize upd A u (.lst [.str "told", .str (lineOf zs)]) = A2 at su gu ⊢
            have sTA : Same T A2 := sA.trans su
            walk_at "r"
            refine ⟨0, p, _, zS, rfl, hz, spT.same sTA, .inl ⟨rfl, h, zs, rfl, zm, same_any (sT.trans sTA) hlt, fun A3 s3' l' A4 nl s4' gl' => ?_⟩⟩
            walk_at "r"
            refine r_reprX (told_dx gl') (.inr (told_shows zs zm)) ?_
            walk_at "r"
            refine r_reprX (told_dx (s4' _ _ (s3' _ _ gu))) (.inr (told_shows zs zm)) ?_
            walk_at "r"
            rw [decide_eq_true rfl]
            walk_at "r"
            exact ⟨_, _, rfl, sT.trans (sTA.trans (s3'.trans s4'))⟩
        | false =>
          rw [gb] at sd
          walk_at "r"
          refine ⟨by show 2 ≤ sizeLine; decide, fun u nu => ?_⟩
          have su := Same.upd_new (o := .lst [.int 0, .ref h]) nu
          have gu : (upd T u (.lst [.int 0, .ref h])) u = some (.lst [.int 0, .ref h]) := upd_same
          generalize upd T u (.lst [.int 0, .ref h]) = A2 at su gu ⊢
          have hd2 := Dx.same (sT.trans su) _ _ hd
          walk_at "r"
          refine ⟨0, p, _, zS, rfl, hz, spT.same su, .inr (.inl ⟨rfl, d, hd2, sd, fun A3 s3' l' A4 nl s4' gl' => ?_⟩)⟩
          walk_at "r"
          refine r_reprX (zero_dx gl' (Dx.same (s3'.trans s4') _ _ hd2)) (.inl sh) ?_
          walk_at "r"
          refine r_reprX (zero_dx (s4' _ _ (s3' _ _ gu)) (Dx.same (s3'.trans s4') _ _ hd2)) (.inl sh) ?_
          walk_at "r"
          rw [decide_eq_true rfl]
          walk_at "r"
          exact ⟨_, _, rfl, sT.trans (su.trans (s3'.trans s4'))⟩
      · rintro τ T ⟨v6, v7, rfl, sT⟩
        exact ⟨_, _, _, _, _, _, rfl, ((b1.same s2).same (s25.trans sT)).mono (by omega), (bt.trans bt1).trans (But.of (s2.trans (s25.trans sT)))⟩
    · rintro τ G ⟨v2, v3, v4, v5, v6, v7, rfl, bG, bt⟩
      with_reducible refine r_seq ?_
      refine r_for ?_
      refine r_il ?_
      walk_at "r"
      refine ⟨b, _, rfl, bG, by show n + 5 * 4 < 3000000; omega, fun v0 d0 H0 m0 dx0 b0 bt0 => ?_⟩
      walk_at "r"
      refine ⟨by show 0 ≤ sizeLine; decide, fun l0 h0 => ?_⟩
      have s0 := Same.upd_new (o := .lst []) h0
      have g0 : (upd H0 l0 (.lst [])) l0 = some (.lst []) := upd_same
      generalize upd H0 l0 (.lst []) = H1 at s0 g0 ⊢
      walk_at "r"
      refine ⟨by show 0 ≤ sizeLine; decide, fun l1 h1 => ?_⟩
      have s1 := Same.upd_new (o := .tup []) h1
      have g1 : (upd H1 l1 (.tup [])) l1 = some (.tup []) := upd_same
      generalize upd H1 l1 (.tup []) = H2 at s1 g1 ⊢
      walk_at "r"
      refine ⟨by show 2 ≤ sizeLine; decide, fun l2 h2 => ?_⟩
      have s2 := Same.upd_new (o := .lst [.int 8, .int 1]) h2
      have g2 : (upd H2 l2 (.lst [.int 8, .int 1])) l2 = some (.lst [.int 8, .int 1]) := upd_same
      generalize upd H2 l2 (.lst [.int 8, .int 1]) = H3 at s2 g2 ⊢
      walk_at "r"
      refine ⟨by show 2 ≤ sizeLine; decide, fun l3 h3 => ?_⟩
      have s3 := Same.upd_new (o := .lst [.int 1, .int 8]) h3
      have g3 : (upd H3 l3 (.lst [.int 1, .int 8])) l3 = some (.lst [.int 1, .int 8]) := upd_same
      generalize upd H3 l3 (.lst [.int 1, .int 8]) = H4 at s3 g3 ⊢
      walk_at "r"
      refine ⟨by show 4 ≤ sizeLine; decide, fun l4 h4 => ?_⟩
      have s4 := Same.upd_new (o := .lst [.int 2, .int 2, .int 2, .int 1]) h4
      have g4 : (upd H4 l4 (.lst [.int 2, .int 2, .int 2, .int 1])) l4 = some (.lst [.int 2, .int 2, .int 2, .int 1]) := upd_same
      generalize upd H4 l4 (.lst [.int 2, .int 2, .int 2, .int 1]) = H5 at s4 g4 ⊢
      walk_at "r"
      refine ⟨by show 2 ≤ sizeLine; decide, fun l5 h5 => ?_⟩
      have s5 := Same.upd_new (o := .lst [.int 4, .int 3]) h5
      have g5 : (upd H5 l5 (.lst [.int 4, .int 3])) l5 = some (.lst [.int 4, .int 3]) := upd_same
      generalize upd H5 l5 (.lst [.int 4, .int 3]) = H6 at s5 g5 ⊢
      walk_at "r"
      refine ⟨by show 1 ≤ sizeLine; decide, fun l6 h6 => ?_⟩
      have s6 := Same.upd_new (o := .lst [.int 9]) h6
      have g6 : (upd H6 l6 (.lst [.int 9])) l6 = some (.lst [.int 9]) := upd_same
      generalize upd H6 l6 (.lst [.int 9]) = H7 at s6 g6 ⊢
      walk_at "r"
      refine r_i ⟨by decide, by decide, by decide⟩ ?_
      walk_at "r"
      refine ⟨by show 1 ≤ sizeLine; decide, fun l7 h7 => ?_⟩
      have s7 := Same.upd_new (o := .lst [.int (10 ^ (30 : Int).toNat)]) h7
      have g7 : (upd H7 l7 (.lst [.int (10 ^ (30 : Int).toNat)])) l7 = some (.lst [.int (10 ^ (30 : Int).toNat)]) := upd_same
      generalize upd H7 l7 (.lst [.int (10 ^ (30 : Int).toNat)]) = H8 at s7 g7 ⊢
      walk_at "r"
      refine ⟨by show 4 ≤ sizeLine; decide, fun l8 h8 => ?_⟩
      have s8 := Same.upd_new (o := .lst [.int 2, .int 2, .int 2, .int 2]) h8
      have g8 : (upd H8 l8 (.lst [.int 2, .int 2, .int 2, .int 2])) l8 = some (.lst [.int 2, .int 2, .int 2, .int 2]) := upd_same
      generalize upd H8 l8 (.lst [.int 2, .int 2, .int 2, .int 2]) = H9 at s8 g8 ⊢
      walk_at "r"
      refine ⟨by show 3 ≤ sizeLine; decide, fun l9 h9 => ?_⟩
      have s9 := Same.upd_new (o := .lst [.int 2, .int (-2), .int (-2)]) h9
      have g9 : (upd H9 l9 (.lst [.int 2, .int (-2), .int (-2)])) l9 = some (.lst [.int 2, .int (-2), .int (-2)]) := upd_same
      generalize upd H9 l9 (.lst [.int 2, .int (-2), .int (-2)]) = H10 at s9 g9 ⊢
      walk_at "r"
      refine ⟨by show 14 ≤ sizeLine; decide, fun y ny => ?_⟩
      have sl := Same.upd_new (o := .lst [v0, .int 2, .int 8, .ref l0, .ref l1, .ref l2, .ref l3, .ref l4, .ref l5, .ref l6, .ref l7, .ref l8, .str "2 3", .ref l9]) ny
      have gy : (upd H10 y (.lst [v0, .int 2, .int 8, .ref l0, .ref l1, .ref l2, .ref l3, .ref l4, .ref l5, .ref l6, .ref l7, .ref l8, .str "2 3", .ref l9])) y = some (.lst [v0, .int 2, .int 8, .ref l0, .ref l1, .ref l2, .ref l3, .ref l4, .ref l5, .ref l6, .ref l7, .ref l8, .str "2 3", .ref l9]) := upd_same
      generalize upd H10 y (.lst [v0, .int 2, .int 8, .ref l0, .ref l1, .ref l2, .ref l3, .ref l4, .ref l5, .ref l6, .ref l7, .ref l8, .str "2 3", .ref l9]) = HL at sl gy ⊢
      have t10 : Same H10 HL := sl
      have t9 : Same H9 HL := s9.trans t10
      have t8 : Same H8 HL := s8.trans t9
      have t7 : Same H7 HL := s7.trans t8
      have t6 : Same H6 HL := s6.trans t7
      have t5 : Same H5 HL := s5.trans t6
      have t4 : Same H4 HL := s4.trans t5
      have t3 : Same H3 HL := s3.trans t4
      have t2 : Same H2 HL := s2.trans t3
      have t1 : Same H1 HL := s1.trans t2
      have t0 : Same H0 HL := s0.trans t1
      have z0 := t1 _ _ g0
      have z1 := t2 _ _ g1
      have z2 := t3 _ _ g2
      have z3 := t4 _ _ g3
      have z4 := t5 _ _ g4
      have z5 := t6 _ _ g5
      have z6 := t7 _ _ g6
      have z7 := t8 _ _ g7
      have z8 := t9 _ _ g8
      have z9 := t10 _ _ g9
      have spL := ((sp.but hb bt).but bG bt0).same t0
      have what : ∀ (j : Nat) (x : V), ([v0, .int 2, .int 8, .ref l0, .ref l1, .ref l2, .ref l3, .ref l4, .ref l5, .ref l6, .ref l7, .ref l8, .str "2 3", .ref l9] : List V)[j]? = some x → ∃ d, Dx K HL x d ∧ sizesD d = false ∧ showsT (zeroD 0 d) = true := by
        intro j x hx
        match j, hx with
        | 0, hx => cases hx; exact ⟨d0, Dx.same t0 _ _ dx0, odd_no d0 m0, odd_shows d0 m0⟩
        | 1, hx => cases hx; exact ⟨_, .int _, by decide +kernel, by decide +kernel⟩
        | 2, hx => cases hx; exact ⟨_, .int _, by decide +kernel, by decide +kernel⟩
        | 3, hx => cases hx; exact ⟨_, .lst z0 .nil, by decide +kernel, by decide +kernel⟩
        | 4, hx => cases hx; exact ⟨_, .tup z1 .nil, by decide +kernel, by decide +kernel⟩
        | 5, hx => cases hx; exact ⟨_, .lst z2 (.cons (.int _) (.cons (.int _) .nil)), by decide +kernel, by decide +kernel⟩
        | 6, hx => cases hx; exact ⟨_, .lst z3 (.cons (.int _) (.cons (.int _) .nil)), by decide +kernel, by decide +kernel⟩
        | 7, hx => cases hx; exact ⟨_, .lst z4 (.cons (.int _) (.cons (.int _) (.cons (.int _) (.cons (.int _) .nil)))), by decide +kernel, by decide +kernel⟩
        | 8, hx => cases hx; exact ⟨_, .lst z5 (.cons (.int _) (.cons (.int _) .nil)), by decide +kernel, by decide +kernel⟩
        | 9, hx => cases hx; exact ⟨_, .lst z6 (.cons (.int _) .nil), by decide +kernel, by decide +kernel⟩
        | 10, hx => cases hx; exact ⟨_, .lst z7 (.cons (.int _) .nil), by decide +kernel, by decide +kernel⟩
        | 11, hx => cases hx; exact ⟨_, .lst z8 (.cons (.int _) (.cons (.int _) (.cons (.int _) (.cons (.int _) .nil)))), by decide +kernel, by decide +kernel⟩
        | 12, hx => cases hx; exact ⟨_, .str _, by decide +kernel, by decide +kernel⟩
        | 13, hx => cases hx; exact ⟨_, .lst z9 (.cons (.int _) (.cons (.int _) (.cons (.int _) .nil))), by decide +kernel, by decide +kernel⟩
        | _ + 14, hx => cases hx
      refine ⟨y, rfl, ⟨_, SqL.of gy⟩, for_list (K := K) (a := y) (xs := [v0, .int 2, .int 8, .ref l0, .ref l1, .ref l2, .ref l3, .ref l4, .ref l5, .ref l6, .ref l7, .ref l8, .str "2 3", .ref l9]) (fun j τ T => ∃ v3 : Option V, τ = [some (.ref b), some (.ref p), v2, v3, v4, v5, v6, v7, none] ∧ Same HL T)
        ⟨_, rfl, Same.refl _⟩ (fun j τ T _ q => ?_) ?_ ?_⟩
      · obtain ⟨_, _, sT⟩ := q
        exact SqL.of (sT _ _ gy)
      · rintro j x τ T hx ⟨v3, rfl, sT⟩
        obtain ⟨d, hd, sd, sh⟩ := what j x hx
        have hdT := Dx.same sT _ _ hd
        walk_at "r"
        refine ⟨0, p, _, zS, rfl, hz, spL.same sT, .inr (.inl ⟨rfl, d, hdT, sd, fun A3 s3' l' A4 nl s4' gl' => ?_⟩)⟩
        walk_at "r"
        refine r_reprX (zero_dx gl' (Dx.same (s3'.trans s4') _ _ hdT)) (.inr sh) ?_
        walk_at "r"
        refine ⟨by show 2 ≤ sizeLine; decide, fun u nu => ?_⟩
        have su := Same.upd_new (o := .lst [.int 0, x]) nu
        have gu : (upd A4 u (.lst [.int 0, x])) u = some (.lst [.int 0, x]) := upd_same
        generalize upd A4 u (.lst [.int 0, x]) = A5 at su gu ⊢
        walk_at "r"
        refine r_reprX (zero_dx gu (Dx.same ((s3'.trans s4').trans su) _ _ hdT)) (.inr sh) ?_
        walk_at "r"
        rw [decide_eq_true rfl]
        walk_at "r"
        exact ⟨_, rfl, sT.trans ((s3'.trans s4').trans su)⟩
      · rintro τ T ⟨v3, rfl, sT⟩
        have spT := spL.same sT
        walk_at "r"
        refine r_lc ?_
        walk_at "r"
        refine ⟨_, _, rfl, ⟨by decide, by decide, by decide, by decide⟩, fun D hD => ?_⟩
        refine it_range (fun i A => Same T A ∧ A D = some (.lst [])) ⟨Same.upd_new hD, upd_same⟩ (fun i A hi s => ?_) (fun A s => ?_)
        · obtain ⟨sA, dA⟩ := s
          have i7 : i < 7 := hi
          refine r_gname ⟨rfl, ?_⟩
          generalize hz2 : (2 : Int) + (i : Int) = z2
          have zb : 2 ≤ z2 ∧ z2 ≤ 8 := by omega
          have zm : [z2] ∈ menu := by
            have := in7 zb
            exact (small1 z2 this).2 (by have : prod [z2] = z2 := by unfold prod; simp
                                         omega)
          walk_at "r"
          refine ⟨by show 1 ≤ sizeLine; decide, fun u nu => ?_⟩
          have su := Same.upd_new (o := .lst [.int z2]) nu
          have gu : (upd A u (.lst [.int z2])) u = some (.lst ([z2].map V.int)) := upd_same
          generalize upd A u (.lst [.int z2]) = A2 at su gu ⊢
          walk_at "r"
          refine ⟨0, p, _, zS, rfl, hz, (spT.same sA).same su, .inl ⟨rfl, u, [z2], rfl, zm, .inl gu, fun A3 s3' l' A4 nl s4' gl' => ?_⟩⟩
          walk_at "r"
          refine r_strI (num_small z2 zb.1 zb.2) ?_
          walk_at "r"
          refine ⟨by show 2 ≤ sizeLine; decide, fun u2 nu2 => ?_⟩
          have su2 := Same.upd_new (o := .lst [.str "told", .str (lineOf [z2])]) nu2
          refine ⟨toldD (lineOf [z2]), toldD (lineOf [z2]), (told_dx (su2 _ _ gl')).plain _ _ (by rfl), (told_dx (H := upd A4 u2 (.lst [.str "told", .str (numStr z2)])) (s := lineOf [z2]) upd_same).plain _ _ (by rfl), (told_shaped z2 (in7 zb)).1, (told_shaped z2 (in7 zb)).1, ?_⟩
          rw [(told_shaped z2 (in7 zb)).2]
          walk_at "r"
          exact ⟨sA.trans (su.trans (s3'.trans (s4'.trans su2))), su2 _ _ (s4' _ _ (s3' _ _ (su _ _ dA)))⟩
        · obtain ⟨sA, dA⟩ := s
          walk_at "r"
          refine ⟨Nat.zero_le _, fun l2 hl2 => ?_⟩
          refine ⟨_, _, lst_dp (r := []) (Same.upd_new hl2 _ _ dA), lst_dp (r := []) upd_same, lst_shaped _, lst_shaped _, ?_⟩
          rw [lst_eqv, decide_eq_true rfl]
          have all : Same H0 (upd A l2 (.lst [])) := ((t0.trans sT).trans sA).trans (Same.upd_new hl2)
          exact k _ ((b0.same all).mono (by omega)) ((bt.trans bt0).trans (But.of all))
end
end Eld
set_option Elab.async false
set_option maxRecDepth 100000
set_option maxHeartbeats 4000000
set_option linter.all false
namespace Eld
open PySem L2
local macro_rules | `(tactic| walk_at "r1") => `(tactic| with_reducible first
  | refine r_seq ?_ | refine r_asgN ?_ | refine r_asg ?_ | refine r_gname ?_ | refine r_gsub ?_ | refine r_var rfl ?_ | refine r_c ?_ | refine r_op ?_ | refine r_un ?_ | refine r_u ?_ | refine r_i0 ?_ | refine r_cb ?_ | refine r_cons ?_ | refine r_nil ?_ | refine r_cl ?_ | refine r_fn rfl rfl ?_ | refine r_mt ?_
  | refine r_test ?_ | refine r_tb ?_ | refine r_bl ?_ | refine r_and ?_ | refine r_or ?_ | refine r_not ?_ | refine r_andV ?_ | refine r_orV ?_ | refine r_notV ?_ | refine r_ifX ?_ | refine r_ifs ?_ | refine r_chain ?_ | refine r_ret ?_ | refine r_next ?_ | refine r_drop ?_ | refine iteT ?_ | refine iteF ?_ | refine iteNT ?_ | refine iteNF ?_
  | refine r_int1 ?_ | refine r_boolB ?_ | refine r_eqI ?_ | refine r_neI ?_ | refine r_eqB ?_ | refine r_neB ?_ | refine r_eqS ?_ | refine r_neS ?_ | refine r_abs ?_ | refine r_max2 ?_ | refine r_min2 ?_ | refine r_yes ?_ | refine r_tup ?_ | refine r_sfld ?_ | refine r_m0 ?_ | refine r_m1 ?_ | refine r_lst ?_ | refine r_rng1 ?_ | refine r_rng2 ?_ | refine r_ixL (SqL.of (by assumption)) rfl ?_)
local macro_rules | `(tactic| walk_at "r") => `(tactic| repeat (first | walk_at "r1" | ((with_reducible refine r_var ?hv ?_); (case hv => rfl))))

theorem menu_many : ∀ zs ∈ menu, 2 ≤ (allRows zs).length ∧ (allRows zs).length ≤ 8 := by decide
theorem many_odd : ∀ N ∈ [2, 3, 4, 5, 6, 7, (8 : Nat)], (indexD (N : Nat) (.int (N : Nat)) = false ∧ showsT (zeroD 1 (.int (N : Nat))) = true) ∧ (indexD (N : Nat) (.int ((N : Nat) + 7)) = false ∧ showsT (zeroD 1 (.int ((N : Nat) + 7))) = true) ∧
    (indexD (N : Nat) (.int (0 - (N : Nat))) = false ∧ showsT (zeroD 1 (.int (0 - (N : Nat)))) = true) ∧ (indexD (N : Nat) (.int (-1)) = false ∧ showsT (zeroD 1 (.int (-1))) = true) ∧ (indexD (N : Nat) (.int (10 ^ (30 : Int).toNat)) = false ∧ showsT (zeroD 1 (.int (10 ^ (30 : Int).toNat))) = true) := by decide +kernel
def spStoresRight (C : Addr) : Sp := fun vs H Q _ => ∃ (p : Addr) (zS : List Int), vs = [.ref p, .int ((allRows zS).length : Nat)] ∧ zS ∈ menu ∧ SpaceAt C H p zS ∧ ∀ H', Same H H' → Q (.bl true) H'
section
variable {P : Program} {w : World} {K : PySem.W.Frag} {mg : Str → Option Value} {base : Heap} {C : Addr}
theorem ok_stores_right {f : Addr} {fd : FuncData} (F : Fun K "_law_stores_right" "_law_stores_right" s__law_stores_right f fd) (Z : Zs mg) (hM : ModsD base) (d__law_met : DefD P w K mg base 8 "_law_met" 3 [] byPlace (spMet C K)) : FnG P w K mg base CX0 9 f fd ["space", "many"] (spStoresRight C) := by
  refine okG F sc__law_stores_right (fun vs H Q E h => ?_) (fun cdv B up z H vs Q E hG hr h => ?_)
  · obtain ⟨p, zS, rfl, _⟩ := h
    rfl
  · have hu : (B.deeper (PyProof.Rows.envOfC "_law_stores_right" (defScope s__law_stores_right) z.heap.objs.size f cdv)).units + 64 < cLine := by have := hr.un; omega
    obtain ⟨p, zS, rfl, hz, sp, k⟩ := h
    obtain ⟨N2, N8⟩ := menu_many zS hz
    generalize hN : (allRows zS).length = N at N2 N8
    have nm : N ∈ [2, 3, 4, 5, 6, 7, (8 : Nat)] := by
      have : N = 2 ∨ N = 3 ∨ N = 4 ∨ N = 5 ∨ N = 6 ∨ N = 7 ∨ N = 8 := by omega
      rcases this with rfl | rfl | rfl | rfl | rfl | rfl | rfl <;> decide
    obtain ⟨c0, c2, c3, c1, c4⟩ := many_odd N nm
    refine ⟨_, (pss_cons (ps_for PassesOwn.never rfl (pi_list (pe_lst (pa_cons (pv 1) (pa_cons (pe_un un_neg pe_int) (pa_cons (pe_op op_add (pv 1) pe_int) (pa_cons (pe_op op_sub pe_int (pv 1)) (pa_cons (pe_op op_pow pe_int pe_int) (pa_cons pe_non (pa_cons pe_bl (pa_cons pe_bl (pa_cons pe_str (pa_cons pe_str (pa_cons (pe_lst (pa_cons pe_int pa_nil)) (pa_cons (pe_tup (pa_cons pe_int pa_nil)) (pa_cons (pe_lst pa_nil) (pa_cons pe_dnewK (pa_cons (pe_tup (pa_cons pe_int (pa_cons pe_int pa_nil))) pa_nil))))))))))))))))) (pg_name (i := 2) sc__law_stores_right.nd rfl (by first | exact Or.inl rfl | exact Or.inr rfl))
  (pss_one (ps_if (pt_cmpR op_ne (pe_callB (show CallR _ _ (rReprX K) from call_reprX hM hG hu) (by rfl) Z.repr_ (by decide +kernel) (pa_cons (pd_pos d__law_met hG hr (by decide) (by rfl) (pa_cons pe_int (pa_cons (pv 0) (pa_cons (pv 2) pa_nil)))) pa_nil)) (pe_callB (show CallR _ _ (rReprX K) from call_reprX hM hG hu) (by rfl) Z.repr_ (by decide +kernel) (pa_cons (pe_lst (pa_cons pe_int (pa_cons (pv 2) pa_nil))) pa_nil)) (nomark _)) (pss_one (ps_ret pe_bl)) pss_nil)))
  (pss_one (ps_ret (pe_cmpR (show OpR _ _ (rEqD K) from op_eqD hu) (pe_lc (own := [("store", 3)]) (tt := _) rfl sc__law_stores_right.nd (pi_range1 (by rfl) Z.range_ (pa_cons (pv 1) pa_nil)) (blkOk_by (N := ["space", "many", "odd", "store"]) (sc := defScope s__law_stores_right) (by decide +kernel)) (fun _ _ _ _ _ => (pg_name (i := 3) sc__law_stores_right.nd rfl (by first | exact Or.inl rfl | exact Or.inr rfl))) (fun _ _ _ _ _ => (pts_one (pt_cmpR op_ne (pe_ix (show IxR _ (rIxL K) from ix_list) (pd_pos d__law_met hG hr (by decide) (by rfl) (pa_cons pe_int (pa_cons (pv 0) (pa_cons (pv 3) pa_nil)))) pe_int (fun _ _ => rfl)) pe_str (nomark _)))) (fun _ _ _ _ _ => (pv 3))) (pe_lst pa_nil) (nomark _))))), ?_⟩
    refine r_seq ?_
    refine r_for ?_
    refine r_il ?_
    walk_at "r"
    refine r_i ⟨by decide, by decide, by decide⟩ ?_
    walk_at "r"
    refine ⟨by show 1 ≤ sizeLine; decide, fun l0 h0 => ?_⟩
    have s0 := Same.upd_new (o := .lst [.int 0]) h0
    have g0 : (upd H l0 (.lst [.int 0])) l0 = some (.lst [.int 0]) := upd_same
    generalize upd H l0 (.lst [.int 0]) = H1 at s0 g0 ⊢
    walk_at "r"
    refine ⟨by show 1 ≤ sizeLine; decide, fun l1 h1 => ?_⟩
    have s1 := Same.upd_new (o := .tup [.int 0]) h1
    have g1 : (upd H1 l1 (.tup [.int 0])) l1 = some (.tup [.int 0]) := upd_same
    generalize upd H1 l1 (.tup [.int 0]) = H2 at s1 g1 ⊢
    walk_at "r"
    refine ⟨by show 0 ≤ sizeLine; decide, fun l2 h2 => ?_⟩
    have s2 := Same.upd_new (o := .lst []) h2
    have g2 : (upd H2 l2 (.lst [])) l2 = some (.lst []) := upd_same
    generalize upd H2 l2 (.lst []) = H3 at s2 g2 ⊢
    walk_at "r"
    intro l3 h3
    have s3 := Same.upd_new (o := .dK []) h3
    have g3 : (upd H3 l3 (.dK [])) l3 = some (.dK []) := upd_same
    generalize upd H3 l3 (.dK []) = H4 at s3 g3 ⊢
    walk_at "r"
    refine ⟨by show 2 ≤ sizeLine; decide, fun l4 h4 => ?_⟩
    have s4 := Same.upd_new (o := .tup [.int 0, .int 0]) h4
    have g4 : (upd H4 l4 (.tup [.int 0, .int 0])) l4 = some (.tup [.int 0, .int 0]) := upd_same
    generalize upd H4 l4 (.tup [.int 0, .int 0]) = H5 at s4 g4 ⊢
    walk_at "r"
    refine ⟨by show 15 ≤ sizeLine; decide, fun y ny => ?_⟩
    have sl := Same.upd_new (o := .lst [.int (N : Nat), .int (-1), .int ((N : Nat) + 7), .int (0 - (N : Nat)), .int (10 ^ (30 : Int).toNat), .non, .bl true, .bl false, .str "0", .str "", .ref l0, .ref l1, .ref l2, .ref l3, .ref l4]) ny
    have gy : (upd H5 y (.lst [.int (N : Nat), .int (-1), .int ((N : Nat) + 7), .int (0 - (N : Nat)), .int (10 ^ (30 : Int).toNat), .non, .bl true, .bl false, .str "0", .str "", .ref l0, .ref l1, .ref l2, .ref l3, .ref l4])) y = some (.lst [.int (N : Nat), .int (-1), .int ((N : Nat) + 7), .int (0 - (N : Nat)), .int (10 ^ (30 : Int).toNat), .non, .bl true, .bl false, .str "0", .str "", .ref l0, .ref l1, .ref l2, .ref l3, .ref l4]) := upd_same
    generalize upd H5 y (.lst [.int (N : Nat), .int (-1), .int ((N : Nat) + 7), .int (0 - (N : Nat)), .int (10 ^ (30 : Int).toNat), .non, .bl true, .bl false, .str "0", .str "", .ref l0, .ref l1, .ref l2, .ref l3, .ref l4]) = HL at sl gy ⊢
    have t5 : Same H5 HL := sl
    have t4 : Same H4 HL := s4.trans t5
    have t3 : Same H3 HL := s3.trans t4
    have t2 : Same H2 HL := s2.trans t3
    have t1 : Same H1 HL := s1.trans t2
    have t0 : Same H HL := s0.trans t1
    have z0 := t1 _ _ g0
    have z1 := t2 _ _ g1
    have z2 := t3 _ _ g2
    have z3 := t4 _ _ g3
    have z4 := t5 _ _ g4
    have spL := sp.same t0
    have what : ∀ (j : Nat) (x : V), ([.int (N : Nat), .int (-1), .int ((N : Nat) + 7), .int (0 - (N : Nat)), .int (10 ^ (30 : Int).toNat), .non, .bl true, .bl false, .str "0", .str "", .ref l0, .ref l1, .ref l2, .ref l3, .ref l4] : List V)[j]? = some x → ∃ d, Dx K HL x d ∧ indexD (N : Nat) d = false ∧ showsT (zeroD 1 d) = true := by
      intro j x hx
      match j, hx with
      | 0, hx => cases hx; exact ⟨_, .int _, c0⟩
      | 1, hx => cases hx; exact ⟨_, .int _, c1⟩
      | 2, hx => cases hx; exact ⟨_, .int _, c2⟩
      | 3, hx => cases hx; exact ⟨_, .int _, c3⟩
      | 4, hx => cases hx; exact ⟨_, .int _, c4⟩
      | 5, hx => cases hx; exact ⟨_, .non, rfl, by decide +kernel⟩
      | 6, hx => cases hx; exact ⟨_, .bl _, rfl, by decide +kernel⟩
      | 7, hx => cases hx; exact ⟨_, .bl _, rfl, by decide +kernel⟩
      | 8, hx => cases hx; exact ⟨_, .str _, rfl, by decide +kernel⟩
      | 9, hx => cases hx; exact ⟨_, .str _, rfl, by decide +kernel⟩
      | 10, hx => cases hx; exact ⟨_, .lst z0 (.cons (.int _) .nil), rfl, by decide +kernel⟩
      | 11, hx => cases hx; exact ⟨_, .tup z1 (.cons (.int _) .nil), rfl, by decide +kernel⟩
      | 12, hx => cases hx; exact ⟨_, .lst z2 .nil, rfl, by decide +kernel⟩
      | 13, hx => cases hx; exact ⟨_, .emp z3, rfl, by decide +kernel⟩
      | 14, hx => cases hx; exact ⟨_, .tup z4 (.cons (.int _) (.cons (.int _) .nil)), rfl, by decide +kernel⟩
      | _ + 15, hx => cases hx
    refine ⟨y, rfl, ⟨_, SqL.of gy⟩, for_list (K := K) (a := y) (xs := [.int (N : Nat), .int (-1), .int ((N : Nat) + 7), .int (0 - (N : Nat)), .int (10 ^ (30 : Int).toNat), .non, .bl true, .bl false, .str "0", .str "", .ref l0, .ref l1, .ref l2, .ref l3, .ref l4]) (fun j τ T => ∃ v2 : Option V, τ = [some (.ref p), some (.int (N : Nat)), v2, none] ∧ Same HL T)
      ⟨_, rfl, Same.refl _⟩ (fun j τ T _ q => ?_) ?_ ?_⟩
    · obtain ⟨_, _, sT⟩ := q
      exact SqL.of (sT _ _ gy)
    · rintro j x τ T hx ⟨v2, rfl, sT⟩
      obtain ⟨d, hd, sd, sh⟩ := what j x hx
      have hdT := Dx.same sT _ _ hd
      walk_at "r"
      refine ⟨1, p, _, zS, rfl, hz, spL.same sT, .inr (.inr (.inr (.inl ⟨rfl, d, hdT, hN ▸ sd, fun A3 s3' l' A4 nl s4' gl' => ?_⟩)))⟩
      walk_at "r"
      refine r_reprX (zero_dx gl' (Dx.same (s3'.trans s4') _ _ hdT)) (.inr sh) ?_
      walk_at "r"
      refine ⟨by show 2 ≤ sizeLine; decide, fun u nu => ?_⟩
      have su := Same.upd_new (o := .lst [.int 1, x]) nu
      have gu : (upd A4 u (.lst [.int 1, x])) u = some (.lst [.int 1, x]) := upd_same
      generalize upd A4 u (.lst [.int 1, x]) = A5 at su gu ⊢
      walk_at "r"
      refine r_reprX (zero_dx gu (Dx.same ((s3'.trans s4').trans su) _ _ hdT)) (.inr sh) ?_
      walk_at "r"
      rw [decide_eq_true rfl]
      walk_at "r"
      exact ⟨_, rfl, sT.trans ((s3'.trans s4').trans su)⟩
    · rintro τ T ⟨v2, rfl, sT⟩
      have spT := spL.same sT
      walk_at "r"
      refine r_lc ?_
      walk_at "r"
      refine ⟨_, rfl, by omega, by omega, fun D hD => ?_⟩
      refine it_range (fun i A => Same T A ∧ A D = some (.lst [])) ⟨Same.upd_new hD, upd_same⟩ (fun i A hi s => ?_) (fun A s => ?_)
      · obtain ⟨sA, dA⟩ := s
        have iN : i < (allRows zS).length := by omega
        refine r_gname ⟨rfl, ?_⟩
        rw [Int.zero_add]
        walk_at "r"
        refine ⟨1, p, _, zS, rfl, hz, spT.same sA, .inr (.inr (.inl ⟨rfl, i, _, rfl, List.getElem?_eq_getElem iN, fun A3 t s3' ht l' A4 nl s4' gl' => ?_⟩))⟩
        walk_at "r"
        exact ⟨sA.trans (s3'.trans s4'), s4' _ _ (s3' _ _ dA)⟩
      · obtain ⟨sA, dA⟩ := s
        walk_at "r"
        refine ⟨Nat.zero_le _, fun l2 hl2 => ?_⟩
        refine ⟨_, _, lst_dp (r := []) (Same.upd_new hl2 _ _ dA), lst_dp (r := []) upd_same, lst_shaped _, lst_shaped _, ?_⟩
        rw [lst_eqv, decide_eq_true rfl]
        exact k _ (((t0.trans sT).trans sA).trans (Same.upd_new hl2))
end
end Eld
set_option Elab.async false
set_option maxRecDepth 100000
set_option maxHeartbeats 4000000
set_option linter.all false
namespace Eld
open PySem L2
local macro_rules | `(tactic| walk_at "r1") => `(tactic| with_reducible first
  | refine r_seq ?_ | refine r_asgN ?_ | refine r_asg ?_ | refine r_gname ?_ | refine r_gsub ?_ | refine r_var rfl ?_ | refine r_c ?_ | refine r_op ?_ | refine r_un ?_ | refine r_u ?_ | refine r_i0 ?_ | refine r_cb ?_ | refine r_cons ?_ | refine r_nil ?_ | refine r_cl ?_ | refine r_fn rfl rfl ?_ | refine r_mt ?_
  | refine r_test ?_ | refine r_tb ?_ | refine r_bl ?_ | refine r_and ?_ | refine r_or ?_ | refine r_not ?_ | refine r_andV ?_ | refine r_orV ?_ | refine r_notV ?_ | refine r_ifX ?_ | refine r_ifs ?_ | refine r_chain ?_ | refine r_ret ?_ | refine r_next ?_ | refine r_drop ?_ | refine iteT ?_ | refine iteF ?_ | refine iteNT ?_ | refine iteNF ?_
  | refine r_int1 ?_ | refine r_boolB ?_ | refine r_eqI ?_ | refine r_neI ?_ | refine r_eqB ?_ | refine r_neB ?_ | refine r_eqS ?_ | refine r_neS ?_ | refine r_abs ?_ | refine r_max2 ?_ | refine r_min2 ?_ | refine r_yes ?_ | refine r_tup ?_ | refine r_sfld ?_ | refine r_m0 ?_ | refine r_m1 ?_ | refine r_lst ?_ | refine r_rng1 ?_ | refine r_rng2 ?_ | refine r_ixL (SqL.of (by assumption)) rfl ?_)
local macro_rules | `(tactic| walk_at "r") => `(tactic| repeat (first | walk_at "r1" | ((with_reducible refine r_var ?hv ?_); (case hv => rfl))))

theorem grown_no : ∀ zs ∈ menu, valuesD zs (.list [.int 2, .str "a"]) = false := by decide +kernel
theorem grown_eq : ∀ way ∈ [0, 1, 2, (3 : Int)], SeqAt.shaped (.list [.int way, .list [.int 3, .str "a", .int 5]]) = true ∧ (!PyData.eqv (.list [.int way, .list [.int 3, .str "a", .int 5]]) (.list [.int way, .list [.int 3, .str "a", .int 5]])) = false := by decide +kernel
theorem met_bad {C : Addr} {K : PySem.W.Frag} {H : Hp} {Q : VK} {E : XK} {way : Int} {p : Addr} {v : V} {d : PyData} {zS : List Int} (hw : way ∈ [0, 1, 2, (3 : Int)]) (hz : zS ∈ menu) (sp : SpaceAt C H p zS) (dv : Dx K H v d) (n0 : sizesD d = false) (n1 : indexD ((allRows zS).length : Nat) d = false)
    (n2 : valuesD zS d = false) (n3 : tyD d ≠ "str") (k : ∀ H', Same H H' → outs Q H [.int way, v] H') : spMet C K [.int way, .ref p, v] H Q E := by
  refine ⟨way, p, v, zS, rfl, hz, sp, ?_⟩
  simp only [List.mem_cons, List.not_mem_nil, or_false] at hw
  rcases hw with rfl | rfl | rfl | rfl
  · exact .inr (.inl ⟨rfl, d, dv, n0, k⟩)
  · exact .inr (.inr (.inr (.inl ⟨rfl, d, dv, n1, k⟩)))
  · exact .inr (.inr (.inr (.inr (.inr (.inl ⟨rfl, d, dv, n2, k⟩)))))
  · exact .inr (.inr (.inr (.inr (.inr (.inr (.inr ⟨rfl, .inl ⟨d, dv, n3⟩, k⟩))))))
def spGrown (C : Addr) : Sp := fun vs H Q _ => ∃ (p : Addr) (zS : List Int), vs = [.ref p] ∧ zS ∈ menu ∧ SpaceAt C H p zS ∧ ∀ H', Same H H' → Q (.bl true) H'
section
variable {P : Program} {w : World} {K : PySem.W.Frag} {mg : Str → Option Value} {base : Heap} {C : Addr}
theorem ok_grown {f : Addr} {fd : FuncData} (F : Fun K "_law_grown_right" "_law_grown_right" s__law_grown_right f fd) (Z : Zs mg) (d__law_met : DefD P w K mg base 8 "_law_met" 3 [] byPlace (spMet C K)) : FnG P w K mg base CX0 9 f fd ["space"] (spGrown C) := by
  refine okG F sc__law_grown_right (fun vs H Q E h => ?_) (fun cdv B up z H vs Q E hG hr h => ?_)
  · obtain ⟨p, zS, rfl, _⟩ := h
    rfl
  · have hu : (B.deeper (PyProof.Rows.envOfC "_law_grown_right" (defScope s__law_grown_right) z.heap.objs.size f cdv)).units + 64 < cLine := by have := hr.un; omega
    obtain ⟨p, zS, rfl, hz, sp, k⟩ := h
    refine ⟨_, (pss_cons (ps_for PassesOwn.never rfl (pi_list (pe_lst (pa_cons pe_int (pa_cons pe_int (pa_cons pe_int (pa_cons pe_int pa_nil)))))) (pg_name (i := 1) sc__law_grown_right.nd rfl (by first | exact Or.inl rfl | exact Or.inr rfl))
  (pss_cons (ps_set (i := 2) sc__law_grown_right.nd rfl (by first | exact Or.inl rfl | exact Or.inr rfl) (pe_lst (pa_cons pe_int (pa_cons pe_str pa_nil))))
  (pss_cons (ps_set (i := 3) sc__law_grown_right.nd rfl (by first | exact Or.inl rfl | exact Or.inr rfl) (pd_pos d__law_met hG hr (by decide) (by rfl) (pa_cons (pv 1) (pa_cons (pv 0) (pa_cons (pv 2) pa_nil)))))
  (pss_cons (ps_asg pe_int (pg_sub (pv 2) pe_int set_list))
  (pss_cons (ps_expr (pe_bm PySem.F.plainAttrs_list PySem.F.slot_list_append PySem.F.type_list_append mt_append (pv 2) (pa_cons pe_int pa_nil)))
  (pss_one (ps_if (pt_cmpR (show OpR _ _ (rNeD K) from op_neD hu) (pv 3) (pe_lst (pa_cons (pv 1) (pa_cons (pe_lst (pa_cons pe_int (pa_cons pe_str (pa_cons pe_int pa_nil)))) pa_nil))) (nomark _)) (pss_one (ps_ret pe_bl)) pss_nil)))))))
  (pss_one (ps_ret pe_bl))), ?_⟩
    refine r_seq ?_
    refine r_for ?_
    refine r_il ?_
    walk_at "r"
    refine ⟨by show 4 ≤ sizeLine; decide, fun y ny => ?_⟩
    have sy := Same.upd_new (o := .lst [.int 0, .int 1, .int 2, .int 3]) ny
    have gy : (upd H y (.lst [.int 0, .int 1, .int 2, .int 3])) y = some (.lst ([0, 1, 2, (3 : Int)].map V.int)) := upd_same
    generalize upd H y (.lst [.int 0, .int 1, .int 2, .int 3]) = H1 at sy gy ⊢
    refine ⟨y, rfl, ⟨_, SqL.of gy⟩, for_list (K := K) (a := y) (xs := [0, 1, 2, (3 : Int)].map V.int) (fun j τ T => ∃ v1 v2 v3 : Option V, τ = [some (.ref p), v1, v2, v3] ∧ Same H1 T)
      ⟨_, _, _, rfl, Same.refl _⟩ (fun j τ T _ q => ?_) ?_ ?_⟩
    · obtain ⟨_, _, _, _, sT⟩ := q
      exact SqL.of (sT _ _ gy)
    · rintro j x τ T hx ⟨v1, v2, v3, rfl, sT⟩
      obtain ⟨way, hw, rfl⟩ := map_get hx
      have wm : way ∈ [0, 1, 2, (3 : Int)] := List.mem_of_getElem? hw
      have spT := (sp.same sy).same sT
      walk_at "r"
      refine ⟨by show 2 ≤ sizeLine; decide, fun g ng => ?_⟩
      have sg := Same.upd_new (o := .lst [.int 2, .str "a"]) ng
      have gg : (upd T g (.lst [.int 2, .str "a"])) g = some (.lst [.int 2, .str "a"]) := upd_same
      generalize upd T g (.lst [.int 2, .str "a"]) = T1 at sg gg ⊢
      have spT1 := spT.same sg
      have dg : Dx K T1 (.ref g) (.list [.int 2, .str "a"]) := .lst gg (.cons (.int _) (.cons (.str _) .nil))
      walk_at "r"

      refine met_bad wm hz spT1 dg (by decide +kernel) rfl (grown_no zS hz) (by decide) (fun T2 s2 l T3 nl s3 gl => ?_)
      have s13 := s2.trans s3
      have g3 := s13 _ _ gg
      have nlg : l ≠ g := fun e => by rw [e, gg] at nl; cases nl
      walk_at "r"
      refine r_setL g3 (j := 0) (by rfl) ?_
      walk_at "r"
      refine ⟨_, rfl, .inl ⟨rfl, _, SqL.of upd_same⟩, ?_⟩
      walk_at "r"
      refine ⟨g, _, .int 5, rfl, rfl, upd_same, by rw [sizeLine_eq]; show 2 < 16777216; decide, ?_⟩
      have keep : ∀ a o, a ≠ g → T3 a = some o → (upd (upd T3 g (.lst ([V.int 2, .str "a"].set 0 (.int 3)))) g (.lst ([V.int 2, .str "a"].set 0 (.int 3) ++ [.int 5]))) a = some o := fun a o na e => by
        rw [upd_ne na, upd_ne na]
        exact e
      have g5 : (upd (upd T3 g (.lst ([V.int 2, .str "a"].set 0 (.int 3)))) g (.lst ([V.int 2, .str "a"].set 0 (.int 3) ++ [.int 5]))) g = some (.lst [.int 3, .str "a", .int 5]) := upd_same
      generalize upd (upd T3 g (.lst ([V.int 2, .str "a"].set 0 (.int 3)))) g (.lst ([V.int 2, .str "a"].set 0 (.int 3) ++ [.int 5])) = T5 at keep g5 ⊢
      have gl5 := keep _ _ nlg gl
      walk_at "r"
      refine ⟨by show 3 ≤ sizeLine; decide, fun i1 n1 => ?_⟩
      have si := Same.upd_new (o := .lst [.int 3, .str "a", .int 5]) n1
      have gi : (upd T5 i1 (.lst [.int 3, .str "a", .int 5])) i1 = some (.lst [.int 3, .str "a", .int 5]) := upd_same
      generalize upd T5 i1 (.lst [.int 3, .str "a", .int 5]) = T6 at si gi ⊢
      walk_at "r"
      refine ⟨by show 2 ≤ sizeLine; decide, fun i2 n2 => ?_⟩
      have sj := Same.upd_new (o := .lst [.int way, .ref i1]) n2
      have gj : (upd T6 i2 (.lst [.int way, .ref i1])) i2 = some (.lst [.int way, .ref i1]) := upd_same
      generalize upd T6 i2 (.lst [.int way, .ref i1]) = T7 at sj gj ⊢
      have s57 := si.trans sj
      obtain ⟨q1, q2⟩ := grown_eq way wm
      refine ⟨.list [.int way, .list [.int 3, .str "a", .int 5]], .list [.int way, .list [.int 3, .str "a", .int 5]], .lst (SqL.of (s57 _ _ gl5)) (.cons (.int _) (.cons (.lst (SqL.of (s57 _ _ g5)) (.cons (.int _) (.cons (.str _) (.cons (.int _) .nil)))) .nil)),
        .lst (SqL.of gj) (.cons (.int _) (.cons (.lst (SqL.of (sj _ _ gi)) (.cons (.int _) (.cons (.str _) (.cons (.int _) .nil)))) .nil)), q1, q1, ?_⟩
      rw [q2]
      walk_at "r"
      exact ⟨_, _, _, rfl, fun a o e => s57 _ _ (keep _ _ (ne_of_none (sT _ _ e) ng) (s13 _ _ (sg _ _ (sT _ _ e))))⟩
    · rintro τ T ⟨v1, v2, v3, rfl, sT⟩
      walk_at "r"
      exact k T (sy.trans sT)
end
end Eld
set_option Elab.async false
set_option maxRecDepth 100000
set_option maxHeartbeats 4000000
set_option linter.all false
namespace Eld
open PySem L2
local macro_rules | `(tactic| walk_at "r1") => `(tactic| with_reducible first
  | refine r_seq ?_ | refine r_asgN ?_ | refine r_asg ?_ | refine r_gname ?_ | refine r_gsub ?_ | refine r_var rfl ?_ | refine r_c ?_ | refine r_op ?_ | refine r_un ?_ | refine r_u ?_ | refine r_i0 ?_ | refine r_cb ?_ | refine r_cons ?_ | refine r_nil ?_ | refine r_cl ?_ | refine r_fn rfl rfl ?_ | refine r_mt ?_
  | refine r_test ?_ | refine r_tb ?_ | refine r_bl ?_ | refine r_and ?_ | refine r_or ?_ | refine r_not ?_ | refine r_andV ?_ | refine r_orV ?_ | refine r_notV ?_ | refine r_ifX ?_ | refine r_ifs ?_ | refine r_chain ?_ | refine r_ret ?_ | refine r_next ?_ | refine r_drop ?_ | refine iteT ?_ | refine iteF ?_ | refine iteNT ?_ | refine iteNF ?_
  | refine r_int1 ?_ | refine r_boolB ?_ | refine r_eqI ?_ | refine r_neI ?_ | refine r_eqB ?_ | refine r_neB ?_ | refine r_eqS ?_ | refine r_neS ?_ | refine r_abs ?_ | refine r_max2 ?_ | refine r_min2 ?_ | refine r_yes ?_ | refine r_tup ?_ | refine r_sfld ?_ | refine r_m0 ?_ | refine r_m1 ?_ | refine r_lst ?_ | refine r_rng1 ?_ | refine r_rng2 ?_ | refine r_ixL (SqL.of (by assumption)) rfl ?_)
local macro_rules | `(tactic| walk_at "r") => `(tactic| repeat (first | walk_at "r1" | ((with_reducible refine r_var ?hv ?_); (case hv => rfl))))

/-! ## what is spoiled -/
def intsD (r : List Int) : List PyData := r.map PyData.int
def worthD (z : Int) : List PyData := [.int z, .int (-1), .none, .bool true, .str "0", .list [.int 0], .int (10 ^ (20 : Int).toNat), .tuple [.int 0]]
def putD (r : List Int) (a : Nat) (w : PyData) : List PyData := intsD (r.take a) ++ [w] ++ intsD (r.drop (a + 1))
def spoil1 (zs r : List Int) (a : Nat) : List PyData := (worthD (zs.getD a 0)).map fun w => .list (putD r a w)
def spoil2 (r : List Int) (a : Nat) : List PyData := [.list (intsD (r ++ [0])), .list (intsD (r.take a ++ r.drop (a + 1))), .list [.list (intsD r)], .list [], .none, .int 0, .str "0", .dict [], .bool true, .list (intsD (r ++ r))]
def spoil3 (zs r : List Int) (a : Nat) (t : Nat) : List PyData := [.tuple (putD r a ((worthD (zs.getD a 0)).getD t .none)), .tuple (intsD (r ++ [0]))]
def badD (zs : List Int) (d : PyData) : Bool := !valuesD zs d && (showsX (zeroD 2 d) || showsT (zeroD 2 d))
theorem bad_all : ∀ zs ∈ menu, ∀ r ∈ allRows zs, ∀ a ∈ [0, 1, (2 : Nat)], a < zs.length → ((spoil1 zs r a).all (badD zs) && (spoil2 r a).all (badD zs) && ([0, 1, 2, (3 : Nat)].all fun t => (spoil3 zs r a t).all (badD zs))) = true := by decide +kernel
theorem badD_of {zs : List Int} {d : PyData} (h : badD zs d = true) : valuesD zs d = false ∧ (showsX (zeroD 2 d) = true ∨ showsT (zeroD 2 d) = true) := by
  simp only [badD, Bool.and_eq_true, Bool.not_eq_true', Bool.or_eq_true] at h
  exact h
theorem menu_count : ∀ zs ∈ menu, prod zs = (((allRows zs).length : Nat) : Int) ∧ 0 < prod zs ∧ prod zs < 1000 := by decide +kernel
theorem menu_wide : ∀ zs ∈ menu, ∀ r ∈ allRows zs, r.length = zs.length := by decide
theorem ints_nb (zs : List Int) : ∀ g m c t, HO.lst (zs.map V.int) ≠ .lst [.int g, .bl t, .int m, .int c] := by
  intro g m c t e
  injection e with e
  match zs, e with
  | [], e => cases e
  | [_], e => cases e
  | _ :: _ :: _, e => simp at e
theorem cut_lo (xs : List V) (k : Nat) (h : k ≤ xs.length) : cutV xs none (some (k : Int)) = xs.take k := by
  unfold cutV
  rw [HT.sIx_none, HT.sIx_nat, Nat.min_eq_left h]
  simp
theorem cut_hi (xs : List V) (k : Nat) (h : k < xs.length) : cutV xs (some ((k : Int) + 1)) none = xs.drop (k + 1) := by
  unfold cutV
  have e : ((k : Int) + 1) = ((k + 1 : Nat) : Int) := by omega
  rw [e, HT.sIx_none, HT.sIx_nat, Nat.min_eq_left (show k + 1 ≤ xs.length by omega)]
  rw [List.take_of_length_le]
  rw [List.length_drop]
  omega
theorem r_sl {r : V → Option Int → Option Int → Hp → VK → Prop} {te : TE} {tl th : TO} {σ : L2.St} {H : Hp} {Q : VK} (h : te σ H fun x H1 => tl σ H1 fun l H2 => th σ H2 fun u H3 => r x l u H3 Q) : L2.tSl r te tl th σ H Q := h
theorem r_po0 {σ : L2.St} {H : Hp} {R : Option Int → Hp → Prop} (h : R none H) : tNoPart σ H R := h
theorem r_po1 {te : TE} {σ : L2.St} {H : Hp} {R : Option Int → Hp → Prop} (h : te σ H fun v H1 => ∃ i, v = .int i ∧ R (some i) H1) : tPart te σ H R := h
theorem r_slL {K : PySem.W.Frag} {a : Addr} {xs : List V} {lo hi : Option Int} {H : Hp} {Q : VK} (hx : SqL K H a xs) (h : ∀ p, H p = none → Q (.ref p) (upd H p (.lst (cutV xs lo hi)))) : rSlL K (.ref a) lo hi H Q := ⟨a, xs, rfl, hx, h⟩
def worthV (z : Int) (x0 x1 : Addr) : List V := [.int z, .int (-1), .non, .bl true, .str "0", .ref x0, .int (10 ^ (20 : Int).toNat), .ref x1]
def putV (r : List Int) (a : Nat) (w : V) : List V := (r.map V.int).take a ++ [w] ++ (r.map V.int).drop (a + 1)
theorem dx_app {K : PySem.W.Frag} {H : Hp} : ∀ {vs : List V} {ds : List PyData} {us : List V} {es : List PyData}, DxAll K H vs ds → DxAll K H us es → DxAll K H (vs ++ us) (ds ++ es)
  | _, _, _, _, .nil, h => h
  | _, _, _, _, .cons h r, h2 => .cons h (dx_app r h2)
theorem put_dx {K : PySem.W.Frag} {H : Hp} {x : V} {d : PyData} (r : List Int) (a : Nat) (h : Dx K H x d) : DxAll K H (putV r a x) (putD r a d) := by
  unfold putV putD intsD
  rw [← List.map_take, ← List.map_drop]
  exact dx_app (dx_app (ints_dx _) (.cons h .nil)) (ints_dx _)
theorem ints_dx1 {K : PySem.W.Frag} {H : Hp} (r : List Int) : DxAll K H (r.map V.int ++ [.int 0]) (intsD (r ++ [0])) := by
  unfold intsD
  rw [List.map_append]
  exact dx_app (ints_dx r) (.cons (.int _) .nil)
theorem ints_dx2 {K : PySem.W.Frag} {H : Hp} (r : List Int) : DxAll K H (r.map V.int ++ r.map V.int) (intsD (r ++ r)) := by
  unfold intsD
  rw [List.map_append]
  exact dx_app (ints_dx r) (ints_dx r)
theorem cut_dx {K : PySem.W.Frag} {H : Hp} (r : List Int) (a : Nat) : DxAll K H ((r.map V.int).take a ++ (r.map V.int).drop (a + 1)) (intsD (r.take a ++ r.drop (a + 1))) := by
  unfold intsD
  rw [← List.map_take, ← List.map_drop, List.map_append]
  exact dx_app (ints_dx _) (ints_dx _)
local macro_rules | `(tactic| walk_at "r1") => `(tactic| with_reducible first | refine r_clS ?_ | refine r_fnS rfl rfl ?_ | refine r_mtS ?_ | refine r_sl ?_ | refine r_po0 ?_ | refine r_po1 ?_)
def told2 (r : Nat) : PyData := .list [.str "told", .int (r : Nat)]
theorem told2_dx {K : PySem.W.Frag} {H : Hp} {l : Addr} {r : Nat} (e : H l = some (.lst [.str "told", .int (r : Nat)])) : Dx K H (.ref l) (told2 r) := .lst e (.cons (.str _) (.cons (.int _) .nil))
theorem told_num : ∀ r, r < 8 → SeqAt.shaped (told2 r) = true ∧ (!PyData.eqv (told2 r) (told2 r)) = false := by decide +kernel
def spValuesRight (C : Addr) : Sp := fun vs H Q _ => ∃ (b p s : Addr) (n : Nat) (zS : List Int), vs = [.ref b, .ref p, .ref s] ∧ zS ∈ menu ∧ BoxAt H b n ∧ n < 2000000 ∧ SpaceAt C H p zS ∧ H s = some (.lst (zS.map V.int)) ∧ ∀ H', BoxAt H' b (n + 20) → But b H H' → Q (.bl true) H'
section
variable {P : Program} {w : World} {K : PySem.W.Frag} {mg : Str → Option Value} {base : Heap} {C c1 c2 : Addr}
theorem ok_values_right {f : Addr} {fd : FuncData} (F : Fun K "_law_values_right" "_law_values_right" s__law_values_right f fd) (Z : Zs mg) (hM : ModsD base) (d__law_product : DefD P w K mg base 1 "_law_product" 1 [] byPlace spProduct) (d__law_take : DefD P w K mg base 1 "_law_take" 2 [] byPlace spTake)
    (m_at : MetX P w K mg base 3 C "at" 2 [] byPlace (spAtX C c1 K)) (m_store : MetX P w K mg base 4 C "store" 2 [] byPlace (spStoreX C c2 K)) (d__law_met : DefD P w K mg base 8 "_law_met" 3 [] byPlace (spMet C K)) : FnG P w K mg base CX0 9 f fd ["box", "space", "sizes"] (spValuesRight C) := by
  refine okG F sc__law_values_right (fun vs H Q E h => ?_) (fun cdv B up z H vs Q E hG hr h => ?_)
  · obtain ⟨b, p, s, n, zS, rfl, _⟩ := h
    rfl
  · have hu : (B.deeper (PyProof.Rows.envOfC "_law_values_right" (defScope s__law_values_right) z.heap.objs.size f cdv)).units + 64 < cLine := by have := hr.un; omega
    obtain ⟨b, p, s, n, zS, rfl, hz, hb, hn, sp, hs, k⟩ := h
    obtain ⟨z1, z3⟩ := menu_len zS hz
    obtain ⟨pc, p0, p9⟩ := menu_count zS hz
    refine ⟨_, (pss_cons (ps_set (i := 3) sc__law_values_right.nd rfl (by first | exact Or.inl rfl | exact Or.inr rfl) (pd_pos d__law_product hG hr (by decide) (by rfl) (pa_cons (pv 2) pa_nil)))
  (pss_cons (ps_for PassesOwn.never rfl (pi_range1 (by rfl) Z.range_ (pa_cons pe_int pa_nil)) (pg_name (i := 4) sc__law_values_right.nd rfl (by first | exact Or.inl rfl | exact Or.inr rfl))
  (pss_cons (ps_set (i := 5) sc__law_values_right.nd rfl (by first | exact Or.inl rfl | exact Or.inr rfl) (pe_callTy (show CallR _ _ (rListOf K) from c_list) (by rfl) Z.list_ (by decide +kernel) (pa_cons (pqX_pos m_at takes0 hG hr (by decide) (pv 1) (pa_cons (pd_pos d__law_take hG hr (by decide) (by rfl) (pa_cons (pv 0) (pa_cons (pv 3) pa_nil))) pa_nil)) pa_nil)))
  (pss_cons (ps_set (i := 6) sc__law_values_right.nd rfl (by first | exact Or.inl rfl | exact Or.inr rfl) (pd_pos d__law_take hG hr (by decide) (by rfl) (pa_cons (pv 0) (pa_cons (pe_callB (show CallR _ _ (rLen K) from c_len) (by rfl) Z.len_ (by decide +kernel) (pa_cons (pv 2) pa_nil)) pa_nil))))
  (pss_cons (ps_setLc (i := 7) (own := [("worth", 9)]) (tt := tYes) rfl sc__law_values_right.nd rfl rfl (sw_true rfl rfl rfl (by decide +kernel)) (pi_list (pe_lst (pa_cons (pe_ix (show IxR _ (rIxL K) from ix_list) (pv 2) (pv 6) (fun _ _ => rfl)) (pa_cons (pe_un un_neg pe_int) (pa_cons pe_non (pa_cons pe_bl (pa_cons pe_str (pa_cons (pe_lst (pa_cons pe_int pa_nil)) (pa_cons (pe_op op_pow pe_int pe_int) (pa_cons (pe_tup (pa_cons pe_int pa_nil)) pa_nil)))))))))) (blkOk_by (N := ["box", "space", "sizes", "many", "turn", "row", "at", "spoiled", "odd", "worth"]) (sc := defScope s__law_values_right) (by decide +kernel)) (fun _ _ _ _ _ => (pg_name (i := 9) sc__law_values_right.nd rfl (by first | exact Or.inl rfl | exact Or.inr rfl))) (fun _ _ _ _ _ => pts_nil) (fun _ _ _ _ _ => (pe_op op_cat (pe_op op_cat (pe_slice (show SlR _ (rSlL K) from sl_list) (pv 5) po_none (po_some (pv 6))) (pe_lst (pa_cons (pv 9) pa_nil))) (pe_slice (show SlR _ (rSlL K) from sl_list) (pv 5) (po_some (pe_op op_add (pv 6) pe_int)) po_none))))
  (pss_cons (ps_set (i := 7) sc__law_values_right.nd rfl (by first | exact Or.inl rfl | exact Or.inr rfl) (pe_op op_cat (pv 7) (pe_lst (pa_cons (pe_op op_cat (pv 5) (pe_lst (pa_cons pe_int pa_nil))) (pa_cons (pe_op op_cat (pe_slice (show SlR _ (rSlL K) from sl_list) (pv 5) po_none (po_some (pv 6))) (pe_slice (show SlR _ (rSlL K) from sl_list) (pv 5) (po_some (pe_op op_add (pv 6) pe_int)) po_none)) (pa_cons (pe_lst (pa_cons (pv 5) pa_nil)) (pa_cons (pe_lst pa_nil) (pa_cons pe_non (pa_cons pe_int (pa_cons pe_str (pa_cons pe_dnewK (pa_cons pe_bl (pa_cons (pe_op op_cat (pv 5) (pv 5)) pa_nil)))))))))))))
  (pss_cons (ps_for PassesOwn.never rfl (pi_list (pe_op op_cat (pv 7) (pe_lst (pa_cons (pe_callTy (show CallR _ _ (rTupleOf K) from c_tuple) (by rfl) Z.tuple_ (by decide +kernel) (pa_cons (pe_ix (show IxR _ (rIxL K) from ix_list) (pv 7) (pv 4) (fun _ _ => rfl)) pa_nil)) (pa_cons (pe_callTy (show CallR _ _ (rTupleOf K) from c_tuple) (by rfl) Z.tuple_ (by decide +kernel) (pa_cons (pe_ix (show IxR _ (rIxL K) from ix_list) (pv 7) pe_int (fun _ _ => rfl)) pa_nil)) pa_nil))))) (pg_name (i := 8) sc__law_values_right.nd rfl (by first | exact Or.inl rfl | exact Or.inr rfl))
  (pss_one (ps_if (pt_cmpR op_ne (pe_callB (show CallR _ _ (rReprX K) from call_reprX hM hG hu) (by rfl) Z.repr_ (by decide +kernel) (pa_cons (pd_pos d__law_met hG hr (by decide) (by rfl) (pa_cons pe_int (pa_cons (pv 1) (pa_cons (pv 8) pa_nil)))) pa_nil)) (pe_callB (show CallR _ _ (rReprX K) from call_reprX hM hG hu) (by rfl) Z.repr_ (by decide +kernel) (pa_cons (pe_lst (pa_cons pe_int (pa_cons (pv 8) pa_nil))) pa_nil)) (nomark _)) (pss_one (ps_ret pe_bl)) pss_nil)))
  (pss_cons (ps_if (PW.pt (pw_or (pt_cmpR (show OpR _ _ (rNeD K) from op_neD hu) (pd_pos d__law_met hG hr (by decide) (by rfl) (pa_cons pe_int (pa_cons (pv 1) (pa_cons (pv 5) pa_nil)))) (pd_pos d__law_met hG hr (by decide) (by rfl) (pa_cons pe_int (pa_cons (pv 1) (pa_cons (pe_callTy (show CallR _ _ (rTupleOf K) from c_tuple) (by rfl) Z.tuple_ (by decide +kernel) (pa_cons (pv 5) pa_nil)) pa_nil)))) (nomark _)) (pw_or1 (pt_cmpR op_ne (pe_ix (show IxR _ (rIxL K) from ix_list) (pd_pos d__law_met hG hr (by decide) (by rfl) (pa_cons pe_int (pa_cons (pv 1) (pa_cons (pv 5) pa_nil)))) pe_int (fun _ _ => rfl)) pe_str (nomark _))))) (pss_one (ps_ret pe_bl)) pss_nil)
  (pss_one (ps_if (pt_cmpR (show OpR _ _ (rNeD K) from op_neD hu) (pqX_pos m_at takes0 hG hr (by decide) (pv 1) (pa_cons (pqX_pos m_store takes0 hG hr (by decide) (pv 1) (pa_cons (pv 5) pa_nil)) pa_nil)) (pe_callTy (show CallR _ _ (rTupleOf K) from c_tuple) (by rfl) Z.tuple_ (by decide +kernel) (pa_cons (pv 5) pa_nil)) (nomark _)) (pss_one (ps_ret pe_bl)) pss_nil)))))))))
  (pss_one (ps_ret pe_bl)))), ?_⟩
    walk_at "r"
    refine ⟨s, zS, rfl, hs, fun i => ?_, ?_⟩
    · by_cases c : i < 4
      · exact menu_part zS hz i c
      · have := menu_part zS hz 3 (by decide)
        rw [List.take_of_length_le (show zS.length ≤ i by omega)]
        rw [List.take_of_length_le (show zS.length ≤ 3 by omega)] at this
        exact this
    walk_at "r"
    with_reducible refine r_for ?_
    walk_at "r"
    refine ⟨_, rfl, by decide, by decide, ?_⟩
    refine for_range (fun i τ G => ∃ v4 v5 v6 v7 v8 : Option V, τ = [some (.ref b), some (.ref p), some (.ref s), some (.int (prod zS)), v4, v5, v6, v7, v8, none] ∧ BoxAt G b (n + 2 * i) ∧ But b H G) ⟨none, none, none, none, none, rfl, hb, But.refl H⟩ ?_ ?_
    · rintro i τ G hi ⟨v4, v5, v6, v7, v8, rfl, bG, bt⟩
      have i4 : i < 4 := hi
      have spG := sp.but hb bt
      have gs := bt _ _ (hb.ne hs (ints_nb zS)) hs
      obtain ⟨dx, tz, q, ts, q1, q2, q3, q4⟩ := spG
      have spG : SpaceAt C G p zS := ⟨dx, tz, q, ts, q1, q2, q3, q4⟩
      walk_at "r"
      refine ⟨p, dx, _, rfl, q1, spF_no _ _ _ (by decide +kernel) (by decide +kernel) (by decide +kernel), ?_⟩
      walk_at "r"
      refine ⟨b, _, _, rfl, bG, by omega, p0, by omega, fun r G1 r0 r1 b1 bt1 => ?_⟩
      obtain ⟨r, rfl⟩ := Int.eq_ofNat_of_zero_le r0
      have rl : r < (allRows zS).length := by omega
      generalize hrow : (allRows zS)[r] = row
      have rrow : (allRows zS)[r]? = some row := by rw [← hrow]; exact List.getElem?_eq_getElem rl
      have mrow : row ∈ allRows zS := List.mem_of_getElem? rrow
      have wrow := menu_wide zS hz row mrow
      walk_at "r"
      refine ⟨p, _, zS, rfl, spG.but bG bt1, .inl ⟨r, row, rfl, rrow, fun t ht => ?_⟩⟩
      walk_at "r"
      refine r_listT (SqT.of ht) fun l nl => ?_
      have s2 := Same.upd_new (o := .lst (row.map V.int)) nl
      have g2 : (upd G1 l (.lst (row.map V.int))) l = some (.lst (row.map V.int)) := upd_same
      generalize upd G1 l (.lst (row.map V.int)) = G2 at s2 g2 ⊢
      have gs2 := s2 _ _ (bt1 _ _ (bG.ne gs (ints_nb zS)) gs)
      walk_at "r"
      refine r_lenL (SqL.of gs2) ?_
      rw [List.length_map]
      walk_at "r"
      refine ⟨b, _, _, rfl, b1.same s2, by omega, by omega, by omega, fun a G3 a0 a1 b3 bt3 => ?_⟩
      obtain ⟨a, rfl⟩ := Int.eq_ofNat_of_zero_le a0
      have al : a < zS.length := by omega
      have g3 := bt3 _ _ ((b1.same s2).ne g2 (ints_nb row)) g2
      have gs3 := bt3 _ _ ((b1.same s2).ne gs2 (ints_nb zS)) gs2
      have sp3 : SpaceAt C G3 p zS := ((spG.but bG bt1).same s2).but (b1.same s2) bt3
      have bt03 : But b H G3 := ((bt.trans bt1).trans (But.of s2)).trans bt3
      walk_at "r"
      refine r_lc ?_
      refine r_il ?_
      walk_at "r"
      have zat : zS[a]? = some (zS[a]'al) := List.getElem?_eq_getElem al
      have zgd : zS.getD a 0 = zS[a]'al := getD_of zat
      generalize zS[a]'al = za at zat zgd
      refine r_ixL (SqL.of gs3) (atI_nat (v := .int za) (by rw [List.getElem?_map, zat]; rfl)) ?_
      walk_at "r"
      refine ⟨by show 1 ≤ sizeLine; decide, fun x0 n0 => ?_⟩
      have s4 := Same.upd_new (o := .lst [.int 0]) n0
      have g4 : (upd G3 x0 (.lst [.int 0])) x0 = some (.lst [.int 0]) := upd_same
      generalize upd G3 x0 (.lst [.int 0]) = G4 at s4 g4 ⊢
      walk_at "r"
      refine r_i ⟨by decide, by decide, by decide⟩ ?_
      walk_at "r"
      refine ⟨by show 1 ≤ sizeLine; decide, fun x1 n1 => ?_⟩
      have s5 := Same.upd_new (o := .tup [.int 0]) n1
      have g5 : (upd G4 x1 (.tup [.int 0])) x1 = some (.tup [.int 0]) := upd_same
      generalize upd G4 x1 (.tup [.int 0]) = G5 at s5 g5 ⊢
      walk_at "r"
      refine ⟨by show 8 ≤ sizeLine; decide, fun y ny => ?_⟩
      have s6 := Same.upd_new (o := .lst (worthV za x0 x1)) ny
      have g6 : (upd G5 y (.lst (worthV za x0 x1))) y = some (.lst (worthV za x0 x1)) := upd_same
      unfold worthV at s6 g6
      generalize upd G5 y (.lst [.int za, .int (-1), .non, .bl true, .str "0", .ref x0, .int (10 ^ (20 : Int).toNat), .ref x1]) = G6 at s6 g6 ⊢
      have s36 : Same G3 G6 := (s4.trans s5).trans s6
      have l6 := s36 _ _ g3
      have w0 : G6 x0 = some (.lst [.int 0]) := s6 _ _ (s5 _ _ g4)
      have w1 : G6 x1 = some (.tup [.int 0]) := s6 _ _ g5
      refine ⟨y, rfl, ⟨_, SqL.of g6⟩, fun D hD => ?_⟩
      refine it_list (xs := worthV za x0 x1) (fun i A => Same G6 A ∧ ∃ ls : List Addr, ls.length = i ∧ A D = some (.lst (ls.map V.ref)) ∧ (∀ l' ∈ ls, G6 l' = none ∧ l' ≠ D) ∧ ∀ (j : Nat) l' w', ls[j]? = some l' → (worthV za x0 x1)[j]? = some w' → A l' = some (.lst (putV row a w')))
        ⟨Same.upd_new hD, [], rfl, upd_same, (fun _ e => by cases e), (fun _ _ _ e => by cases e)⟩ (fun i A _ p => SqL.of (p.1 _ _ g6)) (fun i x A hx p => ?_) (fun A p => ?_)
      · obtain ⟨sA, ls, hl, dA, hn, hv⟩ := p
        have i8 : i < 8 := (List.getElem?_eq_some_iff.mp hx).1
        have lA := sA _ _ l6
        refine r_gname ⟨rfl, ?_⟩
        walk_at "r"
        refine ⟨_, rfl, ?_⟩
        refine r_slL (SqL.of lA) fun t1 m1 => ?_
        rw [cut_lo _ _ (by rw [List.length_map]; omega)]
        have u1 := Same.upd_new (o := .lst ((row.map V.int).take a)) m1
        have e1 : (upd A t1 (.lst ((row.map V.int).take a))) t1 = some (.lst ((row.map V.int).take a)) := upd_same
        generalize upd A t1 (.lst ((row.map V.int).take a)) = A1 at u1 e1 ⊢
        walk_at "r"
        refine ⟨by show 1 ≤ sizeLine; decide, fun t2 m2 => ?_⟩
        have u2 := Same.upd_new (o := .lst [x]) m2
        have e2 : (upd A1 t2 (.lst [x])) t2 = some (.lst [x]) := upd_same
        generalize upd A1 t2 (.lst [x]) = A2 at u2 e2 ⊢
        refine ⟨t1, t2, _, _, rfl, rfl, u2 _ _ e1, e2, by rw [List.length_take, List.length_map, sizeLine_eq]; show min a row.length + 1 ≤ 16777216; omega, fun t3 m3 => ?_⟩
        have u3 := Same.upd_new (o := .lst ((row.map V.int).take a ++ [x])) m3
        have e3 : (upd A2 t3 (.lst ((row.map V.int).take a ++ [x]))) t3 = some (.lst ((row.map V.int).take a ++ [x])) := upd_same
        generalize upd A2 t3 (.lst ((row.map V.int).take a ++ [x])) = A3 at u3 e3 ⊢
        walk_at "r"
        refine ⟨_, rfl, ?_⟩
        walk_at "r"
        refine r_slL (SqL.of (u3 _ _ (u2 _ _ (u1 _ _ lA)))) fun t4 m4 => ?_
        rw [cut_hi _ _ (by rw [List.length_map]; omega)]
        have u4 := Same.upd_new (o := .lst ((row.map V.int).drop (a + 1))) m4
        have e4 : (upd A3 t4 (.lst ((row.map V.int).drop (a + 1)))) t4 = some (.lst ((row.map V.int).drop (a + 1))) := upd_same
        generalize upd A3 t4 (.lst ((row.map V.int).drop (a + 1))) = A4 at u4 e4 ⊢
        refine ⟨t3, t4, _, _, rfl, rfl, u4 _ _ e3, e4, by rw [List.length_append, List.length_take, List.length_drop, List.length_map, sizeLine_eq]; show min a row.length + 1 + _ ≤ 16777216; omega, fun t5 m5 => ?_⟩
        have u5 := Same.upd_new (o := .lst (putV row a x)) m5
        have e5 : (upd A4 t5 (.lst (putV row a x))) t5 = some (.lst (putV row a x)) := upd_same
        unfold putV at u5 e5
        generalize upd A4 t5 (.lst ((row.map V.int).take a ++ [x] ++ (row.map V.int).drop (a + 1))) = A5 at u5 e5 ⊢
        have u15 : Same A A5 := (((u1.trans u2).trans u3).trans u4).trans u5
        have m5A : A t5 = none := ((((u1.trans u2).trans u3).trans u4)).free m5
        have hD' : t5 ≠ D := fun e => by rw [e, dA] at m5A; cases m5A
        refine ⟨ls.map V.ref, u15 _ _ dA, by rw [List.length_map, sizeLine_eq]; omega, Same.over (sA.trans u15) hD, ls ++ [t5], by rw [List.length_append, hl]; rfl, by rw [upd_same, List.map_append]; rfl, ?_, ?_⟩
        · intro l' m'
          rcases List.mem_append.mp m' with m' | m'
          · exact hn l' m'
          · obtain rfl := List.mem_singleton.mp m'
            exact ⟨sA.free m5A, hD'⟩
        · intro j l' w' ea eb
          by_cases c : j < ls.length
          · rw [List.getElem?_append_left c] at ea
            rw [upd_ne (hn l' (List.mem_of_getElem? ea)).2]
            exact u15 _ _ (hv j l' w' ea eb)
          · have cj : j = i := by
              have := (List.getElem?_eq_some_iff.mp ea).1
              rw [List.length_append] at this
              simp at this
              omega
            subst cj
            rw [hx] at eb
            cases eb
            rw [List.getElem?_append_right (by omega), hl, Nat.sub_self] at ea
            cases ea
            rw [upd_ne hD']
            exact e5
      obtain ⟨sA, ls, hl, dA, hn, hv⟩ := p
      have hl8 : ls.length = 8 := hl
      match ls, hl8 with
      | [h0, h1, h2, h3, h4, h5, h6, h7], _ =>
      have v0_ : A h0 = some (.lst (putV row a (.int za))) := hv 0 h0 _ rfl rfl
      have v1_ : A h1 = some (.lst (putV row a (.int (-1)))) := hv 1 h1 _ rfl rfl
      have v2_ : A h2 = some (.lst (putV row a (.non))) := hv 2 h2 _ rfl rfl
      have v3_ : A h3 = some (.lst (putV row a (.bl true))) := hv 3 h3 _ rfl rfl
      have v4_ : A h4 = some (.lst (putV row a (.str "0"))) := hv 4 h4 _ rfl rfl
      have v5_ : A h5 = some (.lst (putV row a (.ref x0))) := hv 5 h5 _ rfl rfl
      have v6_ : A h6 = some (.lst (putV row a (.int (10 ^ (20 : Int).toNat)))) := hv 6 h6 _ rfl rfl
      have v7_ : A h7 = some (.lst (putV row a (.ref x1))) := hv 7 h7 _ rfl rfl
      have dA : A D = some (.lst [.ref h0, .ref h1, .ref h2, .ref h3, .ref h4, .ref h5, .ref h6, .ref h7]) := dA
      clear hv hn
      have lA : A l = some (.lst (row.map V.int)) := sA _ _ l6
      have rl3 : row.length ≤ 3 := by omega
      walk_at "r"
      refine ⟨by show 1 ≤ sizeLine; decide, fun y0 m0 => ?_⟩
      have u0 := Same.upd_new (o := .lst [.int 0]) m0
      have e0 : (upd A y0 (.lst [.int 0])) y0 = some (.lst [.int 0]) := upd_same
      generalize upd A y0 (.lst [.int 0]) = B0 at u0 e0 ⊢
      refine ⟨l, y0, _, _, rfl, rfl, (u0 _ _ lA), e0, by rw [List.length_map, sizeLine_eq]; show row.length + 1 ≤ 16777216; omega, fun y1 m1 => ?_⟩
      have u1 := Same.upd_new (o := .lst ((row.map V.int) ++ [.int 0])) m1
      have e1 : (upd B0 y1 (.lst ((row.map V.int) ++ [.int 0]))) y1 = some (.lst ((row.map V.int) ++ [.int 0])) := upd_same
      generalize upd B0 y1 (.lst ((row.map V.int) ++ [.int 0])) = B1 at u1 e1 ⊢
      walk_at "r"
      refine ⟨_, rfl, ?_⟩
      refine r_slL (SqL.of (u1 _ _ (u0 _ _ lA))) fun y2 m2 => ?_
      rw [cut_lo _ _ (by rw [List.length_map]; omega)]
      have u2 := Same.upd_new (o := .lst ((row.map V.int).take a)) m2
      have e2 : (upd B1 y2 (.lst ((row.map V.int).take a))) y2 = some (.lst ((row.map V.int).take a)) := upd_same
      generalize upd B1 y2 (.lst ((row.map V.int).take a)) = B2 at u2 e2 ⊢
      walk_at "r"
      refine ⟨_, rfl, ?_⟩
      walk_at "r"
      refine r_slL (SqL.of (u2 _ _ (u1 _ _ (u0 _ _ lA)))) fun y3 m3 => ?_
      rw [cut_hi _ _ (by rw [List.length_map]; omega)]
      have u3 := Same.upd_new (o := .lst ((row.map V.int).drop (a + 1))) m3
      have e3 : (upd B2 y3 (.lst ((row.map V.int).drop (a + 1)))) y3 = some (.lst ((row.map V.int).drop (a + 1))) := upd_same
      generalize upd B2 y3 (.lst ((row.map V.int).drop (a + 1))) = B3 at u3 e3 ⊢
      refine ⟨y2, y3, _, _, rfl, rfl, (u3 _ _ e2), e3, by rw [List.length_take, List.length_drop, List.length_map, sizeLine_eq]; omega, fun y4 m4 => ?_⟩
      have u4 := Same.upd_new (o := .lst ((row.map V.int).take a ++ (row.map V.int).drop (a + 1))) m4
      have e4 : (upd B3 y4 (.lst ((row.map V.int).take a ++ (row.map V.int).drop (a + 1)))) y4 = some (.lst ((row.map V.int).take a ++ (row.map V.int).drop (a + 1))) := upd_same
      generalize upd B3 y4 (.lst ((row.map V.int).take a ++ (row.map V.int).drop (a + 1))) = B4 at u4 e4 ⊢
      walk_at "r"
      refine ⟨by show 1 ≤ sizeLine; decide, fun y5 m5 => ?_⟩
      have u5 := Same.upd_new (o := .lst [.ref l]) m5
      have e5 : (upd B4 y5 (.lst [.ref l])) y5 = some (.lst [.ref l]) := upd_same
      generalize upd B4 y5 (.lst [.ref l]) = B5 at u5 e5 ⊢
      walk_at "r"
      refine ⟨by show 0 ≤ sizeLine; decide, fun y6 m6 => ?_⟩
      have u6 := Same.upd_new (o := .lst []) m6
      have e6 : (upd B5 y6 (.lst [])) y6 = some (.lst []) := upd_same
      generalize upd B5 y6 (.lst []) = B6 at u6 e6 ⊢
      walk_at "r"
      intro y7 m7
      have u7 := Same.upd_new (o := .dK []) m7
      have e7 : (upd B6 y7 (.dK [])) y7 = some (.dK []) := upd_same
      generalize upd B6 y7 (.dK []) = B7 at u7 e7 ⊢
      walk_at "r"
      refine ⟨l, l, _, _, rfl, rfl, (u7 _ _ (u6 _ _ (u5 _ _ (u4 _ _ (u3 _ _ (u2 _ _ (u1 _ _ (u0 _ _ lA)))))))), (u7 _ _ (u6 _ _ (u5 _ _ (u4 _ _ (u3 _ _ (u2 _ _ (u1 _ _ (u0 _ _ lA)))))))), by rw [List.length_map, sizeLine_eq]; omega, fun y8 m8 => ?_⟩
      have u8 := Same.upd_new (o := .lst ((row.map V.int) ++ (row.map V.int))) m8
      have e8 : (upd B7 y8 (.lst ((row.map V.int) ++ (row.map V.int)))) y8 = some (.lst ((row.map V.int) ++ (row.map V.int))) := upd_same
      generalize upd B7 y8 (.lst ((row.map V.int) ++ (row.map V.int))) = B8 at u8 e8 ⊢
      walk_at "r"
      refine ⟨by show 10 ≤ sizeLine; decide, fun y9 m9 => ?_⟩
      have u9 := Same.upd_new (o := .lst [.ref y1, .ref y4, .ref y5, .ref y6, .non, .int 0, .str "0", .ref y7, .bl true, .ref y8]) m9
      have e9 : (upd B8 y9 (.lst [.ref y1, .ref y4, .ref y5, .ref y6, .non, .int 0, .str "0", .ref y7, .bl true, .ref y8])) y9 = some (.lst [.ref y1, .ref y4, .ref y5, .ref y6, .non, .int 0, .str "0", .ref y7, .bl true, .ref y8]) := upd_same
      generalize upd B8 y9 (.lst [.ref y1, .ref y4, .ref y5, .ref y6, .non, .int 0, .str "0", .ref y7, .bl true, .ref y8]) = B9 at u9 e9 ⊢
      refine ⟨D, y9, _, _, rfl, rfl, (u9 _ _ (u8 _ _ (u7 _ _ (u6 _ _ (u5 _ _ (u4 _ _ (u3 _ _ (u2 _ _ (u1 _ _ (u0 _ _ dA)))))))))), e9, by rw [sizeLine_eq]; show 8 + 10 ≤ 16777216; decide, fun y10 m10 => ?_⟩
      have u10 := Same.upd_new (o := .lst ([.ref h0, .ref h1, .ref h2, .ref h3, .ref h4, .ref h5, .ref h6, .ref h7] ++ [.ref y1, .ref y4, .ref y5, .ref y6, .non, .int 0, .str "0", .ref y7, .bl true, .ref y8])) m10
      have e10 : (upd B9 y10 (.lst ([.ref h0, .ref h1, .ref h2, .ref h3, .ref h4, .ref h5, .ref h6, .ref h7] ++ [.ref y1, .ref y4, .ref y5, .ref y6, .non, .int 0, .str "0", .ref y7, .bl true, .ref y8]))) y10 = some (.lst ([.ref h0, .ref h1, .ref h2, .ref h3, .ref h4, .ref h5, .ref h6, .ref h7] ++ [.ref y1, .ref y4, .ref y5, .ref y6, .non, .int 0, .str "0", .ref y7, .bl true, .ref y8])) := upd_same
      generalize upd B9 y10 (.lst ([.ref h0, .ref h1, .ref h2, .ref h3, .ref h4, .ref h5, .ref h6, .ref h7] ++ [.ref y1, .ref y4, .ref y5, .ref y6, .non, .int 0, .str "0", .ref y7, .bl true, .ref y8])) = B10 at u10 e10 ⊢
      walk_at "r"
      with_reducible refine r_for ?_
      refine r_il ?_
      walk_at "r"
      have e10 : B10 y10 = some (.lst [.ref h0, .ref h1, .ref h2, .ref h3, .ref h4, .ref h5, .ref h6, .ref h7, .ref y1, .ref y4, .ref y5, .ref y6, .non, .int 0, .str "0", .ref y7, .bl true, .ref y8]) := e10
      have hsel : ∃ (ht : Addr) (wt : V) (dt : PyData), ([.ref h0, .ref h1, .ref h2, .ref h3, .ref h4, .ref h5, .ref h6, .ref h7, .ref y1, .ref y4, .ref y5, .ref y6, .non, .int 0, .str "0", .ref y7, .bl true, .ref y8] : List V)[i]? = some (.ref ht) ∧ B10 ht = some (.lst (putV row a wt)) ∧ Dx K B10 wt dt ∧ (worthD za).getD i .none = dt := by
        obtain rfl | rfl | rfl | rfl : i = 0 ∨ i = 1 ∨ i = 2 ∨ i = 3 := by omega
        · exact ⟨h0, _, _, rfl, (u10 _ _ (u9 _ _ (u8 _ _ (u7 _ _ (u6 _ _ (u5 _ _ (u4 _ _ (u3 _ _ (u2 _ _ (u1 _ _ (u0 _ _ v0_))))))))))), .int _, rfl⟩
        · exact ⟨h1, _, _, rfl, (u10 _ _ (u9 _ _ (u8 _ _ (u7 _ _ (u6 _ _ (u5 _ _ (u4 _ _ (u3 _ _ (u2 _ _ (u1 _ _ (u0 _ _ v1_))))))))))), .int _, rfl⟩
        · exact ⟨h2, _, _, rfl, (u10 _ _ (u9 _ _ (u8 _ _ (u7 _ _ (u6 _ _ (u5 _ _ (u4 _ _ (u3 _ _ (u2 _ _ (u1 _ _ (u0 _ _ v2_))))))))))), .non, rfl⟩
        · exact ⟨h3, _, _, rfl, (u10 _ _ (u9 _ _ (u8 _ _ (u7 _ _ (u6 _ _ (u5 _ _ (u4 _ _ (u3 _ _ (u2 _ _ (u1 _ _ (u0 _ _ v3_))))))))))), .bl _, rfl⟩
      obtain ⟨ht, wt, dt, hti, htv, htd, hte⟩ := hsel
      refine r_ixL (SqL.of e10) (by rw [Int.zero_add]; exact atI_nat hti) ?_
      walk_at "r"
      refine r_tupleAny (.inl htv) fun t1 B11 u11 e11 => ?_
      walk_at "r"
      refine r_ixL (SqL.of (u11 _ _ e10)) rfl ?_
      walk_at "r"
      refine r_tupleAny (.inl (u11 _ _ (u10 _ _ (u9 _ _ (u8 _ _ (u7 _ _ (u6 _ _ (u5 _ _ (u4 _ _ (u3 _ _ (u2 _ _ e1))))))))))) fun t2 B12 u12 e12 => ?_
      walk_at "r"
      refine ⟨by show 2 ≤ sizeLine; decide, fun y13 m13 => ?_⟩
      have u13 := Same.upd_new (o := .lst [.ref t1, .ref t2]) m13
      have e13 : (upd B12 y13 (.lst [.ref t1, .ref t2])) y13 = some (.lst [.ref t1, .ref t2]) := upd_same
      generalize upd B12 y13 (.lst [.ref t1, .ref t2]) = B13 at u13 e13 ⊢
      refine ⟨y10, y13, _, _, rfl, rfl, (u13 _ _ (u12 _ _ (u11 _ _ e10))), e13, by rw [sizeLine_eq]; show 18 + 2 ≤ 16777216; decide, fun y14 m14 => ?_⟩
      have u14 := Same.upd_new (o := .lst ([.ref h0, .ref h1, .ref h2, .ref h3, .ref h4, .ref h5, .ref h6, .ref h7, .ref y1, .ref y4, .ref y5, .ref y6, .non, .int 0, .str "0", .ref y7, .bl true, .ref y8] ++ [.ref t1, .ref t2])) m14
      have e14 : (upd B13 y14 (.lst ([.ref h0, .ref h1, .ref h2, .ref h3, .ref h4, .ref h5, .ref h6, .ref h7, .ref y1, .ref y4, .ref y5, .ref y6, .non, .int 0, .str "0", .ref y7, .bl true, .ref y8] ++ [.ref t1, .ref t2]))) y14 = some (.lst ([.ref h0, .ref h1, .ref h2, .ref h3, .ref h4, .ref h5, .ref h6, .ref h7, .ref y1, .ref y4, .ref y5, .ref y6, .non, .int 0, .str "0", .ref y7, .bl true, .ref y8] ++ [.ref t1, .ref t2])) := upd_same
      generalize upd B13 y14 (.lst ([.ref h0, .ref h1, .ref h2, .ref h3, .ref h4, .ref h5, .ref h6, .ref h7, .ref y1, .ref y4, .ref y5, .ref y6, .non, .int 0, .str "0", .ref y7, .bl true, .ref y8] ++ [.ref t1, .ref t2])) = B14 at u14 e14 ⊢
      have e14 : B14 y14 = some (.lst [.ref h0, .ref h1, .ref h2, .ref h3, .ref h4, .ref h5, .ref h6, .ref h7, .ref y1, .ref y4, .ref y5, .ref y6, .non, .int 0, .str "0", .ref y7, .bl true, .ref y8, .ref t1, .ref t2]) := e14
      have sAB : Same A B14 := ((((((((((((((u0.trans u1).trans u2).trans u3).trans u4).trans u5).trans u6).trans u7).trans u8).trans u9).trans u10).trans u11).trans u12).trans u13).trans u14)
      have spL := (sp3.same (s36.trans sA)).same sAB
      have hmem := bad_all zS hz row mrow a (by simp; omega) al
      simp only [Bool.and_eq_true] at hmem
      obtain ⟨⟨hm1, hm2⟩, hm3⟩ := hmem
      rw [List.all_eq_true] at hm1 hm2 hm3
      have hm3 := hm3 i (by simp; omega)
      rw [List.all_eq_true] at hm3
      have pz : worthD (zS.getD a 0) = worthD za := by rw [zgd]
      have what : ∀ (j : Nat) (x : V), ([.ref h0, .ref h1, .ref h2, .ref h3, .ref h4, .ref h5, .ref h6, .ref h7, .ref y1, .ref y4, .ref y5, .ref y6, .non, .int 0, .str "0", .ref y7, .bl true, .ref y8, .ref t1, .ref t2] : List V)[j]? = some x → ∃ d, Dx K B14 x d ∧ badD zS d = true := by
        intro j x hx
        match j, hx with
        | 0, hx => cases hx; exact ⟨.list (putD row a (.int za)), .lst (u14 _ _ (u13 _ _ (u12 _ _ (u11 _ _ (u10 _ _ (u9 _ _ (u8 _ _ (u7 _ _ (u6 _ _ (u5 _ _ (u4 _ _ (u3 _ _ (u2 _ _ (u1 _ _ (u0 _ _ v0_))))))))))))))) (put_dx row a (.int _)), hm1 _ (List.mem_map.mpr ⟨_, by rw [pz]; simp [worthD], rfl⟩)⟩
        | 1, hx => cases hx; exact ⟨.list (putD row a (.int (-1))), .lst (u14 _ _ (u13 _ _ (u12 _ _ (u11 _ _ (u10 _ _ (u9 _ _ (u8 _ _ (u7 _ _ (u6 _ _ (u5 _ _ (u4 _ _ (u3 _ _ (u2 _ _ (u1 _ _ (u0 _ _ v1_))))))))))))))) (put_dx row a (.int _)), hm1 _ (List.mem_map.mpr ⟨_, by rw [pz]; simp [worthD], rfl⟩)⟩
        | 2, hx => cases hx; exact ⟨.list (putD row a (.none)), .lst (u14 _ _ (u13 _ _ (u12 _ _ (u11 _ _ (u10 _ _ (u9 _ _ (u8 _ _ (u7 _ _ (u6 _ _ (u5 _ _ (u4 _ _ (u3 _ _ (u2 _ _ (u1 _ _ (u0 _ _ v2_))))))))))))))) (put_dx row a (.non)), hm1 _ (List.mem_map.mpr ⟨_, by rw [pz]; simp [worthD], rfl⟩)⟩
        | 3, hx => cases hx; exact ⟨.list (putD row a (.bool true)), .lst (u14 _ _ (u13 _ _ (u12 _ _ (u11 _ _ (u10 _ _ (u9 _ _ (u8 _ _ (u7 _ _ (u6 _ _ (u5 _ _ (u4 _ _ (u3 _ _ (u2 _ _ (u1 _ _ (u0 _ _ v3_))))))))))))))) (put_dx row a (.bl _)), hm1 _ (List.mem_map.mpr ⟨_, by rw [pz]; simp [worthD], rfl⟩)⟩
        | 4, hx => cases hx; exact ⟨.list (putD row a (.str "0")), .lst (u14 _ _ (u13 _ _ (u12 _ _ (u11 _ _ (u10 _ _ (u9 _ _ (u8 _ _ (u7 _ _ (u6 _ _ (u5 _ _ (u4 _ _ (u3 _ _ (u2 _ _ (u1 _ _ (u0 _ _ v4_))))))))))))))) (put_dx row a (.str _)), hm1 _ (List.mem_map.mpr ⟨_, by rw [pz]; simp [worthD], rfl⟩)⟩
        | 5, hx => cases hx; exact ⟨.list (putD row a (.list [.int 0])), .lst (u14 _ _ (u13 _ _ (u12 _ _ (u11 _ _ (u10 _ _ (u9 _ _ (u8 _ _ (u7 _ _ (u6 _ _ (u5 _ _ (u4 _ _ (u3 _ _ (u2 _ _ (u1 _ _ (u0 _ _ v5_))))))))))))))) (put_dx row a ((.lst (u14 _ _ (u13 _ _ (u12 _ _ (u11 _ _ (u10 _ _ (u9 _ _ (u8 _ _ (u7 _ _ (u6 _ _ (u5 _ _ (u4 _ _ (u3 _ _ (u2 _ _ (u1 _ _ (u0 _ _ (sA _ _ w0)))))))))))))))) (.cons (.int _) .nil)))), hm1 _ (List.mem_map.mpr ⟨_, by rw [pz]; simp [worthD], rfl⟩)⟩
        | 6, hx => cases hx; exact ⟨.list (putD row a (.int (10 ^ (20 : Int).toNat))), .lst (u14 _ _ (u13 _ _ (u12 _ _ (u11 _ _ (u10 _ _ (u9 _ _ (u8 _ _ (u7 _ _ (u6 _ _ (u5 _ _ (u4 _ _ (u3 _ _ (u2 _ _ (u1 _ _ (u0 _ _ v6_))))))))))))))) (put_dx row a (.int _)), hm1 _ (List.mem_map.mpr ⟨_, by rw [pz]; simp [worthD], rfl⟩)⟩
        | 7, hx => cases hx; exact ⟨.list (putD row a (.tuple [.int 0])), .lst (u14 _ _ (u13 _ _ (u12 _ _ (u11 _ _ (u10 _ _ (u9 _ _ (u8 _ _ (u7 _ _ (u6 _ _ (u5 _ _ (u4 _ _ (u3 _ _ (u2 _ _ (u1 _ _ (u0 _ _ v7_))))))))))))))) (put_dx row a ((.tup (u14 _ _ (u13 _ _ (u12 _ _ (u11 _ _ (u10 _ _ (u9 _ _ (u8 _ _ (u7 _ _ (u6 _ _ (u5 _ _ (u4 _ _ (u3 _ _ (u2 _ _ (u1 _ _ (u0 _ _ (sA _ _ w1)))))))))))))))) (.cons (.int _) .nil)))), hm1 _ (List.mem_map.mpr ⟨_, by rw [pz]; simp [worthD], rfl⟩)⟩
        | 8, hx => cases hx; exact ⟨_, .lst (u14 _ _ (u13 _ _ (u12 _ _ (u11 _ _ (u10 _ _ (u9 _ _ (u8 _ _ (u7 _ _ (u6 _ _ (u5 _ _ (u4 _ _ (u3 _ _ (u2 _ _ e1))))))))))))) (ints_dx1 row), hm2 _ (by simp [spoil2, intsD])⟩
        | 9, hx => cases hx; exact ⟨_, .lst (u14 _ _ (u13 _ _ (u12 _ _ (u11 _ _ (u10 _ _ (u9 _ _ (u8 _ _ (u7 _ _ (u6 _ _ (u5 _ _ e4)))))))))) (cut_dx row a), hm2 _ (by simp [spoil2, intsD])⟩
        | 10, hx => cases hx; exact ⟨_, .lst (u14 _ _ (u13 _ _ (u12 _ _ (u11 _ _ (u10 _ _ (u9 _ _ (u8 _ _ (u7 _ _ (u6 _ _ e5))))))))) (.cons (.lst (u14 _ _ (u13 _ _ (u12 _ _ (u11 _ _ (u10 _ _ (u9 _ _ (u8 _ _ (u7 _ _ (u6 _ _ (u5 _ _ (u4 _ _ (u3 _ _ (u2 _ _ (u1 _ _ (u0 _ _ lA))))))))))))))) (ints_dx row)) .nil), hm2 _ (by simp [spoil2, intsD])⟩
        | 11, hx => cases hx; exact ⟨_, .lst (u14 _ _ (u13 _ _ (u12 _ _ (u11 _ _ (u10 _ _ (u9 _ _ (u8 _ _ (u7 _ _ e6)))))))) .nil, hm2 _ (by simp [spoil2, intsD])⟩
        | 12, hx => cases hx; exact ⟨_, .non, hm2 _ (by simp [spoil2, intsD])⟩
        | 13, hx => cases hx; exact ⟨_, .int _, hm2 _ (by simp [spoil2, intsD])⟩
        | 14, hx => cases hx; exact ⟨_, .str _, hm2 _ (by simp [spoil2, intsD])⟩
        | 15, hx => cases hx; exact ⟨_, .emp (u14 _ _ (u13 _ _ (u12 _ _ (u11 _ _ (u10 _ _ (u9 _ _ (u8 _ _ e7))))))), hm2 _ (by simp [spoil2, intsD])⟩
        | 16, hx => cases hx; exact ⟨_, .bl _, hm2 _ (by simp [spoil2, intsD])⟩
        | 17, hx => cases hx; exact ⟨_, .lst (u14 _ _ (u13 _ _ (u12 _ _ (u11 _ _ (u10 _ _ (u9 _ _ e8)))))) (ints_dx2 row), hm2 _ (by simp [spoil2, intsD])⟩
        | 18, hx => cases hx; exact ⟨.tuple (putD row a dt), .tup (u14 _ _ (u13 _ _ (u12 _ _ e11))) (put_dx row a (Dx.same ((u11.trans u12).trans (u13.trans u14)) _ _ htd)), hm3 _ (by rw [spoil3, pz, hte]; simp)⟩
        | 19, hx => cases hx; exact ⟨_, .tup (u14 _ _ (u13 _ _ e12)) (ints_dx1 row), hm3 _ (by simp [spoil3, intsD])⟩
        | _ + 20, hx => cases hx
      refine ⟨y14, rfl, ⟨_, SqL.of e14⟩, for_list (K := K) (a := y14) (xs := [.ref h0, .ref h1, .ref h2, .ref h3, .ref h4, .ref h5, .ref h6, .ref h7, .ref y1, .ref y4, .ref y5, .ref y6, .non, .int 0, .str "0", .ref y7, .bl true, .ref y8, .ref t1, .ref t2]) (fun j τ T => ∃ v8 : Option V, τ = [some (.ref b), some (.ref p), some (.ref s), some (.int (prod zS)), some (.int (0 + (i : Int))), some (.ref l), some (.int (a : Int)), some (.ref y10), v8, none] ∧ Same B14 T)
        ⟨_, rfl, Same.refl _⟩ (fun j τ T _ q => ?_) ?_ ?_⟩
      · obtain ⟨_, _, sT⟩ := q
        exact SqL.of (sT _ _ e14)
      · rintro j x τ T hx ⟨v8, rfl, sT⟩
        obtain ⟨d, hd, bd⟩ := what j x hx
        obtain ⟨sd, sh⟩ := badD_of bd
        have hdT := Dx.same sT _ _ hd
        walk_at "r"
        refine ⟨2, p, _, zS, rfl, hz, spL.same sT, .inr (.inr (.inr (.inr (.inr (.inl ⟨rfl, d, hdT, sd, fun A3 s3' l' A4 nl s4' gl' => ?_⟩)))))⟩
        walk_at "r"
        refine r_reprX (zero_dx gl' (Dx.same (s3'.trans s4') _ _ hdT)) sh ?_
        walk_at "r"
        refine ⟨by show 2 ≤ sizeLine; decide, fun u nu => ?_⟩
        have su := Same.upd_new (o := .lst [.int 2, x]) nu
        have gu : (upd A4 u (.lst [.int 2, x])) u = some (.lst [.int 2, x]) := upd_same
        generalize upd A4 u (.lst [.int 2, x]) = A5 at su gu ⊢
        walk_at "r"
        refine r_reprX (zero_dx gu (Dx.same ((s3'.trans s4').trans su) _ _ hdT)) sh ?_
        walk_at "r"
        rw [decide_eq_true rfl]
        walk_at "r"
        exact ⟨_, rfl, sT.trans ((s3'.trans s4').trans su)⟩
      · rintro τ T ⟨v8, rfl, sT⟩
        have spT := spL.same sT
        have lT : T l = some (.lst (row.map V.int)) := sT _ _ (u14 _ _ (u13 _ _ (u12 _ _ (u11 _ _ (u10 _ _ (u9 _ _ (u8 _ _ (u7 _ _ (u6 _ _ (u5 _ _ (u4 _ _ (u3 _ _ (u2 _ _ (u1 _ _ (u0 _ _ lA)))))))))))))))
        walk_at "r"
        refine ⟨2, p, _, zS, rfl, hz, spT, .inr (.inr (.inr (.inr (.inl ⟨rfl, l, r, row, rfl, .inl lT, rrow, fun T1 s1' l1 T2 nl1 s2' gl1 => ?_⟩))))⟩
        have sT2 := s1'.trans s2'
        walk_at "r"
        refine r_tupleAny (.inl (sT2 _ _ lT)) fun tt T3 s3' g3' => ?_
        have sT3 := sT2.trans s3'
        walk_at "r"
        refine ⟨2, p, _, zS, rfl, hz, spT.same sT3, .inr (.inr (.inr (.inr (.inl ⟨rfl, tt, r, row, rfl, .inr g3', rrow, fun T4 s4' l2 T5 nl2 s5' gl2 => ?_⟩))))⟩
        have s25 := s3'.trans (s4'.trans s5')
        have r8 : r < 8 := by have := (menu_many zS hz).2; omega
        obtain ⟨k1, k2⟩ := told_num r r8
        refine ⟨told2 r, told2 r, (told2_dx (s25 _ _ gl1)).plain _ _ (by rfl), (told2_dx gl2).plain _ _ (by rfl), k1, k1, ?_⟩
        rw [k2]
        have sT5 := sT2.trans s25
        walk_at "r"
        refine ⟨2, p, _, zS, rfl, hz, spT.same sT5, .inr (.inr (.inr (.inr (.inl ⟨rfl, l, r, row, rfl, .inl (sT5 _ _ lT), rrow, fun T6 s6' l3 T7 nl3 s7' gl3 => ?_⟩))))⟩
        have sT7 := sT5.trans (s6'.trans s7')
        walk_at "r"
        rw [decide_eq_true rfl]
        walk_at "r"
        have sp7 := spT.same sT7
        obtain ⟨dy, ty, qy, tsy, y1', y2', y3', y4'⟩ := sp7
        have sp7 : SpaceAt C T7 p zS := ⟨dy, ty, qy, tsy, y1', y2', y3', y4'⟩
        refine ⟨p, dy, _, rfl, y1', spF_no _ _ _ (by decide +kernel) (by decide +kernel) (by decide +kernel), ?_⟩
        walk_at "r"
        refine ⟨p, dy, _, rfl, y1', spF_no _ _ _ (by decide +kernel) (by decide +kernel) (by decide +kernel), ?_⟩
        walk_at "r"
        refine ⟨p, _, zS, rfl, hz, sp7, .inl ⟨l, r, row, rfl, .inl (sT7 _ _ lT), rrow, fun T8 s8' => ?_⟩⟩
        walk_at "r"
        refine ⟨p, _, zS, rfl, sp7.same s8', .inl ⟨r, row, rfl, rrow, fun t8 ht8 => ?_⟩⟩
        walk_at "r"
        refine r_tupleAny (.inl (s8' _ _ (sT7 _ _ lT))) fun t9 T9 s9' g9' => ?_
        refine ⟨tupD row, tupD row, tup_dp (s9' _ _ ht8), tup_dp g9', tup_shaped row, tup_shaped row, ?_⟩
        rw [tup_eqv, decide_eq_true rfl]
        walk_at "r"
        have allS : Same G3 T9 := (s36.trans sA).trans (sAB.trans (sT.trans (sT7.trans (s8'.trans s9'))))
        exact ⟨_, _, _, _, _, rfl, (b3.same allS).mono (by omega), bt03.trans (But.of allS)⟩
    · rintro τ G ⟨v4, v5, v6, v7, v8, rfl, bG, bt⟩
      walk_at "r"
      exact k G (bG.mono (by omega)) bt
end
end Eld
set_option Elab.async false
set_option maxRecDepth 100000
set_option maxHeartbeats 4000000
set_option linter.all false
namespace Eld
open PySem L2
local macro_rules | `(tactic| walk_at "r1") => `(tactic| with_reducible first
  | refine r_seq ?_ | refine r_asgN ?_ | refine r_asg ?_ | refine r_gname ?_ | refine r_gsub ?_ | refine r_var rfl ?_ | refine r_c ?_ | refine r_op ?_ | refine r_un ?_ | refine r_u ?_ | refine r_i0 ?_ | refine r_cb ?_ | refine r_cons ?_ | refine r_nil ?_ | refine r_cl ?_ | refine r_fn rfl rfl ?_ | refine r_mt ?_
  | refine r_test ?_ | refine r_tb ?_ | refine r_bl ?_ | refine r_and ?_ | refine r_or ?_ | refine r_not ?_ | refine r_andV ?_ | refine r_orV ?_ | refine r_notV ?_ | refine r_ifX ?_ | refine r_ifs ?_ | refine r_chain ?_ | refine r_ret ?_ | refine r_next ?_ | refine r_drop ?_ | refine iteT ?_ | refine iteF ?_ | refine iteNT ?_ | refine iteNF ?_
  | refine r_int1 ?_ | refine r_boolB ?_ | refine r_eqI ?_ | refine r_neI ?_ | refine r_eqB ?_ | refine r_neB ?_ | refine r_eqS ?_ | refine r_neS ?_ | refine r_abs ?_ | refine r_max2 ?_ | refine r_min2 ?_ | refine r_yes ?_ | refine r_tup ?_ | refine r_sfld ?_ | refine r_m0 ?_ | refine r_m1 ?_ | refine r_lst ?_ | refine r_rng1 ?_ | refine r_rng2 ?_ | refine r_ixL (SqL.of (by assumption)) rfl ?_)
local macro_rules | `(tactic| walk_at "r") => `(tactic| repeat (first | walk_at "r1" | ((with_reducible refine r_var ?hv ?_); (case hv => rfl))))

/-! ## lines that are none -/
def wordsS (zs : List Int) : List Str := zs.map numStr
def odd1 (zs : List Int) : List Str := ["", " ", lineOf zs ++ " ", " " ++ lineOf zs, lineOf zs ++ "  ", Txt.join "  " (wordsS zs ++ [("1" : Str)]), Txt.join "," (wordsS zs ++ [("1" : Str)]), lineOf zs ++ "\n", "0" ++ lineOf zs]
def odd2 (zs : List Int) : List Str := ["+" ++ lineOf zs, "-" ++ lineOf zs, lineOf zs ++ " 8", "1", "9", "0", "-2", "2 2 2 2", "3 3", "5 2", "2 2 3", "two", "2.0", "2_", "10"]
def ways : List Str := ["0", "+", "-", "", " ", "x"]
def midS (zs : List Int) (a : Nat) (way : Str) : Str := if way = "" then "" else way ++ (wordsS zs).getD a ""
def oddW (zs : List Int) (a : Nat) (way : Str) : Str := Txt.join " " ((wordsS zs).take a ++ [midS zs a way] ++ (wordsS zs).drop (a + 1))
def badL (s : Str) : Bool := (boundL s && !((Txt.split s " ").all digW && sizesD (.list ((Txt.split s " ").map fun w => .int (valW w))))) && showsT (zeroD 3 (.str s))
theorem bad1 : ∀ zs ∈ menu, (odd1 zs).all badL = true := by decide +kernel
theorem bad2 : ∀ zs ∈ menu, (odd2 zs).all badL = true := by decide +kernel
theorem bad3 : ∀ zs ∈ menu, ∀ a ∈ [0, 1, (2 : Nat)], a < zs.length → ∀ way ∈ ways, badL (oddW zs a way) = true := by decide +kernel
theorem menu_joins : ∀ zs ∈ menu, (((wordsS zs ++ [("1" : Str)]).map (·.length)).sum + (wordsS zs ++ [("1" : Str)]).length * ("  " : Str).length ≤ 16777216 ∧ ((wordsS zs ++ [("1" : Str)]).map (·.length)).sum + (wordsS zs ++ [("1" : Str)]).length * ("," : Str).length ≤ 16777216) ∧ (lineOf zs).length ≤ 1000 ∧ (wordsS zs).length = zs.length := by decide +kernel
theorem way_joins : ∀ zs ∈ menu, ∀ a ∈ [0, 1, (2 : Nat)], a < zs.length → ∀ way ∈ ways, (((wordsS zs).take a ++ [midS zs a way] ++ (wordsS zs).drop (a + 1)).map (·.length)).sum + ((wordsS zs).take a ++ [midS zs a way] ++ (wordsS zs).drop (a + 1)).length * (" " : Str).length ≤ 16777216 := by decide +kernel
local macro_rules | `(tactic| walk_at "r1") => `(tactic| with_reducible first | refine r_clS ?_ | refine r_fnS rfl rfl ?_ | refine r_mtS ?_ | refine r_sl ?_ | refine r_po0 ?_ | refine r_po1 ?_ | refine r_par ?_)
theorem strs_get {ws : List Str} {i : Nat} {x : V} (h : (ws.map V.str)[i]? = some x) : ∃ y, ws[i]? = some y ∧ x = .str y := by
  rw [List.getElem?_map] at h
  cases e : ws[i]? with
  | none => rw [e] at h; cases h
  | some y => rw [e] at h; exact ⟨y, rfl, (Option.some.inj h).symm⟩
theorem way_len : ∀ way ∈ ways, way.length ≤ 1000 := by decide +kernel
theorem word_len : ∀ zs ∈ menu, ∀ x ∈ wordsS zs, x.length ≤ 1000 := by decide +kernel
theorem strs_dx {K : PySem.W.Frag} {H : Hp} : ∀ ws : List Str, DxAll K H (ws.map V.str) (ws.map PyData.str)
  | [] => .nil
  | x :: xs => .cons (.str x) (strs_dx xs)
theorem words_show : ∀ zs ∈ menu, showsT (zeroD 3 (.list ((wordsS zs).map PyData.str))) = true ∧ showsT (zeroD 3 (.tuple ((wordsS zs).map PyData.str))) = true ∧ showsT (zeroD 3 (.tuple (zs.map PyData.int))) = true := by decide +kernel
theorem told_eq : ∀ zs ∈ menu, SeqAt.shaped (toldD (lineOf zs)) = true ∧ PyData.eqv (toldD (lineOf zs)) (toldD (lineOf zs)) = true := by decide +kernel
theorem addB {x y : Str} (h1 : x.length ≤ 1000) (h2 : y.length ≤ 1000) : x.length + y.length ≤ sizeLine := by rw [sizeLine_eq]; omega
def spLinesRight (C : Addr) : Sp := fun vs H Q _ => ∃ (b p s : Addr) (n : Nat) (zS : List Int), vs = [.ref b, .ref p, .ref s] ∧ zS ∈ menu ∧ BoxAt H b n ∧ n < 2000000 ∧ SpaceAt C H p zS ∧ H s = some (.lst (zS.map V.int)) ∧ ∀ H', BoxAt H' b (n + 20) → But b H H' → Q (.bl true) H'
section
variable {P : Program} {w : World} {K : PySem.W.Frag} {mg : Str → Option Value} {base : Heap} {C : Addr}
theorem ok_lines_right {f : Addr} {fd : FuncData} (F : Fun K "_law_lines_right" "_law_lines_right" s__law_lines_right f fd) (Z : Zs mg) (hM : ModsD base) (d__law_take : DefD P w K mg base 1 "_law_take" 2 [] byPlace spTake) (d__law_met : DefD P w K mg base 8 "_law_met" 3 [] byPlace (spMet C K)) : FnG P w K mg base CX0 9 f fd ["box", "space", "sizes"] (spLinesRight C) := by
  refine okG F sc__law_lines_right (fun vs H Q E h => ?_) (fun cdv B up z H vs Q E hG hr h => ?_)
  · obtain ⟨b, p, s, n, zS, rfl, _⟩ := h
    rfl
  · have hu : (B.deeper (PyProof.Rows.envOfC "_law_lines_right" (defScope s__law_lines_right) z.heap.objs.size f cdv)).units + 64 < cLine := by have := hr.un; omega
    obtain ⟨b, p, s, n, zS, rfl, hz, hb, hn, sp, hs, k⟩ := h
    obtain ⟨z1, z3⟩ := menu_len zS hz
    obtain ⟨⟨j1, j3⟩, l1, lw⟩ := menu_joins zS hz
    refine ⟨_, (pss_cons (ps_setLc (i := 3) (own := [("size", 9)]) (tt := tYes) rfl sc__law_lines_right.nd rfl rfl (sw_true rfl rfl rfl (by decide +kernel)) (pi_list (pv 2)) (blkOk_by (N := ["box", "space", "sizes", "words", "odd", "way", "bad", "line", "at", "size"]) (sc := defScope s__law_lines_right) (by decide +kernel)) (fun _ _ _ _ _ => (pg_name (i := 9) sc__law_lines_right.nd rfl (by first | exact Or.inl rfl | exact Or.inr rfl))) (fun _ _ _ _ _ => pts_nil) (fun _ _ _ _ _ => (pe_callTy c_str (by rfl) Z.str_ (by decide +kernel) (pa_cons (pv 9) pa_nil))))
  (pss_cons (ps_par rfl sc__law_lines_right.nd (i := 7) (j := 8) rfl rfl (by decide) rfl rfl (pa_cons (pe_join pe_str (pv 3)) (pa_cons (pd_pos d__law_take hG hr (by decide) (by rfl) (pa_cons (pv 0) (pa_cons (pe_callB (show CallR _ _ (rLen K) from c_len) (by rfl) Z.len_ (by decide +kernel) (pa_cons (pv 3) pa_nil)) pa_nil))) pa_nil)) rfl)
  (pss_cons (ps_set (i := 4) sc__law_lines_right.nd rfl (by first | exact Or.inl rfl | exact Or.inr rfl) (pe_lst (pa_cons pe_str (pa_cons pe_str (pa_cons (pe_op op_add_str (pv 7) pe_str) (pa_cons (pe_op op_add_str pe_str (pv 7)) (pa_cons (pe_op op_add_str (pv 7) pe_str) (pa_cons (pe_join pe_str (pe_op op_cat (pv 3) (pe_lst (pa_cons pe_str pa_nil)))) (pa_cons (pe_join pe_str (pe_op op_cat (pv 3) (pe_lst (pa_cons pe_str pa_nil)))) (pa_cons (pe_op op_add_str (pv 7) pe_str) (pa_cons (pe_op op_add_str pe_str (pv 7)) pa_nil)))))))))))
  (pss_cons (ps_set (i := 4) sc__law_lines_right.nd rfl (by first | exact Or.inl rfl | exact Or.inr rfl) (pe_op op_cat (pv 4) (pe_lst (pa_cons (pe_op op_add_str pe_str (pv 7)) (pa_cons (pe_op op_add_str pe_str (pv 7)) (pa_cons (pe_op op_add_str (pv 7) pe_str) (pa_cons pe_str (pa_cons pe_str (pa_cons pe_str (pa_cons pe_str (pa_cons pe_str (pa_cons pe_str (pa_cons pe_str (pa_cons pe_str (pa_cons pe_str (pa_cons pe_str (pa_cons pe_str (pa_cons pe_str pa_nil))))))))))))))))))
  (pss_cons (ps_for PassesOwn.never rfl (pi_list (pe_lst (pa_cons pe_str (pa_cons pe_str (pa_cons pe_str (pa_cons pe_str (pa_cons pe_str (pa_cons pe_str pa_nil)))))))) (pg_name (i := 5) sc__law_lines_right.nd rfl (by first | exact Or.inl rfl | exact Or.inr rfl))
  (pss_one (ps_expr (pe_bm PySem.F.plainAttrs_list PySem.F.slot_list_append PySem.F.type_list_append mt_append (pv 4) (pa_cons (pe_join pe_str (pe_op op_cat (pe_op op_cat (pe_slice (show SlR _ (rSlL K) from sl_list) (pv 3) po_none (po_some (pv 8))) (pe_lst (pa_cons (pe_ifExp (pt_cmpR op_ne (pv 5) pe_str (nomark _)) (pe_op op_add_str (pv 5) (pe_ix (show IxR _ (rIxL K) from ix_list) (pv 3) (pv 8) (fun _ _ => rfl))) pe_str) pa_nil))) (pe_slice (show SlR _ (rSlL K) from sl_list) (pv 3) (po_some (pe_op op_add (pv 8) pe_int)) po_none))) pa_nil)))))
  (pss_cons (ps_for PassesOwn.never rfl (pi_list (pe_op op_cat (pv 4) (pe_lst (pa_cons pe_non (pa_cons pe_int (pa_cons pe_bl (pa_cons (pv 3) (pa_cons (pe_callTy (show CallR _ _ (rTupleOf K) from c_tuple) (by rfl) Z.tuple_ (by decide +kernel) (pa_cons (pv 3) pa_nil)) (pa_cons (pe_lst pa_nil) (pa_cons pe_dnewK (pa_cons (pe_callTy (show CallR _ _ (rTupleOf K) from c_tuple) (by rfl) Z.tuple_ (by decide +kernel) (pa_cons (pv 2) pa_nil)) pa_nil))))))))))) (pg_name (i := 6) sc__law_lines_right.nd rfl (by first | exact Or.inl rfl | exact Or.inr rfl))
  (pss_one (ps_if (pt_cmpR op_ne (pe_callB (show CallR _ _ (rReprX K) from call_reprX hM hG hu) (by rfl) Z.repr_ (by decide +kernel) (pa_cons (pd_pos d__law_met hG hr (by decide) (by rfl) (pa_cons pe_int (pa_cons (pv 1) (pa_cons (pv 6) pa_nil)))) pa_nil)) (pe_callB (show CallR _ _ (rReprX K) from call_reprX hM hG hu) (by rfl) Z.repr_ (by decide +kernel) (pa_cons (pe_lst (pa_cons pe_int (pa_cons (pv 6) pa_nil))) pa_nil)) (nomark _)) (pss_one (ps_ret pe_bl)) pss_nil)))
  (pss_one (ps_ret (pe_cmpR (show OpR _ _ (rEqD K) from op_eqD hu) (pd_pos d__law_met hG hr (by decide) (by rfl) (pa_cons pe_int (pa_cons (pv 1) (pa_cons (pv 7) pa_nil)))) (pe_lst (pa_cons pe_str (pa_cons (pv 7) pa_nil))) (nomark _)))))))))), ?_⟩
    walk_at "r"
    refine r_lc ?_
    walk_at "r"
    refine ⟨_, rfl, s, rfl, ⟨_, SqL.of hs⟩, fun D hD => ?_⟩
    refine it_list (xs := zS.map V.int) (fun i A => Same H A ∧ A D = some (.lst ((zS.take i).map fun z => V.str (numStr z)))) ⟨Same.upd_new hD, upd_same⟩ (fun i A _ s => SqL.of (s.1 _ _ hs)) (fun i x A hx s => ?_) (fun A s => ?_)
    · obtain ⟨y, hy, rfl⟩ := map_get hx
      obtain ⟨y1, y2⟩ := menu_mem zS hz y (List.mem_of_getElem? hy)
      refine r_gname ⟨rfl, ?_⟩
      walk_at "r"
      refine r_strI (num_small y y1 y2) ?_
      refine ⟨_, s.2, by rw [List.length_map, List.length_take, sizeLine_eq]; omega, Same.over s.1 hD, ?_⟩
      rw [upd_same, take_next hy, List.map_append]
      rfl
    obtain ⟨sA, dA⟩ := s
    have e : (zS.take (zS.map V.int).length).map (fun z => V.str (numStr z)) = (wordsS zS).map V.str := by
      rw [List.length_map, List.take_length, wordsS, List.map_map]
      rfl
    rw [e] at dA
    walk_at "r"
    refine ⟨⟨_, rfl⟩, ?_⟩
    walk_at "r"
    refine ⟨_, D, wordsS zS, rfl, rfl, .inl (SqL.of dA), menu_line zS hz, ?_⟩
    walk_at "r"
    refine r_lenL (SqL.of dA) ?_
    rw [List.length_map]
    walk_at "r"
    refine ⟨b, _, _, rfl, hb.same sA, by omega, by omega, by omega, fun a G a0 a1 bG btG => ?_⟩
    obtain ⟨a, rfl⟩ := Int.eq_ofNat_of_zero_le a0
    have al : a < zS.length := by omega
    have dG : G D = some (.lst ((wordsS zS).map V.str)) := btG _ _ (fun e => by rw [e] at hD; obtain ⟨_, _, _, _, x, _⟩ := hb; rw [hD] at x; cases x) dA
    have sG : G s = some (.lst (zS.map V.int)) := btG _ _ ((hb.same sA).ne (sA _ _ hs) (ints_nb zS)) (sA _ _ hs)
    have spG : SpaceAt C G p zS := (sp.same sA).but (hb.same sA) btG
    have btHG : But b H G := (But.of sA).trans btG
    have el : Txt.join (" " : Str) (wordsS zS) = lineOf zS := rfl
    refine ⟨_, _, rfl, ?_⟩
    walk_at "r"
    rw [el]
    refine ⟨_, _, rfl, rfl, addB l1 (by decide +kernel), ?_⟩
    walk_at "r"
    refine ⟨_, _, rfl, rfl, addB (by decide +kernel) l1, ?_⟩
    walk_at "r"
    refine ⟨_, _, rfl, rfl, addB l1 (by decide +kernel), ?_⟩
    walk_at "r"
    refine ⟨⟨_, rfl⟩, ?_⟩
    walk_at "r"
    refine ⟨by show 1 ≤ sizeLine; decide, fun y0 m0 => ?_⟩
    have u0 := Same.upd_new (o := .lst [.str "1"]) m0
    have e0 : (upd G y0 (.lst [.str "1"])) y0 = some (.lst [.str "1"]) := upd_same
    generalize upd G y0 (.lst [.str "1"]) = B0 at u0 e0 ⊢
    refine ⟨D, y0, _, _, rfl, rfl, (u0 _ _ dG), e0, by rw [List.length_map, sizeLine_eq, lw]; show zS.length + 1 ≤ 16777216; omega, fun y1 m1 => ?_⟩
    have u1 := Same.upd_new (o := .lst ((wordsS zS).map V.str ++ [.str "1"])) m1
    have e1 : (upd B0 y1 (.lst ((wordsS zS).map V.str ++ [.str "1"]))) y1 = some (.lst ((wordsS zS ++ [("1" : Str)]).map V.str)) := by rw [upd_same, List.map_append]; rfl
    generalize upd B0 y1 (.lst ((wordsS zS).map V.str ++ [.str "1"])) = B1 at u1 e1 ⊢
    refine ⟨_, y1, wordsS zS ++ [("1" : Str)], rfl, rfl, .inl (SqL.of e1), j1, ?_⟩
    walk_at "r"
    refine ⟨⟨_, rfl⟩, ?_⟩
    walk_at "r"
    refine ⟨by show 1 ≤ sizeLine; decide, fun y2 m2 => ?_⟩
    have u2 := Same.upd_new (o := .lst [.str "1"]) m2
    have e2 : (upd B1 y2 (.lst [.str "1"])) y2 = some (.lst [.str "1"]) := upd_same
    generalize upd B1 y2 (.lst [.str "1"]) = B2 at u2 e2 ⊢
    refine ⟨D, y2, _, _, rfl, rfl, (u2 _ _ (u1 _ _ (u0 _ _ dG))), e2, by rw [List.length_map, sizeLine_eq, lw]; show zS.length + 1 ≤ 16777216; omega, fun y3 m3 => ?_⟩
    have u3 := Same.upd_new (o := .lst ((wordsS zS).map V.str ++ [.str "1"])) m3
    have e3 : (upd B2 y3 (.lst ((wordsS zS).map V.str ++ [.str "1"]))) y3 = some (.lst ((wordsS zS ++ [("1" : Str)]).map V.str)) := by rw [upd_same, List.map_append]; rfl
    generalize upd B2 y3 (.lst ((wordsS zS).map V.str ++ [.str "1"])) = B3 at u3 e3 ⊢
    refine ⟨_, y3, wordsS zS ++ [("1" : Str)], rfl, rfl, .inl (SqL.of e3), j3, ?_⟩
    walk_at "r"
    refine ⟨_, _, rfl, rfl, addB l1 (by decide +kernel), ?_⟩
    walk_at "r"
    refine ⟨_, _, rfl, rfl, addB (by decide +kernel) l1, ?_⟩
    walk_at "r"
    refine ⟨by show 9 ≤ sizeLine; decide, fun y4 m4 => ?_⟩
    have u4 := Same.upd_new (o := .lst [.str "", .str " ", .str (lineOf zS ++ " "), .str (" " ++ lineOf zS), .str (lineOf zS ++ "  "), .str (Txt.join "  " (wordsS zS ++ [("1" : Str)])), .str (Txt.join "," (wordsS zS ++ [("1" : Str)])), .str (lineOf zS ++ "\n"), .str ("0" ++ lineOf zS)]) m4
    have e4 : (upd B3 y4 (.lst [.str "", .str " ", .str (lineOf zS ++ " "), .str (" " ++ lineOf zS), .str (lineOf zS ++ "  "), .str (Txt.join "  " (wordsS zS ++ [("1" : Str)])), .str (Txt.join "," (wordsS zS ++ [("1" : Str)])), .str (lineOf zS ++ "\n"), .str ("0" ++ lineOf zS)])) y4 = some (.lst ((odd1 zS).map V.str)) := upd_same
    generalize upd B3 y4 (.lst [.str "", .str " ", .str (lineOf zS ++ " "), .str (" " ++ lineOf zS), .str (lineOf zS ++ "  "), .str (Txt.join "  " (wordsS zS ++ [("1" : Str)])), .str (Txt.join "," (wordsS zS ++ [("1" : Str)])), .str (lineOf zS ++ "\n"), .str ("0" ++ lineOf zS)]) = B4 at u4 e4 ⊢
    walk_at "r"
    refine ⟨_, _, rfl, rfl, addB (by decide +kernel) l1, ?_⟩
    walk_at "r"
    refine ⟨_, _, rfl, rfl, addB (by decide +kernel) l1, ?_⟩
    walk_at "r"
    refine ⟨_, _, rfl, rfl, addB l1 (by decide +kernel), ?_⟩
    walk_at "r"
    refine ⟨by show 15 ≤ sizeLine; decide, fun y5 m5 => ?_⟩
    have u5 := Same.upd_new (o := .lst [.str ("+" ++ lineOf zS), .str ("-" ++ lineOf zS), .str (lineOf zS ++ " 8"), .str "1", .str "9", .str "0", .str "-2", .str "2 2 2 2", .str "3 3", .str "5 2", .str "2 2 3", .str "two", .str "2.0", .str "2_", .str "10"]) m5
    have e5 : (upd B4 y5 (.lst [.str ("+" ++ lineOf zS), .str ("-" ++ lineOf zS), .str (lineOf zS ++ " 8"), .str "1", .str "9", .str "0", .str "-2", .str "2 2 2 2", .str "3 3", .str "5 2", .str "2 2 3", .str "two", .str "2.0", .str "2_", .str "10"])) y5 = some (.lst ((odd2 zS).map V.str)) := upd_same
    generalize upd B4 y5 (.lst [.str ("+" ++ lineOf zS), .str ("-" ++ lineOf zS), .str (lineOf zS ++ " 8"), .str "1", .str "9", .str "0", .str "-2", .str "2 2 2 2", .str "3 3", .str "5 2", .str "2 2 3", .str "two", .str "2.0", .str "2_", .str "10"]) = B5 at u5 e5 ⊢
    refine ⟨y4, y5, _, _, rfl, rfl, (u5 _ _ e4), e5, by rw [sizeLine_eq]; show 9 + 15 ≤ 16777216; decide, fun y6 m6 => ?_⟩
    have u6 := Same.upd_new (o := .lst ((odd1 zS).map V.str ++ (odd2 zS).map V.str)) m6
    have e6 : (upd B5 y6 (.lst ((odd1 zS).map V.str ++ (odd2 zS).map V.str))) y6 = some (.lst ((odd1 zS ++ odd2 zS).map V.str)) := by rw [upd_same, List.map_append]
    generalize upd B5 y6 (.lst ((odd1 zS).map V.str ++ (odd2 zS).map V.str)) = B6 at u6 e6 ⊢
    walk_at "r"
    with_reducible refine r_for ?_
    refine r_il ?_
    walk_at "r"
    refine ⟨by show 6 ≤ sizeLine; decide, fun y7 m7 => ?_⟩
    have u7 := Same.upd_new (o := .lst [.str "0", .str "+", .str "-", .str "", .str " ", .str "x"]) m7
    have e7 : (upd B6 y7 (.lst [.str "0", .str "+", .str "-", .str "", .str " ", .str "x"])) y7 = some (.lst (ways.map V.str)) := upd_same
    generalize upd B6 y7 (.lst [.str "0", .str "+", .str "-", .str "", .str " ", .str "x"]) = B7 at u7 e7 ⊢
    have nyo : y7 ≠ y6 := fun e => by rw [e, e6] at m7; cases m7
    have hD0 : B7 D = some (.lst ((wordsS zS).map V.str)) := (u7 _ _ (u6 _ _ (u5 _ _ (u4 _ _ (u3 _ _ (u2 _ _ (u1 _ _ (u0 _ _ dG))))))))
    have hO0 : B7 y6 = some (.lst ((odd1 zS ++ odd2 zS).map V.str)) := (u7 _ _ e6)
    have nDo : D ≠ y6 := fun e => by rw [← e, (show B5 D = _ from (u5 _ _ (u4 _ _ (u3 _ _ (u2 _ _ (u1 _ _ (u0 _ _ dG)))))))] at m6; cases m6
    have sGW : Same G B7 := (((((((u0.trans u1).trans u2).trans u3).trans u4).trans u5).trans u6).trans u7)
    have hs0 : B7 s = some (.lst (zS.map V.int)) := sGW _ _ sG
    have nso : s ≠ y6 := fun e => by rw [← e, (u5 _ _ (u4 _ _ (u3 _ _ (u2 _ _ (u1 _ _ (u0 _ _ sG))))))] at m6; cases m6
    have amem : a ∈ [0, 1, (2 : Nat)] := by simp; omega
    refine ⟨y7, rfl, ⟨_, SqL.of e7⟩, for_list (K := K) (a := y7) (xs := ways.map V.str) (fun j τ T => ∃ v5 : Option V, τ = [some (.ref b), some (.ref p), some (.ref s), some (.ref D), some (.ref y6), v5, none, some (.str (lineOf zS)), some (.int (a : Int)), none] ∧ But y6 B7 T ∧ T y6 = some (.lst ((odd1 zS ++ odd2 zS ++ (ways.take j).map (oddW zS a)).map V.str)))
      ⟨_, rfl, But.refl _, by rw [hO0]; simp⟩ (fun j τ T _ q => ?_) ?_ ?_⟩
    · obtain ⟨_, _, sT, _⟩ := q
      exact SqL.of (sT _ _ nyo e7)
    · rintro j x τ T hx ⟨v5, rfl, sT, oT⟩
      obtain ⟨way, hw, rfl⟩ := strs_get hx
      have wm : way ∈ ways := List.mem_of_getElem? hw
      have j6 : j < 6 := (List.getElem?_eq_some_iff.mp hw).1
      have dT := sT _ _ nDo hD0
      walk_at "r"
      refine ⟨_, rfl, .inl ⟨rfl, _, SqL.of oT⟩, ?_⟩
      walk_at "r"
      refine ⟨⟨_, rfl⟩, ?_⟩
      walk_at "r"
      refine ⟨_, rfl, ?_⟩
      refine r_slL (SqL.of dT) fun t8 m8 => ?_
      rw [cut_lo _ _ (by rw [List.length_map]; omega)]
      have u8 := Same.upd_new (o := .lst (((wordsS zS).map V.str).take a)) m8
      have e8 : (upd T t8 (.lst (((wordsS zS).map V.str).take a))) t8 = some (.lst (((wordsS zS).map V.str).take a)) := upd_same
      generalize upd T t8 (.lst (((wordsS zS).map V.str).take a)) = B8 at u8 e8 ⊢
      walk_at "r"
      refine if_both (fun Q => Q (.str (midS zS a way)) B8) (fun c Q h => ?_) (fun c Q h => ?_) ?_
      · have c : ¬ way = "" := fun e => by rw [e] at c; simp at c
        have wl : (wordsS zS)[a]? = some ((wordsS zS).getD a "") := by rw [List.getD_eq_getElem?_getD, List.getElem?_eq_getElem (show a < (wordsS zS).length by omega)]; rfl
        have em : midS zS a way = way ++ (wordsS zS).getD a "" := by unfold midS; rw [if_neg c]
        rw [em] at h
        walk_at "r"
        refine r_ixL (SqL.of (u8 _ _ dT)) (atI_nat (v := .str ((wordsS zS).getD a "")) (by rw [List.getElem?_map, wl]; rfl)) ?_
        exact ⟨_, _, rfl, rfl, addB (way_len way wm) (word_len zS hz _ (List.mem_of_getElem? wl)), h⟩
      · have c : way = "" := by simpa using c
        have em : midS zS a way = "" := by unfold midS; rw [if_pos c]
        rw [em] at h
        exact h
      walk_at "r"
      refine ⟨by show 1 ≤ sizeLine; decide, fun t9 m9 => ?_⟩
      have u9 := Same.upd_new (o := .lst [.str (midS zS a way)]) m9
      have e9 : (upd B8 t9 (.lst [.str (midS zS a way)])) t9 = some (.lst [.str (midS zS a way)]) := upd_same
      generalize upd B8 t9 (.lst [.str (midS zS a way)]) = B9 at u9 e9 ⊢
      refine ⟨t8, t9, _, _, rfl, rfl, (u9 _ _ e8), e9, by rw [List.length_take, List.length_map, sizeLine_eq]; show min a (wordsS zS).length + 1 ≤ 16777216; omega, fun t10 m10 => ?_⟩
      have u10 := Same.upd_new (o := .lst (((wordsS zS).map V.str).take a ++ [.str (midS zS a way)])) m10
      have e10 : (upd B9 t10 (.lst (((wordsS zS).map V.str).take a ++ [.str (midS zS a way)]))) t10 = some (.lst (((wordsS zS).map V.str).take a ++ [.str (midS zS a way)])) := upd_same
      generalize upd B9 t10 (.lst (((wordsS zS).map V.str).take a ++ [.str (midS zS a way)])) = B10 at u10 e10 ⊢
      walk_at "r"
      refine ⟨_, rfl, ?_⟩
      walk_at "r"
      refine r_slL (SqL.of (u10 _ _ (u9 _ _ (u8 _ _ dT)))) fun t11 m11 => ?_
      rw [cut_hi _ _ (by rw [List.length_map]; omega)]
      have u11 := Same.upd_new (o := .lst (((wordsS zS).map V.str).drop (a + 1))) m11
      have e11 : (upd B10 t11 (.lst (((wordsS zS).map V.str).drop (a + 1)))) t11 = some (.lst (((wordsS zS).map V.str).drop (a + 1))) := upd_same
      generalize upd B10 t11 (.lst (((wordsS zS).map V.str).drop (a + 1))) = B11 at u11 e11 ⊢
      refine ⟨t10, t11, _, _, rfl, rfl, (u11 _ _ e10), e11, by rw [List.length_append, List.length_take, List.length_drop, List.length_map, sizeLine_eq]; show min a (wordsS zS).length + 1 + _ ≤ 16777216; omega, fun t12 m12 => ?_⟩
      have u12 := Same.upd_new (o := .lst (((wordsS zS).map V.str).take a ++ [.str (midS zS a way)] ++ ((wordsS zS).map V.str).drop (a + 1))) m12
      have e12 : (upd B11 t12 (.lst (((wordsS zS).map V.str).take a ++ [.str (midS zS a way)] ++ ((wordsS zS).map V.str).drop (a + 1)))) t12 = some (.lst (((wordsS zS).take a ++ [midS zS a way] ++ (wordsS zS).drop (a + 1)).map V.str)) := by rw [upd_same]; simp only [List.map_append, List.map_take, List.map_drop, List.map_cons, List.map_nil]
      generalize upd B11 t12 (.lst (((wordsS zS).map V.str).take a ++ [.str (midS zS a way)] ++ ((wordsS zS).map V.str).drop (a + 1))) = B12 at u12 e12 ⊢
      refine ⟨_, t12, ((wordsS zS).take a ++ [midS zS a way] ++ (wordsS zS).drop (a + 1)), rfl, rfl, .inl (SqL.of e12), way_joins zS hz a amem al way wm, ?_⟩
      walk_at "r"
      have eo : Txt.join (" " : Str) ((wordsS zS).take a ++ [midS zS a way] ++ (wordsS zS).drop (a + 1)) = oddW zS a way := rfl
      rw [eo]
      have sTB : Same T B12 := ((((u8.trans u9).trans u10).trans u11).trans u12)
      refine ⟨y6, _, .str (oddW zS a way), rfl, rfl, sTB _ _ oT, by rw [List.length_map, List.length_append, List.length_map, List.length_take, sizeLine_eq]; show (9 + 15) + _ < 16777216; omega, ?_⟩
      walk_at "r"
      refine ⟨_, rfl, fun a' o na e => by rw [upd_ne na]; exact sTB _ _ (sT _ _ na e), ?_⟩
      rw [upd_same, take_next hw]
      simp only [List.map_append, List.map_cons, List.map_nil, List.append_assoc]
    · rintro τ T ⟨v5, rfl, sT, oT⟩
      have dT := sT _ _ nDo hD0
      have gsT := sT _ _ nso hs0
      walk_at "r"
      rw [List.length_map, List.take_length] at oT
      have bW := bG.same sGW
      have nyb : y6 ≠ b := bW.ne hO0 (by intro g m c t e; simp [odd1] at e)
      have bT : BoxAt T b (n + 1) := by
        obtain ⟨g, m, c, t, x1, x2⟩ := bW
        exact ⟨g, m, c, t, sT _ _ (Ne.symm nyb) x1, x2⟩
      have nn : ∀ a o, B7 a = some o → (∀ xs, o ≠ .lst xs) → T a = some o := fun a o e d => sT a o (ne_of e hO0 (d _)) e
      have spT : SpaceAt C T p zS := by
        obtain ⟨dx, tz, q, ts, x1, x2, x3, x4⟩ := spG.same sGW
        exact ⟨dx, tz, q, ts, nn _ _ x1 (by intro _ e; cases e), nn _ _ x2 (by intro _ e; cases e), (by obtain ⟨o, e, d⟩ := x3; exact ⟨o, nn _ _ e (by intro _ e; cases e), d⟩), x4.1, fun i u r a b => nn _ _ (x4.2 i u r a b) (by intro _ e; cases e)⟩
      with_reducible refine r_for ?_
      refine r_il ?_
      walk_at "r"
      refine r_tupleAny (.inl dT) fun t13 B13 u13 e13 => ?_
      walk_at "r"
      refine ⟨by show 0 ≤ sizeLine; decide, fun t14 m14 => ?_⟩
      have u14 := Same.upd_new (o := .lst []) m14
      have e14 : (upd B13 t14 (.lst [])) t14 = some (.lst []) := upd_same
      generalize upd B13 t14 (.lst []) = B14 at u14 e14 ⊢
      walk_at "r"
      intro t15 m15
      have u15 := Same.upd_new (o := .dK []) m15
      have e15 : (upd B14 t15 (.dK [])) t15 = some (.dK []) := upd_same
      generalize upd B14 t15 (.dK []) = B15 at u15 e15 ⊢
      walk_at "r"
      refine r_tupleAny (.inl (u15 _ _ (u14 _ _ (u13 _ _ gsT)))) fun t16 B16 u16 e16 => ?_
      walk_at "r"
      refine ⟨by show 8 ≤ sizeLine; decide, fun t17 m17 => ?_⟩
      have u17 := Same.upd_new (o := .lst [.non, .int 2, .bl true, .ref D, .ref t13, .ref t14, .ref t15, .ref t16]) m17
      have e17 : (upd B16 t17 (.lst [.non, .int 2, .bl true, .ref D, .ref t13, .ref t14, .ref t15, .ref t16])) t17 = some (.lst [.non, .int 2, .bl true, .ref D, .ref t13, .ref t14, .ref t15, .ref t16]) := upd_same
      generalize upd B16 t17 (.lst [.non, .int 2, .bl true, .ref D, .ref t13, .ref t14, .ref t15, .ref t16]) = B17 at u17 e17 ⊢
      refine ⟨y6, t17, _, _, rfl, rfl, (u17 _ _ (u16 _ _ (u15 _ _ (u14 _ _ (u13 _ _ oT))))), e17, by rw [sizeLine_eq]; show 30 + 8 ≤ 16777216; decide, fun t18 m18 => ?_⟩
      have u18 := Same.upd_new (o := .lst ((odd1 zS ++ odd2 zS ++ ways.map (oddW zS a)).map V.str ++ [.non, .int 2, .bl true, .ref D, .ref t13, .ref t14, .ref t15, .ref t16])) m18
      have e18 : (upd B17 t18 (.lst ((odd1 zS ++ odd2 zS ++ ways.map (oddW zS a)).map V.str ++ [.non, .int 2, .bl true, .ref D, .ref t13, .ref t14, .ref t15, .ref t16]))) t18 = some (.lst ((odd1 zS ++ odd2 zS ++ ways.map (oddW zS a)).map V.str ++ [.non, .int 2, .bl true, .ref D, .ref t13, .ref t14, .ref t15, .ref t16])) := upd_same
      generalize upd B17 t18 (.lst ((odd1 zS ++ odd2 zS ++ ways.map (oddW zS a)).map V.str ++ [.non, .int 2, .bl true, .ref D, .ref t13, .ref t14, .ref t15, .ref t16])) = B18 at u18 e18 ⊢
      have sTL : Same T B18 := (((((u13.trans u14).trans u15).trans u16).trans u17).trans u18)
      have spL := spT.same sTL
      obtain ⟨wx1, wx2, wx3⟩ := words_show zS hz
      have what : ∀ (j : Nat) (x : V), ((odd1 zS ++ odd2 zS ++ ways.map (oddW zS a)).map V.str ++ [.non, .int 2, .bl true, .ref D, .ref t13, .ref t14, .ref t15, .ref t16] : List V)[j]? = some x → ∃ d, Dx K B18 x d ∧ (tyD d ≠ "str" ∨ ∃ s, x = .str s ∧ badL s = true) ∧ showsT (zeroD 3 d) = true := by
        intro j x hx
        by_cases c : j < ((odd1 zS ++ odd2 zS ++ ways.map (oddW zS a)).map V.str).length
        · rw [List.getElem?_append_left c] at hx
          obtain ⟨y, hy, rfl⟩ := strs_get hx
          have my := List.mem_of_getElem? hy
          have by_ : badL y = true := by
            rcases List.mem_append.mp my with my | my
            · rcases List.mem_append.mp my with my | my
              · exact List.all_eq_true.mp (bad1 zS hz) y my
              · exact List.all_eq_true.mp (bad2 zS hz) y my
            · obtain ⟨way, mw, rfl⟩ := List.mem_map.mp my
              exact bad3 zS hz a amem al way mw
          refine ⟨_, .str y, .inr ⟨y, rfl, by_⟩, ?_⟩
          simp only [badL, Bool.and_eq_true] at by_
          exact by_.2
        · rw [List.getElem?_append_right (by omega)] at hx
          generalize j - ((odd1 zS ++ odd2 zS ++ ways.map (oddW zS a)).map V.str).length = i at hx
          match i, hx with
          | 0, hx => cases hx; exact ⟨_, .non, .inl (by simp [tyD]), by decide +kernel⟩
          | 1, hx => cases hx; exact ⟨_, .int _, .inl (by simp [tyD]), by decide +kernel⟩
          | 2, hx => cases hx; exact ⟨_, .bl _, .inl (by simp [tyD]), by decide +kernel⟩
          | 3, hx => cases hx; exact ⟨_, .lst (u18 _ _ (u17 _ _ (u16 _ _ (u15 _ _ (u14 _ _ (u13 _ _ dT)))))) (strs_dx _), .inl (by simp [tyD]), wx1⟩
          | 4, hx => cases hx; exact ⟨_, .tup (u18 _ _ (u17 _ _ (u16 _ _ (u15 _ _ (u14 _ _ e13))))) (strs_dx _), .inl (by simp [tyD]), wx2⟩
          | 5, hx => cases hx; exact ⟨_, .lst (u18 _ _ (u17 _ _ (u16 _ _ (u15 _ _ e14)))) .nil, .inl (by simp [tyD]), by decide +kernel⟩
          | 6, hx => cases hx; exact ⟨_, .emp (u18 _ _ (u17 _ _ (u16 _ _ e15))), .inl (by simp [tyD]), by decide +kernel⟩
          | 7, hx => cases hx; exact ⟨_, .tup (u18 _ _ (u17 _ _ e16)) (ints_dx _), .inl (by simp [tyD]), wx3⟩
          | _ + 8, hx => cases hx
      refine ⟨t18, rfl, ⟨_, SqL.of e18⟩, for_list (K := K) (a := t18) (xs := (odd1 zS ++ odd2 zS ++ ways.map (oddW zS a)).map V.str ++ [.non, .int 2, .bl true, .ref D, .ref t13, .ref t14, .ref t15, .ref t16]) (fun j τ T' => ∃ v6 : Option V, τ = [some (.ref b), some (.ref p), some (.ref s), some (.ref D), some (.ref y6), v5, v6, some (.str (lineOf zS)), some (.int (a : Int)), none] ∧ Same B18 T')
        ⟨_, rfl, Same.refl _⟩ (fun j τ T' _ q => ?_) ?_ ?_⟩
      · obtain ⟨_, _, sT'⟩ := q
        exact SqL.of (sT' _ _ e18)
      · rintro j x τ T' hx ⟨v6, rfl, sT'⟩
        obtain ⟨d, hd, ht, sh⟩ := what j x hx
        have hdT := Dx.same sT' _ _ hd
        have hb3 : (∃ d, Dx K T' x d ∧ tyD d ≠ "str") ∨ ∃ s, x = .str s ∧ boundL s = true ∧ ((Txt.split s " ").all digW && sizesD (.list ((Txt.split s " ").map fun w => .int (valW w)))) = false := by
          rcases ht with ht | ⟨y, rfl, by_⟩
          · exact .inl ⟨d, hdT, ht⟩
          · simp only [badL, Bool.and_eq_true, Bool.not_eq_true'] at by_
            exact .inr ⟨y, rfl, by_.1.1, by_.1.2⟩
        walk_at "r"
        refine ⟨3, p, _, zS, rfl, hz, spL.same sT', .inr (.inr (.inr (.inr (.inr (.inr (.inr ⟨rfl, hb3, fun A3 s3' l' A4 nl s4' gl' => ?_⟩))))))⟩
        walk_at "r"
        refine r_reprX (zero_dx gl' (Dx.same (s3'.trans s4') _ _ hdT)) (.inr sh) ?_
        walk_at "r"
        refine ⟨by show 2 ≤ sizeLine; decide, fun u nu => ?_⟩
        have su := Same.upd_new (o := .lst [.int 3, x]) nu
        have gu : (upd A4 u (.lst [.int 3, x])) u = some (.lst [.int 3, x]) := upd_same
        generalize upd A4 u (.lst [.int 3, x]) = A5 at su gu ⊢
        walk_at "r"
        refine r_reprX (zero_dx gu (Dx.same ((s3'.trans s4').trans su) _ _ hdT)) (.inr sh) ?_
        walk_at "r"
        rw [decide_eq_true rfl]
        walk_at "r"
        exact ⟨_, rfl, sT'.trans ((s3'.trans s4').trans su)⟩
      · rintro τ T' ⟨v6, rfl, sT'⟩
        walk_at "r"
        refine ⟨3, p, _, zS, rfl, hz, spL.same sT', .inr (.inr (.inr (.inr (.inr (.inr (.inl ⟨rfl, zS, rfl, hz, fun A3 s3' l' A4 nl s4' gl' => ?_⟩))))))⟩
        walk_at "r"
        refine ⟨by show 2 ≤ sizeLine; decide, fun u nu => ?_⟩
        have su := Same.upd_new (o := .lst [.str "told", .str (lineOf zS)]) nu
        obtain ⟨q1, q2⟩ := told_eq zS hz
        refine ⟨toldD (lineOf zS), toldD (lineOf zS), (told_dx (su _ _ gl')).plain _ _ (by rfl), (told_dx (s := lineOf zS) upd_same).plain _ _ (by rfl), q1, q1, ?_⟩
        rw [q2]
        have allT : Same T (upd A4 u (.lst [.str "told", .str (lineOf zS)])) := sTL.trans (sT'.trans ((s3'.trans s4').trans su))
        have btT : But b H T := fun a' o na e => by
          have eG := btHG a' o na e
          refine sT a' o (fun e' => ?_) (sGW _ _ eG)
          have h9 := (u5 _ _ (u4 _ _ (u3 _ _ (u2 _ _ (u1 _ _ (u0 _ _ eG))))))
          rw [e', m6] at h9
          cases h9
        exact k _ ((bT.same allT).mono (by omega)) (btT.trans (But.of allT))
end
end Eld
set_option Elab.async false
set_option maxRecDepth 100000
set_option maxHeartbeats 4000000
set_option linter.all false
namespace Eld
open PySem L2
local macro_rules | `(tactic| walk_at "r1") => `(tactic| with_reducible first
  | refine r_seq ?_ | refine r_asgN ?_ | refine r_asg ?_ | refine r_gname ?_ | refine r_gsub ?_ | refine r_var rfl ?_ | refine r_c ?_ | refine r_op ?_ | refine r_un ?_ | refine r_u ?_ | refine r_i0 ?_ | refine r_cb ?_ | refine r_cons ?_ | refine r_nil ?_ | refine r_cl ?_ | refine r_fn rfl rfl ?_ | refine r_mt ?_
  | refine r_test ?_ | refine r_tb ?_ | refine r_bl ?_ | refine r_and ?_ | refine r_or ?_ | refine r_not ?_ | refine r_andV ?_ | refine r_orV ?_ | refine r_notV ?_ | refine r_ifX ?_ | refine r_ifs ?_ | refine r_chain ?_ | refine r_ret ?_ | refine r_next ?_ | refine r_drop ?_ | refine iteT ?_ | refine iteF ?_ | refine iteNT ?_ | refine iteNF ?_
  | refine r_int1 ?_ | refine r_boolB ?_ | refine r_eqI ?_ | refine r_neI ?_ | refine r_eqB ?_ | refine r_neB ?_ | refine r_eqS ?_ | refine r_neS ?_ | refine r_abs ?_ | refine r_max2 ?_ | refine r_min2 ?_ | refine r_yes ?_ | refine r_tup ?_ | refine r_sfld ?_ | refine r_m0 ?_ | refine r_m1 ?_ | refine r_lst ?_ | refine r_rng1 ?_ | refine r_rng2 ?_ | refine r_ixL (SqL.of (by assumption)) rfl ?_)
local macro_rules | `(tactic| walk_at "r") => `(tactic| repeat (first | walk_at "r1" | ((with_reducible refine r_var ?hv ?_); (case hv => rfl))))

local macro_rules | `(tactic| walk_at "r1") => `(tactic| with_reducible first | refine r_clS ?_ | refine r_fnS rfl rfl ?_ | refine r_mtS ?_)
def spRight : Sp := fun vs H Q _ => ∃ b, vs = [.ref b] ∧ BoxAt H b 0 ∧ ∀ H', But b H H' → Q (.bl true) H'
section
variable {P : Program} {w : World} {K : PySem.W.Frag} {mg : Str → Option Value} {base : Heap} {C c0 c3 : Addr}
theorem ok_right {f : Addr} {fd : FuncData} (F : Fun K "_law_right" "_law_right" s__law_right f fd) (Z : Zs mg) (S : Sc K mg C) (d__law_take : DefD P w K mg base 1 "_law_take" 2 [] byPlace spTake) (d__law_product : DefD P w K mg base 1 "_law_product" 1 [] byPlace spProduct)
    (k_Space : MakX P w K mg base 4 "Space" C 1 [] byPlace (spInitX C c0 K)) (d_read_space : DefX P w K mg base 6 "read_space" 1 [] byPlace (spReadY C c3 K)) (d__law_sizes_right : DefD P w K mg base 9 "_law_sizes_right" 2 [] byPlace (spSizesRight C)) (d__law_stores_right : DefD P w K mg base 9 "_law_stores_right" 2 [] byPlace (spStoresRight C))
    (d__law_values_right : DefD P w K mg base 9 "_law_values_right" 3 [] byPlace (spValuesRight C)) (d__law_lines_right : DefD P w K mg base 9 "_law_lines_right" 3 [] byPlace (spLinesRight C)) (d__law_grown_right : DefD P w K mg base 9 "_law_grown_right" 1 [] byPlace (spGrown C)) : FnG P w K mg base CX0 10 f fd ["box"] spRight := by
  refine okG F sc__law_right (fun vs H Q E h => ?_) (fun cdv B up z H vs Q E hG hr h => ?_)
  · obtain ⟨b, rfl, _⟩ := h
    rfl
  · have hu : (B.deeper (PyProof.Rows.envOfC "_law_right" (defScope s__law_right) z.heap.objs.size f cdv)).units + 64 < cLine := by have := hr.un; omega
    obtain ⟨b, rfl, hb, k⟩ := h
    refine ⟨_, (pss_cons (ps_set (i := 1) sc__law_right.nd rfl (by first | exact Or.inl rfl | exact Or.inr rfl) (pe_lst (pa_cons (pe_lst (pa_cons pe_int pa_nil)) (pa_cons (pe_lst (pa_cons pe_int pa_nil)) (pa_cons (pe_lst (pa_cons pe_int pa_nil)) (pa_cons (pe_lst (pa_cons pe_int pa_nil)) (pa_cons (pe_lst (pa_cons pe_int pa_nil)) (pa_cons (pe_lst (pa_cons pe_int pa_nil)) (pa_cons (pe_lst (pa_cons pe_int pa_nil)) (pa_cons (pe_lst (pa_cons pe_int (pa_cons pe_int pa_nil))) (pa_cons (pe_lst (pa_cons pe_int (pa_cons pe_int pa_nil))) (pa_cons (pe_lst (pa_cons pe_int (pa_cons pe_int pa_nil))) (pa_cons (pe_lst (pa_cons pe_int (pa_cons pe_int pa_nil))) (pa_cons (pe_lst (pa_cons pe_int (pa_cons pe_int pa_nil))) (pa_cons (pe_lst (pa_cons pe_int (pa_cons pe_int (pa_cons pe_int pa_nil)))) pa_nil)))))))))))))))
  (pss_cons (ps_set (i := 2) sc__law_right.nd rfl (by first | exact Or.inl rfl | exact Or.inr rfl) (pe_ix (show IxR _ (rIxL K) from ix_list) (pv 1) (pd_pos d__law_take hG hr (by decide) (by rfl) (pa_cons (pv 0) (pa_cons pe_int pa_nil))) (fun _ _ => rfl)))
  (pss_cons (ps_set (i := 3) sc__law_right.nd rfl (by first | exact Or.inl rfl | exact Or.inr rfl) (pe_ifExp (pt_cmpR op_eq (pd_pos d__law_take hG hr (by decide) (by rfl) (pa_cons (pv 0) (pa_cons pe_int pa_nil))) pe_int (nomark _)) (pkX_pos k_Space takes0 hG hr (by decide) (by rfl) (pa_cons (pe_callTy (show CallR _ _ (rListOf K) from c_list) (by rfl) Z.list_ (by decide +kernel) (pa_cons (pv 2) pa_nil)) pa_nil)) (pdX_pos d_read_space takes0 hG hr (by decide) (by rfl) (pa_cons (pe_join pe_str (pe_lc (own := [("size", 5)]) (tt := tYes) rfl sc__law_right.nd (pi_list (pv 2)) (blkOk_by (N := ["box", "menu", "sizes", "space", "turn", "size"]) (sc := defScope s__law_right) (by decide +kernel)) (fun _ _ _ _ _ => (pg_name (i := 5) sc__law_right.nd rfl (by first | exact Or.inl rfl | exact Or.inr rfl))) (fun _ _ _ _ _ => pts_nil) (fun _ _ _ _ _ => (pe_callTy c_str (by rfl) Z.str_ (by decide +kernel) (pa_cons (pv 5) pa_nil))))) pa_nil))))
  (pss_cons (ps_for PassesOwn.never rfl (pi_range1 (by rfl) Z.range_ (pa_cons pe_int pa_nil)) (pg_name (i := 4) sc__law_right.nd rfl (by first | exact Or.inl rfl | exact Or.inr rfl))
  (pss_cons (ps_if (PW.pt (pw_or (pt_not (pt_val (pd_pos d__law_sizes_right hG hr (by decide) (by rfl) (pa_cons (pv 0) (pa_cons (pv 3) pa_nil))))) (pw_or1 (pt_not (pt_val (pd_pos d__law_stores_right hG hr (by decide) (by rfl) (pa_cons (pv 3) (pa_cons (pd_pos d__law_product hG hr (by decide) (by rfl) (pa_cons (pv 2) pa_nil)) pa_nil)))))))) (pss_one (ps_ret pe_bl)) pss_nil)
  (pss_one (ps_if (PW.pt (pw_or (pt_not (pt_val (pd_pos d__law_values_right hG hr (by decide) (by rfl) (pa_cons (pv 0) (pa_cons (pv 3) (pa_cons (pv 2) pa_nil)))))) (pw_or1 (pt_not (pt_val (pd_pos d__law_lines_right hG hr (by decide) (by rfl) (pa_cons (pv 0) (pa_cons (pv 3) (pa_cons (pv 2) pa_nil))))))))) (pss_one (ps_ret pe_bl)) pss_nil))))
  (pss_one (ps_ret (pe_and (pd_pos d__law_grown_right hG hr (by decide) (by rfl) (pa_cons (pv 3) pa_nil)) (pe_one (pe_cmpR (show OpR _ _ (rEqD K) from op_eqD hu) (pe_fld (pv 3) rfl) (pe_callTy (show CallR _ _ (rTupleOf K) from c_tuple) (by rfl) Z.tuple_ (by decide +kernel) (pa_cons (pv 2) pa_nil)) (nomark _)))))))))), ?_⟩
    walk_at "r"
    refine ⟨by show 1 ≤ sizeLine; decide, fun l0 m0 => ?_⟩
    have u0 := Same.upd_new (o := .lst [.int 2]) m0
    have e0 : (upd H l0 (.lst [.int 2])) l0 = some (.lst [.int 2]) := upd_same
    generalize upd H l0 (.lst [.int 2]) = B0 at u0 e0 ⊢
    walk_at "r"
    refine ⟨by show 1 ≤ sizeLine; decide, fun l1 m1 => ?_⟩
    have u1 := Same.upd_new (o := .lst [.int 3]) m1
    have e1 : (upd B0 l1 (.lst [.int 3])) l1 = some (.lst [.int 3]) := upd_same
    generalize upd B0 l1 (.lst [.int 3]) = B1 at u1 e1 ⊢
    walk_at "r"
    refine ⟨by show 1 ≤ sizeLine; decide, fun l2 m2 => ?_⟩
    have u2 := Same.upd_new (o := .lst [.int 4]) m2
    have e2 : (upd B1 l2 (.lst [.int 4])) l2 = some (.lst [.int 4]) := upd_same
    generalize upd B1 l2 (.lst [.int 4]) = B2 at u2 e2 ⊢
    walk_at "r"
    refine ⟨by show 1 ≤ sizeLine; decide, fun l3 m3 => ?_⟩
    have u3 := Same.upd_new (o := .lst [.int 5]) m3
    have e3 : (upd B2 l3 (.lst [.int 5])) l3 = some (.lst [.int 5]) := upd_same
    generalize upd B2 l3 (.lst [.int 5]) = B3 at u3 e3 ⊢
    walk_at "r"
    refine ⟨by show 1 ≤ sizeLine; decide, fun l4 m4 => ?_⟩
    have u4 := Same.upd_new (o := .lst [.int 6]) m4
    have e4 : (upd B3 l4 (.lst [.int 6])) l4 = some (.lst [.int 6]) := upd_same
    generalize upd B3 l4 (.lst [.int 6]) = B4 at u4 e4 ⊢
    walk_at "r"
    refine ⟨by show 1 ≤ sizeLine; decide, fun l5 m5 => ?_⟩
    have u5 := Same.upd_new (o := .lst [.int 7]) m5
    have e5 : (upd B4 l5 (.lst [.int 7])) l5 = some (.lst [.int 7]) := upd_same
    generalize upd B4 l5 (.lst [.int 7]) = B5 at u5 e5 ⊢
    walk_at "r"
    refine ⟨by show 1 ≤ sizeLine; decide, fun l6 m6 => ?_⟩
    have u6 := Same.upd_new (o := .lst [.int 8]) m6
    have e6 : (upd B5 l6 (.lst [.int 8])) l6 = some (.lst [.int 8]) := upd_same
    generalize upd B5 l6 (.lst [.int 8]) = B6 at u6 e6 ⊢
    walk_at "r"
    refine ⟨by show 2 ≤ sizeLine; decide, fun l7 m7 => ?_⟩
    have u7 := Same.upd_new (o := .lst [.int 2, .int 2]) m7
    have e7 : (upd B6 l7 (.lst [.int 2, .int 2])) l7 = some (.lst [.int 2, .int 2]) := upd_same
    generalize upd B6 l7 (.lst [.int 2, .int 2]) = B7 at u7 e7 ⊢
    walk_at "r"
    refine ⟨by show 2 ≤ sizeLine; decide, fun l8 m8 => ?_⟩
    have u8 := Same.upd_new (o := .lst [.int 2, .int 3]) m8
    have e8 : (upd B7 l8 (.lst [.int 2, .int 3])) l8 = some (.lst [.int 2, .int 3]) := upd_same
    generalize upd B7 l8 (.lst [.int 2, .int 3]) = B8 at u8 e8 ⊢
    walk_at "r"
    refine ⟨by show 2 ≤ sizeLine; decide, fun l9 m9 => ?_⟩
    have u9 := Same.upd_new (o := .lst [.int 2, .int 4]) m9
    have e9 : (upd B8 l9 (.lst [.int 2, .int 4])) l9 = some (.lst [.int 2, .int 4]) := upd_same
    generalize upd B8 l9 (.lst [.int 2, .int 4]) = B9 at u9 e9 ⊢
    walk_at "r"
    refine ⟨by show 2 ≤ sizeLine; decide, fun l10 m10 => ?_⟩
    have u10 := Same.upd_new (o := .lst [.int 3, .int 2]) m10
    have e10 : (upd B9 l10 (.lst [.int 3, .int 2])) l10 = some (.lst [.int 3, .int 2]) := upd_same
    generalize upd B9 l10 (.lst [.int 3, .int 2]) = B10 at u10 e10 ⊢
    walk_at "r"
    refine ⟨by show 2 ≤ sizeLine; decide, fun l11 m11 => ?_⟩
    have u11 := Same.upd_new (o := .lst [.int 4, .int 2]) m11
    have e11 : (upd B10 l11 (.lst [.int 4, .int 2])) l11 = some (.lst [.int 4, .int 2]) := upd_same
    generalize upd B10 l11 (.lst [.int 4, .int 2]) = B11 at u11 e11 ⊢
    walk_at "r"
    refine ⟨by show 3 ≤ sizeLine; decide, fun l12 m12 => ?_⟩
    have u12 := Same.upd_new (o := .lst [.int 2, .int 2, .int 2]) m12
    have e12 : (upd B11 l12 (.lst [.int 2, .int 2, .int 2])) l12 = some (.lst [.int 2, .int 2, .int 2]) := upd_same
    generalize upd B11 l12 (.lst [.int 2, .int 2, .int 2]) = B12 at u12 e12 ⊢
    walk_at "r"
    refine ⟨by show 13 ≤ sizeLine; decide, fun lm mm => ?_⟩
    have u13 := Same.upd_new (o := .lst [.ref l0, .ref l1, .ref l2, .ref l3, .ref l4, .ref l5, .ref l6, .ref l7, .ref l8, .ref l9, .ref l10, .ref l11, .ref l12]) mm
    have e13 : (upd B12 lm (.lst [.ref l0, .ref l1, .ref l2, .ref l3, .ref l4, .ref l5, .ref l6, .ref l7, .ref l8, .ref l9, .ref l10, .ref l11, .ref l12])) lm = some (.lst [.ref l0, .ref l1, .ref l2, .ref l3, .ref l4, .ref l5, .ref l6, .ref l7, .ref l8, .ref l9, .ref l10, .ref l11, .ref l12]) := upd_same
    generalize upd B12 lm (.lst [.ref l0, .ref l1, .ref l2, .ref l3, .ref l4, .ref l5, .ref l6, .ref l7, .ref l8, .ref l9, .ref l10, .ref l11, .ref l12]) = G at u13 e13 ⊢
    have sHG : Same H G := (((((((((((((u0.trans u1).trans u2).trans u3).trans u4).trans u5).trans u6).trans u7).trans u8).trans u9).trans u10).trans u11).trans u12).trans u13)
    have hsel : ∀ (i : Nat), i < 13 → ∃ ls zS, ([.ref l0, .ref l1, .ref l2, .ref l3, .ref l4, .ref l5, .ref l6, .ref l7, .ref l8, .ref l9, .ref l10, .ref l11, .ref l12] : List V)[i]? = some (.ref ls) ∧ zS ∈ menu ∧ G ls = some (.lst (zS.map V.int)) := by
      intro i hi
      match i, hi with
      | 0, _ => exact ⟨l0, [2], rfl, by decide, (u13 _ _ (u12 _ _ (u11 _ _ (u10 _ _ (u9 _ _ (u8 _ _ (u7 _ _ (u6 _ _ (u5 _ _ (u4 _ _ (u3 _ _ (u2 _ _ (u1 _ _ e0)))))))))))))⟩
      | 1, _ => exact ⟨l1, [3], rfl, by decide, (u13 _ _ (u12 _ _ (u11 _ _ (u10 _ _ (u9 _ _ (u8 _ _ (u7 _ _ (u6 _ _ (u5 _ _ (u4 _ _ (u3 _ _ (u2 _ _ e1))))))))))))⟩
      | 2, _ => exact ⟨l2, [4], rfl, by decide, (u13 _ _ (u12 _ _ (u11 _ _ (u10 _ _ (u9 _ _ (u8 _ _ (u7 _ _ (u6 _ _ (u5 _ _ (u4 _ _ (u3 _ _ e2)))))))))))⟩
      | 3, _ => exact ⟨l3, [5], rfl, by decide, (u13 _ _ (u12 _ _ (u11 _ _ (u10 _ _ (u9 _ _ (u8 _ _ (u7 _ _ (u6 _ _ (u5 _ _ (u4 _ _ e3))))))))))⟩
      | 4, _ => exact ⟨l4, [6], rfl, by decide, (u13 _ _ (u12 _ _ (u11 _ _ (u10 _ _ (u9 _ _ (u8 _ _ (u7 _ _ (u6 _ _ (u5 _ _ e4)))))))))⟩
      | 5, _ => exact ⟨l5, [7], rfl, by decide, (u13 _ _ (u12 _ _ (u11 _ _ (u10 _ _ (u9 _ _ (u8 _ _ (u7 _ _ (u6 _ _ e5))))))))⟩
      | 6, _ => exact ⟨l6, [8], rfl, by decide, (u13 _ _ (u12 _ _ (u11 _ _ (u10 _ _ (u9 _ _ (u8 _ _ (u7 _ _ e6)))))))⟩
      | 7, _ => exact ⟨l7, [2, 2], rfl, by decide, (u13 _ _ (u12 _ _ (u11 _ _ (u10 _ _ (u9 _ _ (u8 _ _ e7))))))⟩
      | 8, _ => exact ⟨l8, [2, 3], rfl, by decide, (u13 _ _ (u12 _ _ (u11 _ _ (u10 _ _ (u9 _ _ e8)))))⟩
      | 9, _ => exact ⟨l9, [2, 4], rfl, by decide, (u13 _ _ (u12 _ _ (u11 _ _ (u10 _ _ e9))))⟩
      | 10, _ => exact ⟨l10, [3, 2], rfl, by decide, (u13 _ _ (u12 _ _ (u11 _ _ e10)))⟩
      | 11, _ => exact ⟨l11, [4, 2], rfl, by decide, (u13 _ _ (u12 _ _ e11))⟩
      | 12, _ => exact ⟨l12, [2, 2, 2], rfl, by decide, (u13 _ _ e12)⟩
      | _ + 13, h => omega
    have bG := hb.same sHG
    walk_at "r"
    refine ⟨b, _, _, rfl, bG, by omega, by omega, by omega, fun r G1 r0 r1 b1 bt1 => ?_⟩
    obtain ⟨r, rfl⟩ := Int.eq_ofNat_of_zero_le r0
    obtain ⟨s, zS, hr1, hz, hs⟩ := hsel r (by omega)
    have hm1 : G1 lm = some (.lst [.ref l0, .ref l1, .ref l2, .ref l3, .ref l4, .ref l5, .ref l6, .ref l7, .ref l8, .ref l9, .ref l10, .ref l11, .ref l12]) := bt1 _ _ (bG.ne e13 (by intro _ _ _ _ e; cases e)) e13
    have hs1 : G1 s = some (.lst (zS.map V.int)) := bt1 _ _ (bG.ne hs (ints_nb zS)) hs
    walk_at "r"
    refine r_ixL (SqL.of hm1) (atI_nat hr1) ?_
    walk_at "r"
    refine ⟨b, _, _, rfl, b1, by omega, by omega, by omega, fun r2 G2 r20 r21 b2 bt2 => ?_⟩
    have hs2 : G2 s = some (.lst (zS.map V.int)) := bt2 _ _ (b1.ne hs1 (ints_nb zS)) hs1
    have bHG2 : But b H G2 := ((But.of sHG).trans bt1).trans bt2
    have b2' : BoxAt G2 b 2 := b2.mono (by omega)
    walk_at "r"
    refine if_both (fun Q => ∀ G' p, Same G2 G' → SpaceAt C G' p zS → Q (.ref p) G') (fun c Q q => ?_) (fun c Q q => ?_) ?_
    · walk_at "r"
      refine r_listL (SqL.of hs2) fun h1 nh1 => ?_
      have s3 := Same.upd_new (o := .lst (zS.map V.int)) nh1
      have g3 : (upd G2 h1 (.lst (zS.map V.int))) h1 = some (.lst (zS.map V.int)) := upd_same
      generalize upd G2 h1 (.lst (zS.map V.int)) = G3 at s3 g3 ⊢
      walk_at "r"
      refine r_mkS rfl rfl fun x dx2 hx hdx hne => ?_
      have new : Same G3 (upd (upd G3 dx2 (.own x)) x (.ins C dx2 [])) := fun b o e => by
        rw [upd_ne (ne_of_none e hx), upd_ne (ne_of_none e hdx)]
        exact e
      refine ⟨x, _, dx2, rfl, upd_same, .inl ⟨h1, zS, rfl, hz, .inl (new _ _ g3), fun H5 s5 sp5 => ⟨rfl, ?_⟩⟩⟩
      have s05 : Same G3 H5 := fun b o e => s5 b o (ne_of_none e hx) (new _ _ e)
      exact q H5 x (s3.trans s05) sp5
    · walk_at "r"
      refine ⟨⟨_, rfl⟩, ?_⟩
      refine r_lc ?_
      walk_at "r"
      refine ⟨_, rfl, s, rfl, ⟨_, SqL.of hs2⟩, fun D hD => ?_⟩
      refine it_list (xs := zS.map V.int) (fun i A => Same G2 A ∧ A D = some (.lst ((zS.take i).map fun z => V.str (numStr z)))) ⟨Same.upd_new hD, upd_same⟩ (fun i A _ s => SqL.of (s.1 _ _ hs2)) (fun i x A hx s => ?_) (fun A s => ?_)
      · obtain ⟨y, hy, rfl⟩ := map_get hx
        obtain ⟨y1, y2⟩ := menu_mem zS hz y (List.mem_of_getElem? hy)
        refine r_gname ⟨rfl, ?_⟩
        walk_at "r"
        refine r_strI (num_small y y1 y2) ?_
        have := (menu_len zS hz).2
        refine ⟨_, s.2, by rw [List.length_map, List.length_take, sizeLine_eq]; omega, Same.over s.1 hD, ?_⟩
        rw [upd_same, take_next hy, List.map_append]
        rfl
      obtain ⟨sA, dA⟩ := s
      have e : (zS.take (zS.map V.int).length).map (fun z => V.str (numStr z)) = (wordsS zS).map V.str := by
        rw [List.length_map, List.take_length, wordsS, List.map_map]
        rfl
      rw [e] at dA
      refine ⟨_, D, wordsS zS, rfl, rfl, .inl (SqL.of dA), menu_line zS hz, ?_⟩
      have el : Txt.join (" " : Str) (wordsS zS) = lineOf zS := rfl
      rw [el]
      walk_at "r"
      refine ⟨_, rfl, .inl ⟨zS, rfl, hz, fun H5 x s5 n5 sp5 => ?_⟩⟩
      exact q H5 x (sA.trans s5) sp5
    intro G4 p s24 sp4
    have hs4 := s24 _ _ hs2
    have b4 := b2'.same s24
    have bH4 : But b H G4 := bHG2.trans (But.of s24)
    walk_at "r"
    with_reducible refine r_for ?_
    walk_at "r"
    refine ⟨_, rfl, by decide, by decide, ?_⟩
    refine for_range (fun i τ T => ∃ v4 : Option V, τ = [some (.ref b), some (.ref lm), some (.ref s), some (.ref p), v4, none] ∧ BoxAt T b (2 + 100 * i) ∧ But b G4 T) ⟨none, rfl, b4, But.refl _⟩ ?_ ?_
    · rintro i τ T hi ⟨v4, rfl, bT, btT⟩
      have i2 : i < 2 := hi
      have spT := sp4.but b4 btT
      have sT : T s = some (.lst (zS.map V.int)) := btT _ _ (b4.ne hs4 (ints_nb zS)) hs4
      walk_at "r"
      refine ⟨b, p, _, zS, rfl, hz, bT, by omega, spT, fun T1 bx1 bu1 => ?_⟩
      have sp1 := spT.but bT bu1
      have sT1 : T1 s = some (.lst (zS.map V.int)) := bu1 _ _ (bT.ne sT (ints_nb zS)) sT
      walk_at "r"
      refine ⟨s, zS, rfl, sT1, fun i => ?_, ?_⟩
      · by_cases c : i < 4
        · exact menu_part zS hz i c
        · have := menu_part zS hz 3 (by decide)
          have z3 := (menu_len zS hz).2
          rw [List.take_of_length_le (show zS.length ≤ i by omega)]
          rw [List.take_of_length_le (show zS.length ≤ 3 by omega)] at this
          exact this
      walk_at "r"
      rw [(menu_count zS hz).1]
      refine ⟨p, zS, rfl, hz, sp1, fun T2 s2 => ?_⟩
      have bx2 := bx1.same s2
      have sp2 := sp1.same s2
      have sT2 := s2 _ _ sT1
      walk_at "r"
      refine ⟨b, p, s, _, zS, rfl, hz, bx2, by omega, sp2, sT2, fun T3 bx3 bu3 => ?_⟩
      have sp3 := sp2.but bx2 bu3
      have sT3 : T3 s = some (.lst (zS.map V.int)) := bu3 _ _ (bx2.ne sT2 (ints_nb zS)) sT2
      walk_at "r"
      refine ⟨b, p, s, _, zS, rfl, hz, bx3, by omega, sp3, sT3, fun T4 bx4 bu4 => ?_⟩
      walk_at "r"
      exact ⟨_, rfl, bx4.mono (by omega), (((btT.trans bu1).trans (But.of s2)).trans bu3).trans bu4⟩
    · rintro τ T ⟨v4, rfl, bT, btT⟩
      have spT := sp4.but b4 btT
      have sT : T s = some (.lst (zS.map V.int)) := btT _ _ (b4.ne hs4 (ints_nb zS)) hs4
      walk_at "r"
      refine ⟨p, zS, rfl, hz, spT, fun T1 s1 => ?_⟩
      walk_at "r"
      obtain ⟨dy, ty, qy, tsy, y1, y2, y3, y4⟩ := spT.same s1
      refine ⟨_, rfl, p, C, dy, _, _, rfl, y1, S.cl, S.nS, spF_sizes _ _ _, ?_⟩
      walk_at "r"
      refine r_tupleAny (.inl (s1 _ _ sT)) fun t9 T9 s9 g9 => ?_
      refine ⟨tupD zS, tupD zS, tup_dp (s9 _ _ y2), tup_dp g9, tup_shaped zS, tup_shaped zS, ?_⟩
      rw [tup_eqv, decide_eq_true rfl]
      exact k T9 (bH4.trans (btT.trans (But.of (s1.trans s9))))
end
end Eld
set_option Elab.async false
set_option maxRecDepth 100000
set_option maxHeartbeats 4000000
set_option linter.all false
namespace Eld
open PySem L2
local macro_rules | `(tactic| walk_at "r1") => `(tactic| with_reducible first
  | refine r_seq ?_ | refine r_asgN ?_ | refine r_asg ?_ | refine r_gname ?_ | refine r_gsub ?_ | refine r_var rfl ?_ | refine r_c ?_ | refine r_op ?_ | refine r_un ?_ | refine r_u ?_ | refine r_i0 ?_ | refine r_cb ?_ | refine r_cons ?_ | refine r_nil ?_ | refine r_cl ?_ | refine r_fn rfl rfl ?_ | refine r_mt ?_
  | refine r_test ?_ | refine r_tb ?_ | refine r_bl ?_ | refine r_and ?_ | refine r_or ?_ | refine r_not ?_ | refine r_andV ?_ | refine r_orV ?_ | refine r_notV ?_ | refine r_ifX ?_ | refine r_ifs ?_ | refine r_chain ?_ | refine r_ret ?_ | refine r_next ?_ | refine r_drop ?_ | refine iteT ?_ | refine iteF ?_ | refine iteNT ?_ | refine iteNF ?_
  | refine r_int1 ?_ | refine r_boolB ?_ | refine r_eqI ?_ | refine r_neI ?_ | refine r_eqB ?_ | refine r_neB ?_ | refine r_eqS ?_ | refine r_neS ?_ | refine r_abs ?_ | refine r_max2 ?_ | refine r_min2 ?_ | refine r_yes ?_ | refine r_tup ?_ | refine r_sfld ?_ | refine r_m0 ?_ | refine r_m1 ?_ | refine r_lst ?_ | refine r_rng1 ?_ | refine r_rng2 ?_ | refine r_ixL (SqL.of (by assumption)) rfl ?_)
local macro_rules | `(tactic| walk_at "r") => `(tactic| repeat (first | walk_at "r1" | ((with_reducible refine r_var ?hv ?_); (case hv => rfl))))

def spLaw (K : PySem.W.Frag) : Sp := fun vs H Q _ => ∃ (a : Addr) (ns : List Int), vs = [.ref a] ∧ ns.length ≤ sizeLine ∧ SqL K H a (ns.map V.int) ∧ ∀ G, Q (.bl true) G
section
variable {P : Program} {w : World} {K : PySem.W.Frag} {mg : Str → Option Value} {base : Heap}
theorem ok_law {f : Addr} {fd : FuncData} (F : Fun K "law" "law" s_law f fd) (Z : Zs mg) (d__law_cell : DefD P w K mg base 1 "_law_cell" 2 [] byPlace (spCell K)) (d__law_box : DefD P w K mg base 1 "_law_box" 1 [] byPlace spBox)
    (d__law_right : DefD P w K mg base 10 "_law_right" 1 [] byPlace spRight) : FnG P w K mg base CX0 11 f fd ["script"] (spLaw K) := by
  refine okG F sc_law (fun vs H Q E h => ?_) (fun cdv B up z H vs Q E hG hr h => ?_)
  · obtain ⟨a, ns, rfl, _⟩ := h
    rfl
  · obtain ⟨a, ns, rfl, hl, ha, k⟩ := h
    refine ⟨_, (pss_cons (ps_for PassesOwn.never rfl (pi_range1 (by rfl) Z.range_ (pa_cons (pe_callB (c_max2 rfl) (by rfl) Z.max_ (by decide +kernel) (pa_cons pe_int (pa_cons (pe_callB (c_min2 rfl) (by rfl) Z.min_ (by decide +kernel) (pa_cons pe_int (pa_cons (pe_callB (show CallR _ _ (rLen K) from c_len) (by rfl) Z.len_ (by decide +kernel) (pa_cons (pv 0) pa_nil)) pa_nil))) pa_nil))) pa_nil)) (pg_name (i := 1) sc_law.nd rfl (by first | exact Or.inl rfl | exact Or.inr rfl))
  (pss_one (ps_if (pt_not (pt_val (pd_pos d__law_right hG hr (by decide) (by rfl) (pa_cons (pd_pos d__law_box hG hr (by decide) (by rfl) (pa_cons (pd_pos d__law_cell hG hr (by decide) (by rfl) (pa_cons (pv 0) (pa_cons (pv 1) pa_nil))) pa_nil)) pa_nil)))) (pss_one (ps_ret pe_bl)) pss_nil)))
  (pss_one (ps_ret pe_bl))), ?_⟩
    refine r_seq ?_
    refine r_for ?_
    walk_at "r"
    refine r_lenL ha ?_
    walk_at "r"
    generalize hm : (if (if ((ns.map V.int).length : Int) < 4 then ((ns.map V.int).length : Int) else 4) > 2 then (if ((ns.map V.int).length : Int) < 4 then ((ns.map V.int).length : Int) else 4) else 2) = m
    have m4 : 0 ≤ m ∧ m ≤ 4 := by rw [← hm]; split <;> split <;> omega
    refine ⟨_, rfl, by omega, by omega, ?_⟩
    refine for_range (fun i τ G => ∃ v1 : Option V, τ = [some (.ref a), v1] ∧ Same H G) ⟨none, rfl, Same.refl H⟩ ?_ ?_
    · rintro i τ G hi ⟨v1, rfl, sG⟩
      rw [Int.zero_add]
      walk_at "r"
      refine ⟨a, ns, i, rfl, by omega, hl, SqL.same ha sG, fun r G2 s2 => ?_⟩
      walk_at "r"
      refine ⟨r, rfl, fun b G3 s3 n3 b3 => ?_⟩
      walk_at "r"
      refine ⟨b, rfl, b3, fun G4 bt => ?_⟩
      walk_at "r"
      exact ⟨_, rfl, fun a' o e => bt _ _ (ne_of_none (sG.trans s2 _ _ e) n3) (s3 _ _ (s2 _ _ (sG _ _ e)))⟩
    · rintro τ G ⟨v1, rfl, sG⟩
      walk_at "r"
      exact k G
end
end Eld
set_option Elab.async false
set_option maxRecDepth 100000
set_option maxHeartbeats 4000000
set_option linter.all false
namespace Eld
open PySem L2
local macro_rules | `(tactic| walk_at "r1") => `(tactic| with_reducible first
  | refine r_seq ?_ | refine r_asgN ?_ | refine r_asg ?_ | refine r_gname ?_ | refine r_gsub ?_ | refine r_var rfl ?_ | refine r_c ?_ | refine r_op ?_ | refine r_un ?_ | refine r_u ?_ | refine r_i0 ?_ | refine r_cb ?_ | refine r_cons ?_ | refine r_nil ?_ | refine r_cl ?_ | refine r_fn rfl rfl ?_ | refine r_mt ?_
  | refine r_test ?_ | refine r_tb ?_ | refine r_bl ?_ | refine r_and ?_ | refine r_or ?_ | refine r_not ?_ | refine r_andV ?_ | refine r_orV ?_ | refine r_notV ?_ | refine r_ifX ?_ | refine r_ifs ?_ | refine r_chain ?_ | refine r_ret ?_ | refine r_next ?_ | refine r_drop ?_ | refine iteT ?_ | refine iteF ?_ | refine iteNT ?_ | refine iteNF ?_
  | refine r_int1 ?_ | refine r_boolB ?_ | refine r_eqI ?_ | refine r_neI ?_ | refine r_eqB ?_ | refine r_neB ?_ | refine r_eqS ?_ | refine r_neS ?_ | refine r_abs ?_ | refine r_max2 ?_ | refine r_min2 ?_ | refine r_yes ?_ | refine r_tup ?_ | refine r_sfld ?_ | refine r_m0 ?_ | refine r_m1 ?_ | refine r_lst ?_ | refine r_rng1 ?_ | refine r_rng2 ?_ | refine r_ixL (SqL.of (by assumption)) rfl ?_)
local macro_rules | `(tactic| walk_at "r") => `(tactic| repeat (first | walk_at "r1" | ((with_reducible refine r_var ?hv ?_); (case hv => rfl))))

theorem mk_fun {K : PySem.W.Frag} {x ql : Str} {st : Stmt} {f : Addr} {oc : Value} {od an : Option Addr} {osl : Array (Option Value)} {kV doc pm cdv ct : Value} (l : K.lookup f = some ⟨oc, od, .func (PySem.W.fnOf x ql (defArgs st) (defBody st) (defScope st) .none kV doc pm an cdv ct), osl⟩) (c : PySem.W.codeIn K cdv ql = true) (k : PySem.W.keepIn K (.ref f) = true) :
    Fun K x ql st f (PySem.W.fnOf x ql (defArgs st) (defBody st) (defScope st) .none kV doc pm an cdv ct) := fun_mk l c k
theorem exm_of {K : PySem.W.Frag} {c d : Addr} {b : Bool} (h1 : PySem.W.subIn K (.ref d) (.type "BaseException") = some true) (h2 : PySem.W.isClsIn K d = true) (h3 : PySem.W.typeIn K (.ref d) = some (.type "type")) (h4 : PySem.W.subIn K (.ref c) (.ref d) = some b) : PySem.W.exmOne K (.ref c) (.ref d) = some b := by
  have e1 : (PySem.W.subIn K (.ref d) (.type "BaseException") == some true) = true := by rw [h1] <;> rfl
  have e2 : ((PySem.W.clsIn K d).isSome && PySem.W.typeIn K (.ref d) == some (.type "type")) = true := by
    have h2' : (PySem.W.clsIn K d).isSome = true := h2
    rw [h2', h3] <;> rfl
  show (if (PySem.W.subIn K (.ref d) (.type "BaseException") == some true) = true then (if ((PySem.W.clsIn K d).isSome && PySem.W.typeIn K (.ref d) == some (.type "type")) = true then PySem.W.subIn K (.ref c) (.ref d) else none) else none) = some b
  rw [if_pos e1, if_pos e2]
  exact h4
theorem all_mk {l : PySem.W.OpenLaw} {w : World} {K : PySem.W.Frag} {h : Heap} {mg : Str → Option Value} {fa C cE e0 e1 e2 e3 xf0 xf1 xf2 xf3 f0 f1 f2 f3 f4 f5 f6 f7 f8 f9 f10 f11 f12 f13 f14 f15 f16 f17 f18 f19 f20 f21 f22 f23 f24 f25 f26 f27 : Addr} (X : K.In h) (G : h.Ns mainGlobals mg) (hfa : mg "law" = some (.ref fa))
    {od0 an0 od1 an1 od2 an2 od3 an3 od4 an4 od5 an5 od6 an6 od7 an7 od8 an8 od9 an9 od10 an10 od11 an11 od12 an12 od13 an13 od14 an14 od15 an15 od16 an16 od17 an17 od18 an18 od19 an19 od20 an20 od21 an21 od22 an22 od23 an23 od24 an24 od25 an25 od26 an26 od27 an27 xod0 xan0 xdd0 xod1 xan1 xdd1 xod2 xan2 xdd2 xod3 xan3 xdd3 : Option Addr} {sl0 sl1 sl2 sl3 sl4 sl5 sl6 sl7 sl8 sl9 sl10 sl11 sl12 sl13 sl14 sl15 sl16 sl17 sl18 sl19 sl20 sl21 sl22 sl23 sl24 sl25 sl26 sl27 xsl0 xsl1 xsl2 xsl3 : Array (Option Value)} {oc0 kV0 dc0 pm0 cd0 ct0 oc1 kV1 dc1 pm1 cd1 ct1 oc2 kV2 dc2 pm2 cd2 ct2 oc3 kV3 dc3 pm3 cd3 ct3 oc4 kV4 dc4 pm4 cd4 ct4 oc5 kV5 dc5 pm5 cd5 ct5 oc6 kV6 dc6 pm6 cd6 ct6 oc7 kV7 dc7 pm7 cd7 ct7 oc8 kV8 dc8 pm8 cd8 ct8 oc9 kV9 dc9 pm9 cd9 ct9 oc10 kV10 dc10 pm10 cd10 ct10 oc11 kV11 dc11 pm11 cd11 ct11 oc12 kV12 dc12 pm12 cd12 ct12 oc13 kV13 dc13 pm13 cd13 ct13 oc14 kV14 dc14 pm14 cd14 ct14 oc15 kV15 dc15 pm15 cd15 ct15 oc16 kV16 dc16 pm16 cd16 ct16 oc17 kV17 dc17 pm17 cd17 ct17 oc18 kV18 dc18 pm18 cd18 ct18 oc19 kV19 dc19 pm19 cd19 ct19 oc20 kV20 dc20 pm20 cd20 ct20 oc21 kV21 dc21 pm21 cd21 ct21 oc22 kV22 dc22 pm22 cd22 ct22 oc23 kV23 dc23 pm23 cd23 ct23 oc24 kV24 dc24 pm24 cd24 ct24 oc25 kV25 dc25 pm25 cd25 ct25 oc26 kV26 dc26 pm26 cd26 ct26 oc27 kV27 dc27 pm27 cd27 ct27 xoc0 xkV0 xdc0 xpm0 xcd0 xct0 xoc1 xkV1 xdc1 xpm1 xcd1 xct1 xoc2 xkV2 xdc2 xpm2 xcd2 xct2 xoc3 xkV3 xdc3 xpm3 xcd3 xct3 : Value} {tN tS : Nat}
    {xnm0 xq0 xnm1 xq1 xnm2 xq2 xnm3 xq3 : Str} {xN0 xN1 xN2 xN3 : Addr} {xbs0 xsub0 xbs1 xsub1 xbs2 xsub2 xbs3 xsub3 : List Value} {xsn0 xsn1 xsn2 xsn3 : List Str} {xab0 xab1 xab2 xab3 : Bool} {xcol0 xcol1 xcol2 xcol3 : Option Bool} {xa0 xb0 xc0 xd0 xe0 xa1 xb1 xc1 xd1 xe1 xa2 xb2 xc2 xd2 xe2 xa3 xb3 xc3 xd3 xe3 : Option Value}
    (aC : PySem.W.nsIn K mainGlobals "Space" = some (some (.ref C)))
    (aE : PySem.W.nsIn K mainGlobals "EndError" = some (some (.ref cE)))
    (a0 : PySem.W.nsIn K mainGlobals "is_integer" = some (some (.ref f0)))
    (l0 : K.lookup f0 = some ⟨oc0, od0, .func (PySem.W.fnOf "is_integer" "is_integer" (defArgs s_is_integer) (defBody s_is_integer) (defScope s_is_integer) .none kV0 dc0 pm0 an0 cd0 ct0), sl0⟩)
    (c0 : PySem.W.codeIn K cd0 "is_integer" = true)
    (k0 : PySem.W.keepIn K (.ref f0) = true)
    (a1 : PySem.W.nsIn K mainGlobals "is_list" = some (some (.ref f1)))
    (l1 : K.lookup f1 = some ⟨oc1, od1, .func (PySem.W.fnOf "is_list" "is_list" (defArgs s_is_list) (defBody s_is_list) (defScope s_is_list) .none kV1 dc1 pm1 an1 cd1 ct1), sl1⟩)
    (c1 : PySem.W.codeIn K cd1 "is_list" = true)
    (k1 : PySem.W.keepIn K (.ref f1) = true)
    (a2 : PySem.W.nsIn K mainGlobals "is_from" = some (some (.ref f2)))
    (l2 : K.lookup f2 = some ⟨oc2, od2, .func (PySem.W.fnOf "is_from" "is_from" (defArgs s_is_from) (defBody s_is_from) (defScope s_is_from) .none kV2 dc2 pm2 an2 cd2 ct2), sl2⟩)
    (c2 : PySem.W.codeIn K cd2 "is_from" = true)
    (k2 : PySem.W.keepIn K (.ref f2) = true)
    (a3 : PySem.W.nsIn K mainGlobals "is_index" = some (some (.ref f3)))
    (l3 : K.lookup f3 = some ⟨oc3, od3, .func (PySem.W.fnOf "is_index" "is_index" (defArgs s_is_index) (defBody s_is_index) (defScope s_is_index) .none kV3 dc3 pm3 an3 cd3 ct3), sl3⟩)
    (c3 : PySem.W.codeIn K cd3 "is_index" = true)
    (k3 : PySem.W.keepIn K (.ref f3) = true)
    (a4 : PySem.W.nsIn K mainGlobals "is_digits" = some (some (.ref f4)))
    (l4 : K.lookup f4 = some ⟨oc4, od4, .func (PySem.W.fnOf "is_digits" "is_digits" (defArgs s_is_digits) (defBody s_is_digits) (defScope s_is_digits) .none kV4 dc4 pm4 an4 cd4 ct4), sl4⟩)
    (c4 : PySem.W.codeIn K cd4 "is_digits" = true)
    (k4 : PySem.W.keepIn K (.ref f4) = true)
    (a5 : PySem.W.findIn K (.ref C) "__init__" = some (some (.ref f5)))
    (i5 : PySem.W.isFn K (.ref f5) = true)
    (l5 : K.lookup f5 = some ⟨oc5, od5, .func (PySem.W.fnOf "__init__" "Space.__init__" (defArgs s_Space___init__) (defBody s_Space___init__) (defScope s_Space___init__) .none kV5 dc5 pm5 an5 cd5 ct5), sl5⟩)
    (c5 : PySem.W.codeIn K cd5 "Space.__init__" = true)
    (k5 : PySem.W.keepIn K (.ref f5) = true)
    (a6 : PySem.W.findIn K (.ref C) "at" = some (some (.ref f6)))
    (i6 : PySem.W.isFn K (.ref f6) = true)
    (l6 : K.lookup f6 = some ⟨oc6, od6, .func (PySem.W.fnOf "at" "Space.at" (defArgs s_Space_at) (defBody s_Space_at) (defScope s_Space_at) .none kV6 dc6 pm6 an6 cd6 ct6), sl6⟩)
    (c6 : PySem.W.codeIn K cd6 "Space.at" = true)
    (k6 : PySem.W.keepIn K (.ref f6) = true)
    (a7 : PySem.W.findIn K (.ref C) "store" = some (some (.ref f7)))
    (i7 : PySem.W.isFn K (.ref f7) = true)
    (l7 : K.lookup f7 = some ⟨oc7, od7, .func (PySem.W.fnOf "store" "Space.store" (defArgs s_Space_store) (defBody s_Space_store) (defScope s_Space_store) .none kV7 dc7 pm7 an7 cd7 ct7), sl7⟩)
    (c7 : PySem.W.codeIn K cd7 "Space.store" = true)
    (k7 : PySem.W.keepIn K (.ref f7) = true)
    (a8 : PySem.W.findIn K (.ref C) "line" = some (some (.ref f8)))
    (i8 : PySem.W.isFn K (.ref f8) = true)
    (l8 : K.lookup f8 = some ⟨oc8, od8, .func (PySem.W.fnOf "line" "Space.line" (defArgs s_Space_line) (defBody s_Space_line) (defScope s_Space_line) .none kV8 dc8 pm8 an8 cd8 ct8), sl8⟩)
    (c8 : PySem.W.codeIn K cd8 "Space.line" = true)
    (k8 : PySem.W.keepIn K (.ref f8) = true)
    (a9 : PySem.W.nsIn K mainGlobals "all_values" = some (some (.ref f9)))
    (l9 : K.lookup f9 = some ⟨oc9, od9, .func (PySem.W.fnOf "all_values" "all_values" (defArgs s_all_values) (defBody s_all_values) (defScope s_all_values) .none kV9 dc9 pm9 an9 cd9 ct9), sl9⟩)
    (c9 : PySem.W.codeIn K cd9 "all_values" = true)
    (k9 : PySem.W.keepIn K (.ref f9) = true)
    (a10 : PySem.W.nsIn K mainGlobals "is_sizes" = some (some (.ref f10)))
    (l10 : K.lookup f10 = some ⟨oc10, od10, .func (PySem.W.fnOf "is_sizes" "is_sizes" (defArgs s_is_sizes) (defBody s_is_sizes) (defScope s_is_sizes) .none kV10 dc10 pm10 an10 cd10 ct10), sl10⟩)
    (c10 : PySem.W.codeIn K cd10 "is_sizes" = true)
    (k10 : PySem.W.keepIn K (.ref f10) = true)
    (a11 : PySem.W.nsIn K mainGlobals "is_values" = some (some (.ref f11)))
    (l11 : K.lookup f11 = some ⟨oc11, od11, .func (PySem.W.fnOf "is_values" "is_values" (defArgs s_is_values) (defBody s_is_values) (defScope s_is_values) .none kV11 dc11 pm11 an11 cd11 ct11), sl11⟩)
    (c11 : PySem.W.codeIn K cd11 "is_values" = true)
    (k11 : PySem.W.keepIn K (.ref f11) = true)
    (a12 : PySem.W.nsIn K mainGlobals "read_space" = some (some (.ref f12)))
    (l12 : K.lookup f12 = some ⟨oc12, od12, .func (PySem.W.fnOf "read_space" "read_space" (defArgs s_read_space) (defBody s_read_space) (defScope s_read_space) .none kV12 dc12 pm12 an12 cd12 ct12), sl12⟩)
    (c12 : PySem.W.codeIn K cd12 "read_space" = true)
    (k12 : PySem.W.keepIn K (.ref f12) = true)
    (a13 : PySem.W.nsIn K mainGlobals "_law_cell" = some (some (.ref f13)))
    (l13 : K.lookup f13 = some ⟨oc13, od13, .func (PySem.W.fnOf "_law_cell" "_law_cell" (defArgs s__law_cell) (defBody s__law_cell) (defScope s__law_cell) .none kV13 dc13 pm13 an13 cd13 ct13), sl13⟩)
    (c13 : PySem.W.codeIn K cd13 "_law_cell" = true)
    (k13 : PySem.W.keepIn K (.ref f13) = true)
    (a14 : PySem.W.nsIn K mainGlobals "_law_box" = some (some (.ref f14)))
    (l14 : K.lookup f14 = some ⟨oc14, od14, .func (PySem.W.fnOf "_law_box" "_law_box" (defArgs s__law_box) (defBody s__law_box) (defScope s__law_box) .none kV14 dc14 pm14 an14 cd14 ct14), sl14⟩)
    (c14 : PySem.W.codeIn K cd14 "_law_box" = true)
    (k14 : PySem.W.keepIn K (.ref f14) = true)
    (a15 : PySem.W.nsIn K mainGlobals "_law_take" = some (some (.ref f15)))
    (l15 : K.lookup f15 = some ⟨oc15, od15, .func (PySem.W.fnOf "_law_take" "_law_take" (defArgs s__law_take) (defBody s__law_take) (defScope s__law_take) .none kV15 dc15 pm15 an15 cd15 ct15), sl15⟩)
    (c15 : PySem.W.codeIn K cd15 "_law_take" = true)
    (k15 : PySem.W.keepIn K (.ref f15) = true)
    (a16 : PySem.W.nsIn K mainGlobals "_law_product" = some (some (.ref f16)))
    (l16 : K.lookup f16 = some ⟨oc16, od16, .func (PySem.W.fnOf "_law_product" "_law_product" (defArgs s__law_product) (defBody s__law_product) (defScope s__law_product) .none kV16 dc16 pm16 an16 cd16 ct16), sl16⟩)
    (c16 : PySem.W.codeIn K cd16 "_law_product" = true)
    (k16 : PySem.W.keepIn K (.ref f16) = true)
    (a17 : PySem.W.nsIn K mainGlobals "_law_good" = some (some (.ref f17)))
    (l17 : K.lookup f17 = some ⟨oc17, od17, .func (PySem.W.fnOf "_law_good" "_law_good" (defArgs s__law_good) (defBody s__law_good) (defScope s__law_good) .none kV17 dc17 pm17 an17 cd17 ct17), sl17⟩)
    (c17 : PySem.W.codeIn K cd17 "_law_good" = true)
    (k17 : PySem.W.keepIn K (.ref f17) = true)
    (a18 : PySem.W.nsIn K mainGlobals "_law_drawn_sizes" = some (some (.ref f18)))
    (l18 : K.lookup f18 = some ⟨oc18, od18, .func (PySem.W.fnOf "_law_drawn_sizes" "_law_drawn_sizes" (defArgs s__law_drawn_sizes) (defBody s__law_drawn_sizes) (defScope s__law_drawn_sizes) .none kV18 dc18 pm18 an18 cd18 ct18), sl18⟩)
    (c18 : PySem.W.codeIn K cd18 "_law_drawn_sizes" = true)
    (k18 : PySem.W.keepIn K (.ref f18) = true)
    (a19 : PySem.W.nsIn K mainGlobals "_law_met" = some (some (.ref f19)))
    (l19 : K.lookup f19 = some ⟨oc19, od19, .func (PySem.W.fnOf "_law_met" "_law_met" (defArgs s__law_met) (defBody s__law_met) (defScope s__law_met) .none kV19 dc19 pm19 an19 cd19 ct19), sl19⟩)
    (c19 : PySem.W.codeIn K cd19 "_law_met" = true)
    (k19 : PySem.W.keepIn K (.ref f19) = true)
    (a20 : PySem.W.nsIn K mainGlobals "_law_odd" = some (some (.ref f20)))
    (l20 : K.lookup f20 = some ⟨oc20, od20, .func (PySem.W.fnOf "_law_odd" "_law_odd" (defArgs s__law_odd) (defBody s__law_odd) (defScope s__law_odd) .none kV20 dc20 pm20 an20 cd20 ct20), sl20⟩)
    (c20 : PySem.W.codeIn K cd20 "_law_odd" = true)
    (k20 : PySem.W.keepIn K (.ref f20) = true)
    (a21 : PySem.W.nsIn K mainGlobals "_law_sizes_right" = some (some (.ref f21)))
    (l21 : K.lookup f21 = some ⟨oc21, od21, .func (PySem.W.fnOf "_law_sizes_right" "_law_sizes_right" (defArgs s__law_sizes_right) (defBody s__law_sizes_right) (defScope s__law_sizes_right) .none kV21 dc21 pm21 an21 cd21 ct21), sl21⟩)
    (c21 : PySem.W.codeIn K cd21 "_law_sizes_right" = true)
    (k21 : PySem.W.keepIn K (.ref f21) = true)
    (a22 : PySem.W.nsIn K mainGlobals "_law_stores_right" = some (some (.ref f22)))
    (l22 : K.lookup f22 = some ⟨oc22, od22, .func (PySem.W.fnOf "_law_stores_right" "_law_stores_right" (defArgs s__law_stores_right) (defBody s__law_stores_right) (defScope s__law_stores_right) .none kV22 dc22 pm22 an22 cd22 ct22), sl22⟩)
    (c22 : PySem.W.codeIn K cd22 "_law_stores_right" = true)
    (k22 : PySem.W.keepIn K (.ref f22) = true)
    (a23 : PySem.W.nsIn K mainGlobals "_law_values_right" = some (some (.ref f23)))
    (l23 : K.lookup f23 = some ⟨oc23, od23, .func (PySem.W.fnOf "_law_values_right" "_law_values_right" (defArgs s__law_values_right) (defBody s__law_values_right) (defScope s__law_values_right) .none kV23 dc23 pm23 an23 cd23 ct23), sl23⟩)
    (c23 : PySem.W.codeIn K cd23 "_law_values_right" = true)
    (k23 : PySem.W.keepIn K (.ref f23) = true)
    (a24 : PySem.W.nsIn K mainGlobals "_law_lines_right" = some (some (.ref f24)))
    (l24 : K.lookup f24 = some ⟨oc24, od24, .func (PySem.W.fnOf "_law_lines_right" "_law_lines_right" (defArgs s__law_lines_right) (defBody s__law_lines_right) (defScope s__law_lines_right) .none kV24 dc24 pm24 an24 cd24 ct24), sl24⟩)
    (c24 : PySem.W.codeIn K cd24 "_law_lines_right" = true)
    (k24 : PySem.W.keepIn K (.ref f24) = true)
    (a25 : PySem.W.nsIn K mainGlobals "_law_grown_right" = some (some (.ref f25)))
    (l25 : K.lookup f25 = some ⟨oc25, od25, .func (PySem.W.fnOf "_law_grown_right" "_law_grown_right" (defArgs s__law_grown_right) (defBody s__law_grown_right) (defScope s__law_grown_right) .none kV25 dc25 pm25 an25 cd25 ct25), sl25⟩)
    (c25 : PySem.W.codeIn K cd25 "_law_grown_right" = true)
    (k25 : PySem.W.keepIn K (.ref f25) = true)
    (a26 : PySem.W.nsIn K mainGlobals "_law_right" = some (some (.ref f26)))
    (l26 : K.lookup f26 = some ⟨oc26, od26, .func (PySem.W.fnOf "_law_right" "_law_right" (defArgs s__law_right) (defBody s__law_right) (defScope s__law_right) .none kV26 dc26 pm26 an26 cd26 ct26), sl26⟩)
    (c26 : PySem.W.codeIn K cd26 "_law_right" = true)
    (k26 : PySem.W.keepIn K (.ref f26) = true)
    (a27 : PySem.W.nsIn K mainGlobals "law" = some (some (.ref f27)))
    (l27 : K.lookup f27 = some ⟨oc27, od27, .func (PySem.W.fnOf "law" "law" (defArgs s_law) (defBody s_law) (defScope s_law) .none kV27 dc27 pm27 an27 cd27 ct27), sl27⟩)
    (c27 : PySem.W.codeIn K cd27 "law" = true)
    (k27 : PySem.W.keepIn K (.ref f27) = true)
    (pg : PySem.W.plainGet K C Str.empty = true)
    (hd : PySem.W.hasDictIn K C = true)
    (po : PySem.W.plainOver K C = true)
    (sa : PySem.W.findIn K (.ref C) "__setattr__" = some (some (.builtin "object.__setattr__")))
    (mk : PySem.W.makesIn K C = true)
    (kc : PySem.W.keepIn K (.ref C) = true)
    (nS : PySem.W.findIn K (.ref C) "sizes" = some none)
    (nT : PySem.W.findIn K (.ref C) "_stores" = some none)
    (nN : PySem.W.findIn K (.ref C) "never" = some none)
    (ha : PySem.W.findIn K (.ref C) "__class__" = some (some (.builtin "object.__class__")))
    (hn : PySem.W.specialIn K (.builtin "object.__class__") "__get__" = some (some (.builtin "getset_descriptor.__get__")))
    (ht : PySem.W.takesIn K (.builtin "object.__class__") = some true)
    (hm : PySem.W.mroIn K C (.type "object") = some true)
    (qN : PySem.W.kitOne K (.type "NoneType") (.ref C) = some false)
    (qL : PySem.W.kitOne K (.type "list") (.ref C) = some false)
    (qT : PySem.W.kitOne K (.type "tuple") (.ref C) = some false)
    (qS : PySem.W.kitOne K (.type "str") (.ref C) = some false)
    (qI : PySem.W.kitOne K (.type "int") (.ref C) = some false)
    (qB : PySem.W.kitOne K (.type "bool") (.ref C) = some false)
    (z_isinstance : PySem.W.nsIn K mainGlobals "isinstance" = some none)
    (z_int : PySem.W.nsIn K mainGlobals "int" = some none)
    (z_bool : PySem.W.nsIn K mainGlobals "bool" = some none)
    (z_str : PySem.W.nsIn K mainGlobals "str" = some none)
    (z_list : PySem.W.nsIn K mainGlobals "list" = some none)
    (z_tuple : PySem.W.nsIn K mainGlobals "tuple" = some none)
    (z_len : PySem.W.nsIn K mainGlobals "len" = some none)
    (z_abs : PySem.W.nsIn K mainGlobals "abs" = some none)
    (z_max : PySem.W.nsIn K mainGlobals "max" = some none)
    (z_min : PySem.W.nsIn K mainGlobals "min" = some none)
    (z_sum : PySem.W.nsIn K mainGlobals "sum" = some none)
    (z_repr : PySem.W.nsIn K mainGlobals "repr" = some none)
    (z_all : PySem.W.nsIn K mainGlobals "all" = some none)
    (z_range : PySem.W.nsIn K mainGlobals "range" = some none)
    (z_zip : PySem.W.nsIn K mainGlobals "zip" = some none)
    (gN : PySem.W.nsIn K mainGlobals "MOST_NAMES" = some (some (.int 3 tN)))
    (gS : PySem.W.nsIn K mainGlobals "MOST_STORES" = some (some (.int 8 tS)))
    (xg0 : PySem.W.nsIn K mainGlobals "InvalidSizes" = some (some (.ref e0)))
    (xl0 : K.lookup e0 = some (excClassObj xnm0 xq0 e0 xN0 xbs0 [.ref cE, .type "ValueError", .type "Exception", .type "BaseException", .type "object"] true xsn0 xsub0 xab0 xcol0 xdd0 xa0 xb0 xc0 xd0 xe0 "ValueError.__new__"))
    (xs0 : PySem.W.findIn K (.ref e0) "__setattr__" = some (some (.builtin "object.__setattr__")))
    (xga0 : PySem.W.findIn K (.ref e0) "__getattribute__" = some (some (.builtin "BaseException.__getattribute__")))
    (xgg0 : PySem.W.findIn K (.ref e0) "__getattr__" = some none)
    (xn0 : PySem.W.findIn K (.ref e0) "given" = some none)
    (xi0 : PySem.W.findIn K (.ref e0) "__init__" = some (some (.ref xf0)))
    (xt0 : PySem.W.typeIn K (.ref xf0) = some (.type "function"))
    (xfl0 : K.lookup xf0 = some ⟨xoc0, xod0, .func (PySem.W.fnOf "__init__" "InvalidSizes.__init__" (defArgs s_InvalidSizes___init__) (defBody s_InvalidSizes___init__) (defScope s_InvalidSizes___init__) .none xkV0 xdc0 xpm0 xan0 xcd0 xct0), xsl0⟩)
    (xfc0 : PySem.W.codeIn K xcd0 "InvalidSizes.__init__" = true)
    (xfk0 : PySem.W.keepIn K (.ref xf0) = true)
    (xk0 : PySem.W.keepIn K (.ref e0) = true)
    (xe_0 : PySem.W.subIn K (.ref e0) (.type "BaseException") = some true)
    (xty0 : PySem.W.typeIn K (.ref e0) = some (.type "type"))
    (xh0 : PySem.W.hasDictIn K e0 = true)
    (xis0 : PySem.W.isClsIn K e0 = true)
    (xg1 : PySem.W.nsIn K mainGlobals "InvalidStore" = some (some (.ref e1)))
    (xl1 : K.lookup e1 = some (excClassObj xnm1 xq1 e1 xN1 xbs1 [.ref cE, .type "ValueError", .type "Exception", .type "BaseException", .type "object"] true xsn1 xsub1 xab1 xcol1 xdd1 xa1 xb1 xc1 xd1 xe1 "ValueError.__new__"))
    (xs1 : PySem.W.findIn K (.ref e1) "__setattr__" = some (some (.builtin "object.__setattr__")))
    (xga1 : PySem.W.findIn K (.ref e1) "__getattribute__" = some (some (.builtin "BaseException.__getattribute__")))
    (xgg1 : PySem.W.findIn K (.ref e1) "__getattr__" = some none)
    (xn1 : PySem.W.findIn K (.ref e1) "given" = some none)
    (xi1 : PySem.W.findIn K (.ref e1) "__init__" = some (some (.ref xf1)))
    (xt1 : PySem.W.typeIn K (.ref xf1) = some (.type "function"))
    (xfl1 : K.lookup xf1 = some ⟨xoc1, xod1, .func (PySem.W.fnOf "__init__" "InvalidStore.__init__" (defArgs s_InvalidStore___init__) (defBody s_InvalidStore___init__) (defScope s_InvalidStore___init__) .none xkV1 xdc1 xpm1 xan1 xcd1 xct1), xsl1⟩)
    (xfc1 : PySem.W.codeIn K xcd1 "InvalidStore.__init__" = true)
    (xfk1 : PySem.W.keepIn K (.ref xf1) = true)
    (xk1 : PySem.W.keepIn K (.ref e1) = true)
    (xe_1 : PySem.W.subIn K (.ref e1) (.type "BaseException") = some true)
    (xty1 : PySem.W.typeIn K (.ref e1) = some (.type "type"))
    (xh1 : PySem.W.hasDictIn K e1 = true)
    (xis1 : PySem.W.isClsIn K e1 = true)
    (xg2 : PySem.W.nsIn K mainGlobals "InvalidValues" = some (some (.ref e2)))
    (xl2 : K.lookup e2 = some (excClassObj xnm2 xq2 e2 xN2 xbs2 [.ref cE, .type "ValueError", .type "Exception", .type "BaseException", .type "object"] true xsn2 xsub2 xab2 xcol2 xdd2 xa2 xb2 xc2 xd2 xe2 "ValueError.__new__"))
    (xs2 : PySem.W.findIn K (.ref e2) "__setattr__" = some (some (.builtin "object.__setattr__")))
    (xga2 : PySem.W.findIn K (.ref e2) "__getattribute__" = some (some (.builtin "BaseException.__getattribute__")))
    (xgg2 : PySem.W.findIn K (.ref e2) "__getattr__" = some none)
    (xn2 : PySem.W.findIn K (.ref e2) "given" = some none)
    (xi2 : PySem.W.findIn K (.ref e2) "__init__" = some (some (.ref xf2)))
    (xt2 : PySem.W.typeIn K (.ref xf2) = some (.type "function"))
    (xfl2 : K.lookup xf2 = some ⟨xoc2, xod2, .func (PySem.W.fnOf "__init__" "InvalidValues.__init__" (defArgs s_InvalidValues___init__) (defBody s_InvalidValues___init__) (defScope s_InvalidValues___init__) .none xkV2 xdc2 xpm2 xan2 xcd2 xct2), xsl2⟩)
    (xfc2 : PySem.W.codeIn K xcd2 "InvalidValues.__init__" = true)
    (xfk2 : PySem.W.keepIn K (.ref xf2) = true)
    (xk2 : PySem.W.keepIn K (.ref e2) = true)
    (xe_2 : PySem.W.subIn K (.ref e2) (.type "BaseException") = some true)
    (xty2 : PySem.W.typeIn K (.ref e2) = some (.type "type"))
    (xh2 : PySem.W.hasDictIn K e2 = true)
    (xis2 : PySem.W.isClsIn K e2 = true)
    (xg3 : PySem.W.nsIn K mainGlobals "InvalidLine" = some (some (.ref e3)))
    (xl3 : K.lookup e3 = some (excClassObj xnm3 xq3 e3 xN3 xbs3 [.ref cE, .type "ValueError", .type "Exception", .type "BaseException", .type "object"] true xsn3 xsub3 xab3 xcol3 xdd3 xa3 xb3 xc3 xd3 xe3 "ValueError.__new__"))
    (xs3 : PySem.W.findIn K (.ref e3) "__setattr__" = some (some (.builtin "object.__setattr__")))
    (xga3 : PySem.W.findIn K (.ref e3) "__getattribute__" = some (some (.builtin "BaseException.__getattribute__")))
    (xgg3 : PySem.W.findIn K (.ref e3) "__getattr__" = some none)
    (xn3 : PySem.W.findIn K (.ref e3) "given" = some none)
    (xi3 : PySem.W.findIn K (.ref e3) "__init__" = some (some (.ref xf3)))
    (xt3 : PySem.W.typeIn K (.ref xf3) = some (.type "function"))
    (xfl3 : K.lookup xf3 = some ⟨xoc3, xod3, .func (PySem.W.fnOf "__init__" "InvalidLine.__init__" (defArgs s_InvalidLine___init__) (defBody s_InvalidLine___init__) (defScope s_InvalidLine___init__) .none xkV3 xdc3 xpm3 xan3 xcd3 xct3), xsl3⟩)
    (xfc3 : PySem.W.codeIn K xcd3 "InvalidLine.__init__" = true)
    (xfk3 : PySem.W.keepIn K (.ref xf3) = true)
    (xk3 : PySem.W.keepIn K (.ref e3) = true)
    (xe_3 : PySem.W.subIn K (.ref e3) (.type "BaseException") = some true)
    (xty3 : PySem.W.typeIn K (.ref e3) = some (.type "type"))
    (xh3 : PySem.W.hasDictIn K e3 = true)
    (xis3 : PySem.W.isClsIn K e3 = true)
    (xs_00 : PySem.W.subIn K (.ref e0) (.ref e0) = some true)
    (xs_10 : PySem.W.subIn K (.ref e1) (.ref e0) = some false)
    (xs_11 : PySem.W.subIn K (.ref e1) (.ref e1) = some true)
    (xs_20 : PySem.W.subIn K (.ref e2) (.ref e0) = some false)
    (xs_21 : PySem.W.subIn K (.ref e2) (.ref e1) = some false)
    (xs_22 : PySem.W.subIn K (.ref e2) (.ref e2) = some true)
    (xs_30 : PySem.W.subIn K (.ref e3) (.ref e0) = some false)
    (xs_31 : PySem.W.subIn K (.ref e3) (.ref e1) = some false)
    (xs_32 : PySem.W.subIn K (.ref e3) (.ref e2) = some false)
    (xs_33 : PySem.W.subIn K (.ref e3) (.ref e3) = some true)
    : ∃ fd : FuncData, (∀ (s : Shared) (v : Value), BindsTo s fd ⟨[v], []⟩ [("script", v)]) ∧ ∀ base : Heap, K.In base → base.Ns mainGlobals mg → ModsD base → FnG l.prog w K mg base CX0 11 fa fd ["script"] (spLaw K) := by
  have e := hfa.symm.trans (PySem.W.mg_of X G a27)
  cases e
  have Z : Zs mg := ⟨PySem.W.mg_none_of X G z_isinstance, PySem.W.mg_none_of X G z_int, PySem.W.mg_none_of X G z_bool, PySem.W.mg_none_of X G z_str, PySem.W.mg_none_of X G z_list, PySem.W.mg_none_of X G z_tuple, PySem.W.mg_none_of X G z_len, PySem.W.mg_none_of X G z_abs, PySem.W.mg_none_of X G z_max, PySem.W.mg_none_of X G z_min, PySem.W.mg_none_of X G z_sum, PySem.W.mg_none_of X G z_repr, PySem.W.mg_none_of X G z_all, PySem.W.mg_none_of X G z_range, PySem.W.mg_none_of X G z_zip, ⟨_, PySem.W.mg_of X G gN, ⟨_, rfl⟩⟩, ⟨_, PySem.W.mg_of X G gS, ⟨_, rfl⟩⟩⟩
  have S : Sc K mg C := ⟨⟨pg, hd, po, sa⟩, nS, nT, nN, PySem.W.mg_of X G aC, ha, hn, ht, hm, by simp [PySem.W.kitOne], qN, qL, qT, qS, qI, qB⟩
  have T0 : OexC K e0 := ⟨⟨_, _, _, _, _, _, _, _, _, _, _, _, _, _, _, xl0, (show PySem.HandSPX.refsVE [.type "ValueError", .type "Exception", .type "BaseException", .type "object"] = true by decide +kernel)⟩, xs0, xe_0, xty0, xk0⟩
  have U0 : XfC K e0 := ⟨xga0, xgg0, xe_0, xh0⟩
  have T1 : OexC K e1 := ⟨⟨_, _, _, _, _, _, _, _, _, _, _, _, _, _, _, xl1, (show PySem.HandSPX.refsVE [.type "ValueError", .type "Exception", .type "BaseException", .type "object"] = true by decide +kernel)⟩, xs1, xe_1, xty1, xk1⟩
  have U1 : XfC K e1 := ⟨xga1, xgg1, xe_1, xh1⟩
  have T2 : OexC K e2 := ⟨⟨_, _, _, _, _, _, _, _, _, _, _, _, _, _, _, xl2, (show PySem.HandSPX.refsVE [.type "ValueError", .type "Exception", .type "BaseException", .type "object"] = true by decide +kernel)⟩, xs2, xe_2, xty2, xk2⟩
  have U2 : XfC K e2 := ⟨xga2, xgg2, xe_2, xh2⟩
  have T3 : OexC K e3 := ⟨⟨_, _, _, _, _, _, _, _, _, _, _, _, _, _, _, xl3, (show PySem.HandSPX.refsVE [.type "ValueError", .type "Exception", .type "BaseException", .type "object"] = true by decide +kernel)⟩, xs3, xe_3, xty3, xk3⟩
  have U3 : XfC K e3 := ⟨xga3, xgg3, xe_3, xh3⟩
  have Rr : Errs K mg e0 e1 e2 e3 cE := { g0 := PySem.W.mg_of X G xg0, g1 := PySem.W.mg_of X G xg1, g2 := PySem.W.mg_of X G xg2, g3 := PySem.W.mg_of X G xg3, gE := PySem.W.mg_of X G aE, x0 := U0, x1 := U1, x2 := U2, x3 := U3, n0 := xn0, n1 := xn1, n2 := xn2, n3 := xn3, e00 := exm_of xe_0 xis0 xty0 xs_00, e10 := exm_of xe_0 xis0 xty0 xs_10, e11 := exm_of xe_1 xis1 xty1 xs_11, e20 := exm_of xe_0 xis0 xty0 xs_20, e21 := exm_of xe_1 xis1 xty1 xs_21, e22 := exm_of xe_2 xis2 xty2 xs_22, e30 := exm_of xe_0 xis0 xty0 xs_30, e31 := exm_of xe_1 xis1 xty1 xs_31, e32 := exm_of xe_2 xis2 xty2 xs_32, e33 := exm_of xe_3 xis3 xty3 xs_33 }
  have F0 := mk_fun (st := s_is_integer) l0 c0 k0
  have b0 := F0.binds (ps := ["value"]) fun _ _ _ _ _ _ us hl => match us, hl with | [_], _ => rfl
  have F1 := mk_fun (st := s_is_list) l1 c1 k1
  have b1 := F1.binds (ps := ["value"]) fun _ _ _ _ _ _ us hl => match us, hl with | [_], _ => rfl
  have F2 := mk_fun (st := s_is_from) l2 c2 k2
  have b2 := F2.binds (ps := ["value", "low", "high"]) fun _ _ _ _ _ _ us hl => match us, hl with | [_, _, _], _ => rfl
  have F3 := mk_fun (st := s_is_index) l3 c3 k3
  have b3 := F3.binds (ps := ["value", "count"]) fun _ _ _ _ _ _ us hl => match us, hl with | [_, _], _ => rfl
  have F4 := mk_fun (st := s_is_digits) l4 c4 k4
  have b4 := F4.binds (ps := ["word"]) fun _ _ _ _ _ _ us hl => match us, hl with | [_], _ => rfl
  have F5 := mk_fun (st := s_Space___init__) l5 c5 k5
  have b5 := F5.binds (ps := ["self", "sizes"]) fun _ _ _ _ _ _ us hl => match us, hl with | [_, _], _ => rfl
  have F6 := mk_fun (st := s_Space_at) l6 c6 k6
  have b6 := F6.binds (ps := ["self", "store"]) fun _ _ _ _ _ _ us hl => match us, hl with | [_, _], _ => rfl
  have F7 := mk_fun (st := s_Space_store) l7 c7 k7
  have b7 := F7.binds (ps := ["self", "values"]) fun _ _ _ _ _ _ us hl => match us, hl with | [_, _], _ => rfl
  have F8 := mk_fun (st := s_Space_line) l8 c8 k8
  have b8 := F8.binds (ps := ["self"]) fun _ _ _ _ _ _ us hl => match us, hl with | [_], _ => rfl
  have F9 := mk_fun (st := s_all_values) l9 c9 k9
  have b9 := F9.binds (ps := ["sizes"]) fun _ _ _ _ _ _ us hl => match us, hl with | [_], _ => rfl
  have F10 := mk_fun (st := s_is_sizes) l10 c10 k10
  have b10 := F10.binds (ps := ["value"]) fun _ _ _ _ _ _ us hl => match us, hl with | [_], _ => rfl
  have F11 := mk_fun (st := s_is_values) l11 c11 k11
  have b11 := F11.binds (ps := ["value", "sizes"]) fun _ _ _ _ _ _ us hl => match us, hl with | [_, _], _ => rfl
  have F12 := mk_fun (st := s_read_space) l12 c12 k12
  have b12 := F12.binds (ps := ["line"]) fun _ _ _ _ _ _ us hl => match us, hl with | [_], _ => rfl
  have F13 := mk_fun (st := s__law_cell) l13 c13 k13
  have b13 := F13.binds (ps := ["script", "k"]) fun _ _ _ _ _ _ us hl => match us, hl with | [_, _], _ => rfl
  have F14 := mk_fun (st := s__law_box) l14 c14 k14
  have b14 := F14.binds (ps := ["great"]) fun _ _ _ _ _ _ us hl => match us, hl with | [_], _ => rfl
  have F15 := mk_fun (st := s__law_take) l15 c15 k15
  have b15 := F15.binds (ps := ["box", "many"]) fun _ _ _ _ _ _ us hl => match us, hl with | [_, _], _ => rfl
  have F16 := mk_fun (st := s__law_product) l16 c16 k16
  have b16 := F16.binds (ps := ["sizes"]) fun _ _ _ _ _ _ us hl => match us, hl with | [_], _ => rfl
  have F17 := mk_fun (st := s__law_good) l17 c17 k17
  have b17 := F17.binds (ps := ["sizes"]) fun _ _ _ _ _ _ us hl => match us, hl with | [_], _ => rfl
  have F18 := mk_fun (st := s__law_drawn_sizes) l18 c18 k18
  have b18 := F18.binds (ps := ["box"]) fun _ _ _ _ _ _ us hl => match us, hl with | [_], _ => rfl
  have F19 := mk_fun (st := s__law_met) l19 c19 k19
  have b19 := F19.binds (ps := ["way", "space", "thing"]) fun _ _ _ _ _ _ us hl => match us, hl with | [_, _, _], _ => rfl
  have F20 := mk_fun (st := s__law_odd) l20 c20 k20
  have b20 := F20.binds (ps := ["box"]) fun _ _ _ _ _ _ us hl => match us, hl with | [_], _ => rfl
  have F21 := mk_fun (st := s__law_sizes_right) l21 c21 k21
  have b21 := F21.binds (ps := ["box", "space"]) fun _ _ _ _ _ _ us hl => match us, hl with | [_, _], _ => rfl
  have F22 := mk_fun (st := s__law_stores_right) l22 c22 k22
  have b22 := F22.binds (ps := ["space", "many"]) fun _ _ _ _ _ _ us hl => match us, hl with | [_, _], _ => rfl
  have F23 := mk_fun (st := s__law_values_right) l23 c23 k23
  have b23 := F23.binds (ps := ["box", "space", "sizes"]) fun _ _ _ _ _ _ us hl => match us, hl with | [_, _, _], _ => rfl
  have F24 := mk_fun (st := s__law_lines_right) l24 c24 k24
  have b24 := F24.binds (ps := ["box", "space", "sizes"]) fun _ _ _ _ _ _ us hl => match us, hl with | [_, _, _], _ => rfl
  have F25 := mk_fun (st := s__law_grown_right) l25 c25 k25
  have b25 := F25.binds (ps := ["space"]) fun _ _ _ _ _ _ us hl => match us, hl with | [_], _ => rfl
  have F26 := mk_fun (st := s__law_right) l26 c26 k26
  have b26 := F26.binds (ps := ["box"]) fun _ _ _ _ _ _ us hl => match us, hl with | [_], _ => rfl
  have F27 := mk_fun (st := s_law) l27 c27 k27
  have b27 := F27.binds (ps := ["script"]) fun _ _ _ _ _ _ us hl => match us, hl with | [_], _ => rfl
  have XF0 := mk_fun (st := s_InvalidSizes___init__) xfl0 xfc0 xfk0
  have xb_0 := XF0.binds (ps := ["self", "given"]) fun _ _ _ _ _ _ us hl => match us, hl with | [_, _], _ => rfl
  have XF1 := mk_fun (st := s_InvalidStore___init__) xfl1 xfc1 xfk1
  have xb_1 := XF1.binds (ps := ["self", "given"]) fun _ _ _ _ _ _ us hl => match us, hl with | [_, _], _ => rfl
  have XF2 := mk_fun (st := s_InvalidValues___init__) xfl2 xfc2 xfk2
  have xb_2 := XF2.binds (ps := ["self", "given"]) fun _ _ _ _ _ _ us hl => match us, hl with | [_, _], _ => rfl
  have XF3 := mk_fun (st := s_InvalidLine___init__) xfl3 xfc3 xfk3
  have xb_3 := XF3.binds (ps := ["self", "given"]) fun _ _ _ _ _ _ us hl => match us, hl with | [_, _], _ => rfl
  refine ⟨PySem.W.fnOf "law" "law" (defArgs s_law) (defBody s_law) (defScope s_law) .none kV27 dc27 pm27 an27 cd27 ct27, fun s v => .of_eq rfl, fun base _ _ hM => ?_⟩
  have d_InvalidSizes : ErrD l.prog w K mg base "InvalidSizes" e0 := ⟨_, _, PySem.W.mg_of X G xg0, T0, xi0, xt0, xn0, ok_InvalidSizes XF0 T0 xn0, xb_0⟩
  have d_InvalidStore : ErrD l.prog w K mg base "InvalidStore" e1 := ⟨_, _, PySem.W.mg_of X G xg1, T1, xi1, xt1, xn1, ok_InvalidStore XF1 T1 xn1, xb_1⟩
  have d_InvalidValues : ErrD l.prog w K mg base "InvalidValues" e2 := ⟨_, _, PySem.W.mg_of X G xg2, T2, xi2, xt2, xn2, ok_InvalidValues XF2 T2 xn2, xb_2⟩
  have d_InvalidLine : ErrD l.prog w K mg base "InvalidLine" e3 := ⟨_, _, PySem.W.mg_of X G xg3, T3, xi3, xt3, xn3, ok_InvalidLine XF3 T3 xn3, xb_3⟩
  have g0 : FnG l.prog w K mg base CX0 1 f0 _ _ (spIsIntX K) := ok_is_integer F0 Z
  have d_is_integer : DefD l.prog w K mg base 1 "is_integer" 1 [] byPlace (spIsIntX K) := ⟨_, _, _, _, PySem.W.mg_of X G a0, k0, g0, kbn_place b0 1 rfl⟩
  have g1 : FnG l.prog w K mg base CX0 1 f1 _ _ (spIsListX K) := ok_is_list F1 Z
  have d_is_list : DefD l.prog w K mg base 1 "is_list" 1 [] byPlace (spIsListX K) := ⟨_, _, _, _, PySem.W.mg_of X G a1, k1, g1, kbn_place b1 1 rfl⟩
  have g2 : FnG l.prog w K mg base CX0 2 f2 _ _ (spIsFromX K) := ok_is_from F2 d_is_integer
  have d_is_from : DefD l.prog w K mg base 2 "is_from" 3 [] byPlace (spIsFromX K) := ⟨_, _, _, _, PySem.W.mg_of X G a2, k2, g2, kbn_place b2 3 rfl⟩
  have g3 : FnG l.prog w K mg base CX0 2 f3 _ _ (spIsIndexX K) := ok_is_index F3 d_is_integer
  have d_is_index : DefD l.prog w K mg base 2 "is_index" 2 [] byPlace (spIsIndexX K) := ⟨_, _, _, _, PySem.W.mg_of X G a3, k3, g3, kbn_place b3 2 rfl⟩
  have g4 : FnG l.prog w K mg base CX0 1 f4 _ _ spIsDigitsX := ok_is_digits F4
  have d_is_digits : DefD l.prog w K mg base 1 "is_digits" 1 [] byPlace spIsDigitsX := ⟨_, _, _, _, PySem.W.mg_of X G a4, k4, g4, kbn_place b4 1 rfl⟩
  have g10 : FnG l.prog w K mg base CX0 3 f10 _ _ (spIsSizesX K) := ok_is_sizes F10 Z d_is_list d_is_from
  have d_is_sizes : DefD l.prog w K mg base 3 "is_sizes" 1 [] byPlace (spIsSizesX K) := ⟨_, _, _, _, PySem.W.mg_of X G a10, k10, g10, kbn_place b10 1 rfl⟩
  have g9 : FnG l.prog w K mg base CX0 1 f9 _ _ spAllValues := ok_all_values F9 Z
  have d_all_values : DefD l.prog w K mg base 1 "all_values" 1 [] byPlace spAllValues := ⟨_, _, _, _, PySem.W.mg_of X G a9, k9, g9, kbn_place b9 1 rfl⟩
  have g11 : FnG l.prog w K mg base CX0 3 f11 _ _ (spIsValuesX K) := ok_is_values F11 Z d_is_list d_is_index
  have d_is_values : DefD l.prog w K mg base 3 "is_values" 2 [] byPlace (spIsValuesX K) := ⟨_, _, _, _, PySem.W.mg_of X G a11, k11, g11, kbn_place b11 2 rfl⟩
  have g5 : FnG l.prog w K mg base (L2.CX l.prog w) 4 f5 _ _ (spInitX C e0 K) := ok_init F5 Z S d_is_sizes d_all_values d_InvalidSizes
  have M : Mk K C f5 := ⟨mk, a5, i5, kc⟩
  have k_Space : MakX l.prog w K mg base 4 "Space" C 1 [] byPlace (spInitX C e0 K) := ⟨_, _, _, _, PySem.W.mg_of X G aC, M, g5, kbn_place b5 2 rfl⟩
  have g6 : FnG l.prog w K mg base (L2.CX l.prog w) 3 f6 _ _ (spAtX C e1 K) := ok_at F6 S d_is_index d_InvalidStore
  have m_at : MetX l.prog w K mg base 3 C "at" 2 [] byPlace (spAtX C e1 K) := ⟨_, _, _, _, S.cl, ⟨a6, i6, k6⟩, g6, kbn_place b6 2 rfl⟩
  have g7 : FnG l.prog w K mg base (L2.CX l.prog w) 4 f7 _ _ (spStoreX C e2 K) := ok_store F7 Z S d_is_values d_InvalidValues
  have m_store : MetX l.prog w K mg base 4 C "store" 2 [] byPlace (spStoreX C e2 K) := ⟨_, _, _, _, S.cl, ⟨a7, i7, k7⟩, g7, kbn_place b7 2 rfl⟩
  have g8 : FnG l.prog w K mg base CX0 1 f8 _ _ (spLine C) := ok_line F8 Z S
  have m_line : MetD l.prog w K mg base 1 C "line" 1 [] byPlace (spLine C) := ⟨_, _, _, _, S.cl, ⟨a8, i8, k8⟩, g8, kbn_place b8 1 rfl⟩
  have g12 : FnG l.prog w K mg base (L2.CX l.prog w) 6 f12 _ _ (spReadY C e3 K) := ok_read F12 Z S d_is_digits d_is_sizes k_Space d_InvalidLine
  have d_read_space : DefX l.prog w K mg base 6 "read_space" 1 [] byPlace (spReadY C e3 K) := ⟨_, _, _, _, PySem.W.mg_of X G a12, k12, g12, kbn_place b12 1 rfl⟩
  have g13 : FnG l.prog w K mg base CX0 1 f13 _ _ (spCell K) := ok_cell F13 Z
  have d__law_cell : DefD l.prog w K mg base 1 "_law_cell" 2 [] byPlace (spCell K) := ⟨_, _, _, _, PySem.W.mg_of X G a13, k13, g13, kbn_place b13 2 rfl⟩
  have g14 : FnG l.prog w K mg base CX0 1 f14 _ _ spBox := ok_box F14 Z
  have d__law_box : DefD l.prog w K mg base 1 "_law_box" 1 [] byPlace spBox := ⟨_, _, _, _, PySem.W.mg_of X G a14, k14, g14, kbn_place b14 1 rfl⟩
  have g15 : FnG l.prog w K mg base CX0 1 f15 _ _ spTake := ok_take F15 Z
  have d__law_take : DefD l.prog w K mg base 1 "_law_take" 2 [] byPlace spTake := ⟨_, _, _, _, PySem.W.mg_of X G a15, k15, g15, kbn_place b15 2 rfl⟩
  have g16 : FnG l.prog w K mg base CX0 1 f16 _ _ spProduct := ok_product F16
  have d__law_product : DefD l.prog w K mg base 1 "_law_product" 1 [] byPlace spProduct := ⟨_, _, _, _, PySem.W.mg_of X G a16, k16, g16, kbn_place b16 1 rfl⟩
  have g17 : FnG l.prog w K mg base CX0 2 f17 _ _ spGood := ok_good F17 Z d__law_product
  have d__law_good : DefD l.prog w K mg base 2 "_law_good" 1 [] byPlace spGood := ⟨_, _, _, _, PySem.W.mg_of X G a17, k17, g17, kbn_place b17 1 rfl⟩
  have g18 : FnG l.prog w K mg base CX0 2 f18 _ _ spDrawn := ok_drawn F18 Z d__law_take
  have d__law_drawn_sizes : DefD l.prog w K mg base 2 "_law_drawn_sizes" 1 [] byPlace spDrawn := ⟨_, _, _, _, PySem.W.mg_of X G a18, k18, g18, kbn_place b18 1 rfl⟩
  have g20 : FnG l.prog w K mg base CX0 2 f20 _ _ (spOdd K) := ok_odd F20 d__law_take
  have d__law_odd : DefD l.prog w K mg base 2 "_law_odd" 1 [] byPlace (spOdd K) := ⟨_, _, _, _, PySem.W.mg_of X G a20, k20, g20, kbn_place b20 1 rfl⟩
  have g19 : FnG l.prog w K mg base CX0 8 f19 _ _ (spMet C K) := ok_met F19 Z S Rr k_Space m_at m_store m_line d_read_space
  have d__law_met : DefD l.prog w K mg base 8 "_law_met" 3 [] byPlace (spMet C K) := ⟨_, _, _, _, PySem.W.mg_of X G a19, k19, g19, kbn_place b19 3 rfl⟩
  have g21 : FnG l.prog w K mg base CX0 9 f21 _ _ (spSizesRight C) := ok_sizes_right F21 Z hM d__law_drawn_sizes d__law_good d__law_met d__law_odd
  have d__law_sizes_right : DefD l.prog w K mg base 9 "_law_sizes_right" 2 [] byPlace (spSizesRight C) := ⟨_, _, _, _, PySem.W.mg_of X G a21, k21, g21, kbn_place b21 2 rfl⟩
  have g22 : FnG l.prog w K mg base CX0 9 f22 _ _ (spStoresRight C) := ok_stores_right F22 Z hM d__law_met
  have d__law_stores_right : DefD l.prog w K mg base 9 "_law_stores_right" 2 [] byPlace (spStoresRight C) := ⟨_, _, _, _, PySem.W.mg_of X G a22, k22, g22, kbn_place b22 2 rfl⟩
  have g23 : FnG l.prog w K mg base CX0 9 f23 _ _ (spValuesRight C) := ok_values_right F23 Z hM d__law_product d__law_take m_at m_store d__law_met
  have d__law_values_right : DefD l.prog w K mg base 9 "_law_values_right" 3 [] byPlace (spValuesRight C) := ⟨_, _, _, _, PySem.W.mg_of X G a23, k23, g23, kbn_place b23 3 rfl⟩
  have g24 : FnG l.prog w K mg base CX0 9 f24 _ _ (spLinesRight C) := ok_lines_right F24 Z hM d__law_take d__law_met
  have d__law_lines_right : DefD l.prog w K mg base 9 "_law_lines_right" 3 [] byPlace (spLinesRight C) := ⟨_, _, _, _, PySem.W.mg_of X G a24, k24, g24, kbn_place b24 3 rfl⟩
  have g25 : FnG l.prog w K mg base CX0 9 f25 _ _ (spGrown C) := ok_grown F25 Z d__law_met
  have d__law_grown_right : DefD l.prog w K mg base 9 "_law_grown_right" 1 [] byPlace (spGrown C) := ⟨_, _, _, _, PySem.W.mg_of X G a25, k25, g25, kbn_place b25 1 rfl⟩
  have g26 : FnG l.prog w K mg base CX0 10 f26 _ _ spRight := ok_right F26 Z S d__law_take d__law_product k_Space d_read_space d__law_sizes_right d__law_stores_right d__law_values_right d__law_lines_right d__law_grown_right
  have d__law_right : DefD l.prog w K mg base 10 "_law_right" 1 [] byPlace spRight := ⟨_, _, _, _, PySem.W.mg_of X G a26, k26, g26, kbn_place b26 1 rfl⟩
  exact ok_law F27 Z d__law_cell d__law_box d__law_right
end Eld
set_option Elab.async false
set_option maxRecDepth 100000
set_option maxHeartbeats 4000000
set_option linter.all false
namespace Eld
open PySem L2
local macro_rules | `(tactic| walk_at "r1") => `(tactic| with_reducible first
  | refine r_seq ?_ | refine r_asgN ?_ | refine r_asg ?_ | refine r_gname ?_ | refine r_gsub ?_ | refine r_var rfl ?_ | refine r_c ?_ | refine r_op ?_ | refine r_un ?_ | refine r_u ?_ | refine r_i0 ?_ | refine r_cb ?_ | refine r_cons ?_ | refine r_nil ?_ | refine r_cl ?_ | refine r_fn rfl rfl ?_ | refine r_mt ?_
  | refine r_test ?_ | refine r_tb ?_ | refine r_bl ?_ | refine r_and ?_ | refine r_or ?_ | refine r_not ?_ | refine r_andV ?_ | refine r_orV ?_ | refine r_notV ?_ | refine r_ifX ?_ | refine r_ifs ?_ | refine r_chain ?_ | refine r_ret ?_ | refine r_next ?_ | refine r_drop ?_ | refine iteT ?_ | refine iteF ?_ | refine iteNT ?_ | refine iteNF ?_
  | refine r_int1 ?_ | refine r_boolB ?_ | refine r_eqI ?_ | refine r_neI ?_ | refine r_eqB ?_ | refine r_neB ?_ | refine r_eqS ?_ | refine r_neS ?_ | refine r_abs ?_ | refine r_max2 ?_ | refine r_min2 ?_ | refine r_yes ?_ | refine r_tup ?_ | refine r_sfld ?_ | refine r_m0 ?_ | refine r_m1 ?_ | refine r_lst ?_ | refine r_rng1 ?_ | refine r_rng2 ?_ | refine r_ixL (SqL.of (by assumption)) rfl ?_)
local macro_rules | `(tactic| walk_at "r") => `(tactic| repeat (first | walk_at "r1" | ((with_reducible refine r_var ?hv ?_); (case hv => rfl))))

end Eld
open PySem PySem.W PyProof.Rows in
set_option maxRecDepth 100000 in
set_option maxHeartbeats 0 in
theorem PySem.Challenge.cw_endlots_k03_refused_spaces_and_stores_holds : PySem.Challenge.rw_endlots_k03_refused_spaces_and_stores.Holds := by
  w_on; o_law; k_head; (case hw => w_witness2)
  k_fill
  refine Eld.walk_M (l := PySem.Challenge.rw_endlots_k03_refused_spaces_and_stores) (n := 63) (k := 11) (x := "script") (sp := Eld.spLaw) rfl (by decide) rfl ⟨rfl, by decide, by decide⟩ (by decide +kernel) (fun w h Y => PySem.W.kIn_of Y) ?F ?W
  case W => exact fun w G a ns hl hS => ⟨a, ns, rfl, Nat.le_trans hl (by decide), hS, fun _ => rfl⟩
  case F =>
    intro w mg fa h KX G hmg
    refine' Eld.all_mk KX G hmg ?aC ?aE ?a0 ?l0 ?c0 ?k0 ?a1 ?l1 ?c1 ?k1 ?a2 ?l2 ?c2 ?k2 ?a3 ?l3 ?c3 ?k3 ?a4 ?l4 ?c4 ?k4 ?a5 ?i5 ?l5 ?c5 ?k5 ?a6 ?i6 ?l6 ?c6 ?k6 ?a7 ?i7 ?l7 ?c7 ?k7 ?a8 ?i8 ?l8 ?c8 ?k8 ?a9 ?l9 ?c9 ?k9 ?a10 ?l10 ?c10 ?k10 ?a11 ?l11 ?c11 ?k11 ?a12 ?l12 ?c12 ?k12 ?a13 ?l13 ?c13 ?k13 ?a14 ?l14 ?c14 ?k14 ?a15 ?l15 ?c15 ?k15 ?a16 ?l16 ?c16 ?k16 ?a17 ?l17 ?c17 ?k17 ?a18 ?l18 ?c18 ?k18 ?a19 ?l19 ?c19 ?k19 ?a20 ?l20 ?c20 ?k20 ?a21 ?l21 ?c21 ?k21 ?a22 ?l22 ?c22 ?k22 ?a23 ?l23 ?c23 ?k23 ?a24 ?l24 ?c24 ?k24 ?a25 ?l25 ?c25 ?k25 ?a26 ?l26 ?c26 ?k26 ?a27 ?l27 ?c27 ?k27 ?pg ?hd ?po ?sa ?mk ?kc ?nS ?nT ?nN ?ha ?hn ?ht ?hm ?qN ?qL ?qT ?qS ?qI ?qB ?z_isinstance ?z_int ?z_bool ?z_str ?z_list ?z_tuple ?z_len ?z_abs ?z_max ?z_min ?z_sum ?z_repr ?z_all ?z_range ?z_zip ?gN ?gS ?xg0 ?xl0 ?xs0 ?xga0 ?xgg0 ?xn0 ?xi0 ?xt0 ?xfl0 ?xfc0 ?xfk0 ?xk0 ?xe_0 ?xty0 ?xh0 ?xis0 ?xg1 ?xl1 ?xs1 ?xga1 ?xgg1 ?xn1 ?xi1 ?xt1 ?xfl1 ?xfc1 ?xfk1 ?xk1 ?xe_1 ?xty1 ?xh1 ?xis1 ?xg2 ?xl2 ?xs2 ?xga2 ?xgg2 ?xn2 ?xi2 ?xt2 ?xfl2 ?xfc2 ?xfk2 ?xk2 ?xe_2 ?xty2 ?xh2 ?xis2 ?xg3 ?xl3 ?xs3 ?xga3 ?xgg3 ?xn3 ?xi3 ?xt3 ?xfl3 ?xfc3 ?xfk3 ?xk3 ?xe_3 ?xty3 ?xh3 ?xis3 ?xs_00 ?xs_10 ?xs_11 ?xs_20 ?xs_21 ?xs_22 ?xs_30 ?xs_31 ?xs_32 ?xs_33
    (case aC => k_is)
    (case aE => k_is)
    (case a0 => k_is)
    (case l0 => k_is)
    (case c0 => k_is)
    (case k0 => k_is)
    (case a1 => k_is)
    (case l1 => k_is)
    (case c1 => k_is)
    (case k1 => k_is)
    (case a2 => k_is)
    (case l2 => k_is)
    (case c2 => k_is)
    (case k2 => k_is)
    (case a3 => k_is)
    (case l3 => k_is)
    (case c3 => k_is)
    (case k3 => k_is)
    (case a4 => k_is)
    (case l4 => k_is)
    (case c4 => k_is)
    (case k4 => k_is)
    (case a5 => k_is)
    (case i5 => k_is)
    (case l5 => k_is)
    (case c5 => k_is)
    (case k5 => k_is)
    (case a6 => k_is)
    (case i6 => k_is)
    (case l6 => k_is)
    (case c6 => k_is)
    (case k6 => k_is)
    (case a7 => k_is)
    (case i7 => k_is)
    (case l7 => k_is)
    (case c7 => k_is)
    (case k7 => k_is)
    (case a8 => k_is)
    (case i8 => k_is)
    (case l8 => k_is)
    (case c8 => k_is)
    (case k8 => k_is)
    (case a9 => k_is)
    (case l9 => k_is)
    (case c9 => k_is)
    (case k9 => k_is)
    (case a10 => k_is)
    (case l10 => k_is)
    (case c10 => k_is)
    (case k10 => k_is)
    (case a11 => k_is)
    (case l11 => k_is)
    (case c11 => k_is)
    (case k11 => k_is)
    (case a12 => k_is)
    (case l12 => k_is)
    (case c12 => k_is)
    (case k12 => k_is)
    (case a13 => k_is)
    (case l13 => k_is)
    (case c13 => k_is)
    (case k13 => k_is)
    (case a14 => k_is)
    (case l14 => k_is)
    (case c14 => k_is)
    (case k14 => k_is)
    (case a15 => k_is)
    (case l15 => k_is)
    (case c15 => k_is)
    (case k15 => k_is)
    (case a16 => k_is)
    (case l16 => k_is)
    (case c16 => k_is)
    (case k16 => k_is)
    (case a17 => k_is)
    (case l17 => k_is)
    (case c17 => k_is)
    (case k17 => k_is)
    (case a18 => k_is)
    (case l18 => k_is)
    (case c18 => k_is)
    (case k18 => k_is)
    (case a19 => k_is)
    (case l19 => k_is)
    (case c19 => k_is)
    (case k19 => k_is)
    (case a20 => k_is)
    (case l20 => k_is)
    (case c20 => k_is)
    (case k20 => k_is)
    (case a21 => k_is)
    (case l21 => k_is)
    (case c21 => k_is)
    (case k21 => k_is)
    (case a22 => k_is)
    (case l22 => k_is)
    (case c22 => k_is)
    (case k22 => k_is)
    (case a23 => k_is)
    (case l23 => k_is)
    (case c23 => k_is)
    (case k23 => k_is)
    (case a24 => k_is)
    (case l24 => k_is)
    (case c24 => k_is)
    (case k24 => k_is)
    (case a25 => k_is)
    (case l25 => k_is)
    (case c25 => k_is)
    (case k25 => k_is)
    (case a26 => k_is)
    (case l26 => k_is)
    (case c26 => k_is)
    (case k26 => k_is)
    (case a27 => k_is)
    (case l27 => k_is)
    (case c27 => k_is)
    (case k27 => k_is)
    (case pg => k_is)
    (case hd => k_is)
    (case po => k_is)
    (case sa => k_is)
    (case mk => k_is)
    (case kc => k_is)
    (case nS => k_is)
    (case nT => k_is)
    (case nN => k_is)
    (case ha => k_is)
    (case hn => k_is)
    (case ht => k_is)
    (case hm => k_is)
    (case qN => kit_is)
    (case qL => kit_is)
    (case qT => kit_is)
    (case qS => kit_is)
    (case qI => kit_is)
    (case qB => kit_is)
    (case z_isinstance => k_is)
    (case z_int => k_is)
    (case z_bool => k_is)
    (case z_str => k_is)
    (case z_list => k_is)
    (case z_tuple => k_is)
    (case z_len => k_is)
    (case z_abs => k_is)
    (case z_max => k_is)
    (case z_min => k_is)
    (case z_sum => k_is)
    (case z_repr => k_is)
    (case z_all => k_is)
    (case z_range => k_is)
    (case z_zip => k_is)
    (case gN => k_is)
    (case gS => k_is)
    (case xg0 => k_is)
    (case xl0 => k_is)
    (case xs0 => k_is)
    (case xga0 => k_is)
    (case xgg0 => k_is)
    (case xn0 => k_is)
    (case xi0 => k_is)
    (case xt0 => k_is)
    (case xfl0 => k_is)
    (case xfc0 => k_is)
    (case xfk0 => k_is)
    (case xk0 => k_is)
    (case xe_0 => k_is)
    (case xty0 => k_is)
    (case xh0 => k_is)
    (case xis0 => k_is)
    (case xg1 => k_is)
    (case xl1 => k_is)
    (case xs1 => k_is)
    (case xga1 => k_is)
    (case xgg1 => k_is)
    (case xn1 => k_is)
    (case xi1 => k_is)
    (case xt1 => k_is)
    (case xfl1 => k_is)
    (case xfc1 => k_is)
    (case xfk1 => k_is)
    (case xk1 => k_is)
    (case xe_1 => k_is)
    (case xty1 => k_is)
    (case xh1 => k_is)
    (case xis1 => k_is)
    (case xg2 => k_is)
    (case xl2 => k_is)
    (case xs2 => k_is)
    (case xga2 => k_is)
    (case xgg2 => k_is)
    (case xn2 => k_is)
    (case xi2 => k_is)
    (case xt2 => k_is)
    (case xfl2 => k_is)
    (case xfc2 => k_is)
    (case xfk2 => k_is)
    (case xk2 => k_is)
    (case xe_2 => k_is)
    (case xty2 => k_is)
    (case xh2 => k_is)
    (case xis2 => k_is)
    (case xg3 => k_is)
    (case xl3 => k_is)
    (case xs3 => k_is)
    (case xga3 => k_is)
    (case xgg3 => k_is)
    (case xn3 => k_is)
    (case xi3 => k_is)
    (case xt3 => k_is)
    (case xfl3 => k_is)
    (case xfc3 => k_is)
    (case xfk3 => k_is)
    (case xk3 => k_is)
    (case xe_3 => k_is)
    (case xty3 => k_is)
    (case xh3 => k_is)
    (case xis3 => k_is)
    (case xs_00 => k_is)
    (case xs_10 => k_is)
    (case xs_11 => k_is)
    (case xs_20 => k_is)
    (case xs_21 => k_is)
    (case xs_22 => k_is)
    (case xs_30 => k_is)
    (case xs_31 => k_is)
    (case xs_32 => k_is)
    (case xs_33 => k_is)
