import PyProof.Rows.All
import Wide.All
import OpenK.AllK
import Wide.FinOn
import PyProof.EqAt
import PyProof.EqKinds
import PyProof.TupleCall
import HandS.ForMost
import HandS.Defaults
import HandS.IsInst
import HandS.Gcd
import HandS.Wide
import HandS.Style
import HandS.TupAny
import HandS.Deep
import PyProof.SeqIndex
import PyProof.InstNe
import KE.KIndexOf
import HandS.Zip
import HandS.StrMore
import KE.GoesEnum
import PySem.Challenge.RW_endlots_k02_spaces
set_option Elab.async false
set_option maxRecDepth 100000
set_option maxHeartbeats 4000000
set_option linter.all false
/-! Eld: calls under known guards (so that repr may be spoken of), and what else the laws of Endlots want. -/
namespace Eld
open PySem PySem.Spec PyProof.Rows L2

/-! ## a def that keeps a promise where nothing is being shown (repr) -/
structure FnG (P : Program) (w : World) (K : PySem.W.Frag) (mg : Str → Option Value) (base : Heap) (CX : CXT) (k : Nat) (f : Addr) (fd : FuncData) (ps : List Str) (sp : Sp) : Prop where
  len : ∀ vs H Q E, sp vs H Q E → vs.length = ps.length
  run : ∀ (B : Around) (up : List Env) (z : Shared) (H : Hp) (ar : Args) (us : List Value) (vs : List V) (Q : VK) (E : XK),
    B.guards = some [] → Room k B → Env0 P w K mg base B up z H → BindsTo z fd ar (ps.zip us) → Vals vs us → sp vs H Q E → codeAny (model P w) B (.call (.ref f) ar) (CR CX up P w H z Q E) z
section
variable {P : Program} {w : World} {K : PySem.W.Frag} {mg : Str → Option Value} {base : Heap} {CX : CXT} {f : Addr} {fd : FuncData} {ps : List Str} {sp : Sp}
theorem FnG.of {k : Nat} (F : FnOk P w K mg base CX k f fd ps sp) : FnG P w K mg base CX k f fd ps sp :=
  ⟨F.len, fun B up z H ar us vs Q E _ r => F.run B up z H ar us vs Q E r⟩
theorem FnG.lift {j k : Nat} (F : FnG P w K mg base CX j f fd ps sp) (h : j ≤ k) : FnG P w K mg base CX k f fd ps sp :=
  ⟨F.len, fun B up z H ar us vs Q E g r => F.run B up z H ar us vs Q E g (r.mono h)⟩
end
theorem deeper_guards {B : Around} {env : Env} (h : B.guards = some []) : (B.deeper env).guards = some [] := by
  first
    | exact h
    | (simpa [Around.deeper, Around.under, Code.guards, Code.isGuard, pushGuards] using h)
theorem in1_guards {B : Around} (h : B.guards = some []) : B.in1.guards = some [] := by
  first
    | exact h
    | (simpa [Around.in1] using h)
theorem make_guards {B : Around} {C : Addr} {us : List Value} {kw : List (Str × Value)} (h : B.guards = some []) : (B.under (.builtin "type.__call__" ⟨.ref C :: us, kw⟩)).guards = some [] := by
  first
    | exact h
    | (simpa [Around.under, Code.guards, Code.isGuard, pushGuards, guardIds] using h)

section
variable {P : Program} {w : World} {K : PySem.W.Frag} {mg : Str → Option Value} {base : Heap} {CX : CXT}
/-- the rule for a def -/
theorem fnG_of {k : Nat} {f : Addr} {nm ql : Str} {pa : Arguments} {bd : List Stmt} {sc : Scope} {dV kV doc pm cdv ct oc : Value} {an od : Option Addr} {osl : Array (Option Value)} {N ps : List Str} {sp : Sp}
    (lk : K.lookup f = some ⟨oc, od, .func (PySem.W.fnOf nm ql pa bd sc dV kV doc pm an cdv ct), osl⟩) (cd : PySem.W.codeIn K cdv ql = true) (S : FnScope N ps sc) (ln : ∀ vs H Q E, sp vs H Q E → vs.length = ps.length)
    (bo : ∀ (B : Around) (up : List Env) (z : Shared) (H : Hp) (vs : List V) (Q : VK) (E : XK), (B.deeper (envOfC ql sc z.heap.objs.size f cdv)).guards = some [] → Room k (B.deeper (envOfC ql sc z.heap.objs.size f cdv)) → sp vs H Q E →
      ∃ t, PSs (cxOf CX P w K mg base N ql sc f cdv B up z H E) bd t ∧ t { nx := fun _ G => Q .non G, rt := Q } (start N vs) H) :
    FnG P w K mg base CX (k + 1) f (PySem.W.fnOf nm ql pa bd sc dV kV doc pm an cdv ct) ps sp := by
  constructor
  · exact ln
  intro B up z H ar us vs Q E gd rm e0 bt rv hs
  have len := ln vs H Q E hs
  have there : ∀ b o, base.get? b = some o → z.heap.get? b = some o := fun b o e => (e0.bs b o e).1
  have inK : K.In z.heap := e0.mod.kin.keeps there
  have nolim : z.heap.NoLimit := e0.mod.nolimit.keeps there
  have kinds : ∀ y ∈ ps.zip us, sc.names.lookup y.1 = some .local ∨ (sc.names.lookup y.1 = some .cell ∧ ((cellsFrom (z.heap.objs.size + 1) sc.names []).lookup y.1).isSome = true) := by
    rintro ⟨n, v⟩ hy
    have hn : n ∈ ps := (List.of_mem_zip hy).1
    exact (S.par n hn).imp id fun q => ⟨q, PySem.W.cellsFrom_some _ _ _ (.inl q)⟩
  refine codeAny_call_function rm.depth (inK _ _ lk) rfl S.co S.gen rfl (PySem.W.codeRec_of inK cd) (bt _ _ _ _ ?_)
  refine wpAny_newFunctionEnv_cells S.kind kinds ?_
  rintro env rfl z1 ic
  refine ⟨nolim.keeps ic.toInCall.keep, codeAny_func ?_⟩
  obtain ⟨t, pt, ht⟩ := bo B up z H vs Q E (deeper_guards gd) (rm.deeper _) hs
  have I0 : Inv (cxOf CX P w K mg base N ql sc f cdv B up z H E) [] (start N vs) H z1 := inv_start S rm.hd e0 len rv ic
  refine wpAny_mono (pt.run [] z1 (start N vs) H _ I0 ht) ?_ (fun e z2 q => q)
  rintro fl z2 q
  cases fl with
  | next =>
    obtain ⟨τ, G, J, q⟩ := q
    exact ⟨V.non, G, J.os, J.bare, J.base, J.hok, rfl, q⟩
  | ret u =>
    obtain ⟨v, τ, G, J, rv', q⟩ := q
    exact ⟨v, G, J.os, J.bare, J.base, J.hok, rv', q⟩
  | brk => exact q.choose_spec.choose_spec.2.elim
  | cont => exact q.choose_spec.choose_spec.2.elim
theorem okG {x ql : Str} {st : Stmt} {f : Addr} {fd : FuncData} {N ps : List Str} {k : Nat} {sp : Sp} (F : Fun K x ql st f fd) (S : FnScope N ps (defScope st)) (ln : ∀ vs H Q E, sp vs H Q E → vs.length = ps.length)
    (bo : ∀ (cdv : Value) (B : Around) (up : List Env) (z : Shared) (H : Hp) (vs : List V) (Q : VK) (E : XK), (B.deeper (envOfC ql (defScope st) z.heap.objs.size f cdv)).guards = some [] → Room k (B.deeper (envOfC ql (defScope st) z.heap.objs.size f cdv)) → sp vs H Q E →
      ∃ t, PSs (cxOf CX0 P w K mg base N ql (defScope st) f cdv B up z H E).nox (defBody st) t ∧ t { nx := fun _ G => Q .non G, rt := Q } (start N vs) H) : FnG P w K mg base CX0 (k + 1) f fd ps sp := by
  obtain ⟨oc, od, kV, doc, pm, an, cdv, ct, osl, rfl, lk, cd⟩ := F.ex
  refine fnG_of lk cd S ln ?_
  intro B up z H vs Q E gd rm hs
  obtain ⟨t, h, q⟩ := bo cdv B up z H vs Q E gd rm hs
  exact ⟨t, h.nox, q⟩
end

/-! ## calls: the value called, values by place and by name -/
/-- called with the values xs by place and ys by the names ks -/
def CallV (X : Cx) (fv : Value) (ks : List Str) (r : List V → List V → Hp → VK → Prop) : Prop :=
  ∀ (pins : List (Addr × Obj)) (s : Shared) (σ : L2.St) (H : Hp) (xs ys : List V) (us ws : List Value) (Q : VK), Inv X pins σ H s → Vals xs us → Vals ys ws → r xs ys H Q →
    wpAny (model X.prog X.w) X.A (call fv us (ks.zip ws)) (EP X pins σ Q) X.xe s
section
variable {X : Cx} {CX : CXT} {k n : Nat} {f C : Addr} {fd : FuncData} {ps ks : List Str} {sp : Sp} {E : XK} {g : List Value → List Value → List Value} {gV : List V → List V → List V}
def rFn (n m : Nat) (gV : List V → List V → List V) (sp : Sp) (E : XK) : List V → List V → Hp → VK → Prop := fun xs ys H Q => xs.length = n ∧ ys.length = m ∧ sp (gV xs ys) H Q E
theorem callV_fn (F : FnG X.prog X.w X.K X.mg X.base CX k f fd ps sp) (hb : KBn X.K fd ps n ks g gV) (hx : Passes CX X E) (hG : X.A.guards = some []) (hr : Room k X.A) : CallV X (.ref f) ks (rFn n ks.length gV sp E) := by
  rintro pins s σ H xs ys us ws Q I rx ry ⟨l1, l2, h⟩
  have e1 : us.length = n := rx.length ▸ l1
  have e2 : ws.length = ks.length := ry.length ▸ l2
  refine wpAny_call (codeAny_mono (F.run X.A X.stack s H ⟨us, ks.zip ws⟩ (g us ws) (gV xs ys) Q E hG hr I.env0 (hb.to s us ws I.kIn e1 e2) (hb.rel rx ry) h) ?_)
  intro res s' hq
  match res, hq with
  | .error e, hq => exact hx pins σ H s e s' I hq
  | .ok (.ret u), hq => exact I.after hq
def rMk (C : Addr) (n m : Nat) (gV : List V → List V → List V) (sp : Sp) (E : XK) : List V → List V → Hp → VK → Prop := fun xs ys H Q => xs.length = n ∧ ys.length = m ∧
  ∀ x dx, H x = none → H dx = none → dx ≠ x → sp (gV (.ref x :: xs) ys) (upd (upd H dx (.own x)) x (.ins C dx [])) (fun v G => v = .non ∧ Q (.ref x) G) E
theorem callV_mk (M : Mk X.K C f) (F : FnG X.prog X.w X.K X.mg X.base CX k f fd ps sp) (hb : KBn X.K fd ps (n + 1) ks g gV) (hx : Passes CX X E) (hG : X.A.guards = some []) (hr : Room (k + 1) X.A) : CallV X (.ref C) ks (rMk C n ks.length gV sp E) := by
  rintro pins s σ H xs ys us ws Q I rx ry ⟨l1, l2, h⟩
  have e1 : (Value.ref (s.heap.objs.size + 1) :: us).length = n + 1 := by
    rw [List.length_cons, ← rx.length, l1]
  have e2 : ws.length = ks.length := ry.length ▸ l2
  have hs := h (s.heap.objs.size + 1) s.heap.objs.size (I.hok.fresh (Nat.le_succ _)) (I.hok.fresh (Nat.le_refl _)) (Nat.ne_of_lt (Nat.lt_succ_self _))
  have J := Inv.made (C := C) I
  have rx' : Vals (V.ref (s.heap.objs.size + 1) :: xs) (Value.ref (s.heap.objs.size + 1) :: us) := .cons rfl rx
  refine wpAny_call (make_map (f := f) I.kIn M.makes M.init (beq_iff_eq.mp M.fn) (codeAny_mono (F.run _ X.stack _ _ ⟨Value.ref (s.heap.objs.size + 1) :: us, ks.zip ws⟩ _ _ _ E (make_guards hG) (hr.make C us (ks.zip ws))
    (J.env0.make C us (ks.zip ws)) (hb.to _ _ ws J.kIn e1 e2) (hb.rel rx' ry) hs) ?_))
  intro res s' hq
  match res, hq with
  | .error e, hq => exact hx pins σ _ _ e s' J hq
  | .ok (.ret u), hq =>
    obtain ⟨v, G, I', rv, ev, q⟩ := J.after hq
    subst ev
    exact ⟨rv, ⟨V.ref (s.heap.objs.size + 1), G, I', rfl, q⟩⟩
end
/-- the reading of a call -/
def tCl (r : List V → List V → Hp → VK → Prop) (t tk : TA) : TE := fun σ H Q => t σ H fun xs H1 => tk σ H1 fun ys H2 => r xs ys H2 Q
section
variable {X : Cx} {ks : List Str} {fv : Value} {r : List V → List V → Hp → VK → Prop} {x m : Str} {p pos apos : Pos} {e o : Expr} {es : List Expr} {kws : List Keyword} {ta : TE} {t tk : TA}
/-- f(e, ..) -/
theorem pn_pos (c : CallV X fv [] r) (hg : Gl X x) (hm : X.mg x = some fv) (hk : PySem.W.keepIn X.K fv = true) (ha : PA X (e :: es) t) (hd : (x == ("__debug__" : Str)) = false := by decide)
    (he : starEach (e :: es) X.env = (false, eval e X.env) :: starEach es X.env := by rfl) (hp : (backTo pos (starEach es X.env)).any (·.1) = false := by rfl) : PE X (.Call (.Name x p) (e :: es) [] pos) (tCl r t tNil) := by
  constructor
  intro pins s σ H Q I h
  exact wpAny_Call_Name_kw (ld_glob I hg hm (PySem.W.callWith_K (h₀ := X.base) I.ok.mod.kin hk (thn (ha.run pos pins s σ H _ I h) fun us s1 ⟨xs, H1, I1, rx, q⟩ => ⟨I1.kIn, c pins s1 σ H1 xs [] us [] Q I1 rx .nil q⟩) he hp) hd)
/-- f() -/
theorem pn_none (c : CallV X fv [] r) (hg : Gl X x) (hm : X.mg x = some fv) (hk : PySem.W.keepIn X.K fv = true) (hd : (x == ("__debug__" : Str)) = false := by decide) : PE X (.Call (.Name x p) [] [] pos) (tCl r tNil tNil) := by
  constructor
  intro pins s σ H Q I h
  exact wpAny_Call_Name_kw (ld_glob I hg hm (PySem.W.callWith_K0 I.kIn hk (c pins s σ H [] [] [] [] Q I .nil .nil h)) hd)
/-- f(e, .., k = v, ..) -/
theorem pn_kw (c : CallV X fv ks r) (hg : Gl X x) (hm : X.mg x = some fv) (hk : PySem.W.keepIn X.K fv = true) (ha : PA X (e :: es) t) (hkw : PK X kws tk) (hall : (backToKw pos (keywordEach kws X.env)).all (·.1.isSome) = true := by rfl)
    (hks : (backToKw pos (keywordEach kws X.env)).filterMap (·.1) = ks := by rfl) (hd : (x == ("__debug__" : Str)) = false := by decide) (he : starEach (e :: es) X.env = (false, eval e X.env) :: starEach es X.env := by rfl)
    (hp : ((backTo pos (starEach (e :: es) X.env)).any (·.1) || (backToKw pos (keywordEach kws X.env)).any (·.1.isNone)) = false := by rfl) : PE X (.Call (.Name x p) (e :: es) kws pos) (tCl r t tk) := by
  constructor
  intro pins s σ H Q I h
  subst hks
  exact wpAny_Call_Name_kw (ld_glob I hg hm (PySem.W.callWith_KW (h₀ := X.base) I.ok.mod.kin hk hall (thn (ha.run pos pins s σ H _ I h) fun us s1 ⟨xs, H1, I1, rx, q⟩ =>
    thn (hkw.run pos pins s1 σ H1 _ I1 q) fun ws s2 ⟨ys, H2, I2, ry, q2⟩ => ⟨I2.kIn, c pins s2 σ H2 xs ys us ws Q I2 rx ry q2⟩) hp he) hd)
/-- f(k = v, ..) -/
theorem pn_kw0 (c : CallV X fv ks r) (hg : Gl X x) (hm : X.mg x = some fv) (hk : PySem.W.keepIn X.K fv = true) (hkw : PK X kws tk) (hall : (backToKw pos (keywordEach kws X.env)).all (·.1.isSome) = true := by rfl)
    (hks : (backToKw pos (keywordEach kws X.env)).filterMap (·.1) = ks := by rfl) (hd : (x == ("__debug__" : Str)) = false := by decide)
    (hp : ((backTo pos (starEach [] X.env)).any (·.1) || (backToKw pos (keywordEach kws X.env)).any (·.1.isNone)) = false := by rfl) : PE X (.Call (.Name x p) [] kws pos) (tCl r tNil tk) := by
  constructor
  intro pins s σ H Q I h
  subst hks
  exact wpAny_Call_Name_kw (ld_glob I hg hm (PySem.W.callWith_KW0 (h₀ := X.base) I.ok.mod.kin hk hall (thn (hkw.run pos pins s σ H _ I h) fun ws s2 ⟨ys, H2, I2, ry, q2⟩ => ⟨I2.kIn, c pins s2 σ H2 [] ys [] ws Q I2 .nil ry q2⟩) hp) hd)
/-- o.m(..): o is an instance of the class at C -/
def tMt (C : Addr) (m : Str) (r : List V → List V → Hp → VK → Prop) (ta : TE) (t tk : TA) : TE := fun σ H Q => ta σ H fun x H1 => ∃ a dx fs, x = .ref a ∧ H1 a = some (.ins C dx fs) ∧ List.lookup m fs = none ∧
  t σ H1 fun xs H2 => tk σ H2 fun ys H3 => r (.ref a :: xs) ys H3 Q
variable {C f : Addr} {pl : Sem Bool}
theorem pm_pos (c : CallV X (.ref f) [] r) (hc : Cls X.K C) (hm : Meth X.K C m f) (ho : PE X o ta) (ha : PA X (e :: es) t) (he : starEach (e :: es) X.env = (false, eval e X.env) :: starEach es X.env := by rfl) (hp : (backTo pos (starEach es X.env)).any (·.1) = false := by rfl)
    (ht : eval (.Call (.Attribute o m apos) (e :: es) [] pos) X.env = (do
      let ov ← eval o X.env
      standAt apos.atName
      let (f, first) ← holding [ov] (getMethod ov m pl)
      callWith pos f first (backTo pos (starEach (e :: es) X.env)) (backToKw pos (keywordEach [] X.env))) := by rfl) : PE X (.Call (.Attribute o m apos) (e :: es) [] pos) (tMt C m r ta t tNil) := by
  constructor
  intro pins s σ H Q I h
  refine PySem.W.methodCall_KW (pl := pl) (thn (ho.run pins s σ H _ I h) ?_) ht
  rintro u s1 ⟨y, H1, I1, ry, a, dx, fs, rfl, ea, l, q⟩
  obtain rfl : u = Value.ref a := ry
  exact getmeth_ok I1 ea hc hm l (PySem.W.callWith_K (first := [.ref a]) (h₀ := X.base) I.ok.mod.kin hm.kp (thn (ha.run pos pins s1 σ H1 _ I1 q) fun us s2 ⟨xs, H2, I2, rx, q2⟩ => ⟨I2.kIn, c pins s2 σ H2 _ [] (.ref a :: us) [] Q I2 (.cons (show RelV (V.ref a) (Value.ref a) from rfl) rx) .nil q2⟩) he hp)
theorem pm_none (c : CallV X (.ref f) [] r) (hc : Cls X.K C) (hm : Meth X.K C m f) (ho : PE X o ta)
    (ht : eval (.Call (.Attribute o m apos) [] [] pos) X.env = (do
      let ov ← eval o X.env
      standAt apos.atName
      let (f, first) ← holding [ov] (getMethod ov m pl)
      callWith pos f first (backTo pos (starEach [] X.env)) (backToKw pos (keywordEach [] X.env))) := by rfl) : PE X (.Call (.Attribute o m apos) [] [] pos) (tMt C m r ta tNil tNil) := by
  constructor
  intro pins s σ H Q I h
  refine PySem.W.methodCall_KW (pl := pl) (thn (ho.run pins s σ H _ I h) ?_) ht
  rintro u s1 ⟨y, H1, I1, ry, a, dx, fs, rfl, ea, l, q⟩
  obtain rfl : u = Value.ref a := ry
  exact getmeth_ok I1 ea hc hm l (PySem.W.callWith_K0 (first := [.ref a]) I1.kIn hm.kp (c pins s1 σ H1 _ [] [.ref a] [] Q I1 (.cons (show RelV (V.ref a) (Value.ref a) from rfl) .nil) .nil q))
theorem pm_kw0 (c : CallV X (.ref f) ks r) (hc : Cls X.K C) (hm : Meth X.K C m f) (ho : PE X o ta) (hkw : PK X kws tk) (hall : (backToKw pos (keywordEach kws X.env)).all (·.1.isSome) = true := by rfl)
    (hks : (backToKw pos (keywordEach kws X.env)).filterMap (·.1) = ks := by rfl)
    (hp : ((backTo pos (starEach [] X.env)).any (·.1) || (backToKw pos (keywordEach kws X.env)).any (·.1.isNone)) = false := by rfl)
    (ht : eval (.Call (.Attribute o m apos) [] kws pos) X.env = (do
      let ov ← eval o X.env
      standAt apos.atName
      let (f, first) ← holding [ov] (getMethod ov m pl)
      callWith pos f first (backTo pos (starEach [] X.env)) (backToKw pos (keywordEach kws X.env))) := by rfl) : PE X (.Call (.Attribute o m apos) [] kws pos) (tMt C m r ta tNil tk) := by
  constructor
  intro pins s σ H Q I h
  subst hks
  refine PySem.W.methodCall_KW (pl := pl) (thn (ho.run pins s σ H _ I h) ?_) ht
  rintro u s1 ⟨y, H1, I1, ry, a, dx, fs, rfl, ea, l, q⟩
  obtain rfl : u = Value.ref a := ry
  exact getmeth_ok I1 ea hc hm l (PySem.W.callWith_KW0 (first := [.ref a]) (h₀ := X.base) I.ok.mod.kin hm.kp hall (thn (hkw.run pos pins s1 σ H1 _ I1 q) fun ws s2 ⟨ys, H2, I2, ry', q2⟩ => ⟨I2.kIn, c pins s2 σ H2 _ ys [.ref a] ws Q I2 (.cons (show RelV (V.ref a) (Value.ref a) from rfl) .nil) ry' q2⟩) hp)
end
end Eld
set_option Elab.async false
set_option maxRecDepth 100000
set_option maxHeartbeats 4000000
set_option linter.all false
namespace Eld
open PySem PySem.Spec PyProof.Rows L2
section
variable {P : Program} {w : World} {K : PySem.W.Frag} {mg mb : Str → Option Value} {CX : CXT} {k : Nat} {fa a : Addr} {fd : FuncData} {x : Str} {sp : Sp} {z : Shared} {vs : List Value} {ns : List Int}
/-- what is wanted of a law's call -/
def LawR (z : Shared) (r : Result) (z' : Shared) : Prop := r = .ok (.ret (.bool true)) ∧ OldK z.heap z'.heap ∧ z'.os = z.os ∧ AllBare z'.gens
/-- from an abstract heap G in which at most the script is told -/
theorem law_fromG (G : Hp) (only : Only G) (here : ∀ b, G b ≠ none → b = a) (notK : G a ≠ none → K.lookup a = none) (seen : SqL K G a (ns.map V.int)) (ok : HOk P w G z.heap)
    (inK : K.In z.heap) (gl : z.heap.Ns mainGlobals mg) (bn : z.heap.Ns builtinsNs mb) (bb : ∀ y : Str, y ≠ "__name__" → mb y = bootBuiltins y) (nolim : z.heap.NoLimit) (gens : z.gens = #[])
    (ha : z.heap.get? a = some { cls := .type "list", data := .seq vs.toArray }) (rm : Room k callerA) (F : ∀ base : Heap, K.In base → base.Ns mainGlobals mg → FnG P w K mg base CX k fa fd [x] sp)
    (bt : ∀ (s : Shared) (u : Value), BindsTo s fd ⟨[u], []⟩ [(x, u)]) (want : sp [.ref a] G (fun v _ => v = .bl true) fun _ _ _ => False) (noErr : ∀ e z', CX [] G z (fun _ _ _ => False) e z' → False) :
    codeAny (model P w) callerA (.call (.ref fa) ⟨[.ref a], []⟩) (LawR z) z := by
  have out : ∀ {b : Addr} {o : Obj}, z.heap.get? b = some o → b ≠ a → G b = none := fun {b o} _ ne => by
    cases q : G b with
    | none => rfl
    | some u => exact absurd (here b (by rw [q]; exact Option.some_ne_none u)) ne
  have off : ∀ {b : Addr} {m : Str → Option Value}, z.heap.Ns b m → (hidT z.heap G).Ns b m := by
    rintro b m ⟨o, es, ep, e, d, r⟩
    have ne : b ≠ a := by
      rintro rfl
      have e' := ha.symm.trans e
      cases e'
      cases d
    exact ⟨o, es, ep, hidT_get e (out e ne), d, r⟩
  have kb : K.In (hidT z.heap G) := by
    intro b o e
    have e1 := inK b o e
    refine hidT_get e1 ?_
    by_cases q : G b = none
    · exact q
    · have eb := here b q
      subst eb
      rw [notK q] at e
      cases e
  obtain ⟨mc, l1, l2⟩ := nolim
  have md : Mod K mg (hidT z.heap G) := ⟨kb, off gl, ⟨mb, off bn, bb⟩, ⟨mc, off l1, l2⟩⟩
  have env : Env0 P w K mg (hidT z.heap G) callerA [] z G :=
    { frames := rfl, mod := md, bs := fun b o e => of_hidT e, bsz := Nat.le_of_eq (hidT_size _ _), funs := trivial, frf := fun b hb => (List.not_mem_nil hb).elim, hok := ok, bare := .of_eq gens }
  refine codeAny_mono ((F _ kb (off gl)).run callerA [] z G ⟨[.ref a], []⟩ [.ref a] [.ref a] _ _ rfl rm env (bt z (.ref a)) (.cons rfl .nil) want) ?_
  intro r z' q
  match r, q with
  | .error e, q => exact (noErr e z' q).elim
  | .ok (.ret u), ⟨v, G', os, bare, un, ok', rv, q⟩ =>
    cases (show v = .bl true from q)
    cases (show u = Value.bool true from rv)
    refine ⟨rfl, OldK.of_keep ?_, os, bare⟩
    intro b o e
    rcases only b with n | ⟨ob, xs, n⟩
    · exact un.keep b o e n (fun h => (List.not_mem_nil h).elim) (fun h => (List.not_mem_nil h).elim)
    · have e1 := (ok b _ n).1
      have e2 := (ok' b _ (un.frzs b ob _ n)).1
      exact e2.trans (e1.symm.trans e)
theorem law_callG (inK : K.In z.heap) (gl : z.heap.Ns mainGlobals mg) (bn : z.heap.Ns builtinsNs mb) (bb : ∀ y : Str, y ≠ "__name__" → mb y = bootBuiltins y) (nolim : z.heap.NoLimit) (gens : z.gens = #[])
    (ha : z.heap.get? a = some { cls := .type "list", data := .seq vs.toArray }) (hi : IntsAre vs ns) (hl : ns.length ≤ sizeLine) (rm : Room k callerA)
    (F : ∀ base : Heap, K.In base → base.Ns mainGlobals mg → FnG P w K mg base CX k fa fd [x] sp) (bt : ∀ (s : Shared) (u : Value), BindsTo s fd ⟨[u], []⟩ [(x, u)])
    (want : ∀ G : Hp, Only G → SqL K G a (ns.map V.int) → sp [.ref a] G (fun v _ => v = .bl true) fun _ _ _ => False) (noErr : ∀ G e z', CX [] G z (fun _ _ _ => False) e z' → False) :
    codeAny (model P w) callerA (.call (.ref fa) ⟨[.ref a], []⟩) (LawR z) z := by
  have rv := vals_ints hi
  have small : (ns.map V.int).length ≤ sizeLine := by rw [List.length_map]; exact hl
  cases hk : K.lookup a with
  | none =>
    let ob : Obj := { cls := .type "list", data := .seq vs.toArray }
    let G : Hp := fun b => if b = a then some (.frz ob (.lst (ns.map V.int))) else none
    have ga : G a = some (.frz ob (.lst (ns.map V.int))) := if_pos rfl
    have gn : ∀ b, b ≠ a → G b = none := fun b h => if_neg h
    have only : Only G := fun b => (Classical.em (b = a)).elim (fun h => .inr ⟨ob, _, h ▸ ga⟩) fun h => .inl (gn b h)
    have seen : SqL K G a (ns.map V.int) := .inl (.inr ⟨ob, ga⟩)
    refine law_fromG G only (fun b h => Classical.byContradiction fun n => h (gn b n)) (fun _ => hk) seen ?_ inK gl bn bb nolim gens ha rm F bt (want G only seen) (noErr G)
    intro b u e
    by_cases h : b = a
    · subst h
      rw [ga] at e
      cases e
      exact ⟨ha, small, vs, _, rv, ha⟩
    · rw [gn b h] at e
      cases e
  | some o =>
    have e := inK a o hk
    rw [ha] at e
    cases e
    have seen : SqL K (fun _ => none) a (ns.map V.int) := .inr ⟨_, vs.toArray, _, hk, rfl, rfl, rfl, by rw [List.size_toArray, hi.length]; exact hl, by simpa using rv⟩
    exact law_fromG (fun _ => none) (fun _ => .inl rfl) (fun _ h => absurd rfl h) (fun h => absurd rfl h) seen (fun _ _ e => by cases e) inK gl bn bb nolim gens ha rm F bt (want _ (fun _ => .inl rfl) seen) (noErr _)
end
/-- the goal that the head leaves -/
theorem walk_G {l : PySem.W.OpenLaw} {n k : Nat} {q : Program} {loose : List Str} {XP : (Str → Option Value) → Heap → Prop} {YP : World → Heap → Prop} {d : DefRec} {K : Params → PySem.W.Frag} {sp : PySem.W.Frag → Sp} {x : Str}
    (hn : l.most = some n) (n2 : n ≤ sizeLine) (hd : d.params.defaults = []) (rm : Room k callerA) (hY : ∀ (w : World) (h : Heap), YP w h → (K w.params).In h)
    (F : ∀ (w : World) (mg : Str → Option Value) (fa : Addr) (h : Heap), (K w.params).In h → h.Ns mainGlobals mg → mg d.name = some (.ref fa) →
      ∃ fd : FuncData, (∀ (s : Shared) (u : Value), BindsTo s fd ⟨[u], []⟩ [(x, u)]) ∧ ∀ base : Heap, (K w.params).In base → base.Ns mainGlobals mg → FnG l.prog w (K w.params) mg base CX0 k fa fd [x] (sp (K w.params)))
    (want : ∀ (w : World) (G : Hp) (a : Addr) (ns : List Int), ns.length ≤ n → SqL (K w.params) G a (ns.map V.int) → sp (K w.params) [.ref a] G (fun v _ => v = .bl true) fun _ _ _ => False) :
    PySem.W.WalkO q loose XP YP l.row.toRowW d [] (fun f vs => PySem.call f vs) := by
  refine Att.attach_call hn hd ?_
  intro w s₀ s₁ mg mb fa o pm cd doc a vs ns G Y ho hdt hcd hmg hobj hints hlen hg
  obtain ⟨fd, hb, hF⟩ := F w mg fa _ (hY w _ Y) G.T.g hmg
  exact law_callG (CX := CX0) (hY w _ Y) G.T.g G.T.b G.T.builtins G.T.nolimit hg hobj hints (Nat.le_trans hlen n2) rm hF hb (fun G _ h => want w G a ns hlen h) fun _ _ _ h => h.elim
end Eld
set_option Elab.async false
set_option maxRecDepth 100000
set_option maxHeartbeats 4000000
set_option linter.all false
namespace Eld
open PySem PySem.Spec PyProof.Rows L2
section
variable {X : Cx}
/-! ### repr of lists and tuples of data -/
def rReprD (K : PySem.W.Frag) : List V → Hp → VK → Prop := fun xs H Q => ∃ a d, xs = [.ref a] ∧ Dp K H (.ref a) d ∧ d.showable = true ∧ d.hasDict = false ∧ d.depth ≤ 60 ∧ d.shown.length ≤ sizeLine ∧ Q (.str d.shown) H
theorem call_reprD (hG : X.A.guards = some []) (hu : X.A.units + 64 < cLine) : CallR X (.builtin "repr") (rReprD X.K) := by
  rintro pins s σ H xs us Q I r ⟨a, d, rfl, dp, sh, nd, dd, sz, q⟩
  obtain ⟨u, rfl, ru⟩ := vals1 r
  obtain ⟨as, rd⟩ := Dp.reads I d _ u dp ru
  cases ru
  exact repr_of_reads' rd sh (PyData.noDict_hsm nd) hG (by omega) (fun _ _ e => e) (fun h' u tk hk => ⟨.str d.shown, H, I.kept hk, ⟨_, rfl⟩, q⟩) sz
/-! ### t.index(x), t a tuple of data -/
def rTupIx (K : PySem.W.Frag) : V → List V → Hp → VK → Prop := fun x xs H Q => ∃ (a : Addr) (y : V) (d z : PyData) (ds : List PyData) (j : Nat), x = .ref a ∧ xs = [y] ∧ Dp K H (.ref a) (.tuple ds) ∧ Dp K H y d ∧
  SeqAt.shaped (.tuple ds) = true ∧ SeqAt.shaped d = true ∧ ds[j]? = some z ∧ PyData.eqv z d = true ∧ (∀ (m : Nat) (z' : PyData), m < j → ds[m]? = some z' → PyData.eqv z' d = false) ∧ Q (.int (j : Nat)) H
theorem mt_tupIx (hu : X.A.units + 65 < cLine) : MtR X "tuple.index" (rTupIx X.K) := by
  rintro pins s σ H x xs v us Q I rx rxs ⟨a, y, d, z, ds, j, rfl, rfl, hl, hy, sl, sd, hz, hit, hno, q⟩
  cases rx
  obtain ⟨uy, rfl, ry⟩ := vals1 rxs
  obtain ⟨bs, r1⟩ := Dp.reads I d y uy hy ry
  have lay : PyData.canLayAll0 ds = true := by
    have := SeqAt.canLay_of_shaped sl
    simpa only [PyData.canLay0] using this
  have room : X.A.units + 1 + min (PyData.depthAll ds) d.depth < cLine := by
    have h1 : d.depth ≤ 64 := by
      have h := sd
      simp only [SeqAt.shaped, Bool.and_eq_true, decide_eq_true_eq] at h
      exact h.2
    have h2 : min (PyData.depthAll ds) d.depth ≤ d.depth := Nat.min_le_right _ _
    omega
  cases hl with
  | tup hs ha =>
    obtain ⟨its, rv, ⟨⟨cls, dd, data, sls⟩, ho, hc, n, hdt⟩, hlen⟩ := I.tuple hs
    simp only at hc hdt
    subst hc hdt
    obtain ⟨as, h4⟩ := Dp.readsAll I ds _ its ha rv
    have hn : its.length = ds.length := SeqAt.ReadsAll.length ds its as h4
    have hmap : its.map (SeqAt.readOf s.heap) = ds := SeqAt.readsAll_map ds its as lay h4
    have hjd : j < ds.length := (List.getElem?_eq_some_iff.mp hz).1
    have at_ : ∀ (m : Nat) (hm : m < its.toArray.size) (z' : PyData), ds[m]? = some z' → SeqAt.readOf s.heap its.toArray[m] = z' := by
      intro m hm z' hz'
      have hml : m < its.length := by simpa using hm
      rw [← hmap, List.getElem?_map, List.getElem?_eq_getElem hml] at hz'
      simpa using hz'
    refine call_meets F.slot_tuple_index ⟨_, ho, rfl⟩ F.entry_tuple_index (F.args_tuple_index_2 _ _)
      (SeqAt.tuple_index2_found a its.toArray n dd sls uy (fun m => if hm : m < its.toArray.size then PyData.eqv (SeqAt.readOf s.heap its.toArray[m]) d else false) j (by simpa [hn] using hjd) (Nat.zero_le _) (by simpa [hn] using hjd) ?_ ?_) ⟨ho, fun m hm => ?_, ?_⟩
    · have hj' : j < its.toArray.size := by simpa [hn] using hjd
      rw [dif_pos hj', at_ j hj' z hz]
      exact hit
    · intro m hm _ hmj
      have hmd : m < ds.length := Nat.lt_trans hmj hjd
      rw [dif_pos hm, at_ m hm _ (List.getElem?_eq_getElem hmd)]
      exact hno m _ hmj (List.getElem?_eq_getElem hmd)
    · rw [dif_pos hm]
      exact SeqAt.items_eqAt (vs := its.toArray) (show ReadsAll s.heap its.toArray.toList ds as from h4) r1 lay (SeqAt.canLay_of_shaped sd) room _ (Array.getElem_mem hm)
    · exact ⟨.int (j : Nat), H, I.tok _, ⟨_, rfl⟩, q⟩
end
/-! ### ==, != and len of an own class -/
section
variable {X : Cx} {CX : CXT} {k : Nat} {f C : Addr} {fd : FuncData} {ps : List Str} {sp : Sp} {E : XK}
def rOwnC (K : PySem.W.Frag) (C : Addr) (sp : Sp) (E : XK) : R2 := fun x y H Q => ∃ a dx fs t, x = .ref a ∧ H a = some (.ins C dx fs) ∧ TyX K H y t ∧ PySem.W.notFirst K C t = true ∧ sp [x, y] H Q E
theorem run_own {B : Around} {pins : List (Addr × Obj)} {s : Shared} {σ : L2.St} {H : Hp} {a : Addr} {y : V} {u : Value} {Q : VK} (F : FnG X.prog X.w X.K X.mg X.base CX k f fd ps sp) (hb : Binds X.K fd ps []) (hx : Passes CX X E)
    (hf : B.frames = X.A.frames) (hG : B.guards = some []) (hr : Room k B) (I : Inv X pins σ H s) (ry : RelV y u) (h : sp [.ref a, y] H Q E) : wpAny (model X.prog X.w) B (call (.ref f) [.ref a, u]) (EP X pins σ Q) X.xe s := by
  have e0 := I.env0
  have e1 : Env0 X.prog X.w X.K X.mg X.base B X.stack s H := ⟨hf.trans e0.frames, e0.mod, e0.bs, e0.bsz, e0.funs, e0.frf, e0.hok, e0.bare⟩
  have rv : Vals [V.ref a, y] [Value.ref a, u] := .cons rfl (.cons ry .nil)
  have ln : ([Value.ref a, u] ++ ([] : List Value)).length = ps.length := F.len _ _ _ _ h
  refine wpAny_call (codeAny_mono (F.run B X.stack s H ⟨[.ref a, u], []⟩ ([.ref a, u] ++ []) [.ref a, y] Q E hG hr e1 (hb s [.ref a, u] I.kIn ln) rv h) ?_)
  intro res s' hq
  match res, hq with
  | .error e, hq => exact hx pins σ H s e s' I hq
  | .ok (.ret w), hq => exact I.after hq
theorem op_ownEq (F : FnG X.prog X.w X.K X.mg X.base CX k f fd ps sp) (hb : Binds X.K fd ps []) (hx : Passes CX X E) (hs : PySem.W.findIn X.K (.ref C) "__eq__" = some (some (.ref f))) (hf : PySem.W.isFn X.K (.ref f) = true)
    (hG : X.A.guards = some []) (hr : Room k X.A) : OpR X (compareOp .Eq) (rOwnC X.K C sp E) := by
  rintro pins s σ H x y v u Q I rx ry ⟨a, dx, fs, t, rfl, ea, ty, nf, h⟩
  cases rx
  obtain ⟨mA, J, _⟩ := ins_get I.hok ea
  obtain ⟨od, J, _⟩ := J.look
  obtain ⟨G, Z, p, _⟩ := kit_of I ry ty
  obtain ⟨m, hF⟩ := I.fr
  show wpAny (model X.prog X.w) X.A (richCompare .Eq (.ref a) u) (EP X pins σ Q) X.xe s
  refine PySem.W.cmp_K (op := .Eq) hr.units0 hF I.ok.mod.kin J (Z.ty _ _ I.kIn p) nf hs hf (thn (run_own F hb hx rfl hG hr I ry h) ?_)
  rintro w s' ⟨z, H', I', rz, q⟩
  cases z with
  | non => cases rz; exact ⟨.non, H', I', rfl, q⟩
  | bl b => cases rz; exact ⟨.bl b, H', I', rfl, q⟩
  | int i => obtain ⟨t, rfl⟩ := rz; exact ⟨.int i, H', I', ⟨t, rfl⟩, q⟩
  | str i => obtain ⟨t, rfl⟩ := rz; exact ⟨.str i, H', I', ⟨t, rfl⟩, q⟩
  | byt i => obtain ⟨t, rfl⟩ := rz; exact ⟨.byt i, H', I', ⟨t, rfl⟩, q⟩
  | flt i => obtain ⟨t, rfl⟩ := rz; exact ⟨.flt i, H', I', ⟨t, rfl⟩, q⟩
  | ref i => cases rz; exact ⟨.ref i, H', I', rfl, q⟩
  | ty i => cases rz; exact ⟨.ty i, H', I', rfl, q⟩
/-- len(x), x of an own class -/
def rOwnLen (C : Addr) (sp : Sp) (E : XK) : List V → Hp → VK → Prop := fun xs H Q => ∃ a dx fs, xs = [.ref a] ∧ H a = some (.ins C dx fs) ∧ sp [.ref a] H (fun v G => ∃ n : Int, v = .int n ∧ 0 ≤ n ∧ n < 2 ^ 63 ∧ Q (.int n) G) E
theorem call_ownLen (F : FnG X.prog X.w X.K X.mg X.base CX k f fd ps sp) (hb : Binds X.K fd ps []) (hx : Passes CX X E) (hs : PySem.W.findIn X.K (.ref C) "__len__" = some (some (.ref f))) (hf : PySem.W.isFn X.K (.ref f) = true)
    (hG : X.A.guards = some []) (hr : Room (k + 1) X.A) : CallR X (.builtin "len") (rOwnLen C sp E) := by
  rintro pins s σ H xs us Q I r ⟨a, dx, fs, rfl, ea, h⟩
  obtain ⟨u, rfl, ru⟩ := vals1 r
  cases ru
  obtain ⟨mA, J, _⟩ := ins_get I.hok ea
  obtain ⟨od, J, _⟩ := J.look
  obtain ⟨m, hF⟩ := I.fr
  have e0 := I.env0
  have e1 : Env0 X.prog X.w X.K X.mg X.base X.A.in1 X.stack s H := e0.in1
  have rv : Vals [V.ref a] [Value.ref a] := .cons rfl .nil
  have ln : ([Value.ref a] ++ ([] : List Value)).length = ps.length := F.len _ _ _ _ h
  refine PySem.W.len_K hF I.ok.mod.kin J hs hf (wpAny_call (codeAny_mono (F.run X.A.in1 X.stack s H ⟨[.ref a], []⟩ ([.ref a] ++ []) [.ref a] _ E (in1_guards hG) hr.in1 e1 (hb s [.ref a] I.kIn ln) rv h) ?_))
  intro res s' hq
  match res, hq with
  | .error e, hq => exact hx pins σ H s e s' I hq
  | .ok (.ret w), hq =>
    obtain ⟨v, G, I', rv', n, rfl, h0, h1, q⟩ := I.after hq
    obtain ⟨t, rfl⟩ := rv'
    exact ⟨⟨h0, h1⟩, .int n, G, I'.tok _, ⟨_, rfl⟩, q⟩
/-- x != y, x of an own class with == alone -/
def rOwnNe (K : PySem.W.Frag) (C : Addr) (sp : Sp) (E : XK) : R2 := fun x y H Q => ∃ a dx fs t, x = .ref a ∧ H a = some (.ins C dx fs) ∧ TyX K H y t ∧ PySem.W.notFirst K C t = true ∧ sp [x, y] H (fun v G => ∃ b : Bool, v = .bl b ∧ Q (.bl (!b)) G) E
theorem slot_ne_bind (v : Value) : bindSpecial (.builtin "object.__ne__") v = pure (.builtin "object.__ne__", [v]) := by
  exact PySem.F.cmp_object.ne.bind v
theorem op_ownNe (F : FnG X.prog X.w X.K X.mg X.base CX k f fd ps sp) (hb : Binds X.K fd ps []) (hx : Passes CX X E) (hs : PySem.W.findIn X.K (.ref C) "__eq__" = some (some (.ref f))) (hf : PySem.W.isFn X.K (.ref f) = true)
    (hn : PySem.W.findIn X.K (.ref C) "__ne__" = some (some (.builtin "object.__ne__"))) (ho : PySem.W.subIn X.K (.ref C) (.type "object") = some true)
    (hG : X.A.guards = some []) (hr : Room (k + 1) X.A) : OpR X (compareOp .NotEq) (rOwnNe X.K C sp E) := by
  rintro pins s σ H x y v u Q I rx ry ⟨a, dx, fs, t, rfl, ea, ty, nf, h⟩
  cases rx
  obtain ⟨mA, J, _⟩ := ins_get I.hok ea
  obtain ⟨od, J, _⟩ := J.look
  obtain ⟨G, Z, p, _⟩ := kit_of I ry ty
  have inK := I.kIn
  have tl := Z.ty (model X.prog X.w) _ I.kIn p
  -- what == tells, turned
  have back : wpAny (model X.prog X.w) X.A.in1 (call (.ref f) [.ref a, u]) (fun r s' => ∃ b : Bool, r = .bool b ∧ EP X pins σ Q (.bool (!b)) s') X.xe s := by
    refine thn (run_own F hb hx rfl (in1_guards hG) hr.in1 I ry h) ?_
    rintro w s' ⟨z, H', I', rz, b, rfl, q⟩
    cases rz
    exact ⟨b, rfl, .bl (!b), H', I', rfl, q⟩
  have body : wpAny (model X.prog X.w) X.A.in1 (Builtin.«object.__ne__» ⟨[.ref a, u], []⟩) (fun fin s' => ∃ b : Bool, fin = .done (.ret (.bool b)) ∧ EP X pins σ Q (.bool b) s') X.xe s := by
    unfold Builtin.«object.__ne__»
    have hu : X.A.in1.units < cLine := hr.in1.units0
    repeat (first
      | with_reducible refine wpAny_cRoomFor hu ?_
      | (refine wpAny_bind (m := callSpecialIfBound? (.ref a) (Str.ofString "__eq__") [u]) (PySem.W.ifBound_K inK J hs hf (wpAny_mono back (fun r s' hr => by
          obtain ⟨b, rfl, q⟩ := hr
          repeat (first | exact ⟨_, rfl, q⟩ | exact wpAny_pure ⟨_, rfl, q⟩ | exact wpAny_truthy_bool ⟨_, rfl, q⟩ | (refine wpAny_bind (m := truthy (.bool _)) (wpAny_truthy_bool ?_)) | wp_step)) fun _ _ e => e)))
      | wp_step)
  have callNe : wpAny (model X.prog X.w) X.A (call (.builtin "object.__ne__") [.ref a, u]) (fun r s' => ∃ b : Bool, r = .bool b ∧ EP X pins σ Q (.bool b) s') X.xe s := by
    refine wpAny_call (codeAny_call_builtin PySem.F.cmp_object.ne.plain PySem.F.cmpEntry_ne (PySem.W.check_slot PySem.F.cmpKind_ne PySem.F.cmpSplit_ne (J.type.andThen (PySem.W.looks_subIn inK ho)) (PySem.F.cmpArgs_ne _ _) (wpAny_mono body ?_ fun _ _ e => e)))
    rintro fin s' ⟨b, rfl, q⟩
    exact ⟨b, rfl, q⟩
  have bound : wpAny (model X.prog X.w) X.A (callSpecialIfBound? (.ref a) (Str.ofString "__ne__") [u]) (fun r s' => ∃ b : Bool, r = some (.bool b) ∧ EP X pins σ Q (.bool b) s') X.xe s := by
    simp only [callSpecialIfBound?, bindSpecialIfBound?]
    refine wpAny_holding (wpAny_bind (wpAny_bind (wpAny_bind (J.type.here ((PySem.W.looks_findIn inK hn).here ?_)))))
    have fin : wpAny (model X.prog X.w) X.A (call (.builtin "object.__ne__") ([.ref a] ++ [u]) >>= fun v => pure (some v)) (fun r s' => ∃ b : Bool, r = some (.bool b) ∧ EP X pins σ Q (.bool b) s') X.xe s :=
      wpAny_bind (wpAny_mono callNe (fun r s' ⟨b, e, q⟩ => wpAny_pure ⟨b, by rw [e], q⟩) fun _ _ e => e)
    refine wpAny_bind (wpAny_askSetting (wpAny_ite ?_))
    split
    · refine wpAny_bind ?_
      rw [slot_ne_bind]
      exact wpAny_pure (wpAny_pure (by exact fin))
    · refine wpAny_tryCatch (wpAny_bind ?_)
      rw [slot_ne_bind]
      exact wpAny_pure (wpAny_pure (by exact fin))
  have one : wpAny (model X.prog X.w) X.A (tryCompare (.ref a) (Str.ofString "__ne__") u) (fun r s' => ∃ b : Bool, r = some (.bool b) ∧ EP X pins σ Q (.bool b) s') X.xe s := by
    unfold tryCompare
    exact wpAny_bind (wpAny_mono bound (fun r s' ⟨b, e, q⟩ => by subst e; exact wpAny_pure ⟨b, rfl, q⟩) fun _ _ e => e)
  show wpAny (model X.prog X.w) X.A (richCompare .NotEq (.ref a) u) (EP X pins σ Q) X.xe s
  unfold richCompare
  simp only [oneThing_ref]
  refine wpAny_holding (wpAny_bind (wpAny_cRoomFor hr.units0 ?_))
  refine wpAny_bind (J.type.here (wpAny_bind (tl.here ?_)))
  split
  · rename_i q
    have e : PySem.W.subIn X.K t (.ref C) = some false := by
      rcases Bool.or_eq_true_iff.mp nf with e | e
      · rw [beq_iff_eq.mp e] at q
        simp at q
      · exact beq_iff_eq.mp e
    refine wpAny_bind ((PySem.W.looks_subIn inK e).here ?_)
    simp only [Bool.false_eq_true, if_false]
    refine wpAny_bind (wpAny_mono one ?_ fun _ _ e => e)
    rintro r s' ⟨b, rfl, hq⟩
    exact wpAny_pure hq
  · refine wpAny_bind (wpAny_pure ?_)
    simp only [Bool.false_eq_true, if_false]
    refine wpAny_bind (wpAny_mono one ?_ fun _ _ e => e)
    rintro r s' ⟨b, rfl, hq⟩
    exact wpAny_pure hq
end
end Eld
set_option Elab.async false
set_option maxRecDepth 100000
set_option maxHeartbeats 4000000
set_option linter.all false
namespace Eld
open PySem PySem.Spec PyProof.Rows L2
section
variable {X : Cx}
/-! ### a tuple of which it is known that it has no dict -/
/-- a tuple that was made of a list here: it has no dict, so its methods may be asked -/
def BareT (H : Hp) (a : Addr) (ys : List V) : Prop := ∃ o : Obj, H a = some (.frz o (.tup ys)) ∧ o.dict = none
theorem BareT.sq {K : PySem.W.Frag} {H : Hp} {a : Addr} {ys : List V} (h : BareT H a ys) : SqT K H a ys := by
  obtain ⟨o, e, _⟩ := h
  exact .inl (.inr ⟨o, e⟩)
/-- tuple(l) of a list, the new tuple being known as one without a dict -/
def rTupleB (K : PySem.W.Frag) : List V → Hp → VK → Prop := fun xs H Q => ∃ p ys, xs = [.ref p] ∧ SqL K H p ys ∧ ∀ l (o : Obj), H l = none → o.dict = none → Q (.ref l) (upd H l (.frz o (.tup ys)))
theorem call_tupleB : CallR X (.type "tuple") (rTupleB X.K) := by
  intro pins s σ H xs us Q I r h
  obtain ⟨p, ys, rfl, hq, q⟩ := h
  obtain ⟨u, rfl, rx⟩ := vals1 r
  cases rx
  obtain ⟨its, r', pl, hz⟩ := I.list hq
  have hlen := r'.length
  refine call_tuple_list pl.isList (fun h' kp => ?_) (by simp only [List.size_toArray] <;> omega)
  have I1 : Inv X pins σ H { s with heap := h' } := I.kept (t' := s.toks) kp
  have I2 : Inv X pins σ (upd H h'.objs.size (.frz { cls := .type "tuple", data := .seq its.toArray } (.tup ys))) { s with heap := h'.push { cls := .type "tuple", data := .seq its.toArray } } :=
    I1.laid (t' := s.toks) (fun b o e => Heap.get?_push_of_some _ e) (Nat.le_refl _) (show ObjOk X.prog X.w _ _ _ (.frz _ (.tup ys)) from ⟨Heap.get?_push_size _ rfl, hz, its, r', IsTup.new _ _⟩)
  exact ⟨.ref h'.objs.size, _, I2, rfl, q _ _ (I1.hok.fresh (Nat.le_refl _)) rfl⟩
/-- o.m(e, ..) of such a tuple -/
def tTM (r : V → List V → Hp → VK → Prop) (to : TE) (t : TA) : TE := fun σ H Q => to σ H fun x H1 => (∃ a ys, x = .ref a ∧ BareT H1 a ys) ∧ t σ H1 fun xs H2 => r x xs H2 Q
variable {o e : Expr} {es : List Expr} {to : TE} {t : TA} {name : Str} {apos cpos : Pos} {id : String} {r : V → List V → Hp → VK → Prop}
theorem pe_tm (pa : PlainAttrs "tuple") (slot : Slot "tuple" name id) (hty : typeOf (.builtin id) = pure (.type "method_descriptor")) (hm : MtR X id r) (ho : PE X o to) (ha : PA X (e :: es) t)
    (hbase : attributeBase o name X.env (eval o X.env) = eval o X.env := by rfl)
    (hfew : ((backTo cpos (starEach (e :: es) X.env)).all (fun x => !x.1) && (backToKw cpos (keywordEach [] X.env)).all (fun x => x.1.isSome)
      && decide ((e :: es).length + ([] : List Keyword).length + (if ([] : List Keyword).isEmpty then 0 else 1) < 30)) = true := by rfl)
    (hline : (apos.endLine == cpos.line) = true := by rfl) (hs : starEach (e :: es) X.env = (false, eval e X.env) :: starEach es X.env := by rfl) (hplain : (backTo cpos (starEach es X.env)).any (·.1) = false := by rfl) :
    PE X (.Call (.Attribute o name apos) (e :: es) [] cpos) (tTM r to t) := by
  refine ⟨fun pins s σ H Q I h => ?_⟩
  refine wpAny_Call_method_late hbase hfew hline rfl (thn (ho.run pins s σ H _ I h) fun v s1 ⟨x, H1, I1, r1, ty, q1⟩ => ?_)
  obtain ⟨a, ys, rfl, ob, hob, hd⟩ := ty
  cases r1
  obtain ⟨g1, _, its, _, ob', g2, c2, _⟩ := (show ObjOk X.prog X.w H1 s1.heap a (.frz ob (.tup ys)) from I1.hok a _ hob)
  have h1 : s1.TypeIs (.ref a) "tuple" := ⟨ob', g2, c2⟩
  have h2 : ∀ b, Value.ref a = .ref b → ∃ ob, s1.heap.get? b = some ob ∧ ob.dict = none := fun b e => by cases e; exact ⟨ob, g1, hd⟩
  refine ⟨"tuple", id, pa, slot, hty, h1, h2, ?_⟩
  have hA := ha.run cpos pins s1 σ H1 _ I1 q1
  rw [hs] at hA ⊢
  refine Calls.callWith_builtin (by show (false || (backTo cpos (starEach es X.env)).any (·.1)) = false; rw [hplain] <;> rfl) (Calls.evalArgs_plain ?_)
  exact thn hA fun us s2 ⟨vs, H2, I2, r2, q2⟩ => hm pins s2 σ H2 (.ref a) vs (.ref a) us Q I2 rfl r2 q2
end
end Eld
set_option Elab.async false
set_option maxRecDepth 100000
set_option maxHeartbeats 4000000
set_option linter.all false
namespace Eld
open PySem PySem.Spec PyProof.Rows L2
/-! ## defs, methods and classes by name, and how they are called -/
section
variable (P : Program) (w : World) (K : PySem.W.Frag) (mg : Str → Option Value) (base : Heap)
/-- the def x, called with n values by place and the names ks -/
def DefD (k : Nat) (x : Str) (n : Nat) (ks : List Str) (gV : List V → List V → List V) (sp : Sp) : Prop :=
  ∃ (f : Addr) (fd : FuncData) (ps : List Str) (g : List Value → List Value → List Value), mg x = some (.ref f) ∧ PySem.W.keepIn K (.ref f) = true ∧ FnG P w K mg base CX0 k f fd ps sp ∧ KBn K fd ps n ks g gV
/-- the method m of the class at C; n counts self -/
def MetD (k : Nat) (C : Addr) (m : Str) (n : Nat) (ks : List Str) (gV : List V → List V → List V) (sp : Sp) : Prop :=
  ∃ (f : Addr) (fd : FuncData) (ps : List Str) (g : List Value → List Value → List Value), Cls K C ∧ Meth K C m f ∧ FnG P w K mg base CX0 k f fd ps sp ∧ KBn K fd ps n ks g gV
/-- the class x at C, made with n values by place and the names ks -/
def MakD (k : Nat) (x : Str) (C : Addr) (n : Nat) (ks : List Str) (gV : List V → List V → List V) (sp : Sp) : Prop :=
  ∃ (f : Addr) (fd : FuncData) (ps : List Str) (g : List Value → List Value → List Value), mg x = some (.ref C) ∧ Mk K C f ∧ FnG P w K mg base CX0 k f fd ps sp ∧ KBn K fd ps (n + 1) ks g gV
end
abbrev byPlace : List V → List V → List V := fun xs _ => xs
theorem kbn_place {K : PySem.W.Frag} {fd : FuncData} {ps : List Str} (b : Binds K fd ps []) (n : Nat) (h : n = ps.length) : KBn K fd ps n [] (fun us _ => us) byPlace := by
  refine ⟨fun s us ws X l1 l2 => ?_, fun r _ => r⟩
  have ew : ws = [] := List.eq_nil_of_length_eq_zero l2
  subst ew
  have := b s us X (by rw [List.append_nil, l1, h])
  simpa using this
/-- by names: h as in Fun.binds, «fun _ _ _ _ _ _ us ws h1 h2 => match us, ws, h1, h2 with | [_], [_], _, _ => rfl» -/
theorem Fun_kbn {K : PySem.W.Frag} {x ql : Str} {st : Stmt} {f : Addr} {fd : FuncData} {ps : List Str} (F : Fun K x ql st f fd) (n : Nat) (ks : List Str) (g : List Value → List Value → List Value) (gV : List V → List V → List V)
    (rel : ∀ {vs : List V} {us : List Value} {zs : List V} {ws : List Value}, Vals vs us → Vals zs ws → Vals (gV vs zs) (g us ws))
    (h : ∀ (kV doc pm : Value) (an : Option Addr) (cdv ct : Value) (us ws : List Value), us.length = n → ws.length = ks.length →
      bindArgs (PySem.W.fnOf x ql (defArgs st) (defBody st) (defScope st) .none kV doc pm an cdv ct) ⟨us, ks.zip ws⟩ = pure (ps.zip (g us ws))) : KBn K fd ps n ks g gV := by
  obtain ⟨oc, od, kV, doc, pm, an, cdv, ct, osl, rfl, lk, hcd⟩ := F.ex
  exact ⟨fun s us ws X l1 l2 => BindsTo.of_eq (h kV doc pm an cdv ct us ws l1 l2), rel⟩
section
variable {X : Cx} {ks : List Str} {k j n : Nat} {gV : List V → List V → List V} {sp : Sp} {x m : Str} {C : Addr} {p pos apos : Pos} {e o : Expr} {es : List Expr} {kws : List Keyword} {ta : TE} {t tk : TA}
theorem DefD.callV (d : DefD X.prog X.w X.K X.mg X.base k x n ks gV sp) (hG : X.A.guards = some []) (hr : Room j X.A) (hk : k ≤ j) : ∃ f, X.mg x = some (.ref f) ∧ PySem.W.keepIn X.K (.ref f) = true ∧ CallV X (.ref f) ks (rFn n ks.length gV sp E0) := by
  obtain ⟨f, fd, ps, g, hm, kp, F, b⟩ := d
  exact ⟨f, hm, kp, callV_fn F b pass0 hG (hr.mono hk)⟩
theorem MetD.callV (d : MetD X.prog X.w X.K X.mg X.base k C m n ks gV sp) (hG : X.A.guards = some []) (hr : Room j X.A) (hk : k ≤ j) : ∃ f, Cls X.K C ∧ Meth X.K C m f ∧ CallV X (.ref f) ks (rFn n ks.length gV sp E0) := by
  obtain ⟨f, fd, ps, g, hc, hm, F, b⟩ := d
  exact ⟨f, hc, hm, callV_fn F b pass0 hG (hr.mono hk)⟩
theorem MakD.callV (d : MakD X.prog X.w X.K X.mg X.base k x C n ks gV sp) (hG : X.A.guards = some []) (hr : Room j X.A) (hk : k + 1 ≤ j) : X.mg x = some (.ref C) ∧ PySem.W.keepIn X.K (.ref C) = true ∧ CallV X (.ref C) ks (rMk C n ks.length gV sp E0) := by
  obtain ⟨f, fd, ps, g, hm, M, F, b⟩ := d
  exact ⟨hm, M.kp, callV_mk M F b pass0 hG (hr.mono hk)⟩

theorem pd_pos (d : DefD X.prog X.w X.K X.mg X.base k x n [] gV sp) (hG : X.A.guards = some []) (hr : Room j X.A) (hk : k ≤ j) (hg : Gl X x) (ha : PA X (e :: es) t) (hd : (x == ("__debug__" : Str)) = false := by decide)
    (he : starEach (e :: es) X.env = (false, eval e X.env) :: starEach es X.env := by rfl) (hp : (backTo pos (starEach es X.env)).any (·.1) = false := by rfl) : PE X (.Call (.Name x p) (e :: es) [] pos) (tCl (rFn n 0 gV sp E0) t tNil) := by
  obtain ⟨f, hm, kp, c⟩ := d.callV hG hr hk
  exact pn_pos c hg hm kp ha hd he hp
theorem pd_none (d : DefD X.prog X.w X.K X.mg X.base k x n [] gV sp) (hG : X.A.guards = some []) (hr : Room j X.A) (hk : k ≤ j) (hg : Gl X x) (hd : (x == ("__debug__" : Str)) = false := by decide) :
    PE X (.Call (.Name x p) [] [] pos) (tCl (rFn n 0 gV sp E0) tNil tNil) := by
  obtain ⟨f, hm, kp, c⟩ := d.callV hG hr hk
  exact pn_none c hg hm kp hd
theorem pd_kw0 (d : DefD X.prog X.w X.K X.mg X.base k x n ks gV sp) (hG : X.A.guards = some []) (hr : Room j X.A) (hk : k ≤ j) (hg : Gl X x) (hkw : PK X kws tk) (hall : (backToKw pos (keywordEach kws X.env)).all (·.1.isSome) = true := by rfl)
    (hks : (backToKw pos (keywordEach kws X.env)).filterMap (·.1) = ks := by rfl) (hd : (x == ("__debug__" : Str)) = false := by decide)
    (hp : ((backTo pos (starEach [] X.env)).any (·.1) || (backToKw pos (keywordEach kws X.env)).any (·.1.isNone)) = false := by rfl) : PE X (.Call (.Name x p) [] kws pos) (tCl (rFn n ks.length gV sp E0) tNil tk) := by
  obtain ⟨f, hm, kp, c⟩ := d.callV hG hr hk
  exact pn_kw0 c hg hm kp hkw hall hks hd hp
theorem pd_kw (d : DefD X.prog X.w X.K X.mg X.base k x n ks gV sp) (hG : X.A.guards = some []) (hr : Room j X.A) (hk : k ≤ j) (hg : Gl X x) (ha : PA X (e :: es) t) (hkw : PK X kws tk) (hall : (backToKw pos (keywordEach kws X.env)).all (·.1.isSome) = true := by rfl)
    (hks : (backToKw pos (keywordEach kws X.env)).filterMap (·.1) = ks := by rfl) (hd : (x == ("__debug__" : Str)) = false := by decide) (he : starEach (e :: es) X.env = (false, eval e X.env) :: starEach es X.env := by rfl)
    (hp : ((backTo pos (starEach (e :: es) X.env)).any (·.1) || (backToKw pos (keywordEach kws X.env)).any (·.1.isNone)) = false := by rfl) : PE X (.Call (.Name x p) (e :: es) kws pos) (tCl (rFn n ks.length gV sp E0) t tk) := by
  obtain ⟨f, hm, kp, c⟩ := d.callV hG hr hk
  exact pn_kw c hg hm kp ha hkw hall hks hd he hp
theorem pk_pos (d : MakD X.prog X.w X.K X.mg X.base k x C n [] gV sp) (hG : X.A.guards = some []) (hr : Room j X.A) (hk : k + 1 ≤ j) (hg : Gl X x) (ha : PA X (e :: es) t) (hd : (x == ("__debug__" : Str)) = false := by decide)
    (he : starEach (e :: es) X.env = (false, eval e X.env) :: starEach es X.env := by rfl) (hp : (backTo pos (starEach es X.env)).any (·.1) = false := by rfl) : PE X (.Call (.Name x p) (e :: es) [] pos) (tCl (rMk C n 0 gV sp E0) t tNil) := by
  obtain ⟨hm, kp, c⟩ := d.callV hG hr hk
  exact pn_pos c hg hm kp ha hd he hp
theorem pk_kw0 (d : MakD X.prog X.w X.K X.mg X.base k x C n ks gV sp) (hG : X.A.guards = some []) (hr : Room j X.A) (hk : k + 1 ≤ j) (hg : Gl X x) (hkw : PK X kws tk) (hall : (backToKw pos (keywordEach kws X.env)).all (·.1.isSome) = true := by rfl)
    (hks : (backToKw pos (keywordEach kws X.env)).filterMap (·.1) = ks := by rfl) (hd : (x == ("__debug__" : Str)) = false := by decide)
    (hp : ((backTo pos (starEach [] X.env)).any (·.1) || (backToKw pos (keywordEach kws X.env)).any (·.1.isNone)) = false := by rfl) : PE X (.Call (.Name x p) [] kws pos) (tCl (rMk C n ks.length gV sp E0) tNil tk) := by
  obtain ⟨hm, kp, c⟩ := d.callV hG hr hk
  exact pn_kw0 c hg hm kp hkw hall hks hd hp
variable {pl : Sem Bool}
theorem pq_pos (d : MetD X.prog X.w X.K X.mg X.base k C m n [] gV sp) (hG : X.A.guards = some []) (hr : Room j X.A) (hk : k ≤ j) (ho : PE X o ta) (ha : PA X (e :: es) t) (he : starEach (e :: es) X.env = (false, eval e X.env) :: starEach es X.env := by rfl)
    (hp : (backTo pos (starEach es X.env)).any (·.1) = false := by rfl) (ht : eval (.Call (.Attribute o m apos) (e :: es) [] pos) X.env = (do
      let ov ← eval o X.env
      standAt apos.atName
      let (f, first) ← holding [ov] (getMethod ov m pl)
      callWith pos f first (backTo pos (starEach (e :: es) X.env)) (backToKw pos (keywordEach [] X.env))) := by rfl) : PE X (.Call (.Attribute o m apos) (e :: es) [] pos) (tMt C m (rFn n 0 gV sp E0) ta t tNil) := by
  obtain ⟨f, hc, hm, c⟩ := d.callV hG hr hk
  exact pm_pos c hc hm ho ha he hp ht
theorem pq_none (d : MetD X.prog X.w X.K X.mg X.base k C m n [] gV sp) (hG : X.A.guards = some []) (hr : Room j X.A) (hk : k ≤ j) (ho : PE X o ta) (ht : eval (.Call (.Attribute o m apos) [] [] pos) X.env = (do
      let ov ← eval o X.env
      standAt apos.atName
      let (f, first) ← holding [ov] (getMethod ov m pl)
      callWith pos f first (backTo pos (starEach [] X.env)) (backToKw pos (keywordEach [] X.env))) := by rfl) : PE X (.Call (.Attribute o m apos) [] [] pos) (tMt C m (rFn n 0 gV sp E0) ta tNil tNil) := by
  obtain ⟨f, hc, hm, c⟩ := d.callV hG hr hk
  exact pm_none c hc hm ho ht
theorem pq_kw0 (d : MetD X.prog X.w X.K X.mg X.base k C m n ks gV sp) (hG : X.A.guards = some []) (hr : Room j X.A) (hk : k ≤ j) (ho : PE X o ta) (hkw : PK X kws tk) (hall : (backToKw pos (keywordEach kws X.env)).all (·.1.isSome) = true := by rfl)
    (hks : (backToKw pos (keywordEach kws X.env)).filterMap (·.1) = ks := by rfl)
    (hp : ((backTo pos (starEach [] X.env)).any (·.1) || (backToKw pos (keywordEach kws X.env)).any (·.1.isNone)) = false := by rfl) (ht : eval (.Call (.Attribute o m apos) [] kws pos) X.env = (do
      let ov ← eval o X.env
      standAt apos.atName
      let (f, first) ← holding [ov] (getMethod ov m pl)
      callWith pos f first (backTo pos (starEach [] X.env)) (backToKw pos (keywordEach kws X.env))) := by rfl) : PE X (.Call (.Attribute o m apos) [] kws pos) (tMt C m (rFn n ks.length gV sp E0) ta tNil tk) := by
  obtain ⟨f, hc, hm, c⟩ := d.callV hG hr hk
  exact pm_kw0 c hc hm ho hkw hall hks hp ht
end

/-! ## built-ins, their readings by name -/
section
variable {X : Cx}
def rInt1 : List V → Hp → VK → Prop := fun xs H Q => (∃ i, xs = [.int i] ∧ Q (.int i) H) ∨ ∃ k, xs = [.bl k] ∧ Q (.int (if k then 1 else 0)) H
theorem c_int : CallR X (.type "int") rInt1 := call_int1
def rAbs : List V → Hp → VK → Prop := fun xs H Q => ∃ i, xs = [.int i] ∧ Q (.int (if i < 0 then -i else i)) H
theorem c_abs : CallR X (.builtin "abs") rAbs := call_abs
def rMax2 : List V → Hp → VK → Prop := fun xs H Q => ∃ i j, xs = [.int i, .int j] ∧ Q (.int (if j > i then j else i)) H
theorem c_max2 (hc : X.calm = true) : CallR X (.builtin "max") rMax2 := call_max2 hc
def rMin2 : List V → Hp → VK → Prop := fun xs H Q => ∃ i j, xs = [.int i, .int j] ∧ Q (.int (if j < i then j else i)) H
theorem c_min2 (hc : X.calm = true) : CallR X (.builtin "min") rMin2 := call_min2 hc
def rBool1 : List V → Hp → VK → Prop := fun xs H Q => (∃ i, xs = [.int i] ∧ Q (.bl (i != 0)) H) ∨ ∃ k, xs = [.bl k] ∧ Q (.bl k) H
theorem c_bool : CallR X (.type "bool") rBool1 := call_bool1
def rStrI : List V → Hp → VK → Prop := fun xs H Q => ∃ i, xs = [.int i] ∧ i.natAbs.log2 < 1920 ∧ Q (.str (toString i)) H
theorem c_str : CallR X (.type "str") rStrI := call_str_int
def rLen (K : PySem.W.Frag) : List V → Hp → VK → Prop := fun xs H Q => ∃ x n, xs = [x] ∧ LenV K x H n ∧ Q (.int n) H
theorem c_len : CallR X (.builtin "len") (rLen X.K) := call_len
def rListOf (K : PySem.W.Frag) : List V → Hp → VK → Prop := fun xs H Q => ∃ p ys, xs = [.ref p] ∧ (SqL K H p ys ∨ SqT K H p ys) ∧ ∀ l, H l = none → Q (.ref l) (upd H l (.lst ys))
theorem c_list : CallR X (.type "list") (rListOf X.K) := call_list_of
def rTupleOf (K : PySem.W.Frag) : List V → Hp → VK → Prop := fun xs H Q => ∃ p ys, xs = [.ref p] ∧ ((SqL K H p ys ∧ ∀ l, H l = none → Q (.ref l) (upd H l (.tup ys))) ∨ (SqT K H p ys ∧ Q (.ref p) H))
theorem c_tuple : CallR X (.type "tuple") (rTupleOf X.K) := call_tuple_of
def rIntS : List V → Hp → VK → Prop := fun xs H Q => ∃ a n, xs = [.str a] ∧ PySem.intText? a = some n ∧ a.length ≤ 640 ∧ Q (.int n) H
theorem c_intS : CallR X (.type "int") rIntS := call_int_str
end

theorem pe_cls {X : Cx} {x : Str} {pos : Pos} {C : Addr} (hg : Gl X x) (hm : X.mg x = some (.ref C)) (hd : (x == ("__debug__" : Str)) = false := by decide) : PE X (.Name x pos) (tC (.ref C)) := pe_glob hg hm rfl hd
/-! ## readings, step by step -/
section
variable {σ : L2.St} {H : Hp} {Q : VK} {D : Ends} {K : PySem.W.Frag} {E : XK}
theorem r_seq {t : TS} {u : TS} (h : t { D with nx := u D } σ H) : tSeq t u D σ H := h
theorem r_asgN {te : TE} {i : Nat} (h : te σ H fun x H1 => D.nx (σ.set i (some x)) H1) : tAsg te (gName i) D σ H := h
theorem r_asg {te : TE} {g : TG} (h : te σ H fun x H1 => g x σ H1 D.nx) : tAsg te g D σ H := h
theorem r_gname {i : Nat} {v : V} {q : L2.St → Hp → Prop} (h : q (σ.set i (some v)) H) : gName i v σ H q := h
theorem r_gsub {to ti : TE} {t : TSet} {x : V} {q : L2.St → Hp → Prop} (h : to σ H fun o H1 => ti σ H1 fun i H2 => t o i x H2 fun H3 => q σ H3) : gSub to ti t x σ H q := h
theorem r_var {i : Nat} {v : V} (e : σ[i]? = some (some v)) (h : Q v H) : tVar i σ H Q := ⟨v, e, h⟩
theorem r_c {v : V} (h : Q v H) : tC v σ H Q := h
theorem r_op {r : R2} {ta tb : TE} (h : ta σ H fun x H1 => tb σ H1 fun y H2 => r x y H2 Q) : tOp r ta tb σ H Q := h
theorem r_un {r : V → Hp → VK → Prop} {ta : TE} (h : ta σ H fun x H1 => r x H1 Q) : tUn r ta σ H Q := h
theorem r_u {g : Int → V} {i : Int} (h : Q (g i) H) : rU g (.int i) H Q := ⟨i, rfl, h⟩
theorem r_i0 {g : Int → Int → V} {i j : Int} (h : Q (g i j) H) : rI0 g (.int i) (.int j) H Q := ⟨i, j, rfl, rfl, h⟩
theorem r_i {C : Int → Int → Prop} {g : Int → Int → V} {i j : Int} (hc : C i j) (h : Q (g i j) H) : rI C g (.int i) (.int j) H Q := ⟨i, j, rfl, rfl, hc, h⟩
theorem r_eqI {i j : Int} (h : Q (.bl (decide (V.int i = V.int j))) H) : rEq (.int i) (.int j) H Q := ⟨rfl, h⟩
theorem r_neI {i j : Int} (h : Q (.bl (!decide (V.int i = V.int j))) H) : rNe (.int i) (.int j) H Q := ⟨rfl, h⟩
theorem r_eqB {i j : Bool} (h : Q (.bl (decide (V.bl i = V.bl j))) H) : rEq (.bl i) (.bl j) H Q := ⟨rfl, h⟩
theorem r_neB {i j : Bool} (h : Q (.bl (!decide (V.bl i = V.bl j))) H) : rNe (.bl i) (.bl j) H Q := ⟨rfl, h⟩
theorem r_eqS {i j : Str} (h : Q (.bl (decide (V.str i = V.str j))) H) : rEq (.str i) (.str j) H Q := ⟨rfl, h⟩
theorem r_neS {i j : Str} (h : Q (.bl (!decide (V.str i = V.str j))) H) : rNe (.str i) (.str j) H Q := ⟨rfl, h⟩
theorem r_cb {r : List V → Hp → VK → Prop} {t : TA} (h : t σ H fun xs H1 => r xs H1 Q) : tCB r t σ H Q := h
theorem r_cl {r : List V → List V → Hp → VK → Prop} {t tk : TA} (h : t σ H fun xs H1 => tk σ H1 fun ys H2 => r xs ys H2 Q) : tCl r t tk σ H Q := h
theorem r_fn {n m : Nat} {gV : List V → List V → List V} {sp : Sp} {xs ys : List V} (h1 : xs.length = n) (h2 : ys.length = m) (h : sp (gV xs ys) H Q E) : rFn n m gV sp E xs ys H Q := ⟨h1, h2, h⟩
theorem r_mk {C : Addr} {n m : Nat} {gV : List V → List V → List V} {sp : Sp} {xs ys : List V} (h1 : xs.length = n) (h2 : ys.length = m)
    (h : ∀ x dx, H x = none → H dx = none → dx ≠ x → sp (gV (.ref x :: xs) ys) (upd (upd H dx (.own x)) x (.ins C dx [])) (fun v G => v = .non ∧ Q (.ref x) G) E) : rMk C n m gV sp E xs ys H Q := ⟨h1, h2, h⟩
theorem r_mt {C : Addr} {m : Str} {r : List V → List V → Hp → VK → Prop} {ta : TE} {t tk : TA} (h : ta σ H fun x H1 => ∃ a dx fs, x = .ref a ∧ H1 a = some (.ins C dx fs) ∧ List.lookup m fs = none ∧ t σ H1 fun xs H2 => tk σ H2 fun ys H3 => r (.ref a :: xs) ys H3 Q) : tMt C m r ta t tk σ H Q := h
theorem r_cons {ta : TE} {tr : TA} {q : List V → Hp → Prop} (h : ta σ H fun x H1 => tr σ H1 fun xs H2 => q (x :: xs) H2) : tCons ta tr σ H q := h
theorem r_nil {q : List V → Hp → Prop} (h : q [] H) : tNil σ H q := h
theorem r_test {t : TE} {q : Bool → Hp → Prop} (h : t σ H fun x H1 => ∃ k, x = .bl k ∧ q k H1) : tTest t σ H q := h
theorem r_tb {t : TE} {q : Bool → Hp → Prop} (h : t σ H fun x H1 => ∃ k, x = .bl k ∧ q k H1) : tB t σ H q := h
theorem r_bl {b : Bool} {q : Bool → Prop} (h : q b) : ∃ k, V.bl b = V.bl k ∧ q k := ⟨b, rfl, h⟩
theorem r_and {t u : TT} {q : Bool → Hp → Prop} (h : t σ H fun c H1 => if c = true then u σ H1 q else q false H1) : tAnd t u σ H q := h
theorem r_or {t u : TT} {q : Bool → Hp → Prop} (h : t σ H fun c H1 => if c = true then q true H1 else u σ H1 q) : tOr t u σ H q := h
theorem r_not {t : TT} {q : Bool → Hp → Prop} (h : t σ H fun c H1 => q (!c) H1) : tNot t σ H q := h
theorem r_andV {ta tb : TE} (h : ta σ H fun x H1 => ∃ c, x = .bl c ∧ if c = true then tb σ H1 Q else Q (.bl false) H1) : tAndV ta tb σ H Q := h
theorem r_orV {ta tb : TE} (h : ta σ H fun x H1 => ∃ c, x = .bl c ∧ if c = true then Q (.bl true) H1 else tb σ H1 Q) : tOrV ta tb σ H Q := h
theorem r_notV {ta : TE} (h : ta σ H fun x H1 => ∃ c, x = .bl c ∧ Q (.bl (!c)) H1) : tNotV ta σ H Q := h
theorem r_ifX {c : TT} {ta tb : TE} (h : c σ H fun k H1 => if k = true then ta σ H1 Q else tb σ H1 Q) : tIf c ta tb σ H Q := h
theorem r_ifs {c : TT} {t u : TS} (h : c σ H fun b H1 => if b = true then t D σ H1 else u D σ H1) : tIfS c t u D σ H := h
theorem r_chain {r r' : R2} {ta tb tc : TE} (h : ta σ H fun x H1 => tb σ H1 fun y H2 => r x y H2 fun z H3 => ∃ k, z = .bl k ∧ (if k = true then tc σ H3 fun w' H4 => r' y w' H4 Q else Q (.bl false) H3)) : tChain r r' ta tb tc σ H Q := h
theorem r_ret {te : TE} (h : te σ H D.rt) : tRet te D σ H := h
theorem r_next (h : D.nx σ H) : tNext D σ H := h
theorem r_drop {te : TE} (h : te σ H fun _ H1 => D.nx σ H1) : tDrop te D σ H := h
theorem r_ixL {p : Addr} {xs : List V} {i : Int} {v : V} (h : SqL K H p xs) (e : atI xs i = some v) (q : Q v H) : rIxL K (.ref p) (.int i) H Q := ⟨p, xs, i, v, rfl, rfl, h, e, q⟩
theorem r_ixT {p : Addr} {xs : List V} {i : Int} {v : V} (h : SqT K H p xs) (e : atI xs i = some v) (q : Q v H) : rIxT K (.ref p) (.int i) H Q := ⟨p, xs, i, v, rfl, rfl, h, e, q⟩
theorem r_setL {p : Addr} {xs : List V} {k : Int} {j : Nat} {v : V} {q : Hp → Prop} (h : H p = some (.lst xs)) (e : ixN xs.length k = some j) (hq : q (upd H p (.lst (xs.set j v)))) : rSetL (.ref p) (.int k) v H q := ⟨p, xs, k, j, rfl, rfl, h, e, hq⟩
theorem r_int1 {i : Int} (h : Q (.int i) H) : rInt1 [.int i] H Q := .inl ⟨i, rfl, h⟩
theorem r_abs {i : Int} (h : Q (.int (if i < 0 then -i else i)) H) : rAbs [.int i] H Q := ⟨i, rfl, h⟩
theorem r_max2 {i j : Int} (h : Q (.int (if j > i then j else i)) H) : rMax2 [.int i, .int j] H Q := ⟨i, j, rfl, h⟩
theorem r_min2 {i j : Int} (h : Q (.int (if j < i then j else i)) H) : rMin2 [.int i, .int j] H Q := ⟨i, j, rfl, h⟩
theorem r_boolB {k : Bool} (h : Q (.bl k) H) : rBool1 [.bl k] H Q := .inr ⟨k, rfl, h⟩
theorem r_strI {i : Int} (hi : i.natAbs.log2 < 1920) (h : Q (.str (toString i)) H) : rStrI [.int i] H Q := ⟨i, rfl, hi, h⟩
theorem r_lenL {p : Addr} {xs : List V} (hs : SqL K H p xs) (h : Q (.int (xs.length : Nat)) H) : rLen K [.ref p] H Q := ⟨.ref p, xs.length, rfl, .inl ⟨xs, hs, rfl⟩, h⟩
theorem r_lenT {p : Addr} {xs : List V} (hs : SqT K H p xs) (h : Q (.int (xs.length : Nat)) H) : rLen K [.ref p] H Q := ⟨.ref p, xs.length, rfl, .inr ⟨xs, hs, rfl⟩, h⟩
theorem r_lenS {y : Str} (hy : y.length ≤ sizeLine) (h : Q (.int (y.length : Nat)) H) : rLen K [.str y] H Q := ⟨.str y, y.length, rfl, ⟨hy, rfl⟩, h⟩
theorem r_listL {p : Addr} {ys : List V} (hs : SqL K H p ys) (h : ∀ l, H l = none → Q (.ref l) (upd H l (.lst ys))) : rListOf K [.ref p] H Q := ⟨p, ys, rfl, .inl hs, h⟩
theorem r_listT {p : Addr} {ys : List V} (hs : SqT K H p ys) (h : ∀ l, H l = none → Q (.ref l) (upd H l (.lst ys))) : rListOf K [.ref p] H Q := ⟨p, ys, rfl, .inr hs, h⟩
theorem r_tupleL {p : Addr} {ys : List V} (hs : SqL K H p ys) (h : ∀ l, H l = none → Q (.ref l) (upd H l (.tup ys))) : rTupleOf K [.ref p] H Q := ⟨p, ys, rfl, .inl ⟨hs, h⟩⟩
theorem r_tupleT {p : Addr} {ys : List V} (hs : SqT K H p ys) (h : Q (.ref p) H) : rTupleOf K [.ref p] H Q := ⟨p, ys, rfl, .inr ⟨hs, h⟩⟩
theorem r_isiB {x : V} {t T : String} {b : Bool} (ty : TyX K H x (.type t)) (hk : kitB t T = some b) (h : Q (.bl b) H) : rIsi K [x, .ty T] H Q := ⟨x, .ty T, .type t, .type T, b, rfl, .ty T, ty, kit_ty hk, h⟩
theorem r_isiO {x : V} {t : Value} {C : Addr} {b : Bool} (ty : TyX K H x t) (hk : PySem.W.kitOne K t (.ref C) = some b) (h : Q (.bl b) H) : rIsi K [x, .ref C] H Q := ⟨x, .ref C, t, .ref C, b, rfl, .own C, ty, hk, h⟩
theorem r_tup {t : TA} (h : t σ H fun xs H1 => xs.length ≤ sizeLine ∧ ∀ p, H1 p = none → Q (.ref p) (upd H1 p (.tup xs))) : tTup t σ H Q := h
theorem r_lst {t : TA} (h : t σ H fun xs H1 => xs.length ≤ sizeLine ∧ ∀ p, H1 p = none → Q (.ref p) (upd H1 p (.lst xs))) : tLst t σ H Q := h
theorem r_rng1 {t : TA} {R : It → Hp → Prop} (h : t σ H fun vs H1 => ∃ j : Int, vs = [.int j] ∧ -(2 ^ 62) ≤ j ∧ j < 2 ^ 62 ∧ R (Itr 0 j.toNat) H1) : iRng1 t σ H R := h
theorem r_rng2 {t : TA} {R : It → Hp → Prop} (h : t σ H fun vs H1 => ∃ i j : Int, vs = [.int i, .int j] ∧ (-(2 ^ 62) ≤ i ∧ i < 2 ^ 62 ∧ -(2 ^ 62) ≤ j ∧ j < 2 ^ 62) ∧ R (Itr i (j - i).toNat) H1) : iRng2 t σ H R := h
theorem r_sfld {ta tv : TE} {f : Str} (h : tv σ H fun y H1 => ta σ H1 fun x H2 => ∃ a C dx fs, x = .ref a ∧ H2 a = some (.ins C dx fs) ∧ Cls K C ∧ NoAttr K C f ∧ fs.length < 1000 ∧ D.nx σ (upd H2 a (.ins C dx (putF f y fs)))) : sFld K ta tv f D σ H := h
theorem r_m0 {r : V → List V → Hp → VK → Prop} {to : TE} (h : to σ H fun x H1 => (∃ a, x = .str a) ∧ r x [] H1 Q) : tM0 r to σ H Q := h
theorem r_m1 {r : V → List V → Hp → VK → Prop} {to te : TE} (h : to σ H fun x H1 => (∃ a, x = .str a) ∧ te σ H1 fun y H2 => r x [y] H2 Q) : tM1 r to te σ H Q := h
theorem r_fld {ta : TE} {f : Str} (h : tFld K ta f σ H Q) : tFld K ta f σ H Q := h
end
end Eld
set_option Elab.async false
set_option maxRecDepth 100000
set_option maxHeartbeats 4000000
set_option linter.all false
namespace Eld
open PySem PySem.Spec PyProof.Rows L2
/-! ## zip of a list and a tuple -/
def ItzM (K : PySem.W.Frag) (a b : Addr) : It where
  go := fun i H => ∃ xs ys x y, SqL K H a xs ∧ SqT K H b ys ∧ xs[i]? = some x ∧ ys[i]? = some y
  yld := fun i H v H' => ∃ T x y, v = .ref T ∧ H T = none ∧ H' = upd H T (.tup [x, y]) ∧ (∀ xs, SqL K H a xs → xs[i]? = some x) ∧ ∀ ys, SqT K H b ys → ys[i]? = some y
  stop := fun i H => ∃ xs ys, SqL K H a xs ∧ SqT K H b ys ∧ i = xs.length ∧ i = ys.length
/-- the five records of such a zip at its i-th turn -/
structure ZRec (z TI TO i1 i2 a b : Addr) (i : Nat) (h : Heap) : Prop where
  zz : IsZip h z TI TO .none
  ti : IsTupOf2 h TI (.ref i1) (.ref i2)
  to : ∃ x y, IsTupOf2 h TO x y
  l1 : h.IsListIter i1 a i
  l2 : h.IsTupleIter i2 b i
theorem list_inj {X : Cx} {pins : List (Addr × Obj)} {σ : L2.St} {H : Hp} {s : Shared} {a : Addr} {xs ys : List V} (I : Inv X pins σ H s) (h1 : SqL X.K H a xs) (h2 : SqL X.K H a ys) : xs = ys := I.list_inj h1 h2
theorem zrec_turn {P : Program} {w : World} {K : PySem.W.Frag} {elts : List Expr} {kk : Nat} {tpos : Pos} {a b z TI TO i1 i2 : Addr} (S : ZipSep2 z TI TO i1 i2 [i1, a] [i2, b]) (n1 : a ≠ i1) (n2 : b ≠ i2) :
    Turn P w K (.Tuple elts kk tpos) (ItzM K a b) [z, TI, TO, i1, i2] z (ZRec z TI TO i1 i2 a b) := by
  have five : ∀ {c : Addr}, c ∈ [z, TI, TO, i1, i2] → c = z ∨ c = TI ∨ c = TO ∨ c = i1 ∨ c = i2 := fun h => by simpa using h
  have there : ∀ (i : Nat) (h : Heap), ZRec z TI TO i1 i2 a b i h → ∀ c ∈ [z, TI, TO, i1, i2], ∃ o, h.get? c = some o ∧ ∀ v, o.data ≠ .cell v := by
    rintro i h ⟨hz, ht, ⟨x, y, ho⟩, ⟨o1, e1, _, d1⟩, ⟨o2, e2, _, d2⟩⟩ c hc
    rcases five hc with rfl | rfl | rfl | rfl | rfl
    · exact ⟨_, hz, fun v q => nomatch q⟩
    · exact ⟨_, ht, fun v q => nomatch q⟩
    · exact ⟨_, ho, fun v q => nomatch q⟩
    · exact ⟨o1, e1, fun v q => by rw [d1] at q; cases q⟩
    · exact ⟨o2, e2, fun v q => by rw [d2] at q; cases q⟩
  refine ⟨by simp, there, ?_, ?_, ?_, fun A i s Q E st h => wpAny_pyIter_zip st.zz h⟩
  · rintro i h h' ⟨hz, ht, ⟨x, y, ho⟩, h1, h2⟩ k
    exact ⟨k z (by simp) _ hz, k TI (by simp) _ ht, ⟨x, y, k TO (by simp) _ ho⟩, h1.at fun o q => k i1 (by simp) o q, h2.at fun o q => k i2 (by simp) o q⟩
  · rintro X rfl rfl rfl calm i pins s σ H E I fp st ⟨xs, ys, x, y, qx, qy, hx, hy⟩
    obtain ⟨hz, ht, ⟨x0, y0, ho⟩, h1, h2⟩ := id st
    obtain ⟨its, rv, pl, _⟩ := I.list qx
    obtain ⟨jts, rw', pt, _⟩ := I.tuple qy
    obtain ⟨u, hu, ru⟩ := rv.get hx
    obtain ⟨v, hv, rv'⟩ := rw'.get hy
    have hnd : X.A.in1.handled = none := I.ok.hd calm
    have lu : i < its.toArray.size := by simpa using (List.getElem?_eq_some_iff.mp hu).1
    have lv : i < jts.toArray.size := by simpa using (List.getElem?_eq_some_iff.mp hv).1
    have zl : z < s.heap.objs.size := Heap.lt_size hz
    refine wpAny_pyNext_zipD2_item S (Draws.list hnd i1 a n1 its.toArray) (Draws.tuple hnd i2 b n2 jts.toArray) hz ht ho ⟨h1, pl.isList⟩ ⟨h2, pt⟩ lu lv ?_
    intro x1 x2 h' tk e1 e2 hz' ho' st1 st2 hT sz keep
    have e1' : x1 = u := by
      have e : its.toArray[i]? = some x1 := e1
      rw [List.getElem?_toArray, hu] at e
      exact (Option.some.inj e).symm
    have e2' : x2 = v := by
      have e : jts.toArray[i]? = some x2 := e2
      rw [List.getElem?_toArray, hv] at e
      exact (Option.some.inj e).symm
    subst e1' e2'
    refine ⟨_, rfl, wpAny_letOwnedTupleGo_zip (s := { s with heap := h', toks := tk }) hz' ?_⟩
    intro h3 hz3 sb
    have hT3 : h3.get? s.heap.objs.size = some { cls := .type "tuple", data := .seq #[x1, x2] } := (sb.2 _ (Nat.ne_of_gt zl)).trans hT
    have ok : ObjOk X.prog X.w (upd H s.heap.objs.size (.tup [x, y])) h3 s.heap.objs.size (.tup [x, y]) := ⟨by show 2 ≤ sizeLine; decide, [x1, x2], .cons ru (.cons rv' .nil), ⟨_, hT3, rfl, _, rfl⟩⟩
    have same : ∀ c o, c ∉ [z, TI, TO, i1, i2] → s.heap.get? c = some o → h3.get? c = some o := by
      intro c o nc e
      have g : ∀ d ∈ [z, TI, TO, i1, i2], c ≠ d := fun d hd e' => nc (e' ▸ hd)
      exact (sb.2 c (g z (by simp))).trans (keep c o (g z (by simp)) (g TO (by simp)) (g i1 (by simp)) (g i2 (by simp)) e)
    have J := I.turnedNew (t' := tk) same fp (Nat.le_refl _) ok
    refine ⟨.ref s.heap.objs.size, _, J, rfl, ⟨_, x, y, rfl, I.hok.fresh (Nat.le_refl _), rfl, ?_, ?_⟩, ?_, ?_⟩
    · intro l hl
      rw [list_inj I hl qx]
      exact hx
    · intro l hl
      rw [I.tuple_inj hl qy]
      exact hy
    · refine ⟨hz3, ?_, ⟨x1, x2, ?_⟩, ?_, ?_⟩
      · exact (sb.2 _ S.TIz).trans (keep _ _ S.TIz S.TITO S.TIi1 S.TIi2 ht)
      · exact (sb.2 _ S.TOz).trans ho'
      · exact st1.1.at fun o q => (sb.2 _ (Ne.symm S.zi1)).trans q
      · exact st2.1.at fun o q => (sb.2 _ (Ne.symm S.zi2)).trans q
    · intro c hc
      obtain ⟨o, e, _⟩ := there i s.heap st c hc
      rw [upd_ne (Nat.ne_of_lt (Heap.lt_size e))]
      exact (fp c hc).1
  · rintro X rfl rfl rfl calm i pins s σ H E I fp st ⟨xs, ys, qx, qy, ex, ey⟩
    obtain ⟨hz, ht, ⟨x0, y0, ho⟩, h1, h2⟩ := id st
    obtain ⟨its, rv, pl, _⟩ := I.list qx
    obtain ⟨jts, rw', pt, _⟩ := I.tuple qy
    have hnd : X.A.in1.handled = none := I.ok.hd calm
    have l1 := rv.length
    have l2 := rw'.length
    refine wpAny_pyNext_zipD2_end S (Draws.list hnd i1 a n1 its.toArray) (Draws.tuple hnd i2 b n2 jts.toArray) hz ht ho ⟨h1, pl.isList⟩ ⟨h2, pt⟩ (by simp; omega) (by simp; omega) (.inl (by simp; omega)) ?_
    intro h' tk keep
    refine ⟨rfl, I.turnedL (t' := tk) (ch := [z, TI, TO, i1, i2]) ?_ fp⟩
    intro c o nc e
    have g : ∀ d ∈ [z, TI, TO, i1, i2], c ≠ d := fun d hd e' => nc (e' ▸ hd)
    exact keep c o (g z (by simp)) (g TO (by simp)) (g i1 (by simp)) (g i2 (by simp)) e
def iZipM (K : PySem.W.Frag) (ta : TA) : TI := fun σ H R => ta σ H fun vs H1 => ∃ a b xs ys, vs = [.ref a, .ref b] ∧ SqL K H1 a xs ∧ SqT K H1 b ys ∧ R (ItzM K a b) H1
theorem pi_zipM {X : Cx} {e e2 : Expr} {ta : TA} {p pos tpos : Pos} {elts : List Expr} {kk : Nat} (hg : Gl X "zip") (hm : X.mg "zip" = none) (ha : PA X [e, e2] ta)
    (h2 : starEach [e, e2] X.env = (false, eval e X.env) :: starEach [e2] X.env := by rfl) (h3 : (backTo pos (starEach [e2] X.env)).any (·.1) = false := by rfl) : PI X (.Tuple elts kk tpos) (.Call (.Name "zip" p) [e, e2] [] pos) (iZipM X.K ta) := by
  constructor
  intro pins s σ H R I h
  refine Call_ (ld_blt I hg hm PyProof.Rows.boot_zip (PyProof.Rows.callWith_type1 (thn (ha.run pos pins s σ H _ I h) ?_) h2 h3))
  rintro us s1 ⟨vs, H1, I1, r1, a, b, xs, ys, rfl, qx, qy, q⟩
  obtain ⟨u1, u2, rfl, ra, rb⟩ := vals2 r1
  cases ra
  cases rb
  obtain ⟨its, rv, pl, _⟩ := I1.list qx
  obtain ⟨jts, rw', pt, _⟩ := I1.tuple qy
  have la : a < s1.heap.objs.size := pl.lt
  have lb : b < s1.heap.objs.size := by
    obtain ⟨o, e, _⟩ := id pt
    exact Heap.lt_size e
  refine zip_begins2 (begins_list a its.toArray) (begins_tuple b jts.toArray) pl.isList pt ?_
  intro h' hz ht ho g1 g2 sz keep
  have I2 : Inv X pins σ H1 { s1 with heap := h' } := I1.kept (t' := s1.toks) keep
  refine wpAny_pyIter_zip hz ⟨s1.heap.objs.size + 4, [s1.heap.objs.size + 4, s1.heap.objs.size + 2, s1.heap.objs.size + 3, s1.heap.objs.size, s1.heap.objs.size + 1], _, _, H1, rfl, I2,
    zrec_turn (zip_sep2 (N := s1.heap.objs.size) (fp1 := [a]) (fp2 := [b]) (by simpa using la) (by simpa using lb)) (Nat.ne_of_lt la) (Nat.ne_of_lt (Nat.lt_succ_of_lt lb)), ⟨hz, ht, ⟨_, _, ho⟩, ⟨_, g1, rfl, rfl⟩, ⟨_, g2, rfl, rfl⟩⟩, ?_, q⟩
  intro c hc
  have hle : s1.heap.objs.size ≤ c := by
    have e : c = s1.heap.objs.size + 4 ∨ c = s1.heap.objs.size + 2 ∨ c = s1.heap.objs.size + 3 ∨ c = s1.heap.objs.size ∨ c = s1.heap.objs.size + 1 := by simpa using hc
    rcases e with rfl | rfl | rfl | rfl | rfl
    all_goals first | exact Nat.le_refl _ | exact Nat.le_add_right _ _
  exact I1.fpOk hle (I1.hok.fresh hle)
/-- over such a zip, the items as they are -/
theorem it_zipM {K : PySem.W.Frag} {a b : Addr} {xs ys : List V} {H0 : Hp} {Stop : Hp → Prop} {Turn : (Hp → Prop) → V → Hp → Prop} (hl : xs.length = ys.length) (Pv : Nat → Hp → Prop) (h0 : Pv 0 H0) (hq : ∀ i H, i ≤ xs.length → Pv i H → SqL K H a xs ∧ SqT K H b ys)
    (hs : ∀ i x y T H, xs[i]? = some x → ys[i]? = some y → Pv i H → H T = none → Turn (Pv (i + 1)) (.ref T) (upd H T (.tup [x, y]))) (hd : ∀ H, Pv xs.length H → Stop H) :
    ∃ W : Nat → Nat → Hp → Prop, (∃ m, W 0 m H0) ∧ ∀ i m H, W i m H → ((ItzM K a b).stop i H ∧ Stop H) ∨ ((ItzM K a b).go i H ∧ ∃ Nx : Hp → Prop, (∀ H', Nx H' → ∃ m', m' < m ∧ W (i + 1) m' H') ∧ ∀ x H', (ItzM K a b).yld i H x H' → Turn Nx x H') := by
  refine ⟨fun i m H => m + i = xs.length ∧ Pv i H, ⟨xs.length, rfl, h0⟩, ?_⟩
  rintro i m H ⟨e, p⟩
  obtain ⟨q1, q2⟩ := hq i H (by omega) p
  cases m with
  | zero =>
    have e' : i = xs.length := by omega
    subst e'
    exact .inl ⟨⟨xs, ys, q1, q2, rfl, hl⟩, hd H p⟩
  | succ m =>
    have l1 : i < xs.length := by omega
    have l2 : i < ys.length := by omega
    refine .inr ⟨⟨xs, ys, _, _, q1, q2, List.getElem?_eq_getElem l1, List.getElem?_eq_getElem l2⟩, Pv (i + 1), fun H' p' => ⟨m, Nat.lt_succ_self _, by omega, p'⟩, ?_⟩
    rintro x H' ⟨T, x', y', rfl, nT, rfl, f1, f2⟩
    exact hs i x' y' T H (f1 xs q1) (f2 ys q2) p nT
theorem it_zipT {K : PySem.W.Frag} {a b : Addr} {xs ys : List V} {H0 : Hp} {Stop : Hp → Prop} {Turn : (Hp → Prop) → V → Hp → Prop} (hl : xs.length = ys.length) (Pv : Nat → Hp → Prop) (h0 : Pv 0 H0) (hq : ∀ i H, i ≤ xs.length → Pv i H → SqT K H a xs ∧ SqT K H b ys)
    (hs : ∀ i x y T H, xs[i]? = some x → ys[i]? = some y → Pv i H → H T = none → Turn (Pv (i + 1)) (.ref T) (upd H T (.tup [x, y]))) (hd : ∀ H, Pv xs.length H → Stop H) :
    ∃ W : Nat → Nat → Hp → Prop, (∃ m, W 0 m H0) ∧ ∀ i m H, W i m H → ((RZ.ItzT K a b).stop i H ∧ Stop H) ∨ ((RZ.ItzT K a b).go i H ∧ ∃ Nx : Hp → Prop, (∀ H', Nx H' → ∃ m', m' < m ∧ W (i + 1) m' H') ∧ ∀ x H', (RZ.ItzT K a b).yld i H x H' → Turn Nx x H') := by
  refine ⟨fun i m H => m + i = xs.length ∧ Pv i H, ⟨xs.length, rfl, h0⟩, ?_⟩
  rintro i m H ⟨e, p⟩
  obtain ⟨q1, q2⟩ := hq i H (by omega) p
  cases m with
  | zero =>
    have e' : i = xs.length := by omega
    subst e'
    exact .inl ⟨⟨xs, ys, q1, q2, .inl (Nat.le_refl _)⟩, hd H p⟩
  | succ m =>
    have l1 : i < xs.length := by omega
    have l2 : i < ys.length := by omega
    refine .inr ⟨⟨xs, ys, _, _, q1, q2, List.getElem?_eq_getElem l1, List.getElem?_eq_getElem l2⟩, Pv (i + 1), fun H' p' => ⟨m, Nat.lt_succ_self _, by omega, p'⟩, ?_⟩
    rintro x H' ⟨T, x', y', rfl, nT, rfl, f1, f2⟩
    exact hs i x' y' T H (f1 xs q1) (f2 ys q2) p nT
end Eld
set_option Elab.async false
set_option maxRecDepth 100000
set_option maxHeartbeats 4000000
set_option linter.all false
namespace Eld
open PySem L2
theorem r_yes {σ : L2.St} {H : Hp} {q : Bool → Hp → Prop} (h : q true H) : tYes σ H q := h
theorem iteNT {A B : Prop} (h : B) : if (!true) = true then A else B := by
  rw [if_neg (by decide)]
  exact h
theorem iteNF {A B : Prop} (h : A) : if (!false) = true then A else B := by
  rw [if_pos (by decide)]
  exact h
local macro_rules | `(tactic| walk_at "r1") => `(tactic| with_reducible first
  | refine r_seq ?_ | refine r_asgN ?_ | refine r_asg ?_ | refine r_gname ?_ | refine r_gsub ?_ | refine r_var rfl ?_ | refine r_c ?_ | refine r_op ?_ | refine r_un ?_ | refine r_u ?_ | refine r_i0 ?_ | refine r_cb ?_ | refine r_cons ?_ | refine r_nil ?_ | refine r_cl ?_ | refine r_fn rfl rfl ?_ | refine r_mt ?_
  | refine r_test ?_ | refine r_tb ?_ | refine r_bl ?_ | refine r_and ?_ | refine r_or ?_ | refine r_not ?_ | refine r_andV ?_ | refine r_orV ?_ | refine r_notV ?_ | refine r_ifX ?_ | refine r_ifs ?_ | refine r_chain ?_ | refine r_ret ?_ | refine r_next ?_ | refine r_drop ?_ | refine iteT ?_ | refine iteF ?_ | refine iteNT ?_ | refine iteNF ?_
  | refine r_int1 ?_ | refine r_boolB ?_ | refine r_eqI ?_ | refine r_neI ?_ | refine r_eqB ?_ | refine r_neB ?_ | refine r_eqS ?_ | refine r_neS ?_ | refine r_abs ?_ | refine r_max2 ?_ | refine r_min2 ?_ | refine r_yes ?_ | refine r_tup ?_ | refine r_sfld ?_ | refine r_m0 ?_ | refine r_m1 ?_ | refine r_lst ?_ | refine r_rng1 ?_ | refine r_rng2 ?_ | refine r_ixL (SqL.of (by assumption)) rfl ?_)
local macro_rules | `(tactic| walk_at "r") => `(tactic| repeat (first | walk_at "r1" | ((with_reducible refine r_var ?hv ?_); (case hv => rfl))))
theorem pe_ty {X : Cx} {x : Str} {pos : Pos} (T : String) (hg : Gl X x) (hm : X.mg x = none) (hv : bootBuiltins x = some (.type T)) (hn : x ≠ "__name__" := by decide) (hd : (x == ("__debug__" : Str)) = false := by decide) : PE X (.Name x pos) (tC (.ty T)) := pe_bltn hg hm hv rfl hn hd
theorem pe_gc {X : Cx} {x : Str} {v : V} {pos : Pos} (hg : Gl X x) (h : ∃ u, X.mg x = some u ∧ RelV v u) (hd : (x == ("__debug__" : Str)) = false := by decide) : PE X (.Name x pos) (tC v) := by
  obtain ⟨u, hm, r⟩ := h
  exact pe_glob hg hm r hd
/-! ## walks of anything: an invariant over the turn and the heap -/
section
variable {K : PySem.W.Frag} {a : Addr} {xs : List V} {H0 : Hp} {Stop : Hp → Prop} {Turn : (Hp → Prop) → V → Hp → Prop}
theorem it_list (Pv : Nat → Hp → Prop) (h0 : Pv 0 H0) (hl : ∀ i H, i ≤ xs.length → Pv i H → SqL K H a xs) (hs : ∀ i x H, xs[i]? = some x → Pv i H → Turn (Pv (i + 1)) x H) (hd : ∀ H, Pv xs.length H → Stop H) :
    ∃ W : Nat → Nat → Hp → Prop, (∃ m, W 0 m H0) ∧ ∀ i m H, W i m H → ((Itl K a).stop i H ∧ Stop H) ∨ ((Itl K a).go i H ∧ ∃ Nx : Hp → Prop, (∀ H', Nx H' → ∃ m', m' < m ∧ W (i + 1) m' H') ∧ ∀ x H', (Itl K a).yld i H x H' → Turn Nx x H') := by
  refine ⟨fun i m H => m + i = xs.length ∧ Pv i H, ⟨xs.length, rfl, h0⟩, ?_⟩
  rintro i m H ⟨e, p⟩
  have q := hl i H (by omega) p
  cases m with
  | zero =>
    have e' : i = xs.length := by omega
    subst e'
    exact .inl ⟨⟨xs, q, Nat.le_refl _⟩, hd H p⟩
  | succ m =>
    have lt : i < xs.length := by omega
    refine .inr ⟨⟨xs, xs[i], q, List.getElem?_eq_getElem lt⟩, Pv (i + 1), fun H' p' => ⟨m, Nat.lt_succ_self _, by omega, p'⟩, ?_⟩
    rintro x H' ⟨rfl, y⟩
    exact hs i x _ (y xs q) p
theorem it_tup (Pv : Nat → Hp → Prop) (h0 : Pv 0 H0) (hl : ∀ i H, i ≤ xs.length → Pv i H → SqT K H a xs) (hs : ∀ i x H, xs[i]? = some x → Pv i H → Turn (Pv (i + 1)) x H) (hd : ∀ H, Pv xs.length H → Stop H) :
    ∃ W : Nat → Nat → Hp → Prop, (∃ m, W 0 m H0) ∧ ∀ i m H, W i m H → ((Itt K a).stop i H ∧ Stop H) ∨ ((Itt K a).go i H ∧ ∃ Nx : Hp → Prop, (∀ H', Nx H' → ∃ m', m' < m ∧ W (i + 1) m' H') ∧ ∀ x H', (Itt K a).yld i H x H' → Turn Nx x H') := by
  refine ⟨fun i m H => m + i = xs.length ∧ Pv i H, ⟨xs.length, rfl, h0⟩, ?_⟩
  rintro i m H ⟨e, p⟩
  have q := hl i H (by omega) p
  cases m with
  | zero =>
    have e' : i = xs.length := by omega
    subst e'
    exact .inl ⟨⟨xs, q, Nat.le_refl _⟩, hd H p⟩
  | succ m =>
    have lt : i < xs.length := by omega
    refine .inr ⟨⟨xs, xs[i], q, List.getElem?_eq_getElem lt⟩, Pv (i + 1), fun H' p' => ⟨m, Nat.lt_succ_self _, by omega, p'⟩, ?_⟩
    rintro x H' ⟨rfl, y⟩
    exact hs i x _ (y xs q) p
theorem it_range {lo : Int} {n : Nat} (Pv : Nat → Hp → Prop) (h0 : Pv 0 H0) (hs : ∀ i H, i < n → Pv i H → Turn (Pv (i + 1)) (.int (lo + i)) H) (hd : ∀ H, Pv n H → Stop H) :
    ∃ W : Nat → Nat → Hp → Prop, (∃ m, W 0 m H0) ∧ ∀ i m H, W i m H → ((Itr lo n).stop i H ∧ Stop H) ∨ ((Itr lo n).go i H ∧ ∃ Nx : Hp → Prop, (∀ H', Nx H' → ∃ m', m' < m ∧ W (i + 1) m' H') ∧ ∀ x H', (Itr lo n).yld i H x H' → Turn Nx x H') := by
  refine ⟨fun i m H => m + i = n ∧ Pv i H, ⟨n, rfl, h0⟩, ?_⟩
  rintro i m H ⟨e, p⟩
  cases m with
  | zero =>
    have e' : i = n := by omega
    subst e'
    exact .inl ⟨Nat.le_refl _, hd H p⟩
  | succ m =>
    refine .inr ⟨by show i < n; omega, Pv (i + 1), fun H' p' => ⟨m, Nat.lt_succ_self _, by omega, p'⟩, ?_⟩
    rintro x H' ⟨rfl, rfl⟩
    exact hs i _ (by omega) p
end
def top (i : Nat) : Stmt := PySem.Challenge.pw_endlots_k02_spaces.main.body.getD i (.Pass ⟨0, 0, 0, 0⟩)
abbrev s_is_integer : Stmt := top 7
theorem sc_is_integer : FnScope ["value"] ["value"] (defScope s_is_integer) := ⟨rfl, rfl, rfl, by decide +kernel, rfl, by decide +kernel, by decide +kernel⟩
abbrev s_is_list : Stmt := top 8
theorem sc_is_list : FnScope ["value"] ["value"] (defScope s_is_list) := ⟨rfl, rfl, rfl, by decide +kernel, rfl, by decide +kernel, by decide +kernel⟩
abbrev s_is_from : Stmt := top 9
theorem sc_is_from : FnScope ["value", "low", "high"] ["value", "low", "high"] (defScope s_is_from) := ⟨rfl, rfl, rfl, by decide +kernel, rfl, by decide +kernel, by decide +kernel⟩
abbrev s_is_index : Stmt := top 10
theorem sc_is_index : FnScope ["value", "count"] ["value", "count"] (defScope s_is_index) := ⟨rfl, rfl, rfl, by decide +kernel, rfl, by decide +kernel, by decide +kernel⟩
abbrev s_is_digits : Stmt := top 11
theorem sc_is_digits : FnScope ["word"] ["word"] (defScope s_is_digits) := ⟨rfl, rfl, rfl, by decide +kernel, rfl, by decide +kernel, by decide +kernel⟩
abbrev s_Space___init__ : Stmt := inClass (top 15) 0
theorem sc_Space___init__ : FnScope ["self", "sizes"] ["self", "sizes"] (defScope s_Space___init__) := ⟨rfl, rfl, rfl, by decide +kernel, rfl, by decide +kernel, by decide +kernel⟩
abbrev s_Space___len__ : Stmt := inClass (top 15) 1
theorem sc_Space___len__ : FnScope ["self"] ["self"] (defScope s_Space___len__) := ⟨rfl, rfl, rfl, by decide +kernel, rfl, by decide +kernel, by decide +kernel⟩
abbrev s_Space___eq__ : Stmt := inClass (top 15) 2
theorem sc_Space___eq__ : FnScope ["self", "other"] ["self", "other"] (defScope s_Space___eq__) := ⟨rfl, rfl, rfl, by decide +kernel, rfl, by decide +kernel, by decide +kernel⟩
abbrev s_Space_at : Stmt := inClass (top 15) 3
theorem sc_Space_at : FnScope ["self", "store"] ["self", "store"] (defScope s_Space_at) := ⟨rfl, rfl, rfl, by decide +kernel, rfl, by decide +kernel, by decide +kernel⟩
abbrev s_Space_store : Stmt := inClass (top 15) 4
theorem sc_Space_store : FnScope ["self", "values"] ["self", "values"] (defScope s_Space_store) := ⟨rfl, rfl, rfl, by decide +kernel, rfl, by decide +kernel, by decide +kernel⟩
abbrev s_Space_line : Stmt := inClass (top 15) 5
theorem sc_Space_line : FnScope ["self", "size"] ["self"] (defScope s_Space_line) := ⟨rfl, rfl, rfl, by decide +kernel, rfl, by decide +kernel, by decide +kernel⟩
abbrev s_all_values : Stmt := top 16
theorem sc_all_values : FnScope ["sizes", "stores", "size", "values", "value"] ["sizes"] (defScope s_all_values) := ⟨rfl, rfl, rfl, by decide +kernel, rfl, by decide +kernel, by decide +kernel⟩
abbrev s_is_sizes : Stmt := top 17
theorem sc_is_sizes : FnScope ["value", "stores", "size"] ["value"] (defScope s_is_sizes) := ⟨rfl, rfl, rfl, by decide +kernel, rfl, by decide +kernel, by decide +kernel⟩
abbrev s_is_values : Stmt := top 18
theorem sc_is_values : FnScope ["value", "sizes", "item", "size"] ["value", "sizes"] (defScope s_is_values) := ⟨rfl, rfl, rfl, by decide +kernel, rfl, by decide +kernel, by decide +kernel⟩
abbrev s_read_space : Stmt := top 19
theorem sc_read_space : FnScope ["line", "words", "sizes", "word"] ["line"] (defScope s_read_space) := ⟨rfl, rfl, rfl, by decide +kernel, rfl, by decide +kernel, by decide +kernel⟩
abbrev s__law_cell : Stmt := top 21
theorem sc__law_cell : FnScope ["script", "k"] ["script", "k"] (defScope s__law_cell) := ⟨rfl, rfl, rfl, by decide +kernel, rfl, by decide +kernel, by decide +kernel⟩
abbrev s__law_box : Stmt := top 22
theorem sc__law_box : FnScope ["great"] ["great"] (defScope s__law_box) := ⟨rfl, rfl, rfl, by decide +kernel, rfl, by decide +kernel, by decide +kernel⟩
abbrev s__law_take : Stmt := top 23
theorem sc__law_take : FnScope ["box", "many", "mixed", "digit"] ["box", "many"] (defScope s__law_take) := ⟨rfl, rfl, rfl, by decide +kernel, rfl, by decide +kernel, by decide +kernel⟩
abbrev s__law_sizes : Stmt := top 24
theorem sc__law_sizes : FnScope ["box", "menu"] ["box"] (defScope s__law_sizes) := ⟨rfl, rfl, rfl, by decide +kernel, rfl, by decide +kernel, by decide +kernel⟩
abbrev s__law_rows : Stmt := top 25
theorem sc__law_rows : FnScope ["sizes", "found", "size", "longer", "row", "value"] ["sizes"] (defScope s__law_rows) := ⟨rfl, rfl, rfl, by decide +kernel, rfl, by decide +kernel, by decide +kernel⟩
abbrev s__law_whole : Stmt := top 26
theorem sc__law_whole : FnScope ["value"] ["value"] (defScope s__law_whole) := ⟨rfl, rfl, rfl, by decide +kernel, rfl, by decide +kernel, by decide +kernel⟩
abbrev s__law_stores_right : Stmt := top 27
theorem sc__law_stores_right : FnScope ["box", "space", "rows", "many", "step", "turn", "store", "told", "handed", "back"] ["box", "space", "rows"] (defScope s__law_stores_right) := ⟨rfl, rfl, rfl, by decide +kernel, rfl, by decide +kernel, by decide +kernel⟩
abbrev s__law_space_right : Stmt := top 28
theorem sc__law_space_right : FnScope ["box", "space", "sizes", "rows", "line", "back", "size"] ["box", "space", "sizes"] (defScope s__law_space_right) := ⟨rfl, rfl, rfl, by decide +kernel, rfl, by decide +kernel, by decide +kernel⟩
abbrev s__law_equal_right : Stmt := top 29
theorem sc__law_equal_right : FnScope ["spaces", "lists", "one", "other", "odd", "same"] ["spaces", "lists"] (defScope s__law_equal_right) := ⟨rfl, rfl, rfl, by decide +kernel, rfl, by decide +kernel, by decide +kernel⟩
abbrev s__law_right : Stmt := top 30
theorem sc__law_right : FnScope ["box", "lists", "handed", "spaces", "sizes", "order", "k", "first", "last"] ["box"] (defScope s__law_right) := ⟨rfl, rfl, rfl, by decide +kernel, rfl, by decide +kernel, by decide +kernel⟩
abbrev s_law : Stmt := top 31
theorem sc_law : FnScope ["script", "k"] ["script"] (defScope s_law) := ⟨rfl, rfl, rfl, by decide +kernel, rfl, by decide +kernel, by decide +kernel⟩
/-! ## what is spoken of -/
def menu : List (List Int) := [[2], [3], [4], [5], [6], [7], [8], [2, 2], [2, 3], [2, 4], [3, 2], [4, 2], [2, 2, 2]]
/-- one more name with z values -/
def more (z : Int) (v : List Int) : List (List Int) := (List.range z.toNat).map fun (x : Nat) => v ++ [(x : Int)]
def wide (rows : List (List Int)) (z : Int) : List (List Int) := rows.flatMap (more z)
def allRows (zs : List Int) : List (List Int) := zs.foldl wide [[]]
/-- tuples of ints at these places -/
def RowsT (H : Hp) (ts : List Addr) (rows : List (List Int)) : Prop := ts.length = rows.length ∧ ∀ (i : Nat) (t : Addr) (r : List Int), ts[i]? = some t → rows[i]? = some r → H t = some (.tup (r.map V.int))
theorem RowsT.same {H H' : Hp} {ts : List Addr} {rows : List (List Int)} (h : RowsT H ts rows) (s : Same H H') : RowsT H' ts rows := ⟨h.1, fun i t r a b => s _ _ (h.2 i t r a b)⟩
theorem RowsT.push {H : Hp} {ts : List Addr} {rows : List (List Int)} {t : Addr} {r : List Int} (h : RowsT H ts rows) (e : H t = some (.tup (r.map V.int))) : RowsT H (ts ++ [t]) (rows ++ [r]) := by
  refine ⟨by simp [h.1], fun i u q a b => ?_⟩
  by_cases c : i < ts.length
  · rw [List.getElem?_append_left c] at a
    rw [List.getElem?_append_left (h.1 ▸ c)] at b
    exact h.2 i u q a b
  · have c1 : i = ts.length := by
      have := (List.getElem?_eq_some_iff.mp a).1
      simp at this
      omega
    subst c1
    simp at a
    rw [h.1] at b
    simp at b
    subst a b
    exact e
theorem Same.upd_new {H : Hp} {p : Addr} {o : HO} (h : H p = none) : Same H (upd H p o) := fun b u e => by rw [upd_ne (ne_of_none e h)]; exact e
structure Zs (mg : Str → Option Value) : Prop where
  isinstance_ : mg "isinstance" = none
  int_ : mg "int" = none
  bool_ : mg "bool" = none
  str_ : mg "str" = none
  list_ : mg "list" = none
  tuple_ : mg "tuple" = none
  len_ : mg "len" = none
  abs_ : mg "abs" = none
  max_ : mg "max" = none
  min_ : mg "min" = none
  sum_ : mg "sum" = none
  repr_ : mg "repr" = none
  all_ : mg "all" = none
  range_ : mg "range" = none
  zip_ : mg "zip" = none
  MOST_NAMES : ∃ u, mg "MOST_NAMES" = some u ∧ RelV (.int 3) u
  MOST_STORES : ∃ u, mg "MOST_STORES" = some u ∧ RelV (.int 8) u
/-! ## the promises -/
/-- the box of draws at b: a great number, its flag, its rest, how many draws so far (at most n) -/
def BoxAt (H : Hp) (b : Addr) (n : Nat) : Prop := ∃ (g m c : Int) (t : Bool), H b = some (.lst [.int g, .bl t, .int m, .int c]) ∧ 0 ≤ g ∧ 0 ≤ m ∧ m < 2147483648 ∧ 0 ≤ c ∧ c ≤ n
def But (b : Addr) (H H' : Hp) : Prop := ∀ a o, a ≠ b → H a = some o → H' a = some o
def spTake : Sp := fun vs H Q _ => ∃ (b : Addr) (many : Int) (n : Nat), vs = [.ref b, .int many] ∧ BoxAt H b n ∧ n < 4000000 ∧ 0 < many ∧ many < 1073741824 ∧
  ∀ (r : Int) (H' : Hp), 0 ≤ r → r < many → BoxAt H' b (n + 1) → But b H H' → Q (.int r) H'
def spIsInt : Sp := fun vs H Q _ => ∃ i, vs = [.int i] ∧ Q (.bl true) H
def spIsList : Sp := fun vs H Q _ => ∃ a xs, vs = [.ref a] ∧ (H a = some (.lst xs) ∨ H a = some (.tup xs)) ∧ ∀ H', Same H H' → Q (.bl true) H'
def spIsFrom : Sp := fun vs H Q _ => ∃ i lo hi, vs = [.int i, .int lo, .int hi] ∧ lo ≤ i ∧ i ≤ hi ∧ Q (.bl true) H
def spIsIndex : Sp := fun vs H Q _ => ∃ i n, vs = [.int i, .int n] ∧ 0 ≤ i ∧ i < n ∧ Q (.bl true) H
def spIsDigits : Sp := fun vs H Q _ => ∃ a, vs = [.str a] ∧ Txt.isascii a = true ∧ Txt.isdigit a = true ∧ Q (.bl true) H
def spIsSizes : Sp := fun vs H Q _ => ∃ a zs, vs = [.ref a] ∧ zs ∈ menu ∧ (H a = some (.lst (zs.map V.int)) ∨ H a = some (.tup (zs.map V.int))) ∧ ∀ H', Same H H' → Q (.bl true) H'
def spAllValues : Sp := fun vs H Q _ => ∃ a zs, vs = [.ref a] ∧ zs ∈ menu ∧ H a = some (.tup (zs.map V.int)) ∧ ∀ H' q ts, Same H H' → H q = none → BareT H' q (ts.map V.ref) → RowsT H' ts (allRows zs) → Q (.ref q) H'
section
variable {P : Program} {w : World} {K : PySem.W.Frag} {mg : Str → Option Value} {base : Heap}
theorem ok_take {f : Addr} {fd : FuncData} (F : Fun K "_law_take" "_law_take" s__law_take f fd) (Z : Zs mg) : FnG P w K mg base CX0 1 f fd ["box", "many"] spTake := by
  refine okG F sc__law_take (fun vs H Q E h => ?_) (fun cdv B up z H vs Q E hG hr h => ?_)
  · obtain ⟨b, many, n, rfl, _⟩ := h
    rfl
  · obtain ⟨b, many, n, rfl, ⟨g, m, c, t, hb, hg, hm, hm2, hc, hcn⟩, hn, h0, h1, k⟩ := h
    refine ⟨_, (pss_cons (ps_if (PW.pt (pw_and (pt_val (pe_ix (show IxR _ (rIxL K) from ix_list) (pv 0) pe_int (fun _ _ => rfl))) (pw_and1 (pt_cmpR op_gt (pe_ix (show IxR _ (rIxL K) from ix_list) (pv 0) pe_int (fun _ _ => rfl)) pe_int (nomark _))))) (pss_cons (ps_set (i := 3) sc__law_take.nd rfl (by first | exact Or.inl rfl | exact Or.inr rfl) (pe_op op_mod (pe_callTy c_int (by rfl) Z.int_ (by decide +kernel) (pa_cons (pe_ix (show IxR _ (rIxL K) from ix_list) (pv 0) pe_int (fun _ _ => rfl)) pa_nil)) (pv 1)))
  (pss_cons (ps_asg (pe_op op_fdiv (pe_ix (show IxR _ (rIxL K) from ix_list) (pv 0) pe_int (fun _ _ => rfl)) (pv 1)) (pg_sub (pv 0) pe_int set_list))
  (pss_one (ps_ret (pv 3))))) pss_nil)
  (pss_cons (ps_asg (pe_op op_add (pe_ix (show IxR _ (rIxL K) from ix_list) (pv 0) pe_int (fun _ _ => rfl)) pe_int) (pg_sub (pv 0) pe_int set_list))
  (pss_cons (ps_set (i := 2) sc__law_take.nd rfl (by first | exact Or.inl rfl | exact Or.inr rfl) (pe_op op_mod (pe_callTy c_int (by rfl) Z.int_ (by decide +kernel) (pa_cons (pe_op op_pow (pe_op op_add (pe_op op_add (pe_ix (show IxR _ (rIxL K) from ix_list) (pv 0) pe_int (fun _ _ => rfl)) (pe_op op_mul pe_int (pe_ix (show IxR _ (rIxL K) from ix_list) (pv 0) pe_int (fun _ _ => rfl)))) pe_int) pe_int) pa_nil)) pe_int))
  (pss_one (ps_ret (pe_op op_mod (pe_op op_fdiv (pe_op op_mod (pe_callTy c_int (by rfl) Z.int_ (by decide +kernel) (pa_cons (pe_op op_pow (pe_op op_add (pe_op op_mul (pv 2) pe_int) (pe_op op_mul pe_int (pe_ix (show IxR _ (rIxL K) from ix_list) (pv 0) pe_int (fun _ _ => rfl)))) pe_int) pa_nil)) pe_int) pe_int) (pv 1))))))), ?_⟩
    have fin : ∀ g' c' : Int, 0 ≤ g' → 0 ≤ c' → c' ≤ n + 1 → ∀ o, o = (HO.lst [.int g', .bl t, .int m, .int c']) → BoxAt (upd H b o) b (n + 1) := fun g' c' h1 h2 h3 o e => by
      subst e
      exact ⟨g', m, c', t, upd_same, h1, hm, hm2, h2, h3⟩
    have but : ∀ o, But b H (upd H b o) := fun o a u ha e => by rw [upd_ne ha]; exact e
    walk_at "r"
    refine ite2 (fun ht => ?_) (fun ht => ?_)
    walk_at "r"
    refine ite2 (fun hp => ?_) (fun hp => ?_)
    · walk_at "r"
      refine r_i h0 ?_
      walk_at "r"
      refine r_i ⟨h0, h1⟩ ?_
      walk_at "r"
      refine r_setL hb rfl ?_
      walk_at "r"
      exact k _ _ (Int.emod_nonneg _ (by omega)) (Int.emod_lt_of_pos _ h0) (fin (g / many) c (Int.ediv_nonneg hg (by omega)) hc (by omega) _ rfl) (but _)
    all_goals
      walk_at "r"
      refine r_setL hb rfl ?_
      have hb2 : (upd H b (.lst [.int g, .bl t, .int m, .int (c + 1)])) b = some (.lst [.int g, .bl t, .int m, .int (c + 1)]) := upd_same
      walk_at "r"
      refine r_ixL (SqL.of hb2) rfl ?_
      walk_at "r"
      refine r_ixL (SqL.of hb2) rfl ?_
      walk_at "r"
      refine r_i (.inl ⟨by decide, by decide⟩) ?_
      walk_at "r"
      refine r_i ⟨by decide, by decide, by omega⟩ ?_
      walk_at "r"
      refine r_i (by decide) ?_
      walk_at "r"
      have hm0 := Int.emod_nonneg ((m + 15485867 * (c + 1) + 179425033) ^ (5 : Int).toNat) (show (2147483647 : Int) ≠ 0 by decide)
      have hm1 := Int.emod_lt_of_pos ((m + 15485867 * (c + 1) + 179425033) ^ (5 : Int).toNat) (show (0 : Int) < 2147483647 by decide)
      generalize (m + 15485867 * (c + 1) + 179425033) ^ (5 : Int).toNat % 2147483647 = mixed at hm0 hm1 ⊢
      refine r_i (.inl ⟨by omega, by omega⟩) ?_
      walk_at "r"
      refine r_ixL (SqL.of hb2) rfl ?_
      walk_at "r"
      refine r_i (.inl ⟨by decide, by decide⟩) ?_
      walk_at "r"
      refine r_i ⟨by decide, by decide, by omega⟩ ?_
      walk_at "r"
      refine r_i (by decide) ?_
      walk_at "r"
      refine r_i ⟨by decide, by decide⟩ ?_
      walk_at "r"
      refine r_i h0 ?_
      exact k _ _ (Int.emod_nonneg _ (by omega)) (Int.emod_lt_of_pos _ h0) (fin g (c + 1) hg (by omega) (by omega) _ rfl) (but _)
theorem ok_is_integer {f : Addr} {fd : FuncData} {x : Str} {st : Stmt} (F : Fun K x x st f fd) (Z : Zs mg) (est : st = s_is_integer ∨ st = s__law_whole) : FnG P w K mg base CX0 1 f fd ["value"] spIsInt := by
  rcases est with rfl | rfl
  · refine okG F sc_is_integer (fun vs H Q E h => ?_) (fun cdv B up z H vs Q E hG hr h => ?_)
    · obtain ⟨i, rfl, _⟩ := h
      rfl
    · obtain ⟨i, rfl, k⟩ := h
      refine ⟨_, (pss_one (ps_ret (pe_and (pe_callB call_isi (by rfl) Z.isinstance_ (by decide +kernel) (pa_cons (pv 0) (pa_cons (pe_ty "int" (by rfl) Z.int_ (by decide +kernel)) pa_nil))) (pe_one (pe_not (pe_callB call_isi (by rfl) Z.isinstance_ (by decide +kernel) (pa_cons (pv 0) (pa_cons (pe_ty "bool" (by rfl) Z.bool_ (by decide +kernel)) pa_nil)))))))), ?_⟩
      walk_at "r"
      refine r_isiB (b := true) (.base (.int i)) (by decide +kernel) ?_
      walk_at "r"
      refine r_isiB (b := false) (.base (.int i)) (by decide +kernel) ?_
      walk_at "r"
      exact k
  · refine okG F sc__law_whole (fun vs H Q E h => ?_) (fun cdv B up z H vs Q E hG hr h => ?_)
    · obtain ⟨i, rfl, _⟩ := h
      rfl
    · obtain ⟨i, rfl, k⟩ := h
      refine ⟨_, (pss_one (ps_ret (pe_and (pe_callB call_isi (by rfl) Z.isinstance_ (by decide +kernel) (pa_cons (pv 0) (pa_cons (pe_ty "int" (by rfl) Z.int_ (by decide +kernel)) pa_nil))) (pe_one (pe_not (pe_callB call_isi (by rfl) Z.isinstance_ (by decide +kernel) (pa_cons (pv 0) (pa_cons (pe_ty "bool" (by rfl) Z.bool_ (by decide +kernel)) pa_nil)))))))), ?_⟩
      walk_at "r"
      refine r_isiB (b := true) (.base (.int i)) (by decide +kernel) ?_
      walk_at "r"
      refine r_isiB (b := false) (.base (.int i)) (by decide +kernel) ?_
      walk_at "r"
      exact k
theorem ok_is_list {f : Addr} {fd : FuncData} (F : Fun K "is_list" "is_list" s_is_list f fd) (Z : Zs mg) : FnG P w K mg base CX0 1 f fd ["value"] spIsList := by
  refine okG F sc_is_list (fun vs H Q E h => ?_) (fun cdv B up z H vs Q E hG hr h => ?_)
  · obtain ⟨a, xs, rfl, _⟩ := h
    rfl
  · obtain ⟨a, xs, rfl, ha, k⟩ := h
    refine ⟨_, (pss_one (ps_ret (pe_callB call_isiT (by rfl) Z.isinstance_ (by decide +kernel) (pa_cons (pv 0) (pa_cons (pe_tup (pa_cons (pe_ty "list" (by rfl) Z.list_ (by decide +kernel)) (pa_cons (pe_ty "tuple" (by rfl) Z.tuple_ (by decide +kernel)) pa_nil))) pa_nil))))), ?_⟩
    walk_at "r"
    refine ⟨by show 2 ≤ sizeLine; decide, fun p hp => ?_⟩
    have s1 : Same H (upd H p (.tup [.ty "list", .ty "tuple"])) := Same.upd_new hp
    walk_at "r"
    rcases ha with e | e
    · exact ⟨.ref a, p, [.ty "list", .ty "tuple"], .type "list", [.type "list", .type "tuple"], true, rfl, upd_same, .cons (.ty _) (.cons (.ty _) .nil), .base (.lst (s1 _ _ e)),
        kitAny_cons (b := true) (kit_ty (by decide +kernel)) (fun z => by cases z) (fun _ => rfl), k _ s1⟩
    · exact ⟨.ref a, p, [.ty "list", .ty "tuple"], .type "tuple", [.type "list", .type "tuple"], true, rfl, upd_same, .cons (.ty _) (.cons (.ty _) .nil), .base (.tup (s1 _ _ e)),
        kitAny_cons (b := false) (kit_ty (by decide +kernel)) (fun _ => kitAny_cons (b := true) (kit_ty (by decide +kernel)) (fun z => by cases z) (fun _ => rfl)) (fun z => by cases z), k _ s1⟩
theorem ok_is_from {f : Addr} {fd : FuncData} (F : Fun K "is_from" "is_from" s_is_from f fd) (d_is_integer : DefD P w K mg base 1 "is_integer" 1 [] byPlace spIsInt) : FnG P w K mg base CX0 2 f fd ["value", "low", "high"] spIsFrom := by
  refine okG F sc_is_from (fun vs H Q E h => ?_) (fun cdv B up z H vs Q E hG hr h => ?_)
  · obtain ⟨i, lo, hi, rfl, _⟩ := h
    rfl
  · obtain ⟨i, lo, hi, rfl, h1, h2, k⟩ := h
    refine ⟨_, (pss_one (ps_ret (pe_and (pd_pos d_is_integer hG hr (by decide) (by rfl) (pa_cons (pv 0) pa_nil)) (pe_one (pe_chain op_le op_le (pv 1) (pv 0) (pv 2)))))), ?_⟩
    walk_at "r"
    refine ⟨i, rfl, ?_⟩
    walk_at "r"
    rw [decide_eq_true h1]
    walk_at "r"
    rw [decide_eq_true h2]
    exact k
theorem ok_is_index {f : Addr} {fd : FuncData} (F : Fun K "is_index" "is_index" s_is_index f fd) (d_is_integer : DefD P w K mg base 1 "is_integer" 1 [] byPlace spIsInt) : FnG P w K mg base CX0 2 f fd ["value", "count"] spIsIndex := by
  refine okG F sc_is_index (fun vs H Q E h => ?_) (fun cdv B up z H vs Q E hG hr h => ?_)
  · obtain ⟨i, n, rfl, _⟩ := h
    rfl
  · obtain ⟨i, n, rfl, h1, h2, k⟩ := h
    refine ⟨_, (pss_one (ps_ret (pe_and (pd_pos d_is_integer hG hr (by decide) (by rfl) (pa_cons (pv 0) pa_nil)) (pe_one (pe_chain op_le op_lt pe_int (pv 0) (pv 1)))))), ?_⟩
    walk_at "r"
    refine ⟨i, rfl, ?_⟩
    walk_at "r"
    rw [decide_eq_true h1]
    walk_at "r"
    rw [decide_eq_true h2]
    exact k
end
end Eld
set_option Elab.async false
set_option maxRecDepth 100000
set_option maxHeartbeats 4000000
set_option linter.all false
namespace Eld
open PySem L2
local macro_rules | `(tactic| walk_at "r1") => `(tactic| with_reducible first
  | refine r_seq ?_ | refine r_asgN ?_ | refine r_asg ?_ | refine r_gname ?_ | refine r_gsub ?_ | refine r_var rfl ?_ | refine r_c ?_ | refine r_op ?_ | refine r_un ?_ | refine r_u ?_ | refine r_i0 ?_ | refine r_cb ?_ | refine r_cons ?_ | refine r_nil ?_ | refine r_cl ?_ | refine r_fn rfl rfl ?_ | refine r_mt ?_
  | refine r_test ?_ | refine r_tb ?_ | refine r_bl ?_ | refine r_and ?_ | refine r_or ?_ | refine r_not ?_ | refine r_andV ?_ | refine r_orV ?_ | refine r_notV ?_ | refine r_ifX ?_ | refine r_ifs ?_ | refine r_chain ?_ | refine r_ret ?_ | refine r_next ?_ | refine r_drop ?_ | refine iteT ?_ | refine iteF ?_ | refine iteNT ?_ | refine iteNF ?_
  | refine r_int1 ?_ | refine r_boolB ?_ | refine r_eqI ?_ | refine r_neI ?_ | refine r_eqB ?_ | refine r_neB ?_ | refine r_eqS ?_ | refine r_neS ?_ | refine r_abs ?_ | refine r_max2 ?_ | refine r_min2 ?_ | refine r_yes ?_ | refine r_tup ?_ | refine r_sfld ?_ | refine r_m0 ?_ | refine r_m1 ?_ | refine r_lst ?_ | refine r_rng1 ?_ | refine r_rng2 ?_ | refine r_ixL (SqL.of (by assumption)) rfl ?_)
local macro_rules | `(tactic| walk_at "r") => `(tactic| repeat (first | walk_at "r1" | ((with_reducible refine r_var ?hv ?_); (case hv => rfl))))
theorem menu_len : ∀ zs ∈ menu, 1 ≤ zs.length ∧ zs.length ≤ 3 := by decide
theorem menu_mem : ∀ zs ∈ menu, ∀ z ∈ zs, (2 : Int) ≤ z ∧ z ≤ 8 := by decide
def prod (zs : List Int) : Int := zs.foldl (· * ·) 1
theorem menu_prod : ∀ zs ∈ menu, prod zs ≤ 8 := by decide
theorem menu_part : ∀ zs ∈ menu, ∀ i, i < 4 → -(2 ^ 64) < prod (zs.take i) ∧ prod (zs.take i) < 2 ^ 64 := by decide
theorem prod_take {zs : List Int} {i : Nat} {z : Int} (h : zs[i]? = some z) : prod (zs.take (i + 1)) = prod (zs.take i) * z := by
  unfold prod
  rw [List.take_add_one, h, List.foldl_append]
  rfl
theorem map_get {zs : List Int} {i : Nat} {x : V} (h : (zs.map V.int)[i]? = some x) : ∃ z, zs[i]? = some z ∧ x = .int z := by
  rw [List.getElem?_map] at h
  cases e : zs[i]? with
  | none => rw [e] at h; cases h
  | some z => rw [e] at h; exact ⟨z, rfl, (Option.some.inj h).symm⟩
theorem all_rep (n : Nat) : (List.replicate n true).all id = true := by
  rw [List.all_eq_true]
  intro b hb
  exact (List.mem_replicate.mp hb).2
theorem map_rep (n : Nat) : (List.replicate n true).map V.bl = List.replicate n (V.bl true) := by rw [List.map_replicate]
section
variable {P : Program} {w : World} {K : PySem.W.Frag} {mg : Str → Option Value} {base : Heap}
theorem ok_is_sizes {f : Addr} {fd : FuncData} (F : Fun K "is_sizes" "is_sizes" s_is_sizes f fd) (Z : Zs mg) (d_is_list : DefD P w K mg base 1 "is_list" 1 [] byPlace spIsList) (d_is_from : DefD P w K mg base 2 "is_from" 3 [] byPlace spIsFrom) :
    FnG P w K mg base CX0 3 f fd ["value"] spIsSizes := by
  refine okG F sc_is_sizes (fun vs H Q E h => ?_) (fun cdv B up z H vs Q E hG hr h => ?_)
  · obtain ⟨a, zs, rfl, _⟩ := h
    rfl
  · obtain ⟨a, zs, rfl, hz, ha, k⟩ := h
    obtain ⟨l1, l3⟩ := menu_len zs hz
    have lz : (zs.map V.int).length = zs.length := List.length_map ..
    rcases ha with ha | ha
    · refine ⟨_, (pss_cons (ps_if (PW.pt (pw_or (pt_not (pt_val (pd_pos d_is_list hG hr (by decide) (by rfl) (pa_cons (pv 0) pa_nil)))) (pw_or1 (pt_not (pt_chain op_le op_le pe_int (pe_callB (show CallR _ _ (rLen K) from c_len) (by rfl) Z.len_ (by decide +kernel) (pa_cons (pv 0) pa_nil)) (pe_gc (by rfl) Z.MOST_NAMES)))))) (pss_one (ps_ret pe_bl)) pss_nil)
  (pss_cons (ps_if (pt_not (pt_val (pe_callB (cr_all rfl) (by rfl) Z.all_ (by decide +kernel) (pa_cons (pe_lc (own := [("size", 2)]) (tt := tYes) rfl sc_is_sizes.nd (pi_list (pv 0)) (blkOk_by (N := ["value", "stores", "size"]) (sc := defScope s_is_sizes) (by decide +kernel)) (fun _ _ _ _ _ => (pg_name (i := 2) sc_is_sizes.nd rfl (by first | exact Or.inl rfl | exact Or.inr rfl))) (fun _ _ _ _ _ => pts_nil) (fun _ _ _ _ _ => (pd_pos d_is_from hG hr (by decide) (by rfl) (pa_cons (pv 2) (pa_cons pe_int (pa_cons (pe_gc (by rfl) Z.MOST_STORES) pa_nil)))))) pa_nil)))) (pss_one (ps_ret pe_bl)) pss_nil)
  (pss_cons (ps_set (i := 1) sc_is_sizes.nd rfl (by first | exact Or.inl rfl | exact Or.inr rfl) pe_int)
  (pss_cons (ps_for PassesOwn.never rfl (pi_list (pv 0)) (pg_name (i := 2) sc_is_sizes.nd rfl (by first | exact Or.inl rfl | exact Or.inr rfl))
  (pss_one (ps_set (i := 1) sc_is_sizes.nd rfl (by first | exact Or.inl rfl | exact Or.inr rfl) (pe_op op_mul (pv 1) (pv 2)))))
  (pss_one (ps_ret (pe_cmpR op_le (pv 1) (pe_gc (by rfl) Z.MOST_STORES) (nomark _)))))))), ?_⟩
      walk_at "r"
      refine ⟨a, _, rfl, .inl ha, fun H1 s1 => ?_⟩
      walk_at "r"
      refine r_lenL (SqL.of (s1 _ _ ha)) ?_
      walk_at "r"
      rw [lz, decide_eq_true (show (1 : Int) ≤ (zs.length : Nat) by omega)]
      walk_at "r"
      rw [decide_eq_true (show ((zs.length : Nat) : Int) ≤ 3 by omega)]
      walk_at "r"
      refine ⟨_, rfl, a, rfl, ⟨_, SqL.of (s1 _ _ ha)⟩, fun D hD => ?_⟩
      have keep : ∀ {H2 : Hp}, (Same H1 H2 ∧ ∃ i, H2 D = some (.lst (List.replicate i (V.bl true)))) → H2 a = some (.lst (zs.map V.int)) := fun h => h.1 _ _ (s1 _ _ ha)
      refine it_list (xs := zs.map V.int) (fun i H2 => Same H1 H2 ∧ H2 D = some (.lst (List.replicate i (V.bl true)))) ⟨Same.upd_new hD, upd_same⟩ (fun i H2 _ p => SqL.of (p.1 _ _ (s1 _ _ ha))) (fun i x H2 hx p => ?_) (fun H2 p => ?_)
      · obtain ⟨y, hy, rfl⟩ := map_get hx
        obtain ⟨y1, y2⟩ := menu_mem zs hz y (List.mem_of_getElem? hy)
        refine r_gname ⟨rfl, ?_⟩
        walk_at "r"
        refine ⟨y, 2, 8, rfl, y1, y2, ?_⟩
        have il : i < zs.length := (List.getElem?_eq_some_iff.mp hy).1
        refine ⟨_, p.2, by rw [List.length_replicate, sizeLine_eq]; omega, fun b o e => ?_, by rw [upd_same, List.replicate_succ']⟩
        rw [upd_ne (ne_of_none e hD)]
        exact p.1 _ _ e
      · rw [lz] at p
        refine ⟨D, List.replicate zs.length true, rfl, SqL.of (by rw [map_rep]; exact p.2), ?_⟩
        rw [all_rep]
        walk_at "r"
        have ha2 : H2 a = some (.lst (zs.map V.int)) := p.1 _ _ (s1 _ _ ha)
        refine ⟨_, rfl, a, rfl, ⟨_, SqL.of ha2⟩, for_list (K := K) (a := a) (xs := zs.map V.int) (fun i τ G => G = H2 ∧ ∃ v : Option V, τ = [some (.ref a), some (.int (prod (zs.take i))), v]) ⟨rfl, none, rfl⟩ (fun i τ G _ q => by rw [q.1]; exact SqL.of ha2) ?_ ?_⟩
        · rintro i x τ G hx ⟨rfl, v, rfl⟩
          obtain ⟨y, hy, rfl⟩ := map_get hx
          have il : i < zs.length := (List.getElem?_eq_some_iff.mp hy).1
          walk_at "r"
          refine r_i (.inl (menu_part zs hz i (by omega))) ?_
          walk_at "r"
          exact ⟨rfl, _, by rw [prod_take hy]; rfl⟩
        · rintro τ G ⟨rfl, v, rfl⟩
          walk_at "r"
          rw [lz, List.take_length, decide_eq_true (menu_prod zs hz)]
          exact k _ (s1.trans p.1)
    · refine ⟨_, (pss_cons (ps_if (PW.pt (pw_or (pt_not (pt_val (pd_pos d_is_list hG hr (by decide) (by rfl) (pa_cons (pv 0) pa_nil)))) (pw_or1 (pt_not (pt_chain op_le op_le pe_int (pe_callB (show CallR _ _ (rLen K) from c_len) (by rfl) Z.len_ (by decide +kernel) (pa_cons (pv 0) pa_nil)) (pe_gc (by rfl) Z.MOST_NAMES)))))) (pss_one (ps_ret pe_bl)) pss_nil)
  (pss_cons (ps_if (pt_not (pt_val (pe_callB (cr_all rfl) (by rfl) Z.all_ (by decide +kernel) (pa_cons (pe_lc (own := [("size", 2)]) (tt := tYes) rfl sc_is_sizes.nd (pi_tup (pv 0)) (blkOk_by (N := ["value", "stores", "size"]) (sc := defScope s_is_sizes) (by decide +kernel)) (fun _ _ _ _ _ => (pg_name (i := 2) sc_is_sizes.nd rfl (by first | exact Or.inl rfl | exact Or.inr rfl))) (fun _ _ _ _ _ => pts_nil) (fun _ _ _ _ _ => (pd_pos d_is_from hG hr (by decide) (by rfl) (pa_cons (pv 2) (pa_cons pe_int (pa_cons (pe_gc (by rfl) Z.MOST_STORES) pa_nil)))))) pa_nil)))) (pss_one (ps_ret pe_bl)) pss_nil)
  (pss_cons (ps_set (i := 1) sc_is_sizes.nd rfl (by first | exact Or.inl rfl | exact Or.inr rfl) pe_int)
  (pss_cons (ps_for PassesOwn.never rfl (pi_tup (pv 0)) (pg_name (i := 2) sc_is_sizes.nd rfl (by first | exact Or.inl rfl | exact Or.inr rfl))
  (pss_one (ps_set (i := 1) sc_is_sizes.nd rfl (by first | exact Or.inl rfl | exact Or.inr rfl) (pe_op op_mul (pv 1) (pv 2)))))
  (pss_one (ps_ret (pe_cmpR op_le (pv 1) (pe_gc (by rfl) Z.MOST_STORES) (nomark _)))))))), ?_⟩
      walk_at "r"
      refine ⟨a, _, rfl, .inr ha, fun H1 s1 => ?_⟩
      walk_at "r"
      refine r_lenT (SqT.of (s1 _ _ ha)) ?_
      walk_at "r"
      rw [lz, decide_eq_true (show (1 : Int) ≤ (zs.length : Nat) by omega)]
      walk_at "r"
      rw [decide_eq_true (show ((zs.length : Nat) : Int) ≤ 3 by omega)]
      walk_at "r"
      refine ⟨_, rfl, a, rfl, ⟨_, SqT.of (s1 _ _ ha)⟩, fun D hD => ?_⟩
      refine it_tup (xs := zs.map V.int) (fun i H2 => Same H1 H2 ∧ H2 D = some (.lst (List.replicate i (V.bl true)))) ⟨Same.upd_new hD, upd_same⟩ (fun i H2 _ p => SqT.of (p.1 _ _ (s1 _ _ ha))) (fun i x H2 hx p => ?_) (fun H2 p => ?_)
      · obtain ⟨y, hy, rfl⟩ := map_get hx
        obtain ⟨y1, y2⟩ := menu_mem zs hz y (List.mem_of_getElem? hy)
        refine r_gname ⟨rfl, ?_⟩
        walk_at "r"
        refine ⟨y, 2, 8, rfl, y1, y2, ?_⟩
        have il : i < zs.length := (List.getElem?_eq_some_iff.mp hy).1
        refine ⟨_, p.2, by rw [List.length_replicate, sizeLine_eq]; omega, fun b o e => ?_, by rw [upd_same, List.replicate_succ']⟩
        rw [upd_ne (ne_of_none e hD)]
        exact p.1 _ _ e
      · rw [lz] at p
        refine ⟨D, List.replicate zs.length true, rfl, SqL.of (by rw [map_rep]; exact p.2), ?_⟩
        rw [all_rep]
        walk_at "r"
        have ha2 : H2 a = some (.tup (zs.map V.int)) := p.1 _ _ (s1 _ _ ha)
        refine ⟨_, rfl, a, rfl, ⟨_, SqT.of ha2⟩, for_tup (K := K) (a := a) (xs := zs.map V.int) (fun i τ G => G = H2 ∧ ∃ v : Option V, τ = [some (.ref a), some (.int (prod (zs.take i))), v]) ⟨rfl, none, rfl⟩ (fun i τ G _ q => by rw [q.1]; exact SqT.of ha2) ?_ ?_⟩
        · rintro i x τ G hx ⟨rfl, v, rfl⟩
          obtain ⟨y, hy, rfl⟩ := map_get hx
          have il : i < zs.length := (List.getElem?_eq_some_iff.mp hy).1
          walk_at "r"
          refine r_i (.inl (menu_part zs hz i (by omega))) ?_
          walk_at "r"
          exact ⟨rfl, _, by rw [prod_take hy]; rfl⟩
        · rintro τ G ⟨rfl, v, rfl⟩
          walk_at "r"
          rw [lz, List.take_length, decide_eq_true (menu_prod zs hz)]
          exact k _ (s1.trans p.1)
end
end Eld
set_option Elab.async false
set_option maxRecDepth 100000
set_option maxHeartbeats 4000000
set_option linter.all false
namespace Eld
open PySem L2
local macro_rules | `(tactic| walk_at "r1") => `(tactic| with_reducible first
  | refine r_seq ?_ | refine r_asgN ?_ | refine r_asg ?_ | refine r_gname ?_ | refine r_gsub ?_ | refine r_var rfl ?_ | refine r_c ?_ | refine r_op ?_ | refine r_un ?_ | refine r_u ?_ | refine r_i0 ?_ | refine r_cb ?_ | refine r_cons ?_ | refine r_nil ?_ | refine r_cl ?_ | refine r_fn rfl rfl ?_ | refine r_mt ?_
  | refine r_test ?_ | refine r_tb ?_ | refine r_bl ?_ | refine r_and ?_ | refine r_or ?_ | refine r_not ?_ | refine r_andV ?_ | refine r_orV ?_ | refine r_notV ?_ | refine r_ifX ?_ | refine r_ifs ?_ | refine r_chain ?_ | refine r_ret ?_ | refine r_next ?_ | refine r_drop ?_ | refine iteT ?_ | refine iteF ?_ | refine iteNT ?_ | refine iteNF ?_
  | refine r_int1 ?_ | refine r_boolB ?_ | refine r_eqI ?_ | refine r_neI ?_ | refine r_eqB ?_ | refine r_neB ?_ | refine r_eqS ?_ | refine r_neS ?_ | refine r_abs ?_ | refine r_max2 ?_ | refine r_min2 ?_ | refine r_yes ?_ | refine r_tup ?_ | refine r_sfld ?_ | refine r_m0 ?_ | refine r_m1 ?_ | refine r_lst ?_ | refine r_rng1 ?_ | refine r_rng2 ?_ | refine r_ixL (SqL.of (by assumption)) rfl ?_)
local macro_rules | `(tactic| walk_at "r") => `(tactic| repeat (first | walk_at "r1" | ((with_reducible refine r_var ?hv ?_); (case hv => rfl))))

theorem menu_rows : ∀ zs ∈ menu, ∀ i, i < 3 → ∀ j, j < 9 → (((allRows (zs.take i)).take j).flatMap (more (zs.getD i 0))).length ≤ 64 := by decide
theorem menu_rows8 : ∀ zs ∈ menu, ∀ i, i < 4 → (allRows (zs.take i)).length ≤ 8 := by decide
theorem menu_deep : ∀ zs ∈ menu, ∀ i, i < 4 → ∀ r ∈ allRows (zs.take i), r.length ≤ 3 := by decide
theorem rows_take {zs : List Int} {i : Nat} {z : Int} (h : zs[i]? = some z) : allRows (zs.take (i + 1)) = wide (allRows (zs.take i)) z := by
  unfold allRows
  rw [List.take_add_one, h, List.foldl_append]
  rfl
theorem more_len (z : Int) (r : List Int) : (more z r).length = z.toNat := by simp [more]
theorem more_at {z : Int} {r : List Int} {k : Nat} (h : k < z.toNat) : (more z r)[k]? = some (r ++ [(k : Int)]) := by
  unfold more
  rw [List.getElem?_map, List.getElem?_range h]
  rfl
theorem take_next {α : Type} {l : List α} {k : Nat} {x : α} (h : l[k]? = some x) : l.take (k + 1) = l.take k ++ [x] := by rw [List.take_add_one, h]; rfl
theorem flat_next {rows : List (List Int)} {j : Nat} {r : List Int} {z : Int} (h : rows[j]? = some r) : (rows.take (j + 1)).flatMap (more z) = (rows.take j).flatMap (more z) ++ more z r := by
  rw [take_next h, List.flatMap_append]
  simp
theorem ref_get {ts : List Addr} {i : Nat} {x : V} (h : (ts.map V.ref)[i]? = some x) : ∃ t, ts[i]? = some t ∧ x = .ref t := by
  rw [List.getElem?_map] at h
  cases e : ts[i]? with
  | none => rw [e] at h; cases h
  | some z => rw [e] at h; exact ⟨z, rfl, (Option.some.inj h).symm⟩
theorem RowsT.get {H : Hp} {ts : List Addr} {rows : List (List Int)} {i : Nat} {t : Addr} (h : RowsT H ts rows) (e : ts[i]? = some t) : ∃ r, rows[i]? = some r ∧ H t = some (.tup (r.map V.int)) := by
  have il : i < rows.length := h.1 ▸ (List.getElem?_eq_some_iff.mp e).1
  exact ⟨rows[i], List.getElem?_eq_getElem il, h.2 i t _ e (List.getElem?_eq_getElem il)⟩
theorem RowsT.nil {H : Hp} : RowsT H [] [] := ⟨rfl, fun i t r a => by simp at a⟩
/-- r + (k,) -/
theorem r_catInt {K : PySem.W.Frag} {H : Hp} {Q : VK} {t q : Addr} {r : List Int} {k : Int} (ht : H t = some (.tup (r.map V.int))) (hq : H q = some (.tup [.int k])) (hl : r.length ≤ 10)
    (h : ∀ p H', Same H H' → H' p = some (.tup ((r ++ [k]).map V.int)) → Q (.ref p) H') : rCatA K (.ref t) (.ref q) H Q := by
  refine ⟨t, q, r.map V.int, [.int k], rfl, rfl, SqT.of ht, SqT.of hq, ?_, fun e => ?_, fun _ e => (nomatch e), fun _ _ p hp => ?_⟩
  · rw [List.length_map, sizeLine_eq]
    show r.length + 1 ≤ 16777216
    omega
  · have e' : r = [] := by simpa using e
    subst e'
    exact h q H (Same.refl H) hq
  · refine h p _ (Same.upd_new hp) ?_
    rw [upd_same, List.map_append]
    rfl
/-- a list D that is made while all of G stands -/
theorem Same.over {G H : Hp} {D : Addr} {o : HO} (s : Same G H) (d : G D = none) : Same G (upd H D o) := fun b u e => by
  rw [upd_ne (ne_of_none e d)]
  exact s b u e
section
variable {P : Program} {w : World} {K : PySem.W.Frag} {mg : Str → Option Value} {base : Heap}
theorem ok_is_digits {f : Addr} {fd : FuncData} (F : Fun K "is_digits" "is_digits" s_is_digits f fd) : FnG P w K mg base CX0 1 f fd ["word"] spIsDigits := by
  refine okG F sc_is_digits (fun vs H Q E h => ?_) (fun cdv B up z H vs Q E hG hr h => ?_)
  · obtain ⟨a, rfl, _⟩ := h
    rfl
  · obtain ⟨a, rfl, h1, h2, k⟩ := h
    refine ⟨_, (pss_one (ps_ret (pe_and (pe_m0 PySem.F.slot_str_isascii PySem.F.type_str_isascii mt_isascii (pv 0)) (pe_one (pe_m0 PySem.F.slot_str_isdigit PySem.F.type_str_isdigit mt_isdigit (pv 0)))))), ?_⟩
    walk_at "r"
    refine ⟨⟨a, rfl⟩, a, rfl, rfl, trivial, ?_⟩
    rw [h1]
    walk_at "r"
    refine ⟨⟨a, rfl⟩, a, rfl, rfl, trivial, ?_⟩
    rw [h2]
    exact k
theorem ok_all_values {f : Addr} {fd : FuncData} (F : Fun K "all_values" "all_values" s_all_values f fd) (Z : Zs mg) : FnG P w K mg base CX0 1 f fd ["sizes"] spAllValues := by
  refine okG F sc_all_values (fun vs H Q E h => ?_) (fun cdv B up z H vs Q E hG hr h => ?_)
  · obtain ⟨a, zs, rfl, _⟩ := h
    rfl
  · obtain ⟨a, zs, rfl, hz, ha, k⟩ := h
    obtain ⟨l1, l3⟩ := menu_len zs hz
    have lz : (zs.map V.int).length = zs.length := List.length_map ..
    refine ⟨_, (pss_cons (ps_set (i := 1) sc_all_values.nd rfl (by first | exact Or.inl rfl | exact Or.inr rfl) (pe_lst (pa_cons (pe_tup pa_nil) pa_nil)))
  (pss_cons (ps_for PassesOwn.never rfl (pi_tup (pv 0)) (pg_name (i := 2) sc_all_values.nd rfl (by first | exact Or.inl rfl | exact Or.inr rfl))
  (pss_one (ps_setLc2 (i := 1) (own := [("values", 3), ("value", 4)]) (vs1 := [4]) (tt := tYes) (tt1 := tYes) rfl sc_all_values.nd rfl rfl (sw_true rfl rfl rfl (by decide +kernel)) (pi_list (pv 1)) (blkOk_by (N := ["sizes", "stores", "size", "values", "value"]) (sc := defScope s_all_values) (by decide +kernel)) (by decide) (fun _ _ _ _ _ => (pg_name (i := 3) sc_all_values.nd rfl (by first | exact Or.inl rfl | exact Or.inr rfl))) (fun _ _ _ _ _ => pts_nil) (fun _ _ _ _ _ => (pi_range1 (by rfl) Z.range_ (pa_cons (pv 2) pa_nil))) (fun _ _ _ _ _ => (pg_name (i := 4) sc_all_values.nd rfl (by first | exact Or.inl rfl | exact Or.inr rfl))) (fun _ _ _ _ _ => pts_nil) (fun _ _ _ _ _ => (pe_op (show OpR _ _ (rCatA K) from op_catA) (pv 3) (pe_tup (pa_cons (pv 4) pa_nil)))))))
  (pss_one (ps_ret (pe_callTy (show CallR _ _ (rTupleB K) from call_tupleB) (by rfl) Z.tuple_ (by decide +kernel) (pa_cons (pv 1) pa_nil)))))), ?_⟩
    walk_at "r"
    refine ⟨Nat.zero_le _, fun t ht => ?_⟩
    walk_at "r"
    refine ⟨by show 1 ≤ sizeLine; decide, fun l hl => ?_⟩
    have s0 : Same H (upd (upd H t (.tup [])) l (.lst [.ref t])) := (Same.upd_new ht).trans (Same.upd_new hl)
    have tl : t ≠ l := fun e => by rw [← e, upd_same] at hl; cases hl
    have r0 : RowsT (upd (upd H t (.tup [])) l (.lst [.ref t])) [t] [[]] := by
      have := RowsT.push (H := upd (upd H t (.tup [])) l (.lst [.ref t])) (t := t) (r := []) RowsT.nil (by rw [upd_ne tl]; exact upd_same)
      exact this
    walk_at "r"
    refine ⟨_, rfl, a, rfl, ⟨_, SqT.of (s0 _ _ ha)⟩, for_tup (K := K) (a := a) (xs := zs.map V.int) (fun i τ G => Same H G ∧ ∃ (m : Addr) (ts : List Addr) (v2 : Option V), τ = [some (.ref a), some (.ref m), v2, none, none] ∧ H m = none ∧ G m = some (.lst (ts.map V.ref)) ∧ RowsT G ts (allRows (zs.take i)))
      ⟨s0, l, [t], none, rfl, (Same.upd_new ht).free hl, upd_same, r0⟩ (fun i τ G _ p => SqT.of (p.1 _ _ ha)) ?_ ?_⟩
    · rintro i x τ G hx ⟨sG, m, ts, v2, rfl, hm, gm, rt⟩
      obtain ⟨y, hy, rfl⟩ := map_get hx
      have il : i < zs.length := (List.getElem?_eq_some_iff.mp hy).1
      obtain ⟨y1, y2⟩ := menu_mem zs hz y (List.mem_of_getElem? hy)
      have yd : zs.getD i 0 = y := by rw [List.getD_eq_getElem?_getD, hy]; rfl
      generalize hrows : allRows (zs.take i) = rows at rt
      have r8 : rows.length ≤ 8 := hrows ▸ menu_rows8 zs hz i (by omega)
      walk_at "r"
      refine ⟨_, rfl, m, rfl, ⟨_, SqL.of gm⟩, fun D hD => ?_⟩
      refine it_list (xs := ts.map V.ref) (fun j G2 => Same G G2 ∧ ∃ us : List Addr, G2 D = some (.lst (us.map V.ref)) ∧ RowsT G2 us ((rows.take j).flatMap (more y)))
        ⟨Same.upd_new hD, [], upd_same, by simpa using RowsT.nil⟩ (fun j G2 _ p => SqL.of (p.1 _ _ gm)) (fun j x G2 hx p => ?_) (fun G2 p => ?_)
      · obtain ⟨s2, us, d2, ru⟩ := p
        obtain ⟨u, hu, rfl⟩ := ref_get hx
        obtain ⟨r, hr', gu⟩ := rt.get hu
        have jl : j < rows.length := (List.getElem?_eq_some_iff.mp hr').1
        have rl : r.length ≤ 3 := menu_deep zs hz i (by omega) r (hrows ▸ List.mem_of_getElem? hr')
        refine r_gname ⟨rfl, ?_⟩
        walk_at "r"
        refine ⟨y, rfl, by omega, by omega, ?_⟩
        refine it_range (fun k G3 => Same G G3 ∧ ∃ us : List Addr, G3 D = some (.lst (us.map V.ref)) ∧ RowsT G3 us ((rows.take j).flatMap (more y) ++ (more y r).take k))
          ⟨s2, us, d2, by simpa using ru⟩ (fun k G3 hk p3 => ?_) (fun G3 p3 => ?_)
        · obtain ⟨s3, us3, d3, ru3⟩ := p3
          refine r_gname ⟨rfl, ?_⟩
          walk_at "r"
          refine ⟨by show 1 ≤ sizeLine; decide, fun q hq => ?_⟩
          have s4 : Same G3 (upd G3 q (.tup [.int (0 + (k : Int))])) := Same.upd_new hq
          refine r_catInt (s4 _ _ (s3 _ _ gu)) upd_same (by omega) fun p4 G4 s5 g4 => ?_
          have s6 := s4.trans s5
          have d4 := s6 _ _ d3
          have len : us3.length ≤ 72 := by
            rw [ru3.1, List.length_append, List.length_take]
            have h1 := menu_rows zs hz i (by omega) j (by omega)
            rw [hrows, yd] at h1
            omega
          refine ⟨us3.map V.ref, d4, by rw [List.length_map, sizeLine_eq]; omega, Same.over (s3.trans s6) hD, us3 ++ [p4], by rw [upd_same, List.map_append]; rfl, ?_⟩
          rw [take_next (more_at (z := y) (r := r) hk), ← List.append_assoc]
          have g4' : (upd G4 D (.lst (us3.map V.ref ++ [V.ref p4]))) p4 = some (.tup ((r ++ [(k : Int)]).map V.int)) := by
            have ne : p4 ≠ D := ne_of g4 d4 (by intro e; cases e)
            rw [upd_ne ne, g4]
            simp
          refine RowsT.push ⟨ru3.1, fun i' t' r' a' b' => ?_⟩ g4'
          have e1 := ru3.2 i' t' r' a' b'
          have ne : t' ≠ D := ne_of e1 d3 (by intro e; cases e)
          rw [upd_ne ne]
          exact s6 _ _ e1
        · obtain ⟨s3, us3, d3, ru3⟩ := p3
          refine ⟨s3, us3, d3, ?_⟩
          rw [flat_next hr', show (more y r) = (more y r).take y.toNat from by rw [List.take_of_length_le]; rw [more_len]; exact Nat.le_refl _]
          exact ru3
      · obtain ⟨s2, us, d2, ru⟩ := p
        refine ⟨sG.trans s2, D, us, _, rfl, sG.free hD, d2, ?_⟩
        rw [rows_take hy, hrows]
        have e : (rows.take (ts.map V.ref).length) = rows := by rw [List.length_map, rt.1, List.take_length]
        rw [e] at ru
        exact ru
    · rintro τ G ⟨sG, m, ts, v2, rfl, hm, gm, rt⟩
      rw [lz, List.take_length] at rt
      walk_at "r"
      refine ⟨_, _, rfl, SqL.of gm, fun q o hq ho => ?_⟩
      exact k _ q ts (sG.trans (Same.upd_new hq)) (sG.free hq) ⟨o, upd_same, ho⟩ (rt.same (Same.upd_new hq))
end
end Eld
set_option Elab.async false
set_option maxRecDepth 100000
set_option maxHeartbeats 4000000
set_option linter.all false
namespace Eld
open PySem L2
local macro_rules | `(tactic| walk_at "r1") => `(tactic| with_reducible first
  | refine r_seq ?_ | refine r_asgN ?_ | refine r_asg ?_ | refine r_gname ?_ | refine r_gsub ?_ | refine r_var rfl ?_ | refine r_c ?_ | refine r_op ?_ | refine r_un ?_ | refine r_u ?_ | refine r_i0 ?_ | refine r_cb ?_ | refine r_cons ?_ | refine r_nil ?_ | refine r_cl ?_ | refine r_fn rfl rfl ?_ | refine r_mt ?_
  | refine r_test ?_ | refine r_tb ?_ | refine r_bl ?_ | refine r_and ?_ | refine r_or ?_ | refine r_not ?_ | refine r_andV ?_ | refine r_orV ?_ | refine r_notV ?_ | refine r_ifX ?_ | refine r_ifs ?_ | refine r_chain ?_ | refine r_ret ?_ | refine r_next ?_ | refine r_drop ?_ | refine iteT ?_ | refine iteF ?_ | refine iteNT ?_ | refine iteNF ?_
  | refine r_int1 ?_ | refine r_boolB ?_ | refine r_eqI ?_ | refine r_neI ?_ | refine r_eqB ?_ | refine r_neB ?_ | refine r_eqS ?_ | refine r_neS ?_ | refine r_abs ?_ | refine r_max2 ?_ | refine r_min2 ?_ | refine r_yes ?_ | refine r_tup ?_ | refine r_sfld ?_ | refine r_m0 ?_ | refine r_m1 ?_ | refine r_lst ?_ | refine r_rng1 ?_ | refine r_rng2 ?_ | refine r_ixL (SqL.of (by assumption)) rfl ?_)
local macro_rules | `(tactic| walk_at "r") => `(tactic| repeat (first | walk_at "r1" | ((with_reducible refine r_var ?hv ?_); (case hv => rfl))))

/-! ## a space -/
def spF (tz q : Addr) (n : Int) : List (Str × V) := [("sizes", .ref tz), ("_stores", .ref q), ("never", .int n)]
theorem ne1 : ¬ (("sizes" : Str) = "_stores") := by decide +kernel
theorem ne2 : ¬ (("sizes" : Str) = "never") := by decide +kernel
theorem ne3 : ¬ (("_stores" : Str) = "never") := by decide +kernel
theorem look_cons {x k : Str} {v : V} {r : List (Str × V)} : List.lookup x ((k, v) :: r) = if x = k then some v else List.lookup x r := by
  by_cases h : x = k
  · rw [if_pos h]
    simp [List.lookup, h]
  · rw [if_neg h]
    have : (x == k) = false := by simpa using h
    simp [List.lookup, this]
theorem spF_sizes (tz q : Addr) (n : Int) : (spF tz q n).lookup ("sizes" : Str) = some (.ref tz) := by unfold spF; rw [look_cons, if_pos rfl]
theorem spF_stores (tz q : Addr) (n : Int) : (spF tz q n).lookup ("_stores" : Str) = some (.ref q) := by unfold spF; rw [look_cons, if_neg (Ne.symm ne1), look_cons, if_pos rfl]
theorem spF_never (tz q : Addr) (n : Int) : (spF tz q n).lookup ("never" : Str) = some (.int n) := by unfold spF; rw [look_cons, if_neg (Ne.symm ne2), look_cons, if_neg (Ne.symm ne3), look_cons, if_pos rfl]
theorem spF_no (tz q : Addr) (n : Int) {m : Str} (h1 : ¬ m = "sizes") (h2 : ¬ m = "_stores") (h3 : ¬ m = "never") : (spF tz q n).lookup m = none := by unfold spF; rw [look_cons, if_neg h1, look_cons, if_neg h2, look_cons, if_neg h3]; rfl
theorem put1 (tz : Addr) : putF "sizes" (V.ref tz) [] = ([(("sizes" : Str), V.ref tz)] : List (Str × V)) := rfl
theorem put2 (tz q : Addr) : putF "_stores" (V.ref q) [(("sizes" : Str), V.ref tz)] = ([(("sizes" : Str), V.ref tz), (("_stores" : Str), V.ref q)] : List (Str × V)) := by
  show (if ("sizes" : Str) = "_stores" then [(("sizes" : Str), V.ref q)] else (("sizes" : Str), V.ref tz) :: putF "_stores" (V.ref q) []) = ([(("sizes" : Str), V.ref tz), (("_stores" : Str), V.ref q)] : List (Str × V))
  rw [if_neg ne1]
  rfl
theorem put3 (tz q : Addr) (n : Int) : putF "never" (V.int n) [(("sizes" : Str), V.ref tz), ("_stores", V.ref q)] = spF tz q n := by
  show (if ("sizes" : Str) = "never" then [(("sizes" : Str), V.int n), (("_stores" : Str), V.ref q)] else (("sizes" : Str), V.ref tz) :: (if ("_stores" : Str) = "never" then [(("_stores" : Str), V.int n)] else (("_stores" : Str), V.ref q) :: putF "never" (V.int n) [])) = spF tz q n
  rw [if_neg ne2, if_neg ne3]
  rfl
theorem BareT.to {H H' : Hp} {a : Addr} {ys : List V} (h : BareT H a ys) (f : ∀ o, H a = some o → H' a = some o) : BareT H' a ys := by
  obtain ⟨o, e, d⟩ := h
  exact ⟨o, f _ e, d⟩
theorem BareT.same {H H' : Hp} {a : Addr} {ys : List V} (h : BareT H a ys) (s : Same H H') : BareT H' a ys := h.to fun o e => s _ _ e
theorem BareT.ne {H : Hp} {a b : Addr} {ys : List V} {o : HO} (h : BareT H a ys) (e : H b = some o) (d : ∀ ob u, o ≠ .frz ob u) : a ≠ b := by
  obtain ⟨ob, e', _⟩ := h
  exact ne_of e' e fun z => d _ _ z.symm
/-- a Space with the sizes zs stands at p -/
def SpaceAt (C : Addr) (H : Hp) (p : Addr) (zs : List Int) : Prop := ∃ (dx tz q : Addr) (ts : List Addr), H p = some (.ins C dx (spF tz q ((allRows zs).length : Nat))) ∧ H tz = some (.tup (zs.map V.int)) ∧ BareT H q (ts.map V.ref) ∧ RowsT H ts (allRows zs)
theorem SpaceAt.same {C : Addr} {H H' : Hp} {p : Addr} {zs : List Int} (h : SpaceAt C H p zs) (s : Same H H') : SpaceAt C H' p zs := by
  obtain ⟨dx, tz, q, ts, h1, h2, h3, h4⟩ := h
  exact ⟨dx, tz, q, ts, s _ _ h1, s _ _ h2, h3.same s, h4.same s⟩
/-- what the top has written of the class -/
structure Sc (K : PySem.W.Frag) (mg : Str → Option Value) (C : Addr) : Prop where
  cl : Cls K C
  nS : NoAttr K C "sizes"
  nT : NoAttr K C "_stores"
  nN : NoAttr K C "never"
  cSpace : mg "Space" = some (.ref C)
  ha : PySem.W.findIn K (.ref C) "__class__" = some (some (.builtin "object.__class__"))
  hn : PySem.W.specialIn K (.builtin "object.__class__") "__get__" = some (some (.builtin "getset_descriptor.__get__"))
  ht : PySem.W.takesIn K (.builtin "object.__class__") = some true
  hm : PySem.W.mroIn K C (.type "object") = some true
  kC : PySem.W.kitOne K (.ref C) (.ref C) = some true
  kN : PySem.W.kitOne K (.type "NoneType") (.ref C) = some false
  kL : PySem.W.kitOne K (.type "list") (.ref C) = some false
  kT : PySem.W.kitOne K (.type "tuple") (.ref C) = some false
  kS : PySem.W.kitOne K (.type "str") (.ref C) = some false
  kI : PySem.W.kitOne K (.type "int") (.ref C) = some false
  kB : PySem.W.kitOne K (.type "bool") (.ref C) = some false
theorem Sc.ty {K : PySem.W.Frag} {mg : Str → Option Value} {C dx : Addr} {H : Hp} {p : Addr} {fs : List (Str × V)} (S : Sc K mg C) (e : H p = some (.ins C dx fs)) : TyX K H (.ref p) (.ref C) := .base (.ins e S.cl S.ha S.hn S.ht S.hm)
theorem r_tupleAny {K : PySem.W.Frag} {H : Hp} {Q : VK} {a : Addr} {ys : List V} (ha : H a = some (.lst ys) ∨ H a = some (.tup ys)) (h : ∀ l H', Same H H' → H' l = some (.tup ys) → Q (.ref l) H') : rTupleOf K [.ref a] H Q := by
  rcases ha with e | e
  · exact r_tupleL (SqL.of e) fun l hl => h l _ (Same.upd_new hl) upd_same
  · exact r_tupleT (SqT.of e) (h a H (Same.refl H) e)
theorem r_lenAny {K : PySem.W.Frag} {H : Hp} {Q : VK} {a : Addr} {ys : List V} (ha : H a = some (.lst ys) ∨ H a = some (.tup ys)) (h : Q (.int (ys.length : Nat)) H) : rLen K [.ref a] H Q := by
  rcases ha with e | e
  · exact r_lenL (SqL.of e) h
  · exact r_lenT (SqT.of e) h
theorem same_any {H H' : Hp} {a : Addr} {ys : List V} (s : Same H H') (ha : H a = some (.lst ys) ∨ H a = some (.tup ys)) : H' a = some (.lst ys) ∨ H' a = some (.tup ys) := ha.imp (s _ _) (s _ _)
/-- o.f of an instance that is told -/
theorem r_fldI {K : PySem.W.Frag} {σ : L2.St} {H : Hp} {Q : VK} {ta : TE} {f : Str} (h : ta σ H fun x H1 => ∃ a C dx fs v, x = .ref a ∧ H1 a = some (.ins C dx fs) ∧ Cls K C ∧ NoAttr K C f ∧ fs.lookup f = some v ∧ Q v H1) : tFld K ta f σ H Q := h
def numStr (i : Int) : Str := (toString i : String)
def lineOf (zs : List Int) : Str := Txt.join (" " : Str) (zs.map numStr)
/-! ## the promises -/
def spInit (C : Addr) : Sp := fun vs H Q _ => ∃ p a dx zs, vs = [.ref p, .ref a] ∧ H p = some (.ins C dx []) ∧ zs ∈ menu ∧ (H a = some (.lst (zs.map V.int)) ∨ H a = some (.tup (zs.map V.int))) ∧ ∀ H', (∀ b o, b ≠ p → H b = some o → H' b = some o) → SpaceAt C H' p zs → Q .non H'
def spLen (C : Addr) : Sp := fun vs H Q _ => ∃ p zs, vs = [.ref p] ∧ SpaceAt C H p zs ∧ Q (.int ((allRows zs).length : Nat)) H
def spAt (C : Addr) : Sp := fun vs H Q _ => ∃ (p : Addr) (zs : List Int) (i : Nat) (r : List Int), vs = [.ref p, .int (i : Nat)] ∧ SpaceAt C H p zs ∧ (allRows zs)[i]? = some r ∧ ∀ t, H t = some (.tup (r.map V.int)) → Q (.ref t) H
def spLine (C : Addr) : Sp := fun vs H Q _ => ∃ p zs, vs = [.ref p] ∧ zs ∈ menu ∧ SpaceAt C H p zs ∧ ∀ H', Same H H' → Q (.str (lineOf zs)) H'
def spEqS (C : Addr) (K : PySem.W.Frag) : Sp := fun vs H Q _ => ∃ p zs, SpaceAt C H p zs ∧ zs ∈ menu ∧ ((∃ p' zs', vs = [.ref p, .ref p'] ∧ zs' ∈ menu ∧ SpaceAt C H p' zs' ∧ Q (.bl (decide (zs = zs'))) H) ∨ (∃ y t, vs = [.ref p, y] ∧ TyX K H y t ∧ PySem.W.kitOne K t (.ref C) = some false ∧ Q (.bl false) H))
theorem ints_dp {K : PySem.W.Frag} {H : Hp} : ∀ zs : List Int, DpAll K H (zs.map V.int) (zs.map PyData.int)
  | [] => .nil
  | z :: zs => .cons (.int z) (ints_dp zs)
def tupD (r : List Int) : PyData := .tuple (r.map PyData.int)
theorem tup_dp {K : PySem.W.Frag} {H : Hp} {t : Addr} {r : List Int} (h : H t = some (.tup (r.map V.int))) : Dp K H (.ref t) (tupD r) := .tup (SqT.of h) (ints_dp r)
theorem lst_dp {K : PySem.W.Frag} {H : Hp} {t : Addr} {r : List Int} (h : H t = some (.lst (r.map V.int))) : Dp K H (.ref t) (.list (r.map PyData.int)) := .lst (SqL.of h) (ints_dp r)
theorem ints_eqv : ∀ a b : List Int, PyData.eqvAll (a.map PyData.int) (b.map PyData.int) = decide (a = b)
  | [], [] => by simp [PyData.eqvAll]
  | [], b :: bs => by simp [PyData.eqvAll]
  | a :: as, [] => by simp [PyData.eqvAll]
  | a :: as, b :: bs => by
    have ih := ints_eqv as bs
    simp only [List.map_cons, PyData.eqvAll, PyData.eqv, ih]
    by_cases h : a = b
    · subst h
      simp
    · simp [h]
theorem tup_eqv (a b : List Int) : PyData.eqv (tupD a) (tupD b) = decide (a = b) := by
  simp only [tupD, PyData.eqv]
  exact ints_eqv a b
theorem lst_eqv (a b : List Int) : PyData.eqv (.list (a.map PyData.int)) (.list (b.map PyData.int)) = decide (a = b) := by
  simp only [PyData.eqv]
  exact ints_eqv a b
theorem ints_lay : ∀ a : List Int, PyData.canLayAll0 (a.map PyData.int) = true
  | [] => by simp [PyData.canLayAll0]
  | a :: as => by simp [PyData.canLayAll0, PyData.canLay0, ints_lay as]
theorem ints_depth : ∀ a : List Int, PyData.depthAll (a.map PyData.int) = 0
  | [] => by simp [PyData.depthAll]
  | a :: as => by simp [PyData.depthAll, PyData.depth, ints_depth as]
theorem tup_shaped (a : List Int) : SeqAt.shaped (tupD a) = true := by
  simp [SeqAt.shaped, tupD, PyData.canLay0, PyData.depth, ints_lay, ints_depth]
theorem lst_shaped (a : List Int) : SeqAt.shaped (.list (a.map PyData.int)) = true := by
  simp [SeqAt.shaped, PyData.canLay0, PyData.depth, ints_lay, ints_depth]
theorem num_small : ∀ z : Int, 2 ≤ z → z ≤ 8 → z.natAbs.log2 < 1920 := by
  intro z h1 h2
  have : z.natAbs ≤ 8 := by omega
  calc z.natAbs.log2 ≤ z.natAbs := by
        rcases Nat.eq_zero_or_pos z.natAbs with h | h
        · rw [h]; decide
        · exact Nat.le_of_lt (Nat.lt_of_lt_of_le (Nat.log2_lt (Nat.ne_of_gt h) |>.mpr (Nat.lt_two_pow_self)) (Nat.le_refl _))
    _ < 1920 := by omega
theorem menu_line : ∀ zs ∈ menu, ((zs.map numStr).map (·.length)).sum + (zs.map numStr).length * (" " : Str).length ≤ 16777216 := by decide +kernel
section
variable {P : Program} {w : World} {K : PySem.W.Frag} {mg : Str → Option Value} {base : Heap} {C : Addr}
theorem ok_init {f : Addr} {fd : FuncData} (F : Fun K "__init__" "Space.__init__" s_Space___init__ f fd) (Z : Zs mg) (S : Sc K mg C) (d_is_sizes : DefD P w K mg base 3 "is_sizes" 1 [] byPlace spIsSizes) (d_all_values : DefD P w K mg base 1 "all_values" 1 [] byPlace spAllValues) :
    FnG P w K mg base CX0 4 f fd ["self", "sizes"] (spInit C) := by
  refine okG F sc_Space___init__ (fun vs H Q E h => ?_) (fun cdv B up z H vs Q E hG hr h => ?_)
  · obtain ⟨p, a, dx, zs, rfl, _⟩ := h
    rfl
  · obtain ⟨p, a, dx, zs, rfl, hp, hz, ha, k⟩ := h
    refine ⟨_, (pss_cons (ps_if (pt_not (pt_val (pd_pos d_is_sizes hG hr (by decide) (by rfl) (pa_cons (pv 1) pa_nil)))) (pss_one ps_never) pss_nil)
  (pss_cons (ps_fld (pv 0) (pe_callTy (show CallR _ _ (rTupleOf K) from c_tuple) (by rfl) Z.tuple_ (by decide +kernel) (pa_cons (pv 1) pa_nil)) rfl)
  (pss_cons (ps_fld (pv 0) (pd_pos d_all_values hG hr (by decide) (by rfl) (pa_cons (pe_fld (pv 0) rfl) pa_nil)) rfl)
  (pss_one (ps_fld (pv 0) (pe_callB (show CallR _ _ (rLen K) from c_len) (by rfl) Z.len_ (by decide +kernel) (pa_cons (pe_fld (pv 0) rfl) pa_nil)) rfl))))), ?_⟩
    walk_at "r"
    refine ⟨a, zs, rfl, hz, ha, fun H1 s1 => ?_⟩
    walk_at "r"
    refine r_tupleAny (same_any s1 ha) fun tz H2 s2 h2 => ?_
    have p2 : H2 p = some (.ins C dx []) := s2 _ _ (s1 _ _ hp)
    refine ⟨_, rfl, p, C, dx, [], rfl, p2, S.cl, S.nS, by show 0 < 1000; decide, ?_⟩
    rw [put1]
    have np : tz ≠ p := ne_of h2 p2 (by intro e; cases e)
    have h3 : (upd H2 p (.ins C dx [("sizes", V.ref tz)])) tz = some (.tup (zs.map V.int)) := by rw [upd_ne np]; exact h2
    have p3 : (upd H2 p (.ins C dx [("sizes", V.ref tz)])) p = some (.ins C dx [("sizes", V.ref tz)]) := upd_same
    generalize e3 : upd H2 p (.ins C dx [("sizes", V.ref tz)]) = H3 at h3 p3
    have s3 : ∀ b o, b ≠ p → H2 b = some o → H3 b = some o := fun b o nb e => by rw [← e3, upd_ne nb]; exact e
    walk_at "r"
    refine ⟨_, rfl, p, C, dx, _, _, rfl, p3, S.cl, S.nS, by rw [look_cons, if_pos rfl], ?_⟩
    walk_at "r"
    refine ⟨tz, zs, rfl, hz, h3, fun H4 q ts s4 q0 hq rt => ?_⟩
    refine ⟨_, rfl, p, C, dx, _, rfl, s4 _ _ p3, S.cl, S.nT, by show 1 < 1000; decide, ?_⟩
    rw [put2]
    have nq : q ≠ p := hq.ne (s4 _ _ p3) (by intro _ _ e; cases e)
    have p5 : (upd H4 p (.ins C dx [("sizes", V.ref tz), ("_stores", V.ref q)])) p = some (.ins C dx [("sizes", V.ref tz), ("_stores", V.ref q)]) := upd_same
    generalize e5 : upd H4 p (.ins C dx [("sizes", V.ref tz), ("_stores", V.ref q)]) = H5 at p5
    have s5 : ∀ b o, b ≠ p → H4 b = some o → H5 b = some o := fun b o nb e => by rw [← e5, upd_ne nb]; exact e
    walk_at "r"
    refine ⟨_, rfl, p, C, dx, _, _, rfl, p5, S.cl, S.nT, by rw [look_cons, if_neg (Ne.symm ne1), look_cons, if_pos rfl], ?_⟩
    walk_at "r"
    refine r_lenT (hq.to fun o e => s5 _ _ nq e).sq ?_
    refine ⟨_, rfl, p, C, dx, _, rfl, p5, S.cl, S.nN, by show 2 < 1000; decide, ?_⟩
    rw [put3, List.length_map, rt.1]
    refine k _ (fun b o nb e => ?_) ⟨dx, tz, q, ts, upd_same, ?_, ?_, rt.1, fun i t r a' b' => ?_⟩
    · rw [upd_ne nb]
      exact s5 _ _ nb (s4 _ _ (s3 _ _ nb (s2 _ _ (s1 _ _ e))))
    · rw [upd_ne np]
      exact s5 _ _ np (s4 _ _ h3)
    · exact hq.to fun o e => by
        rw [upd_ne nq]
        exact s5 _ _ nq e
    · have e1 := rt.2 i t r a' b'
      have nt : t ≠ p := ne_of e1 (s4 _ _ p3) (by intro e; cases e)
      rw [upd_ne nt]
      exact s5 _ _ nt e1
theorem ok_len {f : Addr} {fd : FuncData} (F : Fun K "__len__" "Space.__len__" s_Space___len__ f fd) (Z : Zs mg) (S : Sc K mg C) : FnG P w K mg base CX0 1 f fd ["self"] (spLen C) := by
  refine okG F sc_Space___len__ (fun vs H Q E h => ?_) (fun cdv B up z H vs Q E hG hr h => ?_)
  · obtain ⟨p, zs, rfl, _⟩ := h
    rfl
  · obtain ⟨p, zs, rfl, ⟨dx, tz, q, ts, h1, h2, h3, rt⟩, k⟩ := h
    refine ⟨_, (pss_one (ps_ret (pe_callB (show CallR _ _ (rLen K) from c_len) (by rfl) Z.len_ (by decide +kernel) (pa_cons (pe_fld (pv 0) rfl) pa_nil)))), ?_⟩
    walk_at "r"
    refine ⟨_, rfl, p, C, dx, _, _, rfl, h1, S.cl, S.nT, spF_stores _ _ _, ?_⟩
    walk_at "r"
    refine r_lenT h3.sq ?_
    rw [List.length_map, rt.1]
    exact k
theorem ok_at {f : Addr} {fd : FuncData} (F : Fun K "at" "Space.at" s_Space_at f fd) (S : Sc K mg C) (d_is_index : DefD P w K mg base 2 "is_index" 2 [] byPlace spIsIndex) : FnG P w K mg base CX0 3 f fd ["self", "store"] (spAt C) := by
  refine okG F sc_Space_at (fun vs H Q E h => ?_) (fun cdv B up z H vs Q E hG hr h => ?_)
  · obtain ⟨p, zs, i, r, rfl, _⟩ := h
    rfl
  · obtain ⟨p, zs, i, r, rfl, ⟨dx, tz, q, ts, h1, h2, h3, rt⟩, hi, k⟩ := h
    have il : i < (allRows zs).length := (List.getElem?_eq_some_iff.mp hi).1
    have it : i < ts.length := rt.1 ▸ il
    refine ⟨_, (pss_cons (ps_if (pt_not (pt_val (pd_pos d_is_index hG hr (by decide) (by rfl) (pa_cons (pv 1) (pa_cons (pe_fld (pv 0) rfl) pa_nil))))) (pss_one ps_never) pss_nil)
  (pss_one (ps_ret (pe_ix (show IxR _ (rIxT K) from ix_tup) (pe_fld (pv 0) rfl) (pv 1) (fun _ _ => rfl))))), ?_⟩
    walk_at "r"
    refine ⟨_, rfl, p, C, dx, _, _, rfl, h1, S.cl, S.nN, spF_never _ _ _, ?_⟩
    walk_at "r"
    refine ⟨_, _, rfl, by omega, by omega, ?_⟩
    walk_at "r"
    refine ⟨_, rfl, p, C, dx, _, _, rfl, h1, S.cl, S.nT, spF_stores _ _ _, ?_⟩
    walk_at "r"
    have hti : ts[i]? = some ts[i] := List.getElem?_eq_getElem it
    refine r_ixT h3.sq (atI_nat (by rw [List.getElem?_map, hti]; rfl)) ?_
    exact k _ (rt.2 i _ r hti hi)
theorem ok_line {f : Addr} {fd : FuncData} (F : Fun K "line" "Space.line" s_Space_line f fd) (Z : Zs mg) (S : Sc K mg C) : FnG P w K mg base CX0 1 f fd ["self"] (spLine C) := by
  refine okG F sc_Space_line (fun vs H Q E h => ?_) (fun cdv B up z H vs Q E hG hr h => ?_)
  · obtain ⟨p, zs, rfl, _⟩ := h
    rfl
  · obtain ⟨p, zs, rfl, hz, ⟨dx, tz, q, ts, h1, h2, h3, rt⟩, k⟩ := h
    refine ⟨_, (pss_one (ps_ret (pe_join pe_str (pe_lc (own := [("size", 1)]) (tt := tYes) rfl sc_Space_line.nd (pi_tup (pe_fld (pv 0) rfl)) (blkOk_by (N := ["self", "size"]) (sc := defScope s_Space_line) (by decide +kernel)) (fun _ _ _ _ _ => (pg_name (i := 1) sc_Space_line.nd rfl (by first | exact Or.inl rfl | exact Or.inr rfl))) (fun _ _ _ _ _ => pts_nil) (fun _ _ _ _ _ => (pe_callTy c_str (by rfl) Z.str_ (by decide +kernel) (pa_cons (pv 1) pa_nil))))))), ?_⟩
    walk_at "r"
    refine ⟨⟨_, rfl⟩, ?_⟩
    refine ⟨_, rfl, p, C, dx, _, _, rfl, h1, S.cl, S.nS, spF_sizes _ _ _, tz, rfl, ⟨_, SqT.of h2⟩, fun D hD => ?_⟩
    refine it_tup (xs := zs.map V.int) (fun i H2 => Same H H2 ∧ H2 D = some (.lst ((zs.take i).map fun z => V.str (numStr z)))) ⟨Same.upd_new hD, upd_same⟩ (fun i H2 _ s => SqT.of (s.1 _ _ h2)) (fun i x H2 hx s => ?_) (fun H2 s => ?_)
    · obtain ⟨y, hy, rfl⟩ := map_get hx
      obtain ⟨y1, y2⟩ := menu_mem zs hz y (List.mem_of_getElem? hy)
      obtain ⟨l1, l3⟩ := menu_len zs hz
      refine r_gname ⟨rfl, ?_⟩
      walk_at "r"
      refine r_strI (num_small y y1 y2) ?_
      refine ⟨_, s.2, by rw [List.length_map, List.length_take, sizeLine_eq]; omega, Same.over s.1 hD, ?_⟩
      rw [upd_same, take_next hy, List.map_append]
      rfl
    · obtain ⟨s1, s2⟩ := s
      have e : (zs.take (zs.map V.int).length).map (fun z => V.str (numStr z)) = (zs.map numStr).map V.str := by
        rw [List.length_map, List.take_length, List.map_map]
        rfl
      rw [e] at s2
      exact ⟨_, D, zs.map numStr, rfl, rfl, .inl (SqL.of s2), menu_line zs hz, k H2 s1⟩
theorem ok_eq {f : Addr} {fd : FuncData} (F : Fun K "__eq__" "Space.__eq__" s_Space___eq__ f fd) (Z : Zs mg) (S : Sc K mg C) : FnG P w K mg base CX0 1 f fd ["self", "other"] (spEqS C K) := by
  refine okG F sc_Space___eq__ (fun vs H Q E h => ?_) (fun cdv B up z H vs Q E hG hr h => ?_)
  · obtain ⟨p, zs, _, _, ⟨_, _, rfl, _⟩ | ⟨_, _, rfl, _⟩⟩ := h <;> rfl
  · have hu : (B.deeper (PyProof.Rows.envOfC "Space.__eq__" (defScope s_Space___eq__) z.heap.objs.size f cdv)).units + 64 < cLine := hr.units
    obtain ⟨p, zs, ⟨dx, tz, q, ts, h1, h2, h3, rt⟩, hz, ⟨p', zs', rfl, hz', ⟨dx', tz', q', ts', h1', h2', h3', rt'⟩, k⟩ | ⟨y, t, rfl, ty, kt, k⟩⟩ := h
    · refine ⟨_, (pss_one (ps_ret (pe_and (pe_callB call_isi (by rfl) Z.isinstance_ (by decide +kernel) (pa_cons (pv 1) (pa_cons (pe_cls (by rfl) S.cSpace) pa_nil))) (pe_one (pe_cmpR (show OpR _ _ (rEqD K) from op_eqD hu) (pe_fld (pv 0) rfl) (pe_fld (pv 1) rfl) (nomark _)))))), ?_⟩
      walk_at "r"
      refine r_isiO (S.ty h1') S.kC ?_
      walk_at "r"
      refine ⟨_, rfl, p, C, dx, _, _, rfl, h1, S.cl, S.nS, spF_sizes _ _ _, ?_⟩
      refine ⟨_, rfl, p', C, dx', _, _, rfl, h1', S.cl, S.nS, spF_sizes _ _ _, ?_⟩
      refine ⟨tupD zs, tupD zs', tup_dp h2, tup_dp h2', tup_shaped _, tup_shaped _, ?_⟩
      rw [tup_eqv]
      exact k
    · refine ⟨_, (pss_one (ps_ret (pe_and (pe_callB call_isi (by rfl) Z.isinstance_ (by decide +kernel) (pa_cons (pv 1) (pa_cons (pe_cls (by rfl) S.cSpace) pa_nil))) (pe_one (pe_cmpR (show OpR _ _ (rEqD K) from op_eqD hu) (pe_fld (pv 0) rfl) (pe_fld (pv 1) rfl) (nomark _)))))), ?_⟩
      walk_at "r"
      refine r_isiO ty kt ?_
      walk_at "r"
      exact k
end
end Eld
set_option Elab.async false
set_option maxRecDepth 100000
set_option maxHeartbeats 4000000
set_option linter.all false
namespace Eld
open PySem L2
local macro_rules | `(tactic| walk_at "r1") => `(tactic| with_reducible first
  | refine r_seq ?_ | refine r_asgN ?_ | refine r_asg ?_ | refine r_gname ?_ | refine r_gsub ?_ | refine r_var rfl ?_ | refine r_c ?_ | refine r_op ?_ | refine r_un ?_ | refine r_u ?_ | refine r_i0 ?_ | refine r_cb ?_ | refine r_cons ?_ | refine r_nil ?_ | refine r_cl ?_ | refine r_fn rfl rfl ?_ | refine r_mt ?_
  | refine r_test ?_ | refine r_tb ?_ | refine r_bl ?_ | refine r_and ?_ | refine r_or ?_ | refine r_not ?_ | refine r_andV ?_ | refine r_orV ?_ | refine r_notV ?_ | refine r_ifX ?_ | refine r_ifs ?_ | refine r_chain ?_ | refine r_ret ?_ | refine r_next ?_ | refine r_drop ?_ | refine iteT ?_ | refine iteF ?_ | refine iteNT ?_ | refine iteNF ?_
  | refine r_int1 ?_ | refine r_boolB ?_ | refine r_eqI ?_ | refine r_neI ?_ | refine r_eqB ?_ | refine r_neB ?_ | refine r_eqS ?_ | refine r_neS ?_ | refine r_abs ?_ | refine r_max2 ?_ | refine r_min2 ?_ | refine r_yes ?_ | refine r_tup ?_ | refine r_sfld ?_ | refine r_m0 ?_ | refine r_m1 ?_ | refine r_lst ?_ | refine r_rng1 ?_ | refine r_rng2 ?_ | refine r_ixL (SqL.of (by assumption)) rfl ?_)
local macro_rules | `(tactic| walk_at "r") => `(tactic| repeat (first | walk_at "r1" | ((with_reducible refine r_var ?hv ?_); (case hv => rfl))))

theorem r_splitS {H : Hp} {Q : VK} {a b : Str} (h0 : (b.length == 0) = false) (h1 : a.length + 2 ≤ sizeLine) (h : ∀ p, H p = none → Q (.ref p) (upd H p (.lst ((Txt.split a b).map V.str)))) : ∃ a' b', V.str a = .str a' ∧ [V.str b] = [.str b'] ∧ (b'.length == 0) = false ∧ a'.length + 2 ≤ sizeLine ∧ rNewStrs (Txt.split a' b') H Q := ⟨a, b, rfl, rfl, h0, h1, h⟩
theorem menu_split : ∀ zs ∈ menu, Txt.split (lineOf zs) " " = zs.map numStr ∧ (lineOf zs).length ≤ 100 := by decide +kernel
theorem menu_word : ∀ zs ∈ menu, ∀ z ∈ zs, Txt.isascii (numStr z) = true ∧ Txt.isdigit (numStr z) = true ∧ (numStr z).length = 1 ∧ PySem.intText? (numStr z) = some z := by decide +kernel
theorem menu_nodup : ∀ zs ∈ menu, (allRows zs).Nodup := by decide
theorem menu_below : ∀ zs ∈ menu, ∀ r ∈ allRows zs, r.length = zs.length ∧ ∀ i, i < 3 → i < zs.length → 0 ≤ r.getD i 0 ∧ r.getD i 0 < zs.getD i 0 := by decide
theorem getD_of {l : List Int} {i : Nat} {x : Int} (h : l[i]? = some x) : l.getD i 0 = x := by rw [List.getD_eq_getElem?_getD, h]; rfl
def spIsValues : Sp := fun vs H Q _ => ∃ a tz r zs, vs = [.ref a, .ref tz] ∧ zs ∈ menu ∧ r ∈ allRows zs ∧ (H a = some (.lst (r.map V.int)) ∨ H a = some (.tup (r.map V.int))) ∧ H tz = some (.tup (zs.map V.int)) ∧ ∀ H', Same H H' → Q (.bl true) H'
def spStore (C : Addr) : Sp := fun vs H Q _ => ∃ (p a : Addr) (zs : List Int) (i : Nat) (r : List Int), vs = [.ref p, .ref a] ∧ zs ∈ menu ∧ SpaceAt C H p zs ∧ (H a = some (.lst (r.map V.int)) ∨ H a = some (.tup (r.map V.int))) ∧ (allRows zs)[i]? = some r ∧ ∀ H', Same H H' → Q (.int (i : Nat)) H'
def spRead (C : Addr) : Sp := fun vs H Q _ => ∃ zs, vs = [.str (lineOf zs)] ∧ zs ∈ menu ∧ ∀ H' p, Same H H' → H p = none → SpaceAt C H' p zs → Q (.ref p) H'
theorem dpAll_at {K : PySem.W.Frag} {H : Hp} {f : List Int → PyData} (hf : ∀ t r, H t = some (.tup (r.map V.int)) → Dp K H (.ref t) (f r)) : ∀ {ts : List Addr} {rows : List (List Int)}, RowsT H ts rows → DpAll K H (ts.map V.ref) (rows.map f)
  | [], [], _ => .nil
  | [], r :: rs, h => absurd h.1 (by simp)
  | t :: ts, [], h => absurd h.1 (by simp)
  | t :: ts, r :: rs, h => .cons (hf t r (h.2 0 t r rfl rfl)) (dpAll_at hf ⟨by simpa using h.1, fun i u q a b => h.2 (i + 1) u q (by simpa using a) (by simpa using b)⟩)
theorem rows_lay : ∀ rows : List (List Int), PyData.canLayAll0 (rows.map tupD) = true
  | [] => by simp [PyData.canLayAll0]
  | r :: rs => by simp [PyData.canLayAll0, tupD, PyData.canLay0, ints_lay r, rows_lay rs]
theorem rows_depth : ∀ rows : List (List Int), PyData.depthAll (rows.map tupD) ≤ 1
  | [] => by simp [PyData.depthAll]
  | r :: rs => by
    have h1 := rows_depth rs
    have h2 : (tupD r).depth = 1 := by simp [tupD, PyData.depth, ints_depth]
    simp only [List.map_cons, PyData.depthAll]
    omega
theorem rows_shaped (rows : List (List Int)) : SeqAt.shaped (.tuple (rows.map tupD)) = true := by
  have h := rows_depth rows
  have h2 : PyData.depth (.tuple (rows.map tupD)) ≤ 64 := by
    simp only [PyData.depth]
    omega
  simp only [SeqAt.shaped, PyData.canLay0, rows_lay, Bool.true_and, decide_eq_true_eq]
  exact h2
section
variable {P : Program} {w : World} {K : PySem.W.Frag} {mg : Str → Option Value} {base : Heap} {C : Addr}
theorem ok_is_values {f : Addr} {fd : FuncData} (F : Fun K "is_values" "is_values" s_is_values f fd) (Z : Zs mg) (d_is_list : DefD P w K mg base 1 "is_list" 1 [] byPlace spIsList) (d_is_index : DefD P w K mg base 2 "is_index" 2 [] byPlace spIsIndex) :
    FnG P w K mg base CX0 3 f fd ["value", "sizes"] spIsValues := by
  refine okG F sc_is_values (fun vs H Q E h => ?_) (fun cdv B up z H vs Q E hG hr h => ?_)
  · obtain ⟨a, tz, r, zs, rfl, _⟩ := h
    rfl
  · obtain ⟨a, tz, r, zs, rfl, hz, hrow, ha, ht, k⟩ := h
    obtain ⟨len, below⟩ := menu_below zs hz r hrow
    obtain ⟨l1, l3⟩ := menu_len zs hz
    have inv : ∀ {H1 : Hp} {D : Addr}, Same H H1 → H1 D = none → ∀ (i : Nat) (x y : V) (T : Addr) (H2 : Hp), (r.map V.int)[i]? = some x → (zs.map V.int)[i]? = some y → (Same H1 H2 ∧ H2 D = some (.lst (List.replicate i (V.bl true)))) → H2 T = none →
        ∃ u v : Int, x = .int u ∧ y = .int v ∧ 0 ≤ u ∧ u < v ∧ (upd H2 T (.tup [x, y])) D = some (.lst (List.replicate i (V.bl true))) ∧ (List.replicate i (V.bl true)).length < sizeLine ∧ Same H1 (upd (upd H2 T (.tup [x, y])) D (.lst (List.replicate i (V.bl true) ++ [V.bl true]))) := by
      intro H1 D s1 hD i x y T H2 hx hy ⟨s2, d2⟩ hT
      obtain ⟨u, hu, rfl⟩ := map_get hx
      obtain ⟨v, hv, rfl⟩ := map_get hy
      have il : i < zs.length := (List.getElem?_eq_some_iff.mp hv).1
      obtain ⟨b1, b2⟩ := below i (by omega) il
      rw [getD_of hu] at b1 b2
      rw [getD_of hv] at b2
      exact ⟨u, v, rfl, rfl, b1, b2, (Same.upd_new hT) _ _ d2, by rw [List.length_replicate, sizeLine_eq]; omega, Same.over (s2.trans (Same.upd_new hT)) hD⟩
    have lz : (r.map V.int).length = (zs.map V.int).length := by rw [List.length_map, List.length_map, len]
    rcases ha with e | e
    · refine ⟨_, (pss_cons (ps_if (PW.pt (pw_or (pt_not (pt_val (pd_pos d_is_list hG hr (by decide) (by rfl) (pa_cons (pv 0) pa_nil)))) (pw_or1 (pt_cmpR op_ne (pe_callB (show CallR _ _ (rLen K) from c_len) (by rfl) Z.len_ (by decide +kernel) (pa_cons (pv 0) pa_nil)) (pe_callB (show CallR _ _ (rLen K) from c_len) (by rfl) Z.len_ (by decide +kernel) (pa_cons (pv 1) pa_nil)) (nomark _))))) (pss_one (ps_ret pe_bl)) pss_nil)
  (pss_one (ps_ret (pe_callB (cr_all rfl) (by rfl) Z.all_ (by decide +kernel) (pa_cons (pe_lc (own := [("item", 2), ("size", 3)]) (tt := tYes) rfl sc_is_values.nd (pi_zipM (by rfl) Z.zip_ (pa_cons (pv 0) (pa_cons (pv 1) pa_nil))) (blkOk_by (N := ["value", "sizes", "item", "size"]) (sc := defScope s_is_values) (by decide +kernel)) (fun _ _ _ _ _ => (by (refine (show PG _ _ (gTup K 2 (gCons (gName 2) (gCons (gName 3) gNil))) from ?_); refine pg_tup rfl (pgs_cons ?_ (pgs_cons ?_ pgs_nil)); exact (pg_name (i := 2) sc_is_values.nd rfl (by first | exact Or.inl rfl | exact Or.inr rfl)); exact (pg_name (i := 3) sc_is_values.nd rfl (by first | exact Or.inl rfl | exact Or.inr rfl))))) (fun _ _ _ _ _ => pts_nil) (fun _ _ _ _ _ => (pd_pos d_is_index hG hr (by decide) (by rfl) (pa_cons (pv 2) (pa_cons (pv 3) pa_nil))))) pa_nil))))), ?_⟩
      walk_at "r"
      refine ⟨a, _, rfl, .inl e, fun H1 s1 => ?_⟩
      walk_at "r"
      refine r_lenL (SqL.of (s1 _ _ e)) ?_
      walk_at "r"
      refine r_lenT (SqT.of (s1 _ _ ht)) ?_
      walk_at "r"
      rw [lz, decide_eq_true rfl]
      walk_at "r"
      refine ⟨_, rfl, _, rfl, a, tz, _, _, rfl, SqL.of (s1 _ _ e), SqT.of (s1 _ _ ht), fun D hD => ?_⟩
      refine it_zipM lz (fun i H2 => Same H1 H2 ∧ H2 D = some (.lst (List.replicate i (V.bl true)))) ⟨Same.upd_new hD, upd_same⟩ (fun i H2 _ p => ⟨SqL.of (p.1 _ _ (s1 _ _ e)), SqT.of (p.1 _ _ (s1 _ _ ht))⟩) (fun i x y T H2 hx hy p hT => ?_) (fun H2 p => ?_)
      · obtain ⟨u, v, rfl, rfl, b1, b2, d3, l, s4⟩ := inv s1 hD i x y T H2 hx hy p hT
        refine ⟨T, _, rfl, SqT.of upd_same, rfl, _, _, rfl, _, _, rfl, rfl, ?_⟩
        refine ⟨rfl, ?_⟩
        walk_at "r"
        refine ⟨u, v, rfl, b1, b2, ?_⟩
        refine ⟨_, d3, l, s4, ?_⟩
        rw [upd_same, List.replicate_succ']
      · refine ⟨D, List.replicate (r.map V.int).length true, rfl, SqL.of (by rw [map_rep]; exact p.2), ?_⟩
        rw [all_rep]
        exact k H2 (s1.trans p.1)
    · refine ⟨_, (pss_cons (ps_if (PW.pt (pw_or (pt_not (pt_val (pd_pos d_is_list hG hr (by decide) (by rfl) (pa_cons (pv 0) pa_nil)))) (pw_or1 (pt_cmpR op_ne (pe_callB (show CallR _ _ (rLen K) from c_len) (by rfl) Z.len_ (by decide +kernel) (pa_cons (pv 0) pa_nil)) (pe_callB (show CallR _ _ (rLen K) from c_len) (by rfl) Z.len_ (by decide +kernel) (pa_cons (pv 1) pa_nil)) (nomark _))))) (pss_one (ps_ret pe_bl)) pss_nil)
  (pss_one (ps_ret (pe_callB (cr_all rfl) (by rfl) Z.all_ (by decide +kernel) (pa_cons (pe_lc (own := [("item", 2), ("size", 3)]) (tt := tYes) rfl sc_is_values.nd (RZ.pi_zipA (by rfl) Z.zip_ (pa_cons (pv 0) (pa_cons (pv 1) pa_nil))) (blkOk_by (N := ["value", "sizes", "item", "size"]) (sc := defScope s_is_values) (by decide +kernel)) (fun _ _ _ _ _ => (by (refine (show PG _ _ (gTup K 2 (gCons (gName 2) (gCons (gName 3) gNil))) from ?_); refine pg_tup rfl (pgs_cons ?_ (pgs_cons ?_ pgs_nil)); exact (pg_name (i := 2) sc_is_values.nd rfl (by first | exact Or.inl rfl | exact Or.inr rfl)); exact (pg_name (i := 3) sc_is_values.nd rfl (by first | exact Or.inl rfl | exact Or.inr rfl))))) (fun _ _ _ _ _ => pts_nil) (fun _ _ _ _ _ => (pd_pos d_is_index hG hr (by decide) (by rfl) (pa_cons (pv 2) (pa_cons (pv 3) pa_nil))))) pa_nil))))), ?_⟩
      walk_at "r"
      refine ⟨a, _, rfl, .inr e, fun H1 s1 => ?_⟩
      walk_at "r"
      refine r_lenT (SqT.of (s1 _ _ e)) ?_
      walk_at "r"
      refine r_lenT (SqT.of (s1 _ _ ht)) ?_
      walk_at "r"
      rw [lz, decide_eq_true rfl]
      walk_at "r"
      refine ⟨_, rfl, _, rfl, a, tz, _, _, rfl, .inr ⟨SqT.of (s1 _ _ e), SqT.of (s1 _ _ ht), fun D hD => ?_⟩⟩
      refine it_zipT lz (fun i H2 => Same H1 H2 ∧ H2 D = some (.lst (List.replicate i (V.bl true)))) ⟨Same.upd_new hD, upd_same⟩ (fun i H2 _ p => ⟨SqT.of (p.1 _ _ (s1 _ _ e)), SqT.of (p.1 _ _ (s1 _ _ ht))⟩) (fun i x y T H2 hx hy p hT => ?_) (fun H2 p => ?_)
      · obtain ⟨u, v, rfl, rfl, b1, b2, d3, l, s4⟩ := inv s1 hD i x y T H2 hx hy p hT
        refine ⟨T, _, rfl, SqT.of upd_same, rfl, _, _, rfl, _, _, rfl, rfl, ?_⟩
        refine ⟨rfl, ?_⟩
        walk_at "r"
        refine ⟨u, v, rfl, b1, b2, ?_⟩
        refine ⟨_, d3, l, s4, ?_⟩
        rw [upd_same, List.replicate_succ']
      · refine ⟨D, List.replicate (r.map V.int).length true, rfl, SqL.of (by rw [map_rep]; exact p.2), ?_⟩
        rw [all_rep]
        exact k H2 (s1.trans p.1)
theorem ok_store {f : Addr} {fd : FuncData} (F : Fun K "store" "Space.store" s_Space_store f fd) (Z : Zs mg) (S : Sc K mg C) (d_is_values : DefD P w K mg base 3 "is_values" 2 [] byPlace spIsValues) : FnG P w K mg base CX0 4 f fd ["self", "values"] (spStore C) := by
  refine okG F sc_Space_store (fun vs H Q E h => ?_) (fun cdv B up z H vs Q E hG hr h => ?_)
  · obtain ⟨p, a, zs, i, r, rfl, _⟩ := h
    rfl
  · have hu : (B.deeper (PyProof.Rows.envOfC "Space.store" (defScope s_Space_store) z.heap.objs.size f cdv)).units + 65 < cLine := by have := hr.un; omega
    obtain ⟨p, a, zs, i, r, rfl, hz, ⟨dx, tz, q, ts, h1, h2, h3, rt⟩, ha, hi, k⟩ := h
    have rmem : r ∈ allRows zs := List.mem_of_getElem? hi
    refine ⟨_, (pss_cons (ps_if (pt_not (pt_val (pd_pos d_is_values hG hr (by decide) (by rfl) (pa_cons (pv 1) (pa_cons (pe_fld (pv 0) rfl) pa_nil))))) (pss_one ps_never) pss_nil)
  (pss_one (ps_ret (pe_tm PySem.F.plainAttrs_tuple PySem.F.slot_tuple_index PySem.F.type_tuple_index (mt_tupIx hu) (pe_fld (pv 0) rfl) (pa_cons (pe_callTy (show CallR _ _ (rTupleOf K) from c_tuple) (by rfl) Z.tuple_ (by decide +kernel) (pa_cons (pv 1) pa_nil)) pa_nil))))), ?_⟩
    walk_at "r"
    refine ⟨_, rfl, p, C, dx, _, _, rfl, h1, S.cl, S.nS, spF_sizes _ _ _, ?_⟩
    walk_at "r"
    refine ⟨a, tz, r, zs, rfl, hz, rmem, ha, h2, fun H1 s1 => ?_⟩
    walk_at "r"
    refine ⟨_, rfl, p, C, dx, _, _, rfl, s1 _ _ h1, S.cl, S.nT, spF_stores _ _ _, ⟨q, _, rfl, h3.same s1⟩, ?_⟩
    walk_at "r"
    refine r_tupleAny (same_any s1 ha) fun l H2 s2 g2 => ?_
    have hq : Dp K H2 (.ref q) (.tuple ((allRows zs).map tupD)) := .tup (h3.same (s1.trans s2)).sq (dpAll_at (fun t r e => tup_dp e) (rt.same (s1.trans s2)))
    refine ⟨q, .ref l, tupD r, tupD r, _, i, rfl, rfl, hq, tup_dp g2, rows_shaped _, tup_shaped _, by rw [List.getElem?_map, hi]; rfl, by rw [tup_eqv]; exact decide_eq_true rfl, fun m z' hm hz' => ?_, ?_⟩
    · rw [List.getElem?_map] at hz'
      cases e : (allRows zs)[m]? with
      | none => rw [e] at hz'; cases hz'
      | some r' =>
        rw [e] at hz'
        cases hz'
        rw [tup_eqv]
        refine decide_eq_false fun e' => ?_
        subst e'
        have := nd_ix (menu_nodup zs hz) e hi
        omega
    · exact k H2 (s1.trans s2)
theorem ok_read {f : Addr} {fd : FuncData} (F : Fun K "read_space" "read_space" s_read_space f fd) (Z : Zs mg) (S : Sc K mg C) (d_is_digits : DefD P w K mg base 1 "is_digits" 1 [] byPlace spIsDigits) (d_is_sizes : DefD P w K mg base 3 "is_sizes" 1 [] byPlace spIsSizes)
    (k_Space : MakD P w K mg base 4 "Space" C 1 [] byPlace (spInit C)) : FnG P w K mg base CX0 6 f fd ["line"] (spRead C) := by
  refine okG F sc_read_space (fun vs H Q E h => ?_) (fun cdv B up z H vs Q E hG hr h => ?_)
  · obtain ⟨zs, rfl, _⟩ := h
    rfl
  · obtain ⟨zs, rfl, hz, k⟩ := h
    obtain ⟨sp, ll⟩ := menu_split zs hz
    obtain ⟨l1, l3⟩ := menu_len zs hz
    have wl : ∀ {i : Nat} {x : V}, ((zs.map numStr).map V.str)[i]? = some x → ∃ y, zs[i]? = some y ∧ x = .str (numStr y) := by
      intro i x hx
      rw [List.getElem?_map, List.getElem?_map] at hx
      cases e : zs[i]? with
      | none => rw [e] at hx; cases hx
      | some y => rw [e] at hx; exact ⟨y, rfl, (Option.some.inj hx).symm⟩
    have lw : ((zs.map numStr).map V.str).length = zs.length := by rw [List.length_map, List.length_map]
    refine ⟨_, (pss_cons (ps_if (pt_not (pt_val (pe_callB call_isi (by rfl) Z.isinstance_ (by decide +kernel) (pa_cons (pv 0) (pa_cons (pe_ty "str" (by rfl) Z.str_ (by decide +kernel)) pa_nil))))) (pss_one ps_never) pss_nil)
  (pss_cons (ps_set (i := 1) sc_read_space.nd rfl (by first | exact Or.inl rfl | exact Or.inr rfl) (pe_split (pv 0) pe_str))
  (pss_cons (ps_if (pt_not (pt_val (pe_callB (cr_all rfl) (by rfl) Z.all_ (by decide +kernel) (pa_cons (pe_lc (own := [("word", 3)]) (tt := tYes) rfl sc_read_space.nd (pi_list (pv 1)) (blkOk_by (N := ["line", "words", "sizes", "word"]) (sc := defScope s_read_space) (by decide +kernel)) (fun _ _ _ _ _ => (pg_name (i := 3) sc_read_space.nd rfl (by first | exact Or.inl rfl | exact Or.inr rfl))) (fun _ _ _ _ _ => pts_nil) (fun _ _ _ _ _ => (pe_and (pd_pos d_is_digits hG hr (by decide) (by rfl) (pa_cons (pv 3) pa_nil)) (pe_one (pe_cmpR op_eq (pe_callB (show CallR _ _ (rLen K) from c_len) (by rfl) Z.len_ (by decide +kernel) (pa_cons (pv 3) pa_nil)) pe_int (nomark _)))))) pa_nil)))) (pss_one ps_never) pss_nil)
  (pss_cons (ps_setLc (i := 2) (own := [("word", 3)]) (tt := tYes) rfl sc_read_space.nd rfl rfl (sw_true rfl rfl rfl (by decide +kernel)) (pi_list (pv 1)) (blkOk_by (N := ["line", "words", "sizes", "word"]) (sc := defScope s_read_space) (by decide +kernel)) (fun _ _ _ _ _ => (pg_name (i := 3) sc_read_space.nd rfl (by first | exact Or.inl rfl | exact Or.inr rfl))) (fun _ _ _ _ _ => pts_nil) (fun _ _ _ _ _ => (pe_callTy c_intS (by rfl) Z.int_ (by decide +kernel) (pa_cons (pv 3) pa_nil))))
  (pss_cons (ps_if (pt_not (pt_val (pd_pos d_is_sizes hG hr (by decide) (by rfl) (pa_cons (pv 2) pa_nil)))) (pss_one ps_never) pss_nil)
  (pss_one (ps_ret (pk_pos k_Space hG hr (by decide) (by rfl) (pa_cons (pv 2) pa_nil))))))))), ?_⟩
    walk_at "r"
    refine r_isiB (b := true) (.base (.str _)) (by decide +kernel) ?_
    walk_at "r"
    refine ⟨⟨_, rfl⟩, ?_⟩
    walk_at "r"
    refine r_splitS (by decide) (by rw [sizeLine_eq]; omega) fun l hl => ?_
    rw [sp]
    have g1 : (upd H l (.lst ((zs.map numStr).map V.str))) l = some (.lst ((zs.map numStr).map V.str)) := upd_same
    have s1 : Same H (upd H l (.lst ((zs.map numStr).map V.str))) := Same.upd_new hl
    generalize upd H l (.lst ((zs.map numStr).map V.str)) = H1 at g1 s1 ⊢
    walk_at "r"
    refine ⟨_, rfl, l, rfl, ⟨_, SqL.of g1⟩, fun D hD => ?_⟩
    refine it_list (xs := (zs.map numStr).map V.str) (fun i H2 => Same H1 H2 ∧ H2 D = some (.lst (List.replicate i (V.bl true)))) ⟨Same.upd_new hD, upd_same⟩ (fun i H2 _ p => SqL.of (p.1 _ _ g1)) (fun i x H2 hx p => ?_) (fun H2 p => ?_)
    · obtain ⟨y, hy, rfl⟩ := wl hx
      obtain ⟨w1, w2, w3, w4⟩ := menu_word zs hz y (List.mem_of_getElem? hy)
      have il : i < zs.length := (List.getElem?_eq_some_iff.mp hy).1
      refine r_gname ⟨rfl, ?_⟩
      walk_at "r"
      refine ⟨_, rfl, w1, w2, ?_⟩
      walk_at "r"
      refine r_lenS (by rw [w3]; decide) ?_
      walk_at "r"
      rw [w3, decide_eq_true (show V.int ((1 : Nat) : Int) = V.int 1 from rfl)]
      refine ⟨_, p.2, by rw [List.length_replicate, sizeLine_eq]; omega, Same.over p.1 hD, ?_⟩
      rw [upd_same, List.replicate_succ']
    · rw [lw] at p
      refine ⟨D, List.replicate zs.length true, rfl, SqL.of (by rw [map_rep]; exact p.2), ?_⟩
      rw [all_rep]
      walk_at "r"
      have g2 := p.1 _ _ g1
      refine ⟨_, rfl, l, rfl, ⟨_, SqL.of g2⟩, fun D2 hD2 => ?_⟩
      refine it_list (xs := (zs.map numStr).map V.str) (fun i H3 => Same H2 H3 ∧ H3 D2 = some (.lst ((zs.take i).map V.int))) ⟨Same.upd_new hD2, upd_same⟩ (fun i H3 _ p => SqL.of (p.1 _ _ g2)) (fun i x H3 hx p3 => ?_) (fun H3 p3 => ?_)
      · obtain ⟨y, hy, rfl⟩ := wl hx
        obtain ⟨w1, w2, w3, w4⟩ := menu_word zs hz y (List.mem_of_getElem? hy)
        refine r_gname ⟨rfl, ?_⟩
        walk_at "r"
        refine ⟨_, y, rfl, w4, by rw [w3]; decide, ?_⟩
        refine ⟨_, p3.2, by rw [List.length_map, List.length_take, sizeLine_eq]; omega, Same.over p3.1 hD2, ?_⟩
        rw [upd_same, take_next hy, List.map_append]
        rfl
      · rw [lw, List.take_length] at p3
        walk_at "r"
        refine ⟨D2, zs, rfl, hz, .inl p3.2, fun H4 s4 => ?_⟩
        walk_at "r"
        refine r_mk rfl rfl fun x dx hx hdx hne => ?_
        have new : Same H4 (upd (upd H4 dx (.own x)) x (.ins C dx [])) := fun b o e => by
          rw [upd_ne (ne_of_none e hx), upd_ne (ne_of_none e hdx)]
          exact e
        refine ⟨x, D2, dx, zs, rfl, upd_same, hz, .inl (new _ _ (s4 _ _ p3.2)), fun H5 s5 sp5 => ⟨rfl, ?_⟩⟩
        have all : Same H H4 := ((s1.trans p.1).trans p3.1).trans s4
        refine k H5 x (fun b o e => s5 b o (ne_of_none (all _ _ e) hx) (new _ _ (all _ _ e))) (all.free hx) sp5
end
end Eld
set_option Elab.async false
set_option maxRecDepth 100000
set_option maxHeartbeats 4000000
set_option linter.all false
namespace Eld
open PySem L2
local macro_rules | `(tactic| walk_at "r1") => `(tactic| with_reducible first
  | refine r_seq ?_ | refine r_asgN ?_ | refine r_asg ?_ | refine r_gname ?_ | refine r_gsub ?_ | refine r_var rfl ?_ | refine r_c ?_ | refine r_op ?_ | refine r_un ?_ | refine r_u ?_ | refine r_i0 ?_ | refine r_cb ?_ | refine r_cons ?_ | refine r_nil ?_ | refine r_cl ?_ | refine r_fn rfl rfl ?_ | refine r_mt ?_
  | refine r_test ?_ | refine r_tb ?_ | refine r_bl ?_ | refine r_and ?_ | refine r_or ?_ | refine r_not ?_ | refine r_andV ?_ | refine r_orV ?_ | refine r_notV ?_ | refine r_ifX ?_ | refine r_ifs ?_ | refine r_chain ?_ | refine r_ret ?_ | refine r_next ?_ | refine r_drop ?_ | refine iteT ?_ | refine iteF ?_ | refine iteNT ?_ | refine iteNF ?_
  | refine r_int1 ?_ | refine r_boolB ?_ | refine r_eqI ?_ | refine r_neI ?_ | refine r_eqB ?_ | refine r_neB ?_ | refine r_eqS ?_ | refine r_neS ?_ | refine r_abs ?_ | refine r_max2 ?_ | refine r_min2 ?_ | refine r_yes ?_ | refine r_tup ?_ | refine r_sfld ?_ | refine r_m0 ?_ | refine r_m1 ?_ | refine r_lst ?_ | refine r_rng1 ?_ | refine r_rng2 ?_ | refine r_ixL (SqL.of (by assumption)) rfl ?_)
local macro_rules | `(tactic| walk_at "r") => `(tactic| repeat (first | walk_at "r1" | ((with_reducible refine r_var ?hv ?_); (case hv => rfl))))

/-! ## the law's own tools -/
theorem SqL.same {K : PySem.W.Frag} {H H' : Hp} {a : Addr} {xs : List V} (h : SqL K H a xs) (s : Same H H') : SqL K H' a xs := by
  rcases h with (e | ⟨o, e⟩) | q
  · exact .inl (.inl (s _ _ e))
  · exact .inl (.inr ⟨o, s _ _ e⟩)
  · exact .inr q
theorem BoxAt.mono {H : Hp} {b : Addr} {n m : Nat} (h : BoxAt H b n) (l : n ≤ m) : BoxAt H b m := by
  obtain ⟨g, m', c, t, h1, h2, h3, h4, h5, h6⟩ := h
  exact ⟨g, m', c, t, h1, h2, h3, h4, h5, by omega⟩
theorem BoxAt.same {H H' : Hp} {b : Addr} {n : Nat} (h : BoxAt H b n) (s : Same H H') : BoxAt H' b n := by
  obtain ⟨g, m', c, t, h1, r⟩ := h
  exact ⟨g, m', c, t, s _ _ h1, r⟩
/-- a list of this length stands apart from a box -/
theorem BoxAt.ne {H : Hp} {b a : Addr} {n : Nat} {o : HO} (h : BoxAt H b n) (e : H a = some o) (d : ∀ g m c t, o ≠ .lst [.int g, .bl t, .int m, .int c]) : a ≠ b := by
  obtain ⟨g, m', c, t, h1, r⟩ := h
  exact ne_of e h1 (d _ _ _ _)
theorem But.of {b : Addr} {H H' : Hp} (s : Same H H') : But b H H' := fun a o _ e => s a o e
theorem But.refl {b : Addr} (H : Hp) : But b H H := fun _ _ _ e => e
theorem But.trans {b : Addr} {H H' H'' : Hp} (s : But b H H') (t : But b H' H'') : But b H H'' := fun a o n e => t a o n (s a o n e)
def spCell (K : PySem.W.Frag) : Sp := fun vs H Q _ => ∃ (a : Addr) (ns : List Int) (k : Nat), vs = [.ref a, .int (k : Nat)] ∧ k < 100 ∧ ns.length ≤ sizeLine ∧ SqL K H a (ns.map V.int) ∧ ∀ r H', Same H H' → Q (.int r) H'
def spBox : Sp := fun vs H Q _ => ∃ g, vs = [.int g] ∧ ∀ b H', Same H H' → H b = none → BoxAt H' b 0 → Q (.ref b) H'
def spSizes : Sp := fun vs H Q _ => ∃ b n, vs = [.ref b] ∧ BoxAt H b n ∧ n < 4000000 ∧ ∀ l zs H', zs ∈ menu → BoxAt H' b (n + 1) → But b H H' → H l = none → H' l = some (.lst (zs.map V.int)) → Q (.ref l) H'
def spRows : Sp := fun vs H Q _ => ∃ a zs, vs = [.ref a] ∧ zs ∈ menu ∧ H a = some (.lst (zs.map V.int)) ∧ ∀ H' m ts, Same H H' → H m = none → H' m = some (.lst (ts.map V.ref)) → RowsT H' ts (allRows zs) → Q (.ref m) H'
section
variable {P : Program} {w : World} {K : PySem.W.Frag} {mg : Str → Option Value} {base : Heap}
theorem ok_cell {f : Addr} {fd : FuncData} (F : Fun K "_law_cell" "_law_cell" s__law_cell f fd) (Z : Zs mg) : FnG P w K mg base CX0 1 f fd ["script", "k"] (spCell K) := by
  refine okG F sc__law_cell (fun vs H Q E h => ?_) (fun cdv B up z H vs Q E hG hr h => ?_)
  · obtain ⟨a, ns, k, rfl, _⟩ := h
    rfl
  · obtain ⟨a, ns, k, rfl, hk, hz, ha, q⟩ := h
    refine ⟨_, (pss_one (ps_ret (pe_ifExp (pt_cmpR op_lt (pv 1) (pe_callB (show CallR _ _ (rLen K) from c_len) (by rfl) Z.len_ (by decide +kernel) (pa_cons (pv 0) pa_nil)) (nomark _)) (pe_ix (show IxR _ (rIxL K) from ix_list) (pv 0) (pv 1) (fun _ _ => rfl)) (pe_op op_add (pe_op op_add (pe_op op_mul pe_int (pv 1)) pe_int) (pe_op op_mod (pe_callB (cr_sum rfl) (by rfl) Z.sum_ (by decide +kernel) (pa_cons (pe_slice sl_list (pv 0) po_none (po_some pe_int)) pa_nil)) pe_int))))), ?_⟩
    walk_at "r"
    refine r_lenL ha ?_
    walk_at "r"
    refine ite2 (fun c => ?_) (fun c => ?_)
    · rw [List.length_map] at c
      have c' : k < ns.length := by simpa using c
      walk_at "r"
      refine r_ixL ha (atI_nat (v := .int ns[k]) (by rw [List.getElem?_map, List.getElem?_eq_getElem c']; rfl)) ?_
      exact q _ _ (Same.refl H)
    · walk_at "r"
      refine r_i (.inl ⟨by decide, by decide⟩) ?_
      walk_at "r"
      refine ⟨.ref a, rfl, 1, rfl, a, ns.map V.int, rfl, ha, fun p hp => ?_⟩
      refine ⟨p, (cutV (ns.map V.int) none (some 1)).map (fun v => match v with | .int i => i | _ => 0), rfl, SqL.of ?_, ?_⟩
      · rw [upd_same]
        have : ∀ l : List V, (∀ x ∈ l, ∃ i, x = V.int i) → (l.map (fun v => match v with | .int i => i | _ => (0 : Int))).map V.int = l := by
          intro l hl
          induction l with
          | nil => rfl
          | cons x l ih =>
            obtain ⟨i, rfl⟩ := hl x (List.mem_cons_self ..)
            rw [List.map_cons, List.map_cons, ih fun y hy => hl y (List.mem_cons_of_mem _ hy)]
        rw [this]
        intro x hx
        have h1 := List.mem_of_mem_drop (List.mem_of_mem_take hx)
        obtain ⟨i, _, e⟩ := List.mem_map.mp h1
        exact ⟨i, e.symm⟩
      · walk_at "r"
        refine r_i (by decide) ?_
        walk_at "r"
        exact q _ _ (Same.upd_new hp)
theorem ok_box {f : Addr} {fd : FuncData} (F : Fun K "_law_box" "_law_box" s__law_box f fd) (Z : Zs mg) : FnG P w K mg base CX0 1 f fd ["great"] spBox := by
  refine okG F sc__law_box (fun vs H Q E h => ?_) (fun cdv B up z H vs Q E hG hr h => ?_)
  · obtain ⟨g, rfl, _⟩ := h
    rfl
  · obtain ⟨g, rfl, q⟩ := h
    refine ⟨_, (pss_one (ps_ret (pe_lst (pa_cons (pe_callB c_abs (by rfl) Z.abs_ (by decide +kernel) (pa_cons (pv 0) pa_nil)) (pa_cons (pe_cmpR op_ge (pe_callB c_abs (by rfl) Z.abs_ (by decide +kernel) (pa_cons (pv 0) pa_nil)) (pe_op op_pow pe_int pe_int) (nomark _)) (pa_cons (pe_op op_mod (pe_callTy c_int (by rfl) Z.int_ (by decide +kernel) (pa_cons (pe_callB c_abs (by rfl) Z.abs_ (by decide +kernel) (pa_cons (pv 0) pa_nil)) pa_nil)) pe_int) (pa_cons pe_int pa_nil))))))), ?_⟩
    walk_at "r"
    have nn : 0 ≤ (if g < 0 then -g else g) := by split <;> omega
    refine r_i ⟨by decide, by decide, by decide⟩ ?_
    walk_at "r"
    refine r_i (by decide) ?_
    walk_at "r"
    refine ⟨by show 4 ≤ sizeLine; decide, fun p hp => ?_⟩
    exact q p _ (Same.upd_new hp) hp ⟨_, _, 0, _, upd_same, nn, Int.emod_nonneg _ (by decide), Int.lt_of_lt_of_le (Int.emod_lt_of_pos _ (by decide)) (by decide), by decide, by decide⟩
theorem ok_sizes {f : Addr} {fd : FuncData} (F : Fun K "_law_sizes" "_law_sizes" s__law_sizes f fd) (d__law_take : DefD P w K mg base 1 "_law_take" 2 [] byPlace spTake) : FnG P w K mg base CX0 2 f fd ["box"] spSizes := by
  refine okG F sc__law_sizes (fun vs H Q E h => ?_) (fun cdv B up z H vs Q E hG hr h => ?_)
  · obtain ⟨b, n, rfl, _⟩ := h
    rfl
  · obtain ⟨b, n, rfl, hb, hn, k⟩ := h
    refine ⟨_, (pss_cons (ps_set (i := 1) sc__law_sizes.nd rfl (by first | exact Or.inl rfl | exact Or.inr rfl) (pe_lst (pa_cons (pe_lst (pa_cons pe_int pa_nil)) (pa_cons (pe_lst (pa_cons pe_int pa_nil)) (pa_cons (pe_lst (pa_cons pe_int pa_nil)) (pa_cons (pe_lst (pa_cons pe_int pa_nil)) (pa_cons (pe_lst (pa_cons pe_int pa_nil)) (pa_cons (pe_lst (pa_cons pe_int pa_nil)) (pa_cons (pe_lst (pa_cons pe_int pa_nil)) (pa_cons (pe_lst (pa_cons pe_int (pa_cons pe_int pa_nil))) (pa_cons (pe_lst (pa_cons pe_int (pa_cons pe_int pa_nil))) (pa_cons (pe_lst (pa_cons pe_int (pa_cons pe_int pa_nil))) (pa_cons (pe_lst (pa_cons pe_int (pa_cons pe_int pa_nil))) (pa_cons (pe_lst (pa_cons pe_int (pa_cons pe_int pa_nil))) (pa_cons (pe_lst (pa_cons pe_int (pa_cons pe_int (pa_cons pe_int pa_nil)))) pa_nil)))))))))))))))
  (pss_one (ps_ret (pe_ix (show IxR _ (rIxL K) from ix_list) (pv 1) (pd_pos d__law_take hG hr (by decide) (by rfl) (pa_cons (pv 0) (pa_cons pe_int pa_nil))) (fun _ _ => rfl))))), ?_⟩
    walk_at "r"
    refine ⟨by show _ ≤ sizeLine; decide, fun l0 h0 => ?_⟩
    have s0 := Same.upd_new (o := .lst [.int 2]) h0
    have g0 : (upd H l0 (.lst [.int 2])) l0 = some (.lst [.int 2]) := upd_same
    generalize upd H l0 (.lst [.int 2]) = H1 at s0 g0 ⊢
    walk_at "r"
    refine ⟨by show _ ≤ sizeLine; decide, fun l1 h1 => ?_⟩
    have s1 := Same.upd_new (o := .lst [.int 3]) h1
    have g1 : (upd H1 l1 (.lst [.int 3])) l1 = some (.lst [.int 3]) := upd_same
    generalize upd H1 l1 (.lst [.int 3]) = H2 at s1 g1 ⊢
    walk_at "r"
    refine ⟨by show _ ≤ sizeLine; decide, fun l2 h2 => ?_⟩
    have s2 := Same.upd_new (o := .lst [.int 4]) h2
    have g2 : (upd H2 l2 (.lst [.int 4])) l2 = some (.lst [.int 4]) := upd_same
    generalize upd H2 l2 (.lst [.int 4]) = H3 at s2 g2 ⊢
    walk_at "r"
    refine ⟨by show _ ≤ sizeLine; decide, fun l3 h3 => ?_⟩
    have s3 := Same.upd_new (o := .lst [.int 5]) h3
    have g3 : (upd H3 l3 (.lst [.int 5])) l3 = some (.lst [.int 5]) := upd_same
    generalize upd H3 l3 (.lst [.int 5]) = H4 at s3 g3 ⊢
    walk_at "r"
    refine ⟨by show _ ≤ sizeLine; decide, fun l4 h4 => ?_⟩
    have s4 := Same.upd_new (o := .lst [.int 6]) h4
    have g4 : (upd H4 l4 (.lst [.int 6])) l4 = some (.lst [.int 6]) := upd_same
    generalize upd H4 l4 (.lst [.int 6]) = H5 at s4 g4 ⊢
    walk_at "r"
    refine ⟨by show _ ≤ sizeLine; decide, fun l5 h5 => ?_⟩
    have s5 := Same.upd_new (o := .lst [.int 7]) h5
    have g5 : (upd H5 l5 (.lst [.int 7])) l5 = some (.lst [.int 7]) := upd_same
    generalize upd H5 l5 (.lst [.int 7]) = H6 at s5 g5 ⊢
    walk_at "r"
    refine ⟨by show _ ≤ sizeLine; decide, fun l6 h6 => ?_⟩
    have s6 := Same.upd_new (o := .lst [.int 8]) h6
    have g6 : (upd H6 l6 (.lst [.int 8])) l6 = some (.lst [.int 8]) := upd_same
    generalize upd H6 l6 (.lst [.int 8]) = H7 at s6 g6 ⊢
    walk_at "r"
    refine ⟨by show _ ≤ sizeLine; decide, fun l7 h7 => ?_⟩
    have s7 := Same.upd_new (o := .lst [.int 2, .int 2]) h7
    have g7 : (upd H7 l7 (.lst [.int 2, .int 2])) l7 = some (.lst [.int 2, .int 2]) := upd_same
    generalize upd H7 l7 (.lst [.int 2, .int 2]) = H8 at s7 g7 ⊢
    walk_at "r"
    refine ⟨by show _ ≤ sizeLine; decide, fun l8 h8 => ?_⟩
    have s8 := Same.upd_new (o := .lst [.int 2, .int 3]) h8
    have g8 : (upd H8 l8 (.lst [.int 2, .int 3])) l8 = some (.lst [.int 2, .int 3]) := upd_same
    generalize upd H8 l8 (.lst [.int 2, .int 3]) = H9 at s8 g8 ⊢
    walk_at "r"
    refine ⟨by show _ ≤ sizeLine; decide, fun l9 h9 => ?_⟩
    have s9 := Same.upd_new (o := .lst [.int 2, .int 4]) h9
    have g9 : (upd H9 l9 (.lst [.int 2, .int 4])) l9 = some (.lst [.int 2, .int 4]) := upd_same
    generalize upd H9 l9 (.lst [.int 2, .int 4]) = H10 at s9 g9 ⊢
    walk_at "r"
    refine ⟨by show _ ≤ sizeLine; decide, fun l10 h10 => ?_⟩
    have s10 := Same.upd_new (o := .lst [.int 3, .int 2]) h10
    have g10 : (upd H10 l10 (.lst [.int 3, .int 2])) l10 = some (.lst [.int 3, .int 2]) := upd_same
    generalize upd H10 l10 (.lst [.int 3, .int 2]) = H11 at s10 g10 ⊢
    walk_at "r"
    refine ⟨by show _ ≤ sizeLine; decide, fun l11 h11 => ?_⟩
    have s11 := Same.upd_new (o := .lst [.int 4, .int 2]) h11
    have g11 : (upd H11 l11 (.lst [.int 4, .int 2])) l11 = some (.lst [.int 4, .int 2]) := upd_same
    generalize upd H11 l11 (.lst [.int 4, .int 2]) = H12 at s11 g11 ⊢
    walk_at "r"
    refine ⟨by show _ ≤ sizeLine; decide, fun l12 h12 => ?_⟩
    have s12 := Same.upd_new (o := .lst [.int 2, .int 2, .int 2]) h12
    have g12 : (upd H12 l12 (.lst [.int 2, .int 2, .int 2])) l12 = some (.lst [.int 2, .int 2, .int 2]) := upd_same
    generalize upd H12 l12 (.lst [.int 2, .int 2, .int 2]) = H13 at s12 g12 ⊢
    walk_at "r"
    refine ⟨by show 13 ≤ sizeLine; decide, fun l hl => ?_⟩
    have sl := Same.upd_new (o := .lst [.ref l0, .ref l1, .ref l2, .ref l3, .ref l4, .ref l5, .ref l6, .ref l7, .ref l8, .ref l9, .ref l10, .ref l11, .ref l12]) hl
    have gl : (upd H13 l (.lst [.ref l0, .ref l1, .ref l2, .ref l3, .ref l4, .ref l5, .ref l6, .ref l7, .ref l8, .ref l9, .ref l10, .ref l11, .ref l12])) l = some (.lst [.ref l0, .ref l1, .ref l2, .ref l3, .ref l4, .ref l5, .ref l6, .ref l7, .ref l8, .ref l9, .ref l10, .ref l11, .ref l12]) := upd_same
    generalize upd H13 l (.lst [.ref l0, .ref l1, .ref l2, .ref l3, .ref l4, .ref l5, .ref l6, .ref l7, .ref l8, .ref l9, .ref l10, .ref l11, .ref l12]) = HL at sl gl ⊢
    have t13 : Same H13 HL := sl
    have t12 : Same H12 HL := s12.trans t13
    have t11 : Same H11 HL := s11.trans t12
    have t10 : Same H10 HL := s10.trans t11
    have t9 : Same H9 HL := s9.trans t10
    have t8 : Same H8 HL := s8.trans t9
    have t7 : Same H7 HL := s7.trans t8
    have t6 : Same H6 HL := s6.trans t7
    have t5 : Same H5 HL := s5.trans t6
    have t4 : Same H4 HL := s4.trans t5
    have t3 : Same H3 HL := s3.trans t4
    have t2 : Same H2 HL := s2.trans t3
    have t1 : Same H1 HL := s1.trans t2
    have t0 : Same H HL := s0.trans t1
    walk_at "r"
    refine ⟨b, 13, n, rfl, hb.same t0, hn, by decide, by decide, fun r HZ r0 r1 bx but => ?_⟩
    have gl2 := but _ _ ((hb.same t0).ne gl (by intro _ _ _ _ e; cases e)) gl
    have fr : ∀ {Hi : Hp} {x : Addr}, Same H Hi → Hi x = none → H x = none := fun s e => s.free e
    have a0 : Same H H := Same.refl H
    have a1 : Same H H1 := a0.trans s0
    have a2 : Same H H2 := a1.trans s1
    have a3 : Same H H3 := a2.trans s2
    have a4 : Same H H4 := a3.trans s3
    have a5 : Same H H5 := a4.trans s4
    have a6 : Same H H6 := a5.trans s5
    have a7 : Same H H7 := a6.trans s6
    have a8 : Same H H8 := a7.trans s7
    have a9 : Same H H9 := a8.trans s8
    have a10 : Same H H10 := a9.trans s9
    have a11 : Same H H11 := a10.trans s10
    have a12 : Same H H12 := a11.trans s11
    obtain rfl | rfl | rfl | rfl | rfl | rfl | rfl | rfl | rfl | rfl | rfl | rfl | rfl : r = 0 ∨ r = 1 ∨ r = 2 ∨ r = 3 ∨ r = 4 ∨ r = 5 ∨ r = 6 ∨ r = 7 ∨ r = 8 ∨ r = 9 ∨ r = 10 ∨ r = 11 ∨ r = 12 := by omega
    · refine r_ixL (SqL.of gl2) rfl ?_
      exact k l0 [2] HZ (by decide) bx (fun x o nb e => but _ _ nb (t0 _ _ e)) (fr a0 h0) (but _ _ ((hb.same t0).ne (t1 _ _ g0) (by intro _ _ _ _ e; cases e)) (t1 _ _ g0))
    · refine r_ixL (SqL.of gl2) rfl ?_
      exact k l1 [3] HZ (by decide) bx (fun x o nb e => but _ _ nb (t0 _ _ e)) (fr a1 h1) (but _ _ ((hb.same t0).ne (t2 _ _ g1) (by intro _ _ _ _ e; cases e)) (t2 _ _ g1))
    · refine r_ixL (SqL.of gl2) rfl ?_
      exact k l2 [4] HZ (by decide) bx (fun x o nb e => but _ _ nb (t0 _ _ e)) (fr a2 h2) (but _ _ ((hb.same t0).ne (t3 _ _ g2) (by intro _ _ _ _ e; cases e)) (t3 _ _ g2))
    · refine r_ixL (SqL.of gl2) rfl ?_
      exact k l3 [5] HZ (by decide) bx (fun x o nb e => but _ _ nb (t0 _ _ e)) (fr a3 h3) (but _ _ ((hb.same t0).ne (t4 _ _ g3) (by intro _ _ _ _ e; cases e)) (t4 _ _ g3))
    · refine r_ixL (SqL.of gl2) rfl ?_
      exact k l4 [6] HZ (by decide) bx (fun x o nb e => but _ _ nb (t0 _ _ e)) (fr a4 h4) (but _ _ ((hb.same t0).ne (t5 _ _ g4) (by intro _ _ _ _ e; cases e)) (t5 _ _ g4))
    · refine r_ixL (SqL.of gl2) rfl ?_
      exact k l5 [7] HZ (by decide) bx (fun x o nb e => but _ _ nb (t0 _ _ e)) (fr a5 h5) (but _ _ ((hb.same t0).ne (t6 _ _ g5) (by intro _ _ _ _ e; cases e)) (t6 _ _ g5))
    · refine r_ixL (SqL.of gl2) rfl ?_
      exact k l6 [8] HZ (by decide) bx (fun x o nb e => but _ _ nb (t0 _ _ e)) (fr a6 h6) (but _ _ ((hb.same t0).ne (t7 _ _ g6) (by intro _ _ _ _ e; cases e)) (t7 _ _ g6))
    · refine r_ixL (SqL.of gl2) rfl ?_
      exact k l7 [2, 2] HZ (by decide) bx (fun x o nb e => but _ _ nb (t0 _ _ e)) (fr a7 h7) (but _ _ ((hb.same t0).ne (t8 _ _ g7) (by intro _ _ _ _ e; cases e)) (t8 _ _ g7))
    · refine r_ixL (SqL.of gl2) rfl ?_
      exact k l8 [2, 3] HZ (by decide) bx (fun x o nb e => but _ _ nb (t0 _ _ e)) (fr a8 h8) (but _ _ ((hb.same t0).ne (t9 _ _ g8) (by intro _ _ _ _ e; cases e)) (t9 _ _ g8))
    · refine r_ixL (SqL.of gl2) rfl ?_
      exact k l9 [2, 4] HZ (by decide) bx (fun x o nb e => but _ _ nb (t0 _ _ e)) (fr a9 h9) (but _ _ ((hb.same t0).ne (t10 _ _ g9) (by intro _ _ _ _ e; cases e)) (t10 _ _ g9))
    · refine r_ixL (SqL.of gl2) rfl ?_
      exact k l10 [3, 2] HZ (by decide) bx (fun x o nb e => but _ _ nb (t0 _ _ e)) (fr a10 h10) (but _ _ ((hb.same t0).ne (t11 _ _ g10) (by intro _ _ _ _ e; cases e)) (t11 _ _ g10))
    · refine r_ixL (SqL.of gl2) rfl ?_
      exact k l11 [4, 2] HZ (by decide) bx (fun x o nb e => but _ _ nb (t0 _ _ e)) (fr a11 h11) (but _ _ ((hb.same t0).ne (t12 _ _ g11) (by intro _ _ _ _ e; cases e)) (t12 _ _ g11))
    · refine r_ixL (SqL.of gl2) rfl ?_
      exact k l12 [2, 2, 2] HZ (by decide) bx (fun x o nb e => but _ _ nb (t0 _ _ e)) (fr a12 h12) (but _ _ ((hb.same t0).ne (t13 _ _ g12) (by intro _ _ _ _ e; cases e)) (t13 _ _ g12))
end
end Eld
set_option Elab.async false
set_option maxRecDepth 100000
set_option maxHeartbeats 4000000
set_option linter.all false
namespace Eld
open PySem L2
local macro_rules | `(tactic| walk_at "r1") => `(tactic| with_reducible first
  | refine r_seq ?_ | refine r_asgN ?_ | refine r_asg ?_ | refine r_gname ?_ | refine r_gsub ?_ | refine r_var rfl ?_ | refine r_c ?_ | refine r_op ?_ | refine r_un ?_ | refine r_u ?_ | refine r_i0 ?_ | refine r_cb ?_ | refine r_cons ?_ | refine r_nil ?_ | refine r_cl ?_ | refine r_fn rfl rfl ?_ | refine r_mt ?_
  | refine r_test ?_ | refine r_tb ?_ | refine r_bl ?_ | refine r_and ?_ | refine r_or ?_ | refine r_not ?_ | refine r_andV ?_ | refine r_orV ?_ | refine r_notV ?_ | refine r_ifX ?_ | refine r_ifs ?_ | refine r_chain ?_ | refine r_ret ?_ | refine r_next ?_ | refine r_drop ?_ | refine iteT ?_ | refine iteF ?_ | refine iteNT ?_ | refine iteNF ?_
  | refine r_int1 ?_ | refine r_boolB ?_ | refine r_eqI ?_ | refine r_neI ?_ | refine r_eqB ?_ | refine r_neB ?_ | refine r_eqS ?_ | refine r_neS ?_ | refine r_abs ?_ | refine r_max2 ?_ | refine r_min2 ?_ | refine r_yes ?_ | refine r_tup ?_ | refine r_sfld ?_ | refine r_m0 ?_ | refine r_m1 ?_ | refine r_lst ?_ | refine r_rng1 ?_ | refine r_rng2 ?_ | refine r_ixL (SqL.of (by assumption)) rfl ?_)
local macro_rules | `(tactic| walk_at "r") => `(tactic| repeat (first | walk_at "r1" | ((with_reducible refine r_var ?hv ?_); (case hv => rfl))))

theorem RowsT.append {H : Hp} {ts us : List Addr} {rows more : List (List Int)} (h : RowsT H ts rows) (g : RowsT H us more) : RowsT H (ts ++ us) (rows ++ more) := by
  refine ⟨by simp [h.1, g.1], fun i t r a b => ?_⟩
  by_cases c : i < ts.length
  · rw [List.getElem?_append_left c] at a
    rw [List.getElem?_append_left (h.1 ▸ c)] at b
    exact h.2 i t r a b
  · rw [List.getElem?_append_right (by omega)] at a
    rw [List.getElem?_append_right (by rw [← h.1]; omega), ← h.1] at b
    exact g.2 _ t r a b
theorem RowsT.over {H : Hp} {ts : List Addr} {rows : List (List Int)} {D : Addr} {o u : HO} (h : RowsT H ts rows) (d : H D = some o) (n : ∀ r : List Int, o ≠ .tup (r.map V.int)) : RowsT (upd H D u) ts rows := by
  refine ⟨h.1, fun i t r a b => ?_⟩
  have e := h.2 i t r a b
  rw [upd_ne (ne_of e d fun z => n _ z.symm)]
  exact e
section
variable {P : Program} {w : World} {K : PySem.W.Frag} {mg : Str → Option Value} {base : Heap}
theorem ok_rows {f : Addr} {fd : FuncData} (F : Fun K "_law_rows" "_law_rows" s__law_rows f fd) (Z : Zs mg) : FnG P w K mg base CX0 1 f fd ["sizes"] spRows := by
  refine okG F sc__law_rows (fun vs H Q E h => ?_) (fun cdv B up z H vs Q E hG hr h => ?_)
  · obtain ⟨a, zs, rfl, _⟩ := h
    rfl
  · obtain ⟨a, zs, rfl, hz, ha, k⟩ := h
    obtain ⟨l1, l3⟩ := menu_len zs hz
    have lz : (zs.map V.int).length = zs.length := List.length_map ..
    refine ⟨_, (pss_cons (ps_set (i := 1) sc__law_rows.nd rfl (by first | exact Or.inl rfl | exact Or.inr rfl) (pe_lst (pa_cons (pe_tup pa_nil) pa_nil)))
  (pss_cons (ps_for PassesOwn.never rfl (pi_list (pv 0)) (pg_name (i := 2) sc__law_rows.nd rfl (by first | exact Or.inl rfl | exact Or.inr rfl))
  (pss_cons (ps_set (i := 3) sc__law_rows.nd rfl (by first | exact Or.inl rfl | exact Or.inr rfl) (pe_lst pa_nil))
  (pss_cons (ps_for PassesOwn.never rfl (pi_list (pv 1)) (pg_name (i := 4) sc__law_rows.nd rfl (by first | exact Or.inl rfl | exact Or.inr rfl))
  (pss_one (ps_set (i := 3) sc__law_rows.nd rfl (by first | exact Or.inl rfl | exact Or.inr rfl) (pe_op op_cat (pv 3) (pe_lc (own := [("value", 5)]) (tt := tYes) rfl sc__law_rows.nd (pi_range1 (by rfl) Z.range_ (pa_cons (pv 2) pa_nil)) (blkOk_by (N := ["sizes", "found", "size", "longer", "row", "value"]) (sc := defScope s__law_rows) (by decide +kernel)) (fun _ _ _ _ _ => (pg_name (i := 5) sc__law_rows.nd rfl (by first | exact Or.inl rfl | exact Or.inr rfl))) (fun _ _ _ _ _ => pts_nil) (fun _ _ _ _ _ => (pe_op (show OpR _ _ (rCatA K) from op_catA) (pv 4) (pe_tup (pa_cons (pv 5) pa_nil)))))))))
  (pss_one (ps_set (i := 1) sc__law_rows.nd rfl (by first | exact Or.inl rfl | exact Or.inr rfl) (pv 3))))))
  (pss_one (ps_ret (pv 1))))), ?_⟩
    walk_at "r"
    refine ⟨Nat.zero_le _, fun t ht => ?_⟩
    walk_at "r"
    refine ⟨by show 1 ≤ sizeLine; decide, fun l hl => ?_⟩
    have s0 : Same H (upd (upd H t (.tup [])) l (.lst [.ref t])) := (Same.upd_new ht).trans (Same.upd_new hl)
    have tl : t ≠ l := fun e => by rw [← e, upd_same] at hl; cases hl
    have r0 : RowsT (upd (upd H t (.tup [])) l (.lst [.ref t])) [t] [[]] := by
      have := RowsT.push (H := upd (upd H t (.tup [])) l (.lst [.ref t])) (t := t) (r := []) RowsT.nil (by rw [upd_ne tl]; exact upd_same)
      exact this
    walk_at "r"
    refine ⟨_, rfl, a, rfl, ⟨_, SqL.of (s0 _ _ ha)⟩, for_list (K := K) (a := a) (xs := zs.map V.int) (fun i τ G => Same H G ∧ ∃ (m : Addr) (ts : List Addr) (v2 v3 v4 : Option V), τ = [some (.ref a), some (.ref m), v2, v3, v4, none] ∧ H m = none ∧ G m = some (.lst (ts.map V.ref)) ∧ RowsT G ts (allRows (zs.take i)))
      ⟨s0, l, [t], none, none, none, rfl, (Same.upd_new ht).free hl, upd_same, r0⟩ (fun i τ G _ p => SqL.of (p.1 _ _ ha)) ?_ ?_⟩
    · rintro i x τ G hx ⟨sG, m, ts, v2, v3, v4, rfl, hm, gm, rt⟩
      obtain ⟨y, hy, rfl⟩ := map_get hx
      have il : i < zs.length := (List.getElem?_eq_some_iff.mp hy).1
      obtain ⟨y1, y2⟩ := menu_mem zs hz y (List.mem_of_getElem? hy)
      have yd : zs.getD i 0 = y := by rw [List.getD_eq_getElem?_getD, hy]; rfl
      have rt' := rt
      generalize hrows : allRows (zs.take i) = rows at rt
      have r8 : rows.length ≤ 8 := hrows ▸ menu_rows8 zs hz i (by omega)
      walk_at "r"
      refine ⟨Nat.zero_le _, fun q hq => ?_⟩
      have s1 : Same G (upd G q (.lst [])) := Same.upd_new hq
      have g1 : (upd G q (.lst [])) q = some (.lst []) := upd_same
      generalize upd G q (.lst []) = G1 at s1 g1 ⊢
      walk_at "r"
      refine ⟨_, rfl, m, rfl, ⟨_, SqL.of (s1 _ _ gm)⟩, for_list (K := K) (a := m) (xs := ts.map V.ref) (fun j τ G2 => Same G G2 ∧ ∃ (lg : Addr) (us : List Addr) (v4 : Option V), τ = [some (.ref a), some (.ref m), some (.int y), some (.ref lg), v4, none] ∧ G lg = none ∧ G2 lg = some (.lst (us.map V.ref)) ∧ RowsT G2 us ((rows.take j).flatMap (more y)))
        ⟨s1, q, [], v4, rfl, hq, g1, by simpa using RowsT.nil⟩ (fun j τ G2 _ p => SqL.of (p.1 _ _ gm)) ?_ ?_⟩
      · rintro j x τ G2 hx ⟨s2, lg, us, v4', rfl, hlg, glg, ru⟩
        obtain ⟨u, hu, rfl⟩ := ref_get hx
        obtain ⟨r, hr', gu⟩ := rt.get hu
        have jl : j < rows.length := (List.getElem?_eq_some_iff.mp hr').1
        have rl : r.length ≤ 3 := menu_deep zs hz i (by omega) r (hrows ▸ List.mem_of_getElem? hr')
        walk_at "r"
        refine ⟨_, rfl, y, rfl, by omega, by omega, fun D hD => ?_⟩
        refine it_range (fun k G3 => Same G2 G3 ∧ ∃ ws : List Addr, G3 D = some (.lst (ws.map V.ref)) ∧ RowsT G3 ws ((more y r).take k))
          ⟨Same.upd_new hD, [], upd_same, by simpa using RowsT.nil⟩ (fun k G3 hk p3 => ?_) (fun G3 p3 => ?_)
        · obtain ⟨s3, ws, d3, ru3⟩ := p3
          refine r_gname ⟨rfl, ?_⟩
          walk_at "r"
          refine ⟨by show 1 ≤ sizeLine; decide, fun q hq => ?_⟩
          have s4 : Same G3 (upd G3 q (.tup [.int (0 + (k : Int))])) := Same.upd_new hq
          refine r_catInt (s4 _ _ (s3 _ _ (s2 _ _ gu))) upd_same (by omega) fun p4 G4 s5 g4 => ?_
          have s6 := s4.trans s5
          have d4 := s6 _ _ d3
          have len : ws.length ≤ 72 := by
            rw [ru3.1, List.length_take, more_len]
            omega
          refine ⟨ws.map V.ref, d4, by rw [List.length_map, sizeLine_eq]; omega, Same.over (s3.trans s6) hD, ws ++ [p4], by rw [upd_same, List.map_append]; rfl, ?_⟩
          rw [take_next (more_at (z := y) (r := r) hk)]
          have g4' : (upd G4 D (.lst (ws.map V.ref ++ [V.ref p4]))) p4 = some (.tup ((r ++ [(k : Int)]).map V.int)) := by
            have ne : p4 ≠ D := ne_of g4 d4 (by intro e; cases e)
            rw [upd_ne ne, g4]
            simp
          exact RowsT.push ((ru3.same s6).over d4 (by intro _ e; cases e)) g4'
        · obtain ⟨s3, ws, d3, ru3⟩ := p3
          have mt : (more y r).take y.toNat = more y r := by rw [List.take_of_length_le]; rw [more_len]; exact Nat.le_refl _
          rw [mt] at ru3
          have l1 : us.length ≤ 64 := by
            rw [ru.1]
            have h1 := menu_rows zs hz i (by omega) j (by omega)
            rwa [hrows, yd] at h1
          have l2 : ws.length ≤ 8 := by
            rw [ru3.1, more_len]
            omega
          refine ⟨lg, D, us.map V.ref, ws.map V.ref, rfl, rfl, s3 _ _ glg, d3, by rw [List.length_map, List.length_map, sizeLine_eq]; omega, fun p hp => ?_⟩
          have s4 : Same G3 (upd G3 p (.lst (us.map V.ref ++ ws.map V.ref))) := Same.upd_new hp
          refine ⟨(s2.trans s3).trans s4, p, us ++ ws, _, rfl, (s2.trans s3).free hp, by rw [upd_same, List.map_append], ?_⟩
          rw [flat_next hr']
          exact RowsT.append ((ru.same s3).same s4) (ru3.same s4)
      · rintro τ G2 ⟨s2, lg, us, v4', rfl, hlg, glg, ru⟩
        walk_at "r"
        refine ⟨sG.trans s2, lg, us, _, _, _, rfl, sG.free hlg, glg, ?_⟩
        rw [rows_take hy, hrows]
        have e : (rows.take (ts.map V.ref).length) = rows := by rw [List.length_map, rt.1, List.take_length]
        rw [e] at ru
        exact ru
    · rintro τ G ⟨sG, m, ts, v2, v3, v4, rfl, hm, gm, rt⟩
      rw [lz, List.take_length] at rt
      walk_at "r"
      exact k G m ts sG hm gm rt
end
end Eld
set_option Elab.async false
set_option maxRecDepth 100000
set_option maxHeartbeats 4000000
set_option linter.all false
namespace Eld
open PySem L2
local macro_rules | `(tactic| walk_at "r1") => `(tactic| with_reducible first
  | refine r_seq ?_ | refine r_asgN ?_ | refine r_asg ?_ | refine r_gname ?_ | refine r_gsub ?_ | refine r_var rfl ?_ | refine r_c ?_ | refine r_op ?_ | refine r_un ?_ | refine r_u ?_ | refine r_i0 ?_ | refine r_cb ?_ | refine r_cons ?_ | refine r_nil ?_ | refine r_cl ?_ | refine r_fn rfl rfl ?_ | refine r_mt ?_
  | refine r_test ?_ | refine r_tb ?_ | refine r_bl ?_ | refine r_and ?_ | refine r_or ?_ | refine r_not ?_ | refine r_andV ?_ | refine r_orV ?_ | refine r_notV ?_ | refine r_ifX ?_ | refine r_ifs ?_ | refine r_chain ?_ | refine r_ret ?_ | refine r_next ?_ | refine r_drop ?_ | refine iteT ?_ | refine iteF ?_ | refine iteNT ?_ | refine iteNF ?_
  | refine r_int1 ?_ | refine r_boolB ?_ | refine r_eqI ?_ | refine r_neI ?_ | refine r_eqB ?_ | refine r_neB ?_ | refine r_eqS ?_ | refine r_neS ?_ | refine r_abs ?_ | refine r_max2 ?_ | refine r_min2 ?_ | refine r_yes ?_ | refine r_tup ?_ | refine r_sfld ?_ | refine r_m0 ?_ | refine r_m1 ?_ | refine r_lst ?_ | refine r_rng1 ?_ | refine r_rng2 ?_ | refine r_ixL (SqL.of (by assumption)) rfl ?_)
local macro_rules | `(tactic| walk_at "r") => `(tactic| repeat (first | walk_at "r1" | ((with_reducible refine r_var ?hv ?_); (case hv => rfl))))

theorem if_both {c : Bool} {ta tb : TE} {σ : L2.St} {H : Hp} {Q : VK} (R : VK → Prop) (hA : c = true → ∀ Q, R Q → ta σ H Q) (hB : c = false → ∀ Q, R Q → tb σ H Q) (h : R Q) : if c = true then ta σ H Q else tb σ H Q := by
  cases c with
  | true => exact hA rfl Q h
  | false => exact hB rfl Q h
theorem r_for {wi : TI} {g : TG} {tb : TS} {D : Ends} {σ : L2.St} {H : Hp} (h : wi σ H fun J H1 => ∃ W : Nat → Nat → L2.St → Hp → Prop, (∃ m, W 0 m σ H1) ∧ ∀ i m σ H, W i m σ H →
    (J.stop i H ∧ D.nx σ H) ∨ (J.go i H ∧ ∃ N : L2.St → Hp → Prop, (∀ σ' H', N σ' H' → ∃ m', m' < m ∧ W (i + 1) m' σ' H') ∧ ∀ x H', J.yld i H x H' → g x σ H' fun σ2 H2 => tb { D with nx := N, ct := N, bk := D.nx } σ2 H2)) : tFor wi g tb D σ H := h
theorem r_lc {wi : TI} {g : TG} {tt : TT} {te : TE} {vs : List Nat} {σ : L2.St} {H : Hp} {Q : VK} (h : wi σ H fun J H1 => ∀ D, H1 D = none → ∃ W : Nat → Nat → Hp → Prop, (∃ m, W 0 m (upd H1 D (.lst []))) ∧ ∀ i m H, W i m H →
    (J.stop i H ∧ Q (.ref D) H) ∨ (J.go i H ∧ ∃ Nx : Hp → Prop, (∀ H', Nx H' → ∃ m', m' < m ∧ W (i + 1) m' H') ∧ ∀ x H', J.yld i H x H' → g x (wipe σ vs) H' fun σ2 H2 => wipe σ2 vs = wipe σ vs ∧ tt σ2 H2 fun b H3 =>
      if b = true then te σ2 H3 fun y H4 => ∃ acc, H4 D = some (.lst acc) ∧ acc.length < sizeLine ∧ Nx (upd H4 D (.lst (acc ++ [y]))) else Nx H3)) : tLc wi g tt te vs σ H Q := h
theorem r_il {K : PySem.W.Frag} {tl : TE} {σ : L2.St} {H : Hp} {R : It → Hp → Prop} (h : tl σ H fun x H1 => ∃ a, x = .ref a ∧ (∃ xs, SqL K H1 a xs) ∧ R (Itl K a) H1) : iList K tl σ H R := h
theorem SpaceAt.but {C : Addr} {H H' : Hp} {p b : Addr} {n : Nat} {zs : List Int} (h : SpaceAt C H p zs) (hb : BoxAt H b n) (s : But b H H') : SpaceAt C H' p zs := by
  obtain ⟨dx, tz, q, ts, h1, h2, h3, h4⟩ := h
  have t : ∀ a o, H a = some o → (∀ g m c t, o ≠ .lst [.int g, .bl t, .int m, .int c]) → H' a = some o := fun a o e d => s a o (hb.ne e d) e
  exact ⟨dx, tz, q, ts, t _ _ h1 (by intro _ _ _ _ e; cases e), t _ _ h2 (by intro _ _ _ _ e; cases e), (by obtain ⟨o, e, d⟩ := h3; exact ⟨o, t _ _ e (by intro _ _ _ _ e; cases e), d⟩), h4.1, fun i u r a b => t _ _ (h4.2 i u r a b) (by intro _ _ _ _ e; cases e)⟩
theorem RowsT.but {H H' : Hp} {b : Addr} {n : Nat} {ts : List Addr} {rows : List (List Int)} (h : RowsT H ts rows) (hb : BoxAt H b n) (s : But b H H') : RowsT H' ts rows :=
  ⟨h.1, fun i t r x y => s _ _ (hb.ne (h.2 i t r x y) (by intro _ _ _ _ e; cases e)) (h.2 i t r x y)⟩
theorem refs_keep {H H' : Hp} {b m : Addr} {n : Nat} {ts : List Addr} (h : H m = some (.lst (ts.map V.ref))) (hb : BoxAt H b n) (s : But b H H') : H' m = some (.lst (ts.map V.ref)) := by
  refine s _ _ (hb.ne h ?_) h
  intro g m' c t e
  cases ts with
  | nil => cases e
  | cons x ts => cases e
theorem ints_keep {H H' : Hp} {b m : Addr} {n : Nat} {zs : List Int} (h : H m = some (.lst (zs.map V.int))) (hb : BoxAt H b n) (s : But b H H') : H' m = some (.lst (zs.map V.int)) := by
  refine s _ _ (hb.ne h ?_) h
  intro g m' c t e
  match zs, e with
  | [], e => cases e
  | [_], e => cases e
  | _ :: _ :: _, e => cases e
theorem But.upd_new {b p : Addr} {H : Hp} {o : HO} (h : H p = none) : But b H (upd H p o) := But.of (Same.upd_new h)
/-- what repr asks of a row -/
def showsOk (d : PyData) : Bool := d.showable && !d.hasDict && decide (d.depth ≤ 60) && decide (d.shown.length ≤ 1000)
theorem r_reprOk {K : PySem.W.Frag} {H : Hp} {Q : VK} {a : Addr} {d : PyData} (h : Dp K H (.ref a) d) (ok : showsOk d = true) (q : Q (.str d.shown) H) : rReprD K [.ref a] H Q := by
  simp only [showsOk, Bool.and_eq_true, Bool.not_eq_true', decide_eq_true_eq] at ok
  obtain ⟨⟨⟨h1, h2⟩, h3⟩, h4⟩ := ok
  exact ⟨a, d, rfl, h, h1, h2, h3, by rw [sizeLine_eq]; omega, q⟩
theorem menu_shows : ∀ zs ∈ menu, ∀ r ∈ allRows zs, showsOk (tupD r) = true := by decide +kernel
theorem menu_many : ∀ zs ∈ menu, 2 ≤ (allRows zs).length ∧ (allRows zs).length ≤ 8 := by decide
abbrev byBoth : List V → List V → List V := fun xs ys => xs ++ ys
def spStoresRight (C : Addr) : Sp := fun vs H Q _ => ∃ (b p m : Addr) (n : Nat) (zs : List Int) (ts : List Addr), vs = [.ref b, .ref p, .ref m] ∧ zs ∈ menu ∧ BoxAt H b n ∧ n < 3000000 ∧ SpaceAt C H p zs ∧ H m = some (.lst (ts.map V.ref)) ∧ RowsT H ts (allRows zs) ∧
  ∀ H', BoxAt H' b (n + 50) → But b H H' → Q (.bl true) H'
section
variable {P : Program} {w : World} {K : PySem.W.Frag} {mg : Str → Option Value} {base : Heap} {C : Addr}
theorem ok_stores_right {f : Addr} {fd : FuncData} (F : Fun K "_law_stores_right" "_law_stores_right" s__law_stores_right f fd) (Z : Zs mg) (S : Sc K mg C) (d__law_take : DefD P w K mg base 1 "_law_take" 2 [] byPlace spTake)
    (d__law_whole : DefD P w K mg base 1 "_law_whole" 1 [] byPlace spIsInt) (m_at : MetD P w K mg base 3 C "at" 2 [] byPlace (spAt C)) (m_at_store : MetD P w K mg base 3 C "at" 1 ["store"] byBoth (spAt C))
    (m_store : MetD P w K mg base 4 C "store" 2 [] byPlace (spStore C)) (m_store_values : MetD P w K mg base 4 C "store" 1 ["values"] byBoth (spStore C)) : FnG P w K mg base CX0 5 f fd ["box", "space", "rows"] (spStoresRight C) := by
  refine okG F sc__law_stores_right (fun vs H Q E h => ?_) (fun cdv B up z H vs Q E hG hr h => ?_)
  · obtain ⟨b, p, m, n, zs, ts, rfl, _⟩ := h
    rfl
  · have hu : (B.deeper (PyProof.Rows.envOfC "_law_stores_right" (defScope s__law_stores_right) z.heap.objs.size f cdv)).units + 64 < cLine := by have := hr.un; omega
    obtain ⟨b, p, m, n, zs, ts, rfl, hz, hb, hn, sp, hm, rt, k⟩ := h
    obtain ⟨N2, N8⟩ := menu_many zs hz
    refine ⟨_, (pss_cons (ps_set (i := 3) sc__law_stores_right.nd rfl (by first | exact Or.inl rfl | exact Or.inr rfl) (pe_callB (show CallR _ _ (rLen K) from c_len) (by rfl) Z.len_ (by decide +kernel) (pa_cons (pv 2) pa_nil)))
  (pss_cons (ps_set (i := 4) sc__law_stores_right.nd rfl (by first | exact Or.inl rfl | exact Or.inr rfl) (pe_ix (show IxR _ (rIxL K) from ix_list) (pe_lst (pa_cons pe_int (pa_cons (pe_op op_sub (pv 3) pe_int) (pa_cons pe_int (pa_cons (pe_op op_add (pv 3) pe_int) pa_nil))))) (pd_pos d__law_take hG hr (by decide) (by rfl) (pa_cons (pv 0) (pa_cons pe_int pa_nil))) (fun _ _ => rfl)))
  (pss_cons (ps_for PassesOwn.never rfl (pi_range1 (by rfl) Z.range_ (pa_cons (pe_op op_mul pe_int (pv 3)) pa_nil)) (pg_name (i := 5) sc__law_stores_right.nd rfl (by first | exact Or.inl rfl | exact Or.inr rfl))
  (pss_cons (ps_set (i := 6) sc__law_stores_right.nd rfl (by first | exact Or.inl rfl | exact Or.inr rfl) (pe_op op_mod (pe_callTy c_int (by rfl) Z.int_ (by decide +kernel) (pa_cons (pe_op op_add (pe_op op_mul (pv 5) (pv 4)) (pd_pos d__law_take hG hr (by decide) (by rfl) (pa_cons (pv 0) (pa_cons (pv 3) pa_nil)))) pa_nil)) (pv 3)))
  (pss_cons (ps_set (i := 7) sc__law_stores_right.nd rfl (by first | exact Or.inl rfl | exact Or.inr rfl) (pe_ifExp (pt_cmpR op_lt (pv 5) (pv 3) (nomark _)) (pq_pos m_at hG hr (by decide) (pv 1) (pa_cons (pv 6) pa_nil)) (pq_kw0 m_at_store hG hr (by decide) (pv 1) (pk_cons (pv 6) pk_nil))))
  (pss_cons (ps_if (PW.pt (pw_or (pt_not (pt_val (pe_callB call_isi (by rfl) Z.isinstance_ (by decide +kernel) (pa_cons (pv 7) (pa_cons (pe_ty "tuple" (by rfl) Z.tuple_ (by decide +kernel)) pa_nil))))) (pw_or1 (pt_cmpR op_ne (pe_callB (show CallR _ _ (rReprD K) from call_reprD hG hu) (by rfl) Z.repr_ (by decide +kernel) (pa_cons (pv 7) pa_nil)) (pe_callB (show CallR _ _ (rReprD K) from call_reprD hG hu) (by rfl) Z.repr_ (by decide +kernel) (pa_cons (pe_ix (show IxR _ (rIxL K) from ix_list) (pv 2) (pv 6) (fun _ _ => rfl)) pa_nil)) (nomark _))))) (pss_one (ps_ret pe_bl)) pss_nil)
  (pss_cons (ps_set (i := 8) sc__law_stores_right.nd rfl (by first | exact Or.inl rfl | exact Or.inr rfl) (pe_callTy (show CallR _ _ (rListOf K) from c_list) (by rfl) Z.list_ (by decide +kernel) (pa_cons (pe_ix (show IxR _ (rIxL K) from ix_list) (pv 2) (pv 6) (fun _ _ => rfl)) pa_nil)))
  (pss_cons (ps_set (i := 9) sc__law_stores_right.nd rfl (by first | exact Or.inl rfl | exact Or.inr rfl) (pe_ifExp (pt_cmpR op_eq (pd_pos d__law_take hG hr (by decide) (by rfl) (pa_cons (pv 0) (pa_cons pe_int pa_nil))) pe_int (nomark _)) (pq_pos m_store hG hr (by decide) (pv 1) (pa_cons (pv 8) pa_nil)) (pq_kw0 m_store_values hG hr (by decide) (pv 1) (pk_cons (pe_ix (show IxR _ (rIxL K) from ix_list) (pv 2) (pv 6) (fun _ _ => rfl)) pk_nil))))
  (pss_one (ps_if (PW.pt (pw_or (pt_not (pt_val (pd_pos d__law_whole hG hr (by decide) (by rfl) (pa_cons (pv 9) pa_nil)))) (pw_or (pt_cmpR op_ne (pv 9) (pv 6) (nomark _)) (pw_or1 (pt_cmpR (show OpR _ _ (rNeD K) from op_neD hu) (pv 8) (pe_callTy (show CallR _ _ (rListOf K) from c_list) (by rfl) Z.list_ (by decide +kernel) (pa_cons (pe_ix (show IxR _ (rIxL K) from ix_list) (pv 2) (pv 6) (fun _ _ => rfl)) pa_nil)) (nomark _)))))) (pss_one (ps_ret pe_bl)) pss_nil))))))))
  (pss_one (ps_ret (pe_cmpR (show OpR _ _ (rEqD K) from op_eqD hu) (pe_lc (own := [("store", 6)]) (tt := _) rfl sc__law_stores_right.nd (pi_range1 (by rfl) Z.range_ (pa_cons (pv 3) pa_nil)) (blkOk_by (N := ["box", "space", "rows", "many", "step", "turn", "store", "told", "handed", "back"]) (sc := defScope s__law_stores_right) (by decide +kernel)) (fun _ _ _ _ _ => (pg_name (i := 6) sc__law_stores_right.nd rfl (by first | exact Or.inl rfl | exact Or.inr rfl))) (fun _ _ _ _ _ => (pts_one (PW.pt (pw_or (pt_cmpR (show OpR _ _ (rNeD K) from op_neD hu) (pq_pos m_at hG hr (by decide) (pv 1) (pa_cons (pv 6) pa_nil)) (pe_ix (show IxR _ (rIxL K) from ix_list) (pv 2) (pv 6) (fun _ _ => rfl)) (nomark _)) (pw_or1 (pt_cmpR op_ne (pq_pos m_store hG hr (by decide) (pv 1) (pa_cons (pe_ix (show IxR _ (rIxL K) from ix_list) (pv 2) (pv 6) (fun _ _ => rfl)) pa_nil)) (pv 6) (nomark _))))))) (fun _ _ _ _ _ => (pv 6))) (pe_lst pa_nil) (nomark _))))))), ?_⟩
    walk_at "r"
    refine r_lenL (SqL.of hm) ?_
    rw [List.length_map, rt.1]
    generalize hN : (allRows zs).length = N at N2 N8
    walk_at "r"
    refine ⟨by show 4 ≤ sizeLine; decide, fun l hl => ?_⟩
    have s1 := Same.upd_new (o := .lst [.int 1, .int ((N : Nat) - 1), .int 1, .int ((N : Nat) + 1)]) hl
    have g1 : (upd H l (.lst [.int 1, .int ((N : Nat) - 1), .int 1, .int ((N : Nat) + 1)])) l = some (.lst [.int 1, .int ((N : Nat) - 1), .int 1, .int ((N : Nat) + 1)]) := upd_same
    generalize upd H l (.lst [.int 1, .int ((N : Nat) - 1), .int 1, .int ((N : Nat) + 1)]) = H1 at s1 g1 ⊢
    walk_at "r"
    refine ⟨b, 4, n, rfl, hb.same s1, by omega, by decide, by decide, fun r H2 r0 r1 b2 but2 => ?_⟩
    have g2 := but2 _ _ ((hb.same s1).ne g1 (by intro _ _ _ _ e; cases e)) g1
    have bt2 : But b H H2 := (But.of s1).trans but2
    have step : ∃ st : Int, atI [V.int 1, .int ((N : Nat) - 1), .int 1, .int ((N : Nat) + 1)] r = some (.int st) ∧ 0 ≤ st ∧ st ≤ 9 := by
      obtain rfl | rfl | rfl | rfl : r = 0 ∨ r = 1 ∨ r = 2 ∨ r = 3 := by omega
      · exact ⟨1, rfl, by omega, by omega⟩
      · exact ⟨_, rfl, by omega, by omega⟩
      · exact ⟨1, rfl, by omega, by omega⟩
      · exact ⟨_, rfl, by omega, by omega⟩
    obtain ⟨st, est, st0, st9⟩ := step
    refine r_ixL (SqL.of g2) est ?_
    walk_at "r"
    refine r_for ?_
    walk_at "r"
    refine r_i (.inl ⟨by decide, by decide⟩) ?_
    refine ⟨_, rfl, by omega, by omega, ?_⟩
    refine for_range (fun i τ G => ∃ v5 v6 v7 v8 v9 : Option V, τ = [some (.ref b), some (.ref p), some (.ref m), some (.int (N : Nat)), some (.int st), v5, v6, v7, v8, v9] ∧ BoxAt G b (n + 1 + 2 * i) ∧ But b H G)
      ⟨none, none, none, none, none, rfl, b2, bt2⟩ ?_ ?_
    · rintro i τ G hi ⟨v5, v6, v7, v8, v9, rfl, bG, btG⟩
      have i16 : i < 16 := by omega
      have spG := sp.but hb btG
      have rtG := rt.but hb btG
      have mG := refs_keep hm hb btG
      walk_at "r"
      refine r_i (.inl ⟨by omega, by omega⟩) ?_
      walk_at "r"
      refine ⟨b, (N : Nat), _, rfl, bG, by omega, by omega, by omega, fun r H3 r0 r1 b3 but3 => ?_⟩
      walk_at "r"
      refine r_i (by omega) ?_
      have j0 := Int.emod_nonneg ((0 + (i : Int)) * st + r) (show ((N : Nat) : Int) ≠ 0 by omega)
      have j1 := Int.emod_lt_of_pos ((0 + (i : Int)) * st + r) (show (0 : Int) < ((N : Nat) : Int) by omega)
      generalize ((0 + (i : Int)) * st + r) % ((N : Nat) : Int) = j at j0 j1 ⊢
      obtain ⟨s, rfl⟩ := Int.eq_ofNat_of_zero_le j0
      have sN : s < N := by omega
      have sR : s < (allRows zs).length := hN ▸ sN
      have sT : s < ts.length := rt.1 ▸ sR
      have hrow : (allRows zs)[s]? = some (allRows zs)[s] := List.getElem?_eq_getElem sR
      have ht : ts[s]? = some ts[s] := List.getElem?_eq_getElem sT
      have rmem : (allRows zs)[s] ∈ allRows zs := List.getElem_mem sR
      generalize (allRows zs)[s] = row at hrow rmem
      generalize ts[s] = t at ht
      have sp3 := spG.but bG but3
      have rt3 := rtG.but bG but3
      have m3 := refs_keep mG bG but3
      have t3 := rt3.2 s t row ht hrow
      obtain ⟨dx, tz, q, ts', p1, p2, p3, p4⟩ := sp3
      have sp3 : SpaceAt C H3 p zs := ⟨dx, tz, q, ts', p1, p2, p3, p4⟩
      have ixm : atI (ts.map V.ref) ((s : Nat) : Int) = some (.ref t) := atI_nat (by rw [List.getElem?_map, ht]; rfl)
      walk_at "r"
      refine if_both (fun Q => ∀ t', H3 t' = some (.tup (row.map V.int)) → Q (.ref t') H3) (fun _ Q kk => ?_) (fun _ Q kk => ?_) (fun t' ht' => ?_)
      · walk_at "r"
        refine ⟨p, dx, _, rfl, p1, spF_no _ _ _ (by decide +kernel) (by decide +kernel) (by decide +kernel), ?_⟩
        walk_at "r"
        exact ⟨p, zs, s, row, rfl, sp3, hrow, kk⟩
      · walk_at "r"
        refine ⟨p, dx, _, rfl, p1, spF_no _ _ _ (by decide +kernel) (by decide +kernel) (by decide +kernel), ?_⟩
        walk_at "r"
        exact ⟨p, zs, s, row, rfl, sp3, hrow, kk⟩
      have shows := menu_shows zs hz row rmem
      walk_at "r"
      refine r_isiB (b := true) (.base (.tup ht')) (by decide +kernel) ?_
      walk_at "r"
      refine r_reprOk (tup_dp ht') shows ?_
      walk_at "r"
      refine r_ixL (SqL.of m3) ixm ?_
      walk_at "r"
      refine r_reprOk (tup_dp t3) shows ?_
      walk_at "r"
      rw [decide_eq_true rfl]
      walk_at "r"
      refine r_ixL (SqL.of m3) ixm ?_
      walk_at "r"
      refine r_listT (SqT.of t3) fun h hh => ?_
      have sh := Same.upd_new (o := .lst (row.map V.int)) hh
      have gh : (upd H3 h (.lst (row.map V.int))) h = some (.lst (row.map V.int)) := upd_same
      have b3' := b3.same sh
      generalize upd H3 h (.lst (row.map V.int)) = H4 at sh gh b3' ⊢
      walk_at "r"
      refine ⟨b, 2, _, rfl, b3', by omega, by decide, by decide, fun r2 H5 r20 r21 b5 but5 => ?_⟩
      have sp5 := (sp3.same sh).but b3' but5
      have rt5 := (rt3.same sh).but b3' but5
      have m5 := refs_keep (sh _ _ m3) b3' but5
      have h5 := ints_keep gh b3' but5
      have t5 := rt5.2 s t row ht hrow
      obtain ⟨dx5, tz5, q5, ts5, p51, p52, p53, p54⟩ := sp5
      have sp5 : SpaceAt C H5 p zs := ⟨dx5, tz5, q5, ts5, p51, p52, p53, p54⟩
      walk_at "r"
      refine if_both (fun Q => ∀ H6, Same H5 H6 → Q (.int (s : Nat)) H6) (fun _ Q kk => ?_) (fun _ Q kk => ?_) (fun H6 s6 => ?_)
      · walk_at "r"
        refine ⟨p, dx5, _, rfl, p51, spF_no _ _ _ (by decide +kernel) (by decide +kernel) (by decide +kernel), ?_⟩
        walk_at "r"
        exact ⟨p, h, zs, s, row, rfl, hz, sp5, .inl h5, hrow, kk⟩
      · walk_at "r"
        refine ⟨p, dx5, _, rfl, p51, spF_no _ _ _ (by decide +kernel) (by decide +kernel) (by decide +kernel), ?_⟩
        walk_at "r"
        refine r_ixL (SqL.of m5) ixm ?_
        walk_at "r"
        exact ⟨p, t, zs, s, row, rfl, hz, sp5, .inr t5, hrow, kk⟩
      walk_at "r"
      refine ⟨_, rfl, ?_⟩
      walk_at "r"
      rw [decide_eq_true rfl]
      walk_at "r"
      refine r_ixL (SqL.of (s6 _ _ m5)) ixm ?_
      walk_at "r"
      refine r_listT (SqT.of (s6 _ _ t5)) fun h2 hh2 => ?_
      have sh2 := Same.upd_new (o := .lst (row.map V.int)) hh2
      have gh2 : (upd H6 h2 (.lst (row.map V.int))) h2 = some (.lst (row.map V.int)) := upd_same
      generalize upd H6 h2 (.lst (row.map V.int)) = H7 at sh2 gh2 ⊢
      refine ⟨_, _, lst_dp (sh2 _ _ (s6 _ _ h5)), lst_dp gh2, lst_shaped _, lst_shaped _, ?_⟩
      rw [lst_eqv, decide_eq_true rfl]
      walk_at "r"
      have all : But b G H7 := (((but3.trans (But.of sh)).trans but5).trans (But.of s6)).trans (But.of sh2)
      refine ⟨_, _, _, _, _, rfl, ((b5.same s6).same sh2).mono (by omega), btG.trans all⟩
    · rintro τ G ⟨v5, v6, v7, v8, v9, rfl, bG, btG⟩
      have spG := sp.but hb btG
      have rtG := rt.but hb btG
      have mG := refs_keep hm hb btG
      walk_at "r"
      refine r_lc ?_
      walk_at "r"
      refine ⟨_, rfl, by omega, by omega, fun D hD => ?_⟩
      refine it_range (fun i G2 => Same G G2 ∧ G2 D = some (.lst [])) ⟨Same.upd_new hD, upd_same⟩ (fun i G2 hi p2 => ?_) (fun G2 p2 => ?_)
      · obtain ⟨s2, d2⟩ := p2
        have iN : i < N := by omega
        have sR : i < (allRows zs).length := hN ▸ iN
        have sT : i < ts.length := rt.1 ▸ sR
        have hrow : (allRows zs)[i]? = some (allRows zs)[i] := List.getElem?_eq_getElem sR
        have ht : ts[i]? = some ts[i] := List.getElem?_eq_getElem sT
        generalize (allRows zs)[i] = row at hrow
        generalize ts[i] = t at ht
        have sp2 := spG.same s2
        have t2 := s2 _ _ (rtG.2 i t row ht hrow)
        obtain ⟨dx, tz, q, ts', p1, p2, p3, p4⟩ := sp2
        have sp2 : SpaceAt C G2 p zs := ⟨dx, tz, q, ts', p1, p2, p3, p4⟩
        have ixm : atI (ts.map V.ref) ((i : Nat) : Int) = some (.ref t) := atI_nat (by rw [List.getElem?_map, ht]; rfl)
        refine r_gname ⟨rfl, ?_⟩
        rw [Int.zero_add]
        walk_at "r"
        refine ⟨p, dx, _, rfl, p1, spF_no _ _ _ (by decide +kernel) (by decide +kernel) (by decide +kernel), ?_⟩
        walk_at "r"
        refine ⟨p, zs, i, row, rfl, sp2, hrow, fun t' ht' => ?_⟩
        walk_at "r"
        refine r_ixL (SqL.of (s2 _ _ mG)) ixm ?_
        refine ⟨_, _, tup_dp ht', tup_dp t2, tup_shaped _, tup_shaped _, ?_⟩
        rw [tup_eqv, decide_eq_true rfl]
        walk_at "r"
        refine ⟨p, dx, _, rfl, p1, spF_no _ _ _ (by decide +kernel) (by decide +kernel) (by decide +kernel), ?_⟩
        walk_at "r"
        refine r_ixL (SqL.of (s2 _ _ mG)) ixm ?_
        walk_at "r"
        refine ⟨p, t, zs, i, row, rfl, hz, sp2, .inr t2, hrow, fun G3 s3 => ?_⟩
        walk_at "r"
        rw [decide_eq_true rfl]
        walk_at "r"
        exact ⟨s2.trans s3, s3 _ _ d2⟩
      · obtain ⟨s2, d2⟩ := p2
        walk_at "r"
        refine ⟨Nat.zero_le _, fun l2 hl2 => ?_⟩
        refine ⟨_, _, lst_dp (r := []) (Same.upd_new hl2 _ _ d2), lst_dp (r := []) upd_same, lst_shaped _, lst_shaped _, ?_⟩
        rw [lst_eqv, decide_eq_true rfl]
        exact k _ (((bG.same s2).same (Same.upd_new hl2)).mono (by omega)) (btG.trans (But.of (s2.trans (Same.upd_new hl2))))
end
end Eld
set_option Elab.async false
set_option maxRecDepth 100000
set_option maxHeartbeats 4000000
set_option linter.all false
namespace Eld
open PySem L2
local macro_rules | `(tactic| walk_at "r1") => `(tactic| with_reducible first
  | refine r_seq ?_ | refine r_asgN ?_ | refine r_asg ?_ | refine r_gname ?_ | refine r_gsub ?_ | refine r_var rfl ?_ | refine r_c ?_ | refine r_op ?_ | refine r_un ?_ | refine r_u ?_ | refine r_i0 ?_ | refine r_cb ?_ | refine r_cons ?_ | refine r_nil ?_ | refine r_cl ?_ | refine r_fn rfl rfl ?_ | refine r_mt ?_
  | refine r_test ?_ | refine r_tb ?_ | refine r_bl ?_ | refine r_and ?_ | refine r_or ?_ | refine r_not ?_ | refine r_andV ?_ | refine r_orV ?_ | refine r_notV ?_ | refine r_ifX ?_ | refine r_ifs ?_ | refine r_chain ?_ | refine r_ret ?_ | refine r_next ?_ | refine r_drop ?_ | refine iteT ?_ | refine iteF ?_ | refine iteNT ?_ | refine iteNF ?_
  | refine r_int1 ?_ | refine r_boolB ?_ | refine r_eqI ?_ | refine r_neI ?_ | refine r_eqB ?_ | refine r_neB ?_ | refine r_eqS ?_ | refine r_neS ?_ | refine r_abs ?_ | refine r_max2 ?_ | refine r_min2 ?_ | refine r_yes ?_ | refine r_tup ?_ | refine r_sfld ?_ | refine r_m0 ?_ | refine r_m1 ?_ | refine r_lst ?_ | refine r_rng1 ?_ | refine r_rng2 ?_ | refine r_ixL (SqL.of (by assumption)) rfl ?_)
local macro_rules | `(tactic| walk_at "r") => `(tactic| repeat (first | walk_at "r1" | ((with_reducible refine r_var ?hv ?_); (case hv => rfl))))

section
variable (P : Program) (w : World) (K : PySem.W.Frag) (mg : Str → Option Value) (base : Heap)
/-- len of the class at C -/
def LenD (k : Nat) (C : Addr) (sp : Sp) : Prop := ∃ (f : Addr) (fd : FuncData) (ps : List Str), FnG P w K mg base CX0 k f fd ps sp ∧ Binds K fd ps [] ∧ PySem.W.findIn K (.ref C) "__len__" = some (some (.ref f)) ∧ PySem.W.isFn K (.ref f) = true
/-- == and != of the class at C -/
def EqD (k : Nat) (C : Addr) (sp : Sp) : Prop := ∃ (f : Addr) (fd : FuncData) (ps : List Str), FnG P w K mg base CX0 k f fd ps sp ∧ Binds K fd ps [] ∧ PySem.W.findIn K (.ref C) "__eq__" = some (some (.ref f)) ∧ PySem.W.isFn K (.ref f) = true ∧
  PySem.W.findIn K (.ref C) "__ne__" = some (some (.builtin "object.__ne__")) ∧ PySem.W.subIn K (.ref C) (.type "object") = some true
/-- none of these types is first asked -/
structure Ss (C : Addr) : Prop where
  sN : PySem.W.subIn K (.type "NoneType") (.ref C) = some false
  sL : PySem.W.subIn K (.type "list") (.ref C) = some false
  sT : PySem.W.subIn K (.type "tuple") (.ref C) = some false
  sS : PySem.W.subIn K (.type "str") (.ref C) = some false
  sI : PySem.W.subIn K (.type "int") (.ref C) = some false
  sB : PySem.W.subIn K (.type "bool") (.ref C) = some false
end
section
variable {X : Cx} {C : Addr} {k j : Nat} {sp : Sp}
theorem c_lenD (d : LenD X.prog X.w X.K X.mg X.base k C sp) (hG : X.A.guards = some []) (hr : Room j X.A) (hk : k + 1 ≤ j) : CallR X (.builtin "len") (rOwnLen C sp E0) := by
  obtain ⟨f, fd, ps, F, b, hs, hf⟩ := d
  exact call_ownLen F b pass0 hs hf hG (hr.mono hk)
theorem op_eqS (d : EqD X.prog X.w X.K X.mg X.base k C sp) (hG : X.A.guards = some []) (hr : Room j X.A) (hk : k ≤ j) : OpR X (compareOp .Eq) (rOwnC X.K C sp E0) := by
  obtain ⟨f, fd, ps, F, b, hs, hf, _⟩ := d
  exact op_ownEq F b pass0 hs hf hG (hr.mono hk)
theorem op_neS (d : EqD X.prog X.w X.K X.mg X.base k C sp) (hG : X.A.guards = some []) (hr : Room j X.A) (hk : k + 1 ≤ j) : OpR X (compareOp .NotEq) (rOwnNe X.K C sp E0) := by
  obtain ⟨f, fd, ps, F, b, hs, hf, hn, ho⟩ := d
  exact op_ownNe F b pass0 hs hf hn ho hG (hr.mono hk)
end
theorem first_self {K : PySem.W.Frag} {C : Addr} : PySem.W.notFirst K C (.ref C) = true := by simp [PySem.W.notFirst]
theorem first_sub {K : PySem.W.Frag} {C : Addr} {t : Value} (h : PySem.W.subIn K t (.ref C) = some false) : PySem.W.notFirst K C t = true := by simp [PySem.W.notFirst, h]
theorem menu_shows2 : ∀ zs ∈ menu, showsOk (tupD zs) = true := by decide +kernel
theorem menu_shows3 : ∀ zs ∈ menu, showsOk (.list [.int ((allRows zs).length : Nat), .int ((allRows zs).length : Nat), .str (lineOf zs)]) = true := by decide +kernel
def spSpaceRight (C : Addr) : Sp := fun vs H Q _ => ∃ (b p a : Addr) (n : Nat) (zs : List Int), vs = [.ref b, .ref p, .ref a] ∧ zs ∈ menu ∧ BoxAt H b n ∧ n < 2000000 ∧ SpaceAt C H p zs ∧ H a = some (.lst (zs.map V.int)) ∧
  ∀ H', BoxAt H' b (n + 150) → But b H H' → Q (.bl true) H'
section
variable {P : Program} {w : World} {K : PySem.W.Frag} {mg : Str → Option Value} {base : Heap} {C : Addr}
theorem ok_space_right {f : Addr} {fd : FuncData} (F : Fun K "_law_space_right" "_law_space_right" s__law_space_right f fd) (Z : Zs mg) (S : Sc K mg C) (d__law_rows : DefD P w K mg base 1 "_law_rows" 1 [] byPlace spRows)
    (d__law_whole : DefD P w K mg base 1 "_law_whole" 1 [] byPlace spIsInt) (d_read_space : DefD P w K mg base 6 "read_space" 1 [] byPlace (spRead C)) (d_read_space_line : DefD P w K mg base 6 "read_space" 0 ["line"] byBoth (spRead C))
    (d__law_stores_right : DefD P w K mg base 5 "_law_stores_right" 3 [] byPlace (spStoresRight C)) (m_line : MetD P w K mg base 1 C "line" 1 [] byPlace (spLine C)) (d_len : LenD P w K mg base 1 C (spLen C)) (d_eq : EqD P w K mg base 1 C (spEqS C K)) :
    FnG P w K mg base CX0 7 f fd ["box", "space", "sizes"] (spSpaceRight C) := by
  refine okG F sc__law_space_right (fun vs H Q E h => ?_) (fun cdv B up z H vs Q E hG hr h => ?_)
  · obtain ⟨b, p, a, n, zs, rfl, _⟩ := h
    rfl
  · have hu : (B.deeper (PyProof.Rows.envOfC "_law_space_right" (defScope s__law_space_right) z.heap.objs.size f cdv)).units + 64 < cLine := by have := hr.un; omega
    obtain ⟨b, p, a, n, zs, rfl, hz, hb, hn, sp, ha, k⟩ := h
    obtain ⟨N2, N8⟩ := menu_many zs hz
    obtain ⟨l1, l3⟩ := menu_len zs hz
    have sh := menu_shows2 zs hz
    refine ⟨_, (pss_cons (ps_set (i := 3) sc__law_space_right.nd rfl (by first | exact Or.inl rfl | exact Or.inr rfl) (pd_pos d__law_rows hG hr (by decide) (by rfl) (pa_cons (pv 2) pa_nil)))
  (pss_cons (ps_if (PW.pt (pw_or (pt_cmpR op_ne (pe_callB (show CallR _ _ (rReprD K) from call_reprD hG hu) (by rfl) Z.repr_ (by decide +kernel) (pa_cons (pe_fld (pv 1) rfl) pa_nil)) (pe_callB (show CallR _ _ (rReprD K) from call_reprD hG hu) (by rfl) Z.repr_ (by decide +kernel) (pa_cons (pe_callTy (show CallR _ _ (rTupleOf K) from c_tuple) (by rfl) Z.tuple_ (by decide +kernel) (pa_cons (pv 2) pa_nil)) pa_nil)) (nomark _)) (pw_or1 (pt_cmpR op_ne (pe_callB (show CallR _ _ (rOwnLen C (spLen C) E0) from c_lenD d_len hG hr (by decide)) (by rfl) Z.len_ (by decide +kernel) (pa_cons (pv 1) pa_nil)) (pe_callB (show CallR _ _ (rLen K) from c_len) (by rfl) Z.len_ (by decide +kernel) (pa_cons (pv 3) pa_nil)) (nomark _))))) (pss_one (ps_ret pe_bl)) pss_nil)
  (pss_cons (ps_if (PW.pt (pw_or (pt_not (pt_val (pd_pos d__law_whole hG hr (by decide) (by rfl) (pa_cons (pe_fld (pv 1) rfl) pa_nil)))) (pw_or1 (pt_cmpR op_ne (pe_fld (pv 1) rfl) (pe_callB (show CallR _ _ (rLen K) from c_len) (by rfl) Z.len_ (by decide +kernel) (pa_cons (pv 3) pa_nil)) (nomark _))))) (pss_one (ps_ret pe_bl)) pss_nil)
  (pss_cons (ps_set (i := 4) sc__law_space_right.nd rfl (by first | exact Or.inl rfl | exact Or.inr rfl) (pe_join pe_str (pe_lc (own := [("size", 6)]) (tt := tYes) rfl sc__law_space_right.nd (pi_list (pv 2)) (blkOk_by (N := ["box", "space", "sizes", "rows", "line", "back", "size"]) (sc := defScope s__law_space_right) (by decide +kernel)) (fun _ _ _ _ _ => (pg_name (i := 6) sc__law_space_right.nd rfl (by first | exact Or.inl rfl | exact Or.inr rfl))) (fun _ _ _ _ _ => pts_nil) (fun _ _ _ _ _ => (pe_callTy c_str (by rfl) Z.str_ (by decide +kernel) (pa_cons (pv 6) pa_nil))))))
  (pss_cons (ps_if (PW.pt (pw_or (pt_cmpR op_ne (pq_none m_line hG hr (by decide) (pv 1)) (pv 4) (nomark _)) (pw_or1 (pt_not (pt_val (pe_callB call_isi (by rfl) Z.isinstance_ (by decide +kernel) (pa_cons (pq_none m_line hG hr (by decide) (pv 1)) (pa_cons (pe_ty "str" (by rfl) Z.str_ (by decide +kernel)) pa_nil)))))))) (pss_one (ps_ret pe_bl)) pss_nil)
  (pss_cons (ps_for PassesOwn.never rfl (pi_list (pe_lst (pa_cons (pd_pos d_read_space hG hr (by decide) (by rfl) (pa_cons (pv 4) pa_nil)) (pa_cons (pd_kw0 d_read_space_line hG hr (by decide) (by rfl) (pk_cons (pq_none m_line hG hr (by decide) (pv 1)) pk_nil)) pa_nil)))) (pg_name (i := 5) sc__law_space_right.nd rfl (by first | exact Or.inl rfl | exact Or.inr rfl))
  (pss_cons (ps_if (PW.pt (pw_or (pt_not (pt_val (pe_callB call_isi (by rfl) Z.isinstance_ (by decide +kernel) (pa_cons (pv 5) (pa_cons (pe_cls (by rfl) S.cSpace) pa_nil))))) (pw_or (pt_cmpR op_ne (pe_callB (show CallR _ _ (rReprD K) from call_reprD hG hu) (by rfl) Z.repr_ (by decide +kernel) (pa_cons (pe_fld (pv 5) rfl) pa_nil)) (pe_callB (show CallR _ _ (rReprD K) from call_reprD hG hu) (by rfl) Z.repr_ (by decide +kernel) (pa_cons (pe_callTy (show CallR _ _ (rTupleOf K) from c_tuple) (by rfl) Z.tuple_ (by decide +kernel) (pa_cons (pv 2) pa_nil)) pa_nil)) (nomark _)) (pw_or1 (pt_not (pt_cmpR (show OpR _ _ (rOwnC K C (spEqS C K) E0) from op_eqS d_eq hG hr (by decide)) (pv 5) (pv 1) (nomark _))))))) (pss_one (ps_ret pe_bl)) pss_nil)
  (pss_cons (ps_if (pt_cmpR op_ne (pe_callB (show CallR _ _ (rReprD K) from call_reprD hG hu) (by rfl) Z.repr_ (by decide +kernel) (pa_cons (pe_lst (pa_cons (pe_callB (show CallR _ _ (rOwnLen C (spLen C) E0) from c_lenD d_len hG hr (by decide)) (by rfl) Z.len_ (by decide +kernel) (pa_cons (pv 5) pa_nil)) (pa_cons (pe_fld (pv 5) rfl) (pa_cons (pq_none m_line hG hr (by decide) (pv 5)) pa_nil)))) pa_nil)) (pe_callB (show CallR _ _ (rReprD K) from call_reprD hG hu) (by rfl) Z.repr_ (by decide +kernel) (pa_cons (pe_lst (pa_cons (pe_callB (show CallR _ _ (rLen K) from c_len) (by rfl) Z.len_ (by decide +kernel) (pa_cons (pv 3) pa_nil)) (pa_cons (pe_callB (show CallR _ _ (rLen K) from c_len) (by rfl) Z.len_ (by decide +kernel) (pa_cons (pv 3) pa_nil)) (pa_cons (pv 4) pa_nil)))) pa_nil)) (nomark _)) (pss_one (ps_ret pe_bl)) pss_nil)
  (pss_one (ps_if (pt_not (pt_val (pd_pos d__law_stores_right hG hr (by decide) (by rfl) (pa_cons (pv 0) (pa_cons (pv 5) (pa_cons (pv 3) pa_nil)))))) (pss_one (ps_ret pe_bl)) pss_nil)))))
  (pss_one (ps_ret (pd_pos d__law_stores_right hG hr (by decide) (by rfl) (pa_cons (pv 0) (pa_cons (pv 1) (pa_cons (pv 3) pa_nil)))))))))))), ?_⟩
    walk_at "r"
    refine ⟨a, zs, rfl, hz, ha, fun H1 m ts s1 hm gm rt => ?_⟩
    obtain ⟨dx, tz, q, ts', p1, p2, p3, p4⟩ := sp.same s1
    have sp1 : SpaceAt C H1 p zs := ⟨dx, tz, q, ts', p1, p2, p3, p4⟩
    walk_at "r"
    refine ⟨_, rfl, p, C, dx, _, _, rfl, p1, S.cl, S.nS, spF_sizes _ _ _, ?_⟩
    walk_at "r"
    refine r_reprOk (tup_dp p2) sh ?_
    walk_at "r"
    refine r_tupleAny (.inl (s1 _ _ ha)) fun t2 H2 s2 g2 => ?_
    walk_at "r"
    refine r_reprOk (tup_dp g2) sh ?_
    walk_at "r"
    rw [decide_eq_true rfl]
    walk_at "r"
    refine ⟨p, dx, _, rfl, s2 _ _ p1, p, zs, rfl, sp1.same s2, _, rfl, by omega, by omega, ?_⟩
    walk_at "r"
    refine r_lenL (SqL.of (s2 _ _ gm)) ?_
    rw [List.length_map, rt.1]
    walk_at "r"
    rw [decide_eq_true rfl]
    walk_at "r"
    refine ⟨_, rfl, p, C, dx, _, _, rfl, s2 _ _ p1, S.cl, S.nN, spF_never _ _ _, ?_⟩
    walk_at "r"
    refine ⟨_, rfl, ?_⟩
    walk_at "r"
    refine ⟨_, rfl, p, C, dx, _, _, rfl, s2 _ _ p1, S.cl, S.nN, spF_never _ _ _, ?_⟩
    walk_at "r"
    refine r_lenL (SqL.of (s2 _ _ gm)) ?_
    rw [List.length_map, rt.1]
    walk_at "r"
    rw [decide_eq_true rfl]
    walk_at "r"
    have h2 : ∀ b o, H b = some o → H2 b = some o := fun b o e => s2 _ _ (s1 _ _ e)
    refine ⟨⟨_, rfl⟩, ?_⟩
    refine ⟨_, rfl, a, rfl, ⟨_, SqL.of (h2 _ _ ha)⟩, fun D hD => ?_⟩
    refine it_list (xs := zs.map V.int) (fun i G => Same H2 G ∧ G D = some (.lst ((zs.take i).map fun z => V.str (numStr z)))) ⟨Same.upd_new hD, upd_same⟩ (fun i G _ s => SqL.of (s.1 _ _ (h2 _ _ ha))) (fun i x G hx s => ?_) (fun G s => ?_)
    · obtain ⟨y, hy, rfl⟩ := map_get hx
      obtain ⟨y1, y2⟩ := menu_mem zs hz y (List.mem_of_getElem? hy)
      refine r_gname ⟨rfl, ?_⟩
      walk_at "r"
      refine r_strI (num_small y y1 y2) ?_
      refine ⟨_, s.2, by rw [List.length_map, List.length_take, sizeLine_eq]; omega, Same.over s.1 hD, ?_⟩
      rw [upd_same, take_next hy, List.map_append]
      rfl
    · obtain ⟨s3, d3⟩ := s
      have e : (zs.take (zs.map V.int).length).map (fun z => V.str (numStr z)) = (zs.map numStr).map V.str := by
        rw [List.length_map, List.take_length, List.map_map]
        rfl
      rw [e] at d3
      refine ⟨_, D, zs.map numStr, rfl, rfl, .inl (SqL.of d3), menu_line zs hz, ?_⟩
      have el : Txt.join (" " : Str) (zs.map numStr) = lineOf zs := rfl
      walk_at "r"
      refine ⟨p, dx, _, rfl, s3 _ _ (s2 _ _ p1), spF_no _ _ _ (by decide +kernel) (by decide +kernel) (by decide +kernel), ?_⟩
      walk_at "r"
      refine ⟨p, zs, rfl, hz, (sp1.same s2).same s3, fun H4 s4 => ?_⟩
      walk_at "r"
      rw [el, decide_eq_true rfl]
      walk_at "r"
      refine ⟨p, dx, _, rfl, s4 _ _ (s3 _ _ (s2 _ _ p1)), spF_no _ _ _ (by decide +kernel) (by decide +kernel) (by decide +kernel), ?_⟩
      walk_at "r"
      refine ⟨p, zs, rfl, hz, ((sp1.same s2).same s3).same s4, fun H5 s5 => ?_⟩
      walk_at "r"
      refine r_isiB (b := true) (.base (.str _)) (by decide +kernel) ?_
      walk_at "r"
      have s15 : Same H1 H5 := ((s2.trans s3).trans s4).trans s5
      have s05 : Same H H5 := s1.trans s15
      have sp5 := sp1.same s15
      refine r_for ?_
      refine r_il ?_
      walk_at "r"
      refine ⟨zs, rfl, hz, fun H6 x1 s6 n6 sp6 => ?_⟩
      walk_at "r"
      refine ⟨p, dx, _, rfl, s6 _ _ (s15 _ _ p1), spF_no _ _ _ (by decide +kernel) (by decide +kernel) (by decide +kernel), ?_⟩
      walk_at "r"
      refine ⟨p, zs, rfl, hz, sp5.same s6, fun H7 s7 => ?_⟩
      walk_at "r"
      refine ⟨zs, rfl, hz, fun H8 x2 s8 n8 sp8 => ?_⟩
      walk_at "r"
      refine ⟨by show 2 ≤ sizeLine; decide, fun l hl => ?_⟩
      have s9 := Same.upd_new (o := .lst [.ref x1, .ref x2]) hl
      have g9 : (upd H8 l (.lst [.ref x1, .ref x2])) l = some (.lst [.ref x1, .ref x2]) := upd_same
      generalize upd H8 l (.lst [.ref x1, .ref x2]) = H9 at s9 g9 ⊢
      have s59 : Same H5 H9 := ((s6.trans s7).trans s8).trans s9
      have s19 : Same H1 H9 := s15.trans s59
      have s09 : Same H H9 := s1.trans s19
      have b9 := hb.same s09
      have sp9 := sp5.same s59
      have spx1 := ((sp6.same s7).same s8).same s9
      have spx2 := sp8.same s9
      have m9 := s19 _ _ gm
      have rt9 := rt.same s19
      have a9 := s09 _ _ ha
      refine ⟨l, rfl, ⟨_, SqL.of g9⟩, for_list (K := K) (a := l) (xs := [V.ref x1, V.ref x2]) (fun i τ G => ∃ v5 : Option V, τ = [some (.ref b), some (.ref p), some (.ref a), some (.ref m), some (.str (lineOf zs)), v5, none] ∧ BoxAt G b (n + 50 * i) ∧ But b H9 G)
        ⟨none, rfl, b9, But.refl _⟩ (fun i τ G _ q => ?_) ?_ ?_⟩
      · obtain ⟨_, _, _, bt⟩ := q
        exact SqL.of (refs_keep (ts := [x1, x2]) g9 b9 bt)
      · rintro i x τ G hx ⟨v5, rfl, bG, bt⟩
        have i2 : i < 2 := (List.getElem?_eq_some_iff.mp hx).1
        have hy : ∃ y, x = .ref y ∧ SpaceAt C H9 y zs := by
          obtain rfl | rfl : i = 0 ∨ i = 1 := by omega
          · exact ⟨x1, (Option.some.inj hx).symm, spx1⟩
          · exact ⟨x2, (Option.some.inj hx).symm, spx2⟩
        obtain ⟨y, rfl, spy⟩ := hy
        have spG := sp9.but b9 bt
        have spyG := spy.but b9 bt
        have mG := refs_keep m9 b9 bt
        have rtG := rt9.but b9 bt
        have aG := ints_keep a9 b9 bt
        obtain ⟨dy, ty, qy, tsy, y1, y2, y3, y4⟩ := spyG
        have spyG : SpaceAt C G y zs := ⟨dy, ty, qy, tsy, y1, y2, y3, y4⟩
        obtain ⟨dp, tp, qp, tsp, q1, q2, q3, q4⟩ := spG
        have spG : SpaceAt C G p zs := ⟨dp, tp, qp, tsp, q1, q2, q3, q4⟩
        walk_at "r"
        refine r_isiO (S.ty y1) S.kC ?_
        walk_at "r"
        refine ⟨_, rfl, y, C, dy, _, _, rfl, y1, S.cl, S.nS, spF_sizes _ _ _, ?_⟩
        walk_at "r"
        refine r_reprOk (tup_dp y2) sh ?_
        walk_at "r"
        refine r_tupleAny (.inl aG) fun t3 G2 s2 g2 => ?_
        walk_at "r"
        refine r_reprOk (tup_dp g2) sh ?_
        walk_at "r"
        rw [decide_eq_true rfl]
        walk_at "r"
        refine ⟨y, dy, _, .ref C, rfl, s2 _ _ y1, S.ty (s2 _ _ q1), first_self, y, zs, spyG.same s2, hz, .inl ⟨p, zs, rfl, hz, spG.same s2, ?_⟩⟩
        rw [decide_eq_true rfl]
        walk_at "r"
        refine ⟨y, dy, _, rfl, s2 _ _ y1, y, zs, rfl, spyG.same s2, _, rfl, by omega, by omega, ?_⟩
        walk_at "r"
        refine ⟨_, rfl, y, C, dy, _, _, rfl, s2 _ _ y1, S.cl, S.nN, spF_never _ _ _, ?_⟩
        walk_at "r"
        refine ⟨y, dy, _, rfl, s2 _ _ y1, spF_no _ _ _ (by decide +kernel) (by decide +kernel) (by decide +kernel), ?_⟩
        walk_at "r"
        refine ⟨y, zs, rfl, hz, spyG.same s2, fun G3 s3 => ?_⟩
        walk_at "r"
        refine ⟨by show 3 ≤ sizeLine; decide, fun u hu' => ?_⟩
        walk_at "r"
        have sh3 := menu_shows3 zs hz
        have trip : ∀ {A : Hp} {u : Addr}, A u = some (.lst [.int ((allRows zs).length : Nat), .int ((allRows zs).length : Nat), .str (lineOf zs)]) → Dp K A (.ref u) (.list [.int ((allRows zs).length : Nat), .int ((allRows zs).length : Nat), .str (lineOf zs)]) :=
          fun e => .lst (SqL.of e) (.cons (.int _) (.cons (.int _) (.cons (.str _) .nil)))
        refine r_reprOk (trip upd_same) sh3 ?_
        have s4 := Same.upd_new (o := .lst [.int ((allRows zs).length : Nat), .int ((allRows zs).length : Nat), .str (lineOf zs)]) hu'
        generalize upd G3 u (.lst [.int ((allRows zs).length : Nat), .int ((allRows zs).length : Nat), .str (lineOf zs)]) = G4 at s4 ⊢
        have s24 : Same G G4 := (s2.trans s3).trans s4
        walk_at "r"
        refine r_lenL (SqL.of (s24 _ _ mG)) ?_
        walk_at "r"
        refine r_lenL (SqL.of (s24 _ _ mG)) ?_
        rw [List.length_map, rt.1]
        walk_at "r"
        refine ⟨by show 3 ≤ sizeLine; decide, fun u2 hu2 => ?_⟩
        walk_at "r"
        refine r_reprOk (trip upd_same) sh3 ?_
        have s5 := Same.upd_new (o := .lst [.int ((allRows zs).length : Nat), .int ((allRows zs).length : Nat), .str (lineOf zs)]) hu2
        generalize upd G4 u2 (.lst [.int ((allRows zs).length : Nat), .int ((allRows zs).length : Nat), .str (lineOf zs)]) = G5 at s5 ⊢
        have s25 : Same G G5 := s24.trans s5
        walk_at "r"
        rw [decide_eq_true rfl]
        walk_at "r"
        refine ⟨b, y, m, _, zs, ts, rfl, hz, bG.same s25, by omega, spyG.same s25, s25 _ _ mG, rtG.same s25, fun G6 b6 bt6 => ?_⟩
        walk_at "r"
        exact ⟨_, rfl, b6.mono (by omega), bt.trans ((But.of s25).trans bt6)⟩
      · rintro τ G ⟨v5, rfl, bG, bt⟩
        walk_at "r"
        refine ⟨b, p, m, _, zs, ts, rfl, hz, bG, by show n + 50 * 2 < 3000000; omega, sp9.but b9 bt, refs_keep m9 b9 bt, rt9.but b9 bt, fun G2 b2 bt2 => ?_⟩
        exact k G2 b2 ((But.of s09).trans (bt.trans bt2))
end
end Eld
set_option Elab.async false
set_option maxRecDepth 100000
set_option maxHeartbeats 4000000
set_option linter.all false
namespace Eld
open PySem L2
local macro_rules | `(tactic| walk_at "r1") => `(tactic| with_reducible first
  | refine r_seq ?_ | refine r_asgN ?_ | refine r_asg ?_ | refine r_gname ?_ | refine r_gsub ?_ | refine r_var rfl ?_ | refine r_c ?_ | refine r_op ?_ | refine r_un ?_ | refine r_u ?_ | refine r_i0 ?_ | refine r_cb ?_ | refine r_cons ?_ | refine r_nil ?_ | refine r_cl ?_ | refine r_fn rfl rfl ?_ | refine r_mt ?_
  | refine r_test ?_ | refine r_tb ?_ | refine r_bl ?_ | refine r_and ?_ | refine r_or ?_ | refine r_not ?_ | refine r_andV ?_ | refine r_orV ?_ | refine r_notV ?_ | refine r_ifX ?_ | refine r_ifs ?_ | refine r_chain ?_ | refine r_ret ?_ | refine r_next ?_ | refine r_drop ?_ | refine iteT ?_ | refine iteF ?_ | refine iteNT ?_ | refine iteNF ?_
  | refine r_int1 ?_ | refine r_boolB ?_ | refine r_eqI ?_ | refine r_neI ?_ | refine r_eqB ?_ | refine r_neB ?_ | refine r_eqS ?_ | refine r_neS ?_ | refine r_abs ?_ | refine r_max2 ?_ | refine r_min2 ?_ | refine r_yes ?_ | refine r_tup ?_ | refine r_sfld ?_ | refine r_m0 ?_ | refine r_m1 ?_ | refine r_lst ?_ | refine r_rng1 ?_ | refine r_rng2 ?_ | refine r_ixL (SqL.of (by assumption)) rfl ?_)
local macro_rules | `(tactic| walk_at "r") => `(tactic| repeat (first | walk_at "r1" | ((with_reducible refine r_var ?hv ?_); (case hv => rfl))))

def spEqualRight (C : Addr) : Sp := fun vs H Q _ => ∃ (x y : Addr) (ps as : List Addr) (lz : List (List Int)), vs = [.ref x, .ref y] ∧ ps.length = 3 ∧ as.length = 3 ∧ lz.length = 3 ∧ H x = some (.lst (ps.map V.ref)) ∧ H y = some (.lst (as.map V.ref)) ∧ (∀ zs ∈ lz, zs ∈ menu) ∧
  (∀ (i : Nat) p zs, ps[i]? = some p → lz[i]? = some zs → SpaceAt C H p zs) ∧ (∀ (i : Nat) a zs, as[i]? = some a → lz[i]? = some zs → H a = some (.lst (zs.map V.int))) ∧ ∀ H', Same H H' → Q (.bl true) H'
theorem bl_not (c : Bool) : decide (V.bl (!c) = V.bl c) = false := by cases c <;> decide
section
variable {P : Program} {w : World} {K : PySem.W.Frag} {mg : Str → Option Value} {base : Heap} {C : Addr}
theorem ok_equal_right {f : Addr} {fd : FuncData} (F : Fun K "_law_equal_right" "_law_equal_right" s__law_equal_right f fd) (Z : Zs mg) (S : Sc K mg C) (S2 : Ss K C) (m_line : MetD P w K mg base 1 C "line" 1 [] byPlace (spLine C)) (d_eq : EqD P w K mg base 1 C (spEqS C K)) :
    FnG P w K mg base CX0 3 f fd ["spaces", "lists"] (spEqualRight C) := by
  refine okG F sc__law_equal_right (fun vs H Q E h => ?_) (fun cdv B up z H vs Q E hG hr h => ?_)
  · obtain ⟨x, y, ps, as, lz, rfl, _⟩ := h
    rfl
  · have hu : (B.deeper (PyProof.Rows.envOfC "_law_equal_right" (defScope s__law_equal_right) z.heap.objs.size f cdv)).units + 64 < cLine := by have := hr.un; omega
    obtain ⟨x, y, ps, as, lz, rfl, lp, la, ll, hx, hy, hz, hsp, hls, k⟩ := h
    have at_ : ∀ i, i < 3 → ∃ p a zs, ps[i]? = some p ∧ as[i]? = some a ∧ zs ∈ menu ∧ SpaceAt C H p zs ∧ H a = some (.lst (zs.map V.int)) ∧ lz[i]? = some zs := by
      intro i hi
      have e1 : ps[i]? = some (ps[i]'(by omega)) := List.getElem?_eq_getElem _
      have e2 : as[i]? = some (as[i]'(by omega)) := List.getElem?_eq_getElem _
      have e3 : lz[i]? = some (lz[i]'(by omega)) := List.getElem?_eq_getElem _
      exact ⟨_, _, _, e1, e2, hz _ (List.mem_of_getElem? e3), hsp _ _ _ e1 e3, hls _ _ _ e2 e3, e3⟩
    have ixr : ∀ {qs : List Addr} {i : Nat} {q : Addr}, qs[i]? = some q → atI (qs.map V.ref) ((i : Nat) : Int) = some (.ref q) := fun e => atI_nat (by rw [List.getElem?_map, e]; rfl)
    refine ⟨_, (pss_cons (ps_for PassesOwn.never rfl (pi_range1 (by rfl) Z.range_ (pa_cons (pe_callB (show CallR _ _ (rLen K) from c_len) (by rfl) Z.len_ (by decide +kernel) (pa_cons (pv 0) pa_nil)) pa_nil)) (pg_name (i := 2) sc__law_equal_right.nd rfl (by first | exact Or.inl rfl | exact Or.inr rfl))
  (pss_cons (ps_for PassesOwn.never rfl (pi_range1 (by rfl) Z.range_ (pa_cons (pe_callB (show CallR _ _ (rLen K) from c_len) (by rfl) Z.len_ (by decide +kernel) (pa_cons (pv 0) pa_nil)) pa_nil)) (pg_name (i := 3) sc__law_equal_right.nd rfl (by first | exact Or.inl rfl | exact Or.inr rfl))
  (pss_cons (ps_set (i := 5) sc__law_equal_right.nd rfl (by first | exact Or.inl rfl | exact Or.inr rfl) (pe_cmpR (show OpR _ _ (rEqD K) from op_eqD hu) (pe_ix (show IxR _ (rIxL K) from ix_list) (pv 1) (pv 2) (fun _ _ => rfl)) (pe_ix (show IxR _ (rIxL K) from ix_list) (pv 1) (pv 3) (fun _ _ => rfl)) (nomark _)))
  (pss_one (ps_if (PW.pt (pw_or (pt_cmpR op_ne (pe_callTy c_bool (by rfl) Z.bool_ (by decide +kernel) (pa_cons (pe_cmpR (show OpR _ _ (rOwnC K C (spEqS C K) E0) from op_eqS d_eq hG hr (by decide)) (pe_ix (show IxR _ (rIxL K) from ix_list) (pv 0) (pv 2) (fun _ _ => rfl)) (pe_ix (show IxR _ (rIxL K) from ix_list) (pv 0) (pv 3) (fun _ _ => rfl)) (nomark _)) pa_nil)) (pv 5) (nomark _)) (pw_or1 (pt_cmpR op_eq (pe_callTy c_bool (by rfl) Z.bool_ (by decide +kernel) (pa_cons (pe_cmpR (show OpR _ _ (rOwnNe K C (spEqS C K) E0) from op_neS d_eq hG hr (by decide)) (pe_ix (show IxR _ (rIxL K) from ix_list) (pv 0) (pv 2) (fun _ _ => rfl)) (pe_ix (show IxR _ (rIxL K) from ix_list) (pv 0) (pv 3) (fun _ _ => rfl)) (nomark _)) pa_nil)) (pv 5) (nomark _))))) (pss_one (ps_ret pe_bl)) pss_nil))))
  (pss_one (ps_for PassesOwn.never rfl (pi_list (pe_lst (pa_cons pe_non (pa_cons (pe_ix (show IxR _ (rIxL K) from ix_list) (pv 1) (pv 2) (fun _ _ => rfl)) (pa_cons (pe_callTy (show CallR _ _ (rTupleOf K) from c_tuple) (by rfl) Z.tuple_ (by decide +kernel) (pa_cons (pe_ix (show IxR _ (rIxL K) from ix_list) (pv 1) (pv 2) (fun _ _ => rfl)) pa_nil)) (pa_cons (pq_none m_line hG hr (by decide) (pe_ix (show IxR _ (rIxL K) from ix_list) (pv 0) (pv 2) (fun _ _ => rfl))) (pa_cons (pe_callB (show CallR _ _ (rLen K) from c_len) (by rfl) Z.len_ (by decide +kernel) (pa_cons (pe_ix (show IxR _ (rIxL K) from ix_list) (pv 1) (pv 2) (fun _ _ => rfl)) pa_nil)) (pa_cons (pe_lst (pa_cons (pe_ix (show IxR _ (rIxL K) from ix_list) (pv 0) (pv 2) (fun _ _ => rfl)) pa_nil)) (pa_cons pe_bl pa_nil))))))))) (pg_name (i := 4) sc__law_equal_right.nd rfl (by first | exact Or.inl rfl | exact Or.inr rfl))
  (pss_one (ps_if (pt_cmpR (show OpR _ _ (rOwnC K C (spEqS C K) E0) from op_eqS d_eq hG hr (by decide)) (pe_ix (show IxR _ (rIxL K) from ix_list) (pv 0) (pv 2) (fun _ _ => rfl)) (pv 4) (nomark _)) (pss_one (ps_ret pe_bl)) pss_nil))))))
  (pss_one (ps_ret pe_bl))), ?_⟩
    refine r_seq ?_
    refine r_for ?_
    walk_at "r"
    refine r_lenL (SqL.of hx) ?_
    rw [List.length_map, lp]
    refine ⟨_, rfl, by decide, by decide, ?_⟩
    refine for_range (fun i τ G => ∃ v2 v3 v4 v5 : Option V, τ = [some (.ref x), some (.ref y), v2, v3, v4, v5] ∧ Same H G) ⟨none, none, none, none, rfl, Same.refl H⟩ ?_ ?_
    · rintro i τ G hi ⟨v2, v3, v4, v5, rfl, sG⟩
      have i3 : i < 3 := hi
      obtain ⟨p, a, zs, e1, e2, hzs, sp, ls, _⟩ := at_ i i3
      rw [Int.zero_add]
      walk_at "r"
      refine r_for ?_
      walk_at "r"
      refine r_lenL (SqL.of (sG _ _ hx)) ?_
      rw [List.length_map, lp]
      refine ⟨_, rfl, by decide, by decide, ?_⟩
      refine for_range (fun j τ G2 => ∃ v3 v4 v5 : Option V, τ = [some (.ref x), some (.ref y), some (.int (i : Nat)), v3, v4, v5] ∧ Same G G2) ⟨_, _, _, rfl, Same.refl G⟩ ?_ ?_
      · rintro j τ G2 hj ⟨v3, v4, v5, rfl, s2⟩
        have j3 : j < 3 := hj
        obtain ⟨p', a', zs', e1', e2', hzs', sp', ls', _⟩ := at_ j j3
        have s02 := sG.trans s2
        rw [Int.zero_add]
        obtain ⟨dx, tz, q, ts, p1, p2, p3, p4⟩ := sp.same s02
        have sp : SpaceAt C G2 p zs := ⟨dx, tz, q, ts, p1, p2, p3, p4⟩
        obtain ⟨dx', tz', q', ts', p1', p2', p3', p4'⟩ := sp'.same s02
        have sp' : SpaceAt C G2 p' zs' := ⟨dx', tz', q', ts', p1', p2', p3', p4'⟩
        walk_at "r"
        refine r_ixL (SqL.of (s02 _ _ hy)) (ixr e2) ?_
        walk_at "r"
        refine r_ixL (SqL.of (s02 _ _ hy)) (ixr e2') ?_
        refine ⟨_, _, lst_dp (s02 _ _ ls), lst_dp (s02 _ _ ls'), lst_shaped _, lst_shaped _, ?_⟩
        rw [lst_eqv]
        generalize hc : decide (zs = zs') = c
        walk_at "r"
        refine r_ixL (SqL.of (s02 _ _ hx)) (ixr e1) ?_
        walk_at "r"
        refine r_ixL (SqL.of (s02 _ _ hx)) (ixr e1') ?_
        refine ⟨p, dx, _, .ref C, rfl, p1, S.ty p1', first_self, p, zs, sp, hzs, .inl ⟨p', zs', rfl, hzs', sp', ?_⟩⟩
        rw [hc]
        walk_at "r"
        rw [decide_eq_true rfl]
        walk_at "r"
        refine r_ixL (SqL.of (s02 _ _ hx)) (ixr e1) ?_
        walk_at "r"
        refine r_ixL (SqL.of (s02 _ _ hx)) (ixr e1') ?_
        refine ⟨p, dx, _, .ref C, rfl, p1, S.ty p1', first_self, p, zs, sp, hzs, .inl ⟨p', zs', rfl, hzs', sp', _, rfl, ?_⟩⟩
        rw [hc]
        walk_at "r"
        rw [bl_not]
        walk_at "r"
        exact ⟨_, _, _, rfl, s2⟩
      · rintro τ G2 ⟨v3, v4, v5, rfl, s2⟩
        have s02 := sG.trans s2
        obtain ⟨dx, tz, q, ts, p1, p2, p3, p4⟩ := sp.same s02
        have sp : SpaceAt C G2 p zs := ⟨dx, tz, q, ts, p1, p2, p3, p4⟩
        with_reducible refine r_for ?_
        refine r_il ?_
        walk_at "r"
        refine r_ixL (SqL.of (s02 _ _ hy)) (ixr e2) ?_
        walk_at "r"
        refine r_ixL (SqL.of (s02 _ _ hy)) (ixr e2) ?_
        walk_at "r"
        refine r_tupleAny (.inl (s02 _ _ ls)) fun t G3 s3 g3 => ?_
        walk_at "r"
        refine r_ixL (SqL.of (s3 _ _ (s02 _ _ hx))) (ixr e1) ?_
        refine ⟨p, dx, _, rfl, s3 _ _ p1, spF_no _ _ _ (by decide +kernel) (by decide +kernel) (by decide +kernel), ?_⟩
        walk_at "r"
        refine ⟨p, zs, rfl, hzs, sp.same s3, fun G4 s4 => ?_⟩
        have s24 := s3.trans s4
        walk_at "r"
        refine r_ixL (SqL.of (s24 _ _ (s02 _ _ hy))) (ixr e2) ?_
        walk_at "r"
        refine r_lenL (SqL.of (s24 _ _ (s02 _ _ ls))) ?_
        walk_at "r"
        refine r_ixL (SqL.of (s24 _ _ (s02 _ _ hx))) (ixr e1) ?_
        walk_at "r"
        refine ⟨by show 1 ≤ sizeLine; decide, fun l1 hl1 => ?_⟩
        have s5 := Same.upd_new (o := .lst [.ref p]) hl1
        have g5 : (upd G4 l1 (.lst [.ref p])) l1 = some (.lst [.ref p]) := upd_same
        generalize upd G4 l1 (.lst [.ref p]) = G5 at s5 g5 ⊢
        walk_at "r"
        refine ⟨by show 7 ≤ sizeLine; decide, fun l2 hl2 => ?_⟩
        generalize hn : (List.map V.int zs).length = n7
        have s6 := Same.upd_new (o := .lst [.non, .ref a, .ref t, .str (lineOf zs), .int (n7 : Nat), .ref l1, .bl true]) hl2
        have g6 : (upd G5 l2 (.lst [.non, .ref a, .ref t, .str (lineOf zs), .int (n7 : Nat), .ref l1, .bl true])) l2 = some (.lst [.non, .ref a, .ref t, .str (lineOf zs), .int (n7 : Nat), .ref l1, .bl true]) := upd_same
        generalize upd G5 l2 (.lst [.non, .ref a, .ref t, .str (lineOf zs), .int (n7 : Nat), .ref l1, .bl true]) = G6 at s6 g6 ⊢
        have s26 : Same G2 G6 := (s24.trans s5).trans s6
        refine ⟨l2, rfl, ⟨_, SqL.of g6⟩, for_list (K := K) (a := l2) (xs := [.non, .ref a, .ref t, .str (lineOf zs), .int (n7 : Nat), .ref l1, .bl true]) (fun m τ G7 => ∃ v4 : Option V, τ = [some (.ref x), some (.ref y), some (.int (i : Nat)), v3, v4, v5] ∧ Same G6 G7)
          ⟨_, rfl, Same.refl _⟩ (fun m τ G7 _ q => ?_) ?_ ?_⟩
        · obtain ⟨_, _, s7⟩ := q
          exact SqL.of (s7 _ _ g6)
        · rintro m x' τ G7 hx' ⟨v4', rfl, s7⟩
          have ty : ∃ t', TyX K G7 x' t' ∧ PySem.W.notFirst K C t' = true ∧ PySem.W.kitOne K t' (.ref C) = some false := by
            have m7 : m < 7 := (List.getElem?_eq_some_iff.mp hx').1
            obtain rfl | rfl | rfl | rfl | rfl | rfl | rfl : m = 0 ∨ m = 1 ∨ m = 2 ∨ m = 3 ∨ m = 4 ∨ m = 5 ∨ m = 6 := by omega
            · obtain rfl := Option.some.inj hx'
              exact ⟨_, .base .non, first_sub S2.sN, S.kN⟩
            · obtain rfl := Option.some.inj hx'
              exact ⟨_, .base (.lst (s7 _ _ (s26 _ _ (s02 _ _ ls)))), first_sub S2.sL, S.kL⟩
            · obtain rfl := Option.some.inj hx'
              exact ⟨_, .base (.tup (s7 _ _ (s6 _ _ (s5 _ _ (s4 _ _ g3))))), first_sub S2.sT, S.kT⟩
            · obtain rfl := Option.some.inj hx'
              exact ⟨_, .base (.str _), first_sub S2.sS, S.kS⟩
            · obtain rfl := Option.some.inj hx'
              exact ⟨_, .base (.int _), first_sub S2.sI, S.kI⟩
            · obtain rfl := Option.some.inj hx'
              exact ⟨_, .base (.lst (s7 _ _ (s6 _ _ g5))), first_sub S2.sL, S.kL⟩
            · obtain rfl := Option.some.inj hx'
              exact ⟨_, .base (.bl _), first_sub S2.sB, S.kB⟩
          obtain ⟨t', ty, nf, kt⟩ := ty
          have s27 := s26.trans s7
          walk_at "r"
          refine r_ixL (SqL.of (s27 _ _ (s02 _ _ hx))) (ixr e1) ?_
          walk_at "r"
          refine ⟨p, dx, _, t', rfl, s27 _ _ p1, ty, nf, p, zs, sp.same s27, hzs, .inr ⟨_, t', rfl, ty, kt, ?_⟩⟩
          walk_at "r"
          exact ⟨_, rfl, s7⟩
        · rintro τ G7 ⟨v4', rfl, s7⟩
          exact ⟨_, _, _, _, rfl, (s02.trans s26).trans s7⟩
    · rintro τ G ⟨v2, v3, v4, v5, rfl, sG⟩
      walk_at "r"
      exact k G sG
end
end Eld
set_option Elab.async false
set_option maxRecDepth 100000
set_option maxHeartbeats 4000000
set_option linter.all false
namespace Eld
open PySem L2
local macro_rules | `(tactic| walk_at "r1") => `(tactic| with_reducible first
  | refine r_seq ?_ | refine r_asgN ?_ | refine r_asg ?_ | refine r_gname ?_ | refine r_gsub ?_ | refine r_var rfl ?_ | refine r_c ?_ | refine r_op ?_ | refine r_un ?_ | refine r_u ?_ | refine r_i0 ?_ | refine r_cb ?_ | refine r_cons ?_ | refine r_nil ?_ | refine r_cl ?_ | refine r_fn rfl rfl ?_ | refine r_mt ?_
  | refine r_test ?_ | refine r_tb ?_ | refine r_bl ?_ | refine r_and ?_ | refine r_or ?_ | refine r_not ?_ | refine r_andV ?_ | refine r_orV ?_ | refine r_notV ?_ | refine r_ifX ?_ | refine r_ifs ?_ | refine r_chain ?_ | refine r_ret ?_ | refine r_next ?_ | refine r_drop ?_ | refine iteT ?_ | refine iteF ?_ | refine iteNT ?_ | refine iteNF ?_
  | refine r_int1 ?_ | refine r_boolB ?_ | refine r_eqI ?_ | refine r_neI ?_ | refine r_eqB ?_ | refine r_neB ?_ | refine r_eqS ?_ | refine r_neS ?_ | refine r_abs ?_ | refine r_max2 ?_ | refine r_min2 ?_ | refine r_yes ?_ | refine r_tup ?_ | refine r_sfld ?_ | refine r_m0 ?_ | refine r_m1 ?_ | refine r_lst ?_ | refine r_rng1 ?_ | refine r_rng2 ?_ | refine r_ixL (SqL.of (by assumption)) rfl ?_)
local macro_rules | `(tactic| walk_at "r") => `(tactic| repeat (first | walk_at "r1" | ((with_reducible refine r_var ?hv ?_); (case hv => rfl))))

theorem menu_rev : ∀ zs ∈ menu, zs.reverse ∈ menu := by decide
def dList (z1 z2 : List Int) : PyData := .list [.list (z1.map PyData.int), .list (z2.map PyData.int), .list (z1.reverse.map PyData.int)]
theorem menu_two : ∀ z1 ∈ menu, ∀ z2 ∈ menu, SeqAt.shaped (dList z1 z2) = true ∧ PyData.eqv (dList z1 z2) (dList z1 z2) = true := by decide +kernel
theorem r_par {i j : Nat} {ta : TA} {D : Ends} {σ : L2.St} {H : Hp} (h : ta σ H fun vs H1 => ∃ v w, vs = [v, w] ∧ D.nx ((σ.set i (some v)).set j (some w)) H1) : tPar i j ta D σ H := h
/-- all but these addresses stay -/
def Keep (hs : List Addr) (H H' : Hp) : Prop := ∀ a o, ¬ a ∈ hs → H a = some o → H' a = some o
theorem Keep.refl {hs : List Addr} (H : Hp) : Keep hs H H := fun _ _ _ e => e
theorem Keep.trans {hs : List Addr} {H H' H'' : Hp} (s : Keep hs H H') (t : Keep hs H' H'') : Keep hs H H'' := fun a o n e => t a o n (s a o n e)
theorem Keep.of {hs : List Addr} {H H' : Hp} (s : Same H H') : Keep hs H H' := fun a o _ e => s a o e
theorem Keep.upd {hs : List Addr} {H : Hp} {h : Addr} {o : HO} (i : h ∈ hs) : Keep hs H (upd H h o) := fun a u n e => by
  rw [upd_ne (fun (z : a = h) => n (by rw [z]; exact i))]
  exact e
theorem SpaceAt.keep {C : Addr} {H H' : Hp} {p : Addr} {hs : List Addr} {zs : List Int} (h : SpaceAt C H p zs) (hh : ∀ h ∈ hs, ∃ xs, H h = some (.lst xs)) (s : Keep hs H H') : SpaceAt C H' p zs := by
  obtain ⟨dx, tz, q, ts, h1, h2, h3, h4⟩ := h
  have t : ∀ a o, H a = some o → (∀ xs, o ≠ .lst xs) → H' a = some o := fun a o e d => s a o (fun m => by
    obtain ⟨xs, e'⟩ := hh a m
    rw [e] at e'
    exact d xs (Option.some.inj e')) e
  exact ⟨dx, tz, q, ts, t _ _ h1 (by intro _ e; cases e), t _ _ h2 (by intro _ e; cases e), (by obtain ⟨o, e, d⟩ := h3; exact ⟨o, t _ _ e (by intro _ e; cases e), d⟩), h4.1, fun i u r a b => t _ _ (h4.2 i u r a b) (by intro _ e; cases e)⟩
theorem space_new {C : Addr} {H : Hp} {Q : VK} {a : Addr} {zs : List Int} (hz : zs ∈ menu) (ha : H a = some (.lst (zs.map V.int)) ∨ H a = some (.tup (zs.map V.int))) (k : ∀ H' p, Same H H' → H p = none → SpaceAt C H' p zs → Q (.ref p) H')
    (x dx : Addr) (hx : H x = none) (hdx : H dx = none) (hne : dx ≠ x) : spInit C [.ref x, .ref a] (upd (upd H dx (.own x)) x (.ins C dx [])) (fun v G => v = .non ∧ Q (.ref x) G) E0 := by
  have new : Same H (upd (upd H dx (.own x)) x (.ins C dx [])) := fun b o e => by
    rw [upd_ne (ne_of_none e hx), upd_ne (ne_of_none e hdx)]
    exact e
  refine ⟨x, a, dx, zs, rfl, upd_same, hz, same_any new ha, fun H5 s5 sp5 => ⟨rfl, ?_⟩⟩
  exact k H5 x (fun b o e => s5 b o (ne_of_none e hx) (new _ _ e)) hx sp5
theorem r_space1 {C : Addr} {H : Hp} {Q : VK} {a : Addr} {zs : List Int} (hz : zs ∈ menu) (ha : H a = some (.lst (zs.map V.int)) ∨ H a = some (.tup (zs.map V.int))) (k : ∀ H' p, Same H H' → H p = none → SpaceAt C H' p zs → Q (.ref p) H') : rMk C 1 0 byPlace (spInit C) E0 [.ref a] [] H Q :=
  ⟨rfl, rfl, fun x dx hx hdx hne => space_new (Q := Q) hz ha k x dx hx hdx hne⟩
theorem r_space2 {C : Addr} {H : Hp} {Q : VK} {a : Addr} {zs : List Int} {m : Nat} (hm : 1 = m) (hz : zs ∈ menu) (ha : H a = some (.lst (zs.map V.int)) ∨ H a = some (.tup (zs.map V.int))) (k : ∀ H' p, Same H H' → H p = none → SpaceAt C H' p zs → Q (.ref p) H') : rMk C 0 m byBoth (spInit C) E0 [] [.ref a] H Q :=
  ⟨rfl, hm, fun x dx hx hdx hne => space_new (Q := Q) hz ha k x dx hx hdx hne⟩
def spRight : Sp := fun vs H Q _ => ∃ b, vs = [.ref b] ∧ BoxAt H b 0 ∧ ∀ H', But b H H' → Q (.bl true) H'
section
variable {P : Program} {w : World} {K : PySem.W.Frag} {mg : Str → Option Value} {base : Heap} {C : Addr}
theorem ok_right {f : Addr} {fd : FuncData} (F : Fun K "_law_right" "_law_right" s__law_right f fd) (Z : Zs mg) (d__law_take : DefD P w K mg base 1 "_law_take" 2 [] byPlace spTake) (d__law_sizes : DefD P w K mg base 2 "_law_sizes" 1 [] byPlace spSizes)
    (k_Space : MakD P w K mg base 4 "Space" C 1 [] byPlace (spInit C)) (k_Space_sizes : MakD P w K mg base 4 "Space" C 0 ["sizes"] byBoth (spInit C)) (d__law_space_right : DefD P w K mg base 7 "_law_space_right" 3 [] byPlace (spSpaceRight C))
    (d__law_equal_right : DefD P w K mg base 3 "_law_equal_right" 2 [] byPlace (spEqualRight C)) : FnG P w K mg base CX0 8 f fd ["box"] spRight := by
  refine okG F sc__law_right (fun vs H Q E h => ?_) (fun cdv B up z H vs Q E hG hr h => ?_)
  · obtain ⟨b, rfl, _⟩ := h
    rfl
  · have hu : (B.deeper (PyProof.Rows.envOfC "_law_right" (defScope s__law_right) z.heap.objs.size f cdv)).units + 64 < cLine := by have := hr.un; omega
    obtain ⟨b, rfl, hb, k⟩ := h
    refine ⟨_, (pss_cons (ps_par rfl sc__law_right.nd (i := 7) (j := 8) rfl rfl (by decide) rfl rfl (pa_cons (pd_pos d__law_sizes hG hr (by decide) (by rfl) (pa_cons (pv 0) pa_nil)) (pa_cons (pd_pos d__law_sizes hG hr (by decide) (by rfl) (pa_cons (pv 0) pa_nil)) pa_nil)) rfl)
  (pss_cons (ps_set (i := 1) sc__law_right.nd rfl (by first | exact Or.inl rfl | exact Or.inr rfl) (pe_lst (pa_cons (pv 7) (pa_cons (pv 8) (pa_cons (pe_revL (pv 7)) pa_nil)))))
  (pss_cons (ps_setLc (i := 2) (own := [("sizes", 4)]) (tt := tYes) rfl sc__law_right.nd rfl rfl (sw_true rfl rfl rfl (by decide +kernel)) (pi_list (pv 1)) (blkOk_by (N := ["box", "lists", "handed", "spaces", "sizes", "order", "k", "first", "last"]) (sc := defScope s__law_right) (by decide +kernel)) (fun _ _ _ _ _ => (pg_name (i := 4) sc__law_right.nd rfl (by first | exact Or.inl rfl | exact Or.inr rfl))) (fun _ _ _ _ _ => pts_nil) (fun _ _ _ _ _ => (pe_callTy (show CallR _ _ (rListOf K) from c_list) (by rfl) Z.list_ (by decide +kernel) (pa_cons (pv 4) pa_nil))))
  (pss_cons (ps_set (i := 3) sc__law_right.nd rfl (by first | exact Or.inl rfl | exact Or.inr rfl) (pe_lst (pa_cons (pk_pos k_Space hG hr (by decide) (by rfl) (pa_cons (pe_ix (show IxR _ (rIxL K) from ix_list) (pv 2) pe_int (fun _ _ => rfl)) pa_nil)) (pa_cons (pk_pos k_Space hG hr (by decide) (by rfl) (pa_cons (pe_callTy (show CallR _ _ (rTupleOf K) from c_tuple) (by rfl) Z.tuple_ (by decide +kernel) (pa_cons (pe_ix (show IxR _ (rIxL K) from ix_list) (pv 2) pe_int (fun _ _ => rfl)) pa_nil)) pa_nil)) (pa_cons (pk_kw0 k_Space_sizes hG hr (by decide) (by rfl) (pk_cons (pe_ix (show IxR _ (rIxL K) from ix_list) (pv 2) pe_int (fun _ _ => rfl)) pk_nil)) pa_nil)))))
  (pss_cons (ps_if (pt_cmpR (show OpR _ _ (rNeD K) from op_neD hu) (pv 2) (pv 1) (nomark _)) (pss_one (ps_ret pe_bl)) pss_nil)
  (pss_cons (ps_for PassesOwn.never rfl (pi_list (pv 2)) (pg_name (i := 4) sc__law_right.nd rfl (by first | exact Or.inl rfl | exact Or.inr rfl))
  (pss_cons (ps_expr (pe_bm PySem.F.plainAttrs_list PySem.F.slot_list_append PySem.F.type_list_append mt_append (pv 4) (pa_cons pe_int pa_nil)))
  (pss_one (ps_asg pe_int (pg_sub (pv 4) pe_int set_list)))))
  (pss_cons (ps_set (i := 5) sc__law_right.nd rfl (by first | exact Or.inl rfl | exact Or.inr rfl) (pe_ifExp (pt_cmpR op_eq (pd_pos d__law_take hG hr (by decide) (by rfl) (pa_cons (pv 0) (pa_cons pe_int pa_nil))) pe_int (nomark _)) (pe_lst (pa_cons pe_int (pa_cons pe_int (pa_cons pe_int pa_nil)))) (pe_lst (pa_cons pe_int (pa_cons pe_int (pa_cons pe_int pa_nil))))))
  (pss_cons (ps_for PassesOwn.never rfl (pi_list (pe_op op_cat (pv 5) (pe_revL (pv 5)))) (pg_name (i := 6) sc__law_right.nd rfl (by first | exact Or.inl rfl | exact Or.inr rfl))
  (pss_one (ps_if (pt_not (pt_val (pd_pos d__law_space_right hG hr (by decide) (by rfl) (pa_cons (pv 0) (pa_cons (pe_ix (show IxR _ (rIxL K) from ix_list) (pv 3) (pv 6) (fun _ _ => rfl)) (pa_cons (pe_ix (show IxR _ (rIxL K) from ix_list) (pv 1) (pv 6) (fun _ _ => rfl)) pa_nil)))))) (pss_one (ps_ret pe_bl)) pss_nil)))
  (pss_one (ps_ret (pd_pos d__law_equal_right hG hr (by decide) (by rfl) (pa_cons (pv 3) (pa_cons (pv 1) pa_nil))))))))))))), ?_⟩
    refine r_seq ?_
    refine r_par ?_
    walk_at "r"
    refine ⟨b, 0, rfl, hb, by decide, fun l1 z1 H1 m1 b1 bt1 n1 g1 => ?_⟩
    walk_at "r"
    refine ⟨b, 1, rfl, b1, by decide, fun l2 z2 H2 m2 b2 bt2 n2 g2 => ?_⟩
    have g1 := ints_keep g1 b1 bt2
    walk_at "r"
    refine ⟨_, _, rfl, ?_⟩
    walk_at "r"
    refine ⟨_, rfl, l1, _, rfl, SqL.of g1, fun l3 n3 => ?_⟩
    rw [← List.map_reverse]
    have s3 := Same.upd_new (o := .lst (z1.reverse.map V.int)) n3
    have g3 : (upd H2 l3 (.lst (z1.reverse.map V.int))) l3 = some (.lst (z1.reverse.map V.int)) := upd_same
    generalize upd H2 l3 (.lst (z1.reverse.map V.int)) = H3 at s3 g3 ⊢
    walk_at "r"
    refine ⟨by show 3 ≤ sizeLine; decide, fun y ny => ?_⟩
    have s4 := Same.upd_new (o := .lst [.ref l1, .ref l2, .ref l3]) ny
    have g4 : (upd H3 y (.lst [.ref l1, .ref l2, .ref l3])) y = some (.lst ([l1, l2, l3].map V.ref)) := upd_same
    generalize upd H3 y (.lst [.ref l1, .ref l2, .ref l3]) = H4 at s4 g4 ⊢
    have s24 := s3.trans s4
    have bt4 : But b H H4 := (bt1.trans bt2).trans (But.of s24)
    have b4 := b2.same s24
    have m3 := menu_rev z1 m1
    have hls : ∀ (i : Nat) a zs, [l1, l2, l3][i]? = some a → [z1, z2, z1.reverse][i]? = some zs → zs ∈ menu ∧ H4 a = some (.lst (zs.map V.int)) := by
      intro i a zs ea ez
      match i, ea, ez with
      | 0, ea, ez => cases ea; cases ez; exact ⟨m1, s24 _ _ g1⟩
      | 1, ea, ez => cases ea; cases ez; exact ⟨m2, s24 _ _ g2⟩
      | 2, ea, ez => cases ea; cases ez; exact ⟨m3, s4 _ _ g3⟩
      | _ + 3, ea, ez => cases ea
    walk_at "r"
    refine r_lc ?_
    refine r_il ?_
    walk_at "r"
    refine ⟨y, rfl, ⟨_, SqL.of g4⟩, fun D hD => ?_⟩
    refine it_list (xs := [l1, l2, l3].map V.ref) (fun i G => Same H4 G ∧ ∃ hs : List Addr, hs.length = i ∧ G D = some (.lst (hs.map V.ref)) ∧ (∀ h ∈ hs, H4 h = none ∧ h ≠ D) ∧ ∀ (j : Nat) h zs, hs[j]? = some h → [z1, z2, z1.reverse][j]? = some zs → G h = some (.lst (zs.map V.int)))
      ⟨Same.upd_new hD, [], rfl, upd_same, (fun _ e => by cases e), (fun _ _ _ e => by cases e)⟩ (fun i G _ p => SqL.of (p.1 _ _ g4)) (fun i x G hx p => ?_) (fun G p => ?_)
    · obtain ⟨s5, hs, hl, d5, hn, hv⟩ := p
      obtain ⟨l, hl', rfl⟩ := ref_get hx
      have i3 : i < 3 := (List.getElem?_eq_some_iff.mp hl').1
      have ez : [z1, z2, z1.reverse][i]? = some ([z1, z2, z1.reverse][i]'i3) := List.getElem?_eq_getElem _
      generalize [z1, z2, z1.reverse][i]'i3 = zs at ez
      obtain ⟨mz, gz⟩ := hls i l zs hl' ez
      refine r_gname ⟨rfl, ?_⟩
      walk_at "r"
      refine r_listL (SqL.of (s5 _ _ gz)) fun h hh => ?_
      have s6 : Same G (upd G h (.lst (zs.map V.int))) := Same.upd_new hh
      have hD' : h ≠ D := fun e => by rw [e, d5] at hh; cases hh
      refine ⟨hs.map V.ref, s6 _ _ d5, by rw [List.length_map, sizeLine_eq]; omega, Same.over (s5.trans s6) hD, hs ++ [h], by rw [List.length_append, hl]; rfl, by rw [upd_same, List.map_append]; rfl, ?_, ?_⟩
      · intro h' m'
        rcases List.mem_append.mp m' with m' | m'
        · exact hn h' m'
        · obtain rfl := List.mem_singleton.mp m'
          exact ⟨s5.free hh, hD'⟩
      · intro j h' zs' e1 e2
        by_cases c : j < hs.length
        · rw [List.getElem?_append_left c] at e1
          rw [upd_ne (hn h' (List.mem_of_getElem? e1)).2]
          exact s6 _ _ (hv j h' zs' e1 e2)
        · have cj : j = i := by
            have := (List.getElem?_eq_some_iff.mp e1).1
            rw [List.length_append] at this
            simp at this
            omega
          subst cj
          rw [ez] at e2
          cases e2
          rw [List.getElem?_append_right (by omega), hl, Nat.sub_self] at e1
          cases e1
          rw [upd_ne hD', upd_same]
    obtain ⟨s5, hs, hl, d5, hn, hv⟩ := p
    have hl : hs.length = 3 := hl
    match hs, hl with
    | [h1, h2, h3], _ =>
    have v1 : G h1 = some (.lst (z1.map V.int)) := hv 0 h1 z1 rfl rfl
    have v2 : G h2 = some (.lst (z2.map V.int)) := hv 1 h2 z2 rfl rfl
    have v3 : G h3 = some (.lst (z1.reverse.map V.int)) := hv 2 h3 z1.reverse rfl rfl
    have f1 := hn h1 (by simp)
    have f2 := hn h2 (by simp)
    have f3 := hn h3 (by simp)
    have d5 : G D = some (.lst [.ref h1, .ref h2, .ref h3]) := d5
    clear hv hn
    walk_at "r"
    refine r_space1 m1 (.inl v1) fun G1 p1 t1 n1' sp1 => ?_
    walk_at "r"
    refine r_ixL (SqL.of (t1 _ _ d5)) rfl ?_
    walk_at "r"
    refine r_tupleAny (.inl (t1 _ _ v2)) fun tu G2 t2 g2' => ?_
    walk_at "r"
    refine r_space1 m2 (.inr g2') fun G3 p2 t3 n2' sp2 => ?_
    walk_at "r"
    refine r_ixL (SqL.of (t3 _ _ (t2 _ _ (t1 _ _ d5)))) rfl ?_
    walk_at "r"
    refine r_space2 rfl m3 (.inl (t3 _ _ (t2 _ _ (t1 _ _ v3)))) fun G4 p3 t4 n3' sp3 => ?_
    walk_at "r"
    refine ⟨by show 3 ≤ sizeLine; decide, fun X nX => ?_⟩
    have t5 := Same.upd_new (o := .lst [.ref p1, .ref p2, .ref p3]) nX
    have gX : (upd G4 X (.lst [.ref p1, .ref p2, .ref p3])) X = some (.lst ([p1, p2, p3].map V.ref)) := upd_same
    generalize upd G4 X (.lst [.ref p1, .ref p2, .ref p3]) = G5 at t5 gX ⊢
    walk_at "r"
    have tG5 : Same G G5 := (((t1.trans t2).trans t3).trans t4).trans t5
    have s45 : Same H4 G5 := s5.trans tG5
    have w1 := tG5 _ _ v1
    have w2 := tG5 _ _ v2
    have w3 := tG5 _ _ v3
    have dl := menu_two z1 m1 z2 m2
    refine ⟨dList z1 z2, dList z1 z2, .lst (SqL.of (tG5 _ _ d5)) (.cons (lst_dp w1) (.cons (lst_dp w2) (.cons (lst_dp w3) .nil))),
      .lst (SqL.of (s45 _ _ g4)) (.cons (lst_dp (s45 _ _ (hls 0 l1 z1 rfl rfl).2)) (.cons (lst_dp (s45 _ _ (hls 1 l2 z2 rfl rfl).2)) (.cons (lst_dp (s45 _ _ (hls 2 l3 _ rfl rfl).2)) .nil))), dl.1, dl.1, ?_⟩
    rw [dl.2]
    walk_at "r"
    obtain ⟨zl1, zl3⟩ := menu_len z1 m1
    obtain ⟨yl1, yl3⟩ := menu_len z2 m2
    obtain ⟨xl1, xl3⟩ := menu_len _ m3
    have sps5 : ∀ (i : Nat) p zs, [p1, p2, p3][i]? = some p → [z1, z2, z1.reverse][i]? = some zs → SpaceAt C G5 p zs := by
      intro i p zs ea ez
      match i, ea, ez with
      | 0, ea, ez => cases ea; cases ez; exact (((sp1.same t2).same t3).same t4).same t5
      | 1, ea, ez => cases ea; cases ez; exact (sp2.same t4).same t5
      | 2, ea, ez => cases ea; cases ez; exact sp3.same t5
      | _ + 3, ea, ez => cases ea
    refine r_for ?_
    refine r_il ?_
    walk_at "r"
    have lsts : ∀ h ∈ [h1, h2, h3], ∃ xs : List V, G5 h = some (.lst xs) ∧ 1 ≤ xs.length ∧ xs.length ≤ 10 := by
      intro h mh
      simp only [List.mem_cons, List.not_mem_nil, or_false] at mh
      rcases mh with rfl | rfl | rfl
      · exact ⟨_, w1, by rw [List.length_map]; omega, by rw [List.length_map]; omega⟩
      · exact ⟨_, w2, by rw [List.length_map]; omega, by rw [List.length_map]; omega⟩
      · exact ⟨_, w3, by rw [List.length_map]; omega, by rw [List.length_map]; omega⟩
    have free4 : ∀ h ∈ [h1, h2, h3], H4 h = none := by
      intro h mh
      simp only [List.mem_cons, List.not_mem_nil, or_false] at mh
      rcases mh with rfl | rfl | rfl
      · exact f1.1
      · exact f2.1
      · exact f3.1
    have notD : ¬ D ∈ [h1, h2, h3] := by
      intro mh
      simp only [List.mem_cons, List.not_mem_nil, or_false] at mh
      rcases mh with e | e | e
      · exact f1.2 e.symm
      · exact f2.2 e.symm
      · exact f3.2 e.symm
    have notX : ¬ X ∈ [h1, h2, h3] := by
      intro mh
      have e4 : G4 X = none := nX
      have s14 : Same G G4 := ((t1.trans t2).trans t3).trans t4
      simp only [List.mem_cons, List.not_mem_nil, or_false] at mh
      rcases mh with e | e | e
      · rw [e, s14 _ _ v1] at e4; cases e4
      · rw [e, s14 _ _ v2] at e4; cases e4
      · rw [e, s14 _ _ v3] at e4; cases e4
    have d55 : G5 D = some (.lst [.ref h1, .ref h2, .ref h3]) := tG5 _ _ d5
    refine ⟨D, rfl, ⟨_, SqL.of d55⟩, for_list (K := K) (a := D) (xs := [V.ref h1, .ref h2, .ref h3]) (fun i τ A => ∃ v4 : Option V, τ = [some (.ref b), some (.ref y), some (.ref D), some (.ref X), v4, none, none, some (.ref l1), some (.ref l2)] ∧ Keep [h1, h2, h3] G5 A ∧
        ∀ h ∈ [h1, h2, h3], ∃ xs : List V, A h = some (.lst xs) ∧ 1 ≤ xs.length ∧ xs.length ≤ 10 + i) ⟨none, rfl, Keep.refl _, lsts⟩ (fun i τ A _ q => ?_) ?_ ?_⟩
    · obtain ⟨_, _, kA, _⟩ := q
      exact SqL.of (kA _ _ notD d55)
    · rintro i x τ A hx ⟨v4, rfl, kA, lA⟩
      have i3 : i < 3 := (List.getElem?_eq_some_iff.mp hx).1
      have hy : ∃ h, x = .ref h ∧ h ∈ [h1, h2, h3] := by
        obtain rfl | rfl | rfl : i = 0 ∨ i = 1 ∨ i = 2 := by omega
        · exact ⟨h1, (Option.some.inj hx).symm, by simp⟩
        · exact ⟨h2, (Option.some.inj hx).symm, by simp⟩
        · exact ⟨h3, (Option.some.inj hx).symm, by simp⟩
      obtain ⟨h, rfl, mh⟩ := hy
      obtain ⟨xs, ah, x1, x10⟩ := lA h mh
      walk_at "r"
      refine ⟨_, rfl, .inl ⟨rfl, _, SqL.of ah⟩, ?_⟩
      walk_at "r"
      refine ⟨h, xs, .int 2, rfl, rfl, ah, by rw [sizeLine_eq]; omega, ?_⟩
      walk_at "r"
      refine r_setL upd_same (j := 0) (by unfold ixN; rw [if_pos (by decide), if_pos (by rw [List.length_append]; simp)]; rfl) ?_
      refine ⟨_, rfl, (kA.trans (Keep.upd mh)).trans (Keep.upd mh), fun h' mh' => ?_⟩
      by_cases e : h' = h
      · subst e
        exact ⟨_, upd_same, by rw [List.length_set, List.length_append]; omega, by rw [List.length_set, List.length_append]; simp; omega⟩
      · obtain ⟨xs', ah', q1, q2⟩ := lA h' mh'
        exact ⟨xs', by rw [upd_ne e, upd_ne e]; exact ah', q1, by omega⟩
    · rintro τ A ⟨v4, rfl, kA, lA⟩
      have sA : Same H4 A := fun a o e => kA _ _ (fun mh => by rw [free4 a mh] at e; cases e) (s45 _ _ e)
      have gXA := kA _ _ notX gX
      have spA : ∀ (i : Nat) p zs, [p1, p2, p3][i]? = some p → [z1, z2, z1.reverse][i]? = some zs → SpaceAt C A p zs := fun i p zs e1 e2 =>
        (sps5 i p zs e1 e2).keep (fun h mh => by obtain ⟨xs, e, _⟩ := lsts h mh; exact ⟨xs, e⟩) kA
      have bA := b4.same sA
      have btA : But b H A := bt4.trans (But.of sA)
      have gyA := sA _ _ g4
      clear sps5 lsts free4 notD notX d55 kA lA sp1 sp2 sp3
      walk_at "r"
      refine ⟨b, 2, _, rfl, bA, by decide, by decide, by decide, fun r A1 r0 r1 bA1 btA1 => ?_⟩
      walk_at "r"
      refine if_both (fun Q => ∀ u A2 (ord : List Int), Same A1 A2 → (ord = [0, 1, 2] ∨ ord = [1, 2, 0]) → A2 u = some (.lst (ord.map V.int)) → Q (.ref u) A2) (fun _ Q kk => ?_) (fun _ Q kk => ?_) (fun u A2 ord sA2 hord gu => ?_)
      · walk_at "r"
        refine ⟨by show 3 ≤ sizeLine; decide, fun u nu => ?_⟩
        exact kk u _ [0, 1, 2] (Same.upd_new nu) (.inl rfl) upd_same
      · walk_at "r"
        refine ⟨by show 3 ≤ sizeLine; decide, fun u nu => ?_⟩
        exact kk u _ [1, 2, 0] (Same.upd_new nu) (.inr rfl) upd_same
      walk_at "r"
      refine r_for ?_
      refine r_il ?_
      walk_at "r"
      refine ⟨_, rfl, u, _, rfl, SqL.of gu, fun u2 n2 => ?_⟩
      have sr := Same.upd_new (o := .lst (ord.map V.int).reverse) n2
      have gr : (upd A2 u2 (.lst (ord.map V.int).reverse)) u2 = some (.lst (ord.map V.int).reverse) := upd_same
      generalize upd A2 u2 (.lst (ord.map V.int).reverse) = A3 at sr gr ⊢
      have ol : ord.length = 3 := by rcases hord with rfl | rfl <;> rfl
      refine ⟨u, u2, _, _, rfl, rfl, sr _ _ gu, gr, by rw [List.length_reverse, List.length_map, ol]; decide, fun q nq => ?_⟩
      have ef : ord.map V.int ++ (ord.map V.int).reverse = (ord ++ ord.reverse).map V.int := by rw [List.map_append, List.map_reverse]
      rw [ef]
      have sq := Same.upd_new (o := .lst ((ord ++ ord.reverse).map V.int)) nq
      have gq : (upd A3 q (.lst ((ord ++ ord.reverse).map V.int))) q = some (.lst ((ord ++ ord.reverse).map V.int)) := upd_same
      generalize upd A3 q (.lst ((ord ++ ord.reverse).map V.int)) = A4 at sq gq ⊢
      have fl : (ord ++ ord.reverse).length = 6 := by rw [List.length_append, List.length_reverse, ol]
      have fe : ∀ x ∈ ord ++ ord.reverse, 0 ≤ x ∧ x < 3 := by
        rcases hord with rfl | rfl <;> decide
      generalize ord ++ ord.reverse = full at gq fl fe ⊢
      have s14 : Same A1 A4 := (sA2.trans sr).trans sq
      have b14 := bA1.same s14
      have bt14 : But b A A4 := btA1.trans (But.of s14)
      have gX4 := refs_keep gXA bA bt14
      have gy4 := refs_keep gyA bA bt14
      have sp4 : ∀ (i : Nat) p zs, [p1, p2, p3][i]? = some p → [z1, z2, z1.reverse][i]? = some zs → SpaceAt C A4 p zs := fun i p zs e1 e2 => (spA i p zs e1 e2).but bA bt14
      have ls4 : ∀ (i : Nat) a zs, [l1, l2, l3][i]? = some a → [z1, z2, z1.reverse][i]? = some zs → A4 a = some (.lst (zs.map V.int)) := fun i a zs e1 e2 => ints_keep (sA _ _ (hls i a zs e1 e2).2) bA bt14
      refine ⟨q, rfl, ⟨_, SqL.of gq⟩, for_list (K := K) (a := q) (xs := full.map V.int) (fun i τ T => ∃ v4 v6 : Option V, τ = [some (.ref b), some (.ref y), some (.ref D), some (.ref X), v4, some (.ref u), v6, some (.ref l1), some (.ref l2)] ∧ BoxAt T b (3 + 150 * i) ∧ But b A4 T)
        ⟨_, _, rfl, b14, But.refl _⟩ (fun i τ T _ t => ?_) ?_ ?_⟩
      · obtain ⟨_, _, _, _, bt⟩ := t
        exact SqL.of (ints_keep gq b14 bt)
      · rintro i x τ T hx ⟨v4', v6, rfl, bT, bt⟩
        obtain ⟨kk, hk, rfl⟩ := map_get hx
        have i6 : i < 6 := fl ▸ (List.getElem?_eq_some_iff.mp hk).1
        obtain ⟨k0, k3⟩ := fe kk (List.mem_of_getElem? hk)
        obtain ⟨j, rfl⟩ := Int.eq_ofNat_of_zero_le k0
        have j3 : j < 3 := by omega
        have e1 : [p1, p2, p3][j]? = some ([p1, p2, p3][j]'j3) := List.getElem?_eq_getElem _
        have e2 : [l1, l2, l3][j]? = some ([l1, l2, l3][j]'j3) := List.getElem?_eq_getElem _
        have e3 : [z1, z2, z1.reverse][j]? = some ([z1, z2, z1.reverse][j]'j3) := List.getElem?_eq_getElem _
        generalize [p1, p2, p3][j]'j3 = pj at e1
        generalize [l1, l2, l3][j]'j3 = lj at e2
        generalize [z1, z2, z1.reverse][j]'j3 = zj at e3
        have ixr : ∀ {qs : List Addr} {q : Addr}, qs[j]? = some q → atI (qs.map V.ref) ((j : Nat) : Int) = some (.ref q) := fun e => atI_nat (by rw [List.getElem?_map, e]; rfl)
        walk_at "r"
        refine r_ixL (SqL.of (refs_keep gX4 b14 bt)) (ixr e1) ?_
        walk_at "r"
        refine r_ixL (SqL.of (refs_keep gy4 b14 bt)) (ixr e2) ?_
        walk_at "r"
        refine ⟨b, pj, lj, _, zj, rfl, (hls j lj zj e2 e3).1, bT, by omega, (sp4 j pj zj e1 e3).but b14 bt, ints_keep (ls4 j lj zj e2 e3) b14 bt, fun T2 bT2 btT2 => ?_⟩
        walk_at "r"
        exact ⟨_, _, rfl, bT2.mono (by omega), bt.trans btT2⟩
      · rintro τ T ⟨v4', v6, rfl, bT, bt⟩
        walk_at "r"
        refine ⟨X, y, [p1, p2, p3], [l1, l2, l3], [z1, z2, z1.reverse], rfl, rfl, rfl, rfl, refs_keep gX4 b14 bt, refs_keep gy4 b14 bt, ?_, fun i p zs e1 e2 => (sp4 i p zs e1 e2).but b14 bt, fun i a zs e1 e2 => ints_keep (ls4 i a zs e1 e2) b14 bt, fun T2 sT => ?_⟩
        · intro zs mz
          simp only [List.mem_cons, List.not_mem_nil, or_false] at mz
          rcases mz with rfl | rfl | rfl
          · exact m1
          · exact m2
          · exact m3
        · exact k T2 ((btA.trans bt14).trans (bt.trans (But.of sT)))
end
end Eld
set_option Elab.async false
set_option maxRecDepth 100000
set_option maxHeartbeats 4000000
set_option linter.all false
namespace Eld
open PySem L2
local macro_rules | `(tactic| walk_at "r1") => `(tactic| with_reducible first
  | refine r_seq ?_ | refine r_asgN ?_ | refine r_asg ?_ | refine r_gname ?_ | refine r_gsub ?_ | refine r_var rfl ?_ | refine r_c ?_ | refine r_op ?_ | refine r_un ?_ | refine r_u ?_ | refine r_i0 ?_ | refine r_cb ?_ | refine r_cons ?_ | refine r_nil ?_ | refine r_cl ?_ | refine r_fn rfl rfl ?_ | refine r_mt ?_
  | refine r_test ?_ | refine r_tb ?_ | refine r_bl ?_ | refine r_and ?_ | refine r_or ?_ | refine r_not ?_ | refine r_andV ?_ | refine r_orV ?_ | refine r_notV ?_ | refine r_ifX ?_ | refine r_ifs ?_ | refine r_chain ?_ | refine r_ret ?_ | refine r_next ?_ | refine r_drop ?_ | refine iteT ?_ | refine iteF ?_ | refine iteNT ?_ | refine iteNF ?_
  | refine r_int1 ?_ | refine r_boolB ?_ | refine r_eqI ?_ | refine r_neI ?_ | refine r_eqB ?_ | refine r_neB ?_ | refine r_eqS ?_ | refine r_neS ?_ | refine r_abs ?_ | refine r_max2 ?_ | refine r_min2 ?_ | refine r_yes ?_ | refine r_tup ?_ | refine r_sfld ?_ | refine r_m0 ?_ | refine r_m1 ?_ | refine r_lst ?_ | refine r_rng1 ?_ | refine r_rng2 ?_ | refine r_ixL (SqL.of (by assumption)) rfl ?_)
local macro_rules | `(tactic| walk_at "r") => `(tactic| repeat (first | walk_at "r1" | ((with_reducible refine r_var ?hv ?_); (case hv => rfl))))

def spLaw (K : PySem.W.Frag) : Sp := fun vs H Q _ => ∃ (a : Addr) (ns : List Int), vs = [.ref a] ∧ ns.length ≤ sizeLine ∧ SqL K H a (ns.map V.int) ∧ ∀ G, Q (.bl true) G
section
variable {P : Program} {w : World} {K : PySem.W.Frag} {mg : Str → Option Value} {base : Heap}
theorem ok_law {f : Addr} {fd : FuncData} (F : Fun K "law" "law" s_law f fd) (Z : Zs mg) (d__law_cell : DefD P w K mg base 1 "_law_cell" 2 [] byPlace (spCell K)) (d__law_box : DefD P w K mg base 1 "_law_box" 1 [] byPlace spBox)
    (d__law_right : DefD P w K mg base 8 "_law_right" 1 [] byPlace spRight) : FnG P w K mg base CX0 9 f fd ["script"] (spLaw K) := by
  refine okG F sc_law (fun vs H Q E h => ?_) (fun cdv B up z H vs Q E hG hr h => ?_)
  · obtain ⟨a, ns, rfl, _⟩ := h
    rfl
  · obtain ⟨a, ns, rfl, hl, ha, k⟩ := h
    refine ⟨_, (pss_cons (ps_for PassesOwn.never rfl (pi_range1 (by rfl) Z.range_ (pa_cons (pe_callB (c_max2 rfl) (by rfl) Z.max_ (by decide +kernel) (pa_cons pe_int (pa_cons (pe_callB (c_min2 rfl) (by rfl) Z.min_ (by decide +kernel) (pa_cons pe_int (pa_cons (pe_callB (show CallR _ _ (rLen K) from c_len) (by rfl) Z.len_ (by decide +kernel) (pa_cons (pv 0) pa_nil)) pa_nil))) pa_nil))) pa_nil)) (pg_name (i := 1) sc_law.nd rfl (by first | exact Or.inl rfl | exact Or.inr rfl))
  (pss_one (ps_if (pt_not (pt_val (pd_pos d__law_right hG hr (by decide) (by rfl) (pa_cons (pd_pos d__law_box hG hr (by decide) (by rfl) (pa_cons (pd_pos d__law_cell hG hr (by decide) (by rfl) (pa_cons (pv 0) (pa_cons (pv 1) pa_nil))) pa_nil)) pa_nil)))) (pss_one (ps_ret pe_bl)) pss_nil)))
  (pss_one (ps_ret pe_bl))), ?_⟩
    refine r_seq ?_
    refine r_for ?_
    walk_at "r"
    refine r_lenL ha ?_
    walk_at "r"
    generalize hm : (if (if ((ns.map V.int).length : Int) < 4 then ((ns.map V.int).length : Int) else 4) > 2 then (if ((ns.map V.int).length : Int) < 4 then ((ns.map V.int).length : Int) else 4) else 2) = m
    have m4 : 0 ≤ m ∧ m ≤ 4 := by rw [← hm]; split <;> split <;> omega
    refine ⟨_, rfl, by omega, by omega, ?_⟩
    refine for_range (fun i τ G => ∃ v1 : Option V, τ = [some (.ref a), v1] ∧ Same H G) ⟨none, rfl, Same.refl H⟩ ?_ ?_
    · rintro i τ G hi ⟨v1, rfl, sG⟩
      rw [Int.zero_add]
      walk_at "r"
      refine ⟨a, ns, i, rfl, by omega, hl, SqL.same ha sG, fun r G2 s2 => ?_⟩
      walk_at "r"
      refine ⟨r, rfl, fun b G3 s3 n3 b3 => ?_⟩
      walk_at "r"
      refine ⟨b, rfl, b3, fun G4 bt => ?_⟩
      walk_at "r"
      exact ⟨_, rfl, fun a' o e => bt _ _ (ne_of_none (sG.trans s2 _ _ e) n3) (s3 _ _ (s2 _ _ (sG _ _ e)))⟩
    · rintro τ G ⟨v1, rfl, sG⟩
      walk_at "r"
      exact k G
end
end Eld
set_option Elab.async false
set_option maxRecDepth 100000
set_option maxHeartbeats 4000000
set_option linter.all false
namespace Eld
open PySem L2
local macro_rules | `(tactic| walk_at "r1") => `(tactic| with_reducible first
  | refine r_seq ?_ | refine r_asgN ?_ | refine r_asg ?_ | refine r_gname ?_ | refine r_gsub ?_ | refine r_var rfl ?_ | refine r_c ?_ | refine r_op ?_ | refine r_un ?_ | refine r_u ?_ | refine r_i0 ?_ | refine r_cb ?_ | refine r_cons ?_ | refine r_nil ?_ | refine r_cl ?_ | refine r_fn rfl rfl ?_ | refine r_mt ?_
  | refine r_test ?_ | refine r_tb ?_ | refine r_bl ?_ | refine r_and ?_ | refine r_or ?_ | refine r_not ?_ | refine r_andV ?_ | refine r_orV ?_ | refine r_notV ?_ | refine r_ifX ?_ | refine r_ifs ?_ | refine r_chain ?_ | refine r_ret ?_ | refine r_next ?_ | refine r_drop ?_ | refine iteT ?_ | refine iteF ?_ | refine iteNT ?_ | refine iteNF ?_
  | refine r_int1 ?_ | refine r_boolB ?_ | refine r_eqI ?_ | refine r_neI ?_ | refine r_eqB ?_ | refine r_neB ?_ | refine r_eqS ?_ | refine r_neS ?_ | refine r_abs ?_ | refine r_max2 ?_ | refine r_min2 ?_ | refine r_yes ?_ | refine r_tup ?_ | refine r_sfld ?_ | refine r_m0 ?_ | refine r_m1 ?_ | refine r_lst ?_ | refine r_rng1 ?_ | refine r_rng2 ?_ | refine r_ixL (SqL.of (by assumption)) rfl ?_)
local macro_rules | `(tactic| walk_at "r") => `(tactic| repeat (first | walk_at "r1" | ((with_reducible refine r_var ?hv ?_); (case hv => rfl))))

theorem mk_fun {K : PySem.W.Frag} {x ql : Str} {st : Stmt} {f : Addr} {oc : Value} {od an : Option Addr} {osl : Array (Option Value)} {kV doc pm cdv ct : Value} (l : K.lookup f = some ⟨oc, od, .func (PySem.W.fnOf x ql (defArgs st) (defBody st) (defScope st) .none kV doc pm an cdv ct), osl⟩) (c : PySem.W.codeIn K cdv ql = true) (k : PySem.W.keepIn K (.ref f) = true) :
    Fun K x ql st f (PySem.W.fnOf x ql (defArgs st) (defBody st) (defScope st) .none kV doc pm an cdv ct) := fun_mk l c k
/-- what stands at a name of the module -/
structure AtN (K : PySem.W.Frag) (x : Str) (st : Stmt) (f : Addr) (fd : FuncData) : Prop where
  at_ : PySem.W.nsIn K mainGlobals x = some (some (.ref f))
  fn : Fun K x x st f fd
  kp : PySem.W.keepIn K (.ref f) = true
/-- what stands at a name of the class -/
structure AtM (K : PySem.W.Frag) (C : Addr) (x ql : Str) (st : Stmt) (f : Addr) (fd : FuncData) : Prop where
  me : Meth K C x f
  fn : Fun K x ql st f fd
theorem all_mk {l : PySem.W.OpenLaw} {w : World} {K : PySem.W.Frag} {h : Heap} {mg : Str → Option Value} {fa C f0 f1 f2 f3 f4 f5 f6 f7 f8 f9 f10 f11 f12 f13 f14 f15 f16 f17 f18 f19 f20 f21 f22 f23 f24 f25 : Addr} (X : K.In h) (G : h.Ns mainGlobals mg) (hfa : mg "law" = some (.ref fa))
    {od0 an0 od1 an1 od2 an2 od3 an3 od4 an4 od5 an5 od6 an6 od7 an7 od8 an8 od9 an9 od10 an10 od11 an11 od12 an12 od13 an13 od14 an14 od15 an15 od16 an16 od17 an17 od18 an18 od19 an19 od20 an20 od21 an21 od22 an22 od23 an23 od24 an24 od25 an25 : Option Addr} {sl0 sl1 sl2 sl3 sl4 sl5 sl6 sl7 sl8 sl9 sl10 sl11 sl12 sl13 sl14 sl15 sl16 sl17 sl18 sl19 sl20 sl21 sl22 sl23 sl24 sl25 : Array (Option Value)} {oc0 kV0 dc0 pm0 cd0 ct0 oc1 kV1 dc1 pm1 cd1 ct1 oc2 kV2 dc2 pm2 cd2 ct2 oc3 kV3 dc3 pm3 cd3 ct3 oc4 kV4 dc4 pm4 cd4 ct4 oc5 kV5 dc5 pm5 cd5 ct5 oc6 kV6 dc6 pm6 cd6 ct6 oc7 kV7 dc7 pm7 cd7 ct7 oc8 kV8 dc8 pm8 cd8 ct8 oc9 kV9 dc9 pm9 cd9 ct9 oc10 kV10 dc10 pm10 cd10 ct10 oc11 kV11 dc11 pm11 cd11 ct11 oc12 kV12 dc12 pm12 cd12 ct12 oc13 kV13 dc13 pm13 cd13 ct13 oc14 kV14 dc14 pm14 cd14 ct14 oc15 kV15 dc15 pm15 cd15 ct15 oc16 kV16 dc16 pm16 cd16 ct16 oc17 kV17 dc17 pm17 cd17 ct17 oc18 kV18 dc18 pm18 cd18 ct18 oc19 kV19 dc19 pm19 cd19 ct19 oc20 kV20 dc20 pm20 cd20 ct20 oc21 kV21 dc21 pm21 cd21 ct21 oc22 kV22 dc22 pm22 cd22 ct22 oc23 kV23 dc23 pm23 cd23 ct23 oc24 kV24 dc24 pm24 cd24 ct24 oc25 kV25 dc25 pm25 cd25 ct25 : Value} {tN tS : Nat}
    (aC : PySem.W.nsIn K mainGlobals "Space" = some (some (.ref C)))
    (a0 : PySem.W.nsIn K mainGlobals "is_integer" = some (some (.ref f0)))
    (l0 : K.lookup f0 = some ⟨oc0, od0, .func (PySem.W.fnOf "is_integer" "is_integer" (defArgs s_is_integer) (defBody s_is_integer) (defScope s_is_integer) .none kV0 dc0 pm0 an0 cd0 ct0), sl0⟩)
    (c0 : PySem.W.codeIn K cd0 "is_integer" = true)
    (k0 : PySem.W.keepIn K (.ref f0) = true)
    (a1 : PySem.W.nsIn K mainGlobals "is_list" = some (some (.ref f1)))
    (l1 : K.lookup f1 = some ⟨oc1, od1, .func (PySem.W.fnOf "is_list" "is_list" (defArgs s_is_list) (defBody s_is_list) (defScope s_is_list) .none kV1 dc1 pm1 an1 cd1 ct1), sl1⟩)
    (c1 : PySem.W.codeIn K cd1 "is_list" = true)
    (k1 : PySem.W.keepIn K (.ref f1) = true)
    (a2 : PySem.W.nsIn K mainGlobals "is_from" = some (some (.ref f2)))
    (l2 : K.lookup f2 = some ⟨oc2, od2, .func (PySem.W.fnOf "is_from" "is_from" (defArgs s_is_from) (defBody s_is_from) (defScope s_is_from) .none kV2 dc2 pm2 an2 cd2 ct2), sl2⟩)
    (c2 : PySem.W.codeIn K cd2 "is_from" = true)
    (k2 : PySem.W.keepIn K (.ref f2) = true)
    (a3 : PySem.W.nsIn K mainGlobals "is_index" = some (some (.ref f3)))
    (l3 : K.lookup f3 = some ⟨oc3, od3, .func (PySem.W.fnOf "is_index" "is_index" (defArgs s_is_index) (defBody s_is_index) (defScope s_is_index) .none kV3 dc3 pm3 an3 cd3 ct3), sl3⟩)
    (c3 : PySem.W.codeIn K cd3 "is_index" = true)
    (k3 : PySem.W.keepIn K (.ref f3) = true)
    (a4 : PySem.W.nsIn K mainGlobals "is_digits" = some (some (.ref f4)))
    (l4 : K.lookup f4 = some ⟨oc4, od4, .func (PySem.W.fnOf "is_digits" "is_digits" (defArgs s_is_digits) (defBody s_is_digits) (defScope s_is_digits) .none kV4 dc4 pm4 an4 cd4 ct4), sl4⟩)
    (c4 : PySem.W.codeIn K cd4 "is_digits" = true)
    (k4 : PySem.W.keepIn K (.ref f4) = true)
    (a5 : PySem.W.findIn K (.ref C) "__init__" = some (some (.ref f5)))
    (i5 : PySem.W.isFn K (.ref f5) = true)
    (l5 : K.lookup f5 = some ⟨oc5, od5, .func (PySem.W.fnOf "__init__" "Space.__init__" (defArgs s_Space___init__) (defBody s_Space___init__) (defScope s_Space___init__) .none kV5 dc5 pm5 an5 cd5 ct5), sl5⟩)
    (c5 : PySem.W.codeIn K cd5 "Space.__init__" = true)
    (k5 : PySem.W.keepIn K (.ref f5) = true)
    (a6 : PySem.W.findIn K (.ref C) "__len__" = some (some (.ref f6)))
    (i6 : PySem.W.isFn K (.ref f6) = true)
    (l6 : K.lookup f6 = some ⟨oc6, od6, .func (PySem.W.fnOf "__len__" "Space.__len__" (defArgs s_Space___len__) (defBody s_Space___len__) (defScope s_Space___len__) .none kV6 dc6 pm6 an6 cd6 ct6), sl6⟩)
    (c6 : PySem.W.codeIn K cd6 "Space.__len__" = true)
    (k6 : PySem.W.keepIn K (.ref f6) = true)
    (a7 : PySem.W.findIn K (.ref C) "__eq__" = some (some (.ref f7)))
    (i7 : PySem.W.isFn K (.ref f7) = true)
    (l7 : K.lookup f7 = some ⟨oc7, od7, .func (PySem.W.fnOf "__eq__" "Space.__eq__" (defArgs s_Space___eq__) (defBody s_Space___eq__) (defScope s_Space___eq__) .none kV7 dc7 pm7 an7 cd7 ct7), sl7⟩)
    (c7 : PySem.W.codeIn K cd7 "Space.__eq__" = true)
    (k7 : PySem.W.keepIn K (.ref f7) = true)
    (a8 : PySem.W.findIn K (.ref C) "at" = some (some (.ref f8)))
    (i8 : PySem.W.isFn K (.ref f8) = true)
    (l8 : K.lookup f8 = some ⟨oc8, od8, .func (PySem.W.fnOf "at" "Space.at" (defArgs s_Space_at) (defBody s_Space_at) (defScope s_Space_at) .none kV8 dc8 pm8 an8 cd8 ct8), sl8⟩)
    (c8 : PySem.W.codeIn K cd8 "Space.at" = true)
    (k8 : PySem.W.keepIn K (.ref f8) = true)
    (a9 : PySem.W.findIn K (.ref C) "store" = some (some (.ref f9)))
    (i9 : PySem.W.isFn K (.ref f9) = true)
    (l9 : K.lookup f9 = some ⟨oc9, od9, .func (PySem.W.fnOf "store" "Space.store" (defArgs s_Space_store) (defBody s_Space_store) (defScope s_Space_store) .none kV9 dc9 pm9 an9 cd9 ct9), sl9⟩)
    (c9 : PySem.W.codeIn K cd9 "Space.store" = true)
    (k9 : PySem.W.keepIn K (.ref f9) = true)
    (a10 : PySem.W.findIn K (.ref C) "line" = some (some (.ref f10)))
    (i10 : PySem.W.isFn K (.ref f10) = true)
    (l10 : K.lookup f10 = some ⟨oc10, od10, .func (PySem.W.fnOf "line" "Space.line" (defArgs s_Space_line) (defBody s_Space_line) (defScope s_Space_line) .none kV10 dc10 pm10 an10 cd10 ct10), sl10⟩)
    (c10 : PySem.W.codeIn K cd10 "Space.line" = true)
    (k10 : PySem.W.keepIn K (.ref f10) = true)
    (a11 : PySem.W.nsIn K mainGlobals "all_values" = some (some (.ref f11)))
    (l11 : K.lookup f11 = some ⟨oc11, od11, .func (PySem.W.fnOf "all_values" "all_values" (defArgs s_all_values) (defBody s_all_values) (defScope s_all_values) .none kV11 dc11 pm11 an11 cd11 ct11), sl11⟩)
    (c11 : PySem.W.codeIn K cd11 "all_values" = true)
    (k11 : PySem.W.keepIn K (.ref f11) = true)
    (a12 : PySem.W.nsIn K mainGlobals "is_sizes" = some (some (.ref f12)))
    (l12 : K.lookup f12 = some ⟨oc12, od12, .func (PySem.W.fnOf "is_sizes" "is_sizes" (defArgs s_is_sizes) (defBody s_is_sizes) (defScope s_is_sizes) .none kV12 dc12 pm12 an12 cd12 ct12), sl12⟩)
    (c12 : PySem.W.codeIn K cd12 "is_sizes" = true)
    (k12 : PySem.W.keepIn K (.ref f12) = true)
    (a13 : PySem.W.nsIn K mainGlobals "is_values" = some (some (.ref f13)))
    (l13 : K.lookup f13 = some ⟨oc13, od13, .func (PySem.W.fnOf "is_values" "is_values" (defArgs s_is_values) (defBody s_is_values) (defScope s_is_values) .none kV13 dc13 pm13 an13 cd13 ct13), sl13⟩)
    (c13 : PySem.W.codeIn K cd13 "is_values" = true)
    (k13 : PySem.W.keepIn K (.ref f13) = true)
    (a14 : PySem.W.nsIn K mainGlobals "read_space" = some (some (.ref f14)))
    (l14 : K.lookup f14 = some ⟨oc14, od14, .func (PySem.W.fnOf "read_space" "read_space" (defArgs s_read_space) (defBody s_read_space) (defScope s_read_space) .none kV14 dc14 pm14 an14 cd14 ct14), sl14⟩)
    (c14 : PySem.W.codeIn K cd14 "read_space" = true)
    (k14 : PySem.W.keepIn K (.ref f14) = true)
    (a15 : PySem.W.nsIn K mainGlobals "_law_cell" = some (some (.ref f15)))
    (l15 : K.lookup f15 = some ⟨oc15, od15, .func (PySem.W.fnOf "_law_cell" "_law_cell" (defArgs s__law_cell) (defBody s__law_cell) (defScope s__law_cell) .none kV15 dc15 pm15 an15 cd15 ct15), sl15⟩)
    (c15 : PySem.W.codeIn K cd15 "_law_cell" = true)
    (k15 : PySem.W.keepIn K (.ref f15) = true)
    (a16 : PySem.W.nsIn K mainGlobals "_law_box" = some (some (.ref f16)))
    (l16 : K.lookup f16 = some ⟨oc16, od16, .func (PySem.W.fnOf "_law_box" "_law_box" (defArgs s__law_box) (defBody s__law_box) (defScope s__law_box) .none kV16 dc16 pm16 an16 cd16 ct16), sl16⟩)
    (c16 : PySem.W.codeIn K cd16 "_law_box" = true)
    (k16 : PySem.W.keepIn K (.ref f16) = true)
    (a17 : PySem.W.nsIn K mainGlobals "_law_take" = some (some (.ref f17)))
    (l17 : K.lookup f17 = some ⟨oc17, od17, .func (PySem.W.fnOf "_law_take" "_law_take" (defArgs s__law_take) (defBody s__law_take) (defScope s__law_take) .none kV17 dc17 pm17 an17 cd17 ct17), sl17⟩)
    (c17 : PySem.W.codeIn K cd17 "_law_take" = true)
    (k17 : PySem.W.keepIn K (.ref f17) = true)
    (a18 : PySem.W.nsIn K mainGlobals "_law_sizes" = some (some (.ref f18)))
    (l18 : K.lookup f18 = some ⟨oc18, od18, .func (PySem.W.fnOf "_law_sizes" "_law_sizes" (defArgs s__law_sizes) (defBody s__law_sizes) (defScope s__law_sizes) .none kV18 dc18 pm18 an18 cd18 ct18), sl18⟩)
    (c18 : PySem.W.codeIn K cd18 "_law_sizes" = true)
    (k18 : PySem.W.keepIn K (.ref f18) = true)
    (a19 : PySem.W.nsIn K mainGlobals "_law_rows" = some (some (.ref f19)))
    (l19 : K.lookup f19 = some ⟨oc19, od19, .func (PySem.W.fnOf "_law_rows" "_law_rows" (defArgs s__law_rows) (defBody s__law_rows) (defScope s__law_rows) .none kV19 dc19 pm19 an19 cd19 ct19), sl19⟩)
    (c19 : PySem.W.codeIn K cd19 "_law_rows" = true)
    (k19 : PySem.W.keepIn K (.ref f19) = true)
    (a20 : PySem.W.nsIn K mainGlobals "_law_whole" = some (some (.ref f20)))
    (l20 : K.lookup f20 = some ⟨oc20, od20, .func (PySem.W.fnOf "_law_whole" "_law_whole" (defArgs s__law_whole) (defBody s__law_whole) (defScope s__law_whole) .none kV20 dc20 pm20 an20 cd20 ct20), sl20⟩)
    (c20 : PySem.W.codeIn K cd20 "_law_whole" = true)
    (k20 : PySem.W.keepIn K (.ref f20) = true)
    (a21 : PySem.W.nsIn K mainGlobals "_law_stores_right" = some (some (.ref f21)))
    (l21 : K.lookup f21 = some ⟨oc21, od21, .func (PySem.W.fnOf "_law_stores_right" "_law_stores_right" (defArgs s__law_stores_right) (defBody s__law_stores_right) (defScope s__law_stores_right) .none kV21 dc21 pm21 an21 cd21 ct21), sl21⟩)
    (c21 : PySem.W.codeIn K cd21 "_law_stores_right" = true)
    (k21 : PySem.W.keepIn K (.ref f21) = true)
    (a22 : PySem.W.nsIn K mainGlobals "_law_space_right" = some (some (.ref f22)))
    (l22 : K.lookup f22 = some ⟨oc22, od22, .func (PySem.W.fnOf "_law_space_right" "_law_space_right" (defArgs s__law_space_right) (defBody s__law_space_right) (defScope s__law_space_right) .none kV22 dc22 pm22 an22 cd22 ct22), sl22⟩)
    (c22 : PySem.W.codeIn K cd22 "_law_space_right" = true)
    (k22 : PySem.W.keepIn K (.ref f22) = true)
    (a23 : PySem.W.nsIn K mainGlobals "_law_equal_right" = some (some (.ref f23)))
    (l23 : K.lookup f23 = some ⟨oc23, od23, .func (PySem.W.fnOf "_law_equal_right" "_law_equal_right" (defArgs s__law_equal_right) (defBody s__law_equal_right) (defScope s__law_equal_right) .none kV23 dc23 pm23 an23 cd23 ct23), sl23⟩)
    (c23 : PySem.W.codeIn K cd23 "_law_equal_right" = true)
    (k23 : PySem.W.keepIn K (.ref f23) = true)
    (a24 : PySem.W.nsIn K mainGlobals "_law_right" = some (some (.ref f24)))
    (l24 : K.lookup f24 = some ⟨oc24, od24, .func (PySem.W.fnOf "_law_right" "_law_right" (defArgs s__law_right) (defBody s__law_right) (defScope s__law_right) .none kV24 dc24 pm24 an24 cd24 ct24), sl24⟩)
    (c24 : PySem.W.codeIn K cd24 "_law_right" = true)
    (k24 : PySem.W.keepIn K (.ref f24) = true)
    (a25 : PySem.W.nsIn K mainGlobals "law" = some (some (.ref f25)))
    (l25 : K.lookup f25 = some ⟨oc25, od25, .func (PySem.W.fnOf "law" "law" (defArgs s_law) (defBody s_law) (defScope s_law) .none kV25 dc25 pm25 an25 cd25 ct25), sl25⟩)
    (c25 : PySem.W.codeIn K cd25 "law" = true)
    (k25 : PySem.W.keepIn K (.ref f25) = true)
    (pg : PySem.W.plainGet K C Str.empty = true)
    (hd : PySem.W.hasDictIn K C = true)
    (po : PySem.W.plainOver K C = true)
    (sa : PySem.W.findIn K (.ref C) "__setattr__" = some (some (.builtin "object.__setattr__")))
    (mk : PySem.W.makesIn K C = true)
    (kc : PySem.W.keepIn K (.ref C) = true)
    (nS : PySem.W.findIn K (.ref C) "sizes" = some none)
    (nT : PySem.W.findIn K (.ref C) "_stores" = some none)
    (nN : PySem.W.findIn K (.ref C) "never" = some none)
    (ha : PySem.W.findIn K (.ref C) "__class__" = some (some (.builtin "object.__class__")))
    (hn : PySem.W.specialIn K (.builtin "object.__class__") "__get__" = some (some (.builtin "getset_descriptor.__get__")))
    (ht : PySem.W.takesIn K (.builtin "object.__class__") = some true)
    (hm : PySem.W.mroIn K C (.type "object") = some true)
    (qN : PySem.W.kitOne K (.type "NoneType") (.ref C) = some false)
    (qL : PySem.W.kitOne K (.type "list") (.ref C) = some false)
    (qT : PySem.W.kitOne K (.type "tuple") (.ref C) = some false)
    (qS : PySem.W.kitOne K (.type "str") (.ref C) = some false)
    (qI : PySem.W.kitOne K (.type "int") (.ref C) = some false)
    (qB : PySem.W.kitOne K (.type "bool") (.ref C) = some false)
    (sN : PySem.W.subIn K (.type "NoneType") (.ref C) = some false)
    (sL : PySem.W.subIn K (.type "list") (.ref C) = some false)
    (sT : PySem.W.subIn K (.type "tuple") (.ref C) = some false)
    (sS : PySem.W.subIn K (.type "str") (.ref C) = some false)
    (sI : PySem.W.subIn K (.type "int") (.ref C) = some false)
    (sB : PySem.W.subIn K (.type "bool") (.ref C) = some false)
    (ne : PySem.W.findIn K (.ref C) "__ne__" = some (some (.builtin "object.__ne__")))
    (so : PySem.W.subIn K (.ref C) (.type "object") = some true)
    (z_isinstance : PySem.W.nsIn K mainGlobals "isinstance" = some none)
    (z_int : PySem.W.nsIn K mainGlobals "int" = some none)
    (z_bool : PySem.W.nsIn K mainGlobals "bool" = some none)
    (z_str : PySem.W.nsIn K mainGlobals "str" = some none)
    (z_list : PySem.W.nsIn K mainGlobals "list" = some none)
    (z_tuple : PySem.W.nsIn K mainGlobals "tuple" = some none)
    (z_len : PySem.W.nsIn K mainGlobals "len" = some none)
    (z_abs : PySem.W.nsIn K mainGlobals "abs" = some none)
    (z_max : PySem.W.nsIn K mainGlobals "max" = some none)
    (z_min : PySem.W.nsIn K mainGlobals "min" = some none)
    (z_sum : PySem.W.nsIn K mainGlobals "sum" = some none)
    (z_repr : PySem.W.nsIn K mainGlobals "repr" = some none)
    (z_all : PySem.W.nsIn K mainGlobals "all" = some none)
    (z_range : PySem.W.nsIn K mainGlobals "range" = some none)
    (z_zip : PySem.W.nsIn K mainGlobals "zip" = some none)
    (gN : PySem.W.nsIn K mainGlobals "MOST_NAMES" = some (some (.int 3 tN)))
    (gS : PySem.W.nsIn K mainGlobals "MOST_STORES" = some (some (.int 8 tS)))
    : ∃ fd : FuncData, (∀ (s : Shared) (v : Value), BindsTo s fd ⟨[v], []⟩ [("script", v)]) ∧ ∀ base : Heap, K.In base → base.Ns mainGlobals mg → FnG l.prog w K mg base CX0 9 fa fd ["script"] (spLaw K) := by
  have e := hfa.symm.trans (PySem.W.mg_of X G a25)
  cases e
  have Z : Zs mg := ⟨PySem.W.mg_none_of X G z_isinstance, PySem.W.mg_none_of X G z_int, PySem.W.mg_none_of X G z_bool, PySem.W.mg_none_of X G z_str, PySem.W.mg_none_of X G z_list, PySem.W.mg_none_of X G z_tuple, PySem.W.mg_none_of X G z_len, PySem.W.mg_none_of X G z_abs, PySem.W.mg_none_of X G z_max, PySem.W.mg_none_of X G z_min, PySem.W.mg_none_of X G z_sum, PySem.W.mg_none_of X G z_repr, PySem.W.mg_none_of X G z_all, PySem.W.mg_none_of X G z_range, PySem.W.mg_none_of X G z_zip, ⟨_, PySem.W.mg_of X G gN, ⟨_, rfl⟩⟩, ⟨_, PySem.W.mg_of X G gS, ⟨_, rfl⟩⟩⟩
  have S : Sc K mg C := ⟨⟨pg, hd, po, sa⟩, nS, nT, nN, PySem.W.mg_of X G aC, ha, hn, ht, hm, by simp [PySem.W.kitOne], qN, qL, qT, qS, qI, qB⟩
  have S2 : Ss K C := ⟨sN, sL, sT, sS, sI, sB⟩
  have F0 := mk_fun (st := s_is_integer) l0 c0 k0
  have b0 := F0.binds (ps := ["value"]) fun _ _ _ _ _ _ us hl => match us, hl with | [_], _ => rfl
  have F1 := mk_fun (st := s_is_list) l1 c1 k1
  have b1 := F1.binds (ps := ["value"]) fun _ _ _ _ _ _ us hl => match us, hl with | [_], _ => rfl
  have F2 := mk_fun (st := s_is_from) l2 c2 k2
  have b2 := F2.binds (ps := ["value", "low", "high"]) fun _ _ _ _ _ _ us hl => match us, hl with | [_, _, _], _ => rfl
  have F3 := mk_fun (st := s_is_index) l3 c3 k3
  have b3 := F3.binds (ps := ["value", "count"]) fun _ _ _ _ _ _ us hl => match us, hl with | [_, _], _ => rfl
  have F4 := mk_fun (st := s_is_digits) l4 c4 k4
  have b4 := F4.binds (ps := ["word"]) fun _ _ _ _ _ _ us hl => match us, hl with | [_], _ => rfl
  have F5 := mk_fun (st := s_Space___init__) l5 c5 k5
  have b5 := F5.binds (ps := ["self", "sizes"]) fun _ _ _ _ _ _ us hl => match us, hl with | [_, _], _ => rfl
  have F6 := mk_fun (st := s_Space___len__) l6 c6 k6
  have b6 := F6.binds (ps := ["self"]) fun _ _ _ _ _ _ us hl => match us, hl with | [_], _ => rfl
  have F7 := mk_fun (st := s_Space___eq__) l7 c7 k7
  have b7 := F7.binds (ps := ["self", "other"]) fun _ _ _ _ _ _ us hl => match us, hl with | [_, _], _ => rfl
  have F8 := mk_fun (st := s_Space_at) l8 c8 k8
  have b8 := F8.binds (ps := ["self", "store"]) fun _ _ _ _ _ _ us hl => match us, hl with | [_, _], _ => rfl
  have F9 := mk_fun (st := s_Space_store) l9 c9 k9
  have b9 := F9.binds (ps := ["self", "values"]) fun _ _ _ _ _ _ us hl => match us, hl with | [_, _], _ => rfl
  have F10 := mk_fun (st := s_Space_line) l10 c10 k10
  have b10 := F10.binds (ps := ["self"]) fun _ _ _ _ _ _ us hl => match us, hl with | [_], _ => rfl
  have F11 := mk_fun (st := s_all_values) l11 c11 k11
  have b11 := F11.binds (ps := ["sizes"]) fun _ _ _ _ _ _ us hl => match us, hl with | [_], _ => rfl
  have F12 := mk_fun (st := s_is_sizes) l12 c12 k12
  have b12 := F12.binds (ps := ["value"]) fun _ _ _ _ _ _ us hl => match us, hl with | [_], _ => rfl
  have F13 := mk_fun (st := s_is_values) l13 c13 k13
  have b13 := F13.binds (ps := ["value", "sizes"]) fun _ _ _ _ _ _ us hl => match us, hl with | [_, _], _ => rfl
  have F14 := mk_fun (st := s_read_space) l14 c14 k14
  have b14 := F14.binds (ps := ["line"]) fun _ _ _ _ _ _ us hl => match us, hl with | [_], _ => rfl
  have F15 := mk_fun (st := s__law_cell) l15 c15 k15
  have b15 := F15.binds (ps := ["script", "k"]) fun _ _ _ _ _ _ us hl => match us, hl with | [_, _], _ => rfl
  have F16 := mk_fun (st := s__law_box) l16 c16 k16
  have b16 := F16.binds (ps := ["great"]) fun _ _ _ _ _ _ us hl => match us, hl with | [_], _ => rfl
  have F17 := mk_fun (st := s__law_take) l17 c17 k17
  have b17 := F17.binds (ps := ["box", "many"]) fun _ _ _ _ _ _ us hl => match us, hl with | [_, _], _ => rfl
  have F18 := mk_fun (st := s__law_sizes) l18 c18 k18
  have b18 := F18.binds (ps := ["box"]) fun _ _ _ _ _ _ us hl => match us, hl with | [_], _ => rfl
  have F19 := mk_fun (st := s__law_rows) l19 c19 k19
  have b19 := F19.binds (ps := ["sizes"]) fun _ _ _ _ _ _ us hl => match us, hl with | [_], _ => rfl
  have F20 := mk_fun (st := s__law_whole) l20 c20 k20
  have b20 := F20.binds (ps := ["value"]) fun _ _ _ _ _ _ us hl => match us, hl with | [_], _ => rfl
  have F21 := mk_fun (st := s__law_stores_right) l21 c21 k21
  have b21 := F21.binds (ps := ["box", "space", "rows"]) fun _ _ _ _ _ _ us hl => match us, hl with | [_, _, _], _ => rfl
  have F22 := mk_fun (st := s__law_space_right) l22 c22 k22
  have b22 := F22.binds (ps := ["box", "space", "sizes"]) fun _ _ _ _ _ _ us hl => match us, hl with | [_, _, _], _ => rfl
  have F23 := mk_fun (st := s__law_equal_right) l23 c23 k23
  have b23 := F23.binds (ps := ["spaces", "lists"]) fun _ _ _ _ _ _ us hl => match us, hl with | [_, _], _ => rfl
  have F24 := mk_fun (st := s__law_right) l24 c24 k24
  have b24 := F24.binds (ps := ["box"]) fun _ _ _ _ _ _ us hl => match us, hl with | [_], _ => rfl
  have F25 := mk_fun (st := s_law) l25 c25 k25
  have b25 := F25.binds (ps := ["script"]) fun _ _ _ _ _ _ us hl => match us, hl with | [_], _ => rfl
  have w8 := Fun_kbn F8 (ps := ["self", "store"]) 1 ["store"] (fun us ws => us ++ ws) byBoth (fun r s => Vals.append r s) fun _ _ _ _ _ _ us ws h1 h2 => match us, ws, h1, h2 with | [_], [_], _, _ => rfl
  have w9 := Fun_kbn F9 (ps := ["self", "values"]) 1 ["values"] (fun us ws => us ++ ws) byBoth (fun r s => Vals.append r s) fun _ _ _ _ _ _ us ws h1 h2 => match us, ws, h1, h2 with | [_], [_], _, _ => rfl
  have w14 := Fun_kbn F14 (ps := ["line"]) 0 ["line"] (fun us ws => us ++ ws) byBoth (fun r s => Vals.append r s) fun _ _ _ _ _ _ us ws h1 h2 => match us, ws, h1, h2 with | [], [_], _, _ => rfl
  have w5 := Fun_kbn F5 (ps := ["self", "sizes"]) 1 ["sizes"] (fun us ws => us ++ ws) byBoth (fun r s => Vals.append r s) fun _ _ _ _ _ _ us ws h1 h2 => match us, ws, h1, h2 with | [_], [_], _, _ => rfl
  refine ⟨PySem.W.fnOf "law" "law" (defArgs s_law) (defBody s_law) (defScope s_law) .none kV25 dc25 pm25 an25 cd25 ct25, fun s v => .of_eq rfl, fun base _ _ => ?_⟩
  have g0 : FnG l.prog w K mg base CX0 1 f0 _ _ spIsInt := ok_is_integer F0 Z (.inl rfl)
  have d_is_integer : DefD l.prog w K mg base 1 "is_integer" 1 [] byPlace spIsInt := ⟨_, _, _, _, PySem.W.mg_of X G a0, k0, g0, kbn_place b0 1 rfl⟩
  have g20 : FnG l.prog w K mg base CX0 1 f20 _ _ spIsInt := ok_is_integer F20 Z (.inr rfl)
  have d__law_whole : DefD l.prog w K mg base 1 "_law_whole" 1 [] byPlace spIsInt := ⟨_, _, _, _, PySem.W.mg_of X G a20, k20, g20, kbn_place b20 1 rfl⟩
  have g1 : FnG l.prog w K mg base CX0 1 f1 _ _ spIsList := ok_is_list F1 Z
  have d_is_list : DefD l.prog w K mg base 1 "is_list" 1 [] byPlace spIsList := ⟨_, _, _, _, PySem.W.mg_of X G a1, k1, g1, kbn_place b1 1 rfl⟩
  have g2 : FnG l.prog w K mg base CX0 2 f2 _ _ spIsFrom := ok_is_from F2 d_is_integer
  have d_is_from : DefD l.prog w K mg base 2 "is_from" 3 [] byPlace spIsFrom := ⟨_, _, _, _, PySem.W.mg_of X G a2, k2, g2, kbn_place b2 3 rfl⟩
  have g3 : FnG l.prog w K mg base CX0 2 f3 _ _ spIsIndex := ok_is_index F3 d_is_integer
  have d_is_index : DefD l.prog w K mg base 2 "is_index" 2 [] byPlace spIsIndex := ⟨_, _, _, _, PySem.W.mg_of X G a3, k3, g3, kbn_place b3 2 rfl⟩
  have g4 : FnG l.prog w K mg base CX0 1 f4 _ _ spIsDigits := ok_is_digits F4
  have d_is_digits : DefD l.prog w K mg base 1 "is_digits" 1 [] byPlace spIsDigits := ⟨_, _, _, _, PySem.W.mg_of X G a4, k4, g4, kbn_place b4 1 rfl⟩
  have g12 : FnG l.prog w K mg base CX0 3 f12 _ _ spIsSizes := ok_is_sizes F12 Z d_is_list d_is_from
  have d_is_sizes : DefD l.prog w K mg base 3 "is_sizes" 1 [] byPlace spIsSizes := ⟨_, _, _, _, PySem.W.mg_of X G a12, k12, g12, kbn_place b12 1 rfl⟩
  have g11 : FnG l.prog w K mg base CX0 1 f11 _ _ spAllValues := ok_all_values F11 Z
  have d_all_values : DefD l.prog w K mg base 1 "all_values" 1 [] byPlace spAllValues := ⟨_, _, _, _, PySem.W.mg_of X G a11, k11, g11, kbn_place b11 1 rfl⟩
  have g13 : FnG l.prog w K mg base CX0 3 f13 _ _ spIsValues := ok_is_values F13 Z d_is_list d_is_index
  have d_is_values : DefD l.prog w K mg base 3 "is_values" 2 [] byPlace spIsValues := ⟨_, _, _, _, PySem.W.mg_of X G a13, k13, g13, kbn_place b13 2 rfl⟩
  have g5 : FnG l.prog w K mg base CX0 4 f5 _ _ (spInit C) := ok_init F5 Z S d_is_sizes d_all_values
  have M : Mk K C f5 := ⟨mk, a5, i5, kc⟩
  have k_Space : MakD l.prog w K mg base 4 "Space" C 1 [] byPlace (spInit C) := ⟨_, _, _, _, PySem.W.mg_of X G aC, M, g5, kbn_place b5 2 rfl⟩
  have k_Space_sizes : MakD l.prog w K mg base 4 "Space" C 0 ["sizes"] byBoth (spInit C) := ⟨_, _, _, _, PySem.W.mg_of X G aC, M, g5, w5⟩
  have g8 : FnG l.prog w K mg base CX0 3 f8 _ _ (spAt C) := ok_at F8 S d_is_index
  have m_at : MetD l.prog w K mg base 3 C "at" 2 [] byPlace (spAt C) := ⟨_, _, _, _, S.cl, ⟨a8, i8, k8⟩, g8, kbn_place b8 2 rfl⟩
  have m_at_store : MetD l.prog w K mg base 3 C "at" 1 ["store"] byBoth (spAt C) := ⟨_, _, _, _, S.cl, ⟨a8, i8, k8⟩, g8, w8⟩
  have g9 : FnG l.prog w K mg base CX0 4 f9 _ _ (spStore C) := ok_store F9 Z S d_is_values
  have m_store : MetD l.prog w K mg base 4 C "store" 2 [] byPlace (spStore C) := ⟨_, _, _, _, S.cl, ⟨a9, i9, k9⟩, g9, kbn_place b9 2 rfl⟩
  have m_store_values : MetD l.prog w K mg base 4 C "store" 1 ["values"] byBoth (spStore C) := ⟨_, _, _, _, S.cl, ⟨a9, i9, k9⟩, g9, w9⟩
  have g10 : FnG l.prog w K mg base CX0 1 f10 _ _ (spLine C) := ok_line F10 Z S
  have m_line : MetD l.prog w K mg base 1 C "line" 1 [] byPlace (spLine C) := ⟨_, _, _, _, S.cl, ⟨a10, i10, k10⟩, g10, kbn_place b10 1 rfl⟩
  have g6 : FnG l.prog w K mg base CX0 1 f6 _ _ (spLen C) := ok_len F6 Z S
  have d_len : LenD l.prog w K mg base 1 C (spLen C) := ⟨_, _, _, g6, b6, a6, i6⟩
  have g7 : FnG l.prog w K mg base CX0 1 f7 _ _ (spEqS C K) := ok_eq F7 Z S
  have d_eq : EqD l.prog w K mg base 1 C (spEqS C K) := ⟨_, _, _, g7, b7, a7, i7, ne, so⟩
  have g14 : FnG l.prog w K mg base CX0 6 f14 _ _ (spRead C) := ok_read F14 Z S d_is_digits d_is_sizes k_Space
  have d_read_space : DefD l.prog w K mg base 6 "read_space" 1 [] byPlace (spRead C) := ⟨_, _, _, _, PySem.W.mg_of X G a14, k14, g14, kbn_place b14 1 rfl⟩
  have d_read_space_line : DefD l.prog w K mg base 6 "read_space" 0 ["line"] byBoth (spRead C) := ⟨_, _, _, _, PySem.W.mg_of X G a14, k14, g14, w14⟩
  have g15 : FnG l.prog w K mg base CX0 1 f15 _ _ (spCell K) := ok_cell F15 Z
  have d__law_cell : DefD l.prog w K mg base 1 "_law_cell" 2 [] byPlace (spCell K) := ⟨_, _, _, _, PySem.W.mg_of X G a15, k15, g15, kbn_place b15 2 rfl⟩
  have g16 : FnG l.prog w K mg base CX0 1 f16 _ _ spBox := ok_box F16 Z
  have d__law_box : DefD l.prog w K mg base 1 "_law_box" 1 [] byPlace spBox := ⟨_, _, _, _, PySem.W.mg_of X G a16, k16, g16, kbn_place b16 1 rfl⟩
  have g17 : FnG l.prog w K mg base CX0 1 f17 _ _ spTake := ok_take F17 Z
  have d__law_take : DefD l.prog w K mg base 1 "_law_take" 2 [] byPlace spTake := ⟨_, _, _, _, PySem.W.mg_of X G a17, k17, g17, kbn_place b17 2 rfl⟩
  have g18 : FnG l.prog w K mg base CX0 2 f18 _ _ spSizes := ok_sizes F18 d__law_take
  have d__law_sizes : DefD l.prog w K mg base 2 "_law_sizes" 1 [] byPlace spSizes := ⟨_, _, _, _, PySem.W.mg_of X G a18, k18, g18, kbn_place b18 1 rfl⟩
  have g19 : FnG l.prog w K mg base CX0 1 f19 _ _ spRows := ok_rows F19 Z
  have d__law_rows : DefD l.prog w K mg base 1 "_law_rows" 1 [] byPlace spRows := ⟨_, _, _, _, PySem.W.mg_of X G a19, k19, g19, kbn_place b19 1 rfl⟩
  have g21 : FnG l.prog w K mg base CX0 5 f21 _ _ (spStoresRight C) := ok_stores_right F21 Z S d__law_take d__law_whole m_at m_at_store m_store m_store_values
  have d__law_stores_right : DefD l.prog w K mg base 5 "_law_stores_right" 3 [] byPlace (spStoresRight C) := ⟨_, _, _, _, PySem.W.mg_of X G a21, k21, g21, kbn_place b21 3 rfl⟩
  have g22 : FnG l.prog w K mg base CX0 7 f22 _ _ (spSpaceRight C) := ok_space_right F22 Z S d__law_rows d__law_whole d_read_space d_read_space_line d__law_stores_right m_line d_len d_eq
  have d__law_space_right : DefD l.prog w K mg base 7 "_law_space_right" 3 [] byPlace (spSpaceRight C) := ⟨_, _, _, _, PySem.W.mg_of X G a22, k22, g22, kbn_place b22 3 rfl⟩
  have g23 : FnG l.prog w K mg base CX0 3 f23 _ _ (spEqualRight C) := ok_equal_right F23 Z S S2 m_line d_eq
  have d__law_equal_right : DefD l.prog w K mg base 3 "_law_equal_right" 2 [] byPlace (spEqualRight C) := ⟨_, _, _, _, PySem.W.mg_of X G a23, k23, g23, kbn_place b23 2 rfl⟩
  have g24 : FnG l.prog w K mg base CX0 8 f24 _ _ spRight := ok_right F24 Z d__law_take d__law_sizes k_Space k_Space_sizes d__law_space_right d__law_equal_right
  have d__law_right : DefD l.prog w K mg base 8 "_law_right" 1 [] byPlace spRight := ⟨_, _, _, _, PySem.W.mg_of X G a24, k24, g24, kbn_place b24 1 rfl⟩
  exact ok_law F25 Z d__law_cell d__law_box d__law_right
end Eld
set_option Elab.async false
set_option maxRecDepth 100000
set_option maxHeartbeats 4000000
set_option linter.all false
namespace Eld
open PySem L2
local macro_rules | `(tactic| walk_at "r1") => `(tactic| with_reducible first
  | refine r_seq ?_ | refine r_asgN ?_ | refine r_asg ?_ | refine r_gname ?_ | refine r_gsub ?_ | refine r_var rfl ?_ | refine r_c ?_ | refine r_op ?_ | refine r_un ?_ | refine r_u ?_ | refine r_i0 ?_ | refine r_cb ?_ | refine r_cons ?_ | refine r_nil ?_ | refine r_cl ?_ | refine r_fn rfl rfl ?_ | refine r_mt ?_
  | refine r_test ?_ | refine r_tb ?_ | refine r_bl ?_ | refine r_and ?_ | refine r_or ?_ | refine r_not ?_ | refine r_andV ?_ | refine r_orV ?_ | refine r_notV ?_ | refine r_ifX ?_ | refine r_ifs ?_ | refine r_chain ?_ | refine r_ret ?_ | refine r_next ?_ | refine r_drop ?_ | refine iteT ?_ | refine iteF ?_ | refine iteNT ?_ | refine iteNF ?_
  | refine r_int1 ?_ | refine r_boolB ?_ | refine r_eqI ?_ | refine r_neI ?_ | refine r_eqB ?_ | refine r_neB ?_ | refine r_eqS ?_ | refine r_neS ?_ | refine r_abs ?_ | refine r_max2 ?_ | refine r_min2 ?_ | refine r_yes ?_ | refine r_tup ?_ | refine r_sfld ?_ | refine r_m0 ?_ | refine r_m1 ?_ | refine r_lst ?_ | refine r_rng1 ?_ | refine r_rng2 ?_ | refine r_ixL (SqL.of (by assumption)) rfl ?_)
local macro_rules | `(tactic| walk_at "r") => `(tactic| repeat (first | walk_at "r1" | ((with_reducible refine r_var ?hv ?_); (case hv => rfl))))

end Eld
open PySem PySem.W PyProof.Rows in
set_option maxRecDepth 100000 in
set_option maxHeartbeats 0 in
theorem PySem.Challenge.cw_endlots_k02_spaces_holds : PySem.Challenge.rw_endlots_k02_spaces.Holds := by
  w_on; o_law; k_head; (case hw => w_witness2)
  k_fill
  refine Eld.walk_G (l := PySem.Challenge.rw_endlots_k02_spaces) (n := 63) (k := 9) (x := "script") (sp := Eld.spLaw) rfl (by decide) rfl ⟨rfl, by decide, by decide⟩ (fun w h Y => PySem.W.kIn_of Y) ?F ?W
  case W => exact fun w G a ns hl hS => ⟨a, ns, rfl, Nat.le_trans hl (by decide), hS, fun _ => rfl⟩
  case F =>
    intro w mg fa h KX G hmg
    refine' Eld.all_mk KX G hmg ?aC ?a0 ?l0 ?c0 ?k0 ?a1 ?l1 ?c1 ?k1 ?a2 ?l2 ?c2 ?k2 ?a3 ?l3 ?c3 ?k3 ?a4 ?l4 ?c4 ?k4 ?a5 ?i5 ?l5 ?c5 ?k5 ?a6 ?i6 ?l6 ?c6 ?k6 ?a7 ?i7 ?l7 ?c7 ?k7 ?a8 ?i8 ?l8 ?c8 ?k8 ?a9 ?i9 ?l9 ?c9 ?k9 ?a10 ?i10 ?l10 ?c10 ?k10 ?a11 ?l11 ?c11 ?k11 ?a12 ?l12 ?c12 ?k12 ?a13 ?l13 ?c13 ?k13 ?a14 ?l14 ?c14 ?k14 ?a15 ?l15 ?c15 ?k15 ?a16 ?l16 ?c16 ?k16 ?a17 ?l17 ?c17 ?k17 ?a18 ?l18 ?c18 ?k18 ?a19 ?l19 ?c19 ?k19 ?a20 ?l20 ?c20 ?k20 ?a21 ?l21 ?c21 ?k21 ?a22 ?l22 ?c22 ?k22 ?a23 ?l23 ?c23 ?k23 ?a24 ?l24 ?c24 ?k24 ?a25 ?l25 ?c25 ?k25 ?pg ?hd ?po ?sa ?mk ?kc ?nS ?nT ?nN ?ha ?hn ?ht ?hm ?qN ?qL ?qT ?qS ?qI ?qB ?sN ?sL ?sT ?sS ?sI ?sB ?ne ?so ?z_isinstance ?z_int ?z_bool ?z_str ?z_list ?z_tuple ?z_len ?z_abs ?z_max ?z_min ?z_sum ?z_repr ?z_all ?z_range ?z_zip ?gN ?gS
    (case aC => k_is)
    (case a0 => k_is)
    (case l0 => k_is)
    (case c0 => k_is)
    (case k0 => k_is)
    (case a1 => k_is)
    (case l1 => k_is)
    (case c1 => k_is)
    (case k1 => k_is)
    (case a2 => k_is)
    (case l2 => k_is)
    (case c2 => k_is)
    (case k2 => k_is)
    (case a3 => k_is)
    (case l3 => k_is)
    (case c3 => k_is)
    (case k3 => k_is)
    (case a4 => k_is)
    (case l4 => k_is)
    (case c4 => k_is)
    (case k4 => k_is)
    (case a5 => k_is)
    (case i5 => k_is)
    (case l5 => k_is)
    (case c5 => k_is)
    (case k5 => k_is)
    (case a6 => k_is)
    (case i6 => k_is)
    (case l6 => k_is)
    (case c6 => k_is)
    (case k6 => k_is)
    (case a7 => k_is)
    (case i7 => k_is)
    (case l7 => k_is)
    (case c7 => k_is)
    (case k7 => k_is)
    (case a8 => k_is)
    (case i8 => k_is)
    (case l8 => k_is)
    (case c8 => k_is)
    (case k8 => k_is)
    (case a9 => k_is)
    (case i9 => k_is)
    (case l9 => k_is)
    (case c9 => k_is)
    (case k9 => k_is)
    (case a10 => k_is)
    (case i10 => k_is)
    (case l10 => k_is)
    (case c10 => k_is)
    (case k10 => k_is)
    (case a11 => k_is)
    (case l11 => k_is)
    (case c11 => k_is)
    (case k11 => k_is)
    (case a12 => k_is)
    (case l12 => k_is)
    (case c12 => k_is)
    (case k12 => k_is)
    (case a13 => k_is)
    (case l13 => k_is)
    (case c13 => k_is)
    (case k13 => k_is)
    (case a14 => k_is)
    (case l14 => k_is)
    (case c14 => k_is)
    (case k14 => k_is)
    (case a15 => k_is)
    (case l15 => k_is)
    (case c15 => k_is)
    (case k15 => k_is)
    (case a16 => k_is)
    (case l16 => k_is)
    (case c16 => k_is)
    (case k16 => k_is)
    (case a17 => k_is)
    (case l17 => k_is)
    (case c17 => k_is)
    (case k17 => k_is)
    (case a18 => k_is)
    (case l18 => k_is)
    (case c18 => k_is)
    (case k18 => k_is)
    (case a19 => k_is)
    (case l19 => k_is)
    (case c19 => k_is)
    (case k19 => k_is)
    (case a20 => k_is)
    (case l20 => k_is)
    (case c20 => k_is)
    (case k20 => k_is)
    (case a21 => k_is)
    (case l21 => k_is)
    (case c21 => k_is)
    (case k21 => k_is)
    (case a22 => k_is)
    (case l22 => k_is)
    (case c22 => k_is)
    (case k22 => k_is)
    (case a23 => k_is)
    (case l23 => k_is)
    (case c23 => k_is)
    (case k23 => k_is)
    (case a24 => k_is)
    (case l24 => k_is)
    (case c24 => k_is)
    (case k24 => k_is)
    (case a25 => k_is)
    (case l25 => k_is)
    (case c25 => k_is)
    (case k25 => k_is)
    (case pg => k_is)
    (case hd => k_is)
    (case po => k_is)
    (case sa => k_is)
    (case mk => k_is)
    (case kc => k_is)
    (case nS => k_is)
    (case nT => k_is)
    (case nN => k_is)
    (case ha => k_is)
    (case hn => k_is)
    (case ht => k_is)
    (case hm => k_is)
    (case qN => kit_is)
    (case qL => kit_is)
    (case qT => kit_is)
    (case qS => kit_is)
    (case qI => kit_is)
    (case qB => kit_is)
    (case sN => k_is)
    (case sL => k_is)
    (case sT => k_is)
    (case sS => k_is)
    (case sI => k_is)
    (case sB => k_is)
    (case ne => k_is)
    (case so => k_is)
    (case z_isinstance => k_is)
    (case z_int => k_is)
    (case z_bool => k_is)
    (case z_str => k_is)
    (case z_list => k_is)
    (case z_tuple => k_is)
    (case z_len => k_is)
    (case z_abs => k_is)
    (case z_max => k_is)
    (case z_min => k_is)
    (case z_sum => k_is)
    (case z_repr => k_is)
    (case z_all => k_is)
    (case z_range => k_is)
    (case z_zip => k_is)
    (case gN => k_is)
    (case gS => k_is)
