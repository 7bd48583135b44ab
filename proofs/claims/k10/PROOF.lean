import PyProof.Rows.All
import Wide.All
import OpenK.AllK
import Wide.FinOn
import PyProof.InstEq
import KE.KOpsOwn
import HandS.Base
import HandS.Call
import HandS.List
import HandS.Words
import HandS.IsInst
import HandS.Defaults
import HandS.MakeKw
import HandS.Star
import HandS.FStr
import PyProof.Rows.StrIntSpec
import HandS.Dict
import HandS.DeepEq
import HandS.Comp
import HandS.Flow
import HandS.Ends
import HandS.Walk
import HandS.Text
import HandS.Iter
import HandS.WordsDict
import HandS.Property
import HandS.RaiseMore
import HandS.DictComp
import PyProof.StrBlock2
import HandS.HeadHook2
import HandS.HeadNt
import KE.KStateDown
import HandS.Head0
import HandS.Head1
import HandS.Head2
import PySem.Challenge.RW_anyofthese_k10_terms_made_and_told
set_option Elab.async false
set_option linter.all false
set_option maxRecDepth 100000
set_option maxHeartbeats 4000000
/-! Defs and methods called where no text of a container is being made; own operators. -/
namespace E10
open L2 PySem PySem.Spec PyProof.Rows
structure FnG (P : Program) (w : World) (K : PySem.W.Frag) (mg : Str → Option Value) (base : Heap) (k : Nat) (f : Addr) (fd : FuncData) (ps : List Str) (sp : Sp) : Prop where
  few : ∀ {vs H Q E}, sp vs H Q E → vs.length = ps.length
  goes : ∀ {A : Around} {fr : List Env} {s : Shared} {H : Hp} {ar : Args} {us : List Value} {vs : List V} {Q : VK} {E : XK}, A.guards = some [] → Room k A → Env0 P w K mg base A fr s H → BindsTo s fd ar (ps.zip us) → Vals vs us → sp vs H Q E →
    codeAny (model P w) A (.call (.ref f) ar) (CR CX0 fr P w H s Q E) s
section
variable {P : Program} {w : World} {K : PySem.W.Frag} {mg : Str → Option Value} {base : Heap} {k : Nat} {f : Addr} {fd : FuncData} {ps N : List Str} {sp : Sp}
theorem FnG.of (F : FnOk P w K mg base CX0 k f fd ps sp) : FnG P w K mg base k f fd ps sp :=
  ⟨fun {vs H Q E} h => F.len vs H Q E h, fun {A fr s H ar us vs Q E} _ room env b v h => F.run A fr s H ar us vs Q E room env b v h⟩
theorem FnG.mono {j : Nat} (F : FnG P w K mg base j f fd ps sp) (h : j ≤ k) : FnG P w K mg base k f fd ps sp :=
  ⟨F.few, fun {A fr s H ar us vs Q E} g room env b v q => F.goes g (room.mono h) env b v q⟩
theorem Fun.okG {x qual : Str} {st : Stmt} (F : Fun K x qual st f fd) (S : FnScope N ps (defScope st)) (few : ∀ {vs H Q E}, sp vs H Q E → vs.length = ps.length)
    (body : ∀ (cdv : Value) (A : Around) (fr : List Env) (s : Shared) (H : Hp) (vs : List V) (Q : VK) (E : XK), A.guards = some [] → Room k (A.deeper (envOfC qual (defScope st) s.heap.objs.size f cdv)) → sp vs H Q E →
      ∃ t, PSs (cxOf CX0 P w K mg base N qual (defScope st) f cdv A fr s H E).nox (defBody st) t ∧ t { nx := fun _ H' => Q .non H', rt := Q } (start N vs) H) : FnG P w K mg base (k + 1) f fd ps sp := by
  obtain ⟨oc, od, kV, doc, pm, an, cdv, ct, osl, rfl, lk, code⟩ := F.ex
  refine ⟨few, fun {A fr s H ar us vs Q E} hG room env bind val want => ?_⟩
  have inK : K.In s.heap := env.mod.kin.keeps fun c o e => (env.bs c o e).1
  refine codeAny_call_function room.depth (inK _ _ lk) rfl S.co S.gen rfl (PySem.W.codeRec_of inK code) (bind _ _ _ _ ?_)
  refine wpAny_newFunctionEnv_cells S.kind (fun ⟨n, v⟩ hy => (S.par n (List.of_mem_zip hy).1).elim .inl fun q => .inr ⟨q, PySem.W.cellsFrom_some _ _ _ (.inl q)⟩) fun own same s1 x => ?_
  subst same
  obtain ⟨t, T, wish⟩ := body cdv A fr s H vs Q E hG (room.deeper _) want
  have begun : Inv (cxOf CX0 P w K mg base N qual (defScope st) f cdv A fr s H E) [] (start N vs) H s1 := inv_start S room.hd env (few want) val x
  refine ⟨(env.mod.nolimit.keeps fun c o e => (env.bs c o e).1).keeps x.toInCall.keep, codeAny_func (wpAny_mono (T.nox.run [] s1 _ H _ begun wish) (fun fl s2 ends => ?_) fun _ _ z => z)⟩
  match fl, ends with
  | .ret _, ⟨v, _, H2, J, rv, q⟩ => exact ⟨v, H2, J.os, J.bare, J.base, J.hok, rv, q⟩
  | .next, ⟨_, H2, J, q⟩ => exact ⟨V.non, H2, J.os, J.bare, J.base, J.hok, rfl, q⟩
  | .brk, ⟨_, _, _, q⟩ => exact q.elim
  | .cont, ⟨_, _, _, q⟩ => exact q.elim
end
/-- the own class C has the def f under the name n -/
structure Has (K : PySem.W.Frag) (C f : Addr) (n : Str) : Prop where
  at_ : PySem.W.findIn K (.ref C) n = some (some (.ref f))
  fn : PySem.W.isFn K (.ref f) = true
section
variable {X : Cx} {A : Around} {E' : Value → Shared → Prop} {pins : List (Addr × Obj)} {σ : L2.St} {H : Hp} {s : Shared} {Q : VK} {us : List Value} {vs : List V} {k : Nat} {f C : Addr} {fd : FuncData} {ps : List Str} {sp : Sp}
theorem run_at (F : FnG X.prog X.w X.K X.mg X.base k f fd ps sp) (fr : A.frames = X.A.frames) (hG : A.guards = some []) (room : Room k A) (bi : Binds X.K fd ps []) (I : Inv X pins σ H s) (r : Vals vs us) (q : sp vs H Q E0) :
    wpAny (model X.prog X.w) A (call (.ref f) us) (EP X pins σ Q) E' s := by
  have n1 : us.length = ps.length := r.length.symm.trans (F.few q)
  have e0 : Env0 X.prog X.w X.K X.mg X.base A X.stack s H := by
    have e := I.env0
    exact ⟨by rw [fr]; exact e.frames, e.mod, e.bs, e.bsz, e.funs, e.frf, e.hok, e.bare⟩
  refine wpAny_call (codeAny_mono (F.goes (ar := ⟨us, []⟩) hG room e0 (by
    have := bi s us I.kIn (by simpa using n1)
    simpa using this) r q) fun res s2 ends => ?_)
  match res, ends with
  | .error _, z => exact z.elim
  | .ok (.ret _), z => exact I.after z
  | .ok .next, z => exact z.elim
  | .ok .brk, z => exact z.elim
  | .ok .cont, z => exact z.elim
theorem cmpBack {u : Value} {s' : Shared} (h : EP X pins σ Q u s') : PySem.W.CmpBack (EP X pins σ Q) u s' := by
  obtain ⟨v, H', I, r, q⟩ := h
  cases u <;> first | exact ⟨v, H', I, r, q⟩ | (cases v <;> first | (obtain ⟨_, e⟩ := r; cases e) | cases r)
/-- a op n: an own object and an int -/
def rOwnI (C : Addr) (sp : Sp) : R2 := fun x y H Q => ∃ (a dx : Addr) (fs : List (Str × V)) (i : Int), x = .ref a ∧ y = .int i ∧ H a = some (.ins C dx fs) ∧ sp [.ref a, .int i] H Q E0
theorem op_ownI {op : Operator} {fo ro rc : Option Value} (F : FnG X.prog X.w X.K X.mg X.base k f fd ps sp) (hG : X.A.guards = some []) (room : Room k X.A) (bi : Binds X.K fd ps []) (hc : PySem.W.selfFirst X.K C = true) (h : Has X.K C f (PySem.dunder op.info.2))
    (hr : PySem.W.findIn X.K (.ref C) (dunderR op.info.2) = some rc) (hp : rc = none ∨ ∃ g : Addr, rc = some (.ref g)) (h1 : PySem.W.findIn X.K (.type "int") (PySem.dunder op.info.2) = some fo) (h2 : PySem.W.findIn X.K (.type "int") (dunderR op.info.2) = some ro)
    (hsub : PySem.W.subIn X.K (.type "int") (.ref C) = some false) : OpR X (binaryOp op) (rOwnI C sp) := by
  intro pins s σ H x y v u Q I rx ry h0
  obtain ⟨a, dx, fs, i, rfl, rfl, ha, q⟩ := h0
  cases (show v = Value.ref a from rx)
  obtain ⟨t, rfl⟩ := (show ∃ t, u = Value.int i t from ry)
  obtain ⟨mA, O, _⟩ := ins_get I.hok ha
  obtain ⟨od, J, _⟩ := O.look
  obtain ⟨m, hF⟩ := I.fr
  refine PySem.W.ksp_binT (T := "int") hF I.ok.mod.kin J rfl hc h.at_ h.fn hr hp h1 h2 hsub ?_
  exact wpAny_mono (run_at (vs := [.ref a, .int i]) F rfl hG room bi I (.cons rfl (.cons ⟨t, rfl⟩ .nil)) q) (fun _ _ z => cmpBack z) fun _ _ z => z
end
end E10

set_option Elab.async false
set_option linter.all false
set_option maxRecDepth 100000
set_option maxHeartbeats 4000000
namespace E10
open L2 PySem PySem.Spec PyProof.Rows
open AutoSeq1 (wpAny_loadPart')
section
variable {prog : Program} {w : World} {A : Around} {E : Value → Shared → Prop} {s : Shared}
theorem try_int_add {i : Int} {t : Tok} {a : Addr} {ox : Obj} {Q : Option Value → Shared → Prop} (hx : s.heap.get? a = some ox) (pl : ox.data = .plain) (q : Q none s) : wpAny (model prog w) A (tryMethod (.int i t) (PySem.dunder "add") (.ref a)) Q E s := by
  unfold tryMethod
  refine wpAny_bind (wpAny_callSpecial?_slot (typeIs_int s i t) F.slot_int_add (wpAny_call (codeAny_call_builtin F.slot_int_add.plain F.entry_int_add (F.slot_int_add.check _ _ _ _ _ _ _ _ (typeIs_int s i t) (F.args_int_add_2 _ _) ?_))))
  obtain ⟨c, d, dt, sl⟩ := ox
  obtain rfl : dt = .plain := pl
  obtain ⟨hp, g, dr, tk, os⟩ := s
  have hx' : hp.get? a = some ⟨c, d, .plain, sl⟩ := hx
  wp_walk using wpAny_loadPart' hx'
  all_goals first | exact wpAny_pure q | exact q | skip
end
end E10

set_option Elab.async false
set_option linter.all false
set_option maxRecDepth 100000
set_option maxHeartbeats 4000000
namespace E10
open L2 PySem PySem.Spec PyProof.Rows
section
variable {X : Cx} {k : Nat} {f fr C : Addr} {fd : FuncData} {ps : List Str} {sp : Sp}
/-- n + a: an int and an own object -/
def rIOwn (C : Addr) (sp : Sp) : R2 := fun x y H Q => ∃ (a dx : Addr) (fs : List (Str × V)) (i : Int), x = .int i ∧ y = .ref a ∧ H a = some (.ins C dx fs) ∧ sp [.ref a, .int i] H Q E0
theorem op_iown {fo ro : Option Value} (F : FnG X.prog X.w X.K X.mg X.base k f fd ps sp) (hG : X.A.guards = some []) (room : Room k X.A) (bi : Binds X.K fd ps []) (hc : PySem.W.selfFirst X.K C = true) (ha : PySem.W.findIn X.K (.ref C) (PySem.dunder "add") = some (some (.ref fr))) (h : Has X.K C f (dunderR "add"))
    (h1 : PySem.W.findIn X.K (.type "int") (PySem.dunder "add") = some fo) (h2 : PySem.W.findIn X.K (.type "int") (dunderR "add") = some ro) (h3 : ((fo.isSome && !isSeqSlot fo) || (ro.isSome && !isSeqSlot ro)) = true)
    (hsub : PySem.W.subIn X.K (.ref C) (.type "int") = some false) : OpR X (binaryOp .Add) (rIOwn C sp) := by
  intro pins s σ H x y v u Q I rx ry h0
  obtain ⟨a, dx, fs, i, rfl, rfl, ea, q⟩ := h0
  cases (show u = Value.ref a from ry)
  obtain ⟨t, rfl⟩ := (show ∃ t, v = Value.int i t from rx)
  obtain ⟨mA, O, _⟩ := ins_get I.hok ea
  obtain ⟨od, J, _⟩ := O.look
  obtain ⟨m, hF⟩ := I.fr
  have KX := I.ok.mod.kin.keeps hF.keep
  obtain ⟨cd, rest, hcd, hm⟩ := PySem.W.ksp_first hc
  have two := PySem.W.ksp_try (E := X.xe) (b := .int i t) KX J h.at_ h.fn (wpAny_mono (run_at (vs := [.ref a, .int i]) F rfl hG room bi I (.cons rfl (.cons ⟨t, rfl⟩ .nil)) q) (fun _ _ z => cmpBack z) fun _ _ z => z)
  have J0 := J
  obtain ⟨hx, hcl, hdt, _⟩ := J0
  obtain ⟨hh, g, d, tt, os⟩ := s
  have one : ∀ {Q : Option Value → Shared → Prop}, Q none ⟨hh, g, d, tt, os⟩ → wpAny (model X.prog X.w) X.A (tryMethod (.int i t) (PySem.dunder "add") (.ref a)) Q X.xe ⟨hh, g, d, tt, os⟩ := fun q => try_int_add hx rfl q
  have L1 : PySem.W.Looks (model X.prog X.w) hh (typeOf (.int i t)) (.type "int") := PySem.W.Looks.of_pure rfl
  have L2 : PySem.W.Looks (model X.prog X.w) hh (typeOf (.ref a)) (.ref C) := J.type
  have L3 : PySem.W.Looks (model X.prog X.w) hh (fillsNumberSlot (.type "int") "add") true := by
    have z := PySem.W.ksp_fillsT (M := model X.prog X.w) (nm := "add") KX h1 h2
    rw [h3] at z
    exact z
  have L4 : PySem.W.Looks (model X.prog X.w) hh (fillsNumberSlot (.ref C) "add") true := PySem.W.fills_K KX hcd hm ha
  have L5 : PySem.W.Looks (model X.prog X.w) hh (isSubtype (.ref C) (.type "int")) false := PySem.W.looks_subIn KX hsub
  have L6 : PySem.W.Looks (model X.prog X.w) hh (numberSlotInPython (.type "int") "add") false := PySem.W.Looks.of_pure rfl
  have hne : (Value.type "int" == Value.ref C) = false := Bool.eq_false_iff.mpr fun q => by cases beq_iff_eq.mp q
  have hi : Operator.info .Add = ("+", "add") := rfl
  simp only [binaryOp, hi]
  refine wpAny_holding (wpAny_bind ?_)
  unfold binaryOp1
  refine wpAny_bind (L1.at (wpAny_bind (L2.at (wpAny_bind (L3.at ?_)))))
  simp only [hne, Bool.false_eq_true, if_false]
  repeat ((fail_if_success (with_reducible show wpAny _ _ (tryMethod _ _ _) _ _ _)); lk)
  refine one ?_
  repeat ((fail_if_success (with_reducible show wpAny _ _ (tryMethod _ _ _) _ _ _)); lk)
  refine wpAny_mono two (fun r s' hr' => ?_) fun _ _ e => e
  obtain ⟨v, rfl, hq⟩ := hr'
  repeat ((fail_if_success (with_reducible show wpAny _ _ (tryMethod _ _ _) _ _ _)); lk)
  exact hq
end
end E10

set_option Elab.async false
set_option linter.all false
set_option maxRecDepth 100000
set_option maxHeartbeats 4000000
namespace E10
open L2 PySem PySem.Spec PyProof.Rows
section
variable {X : Cx} {A : Around} {k : Nat} {f C : Addr} {fd : FuncData} {ps : List Str} {sp : Sp}
theorem cmp_at {op : CmpOp} {pins : List (Addr × Obj)} {σ : L2.St} {H : Hp} {s : Shared} {Q : VK} {E' : Value → Shared → Prop} {a dx : Addr} {fs : List (Str × V)} {y : V} {u tb : Value} (F : FnG X.prog X.w X.K X.mg X.base k f fd ps sp) (fr : A.frames = X.A.frames) (hG : A.guards = some []) (room : Room k A) (hu : A.units < cLine)
    (bi : Binds X.K fd ps []) (h : Has X.K C f (cmpInfo op).2.1) (I : Inv X pins σ H s) (ry : RelV y u) (ha : H a = some (.ins C dx fs)) (ty : TyX X.K H y tb) (nf : PySem.W.notFirst X.K C tb = true) (q : sp [.ref a, y] H Q E0) :
    wpAny (model X.prog X.w) A (richCompare op (.ref a) u) (EP X pins σ Q) E' s := by
  obtain ⟨mA, O, _⟩ := ins_get I.hok ha
  obtain ⟨od, J, _⟩ := O.look
  obtain ⟨m, hF⟩ := I.fr
  obtain ⟨P, Z, p, _⟩ := kit_of I ry ty
  refine PySem.W.cmp_K (op := op) (tb := tb) hu hF I.ok.mod.kin J (Z.ty _ _ I.kIn p) nf h.at_ h.fn ?_
  exact wpAny_mono (run_at (vs := [.ref a, y]) F fr hG room bi I (.cons rfl (.cons ry .nil)) q) (fun _ _ z => cmpBack z) fun _ _ z => z
/-- a == y: an own object with an own __eq__, and anything -/
def rEqO (K : PySem.W.Frag) (C : Addr) (sp : Sp) : R2 := fun x y H Q => ∃ (a dx : Addr) (fs : List (Str × V)) (tb : Value), x = .ref a ∧ H a = some (.ins C dx fs) ∧ TyX K H y tb ∧ PySem.W.notFirst K C tb = true ∧ sp [.ref a, y] H Q E0
theorem op_eqO (F : FnG X.prog X.w X.K X.mg X.base k f fd ps sp) (hG : X.A.guards = some []) (room : Room k X.A) (hu : X.A.units < cLine) (bi : Binds X.K fd ps []) (h : Has X.K C f "__eq__") : OpR X (compareOp .Eq) (rEqO X.K C sp) := by
  intro pins s σ H x y v u Q I rx ry h0
  obtain ⟨a, dx, fs, tb, rfl, ha, ty, nf, q⟩ := h0
  cases (show v = Value.ref a from rx)
  exact cmp_at (op := .Eq) F rfl hG room hu bi h I ry ha ty nf q
/-- what an own class has that != goes by its own __eq__ -/
structure NeBy (K : PySem.W.Frag) (C : Addr) : Prop where
  at_ : PySem.W.findIn K (.ref C) "__ne__" = some (some (.builtin "object.__ne__"))
  mro : PySem.W.mroIn K C (.type "object") = some true
  sub : PySem.W.subIn K (.ref C) (.type "object") = some true
/-- a != y -/
def rNeO (K : PySem.W.Frag) (C : Addr) (sp : Sp) : R2 := fun x y H Q => ∃ (a dx : Addr) (fs : List (Str × V)) (tb : Value), x = .ref a ∧ H a = some (.ins C dx fs) ∧ TyX K H y tb ∧ PySem.W.notFirst K C tb = true ∧ sp [.ref a, y] H (fun v H' => ∃ b, v = .bl b ∧ Q (.bl (!b)) H') E0
theorem bind_one : bindSpecial (.builtin "object.__ne__") = fun self => pure (.builtin "object.__ne__", [self]) := funext fun self => PySem.F.cmp_object.ne.bind self
theorem op_neO (F : FnG X.prog X.w X.K X.mg X.base k f fd ps sp) (hG : X.A.guards = some []) (room : Room (k + 1) X.A) (hu : X.A.units + 1 < cLine) (bi : Binds X.K fd ps []) (h : Has X.K C f "__eq__") (n : NeBy X.K C) : OpR X (compareOp .NotEq) (rNeO X.K C sp) := by
  intro pins s σ H x y v u Q I rx ry h0
  obtain ⟨a, dx, fs, tb, rfl, ha, ty, nf, q⟩ := h0
  cases (show v = Value.ref a from rx)
  obtain ⟨mA, O, _⟩ := ins_get I.hok ha
  obtain ⟨od, J, _⟩ := O.look
  have KX := I.kIn
  obtain ⟨P, Z, p, _⟩ := kit_of I ry ty
  have hb := Z.ty (model X.prog X.w) _ I.kIn p
  have inner : wpAny (model X.prog X.w) X.A.in1 (call (.ref f) [.ref a, u]) (EP X pins σ fun v H' => ∃ b, v = .bl b ∧ Q (.bl (!b)) H') X.xe s :=
    run_at (vs := [.ref a, y]) F rfl hG room.in1 bi I (.cons rfl (.cons ry .nil)) q
  have body : ∀ {R : Result → Shared → Prop}, (∀ r s', EP X pins σ Q r s' → R (.ok (.ret r)) s') → (∀ e s', X.xe e s' → R (.error e) s') →
      wpAny (model X.prog X.w) X.A.in1 (Builtin.«object.__ne__» ⟨[.ref a, u], []⟩) (fun fin s' => match fin with | .done f => R (.ok f) s' | .again c' => c'.quiet = true ∧ codeAny (model X.prog X.w) X.A c' R s') (fun e s' => R (.error e) s') s := fun {R} hR hE => by
    unfold Builtin.«object.__ne__»
    repeat (first
      | with_reducible refine wpAny_cRoomFor (show X.A.in1.units < cLine from hu) ?_
      | (refine wpAny_bind (m := callSpecialIfBound? (.ref a) (Str.ofString "__eq__") [u]) (PySem.W.ifBound_K KX J h.at_ h.fn (wpAny_mono inner (fun r s' hr => by
          obtain ⟨v', H', I', rv, b, rfl, q'⟩ := hr
          cases (show r = Value.bool b from rv)
          repeat (first | exact hR _ _ ⟨.bl (!b), H', I', rfl, q'⟩ | exact wpAny_pure (hR _ _ ⟨.bl (!b), H', I', rfl, q'⟩) | (refine wpAny_bind (m := truthy (.bool _)) (wpAny_truthy_bool ?_)) | wp_step)) hE)))
      | wp_step)
  have chk : ∀ {Q' : Unit → Shared → Prop} {E' : Value → Shared → Prop}, Q' () s → wpAny (model X.prog X.w) X.A.in1 (checkBuiltinCall "object.__ne__" ⟨[.ref a, u], []⟩) Q' E' s := fun {Q' E'} q' => by
    simp only [checkBuiltinCall, PySem.F.cmpKind_ne, PySem.F.cmpSplit_ne]
    refine wpAny_bind ?_
    unfold isInstance
    refine wpAny_bind (J.type.here ((PySem.W.looks_subIn KX n.sub).here ?_))
    have ha := PySem.F.cmpArgs_ne (.ref a) u
    cases hsig : Manifest.signature? "object.__ne__" with
    | none => exact wpAny_pure q'
    | some sig =>
      simp only [argsOk, hsig] at ha
      have h2 : Bind.checkArgs "object.__ne__" sig ⟨[.ref a, u], []⟩ = pure () := ha
      show wpAny _ _ (Bind.checkArgs "object.__ne__" sig ⟨[.ref a, u], []⟩) Q' _ _
      rw [h2]
      exact wpAny_pure q'
  have called : wpAny (model X.prog X.w) X.A (call (.builtin "object.__ne__") [.ref a, u]) (EP X pins σ Q) X.xe s :=
    wpAny_call (codeAny_call_builtin PySem.F.cmp_object.ne.plain PySem.F.cmpEntry_ne (chk (body (R := fun r s' => match r with | .ok (.ret v) => EP X pins σ Q v s' | .ok _ => False | .error e => X.xe e s') (fun _ _ z => z) fun _ _ z => z)))
  have once : wpAny (model X.prog X.w) X.A (callSpecialIfBound? (.ref a) "__ne__" [u]) (fun r s' => ∃ v, r = some v ∧ EP X pins σ Q v s') X.xe s := by
    simp only [callSpecialIfBound?, bindSpecialIfBound?]
    refine wpAny_holding (wpAny_bind (wpAny_bind (wpAny_bind (J.type.here ((PySem.W.looks_findIn KX n.at_).here ?_)))))
    refine wpAny_bind (wpAny_askSetting (wpAny_ite ?_))
    simp only [PySem.F.cmp_object.ne.bind]
    have fin : wpAny (model X.prog X.w) X.A (call (.builtin "object.__ne__") ([.ref a] ++ [u]) >>= fun v => pure (some v)) (fun r s' => ∃ v, r = some v ∧ EP X pins σ Q v s') X.xe s :=
      wpAny_bind (wpAny_mono called (fun v s' h' => wpAny_pure ⟨v, rfl, h'⟩) fun _ _ h' => h')
    split
    · exact wpAny_bind (wpAny_pure (wpAny_pure fin))
    · exact wpAny_tryCatch (wpAny_bind (wpAny_pure (wpAny_pure fin)))
  have one : wpAny (model X.prog X.w) X.A (tryCompare (.ref a) "__ne__" u) (fun r s' => ∃ v, r = some v ∧ EP X pins σ Q v s') X.xe s := by
    unfold tryCompare
    refine wpAny_bind (wpAny_mono once (fun r s' z => ?_) fun _ _ e => e)
    obtain ⟨v, rfl, z⟩ := z
    have z' := cmpBack z
    cases v <;> first | exact z'.elim | exact wpAny_pure ⟨_, rfl, z⟩
  show wpAny _ _ (richCompare .NotEq (.ref a) u) _ _ _
  unfold richCompare
  simp only [oneThing_ref]
  refine wpAny_holding (wpAny_bind (wpAny_cRoomFor (Nat.lt_of_succ_lt hu) ?_))
  rw [cmpInfo_NotEq]
  dsimp only
  refine wpAny_bind (J.type.here (wpAny_bind (hb.here ?_)))
  split
  · rename_i z
    have e : PySem.W.subIn X.K tb (.ref C) = some false := by
      rcases Bool.or_eq_true_iff.mp nf with e | e
      · rw [beq_iff_eq.mp e] at z; simp at z
      · exact beq_iff_eq.mp e
    refine wpAny_bind ((PySem.W.looks_subIn KX e).here ?_)
    simp only [Bool.false_eq_true, if_false]
    refine wpAny_bind (wpAny_mono one (fun r s' z => ?_) fun _ _ e => e)
    obtain ⟨v, rfl, hq⟩ := z
    exact wpAny_pure hq
  · refine wpAny_bind (wpAny_pure ?_)
    simp only [Bool.false_eq_true, if_false]
    refine wpAny_bind (wpAny_mono one (fun r s' z => ?_) fun _ _ e => e)
    obtain ⟨v, rfl, hq⟩ := z
    exact wpAny_pure hq
end
end E10

set_option Elab.async false
set_option linter.all false
set_option maxRecDepth 100000
set_option maxHeartbeats 4000000
namespace E10
open L2 PySem PySem.Spec PyProof.Rows
section
variable {X : Cx} {k n : Nat} {f C : Addr} {fd : FuncData} {ps : List Str} {sp : Sp}
/-- repr(a), str(a): an own object by its own def -/
def rTextO (C : Addr) (sp : Sp) : List V → Hp → VK → Prop := fun xs H Q => ∃ (a dx : Addr) (fs : List (Str × V)), xs = [.ref a] ∧ H a = some (.ins C dx fs) ∧ sp [.ref a] H (fun v H' => ∃ z, v = .str z ∧ Q (.str z) H') E0
theorem strBack {pins : List (Addr × Obj)} {σ : L2.St} {Q : VK} {u : Value} {s' : Shared} (h : EP X pins σ (fun v H' => ∃ z, v = .str z ∧ Q (.str z) H') u s') : PySem.W.StrBack (EP X pins σ Q) u s' := by
  obtain ⟨v, H', I, r, z, rfl, q⟩ := h
  obtain ⟨t, rfl⟩ := (show ∃ t, u = Value.str z t from r)
  exact ⟨.str z, H', I, ⟨t, rfl⟩, q⟩
theorem call_reprO (F : FnG X.prog X.w X.K X.mg X.base k f fd ps sp) (hG : X.A.guards = some []) (room : Room (k + 1) X.A) (hu : X.A.units + 1 < cLine) (bi : Binds X.K fd ps []) (h : Has X.K C f "__repr__") : CallR X (.builtin "repr") (rTextO C sp) := by
  intro pins s σ H xs us Q I r h0
  obtain ⟨a, dx, fs, rfl, ha, q⟩ := h0
  obtain ⟨u, rfl, ru⟩ := vals1 r
  cases (show u = Value.ref a from ru)
  obtain ⟨mA, O, _⟩ := ins_get I.hok ha
  obtain ⟨od, J, _⟩ := O.look
  obtain ⟨m, hF⟩ := I.fr
  refine PySem.W.repr_K (show X.A.in1.units < cLine from hu) hF I.ok.mod.kin J h.at_ h.fn ?_
  exact wpAny_mono (run_at (vs := [.ref a]) F rfl hG room.in1 bi I (.cons rfl .nil) q) (fun _ _ z => strBack z) fun _ _ z => z
theorem call_strO (F : FnG X.prog X.w X.K X.mg X.base k f fd ps sp) (hG : X.A.guards = some []) (room : Room (k + 2) X.A) (hu : X.A.units + 2 < cLine) (bi : Binds X.K fd ps []) (h : Has X.K C f "__str__") : CallR X (.type "str") (rTextO C sp) := by
  intro pins s σ H xs us Q I r h0
  obtain ⟨a, dx, fs, rfl, ha, q⟩ := h0
  obtain ⟨u, rfl, ru⟩ := vals1 r
  cases (show u = Value.ref a from ru)
  obtain ⟨mA, O, _⟩ := ins_get I.hok ha
  obtain ⟨od, J, _⟩ := O.look
  refine PySem.W.kso_call (show X.A.in1.in1.units < cLine from hu) I.kIn J h.at_ h.fn ?_
  exact wpAny_mono (run_at (vs := [.ref a]) F rfl hG (Room.in1 (Room.in1 room)) bi I (.cons rfl .nil) q) (fun _ _ z => strBack z) fun _ _ z => z
/-- f(e, ..) of a def that is called where no text of a container is being made -/
theorem pe_callG {x : Str} {e : Expr} {es : List Expr} {t : TA} {p pos : Pos} (F : FnG X.prog X.w X.K X.mg X.base k f fd ps sp) (hG : X.A.guards = some []) (room : Room k X.A) (g : Gl X x) (m : X.mg x = some (.ref f)) (kp : PySem.W.keepIn X.K (.ref f) = true)
    (bi : Binds X.K fd ps []) (ha : PA X (e :: es) t) (hdb : (x == ("__debug__" : Str)) = false := by decide) (he : starEach (e :: es) X.env = (false, eval e X.env) :: starEach es X.env := by rfl) (hpl : (backTo pos (starEach es X.env)).any (·.1) = false := by rfl) :
    PE X (.Call (.Name x p) (e :: es) [] pos) (tCall sp [] E0 t) := by
  refine ⟨fun pins s σ H Q I h => wpAny_Call_Name_kw (ld_glob I g m (PySem.W.callWith_K (h₀ := X.base) I.ok.mod.kin kp (thn (ha.run pos pins s σ H _ I h) fun us s1 ⟨vs, H1, I1, r, q⟩ => ⟨I1.kIn, ?_⟩) he hpl) hdb)⟩
  have q' : sp (vs ++ []) H1 Q E0 := q
  rw [List.append_nil] at q'
  exact run_at F rfl hG room bi I1 r q'
/-! ### an own object, called -/
theorem callO_any {M : Model} {A : Around} {E : Value → Shared → Prop} {s : Shared} {a : Addr} {pos : Pos} {Q : Value → Shared → Prop} {args : List (Bool × Sem Value)} {kws : List (Option Str × Sem Value)} (hplain : (args.any (·.1) || kws.any (·.1.isNone)) = false)
    (h : wpAny M A (evalArgs (.ref a) true args kws) (fun z s₁ => (∃ C ox od, PySem.W.InstAt s₁.heap a ox C od ∧ ox.data = .plain) ∧ wpAny M A (call (.ref a) ([] ++ z.pos) z.kw) Q E s₁) E s) : wpAny M A (callWith pos (.ref a) [] args kws) Q E s := by
  unfold callWith
  refine wpAny_bind (wpAny_holding (wpAny_mono h (fun z s₁ h₁ => wpAny_bind (wpAny_standAt ?_)) fun _ _ y => y))
  obtain ⟨⟨C, ox, od, J, hd⟩, h₁⟩ := h₁
  have L := PySem.W.kco_keeper (M := M) J hd
  simp only [hplain]
  refine wpAny_bind (L.here ?_)
  have tail : ∀ {t : Sem Value}, wpAny M A t Q E s₁ → wpAny M A (t >>= fun r => holding [r] point >>= fun _ => pure r) Q E s₁ :=
    fun ht => wpAny_bind (wpAny_mono ht (fun r s₂ hr => wpAny_bind (wpAny_holding (wpAny_point (wpAny_pure hr)))) fun _ _ y => y)
  exact tail (wpAny_operateT h₁)
theorem run_ofOk (F : FnOk X.prog X.w X.K X.mg X.base CX0 k f fd ps sp) (b : Binds X.K fd ps []) : StX.CallO X.K C f → StX.CallO X.K C f ∧ FnR X.prog X.w X.K X.mg X.base CX0 k f sp := fun c => ⟨c, fun A outer s H us vs Q E hr e0 r q => by
  have n1 : us.length = ps.length := r.length.symm.trans (F.len _ _ _ _ q)
  have inK : X.K.In s.heap := e0.mod.kin.keeps fun c o e => (e0.bs c o e).1
  have bb := b s us inK (by simpa using n1)
  rw [List.append_nil] at bb
  exact F.run A outer s H ⟨us, []⟩ us vs Q E hr e0 bb r q⟩
theorem insC_of {H : Hp} {a dx : Addr} {fs : List (Str × V)} (h : H a = some (.ins C dx fs)) : StX.InsC X H a C := .inr ⟨dx, fs, h⟩
/-- e(e1, ..), e an own object of C whose __call__ is f -/
theorem pe_callOb {fe e : Expr} {es : List Expr} {tf : TE} {t : TA} {pos : Pos} (hf : PE X fe tf) (c : StX.CallO X.K C f) (F : FnOk X.prog X.w X.K X.mg X.base CX0 k f fd ps sp) (b : Binds X.K fd ps []) (hr : Room k X.A) (ha : PA X (e :: es) t)
    (ht : eval (.Call fe (e :: es) [] pos) X.env = (do callWith pos (← eval fe X.env) [] (backTo pos (starEach (e :: es) X.env)) (backToKw pos (keywordEach [] X.env))) := by rfl)
    (he : starEach (e :: es) X.env = (false, eval e X.env) :: starEach es X.env := by rfl) (hpl : (backTo pos (starEach es X.env)).any (·.1) = false := by rfl) : PE X (.Call fe (e :: es) [] pos) (StX.tCallO X C sp E0 tf t) :=
  StX.pe_callO hf c (run_ofOk F b c).2 hr pass0 ha ht he hpl
/-- e(k = e1, ..) -/
def tCallOK (C : Addr) (m : Nat) (sp : Sp) (gV : List V → List V → List V) (tf : TE) (tk : TA) : TE := fun σ H Q => tf σ H fun y H1 => ∃ a, y = V.ref a ∧ tk σ H1 fun zs H2 => (∃ dx fs, H2 a = some (.ins C dx fs)) ∧ zs.length = m ∧ sp (gV [.ref a] zs) H2 Q E0
theorem pe_callObK {fe : Expr} {kws : List Keyword} {ks : List Str} {tf : TE} {tk : TA} {pos : Pos} {g : List Value → List Value → List Value} {gV : List V → List V → List V} (hf : PE X fe tf) (c : StX.CallO X.K C f) (F : FnOk X.prog X.w X.K X.mg X.base CX0 k f fd ps sp) (hb : KBn X.K fd ps 1 ks g gV) (hr : Room k X.A) (hkw : PK X kws tk)
    (ht : eval (.Call fe [] kws pos) X.env = (do callWith pos (← eval fe X.env) [] (backTo pos (starEach [] X.env)) (backToKw pos (keywordEach kws X.env))) := by rfl)
    (hall : (backToKw pos (keywordEach kws X.env)).all (·.1.isSome) = true := by rfl) (hks : (backToKw pos (keywordEach kws X.env)).filterMap (·.1) = ks := by rfl)
    (hpl : ((backTo pos (starEach [] X.env)).any (·.1) || (backToKw pos (keywordEach kws X.env)).any (·.1.isNone)) = false := by rfl) : PE X (.Call fe [] kws pos) (tCallOK C ks.length sp gV tf tk) := by
  refine ⟨fun pins s σ H Q I h => ?_⟩
  rw [ht]
  refine wpAny_bind (thn (hf.run pins s σ H _ I h) fun u s1 ⟨y, H1, I1, ry, a, ey, q⟩ => ?_)
  subst ey
  obtain rfl : u = Value.ref a := ry
  refine callO_any hpl (PyProof.Rows.evalArgs_kw2_nil hall (thn (hkw.run pos pins s1 σ H1 _ I1 q) fun ws s2 ⟨zs, H2, I2, rz, ⟨dx, fs, ha⟩, l2, q2⟩ => ?_))
  rw [hks]
  obtain ⟨ox, od, J, hd⟩ := StX.insC_at I2 (insC_of (X := X) ha)
  refine ⟨⟨C, ox, od, J, hd⟩, wpAny_call (PySem.W.kco_code I2.kIn J hd c.at_ c.fn c.fi ?_)⟩
  refine codeAny_mono (F.run X.A X.stack s2 H2 ⟨[.ref a], ks.zip ws⟩ (g [.ref a] ws) _ Q E0 hr I2.env0 (hb.to s2 [.ref a] ws I2.kIn rfl (rz.length.symm.trans l2)) (hb.rel (vs := [V.ref a]) (.cons rfl .nil) rz) q2) fun res s' hq => ?_
  match res, hq with
  | .error _, z => exact z.elim
  | .ok (.ret _), z => exact I2.after z
  | .ok .next, z => exact z.elim
  | .ok .brk, z => exact z.elim
  | .ok .cont, z => exact z.elim
/-- C(k = e, ..): keywords alone -/
def tMakeK (C : Addr) (m : Nat) (sp : Sp) (gV : List V → List V → List V) (tk : TA) : TE := fun σ H Q => tk σ H fun zs H2 => zs.length = m ∧ ∀ x dx, H2 x = none → H2 dx = none → dx ≠ x → sp (gV [.ref x] zs) (upd (upd H2 dx (.own x)) x (.ins C dx [])) (fun v H3 => v = .non ∧ Q (.ref x) H3) E0
theorem pe_makeK {x : Str} {p pos : Pos} {kws : List Keyword} {ks : List Str} {tk : TA} {g : List Value → List Value → List Value} {gV : List V → List V → List V} (M : Mk X.K C f) (F : FnOk X.prog X.w X.K X.mg X.base CX0 k f fd ps sp) (hr : Room (k + 1) X.A) (hg : Gl X x) (hm : X.mg x = some (.ref C)) (hb : KBn X.K fd ps 1 ks g gV)
    (hkw : PK X kws tk) (hall : (backToKw pos (keywordEach kws X.env)).all (·.1.isSome) = true := by rfl) (hks : (backToKw pos (keywordEach kws X.env)).filterMap (·.1) = ks := by rfl)
    (hdb : (x == ("__debug__" : Str)) = false := by decide) (hpl : ((backTo pos (starEach [] X.env)).any (·.1) || (backToKw pos (keywordEach kws X.env)).any (·.1.isNone)) = false := by rfl) :
    PE X (.Call (.Name x p) [] kws pos) (tMakeK C ks.length sp gV tk) := by
  refine ⟨fun pins s σ H Q I h => ?_⟩
  refine wpAny_Call_Name_kw (ld_glob I hg hm ?_ hdb)
  refine PySem.W.callWith_KW0 (h₀ := X.base) I.ok.mod.kin M.kp hall (thn (hkw.run pos pins s σ H _ I h) fun ws s2 ⟨zs, H2, I2, rz, l2, q2⟩ => ⟨I2.kIn, ?_⟩) hpl
  rw [hks]
  exact run_makeN (n := 0) (us := []) (vs := []) M F hr hb pass0 I2 .nil rz rfl l2 q2
end
end E10

set_option Elab.async false
set_option linter.all false
set_option maxRecDepth 100000
set_option maxHeartbeats 4000000
namespace E10
open L2 PySem PySem.Spec PyProof.Rows Builtin Float
def okF (r : Except String FormatSpec) : FormatSpec := match r with
  | .ok f => f
  | .error _ => { fill := 32, align := 62 }
def plusF : FormatSpec := okF (parseFormatSpec ("+d" : Str).cps.toList "int" 62)
theorem plusF_ok : parseFormatSpec ("+d" : Str).cps.toList "int" 62 = .ok plusF := by
  first | rfl | decide +kernel
theorem plusF_facts : plusF.sign = some 43 ∧ plusF.width = none ∧ plusF.grouping = none ∧ plusF.precision = none ∧ plusF.noNeg0 = false ∧ plusF.alt = false ∧ plusF.fill = 32 ∧ plusF.align = 62 ∧ plusF.type.getD (if ("+d" : Str).cps.back? == some 0 then 0 else 100) = 100 := by
  refine ⟨?_, ?_, ?_, ?_, ?_, ?_, ?_, ?_, ?_⟩ <;> first | rfl | decide +kernel
/-- an int with its sign -/
def plusText (a : Int) : Str := if a < 0 then Str.ofString (toString a) else ("+" : Str) ++ Str.ofString (toString a)
theorem pad_none (n m : Nat) : (-1 - (n : Int) - (m : Int)).toNat = 0 := Int.toNat_eq_zero.mpr (by omega)
theorem plus_text (a : Int) : intSpecText plusF a = plusText a := by
  obtain ⟨hs, hw, hg, _, _, _, hf, ha, _⟩ := plusF_facts
  have hd : ((Nat.toDigits 10 a.natAbs).map fun c => (if (100 : Nat) == 88 then c.toUpper else c).toNat) = (Nat.toDigits 10 a.natAbs).map Char.toNat := by
    refine List.map_congr_left fun c _ => ?_
    rfl
  have hne : ((Nat.toDigits 10 a.natAbs).map Char.toNat).isEmpty = false := by
    have := tDigits_len_ge 10 a.natAbs
    cases h : Nat.toDigits 10 a.natAbs with
    | nil => rw [h] at this; simp at this
    | cons _ _ => rfl
  unfold intSpecText intField'
  rw [hd]
  simp only [hs, hw, hg, hf, ha, hne, show ((32 : Nat) == 48) = false by decide, show ((62 : Nat) == 61) = false by decide, show ((62 : Nat) == 60) = false by decide, show ((62 : Nat) == 94) = false by decide, Bool.false_and, Bool.and_false,
    Bool.false_eq_true, if_false, List.length_nil, List.append_nil, Int.toNat_zero, Nat.zero_sub, List.replicate_zero, List.nil_append]
  have zero : ∀ (l : List Nat) (x : Nat), List.replicate (-1 - ((l.length : Int) + ((0 : Nat) : Int) + ((0 : Nat) : Int)) - (((List.map Char.toNat (Nat.toDigits 10 a.natAbs)).length : Nat) : Int)).toNat x = [] := fun l x => by
    rw [Int.toNat_eq_zero.mpr (by omega)]
    rfl
  by_cases h : a < 0
  · have e : plusText a = ⟨(45 :: (Nat.toDigits 10 a.natAbs).map Char.toNat).toArray⟩ := by
      unfold plusText
      rw [if_pos h]
      obtain ⟨n, rfl⟩ : ∃ n : Nat, a = Int.negSucc n := ⟨a.natAbs - 1, by omega⟩
      have t : Str.ofString (Nat.repr (n + 1)) = ⟨((Nat.toDigits 10 (n + 1)).map Char.toNat).toArray⟩ := text_ofNat (n + 1)
      have s : toString (Int.negSucc n) = "-" ++ Nat.repr (n + 1) := rfl
      rw [Str.ofString_eq_toList] at t
      rw [s, Str.ofString_eq_toList]
      refine Str.ext' ?_
      have t2 := congrArg Str.cps t
      simp only [String.toList_append, Int.natAbs_negSucc, List.map_append] at t2 ⊢
      have t3 := congrArg Array.toList t2
      simp only [List.toList_toArray] at t3
      rw [t3]
      rfl
    rw [e]
    simp only [decide_eq_true h, if_true]
    refine Str.ext' ?_
    rw [zero [45] 32]
    simp
  · have e : plusText a = ⟨(43 :: (Nat.toDigits 10 a.natAbs).map Char.toNat).toArray⟩ := by
      unfold plusText
      rw [if_neg h]
      obtain ⟨n, rfl⟩ := Int.eq_ofNat_of_zero_le (Int.not_lt.mp h)
      have t : Str.ofString (toString (n : Int)) = ⟨((Nat.toDigits 10 n).map Char.toNat).toArray⟩ := text_ofNat n
      rw [t]
      refine Str.ext' ?_
      rw [Str.cps_append]
      simp
      rfl
    rw [e]
    simp only [decide_eq_false h, Bool.false_eq_true, if_false]
    refine Str.ext' ?_
    rw [zero [43] 32]
    simp
section
variable {prog : Program} {w : World} {A : Around} {E : Value → Shared → Prop} {s : Shared}
theorem plus_len {a : Int} (h : a.natAbs.log2 < 1920) : (plusText a).length ≤ sizeLine := by
  have e := int_text_fits h
  unfold plusText
  split
  · exact e
  · rw [strLen_append]
    have e1 : (("+" : String) : Str).length = 1 := rfl
    have e2 := int_text_length_le (k := 1920) (by decide) h
    rw [e1, PySem.ofString_length, sizeLine_eq]
    omega
theorem field_signed {a : Int} {t : Tok} {f : FormatSpec} {Q : Value → Shared → Prop} (hd : a.natAbs.log2 < 1920) (hp : parseFormatSpec ("+d" : Str).cps.toList "int" 62 = .ok f) (hs : f.sign = some 43) (hw : f.width = none) (hgr : f.grouping = none) (hpr : f.precision = none) (hz : f.noNeg0 = false) (hal : f.alt = false)
    (hty : f.type.getD (if ("+d" : Str).cps.back? == some 0 then 0 else 100) = 100) (hlen : (intSpecText f a).length ≤ sizeLine) (h : Q (.str (intSpecText f a) (s.toks + 1)) { s with toks := s.toks + 1 + 1 }) : wpAny (model prog w) A (formatField (.int a t) "+d") Q E s := by
  have hne : ((("+d" : String) : Str).length == 0) = false := by decide
  have hasc : ((("+d" : Str).cps.toList.drop 1).any (· ≥ 128) || (("+d" : Str).cps.getD 0 0 ≥ 128 && !([60, 62, 61, 94] : List Nat).contains (("+d" : Str).cps.getD 1 0))) = false := by decide +kernel
  show wpAny _ _ (holding [.int a t] (pyFormat (.int a t) "+d")) Q E s
  refine wpAny_holding ?_
  unfold pyFormat
  refine wpAny_bind (wpAny_mkStr ?_ (by decide))
  refine wpAny_bind (m := callSpecial? (.int a t) (Str.ofString "__format__") [.str "+d" s.toks]) (wpAny_callSpecial?_slot (name := Str.ofString "__format__") (typeIs_int _ a t) slot_int_format ?_)
  refine wpAny_call (codeAny_call_builtin slot_int_format.plain entry_int_format (slot_int_format.check _ _ _ _ _ _ _ _ (typeIs_int _ a t) (args_int_format _ _) ?_))
  unfold Builtin.«int.__format__»
  simp only [selfAndOne, noKeywords, Int.intOfSelf, asInt?, asStr?, List.isEmpty_nil, if_true, pure_bind, bind_pure, bind_assoc, hne, hasc, Bool.false_eq_true, if_false,
    show (Value.str "+d" s.toks == Value.none) = false from rfl]
  refine wpAny_bind (wpAny_typeNameOf (T := "str") (typeIs_str _ _ _) (by decide) fun _ => ?_)
  first | refine wpAny_bind (wpAny_typeNameOfCut_int ?_) | refine wpAny_bind (wpAny_typeNameOf_int ?_)
  simp only [hp, hty]
  rw [if_pos (by decide)]
  show wpAny _ _ (if _ then _ else _) _ _ _
  rw [if_neg (by simp [hpr])]
  show wpAny _ _ (if _ then _ else _) _ _ _
  rw [if_neg (by simp [hz])]
  show wpAny _ _ (if _ then _ else _) _ _ _
  rw [if_neg (by decide)]
  show wpAny _ _ (do let r ← Builtin.overDigitLimit? a; _) _ _ _
  rw [PySem.overDigitLimit_small hd]
  refine wpAny_bind (wpAny_pure ?_)
  show wpAny _ _ (if _ then _ else _) _ _ _
  rw [if_neg (by simp [hw])]
  show wpAny _ _ (retStr _) _ _ _
  unfold retStr
  refine wpAny_bind (wpAny_mkStr (wpAny_pure ?_) ?hs2)
  case hs2 =>
    simp only [hal, Bool.false_eq_true, if_false, show ((10 : Nat) == 10) = true by decide, if_true]
    conv => lhs; arg 1; whnf
    simp only [intSpecText, intField', hgr, hs, hal, Bool.false_eq_true, if_false, show ((10 : Nat) == 10) = true by decide, if_true] at hlen ⊢
    exact hlen
  dsimp only
  refine wpAny_bind (wpAny_isInstance (typeIs_str _ _ _) isSubtype_str_str (wpAny_pure ?_))
  simp only [hal, Bool.false_eq_true, if_false, show ((10 : Nat) == 10) = true by decide, if_true]
  conv => arg 1; arg 1; whnf
  simp only [intSpecText, intField', hgr, hs, hal, Bool.false_eq_true, if_false, show ((10 : Nat) == 10) = true by decide, if_true] at h ⊢
  exact h
theorem formatField_plus {a : Int} {t : Tok} {Q : Value → Shared → Prop} (hd : a.natAbs.log2 < 1920) (h : Q (.str (plusText a) (s.toks + 1)) { s with toks := s.toks + 1 + 1 }) : wpAny (model prog w) A (formatField (.int a t) "+d") Q E s := by
  obtain ⟨hs, hw, hgr, hpr, hz, hal, hf, hli, hty⟩ := plusF_facts
  rw [← plus_text] at h
  exact field_signed hd plusF_ok hs hw hgr hpr hz hal hty (by rw [plus_text]; exact plus_len hd) h
end
section
variable {X : Cx}
/-- {n:+d} -/
def tFmtP (te : TE) : TE := fun σ H Q => te σ H fun x H1 => ∃ i : Int, x = .int i ∧ i.natAbs.log2 < 1920 ∧ Q (.str (plusText i)) H1
theorem pe_fmtP {e : Expr} {te : TE} {p1 p2 pos : Pos} {j : Nat} (he : PE X e te) : PE X (.FormattedValue e (-1) (some (.JoinedStr [.Constant (.str "+d") j p1] p2)) pos) (tFmtP te) := by
  refine ⟨fun pins s σ H Q I h => ?_⟩
  refine wpAny_FormattedValue_spec (thn (he.run pins s σ H _ I h) fun v s1 hv => ?_)
  obtain ⟨x, H1, I1, r1, i, rfl, hz, q⟩ := hv
  obtain ⟨t, rfl⟩ := (show ∃ t, v = Value.int i t from r1)
  refine wpAny_JoinedStr_one (thn ((pe_str (x := "+d") (j := j) (pos := p1)).run pins s1 σ H1 (fun y H2 => y = .str "+d" ∧ H2 = H1) I1 ⟨rfl, rfl⟩) fun u s2 hu => ?_)
  obtain ⟨y, H2, I2, r2, rfl, rfl⟩ := hu
  obtain ⟨t2, rfl⟩ := (show ∃ t, u = Value.str "+d" t from r2)
  exact ⟨_, t2, rfl, formatField_plus hz ⟨.str (plusText i), _, I2.tok _, ⟨_, rfl⟩, q⟩⟩
end
end E10

set_option Elab.async false
set_option linter.all false
set_option maxRecDepth 100000
set_option maxHeartbeats 4000000
namespace E10
open L2 PySem PySem.Spec PyProof.Rows
/-! ### repr of a list, a dict of small things -/
def tiny : V → Option PyData
  | .non => some .none
  | .bl b => some (.bool b)
  | .int i => if i.natAbs < 10 ^ 70 then some (.int i) else none
  | .str z => if (reprText z).length ≤ 100 then some (.str z) else none
  | _ => none
theorem log_small {i : Int} (h : i.natAbs < 10 ^ 70) : i.natAbs.log2 < 1920 := by
  by_cases z : i.natAbs = 0
  · rw [z]
    decide
  · exact (Nat.log2_lt z).mpr (Nat.lt_of_lt_of_le h (by decide +kernel))
theorem tiny_int {i : Int} {d : PyData} (h : tiny (.int i) = some d) : i.natAbs < 10 ^ 70 ∧ d = .int i := by
  have h' : (if i.natAbs < 10 ^ 70 then some (PyData.int i) else none) = some d := h
  by_cases c : i.natAbs < 10 ^ 70
  · rw [if_pos c] at h'
    exact ⟨c, (Option.some.inj h').symm⟩
  · rw [if_neg c] at h'
    cases h'
theorem tiny_str {z : Str} {d : PyData} (h : tiny (.str z) = some d) : (reprText z).length ≤ 100 ∧ d = .str z := by
  have h' : (if (reprText z).length ≤ 100 then some (PyData.str z) else none) = some d := h
  by_cases c : (reprText z).length ≤ 100
  · rw [if_pos c] at h'
    exact ⟨c, (Option.some.inj h').symm⟩
  · rw [if_neg c] at h'
    cases h'
theorem tiny_ok {x : V} {d : PyData} (h : tiny x = some d) : d.showable = true ∧ d.depth = 0 ∧ d.shown.length ≤ 100 ∧ d.hasDict = false := by
  cases x with
  | non =>
    cases h
    exact ⟨rfl, rfl, by decide, rfl⟩
  | bl b =>
    cases h
    cases b <;> exact ⟨rfl, rfl, by decide, rfl⟩
  | int i =>
    obtain ⟨hi, rfl⟩ := tiny_int h
    refine ⟨decide_eq_true (log_small hi), rfl, ?_, rfl⟩
    show (Str.ofString (toString i)).length ≤ 100
    have e := int_text_length_le10 (k := 70) (by decide) hi
    rw [PyProof.Rows.ofString_len]
    omega
  | str z =>
    obtain ⟨hz, rfl⟩ := tiny_str h
    exact ⟨rfl, rfl, hz, rfl⟩
  | _ => simp [tiny] at h
theorem tiny_reads {h : Heap} {x : V} {d : PyData} {u : Value} (t : tiny x = some d) (r : RelV x u) : Reads h u d [] := by
  cases x with
  | non =>
    cases t
    cases (show u = Value.none from r)
    exact .none
  | bl b =>
    cases t
    cases (show u = Value.bool b from r)
    exact .bool b
  | int i =>
    obtain ⟨_, rfl⟩ := tiny_int t
    obtain ⟨k, rfl⟩ := (show ∃ t, u = Value.int i t from r)
    exact .int i k
  | str z =>
    obtain ⟨_, rfl⟩ := tiny_str t
    obtain ⟨k, rfl⟩ := (show ∃ t, u = Value.str z t from r)
    exact .str z k
  | _ => simp [tiny] at t
abbrev Tiny (x : V) (d : PyData) : Prop := tiny x = some d
abbrev TinyP (p : Key × V) (q : PyData × PyData) : Prop := tiny (kV p.1) = some q.1 ∧ tiny p.2 = some q.2
theorem list_reads {h : Heap} : ∀ {xs : List V} {ds : List PyData} {us : List Value}, Paired Tiny xs ds → Vals xs us → ReadsAll h us ds []
  | _, _, _, .nil, .nil => .nil
  | _, _, _, .cons r t, .cons q k => .cons (as := []) (bs := []) (tiny_reads r q) (list_reads t k)
theorem listLen (ts : List Str) : (listText ts).length ≤ piled ts + 2 := by
  have e1 : ((("[" : String) : Str)).length = 1 := rfl
  have e2 : ((("]" : String) : Str)).length = 1 := rfl
  have e3 : ((("" : String) : Str)).length = 0 := rfl
  cases ts with
  | nil =>
    unfold listText
    rw [strLen_append, e2]
    show (("[" : String) : Str).length + 1 ≤ 0 + 2
    rw [e1]
    decide
  | cons t r =>
    unfold listText
    rw [strLen_append, e2]
    show (textFrom 1 (((("[" : String) : Str) ++ (("" : String) : Str)) ++ t) r).length + 1 ≤ _
    rw [textFrom_length_pos _ _ _ (by decide), strLen_append, strLen_append, e1, e3, piled_cons]
    omega
theorem dictLen (ts : List Str) : (dictText ts).length ≤ piled ts + 2 := by
  have e1 : ((("{" : String) : Str)).length = 1 := rfl
  have e2 : ((("}" : String) : Str)).length = 1 := rfl
  unfold dictText
  rw [strLen_append, strLen_append, e1, e2]
  by_cases h : ts = []
  · subst h
    have : (Str.join ", " []).length = 0 := rfl
    rw [this, piled_nil]
    omega
  · have := join_length_add ts h
    omega
theorem list_ok : ∀ {xs : List V} {ds : List PyData}, Paired Tiny xs ds → PyData.showableAll ds = true ∧ PyData.depthAll ds = 0 ∧ piled (PyData.shownAll ds) ≤ 102 * xs.length ∧ PyData.hasDictAll ds = false
  | _, _, .nil => ⟨rfl, rfl, Nat.zero_le _, rfl⟩
  | _, _, .cons r t => by
    obtain ⟨a1, b1, c1, e1⟩ := tiny_ok r
    obtain ⟨a2, b2, c2, e2⟩ := list_ok t
    refine ⟨?_, ?_, ?_, ?_⟩
    · show (_ && _) = true
      rw [a1, a2]
      rfl
    · show max _ _ = 0
      rw [b1, b2]
      rfl
    · show piled (_ :: _) ≤ _
      rw [piled_cons, List.length_cons]
      omega
    · show (_ || _) = false
      rw [e1, e2]
      rfl
theorem dict_ok : ∀ {ps : List (Key × V)} {qs : List (PyData × PyData)}, Paired TinyP ps qs → PyData.showableKv qs = true ∧ PyData.depthKv qs = 0 ∧ piled (PyData.shownKv qs) ≤ 204 * ps.length
  | _, _, .nil => ⟨rfl, rfl, Nat.zero_le _⟩
  | _, _, @Paired.cons _ _ _ p (kd, vd) l m r t => by
    obtain ⟨a1, b1, c1, _⟩ := tiny_ok r.1
    obtain ⟨a3, b3, c3, _⟩ := tiny_ok r.2
    obtain ⟨a2, b2, c2⟩ := dict_ok t
    refine ⟨?_, ?_, ?_⟩
    · show (_ && _ && _) = true
      rw [a1, a2, a3]
      rfl
    · show max (max _ _) _ = 0
      rw [b1, b2, b3]
      rfl
    · show piled (_ :: _) ≤ _
      have e : ((": " : String) : Str).length = 2 := rfl
      rw [piled_cons, List.length_cons, strLen_append, strLen_append, e]
      have : (kd, vd).1 = kd := rfl
      simp only at c1 c3
      omega
theorem dict_reads {P : Program} {w : World} {h : Heap} : ∀ {ps : List (Key × V)} {qs : List (PyData × PyData)} {vs : List (Key × Value)} {es : List DictEntry}, Paired TinyP ps qs → KV ps vs → Pairs (mixKind P w) es vs →
    ReadsAll h (es.map (·.key)) (qs.map (·.1)) [] ∧ ReadsAll h (es.map (·.val)) (qs.map (·.2)) []
  | _, _, _, _, .nil, .nil, .nil => ⟨.nil, .nil⟩
  | (k, v) :: _, (kd, vd) :: _, (k2, u) :: _, p :: _, .cons r t, .cons e n, .cons i1 i2 i3 => by
    obtain ⟨e1, e2⟩ := e
    simp only at e1 e2
    subst e1
    obtain ⟨a, b⟩ := dict_reads (h := h) t n i3
    have kr : Reads h p.key kd [] := by
      rcases keyIs_shape (show keyIs k p.key = true from i1) with ⟨i, t, e, e'⟩ | ⟨z, t, e, e'⟩
      · subst e
        exact tiny_reads r.1 ⟨t, e'⟩
      · subst e
        exact tiny_reads r.1 ⟨t, e'⟩
    exact ⟨.cons (as := []) (bs := []) kr a, .cons (as := []) (bs := []) (tiny_reads r.2 (show RelV v p.val by rw [i2]; exact e2)) b⟩
section
variable {X : Cx}
/-- repr of a list of small things -/
def rReprL (K : PySem.W.Frag) : List V → Hp → VK → Prop := fun xs H Q => ∃ a ys ds, xs = [.ref a] ∧ H a = some (.lst ys) ∧ ys.length ≤ 40 ∧ Paired Tiny ys ds ∧ Q (.str (PyData.list ds).shown) H
theorem call_reprL (hg : X.A.guards = some []) (hu : X.A.units + 64 < cLine) : CallR X (.builtin "repr") (rReprL X.K) := by
  intro pins s σ H xs us Q I r h
  obtain ⟨a, ys, ds, rfl, ha, hl, hp, q⟩ := h
  obtain ⟨u, rfl, ru⟩ := vals1 r
  cases (show u = Value.ref a from ru)
  obtain ⟨_, its, m, rv, e⟩ := (show ObjOk X.prog X.w H s.heap a (.lst ys) from I.hok a _ ha)
  obtain ⟨o1, o2, o3, o4⟩ := list_ok hp
  have rd : Reads s.heap (.ref a) (.list ds) [a] := .list e rfl rfl (by simpa using list_reads hp rv)
  have hd : (PyData.list ds).depth = 1 := by
    show PyData.depthAll ds + 1 = 1
    rw [o2]
  have lid : (PyData.list ds).shown.length ≤ sizeLine := by
    have l1 := listLen (PyData.shownAll ds)
    show (listText (PyData.shownAll ds)).length ≤ _
    have : (5000 : Nat) ≤ sizeLine := by decide
    omega
  exact repr_of_reads' rd o1 (fun z => absurd (show PyData.hasDictAll ds = true from z) (by rw [o4]; exact Bool.false_ne_true)) hg (by omega) (fun _ _ e => e) (fun h' u tk hk => ⟨.str (PyData.list ds).shown, H, I.kept (t' := tk) hk, ⟨u, rfl⟩, q⟩) lid
/-- repr of a dict of small things -/
def rReprD : List V → Hp → VK → Prop := fun xs H Q => ∃ a ys ds, xs = [.ref a] ∧ H a = some (.dK ys) ∧ ys.length ≤ 40 ∧ Paired TinyP ys ds ∧ Q (.str (PyData.dict ds).shown) H
theorem call_reprD (hg : X.A.guards = some []) (hu : X.A.units + 64 < cLine) : CallR X (.builtin "repr") rReprD := by
  intro pins s σ H xs us Q I r h
  obtain ⟨a, ys, ds, rfl, ha, hl, hp, q⟩ := h
  obtain ⟨u, rfl, ru⟩ := vals1 r
  cases (show u = Value.ref a from ru)
  obtain ⟨_, ns, vs, rel, o, es, ep, h1, ex, h3, _, prs, _⟩ := (show ObjOk X.prog X.w H s.heap a (.dK ys) from I.hok a _ ha)
  have na : sysModules ≠ a := fun z => by rw [z] at ns; simp at ns
  obtain ⟨o1, o2, o3⟩ := dict_ok hp
  obtain ⟨r1, r2⟩ := dict_reads (h := s.heap) hp rel prs
  have rd : Reads s.heap (.ref a) (.dict ds) (a :: [] ++ []) := .dict h1 ex.1 h3 r1 r2
  have hd : (PyData.dict ds).depth = 1 := by
    show PyData.depthKv ds + 1 = 1
    rw [o2]
  have lid : (PyData.dict ds).shown.length ≤ sizeLine := by
    have l1 := dictLen (PyData.shownKv ds)
    show (dictText (PyData.shownKv ds)).length ≤ _
    have : (9000 : Nat) ≤ sizeLine := by decide
    omega
  exact repr_of_reads' rd o1 (fun _ => by simp [na]) hg (by omega) (fun _ _ e => e) (fun h' u tk hk => ⟨.str (PyData.dict ds).shown, H, I.kept (t' := tk) hk, ⟨u, rfl⟩, q⟩) lid
end
end E10

set_option Elab.async false
set_option linter.all false
set_option maxRecDepth 100000
set_option maxHeartbeats 8000000
namespace E10
open L2 PySem PySem.Spec PyProof.Rows
/-! ### the text by places; the pot that is drawn from -/
abbrev top (i : Nat) : Stmt := PySem.Challenge.pw_anyofthese_k10_terms_made_and_told.main.body.getD i (.Pass ⟨0, 0, 0, 0⟩)
abbrev sPot : Stmt := top 35
abbrev sDraw : Stmt := top 36
abbrev sChoice : Stmt := top 37
/-- the names that the law leans on -/
structure Nam (mg : Str → Option Value) : Prop where
  isi : mg "isinstance" = none
  all_ : mg "all" = none
  any_ : mg "any" = none
  len : mg "len" = none
  rng : mg "range" = none
  int_ : mg "int" = none
  mx : mg "max" = none
  mn : mg "min" = none
  ab : mg "abs" = none
  dm : mg "divmod" = none
  rep : mg "repr" = none
  str_ : mg "str" = none
  dct : mg "dict" = none
  zip_ : mg "zip" = none
  bool_ : mg "bool" = none
  tup_ : mg "tuple" = none
  srt : mg "sorted" = none
  ml : ∃ t, mg "MOST_LETTERS" = some (.int 8 t)
  mt : ∃ t, mg "MOST_TERMS" = some (.int 8 t)
theorem new_same {H : Hp} {p : Addr} {o : HO} (np : H p = none) : Same H (upd H p o) := fun c u e => (upd_ne (ne_of_none e np)).trans e
theorem SqL.sm {K : PySem.W.Frag} {H H' : Hp} {a : Addr} {xs : List V} (s : Same H H') (h : SqL K H a xs) : SqL K H' a xs := by
  rcases h with (e | ⟨o, e⟩) | h
  · exact .inl (.inl (s _ _ e))
  · exact .inl (.inr ⟨o, s _ _ e⟩)
  · exact .inr h
def PotAt (H : Hp) (a : Addr) : Prop := ∃ x y : Int, H a = some (.lst [.int x, .int y]) ∧ 0 ≤ x ∧ 0 ≤ y ∧ y < 2147483630
/-- all but what stands at a is as it was -/
def SameB (a : Addr) (H H' : Hp) : Prop := ∀ b o, H b = some o → b ≠ a → H' b = some o
theorem SameB.of {a : Addr} {H H' : Hp} (s : Same H H') : SameB a H H' := fun b o e _ => s b o e
theorem SameB.trans {a : Addr} {H H1 H2 : Hp} (s : SameB a H H1) (t : SameB a H1 H2) : SameB a H H2 := fun b o e n => t b o (s b o e n) n
theorem SameB.new {a : Addr} {H H' : Hp} (n : H a = none) (s : SameB a H H') : Same H H' := fun b o e => s b o e (ne_of_none e n)
theorem PotAt.sm {H H' : Hp} {a : Addr} (s : Same H H') (h : PotAt H a) : PotAt H' a := by
  obtain ⟨x, y, e, r⟩ := h
  exact ⟨x, y, s _ _ e, r⟩
def spPot (K : PySem.W.Frag) : Sp := fun vs H Q _ => ∃ (a : Addr) (ns : List Int) (k : Nat), vs = [.ref a, .int k] ∧ SqL K H a (ns.map V.int) ∧ k < 3 ∧ ns.length ≤ 63 ∧ ∀ p H', H p = none → Same H H' → PotAt H' p → Q (.ref p) H'
def spDraw : Sp := fun vs H Q _ => ∃ (a : Addr) (m : Int), vs = [.ref a, .int m] ∧ PotAt H a ∧ 0 < m ∧ m < 1073741824 ∧ ∀ (d : Int) H', 0 ≤ d → d < m → PotAt H' a → SameB a H H' → Q (.int d) H'
def spChoice : Sp := fun vs H Q _ => ∃ (a : Addr) (y : V), vs = [.ref a, y] ∧ PotAt H a ∧ ((∃ l xs, y = .ref l ∧ H l = some (.lst xs) ∧ l ≠ a ∧ 0 < xs.length ∧ xs.length ≤ 1000 ∧ ∀ x ∈ xs, ∀ H', PotAt H' a → SameB a H H' → Q x H') ∨
  (∃ z : Str, y = .str z ∧ 0 < z.length ∧ z.length ≤ 1000 ∧ ∀ c ∈ z.cps.toList, ∀ H', PotAt H' a → SameB a H H' → Q (.str ⟨#[c]⟩) H'))
theorem small_mod (i : Int) : 0 ≤ i % 2147483629 ∧ i % 2147483629 < 2147483629 := ⟨Int.emod_nonneg _ (by decide), Int.emod_lt_of_pos _ (by decide)⟩
/-- a def of the text: where it stands and what it promises -/
structure Def (P : Program) (w : World) (K : PySem.W.Frag) (mg : Str → Option Value) (base : Heap) (x : Str) (ps : List Str) (k : Nat) (sp : Sp) : Prop where
  ex : ∃ (f : Addr) (fd : FuncData), FnOk P w K mg base CX0 k f fd ps sp ∧ mg x = some (.ref f) ∧ PySem.W.keepIn K (.ref f) = true ∧ Binds K fd ps []
structure DefG (P : Program) (w : World) (K : PySem.W.Frag) (mg : Str → Option Value) (base : Heap) (x : Str) (ps : List Str) (k : Nat) (sp : Sp) : Prop where
  ex : ∃ (f : Addr) (fd : FuncData), FnG P w K mg base k f fd ps sp ∧ mg x = some (.ref f) ∧ PySem.W.keepIn K (.ref f) = true ∧ Binds K fd ps []
theorem callD {X : Cx} {x : Str} {k : Nat} {ps : List Str} {sp : Sp} {e : Expr} {es : List Expr} {t : TA} {p pos : Pos} (D : Def X.prog X.w X.K X.mg X.base x ps k sp) (hr : Room k X.A) (hg : Gl X x) (ha : PA X (e :: es) t) (hdb : (x == ("__debug__" : Str)) = false := by decide)
    (he : starEach (e :: es) X.env = (false, eval e X.env) :: starEach es X.env := by rfl) (hpl : (backTo pos (starEach es X.env)).any (·.1) = false := by rfl) : PE X (.Call (.Name x p) (e :: es) [] pos) (tCall sp [] E0 t) := by
  obtain ⟨f, fd, h1, h2, h3, h4⟩ := D.ex
  exact pe_call h1 hr hg h2 h3 h4 .nil pass0 ha hdb he hpl
theorem callDG {X : Cx} {x : Str} {k : Nat} {ps : List Str} {sp : Sp} {e : Expr} {es : List Expr} {t : TA} {p pos : Pos} (D : DefG X.prog X.w X.K X.mg X.base x ps k sp) (hG : X.A.guards = some []) (hr : Room k X.A) (hg : Gl X x) (ha : PA X (e :: es) t) (hdb : (x == ("__debug__" : Str)) = false := by decide)
    (he : starEach (e :: es) X.env = (false, eval e X.env) :: starEach es X.env := by rfl) (hpl : (backTo pos (starEach es X.env)).any (·.1) = false := by rfl) : PE X (.Call (.Name x p) (e :: es) [] pos) (tCall sp [] E0 t) := by
  obtain ⟨f, fd, h1, h2, h3, h4⟩ := D.ex
  exact pe_callG h1 hG hr hg h2 h3 h4 ha hdb he hpl
theorem CallR.or {X : Cx} {f : Value} {r r' : List V → Hp → VK → Prop} (h : CallR X f r) (h' : CallR X f r') : CallR X f (fun xs H Q => r xs H Q ∨ r' xs H Q) := fun pins s σ H xs us Q I rv q => q.elim (h pins s σ H xs us Q I rv) (h' pins s σ H xs us Q I rv)
section
variable {P : Program} {w : World} {K : PySem.W.Frag} {mg : Str → Option Value} {base : Heap} {f : Addr} {fd : FuncData}
theorem scPot : FnScope ["_law_script", "_law_k", "_law_cell"] ["_law_script", "_law_k"] (defScope sPot) := ⟨rfl, rfl, rfl, by decide +kernel, rfl, by decide +kernel, by decide +kernel⟩
theorem ok_pot (N : Nam mg) (F : Fun K "_law_pot" "_law_pot" sPot f fd) : FnOk P w K mg base CX0 1 f fd ["_law_script", "_law_k"] (spPot K) := by
  refine F.ok scPot (fun vs H Q E h => ?_) (fun cdv A outer s H vs Q E hr h => ?_)
  · obtain ⟨a, ns, k, rfl, _⟩ := h
    rfl
  · obtain ⟨a, ns, k, rfl, hS, hk, hl, go⟩ := h
    refine ⟨_, pss_cons (ps_set (i := 2) scPot.nd rfl (Or.inl rfl) (pe_op op_add (pe_op op_mul pe_int (pv 1)) pe_int))
      (pss_cons (ps_if (pt_cmpR op_lt (pv 1) (pe_callB call_len_seq rfl N.len PySem.boot_len (pa_cons (pv 0) pa_nil)) (nomark _))
        (pss_one (ps_set (i := 2) scPot.nd rfl (Or.inl rfl) (pe_callB call_abs rfl N.ab PyProof.Rows.boot_abs (pa_cons (pe_ix ix_list (pv 0) (pv 1) (fun _ _ => rfl)) pa_nil)))) pss_nil)
      (pss_one (ps_ret (pe_lst (pa_cons (pe_callB (call_max2 rfl) rfl N.mx PyProof.Rows.boot_max (pa_cons pe_int (pa_cons (pe_op op_sub (pv 2) (pe_op op_pow pe_int pe_int)) pa_nil)))
        (pa_cons (pe_op op_add (pe_op op_mod (pe_callTy call_int1 rfl N.int_ PyProof.Rows.boot_int (pa_cons (pe_op op_add (pe_op op_add (pe_op op_mul (pe_op op_mod (pe_callTy call_int1 rfl N.int_ PyProof.Rows.boot_int (pa_cons (pv 2) pa_nil)) pe_int) pe_int) (pe_op op_mul pe_int (pv 1))) pe_int) pa_nil)) pe_int) pe_int) pa_nil)))))), ?_⟩
    refine ⟨_, rfl, 43, k, rfl, rfl, .inl ⟨by decide, by decide⟩, _, _, rfl, rfl, ?_⟩
    refine ⟨_, rfl, _, rfl, a, _, rfl, .inl hS, _, _, rfl, rfl, _, rfl, ?_⟩
    have fin : ∀ c : Int, ∃ p q : Int, True := fun c => ⟨0, 0, True.intro⟩
    refine ite2 (fun lt => ?_) (fun _ => ?_)
    · have lt' : (k : Int) < ((ns.map V.int).length : Int) := of_decide_eq_true lt
      rw [List.length_map] at lt'
      have ltn : k < ns.length := by omega
      have hat : atI (ns.map V.int) (k : Int) = some (.int ns[k]) := atI_nat (by rw [List.getElem?_map, List.getElem?_eq_getElem ltn]; rfl)
      refine ⟨_, rfl, _, rfl, a, _, k, _, rfl, rfl, hS, hat, _, rfl, ?_⟩
      refine ⟨_, rfl, 10, 18, rfl, rfl, ⟨by decide, by decide, by decide⟩, _, _, rfl, rfl, 0, _, rfl, ?_⟩
      refine ⟨_, rfl, .inl ⟨_, rfl, _, 2147483563, rfl, rfl, by show (0:Int) < 2147483563; decide, _, 40609, rfl, rfl, .inr ⟨by decide, by decide⟩, _, rfl, 12289, k, rfl, rfl, .inl ⟨by decide, by decide⟩, _, _, rfl, rfl, _, _, rfl, rfl, .inl ⟨_, rfl, _, 2147483629, rfl, rfl, by show (0:Int) < 2147483629; decide, _, _, rfl, rfl, by show 2 ≤ sizeLine; decide, fun p np => ?_⟩⟩⟩
      refine go p _ np (new_same np) ⟨_, _, upd_same, ?_, ?_, ?_⟩
      · split <;> omega
      · have := (small_mod ((if ns[k] < 0 then -ns[k] else ns[k]) % 2147483563 * 40609 + 12289 * ↑k + 31)).1
        omega
      · have := (small_mod ((if ns[k] < 0 then -ns[k] else ns[k]) % 2147483563 * 40609 + 12289 * ↑k + 31)).2
        omega
    · refine ⟨_, rfl, 10, 18, rfl, rfl, ⟨by decide, by decide, by decide⟩, _, _, rfl, rfl, 0, _, rfl, ?_⟩
      refine ⟨_, rfl, .inl ⟨_, rfl, _, 2147483563, rfl, rfl, by show (0:Int) < 2147483563; decide, _, 40609, rfl, rfl, .inr ⟨by decide, by decide⟩, _, rfl, 12289, k, rfl, rfl, .inl ⟨by decide, by decide⟩, _, _, rfl, rfl, _, _, rfl, rfl, .inl ⟨_, rfl, _, 2147483629, rfl, rfl, by show (0:Int) < 2147483629; decide, _, _, rfl, rfl, by show 2 ≤ sizeLine; decide, fun p np => ?_⟩⟩⟩
      refine go p _ np (new_same np) ⟨_, _, upd_same, ?_, ?_, ?_⟩
      · split <;> omega
      · have := (small_mod ((43 * (k : Int) + 7) % 2147483563 * 40609 + 12289 * ↑k + 31)).1
        omega
      · have := (small_mod ((43 * (k : Int) + 7) % 2147483563 * 40609 + 12289 * ↑k + 31)).2
        omega
theorem scDraw : FnScope ["_law_pot_here", "_law_many", "_law_digit"] ["_law_pot_here", "_law_many"] (defScope sDraw) := ⟨rfl, rfl, rfl, by decide +kernel, rfl, by decide +kernel, by decide +kernel⟩
theorem ok_draw (N : Nam mg) (F : Fun K "_law_draw" "_law_draw" sDraw f fd) : FnOk P w K mg base CX0 1 f fd ["_law_pot_here", "_law_many"] spDraw := by
  refine F.ok scDraw (fun vs H Q E h => ?_) (fun cdv A outer s H vs Q E hr h => ?_)
  · obtain ⟨a, m, rfl, _⟩ := h
    rfl
  · obtain ⟨a, m, rfl, ⟨x, y, ha, hx, hy, hz⟩, h0, hm, go⟩ := h
    refine ⟨_, pss_cons (ps_if (pt_cmpR op_gt (pe_ix ix_list (pv 0) pe_int (fun _ _ => rfl)) pe_int (nomark _))
        (pss_cons (ps_asg (pe_callB call_divmod rfl N.dm PyProof.Rows.boot_divmod (pa_cons (pe_ix ix_list (pv 0) pe_int (fun _ _ => rfl)) (pa_cons (pv 1) pa_nil)))
            (pg_tup (by rfl) (pgs_cons (pg_sub (pv 0) pe_int set_list) (pgs_cons (pg_name (i := 2) scDraw.nd rfl (Or.inl rfl)) pgs_nil))))
          (pss_one (ps_ret (pv 2)))) pss_nil)
      (pss_cons (ps_asg (pe_op op_mod (pe_callTy call_int1 rfl N.int_ PyProof.Rows.boot_int (pa_cons (pe_op op_add (pe_op op_mul (pe_ix ix_list (pv 0) pe_int (fun _ _ => rfl)) pe_int) pe_int) pa_nil)) pe_int) (pg_sub (pv 0) pe_int set_list))
      (pss_one (ps_ret (pe_op op_mod (pe_callTy call_int1 rfl N.int_ PyProof.Rows.boot_int (pa_cons (pe_op op_fdiv (pe_op op_mod (pe_callTy call_int1 rfl N.int_ PyProof.Rows.boot_int (pa_cons (pe_op op_mul (pe_ix ix_list (pv 0) pe_int (fun _ _ => rfl)) (pe_ix ix_list (pv 0) pe_int (fun _ _ => rfl))) pa_nil)) pe_int) pe_int) pa_nil)) (pv 1))))), ?_⟩
    refine ⟨_, rfl, a, _, 0, _, rfl, rfl, .inl (.inl ha), rfl, _, _, rfl, rfl, _, rfl, ?_⟩
    refine ite2 (fun gt => ?_) (fun _ => ?_)
    · have gt' : (0 : Int) < x := of_decide_eq_true gt
      refine ⟨_, rfl, a, _, 0, _, rfl, rfl, .inl (.inl ha), rfl, _, rfl, _, _, rfl, ⟨h0, hm⟩, fun t nt => ?_⟩
      have at1 : upd H t (.tup [.int (x / m), .int (x % m)]) a = some (.lst [.int x, .int y]) := (upd_ne (ne_of_none ha nt)).trans ha
      refine ⟨t, _, rfl, .inl (.inl upd_same), rfl, _, _, rfl, ?_⟩
      refine ⟨_, rfl, a, _, 0, 0, rfl, rfl, at1, rfl, _, _, rfl, rfl, ?_⟩
      refine ⟨_, rfl, go (x % m) _ (Int.emod_nonneg _ (by omega)) (Int.emod_lt_of_pos _ h0) ⟨x / m, y, upd_same, Int.ediv_nonneg hx (by omega), hy, hz⟩ fun c o e n => ?_⟩
      rw [upd_ne n]
      exact (upd_ne (ne_of_none e nt)).trans e
    · refine ⟨_, rfl, a, _, 1, _, rfl, rfl, .inl (.inl ha), rfl, _, 47297, rfl, rfl, .inr ⟨by decide, by decide⟩, _, _, rfl, rfl, .inl ⟨_, rfl, _, 2147483629, rfl, rfl, by show (0:Int) < 2147483629; decide, ?_⟩⟩
      have sm := small_mod (y * 47297 + 23011)
      refine ⟨_, rfl, a, _, 1, 1, rfl, rfl, ha, rfl, ?_⟩
      have at2 : upd H a (.lst ([V.int x, V.int y].set 1 (.int ((y * 47297 + 23011) % 2147483629)))) a = some (.lst [.int x, .int ((y * 47297 + 23011) % 2147483629)]) := upd_same
      refine ⟨_, rfl, a, _, 1, _, rfl, rfl, .inl (.inl at2), rfl, _, rfl, a, _, 1, _, rfl, rfl, .inl (.inl at2), rfl, _, _, rfl, rfl, .inl ⟨by omega, by omega⟩, .inl ⟨_, rfl, _, 2147483587, rfl, rfl, by show (0:Int) < 2147483587; decide, _, 13, rfl, rfl, ⟨by decide, by decide⟩, .inl ⟨_, rfl, _, rfl, _, _, rfl, rfl, h0, ?_⟩⟩⟩
      exact go _ _ (Int.emod_nonneg _ (by omega)) (Int.emod_lt_of_pos _ h0) ⟨x, ((y * 47297 + 23011) % 2147483629), at2, hx, by omega, by omega⟩ fun c o e n => (upd_ne n).trans e
theorem scChoice : FnScope ["_law_pot_here", "_law_some"] ["_law_pot_here", "_law_some"] (defScope sChoice) := ⟨rfl, rfl, rfl, by decide +kernel, rfl, by decide +kernel, by decide +kernel⟩
theorem ok_choice (N : Nam mg) (DD : Def P w K mg base "_law_draw" ["_law_pot_here", "_law_many"] 1 spDraw) (F : Fun K "_law_choice" "_law_choice" sChoice f fd) : FnOk P w K mg base CX0 2 f fd ["_law_pot_here", "_law_some"] spChoice := by
  refine F.ok scChoice (fun vs H Q E h => ?_) (fun cdv A outer s H vs Q E hr h => ?_)
  · obtain ⟨a, y, rfl, _⟩ := h
    rfl
  · obtain ⟨a, y, rfl, hp, h⟩ := h
    refine ⟨_, pss_one (ps_ret (pe_ix (ix_list.or ix_str) (pv 1) (callD DD hr rfl (pa_cons (pv 0) (pa_cons (pe_callB (CallR.or call_len_seq call_len_str) rfl N.len PySem.boot_len (pa_cons (pv 1) pa_nil)) pa_nil))) (fun _ _ => rfl))), ?_⟩
    rcases h with ⟨l, xs, rfl, hl, ne, pos, small, go⟩ | ⟨z, rfl, pos, small, go⟩
    · refine ⟨_, rfl, _, rfl, _, rfl, .inl ⟨l, _, rfl, .inl (.inl (.inl hl)), a, _, rfl, hp, by omega, by omega, fun d H' d0 dm pa sb => ?_⟩⟩
      have hl' := sb _ _ hl ne
      obtain ⟨n, rfl⟩ := Int.eq_ofNat_of_zero_le d0
      have lt : n < xs.length := by omega
      exact .inl ⟨l, xs, _, xs[n], rfl, rfl, .inl (.inl hl'), atI_nat (List.getElem?_eq_getElem lt), go _ (List.getElem_mem lt) _ pa sb⟩
    · refine ⟨_, rfl, _, rfl, _, rfl, .inr ⟨_, rfl, ?_, a, _, rfl, hp, by omega, by omega, fun d H' d0 dm pa sb => ?_⟩⟩
      · exact Nat.le_trans small (by decide)
      · obtain ⟨n, rfl⟩ := Int.eq_ofNat_of_zero_le d0
        have lt : n < z.cps.toList.length := by
          rw [Array.length_toList]
          have : z.length = z.cps.size := rfl
          omega
        exact .inr ⟨z, _, z.cps.toList[n], rfl, rfl, Nat.le_trans small (by decide), atI_nat (List.getElem?_eq_getElem lt), go _ (List.getElem_mem lt) _ pa sb⟩
end
end E10

set_option Elab.async false
set_option linter.all false
set_option maxRecDepth 100000
set_option maxHeartbeats 8000000
namespace E10
open L2 PySem PySem.Spec PyProof.Rows
/-- [.. for .. in ..] whose items are told ahead, nothing tracked changed -/
theorem lc_map {J : It} {n : Nat} {G : Hp → Prop} {Y : Nat → Hp → V → Hp → Prop} (w : Walk J n G Y) (fz : Nat → V) {g : TG} {te : TE} {vs : List Nat} {σ : L2.St} {H1 : Hp} {D : Addr} {Qd : Hp → Prop} (nD : H1 D = none) (small : n ≤ 1000)
    (hG : ∀ H', Same H1 H' → G H') (hY : ∀ i H x H', Y i H x H' → Same H H')
    (turn : ∀ i x H' H'' (R : V → Hp → Prop), i < n → Same H1 H' → Same H1 H'' → Y i H' x H'' → (∀ H3, Same H'' H3 → R (fz i) H3) → g x (wipe σ vs) H'' fun σ2 H2 => wipe σ2 vs = wipe σ vs ∧ te σ2 H2 R)
    (done : ∀ H3, Same H1 H3 → H3 D = some (.lst ((List.range n).map fz)) → Qd H3) :
    ∃ W : Nat → Nat → Hp → Prop, (∃ m, W 0 m (upd H1 D (.lst []))) ∧ ∀ i m H, W i m H →
      (J.stop i H ∧ Qd H) ∨ (J.go i H ∧ ∃ Nx : Hp → Prop, (∀ H', Nx H' → ∃ m', m' < m ∧ W (i + 1) m' H') ∧ ∀ x H', J.yld i H x H' → g x (wipe σ vs) H' fun σ2 H2 => wipe σ2 vs = wipe σ vs ∧ tYes σ2 H2 fun b H3 =>
        if b = true then te σ2 H3 fun y H4 => ∃ acc, H4 D = some (.lst acc) ∧ acc.length < sizeLine ∧ Nx (upd H4 D (.lst (acc ++ [y]))) else Nx H3) := by
  refine lc_it w (fun i H' => Same H1 H' ∧ H' D = some (.lst ((List.range i).map fz))) ⟨new_same nD, upd_same⟩ (fun i H _ h => hG H h.1) ?_ (fun H' h => done H' h.1 h.2)
  rintro i x H' H'' lt ⟨sm, hD⟩ y
  have s2 := hY i H' x H'' y
  exact turn i x H' H'' (fun y H4 => ∃ acc, H4 D = some (.lst acc) ∧ acc.length < sizeLine ∧ (Same H1 (upd H4 D (.lst (acc ++ [y]))) ∧ upd H4 D (.lst (acc ++ [y])) D = some (.lst ((List.range (i + 1)).map fz)))) lt sm (sm.trans s2) y fun H3 s3 => by
    refine ⟨_, s3 _ _ (s2 _ _ hD), by rw [List.length_map, List.length_range]; exact Nat.lt_of_lt_of_le (Nat.lt_of_lt_of_le lt small) (by decide), fun c u e => ?_, ?_⟩
    · rw [upd_ne (ne_of_none e nD)]
      exact s3 _ _ (s2 _ _ (sm c u e))
    · rw [upd_same, List.range_succ, List.map_append]
      rfl
theorem all_range (n : Nat) : ((List.range n).map fun _ => V.bl true) = (List.replicate n true).map V.bl := by
  induction n with
  | zero => rfl
  | succ n ih => rw [List.range_succ, List.map_append, ih, List.replicate_succ', List.map_append]; rfl
theorem all_true (n : Nat) : (List.replicate n true).all id = true := by
  rw [List.all_eq_true]
  intro x h
  rw [(List.mem_replicate.mp h).2]
  rfl
theorem any_false (n : Nat) : (List.replicate n false).any id = false := by
  rw [List.any_eq_false]
  intro x h
  rw [(List.mem_replicate.mp h).2]
  exact Bool.false_ne_true
theorem none_range (n : Nat) : ((List.range n).map fun _ => V.bl false) = (List.replicate n false).map V.bl := by
  induction n with
  | zero => rfl
  | succ n ih => rw [List.range_succ, List.map_append, ih, List.replicate_succ', List.map_append]; rfl
theorem boot_all' : bootBuiltins "all" = some (.builtin "all") := by decide +kernel
theorem boot_any' : bootBuiltins "any" = some (.builtin "any") := by decide +kernel
theorem boot_isi : bootBuiltins "isinstance" = some (.builtin "isinstance") := by decide +kernel
theorem boot_str' : bootBuiltins "str" = some (.type "str") := by decide +kernel
theorem boot_int' : bootBuiltins "int" = some (.type "int") := by decide +kernel
theorem boot_bool' : bootBuiltins "bool" = some (.type "bool") := by decide +kernel
theorem boot_dict' : bootBuiltins "dict" = some (.type "dict") := by decide +kernel
theorem pbT {X : Cx} {x : Str} {n : String} {pos : Pos} (hg : Gl X x) (hm : X.mg x = none) (hv : bootBuiltins x = some (.type n)) (hn : x ≠ "__name__" := by decide) (hd : (x == ("__debug__" : Str)) = false := by decide) : PE X (.Name x pos) (tC (.ty n)) :=
  pe_bltn hg hm hv rfl hn hd
theorem pgI {X : Cx} {x : Str} {i : Int} {pos : Pos} (hg : Gl X x) (hm : ∃ t, X.mg x = some (.int i t)) (hd : (x == ("__debug__" : Str)) = false := by decide) : PE X (.Name x pos) (tC (.int i)) := by
  obtain ⟨t, h⟩ := hm
  exact pe_glob hg h ⟨t, rfl⟩ hd
theorem pgC {X : Cx} {x : Str} {a : Addr} {pos : Pos} (hg : Gl X x) (hm : X.mg x = some (.ref a)) (hd : (x == ("__debug__" : Str)) = false := by decide) : PE X (.Name x pos) (tC (.ref a)) := pe_glob hg hm rfl hd
/-- a name -/
structure Nm (z : Str) : Prop where
  pos : 0 < z.length
  le : z.length ≤ 8
  abc : ∀ c ∈ z.cps.toList, 97 ≤ c ∧ c ≤ 122
theorem lt_one {a b : Nat} (h : b ≤ a) : decide ([a] < [b]) = false := by
  refine decide_eq_false fun q => ?_
  rcases List.cons_lt_cons_iff.mp q with q | ⟨_, q⟩
  · omega
  · exact absurd q (by simp)
section
variable {P : Program} {w : World} {K : PySem.W.Frag} {mg : Str → Option Value} {base : Heap} {f : Addr} {fd : FuncData}
def spName : Sp := fun vs H Q _ => ∃ z : Str, vs = [.str z] ∧ Nm z ∧ ∀ H', Same H H' → Q (.bl true) H'
theorem scName : FnScope ["value", "letter"] ["value"] (defScope (top 13)) := ⟨rfl, rfl, rfl, by decide +kernel, rfl, by decide +kernel, by decide +kernel⟩
theorem ok_name (N : Nam mg) (F : Fun K "is_name" "is_name" (top 13) f fd) : FnOk P w K mg base CX0 1 f fd ["value"] spName := by
  refine F.ok scName (fun vs H Q E h => ?_) (fun cdv A outer s H vs Q E hr h => ?_)
  · obtain ⟨z, rfl, _⟩ := h
    rfl
  · obtain ⟨z, rfl, nm, go⟩ := h
    refine ⟨_, pss_cons (ps_if (PW.pt (pw_or (pt_not (pt_val (pe_callB call_isi rfl N.isi boot_isi (pa_cons (pv 0) (pa_cons (pbT rfl N.str_ boot_str') pa_nil)))))
          (pw_or1 (pt_not (pt_chain op_le op_le pe_int (pe_callB call_len_str rfl N.len PySem.boot_len (pa_cons (pv 0) pa_nil)) (pgI rfl N.ml)))))) (pss_one (ps_ret pe_bl)) pss_nil)
      (pss_one (ps_ret (pe_callB (cr_all rfl) rfl N.all_ boot_all' (pa_cons (pe_lc (own := [("letter", 1)]) (g := gName 1) (tt := tYes) rfl scName.nd (pi_str (pv 0))
        (blkOk_by (own := [("letter", 1)]) (N := ["value", "letter"]) (sc := defScope (top 13)) (by decide +kernel)) (fun _ _ _ _ _ => pg_name (i := 1) scName.nd rfl (Or.inl rfl)) (fun _ _ _ _ _ => pts_nil)
        (fun _ _ _ _ _ => pe_chain op_le_str op_le_str pe_str (pv 1) pe_str)) pa_nil)))), ?_⟩
    refine ⟨_, rfl, _, _, _, _, _, rfl, .ty _, .base (.str _), kit_ty (b := "str") (r := true) (by decide +kernel), true, rfl, ?_⟩
    refine ⟨_, rfl, _, rfl, Nat.le_trans nm.le (by decide), _, _, rfl, rfl, _, rfl, ?_⟩
    rw [decide_eq_true (show (1 : Int) ≤ (z.length : Int) by have := nm.pos; omega)]
    refine ⟨_, _, rfl, rfl, _, rfl, ?_⟩
    rw [decide_eq_true (show (z.length : Int) ≤ 8 by have := nm.le; omega)]
    refine ⟨_, rfl, _, rfl, fun D nD => ?_⟩
    refine lc_map walk_str (fun _ => .bl true) nD (Nat.le_trans nm.le (by decide)) (fun _ _ => True.intro) (fun _ _ _ _ y => by rw [y.1]; exact Same.refl _) ?_ ?_
    · rintro i x H' H'' R lt sm _ ⟨rfl, c, hc, rfl⟩ go2
      refine ⟨rfl, ?_⟩
      have hm : c ∈ z.cps.toList := by
        rw [← Array.getElem?_toList] at hc
        exact List.mem_of_getElem? hc
      obtain ⟨c1, c2⟩ := nm.abc c hm
      refine ⟨_, rfl, _, _, rfl, rfl, _, rfl, ?_⟩
      rw [show (!decide ((⟨#[c]⟩ : Str).cps.toList < ("a" : Str).cps.toList)) = true by
        rw [show decide ((⟨#[c]⟩ : Str).cps.toList < ("a" : Str).cps.toList) = false from lt_one c1]; rfl]
      refine ⟨_, _, rfl, rfl, ?_⟩
      rw [show (!decide (("z" : Str).cps.toList < (⟨#[c]⟩ : Str).cps.toList)) = true by
        rw [show decide (("z" : Str).cps.toList < (⟨#[c]⟩ : Str).cps.toList) = false from lt_one c2]; rfl]
      exact go2 _ (Same.refl _)
    · intro H3 s3 hD
      refine ⟨D, List.replicate z.cps.size true, rfl, ?_, ?_⟩
      · rw [← all_range]
        exact .inl (.inl hD)
      · rw [all_true]
        exact go H3 s3
end
end E10

set_option Elab.async false
set_option linter.all false
set_option maxRecDepth 100000
set_option maxHeartbeats 8000000
namespace E10
open L2 PySem PySem.Spec PyProof.Rows
theorem locked {H H' : Hp} {d : Addr} {od : Obj} {u : HO} (h : H d = some u) (s : Same (upd H d (.frz od u)) H') : Same H (upd H' d u) := fun b o e => by
  by_cases q : b = d
  · rw [q] at e ⊢
    rw [upd_same]
    exact h.symm.trans e
  · rw [upd_ne q]
    exact s b o ((upd_ne q).trans e)
/-- at d stands a dict from names to ints -/
def NamesAt (H : Hp) (d : Addr) (kvs : List (Key × V)) : Prop := H d = some (.dK kvs) ∧ 0 < kvs.length ∧ kvs.length ≤ 40 ∧ ∀ p ∈ kvs, ∃ (z : Str) (i : Int), p = (.inr z, .int i) ∧ Nm z
section
variable {P : Program} {w : World} {K : PySem.W.Frag} {mg : Str → Option Value} {base : Heap} {f : Addr} {fd : FuncData}
def spInteger : Sp := fun vs H Q _ => ∃ i : Int, vs = [.int i] ∧ Q (.bl true) H
theorem scInteger : FnScope ["value"] ["value"] (defScope (top 14)) := ⟨rfl, rfl, rfl, by decide +kernel, rfl, by decide +kernel, by decide +kernel⟩
theorem ok_integer (N : Nam mg) (F : Fun K "is_integer" "is_integer" (top 14) f fd) : FnOk P w K mg base CX0 1 f fd ["value"] spInteger := by
  refine F.ok scInteger (fun vs H Q E h => ?_) (fun cdv A outer s H vs Q E hr h => ?_)
  · obtain ⟨z, rfl, _⟩ := h
    rfl
  · obtain ⟨i, rfl, go⟩ := h
    refine ⟨_, pss_one (ps_ret (pe_and (pe_callB call_isi rfl N.isi boot_isi (pa_cons (pv 0) (pa_cons (pbT rfl N.int_ boot_int') pa_nil)))
      (pe_one (pe_not (pe_callB call_isi rfl N.isi boot_isi (pa_cons (pv 0) (pa_cons (pbT rfl N.bool_ boot_bool') pa_nil))))))), ?_⟩
    refine ⟨_, rfl, _, _, _, _, _, rfl, .ty _, .base (.int _), kit_ty (b := "int") (r := true) (by decide +kernel), true, rfl, ?_⟩
    refine ⟨_, rfl, _, _, _, _, _, rfl, .ty _, .base (.int _), kit_ty (b := "bool") (r := false) (by decide +kernel), false, rfl, go⟩
def spHas : Sp := fun vs H Q _ => ∃ (d : Addr) (kvs : List (Key × V)), vs = [.ref d] ∧ NamesAt H d kvs ∧ ∀ H', Same H H' → Q (.bl true) H'
theorem scHas : FnScope ["value", "key"] ["value"] (defScope (top 16)) := ⟨rfl, rfl, rfl, by decide +kernel, rfl, by decide +kernel, by decide +kernel⟩
theorem ok_has (N : Nam mg) (DN : Def P w K mg base "is_name" ["value"] 1 spName) (F : Fun K "has_names" "has_names" (top 16) f fd) : FnOk P w K mg base CX0 2 f fd ["value"] spHas := by
  refine F.ok scHas (fun vs H Q E h => ?_) (fun cdv A outer s H vs Q E hr h => ?_)
  · obtain ⟨d, kvs, rfl, _⟩ := h
    rfl
  · obtain ⟨d, kvs, rfl, ⟨hd, pos, le, all⟩, go⟩ := h
    refine ⟨_, pss_one (ps_ret (pe_and (pe_callB call_isi rfl N.isi boot_isi (pa_cons (pv 0) (pa_cons (pbT rfl N.dct boot_dict') pa_nil)))
      (pe_and (pe_cmpR op_gt (pe_callB call_lenD rfl N.len PySem.boot_len (pa_cons (pv 0) pa_nil)) pe_int (nomark _))
      (pe_one (pe_lock (pe_callB (cr_all rfl) rfl N.all_ boot_all' (pa_cons (pe_lc (own := [("key", 1)]) (g := gName 1) (tt := tYes) rfl scHas.nd (pi_keys (pv 0))
        (blkOk_by (own := [("key", 1)]) (N := ["value", "key"]) (sc := defScope (top 16)) (by decide +kernel)) (fun _ _ _ _ _ => pg_name (i := 1) scHas.nd rfl (Or.inl rfl)) (fun _ _ _ _ _ => pts_nil)
        (fun _ _ _ _ _ => callD DN hr rfl (pa_cons (pv 1) pa_nil))) pa_nil))))))), ?_⟩
    refine ⟨_, rfl, _, _, _, _, _, rfl, .ty _, .base (.dK hd), kit_ty (b := "dict") (r := true) (by decide +kernel), true, rfl, ?_⟩
    refine ⟨_, rfl, d, kvs, rfl, hd, _, _, rfl, rfl, _, rfl, ?_⟩
    rw [decide_eq_true (show ((kvs.length : Nat) : Int) > 0 by omega)]
    refine ⟨d, _, hd, True.intro, fun od => ?_⟩
    have hF : upd H d (.frz od (.dK kvs)) d = some (.frz od (.dK kvs)) := upd_same
    refine ⟨_, rfl, d, od, rfl, .inl ⟨kvs, hF, fun D nD => ?_⟩⟩
    refine lc_map walk_keys (fun _ => .bl true) nD (by omega) (fun H' s => s _ _ hF) (fun _ _ _ _ y => by rw [y.1]; exact Same.refl _) ?_ ?_
    · rintro i x H' H'' R lt sm _ ⟨rfl, k, v, hk, rfl⟩ go2
      refine ⟨rfl, ?_⟩
      obtain ⟨z, n, e, nm⟩ := all _ (List.mem_of_getElem? hk)
      cases e
      exact ⟨_, rfl, z, rfl, nm, fun H3 s3 => go2 H3 s3⟩
    · intro H3 s3 hD
      refine ⟨D, List.replicate kvs.length true, rfl, ?_, s3 _ _ hF, ?_⟩
      · rw [← all_range]
        exact .inl (.inl hD)
      · rw [all_true]
        exact go _ (locked hd s3)
theorem scTimes : FnScope ["value", "time"] ["value"] (defScope (top 17)) := ⟨rfl, rfl, rfl, by decide +kernel, rfl, by decide +kernel, by decide +kernel⟩
theorem ok_times (N : Nam mg) (DI : Def P w K mg base "is_integer" ["value"] 1 spInteger) (DH : Def P w K mg base "has_names" ["value"] 2 spHas) (F : Fun K "is_times" "is_times" (top 17) f fd) : FnOk P w K mg base CX0 3 f fd ["value"] spHas := by
  refine F.ok scTimes (fun vs H Q E h => ?_) (fun cdv A outer s H vs Q E hr h => ?_)
  · obtain ⟨d, kvs, rfl, _⟩ := h
    rfl
  · obtain ⟨d, kvs, rfl, ⟨hd, pos, le, all⟩, go⟩ := h
    refine ⟨_, pss_one (ps_ret (pe_and (callD DH hr rfl (pa_cons (pv 0) pa_nil))
      (pe_one (pe_lock (pe_callB (cr_all rfl) rfl N.all_ boot_all' (pa_cons (pe_lc (own := [("time", 1)]) (g := gName 1) (tt := tYes) rfl scTimes.nd (pi_values (pv 0))
        (blkOk_by (own := [("time", 1)]) (N := ["value", "time"]) (sc := defScope (top 17)) (by decide +kernel)) (fun _ _ _ _ _ => pg_name (i := 1) scTimes.nd rfl (Or.inl rfl)) (fun _ _ _ _ _ => pts_nil)
        (fun _ _ _ _ _ => callD DI (hr.mono (by decide)) rfl (pa_cons (pv 1) pa_nil))) pa_nil)))))), ?_⟩
    refine ⟨_, rfl, d, kvs, rfl, ⟨hd, pos, le, all⟩, fun H1 s1 => ⟨true, rfl, ?_⟩⟩
    have hd1 := s1 _ _ hd
    refine ⟨d, _, hd1, True.intro, fun od => ?_⟩
    have hF : upd H1 d (.frz od (.dK kvs)) d = some (.frz od (.dK kvs)) := upd_same
    refine ⟨_, rfl, d, od, kvs, rfl, hF, fun D nD => ?_⟩
    refine lc_map walk_values (fun _ => .bl true) nD (by omega) (fun H' s => s _ _ hF) (fun _ _ _ _ y => by rw [y.1]; exact Same.refl _) ?_ ?_
    · rintro i x H' H'' R lt sm _ ⟨rfl, k, hk⟩ go2
      refine ⟨rfl, ?_⟩
      obtain ⟨z, n, e, nm⟩ := all _ (List.mem_of_getElem? hk)
      cases e
      exact ⟨_, rfl, n, rfl, go2 _ (Same.refl _)⟩
    · intro H3 s3 hD
      refine ⟨D, List.replicate kvs.length true, rfl, ?_, s3 _ _ hF, ?_⟩
      · rw [← all_range]
        exact .inl (.inl hD)
      · rw [all_true]
        exact go _ (s1.trans (locked hd1 s3))
def spShift : Sp := fun vs H Q _ => ∃ i : Int, vs = [.int i] ∧ Q .non H
theorem scShift : FnScope ["value"] ["value"] (defScope (top 19)) := ⟨rfl, rfl, rfl, by decide +kernel, rfl, by decide +kernel, by decide +kernel⟩
theorem ok_shift (DI : Def P w K mg base "is_integer" ["value"] 1 spInteger) (F : Fun K "check_shift" "check_shift" (top 19) f fd) : FnOk P w K mg base CX0 2 f fd ["value"] spShift := by
  refine F.ok scShift (fun vs H Q E h => ?_) (fun cdv A outer s H vs Q E hr h => ?_)
  · obtain ⟨z, rfl, _⟩ := h
    rfl
  · obtain ⟨i, rfl, go⟩ := h
    refine ⟨_, pss_one (ps_if (pt_not (pt_val (callD DI hr rfl (pa_cons (pv 0) pa_nil)))) (pss_one ps_never) pss_nil), ?_⟩
    exact ⟨_, rfl, i, rfl, true, rfl, go⟩
/-- the value, a dict from names to ints, has all of the moments -/
def spCheck (K : PySem.W.Frag) : Sp := fun vs H Q _ => ∃ (d t : Addr) (kvs : List (Key × V)) (zs : List Str), vs = [.ref d, .ref t] ∧ NamesAt H d kvs ∧ SqT K H t (zs.map V.str) ∧ zs.length ≤ 40 ∧ (∀ z ∈ zs, (valV kvs (.inr z)).isSome = true) ∧ ∀ H', Same H H' → Q .non H'
theorem SqT.sm {H H' : Hp} {a : Addr} {xs : List V} (s : Same H H') (h : SqT K H a xs) : SqT K H' a xs := by
  rcases h with (e | ⟨o, e⟩) | h
  · exact .inl (.inl (s _ _ e))
  · exact .inl (.inr ⟨o, s _ _ e⟩)
  · exact .inr h
theorem scCheck : FnScope ["value", "moments", "moment"] ["value", "moments"] (defScope (top 20)) := ⟨rfl, rfl, rfl, by decide +kernel, rfl, by decide +kernel, by decide +kernel⟩
theorem ok_check (N : Nam mg) (DT : Def P w K mg base "is_times" ["value"] 3 spHas) (F : Fun K "check_times" "check_times" (top 20) f fd) : FnOk P w K mg base CX0 4 f fd ["value", "moments"] (spCheck K) := by
  refine F.ok scCheck (fun vs H Q E h => ?_) (fun cdv A outer s H vs Q E hr h => ?_)
  · obtain ⟨_, _, _, _, rfl, _⟩ := h
    rfl
  · obtain ⟨d, t, kvs, zs, rfl, na, ht, small, has, go⟩ := h
    have hu := hu_of hr
    refine ⟨_, pss_one (ps_if (PW.pt (pw_or (pt_not (pt_val (callD DT hr rfl (pa_cons (pv 0) pa_nil)))) (pw_or1 (pt_not (pt_val (pe_callB (cr_all rfl) rfl N.all_ boot_all' (pa_cons (pe_lc (own := [("moment", 2)]) (g := gName 2) (tt := tYes) rfl scCheck.nd (pi_tup (pv 1))
        (blkOk_by (own := [("moment", 2)]) (N := ["value", "moments", "moment"]) (sc := defScope (top 20)) (by decide +kernel)) (fun _ _ _ _ _ => pg_name (i := 2) scCheck.nd rfl (Or.inl rfl)) (fun _ _ _ _ _ => pts_nil)
        (fun _ _ _ _ _ => pe_cmp (pc_din hu (pv 2) (pv 0)) rfl)) pa_nil))))))) (pss_one ps_never) pss_nil), ?_⟩
    refine ⟨_, rfl, d, kvs, rfl, na, fun H1 s1 => ⟨true, rfl, ?_⟩⟩
    have hd1 := s1 _ _ na.1
    have ht1 := SqT.sm s1 ht
    refine ⟨_, rfl, t, rfl, ⟨_, ht1⟩, fun D nD => ?_⟩
    refine lc_map (walk_tup (xs := zs.map V.str)) (fun _ => .bl true) nD (by rw [List.length_map]; omega) (fun H' s => SqT.sm s ht1) (fun _ _ _ _ y => by rw [y.1]; exact Same.refl _) ?_ ?_
    · rintro i x H' H'' R lt sm _ ⟨rfl, hx⟩ go2
      refine ⟨rfl, ?_⟩
      obtain ⟨z, hz, rfl⟩ := List.mem_map.mp (List.mem_of_getElem? hx)
      refine ⟨_, rfl, _, rfl, d, _, rfl, DGet.k (k := Sum.inr z) (sm _ _ hd1), ?_⟩
      rw [has z hz]
      exact go2 _ (Same.refl _)
    · intro H3 s3 hD
      refine ⟨D, List.replicate (zs.map V.str).length true, rfl, ?_, ?_⟩
      · rw [← all_range]
        exact .inl (.inl hD)
      · rw [all_true]
        exact ⟨true, rfl, go _ (s1.trans s3)⟩
end
end E10

set_option Elab.async false
set_option linter.all false
set_option maxRecDepth 100000
set_option maxHeartbeats 8000000
namespace E10
open L2 PySem PySem.Spec PyProof.Rows
/-! ### Term -/
abbrev mT (j : Nat) : Stmt := match top 33 with
  | .ClassDef (body := b) .. => b.getD j (.Pass ⟨0, 0, 0, 0⟩)
  | _ => .Pass ⟨0, 0, 0, 0⟩
structure Own (K : PySem.W.Frag) (C : Addr) : Prop where
  cl : Cls K C
  ca : PySem.W.findIn K (.ref C) "__class__" = some (some (.builtin "object.__class__"))
  sp : PySem.W.specialIn K (.builtin "object.__class__") "__get__" = some (some (.builtin "getset_descriptor.__get__"))
  tk : PySem.W.takesIn K (.builtin "object.__class__") = some true
  mo : PySem.W.mroIn K C (.type "object") = some true
  su : PySem.W.subIn K (.ref C) (.type "object") = some true
  me : PySem.W.kitOne K (.ref C) (.ref C) = some true
  first : PySem.W.selfFirst K C = true
theorem Own.ty {K : PySem.W.Frag} {C a dx : Addr} {H : Hp} {fs : List (Str × V)} (O : Own K C) (e : H a = some (.ins C dx fs)) : TyX K H (.ref a) (.ref C) := .base (.ins e O.cl O.ca O.sp O.tk O.mo)
/-- a Term of this moment with this shift -/
def TermAt (cT : Addr) (H : Hp) (a : Addr) (z : Str) (i : Int) : Prop := ∃ dx, H a = some (.ins cT dx [("_moment", .str z), ("_shift", .int i)])
theorem TermAt.sm {cT : Addr} {H H' : Hp} {a : Addr} {z : Str} {i : Int} (s : Same H H') (h : TermAt cT H a z i) : TermAt cT H' a z i := by
  obtain ⟨dx, e⟩ := h
  exact ⟨dx, s _ _ e⟩
/-- what Term has of its own -/
structure TermF (K : PySem.W.Frag) (cT : Addr) : Prop where
  own : Own K cT
  nM : NoAttr K cT "_moment"
  nS : NoAttr K cT "_shift"
def ttext (z : Str) (i : Int) : Str := if i = 0 then z else z ++ plusText i
def rtext (z : Str) (i : Int) : Str := (((("Term(" : String) : Str) ++ reprText z) ++ ((", " : String) : Str) ++ Str.ofString (toString i)) ++ ((")" : String) : Str)
def Sm (i : Int) : Prop := i.natAbs < 10 ^ 66
section
variable {P : Program} {w : World} {K : PySem.W.Frag} {mg : Str → Option Value} {base : Heap} {f cT : Addr} {fd : FuncData}
def spInit (cT : Addr) : Sp := fun vs H Q _ => ∃ (x dx : Addr) (z : Str) (i : Int), vs = [.ref x, .str z, .int i] ∧ Nm z ∧ H x = some (.ins cT dx []) ∧ ∀ H', SameB x H H' → TermAt cT H' x z i → Q .non H'
theorem scInit : FnScope ["self", "moment", "shift"] ["self", "moment", "shift"] (defScope (mT 0)) := ⟨rfl, rfl, rfl, by decide +kernel, rfl, by decide +kernel, by decide +kernel⟩
theorem ok_init (T : TermF K cT) (DN : Def P w K mg base "is_name" ["value"] 1 spName) (DS : Def P w K mg base "check_shift" ["value"] 2 spShift) (F : FunD K "__init__" "Term.__init__" (defArgs (mT 0)) (defBody (mT 0)) (defScope (mT 0)) [.int 0] [] f fd) :
    FnOk P w K mg base CX0 3 f fd ["self", "moment", "shift"] (spInit cT) := by
  refine F.ok scInit (fun vs H Q E h => ?_) (fun cdv A outer s H vs Q E hr h => ?_)
  · obtain ⟨_, _, _, _, rfl, _⟩ := h
    rfl
  · obtain ⟨x, dx, z, i, rfl, nm, hx, go⟩ := h
    refine ⟨_, pss_cons (ps_if (pt_not (pt_val (callD DN (hr.mono (by decide)) rfl (pa_cons (pv 1) pa_nil)))) (pss_one ps_never) pss_nil)
      (pss_cons (ps_expr (callD DS hr rfl (pa_cons (pv 2) pa_nil)))
      (pss_cons (ps_fld (pv 0) (pv 1) rfl) (pss_one (ps_fld (pv 0) (pv 2) rfl)))), ?_⟩
    refine ⟨_, rfl, z, rfl, nm, fun H1 s1 => ⟨true, rfl, ?_⟩⟩
    have h1 := s1 _ _ hx
    refine ⟨_, rfl, i, rfl, ?_⟩
    refine ⟨_, rfl, _, rfl, x, cT, dx, _, rfl, h1, T.own.cl, T.nM, by decide, ?_⟩
    refine ⟨_, rfl, _, rfl, x, cT, dx, _, rfl, upd_same, T.own.cl, T.nS, by show 1 < 1000; decide, ?_⟩
    refine go _ (fun b o e n => ?_) ⟨dx, upd_same⟩
    rw [upd_ne n, upd_ne n]
    exact s1 _ _ e
/-- self._moment, self._shift of a Term -/
def spGet (cT : Addr) (v : Str → Int → V) : Sp := fun vs H Q _ => ∃ (a : Addr) (z : Str) (i : Int), vs = [.ref a] ∧ TermAt cT H a z i ∧ Q (v z i) H
theorem scGet1 : FnScope ["self"] ["self"] (defScope (mT 1)) := ⟨rfl, rfl, rfl, by decide +kernel, rfl, by decide +kernel, by decide +kernel⟩
theorem scGet2 : FnScope ["self"] ["self"] (defScope (mT 2)) := ⟨rfl, rfl, rfl, by decide +kernel, rfl, by decide +kernel, by decide +kernel⟩
theorem ok_moment (T : TermF K cT) (F : Fun K "moment" "Term.moment" (mT 1) f fd) : FnOk P w K mg base CX0 1 f fd ["self"] (spGet cT fun z _ => .str z) := by
  refine F.ok scGet1 (fun vs H Q E h => ?_) (fun cdv A outer s H vs Q E hr h => ?_)
  · obtain ⟨_, _, _, rfl, _⟩ := h
    rfl
  · obtain ⟨a, z, i, rfl, ⟨dx, ha⟩, go⟩ := h
    exact ⟨_, pss_one (ps_ret (pe_fld (pv 0) rfl)), ⟨_, rfl, a, cT, dx, _, _, rfl, ha, T.own.cl, T.nM, rfl, go⟩⟩
theorem ok_shiftP (T : TermF K cT) (F : Fun K "shift" "Term.shift" (mT 2) f fd) : FnOk P w K mg base CX0 1 f fd ["self"] (spGet cT fun _ i => .int i) := by
  refine F.ok scGet2 (fun vs H Q E h => ?_) (fun cdv A outer s H vs Q E hr h => ?_)
  · obtain ⟨_, _, _, rfl, _⟩ := h
    rfl
  · obtain ⟨a, z, i, rfl, ⟨dx, ha⟩, go⟩ := h
    exact ⟨_, pss_one (ps_ret (pe_fld (pv 0) rfl)), ⟨_, rfl, a, cT, dx, _, _, rfl, ha, T.own.cl, T.nS, rfl, go⟩⟩
/-- a Term, called with times -/
def spCall (cT : Addr) : Sp := fun vs H Q _ => ∃ (a d : Addr) (z : Str) (i n : Int) (kvs : List (Key × V)), vs = [.ref a, .ref d] ∧ TermAt cT H a z i ∧ NamesAt H d kvs ∧ valV kvs (.inr z) = some (.int n) ∧ ∀ H', Same H H' → Q (.int (n + i)) H'
theorem scCall : FnScope ["self", "times"] ["self", "times"] (defScope (mT 4)) := ⟨rfl, rfl, rfl, by decide +kernel, rfl, by decide +kernel, by decide +kernel⟩
theorem ok_call (T : TermF K cT) (DC : Def P w K mg base "check_times" ["value", "moments"] 4 (spCheck K)) (F : Fun K "__call__" "Term.__call__" (mT 4) f fd) : FnOk P w K mg base CX0 5 f fd ["self", "times"] (spCall cT) := by
  refine F.ok scCall (fun vs H Q E h => ?_) (fun cdv A outer s H vs Q E hr h => ?_)
  · obtain ⟨_, _, _, _, _, _, rfl, _⟩ := h
    rfl
  · obtain ⟨a, d, z, i, n, kvs, rfl, ⟨dx, ha⟩, na, hv, go⟩ := h
    refine ⟨_, pss_cons (ps_expr (callD DC hr rfl (pa_cons (pv 1) (pa_cons (pe_tup (pa_cons (pe_fld (pv 0) rfl) pa_nil)) pa_nil))))
      (pss_one (ps_ret (pe_op op_add (pe_dget (hu_of hr) (pv 1) (pe_fld (pv 0) rfl) (fun _ _ => rfl)) (pe_fld (pv 0) rfl)))), ?_⟩
    refine ⟨_, rfl, _, rfl, a, cT, dx, _, _, rfl, ha, T.own.cl, T.nM, rfl, by show 1 ≤ sizeLine; decide, fun t nt => ?_⟩
    have s1 := new_same (o := .tup [.str z]) nt
    refine ⟨d, t, kvs, [z], rfl, ⟨s1 _ _ na.1, na.2⟩, .inl (.inl upd_same), by show 1 ≤ 40; decide, fun y hy => ?_, fun H2 s2 => ?_⟩
    · rw [List.mem_singleton.mp hy, hv]
      rfl
    have s3 := s1.trans s2
    refine ⟨_, rfl, _, rfl, a, cT, dx, _, _, rfl, s3 _ _ ha, T.own.cl, T.nM, rfl, ?_⟩
    refine ⟨d, .int n, rfl, by rw [← hv]; exact DGet.k (k := Sum.inr z) (s3 _ _ na.1), ?_⟩
    exact ⟨_, rfl, a, cT, dx, _, .int i, rfl, s3 _ _ ha, T.own.cl, T.nS, rfl, n, i, rfl, rfl, go _ s3⟩
end
end E10

set_option Elab.async false
set_option linter.all false
set_option maxRecDepth 100000
set_option maxHeartbeats 8000000
namespace E10
open L2 PySem PySem.Spec PyProof.Rows
/-- Term(..), however it is called -/
structure MkT (P : Program) (w : World) (K : PySem.W.Frag) (mg : Str → Option Value) (base : Heap) (cT : Addr) : Prop where
  ex : ∃ (f : Addr) (fd : FuncData), Mk K cT f ∧ FnOk P w K mg base CX0 3 f fd ["self", "moment", "shift"] (spInit cT) ∧ mg "Term" = some (.ref cT) ∧ Binds K fd ["self", "moment", "shift"] [] ∧
    (∃ ds, Vals [.int 0] ds ∧ Binds K fd ["self", "moment", "shift"] ds) ∧
    (∃ g : List Value → List Value → List Value, KBn K fd ["self", "moment", "shift"] 1 ["shift", "moment"] g fun vs zs => vs ++ [zs.getD 1 .non, zs.getD 0 .non]) ∧
    (∃ g : List Value → List Value → List Value, KBn K fd ["self", "moment", "shift"] 1 ["moment"] g fun vs zs => vs ++ [zs.getD 0 .non, .int 0])
/-- what it asks of its arguments, and gives -/
def WT (cT : Addr) (z : Str) (i : Int) (H : Hp) (Q : VK) : Prop := Nm z ∧ ∀ x H', H x = none → Same H H' → TermAt cT H' x z i → Q (.ref x) H'
theorem WT.init {cT : Addr} {z : Str} {i : Int} {H : Hp} {Q : VK} (h : WT cT z i H Q) (x dx : Addr) (nx : H x = none) (ndx : H dx = none) (ne : dx ≠ x) : spInit cT [.ref x, .str z, .int i] (upd (upd H dx (.own x)) x (.ins cT dx [])) (fun v H2 => v = .non ∧ Q (.ref x) H2) E0 := by
  refine ⟨x, dx, z, i, rfl, h.1, upd_same, fun H' s t => ⟨rfl, h.2 x H' nx (fun b o e => ?_) t⟩⟩
  have n1 := ne_of_none e nx
  have n2 := ne_of_none e ndx
  refine s b o ?_ n1
  rw [upd_ne n1, upd_ne n2]
  exact e
section
variable {X : Cx} {cT : Addr}
def tMk2 (cT : Addr) (t : TA) : TE := fun σ H Q => t σ H fun vs H1 => ∃ z i, vs = [.str z, .int i] ∧ WT cT z i H1 Q
theorem mkT2 {e : Expr} {es : List Expr} {t : TA} {p pos : Pos} (M : MkT X.prog X.w X.K X.mg X.base cT) (hr : Room 4 X.A) (hg : Gl X "Term") (ha : PA X (e :: es) t)
    (he : starEach (e :: es) X.env = (false, eval e X.env) :: starEach es X.env := by rfl) (hpl : (backTo pos (starEach es X.env)).any (·.1) = false := by rfl) : PE X (.Call (.Name "Term" p) (e :: es) [] pos) (tMk2 cT t) := by
  obtain ⟨f, fd, m, F, hm, b, _⟩ := M.ex
  refine ⟨fun pins s σ H Q I h => ?_⟩
  refine wpAny_Call_Name_kw (ld_glob I hg hm ?_ (by decide))
  refine PySem.W.callWith_K (h₀ := X.base) I.ok.mod.kin m.kp (thn (ha.run pos pins s σ H _ I h) fun us s1 ⟨vs, H1, I1, r, z, i, e, q⟩ => ⟨I1.kIn, ?_⟩) he hpl
  subst e
  exact run_make m F hr b .nil pass0 I1 r q.init
def tMk1 (cT : Addr) (t : TA) : TE := fun σ H Q => t σ H fun vs H1 => ∃ z, vs = [.str z] ∧ WT cT z 0 H1 Q
theorem mkT1 {e : Expr} {es : List Expr} {t : TA} {p pos : Pos} (M : MkT X.prog X.w X.K X.mg X.base cT) (hr : Room 4 X.A) (hg : Gl X "Term") (ha : PA X (e :: es) t)
    (he : starEach (e :: es) X.env = (false, eval e X.env) :: starEach es X.env := by rfl) (hpl : (backTo pos (starEach es X.env)).any (·.1) = false := by rfl) : PE X (.Call (.Name "Term" p) (e :: es) [] pos) (tMk1 cT t) := by
  obtain ⟨f, fd, m, F, hm, _, ⟨ds, dv, b⟩, _⟩ := M.ex
  refine ⟨fun pins s σ H Q I h => ?_⟩
  refine wpAny_Call_Name_kw (ld_glob I hg hm ?_ (by decide))
  refine PySem.W.callWith_K (h₀ := X.base) I.ok.mod.kin m.kp (thn (ha.run pos pins s σ H _ I h) fun us s1 ⟨vs, H1, I1, r, z, e, q⟩ => ⟨I1.kIn, ?_⟩) he hpl
  subst e
  exact run_make m F hr b dv pass0 I1 r q.init
/-- Term(shift=.., moment=..) -/
def tMkSM (cT : Addr) (t : TA) : TE := fun σ H Q => t σ H fun vs H1 => ∃ z i, vs = [.int i, .str z] ∧ WT cT z i H1 Q
theorem mkSM {kws : List Keyword} {tk : TA} {p pos : Pos} (M : MkT X.prog X.w X.K X.mg X.base cT) (hr : Room 4 X.A) (hg : Gl X "Term") (hkw : PK X kws tk)
    (hall : (backToKw pos (keywordEach kws X.env)).all (·.1.isSome) = true := by rfl) (hks : (backToKw pos (keywordEach kws X.env)).filterMap (·.1) = (["shift", "moment"] : List Str) := by rfl)
    (hpl : ((backTo pos (starEach [] X.env)).any (·.1) || (backToKw pos (keywordEach kws X.env)).any (·.1.isNone)) = false := by rfl) : PE X (.Call (.Name "Term" p) [] kws pos) (tMkSM cT tk) := by
  obtain ⟨f, fd, m, F, hm, _, _, ⟨g, hb⟩, _⟩ := M.ex
  refine ⟨fun pins s σ H Q I h => ?_⟩
  refine wpAny_Call_Name_kw (ld_glob I hg hm ?_ (by decide))
  refine PySem.W.callWith_KW0 (h₀ := X.base) I.ok.mod.kin m.kp hall (thn (hkw.run pos pins s σ H _ I h) fun ws s2 ⟨zs, H2, I2, rz, z, i, e, q2⟩ => ⟨I2.kIn, ?_⟩) hpl
  subst e
  rw [hks]
  exact run_makeN (n := 0) (us := []) (vs := []) m F hr hb pass0 I2 .nil rz rfl rfl q2.init
/-- Term(moment=..) -/
theorem mkM {kws : List Keyword} {tk : TA} {p pos : Pos} (M : MkT X.prog X.w X.K X.mg X.base cT) (hr : Room 4 X.A) (hg : Gl X "Term") (hkw : PK X kws tk)
    (hall : (backToKw pos (keywordEach kws X.env)).all (·.1.isSome) = true := by rfl) (hks : (backToKw pos (keywordEach kws X.env)).filterMap (·.1) = (["moment"] : List Str) := by rfl)
    (hpl : ((backTo pos (starEach [] X.env)).any (·.1) || (backToKw pos (keywordEach kws X.env)).any (·.1.isNone)) = false := by rfl) : PE X (.Call (.Name "Term" p) [] kws pos) (tMk1 cT tk) := by
  obtain ⟨f, fd, m, F, hm, _, _, _, ⟨g, hb⟩⟩ := M.ex
  refine ⟨fun pins s σ H Q I h => ?_⟩
  refine wpAny_Call_Name_kw (ld_glob I hg hm ?_ (by decide))
  refine PySem.W.callWith_KW0 (h₀ := X.base) I.ok.mod.kin m.kp hall (thn (hkw.run pos pins s σ H _ I h) fun ws s2 ⟨zs, H2, I2, rz, z, e, q2⟩ => ⟨I2.kIn, ?_⟩) hpl
  subst e
  rw [hks]
  exact run_makeN (n := 0) (us := []) (vs := []) m F hr hb pass0 I2 .nil rz rfl rfl q2.init
end
section
variable {P : Program} {w : World} {K : PySem.W.Frag} {mg : Str → Option Value} {base : Heap} {f cT : Addr} {fd : FuncData}
/-- a Term and a number: the Term with another shift -/
def spPlus (cT : Addr) (op : Int → Int → Int) : Sp := fun vs H Q _ => ∃ (a : Addr) (z : Str) (i j : Int), vs = [.ref a, .int j] ∧ TermAt cT H a z i ∧ WT cT z (op i j) H Q
theorem scAdd : FnScope ["self", "other"] ["self", "other"] (defScope (mT 5)) := ⟨rfl, rfl, rfl, by decide +kernel, rfl, by decide +kernel, by decide +kernel⟩
theorem ok_add (T : TermF K cT) (M : MkT P w K mg base cT) (DS : Def P w K mg base "check_shift" ["value"] 2 spShift) (F : Fun K "__add__" "Term.__add__" (mT 5) f fd) : FnOk P w K mg base CX0 5 f fd ["self", "other"] (spPlus cT fun i j => i + j) := by
  refine F.ok scAdd (fun vs H Q E h => ?_) (fun cdv A outer s H vs Q E hr h => ?_)
  · obtain ⟨_, _, _, _, rfl, _⟩ := h
    rfl
  · obtain ⟨a, z, i, j, rfl, ⟨dx, ha⟩, go⟩ := h
    refine ⟨_, pss_cons (ps_expr (callD DS (hr.mono (by decide)) rfl (pa_cons (pv 1) pa_nil)))
      (pss_one (ps_ret (mkT2 M hr rfl (pa_cons (pe_fld (pv 0) rfl) (pa_cons (pe_op op_add (pe_fld (pv 0) rfl) (pv 1)) pa_nil))))), ?_⟩
    refine ⟨_, rfl, j, rfl, ?_⟩
    refine ⟨_, rfl, a, cT, dx, _, _, rfl, ha, T.own.cl, T.nM, rfl, _, rfl, a, cT, dx, _, _, rfl, ha, T.own.cl, T.nS, rfl, _, rfl, i, j, rfl, rfl, z, i + j, rfl, go⟩
end
end E10

set_option Elab.async false
set_option linter.all false
set_option maxRecDepth 100000
set_option maxHeartbeats 8000000
namespace E10
open L2 PySem PySem.Spec PyProof.Rows
theorem int_add {K : PySem.W.Frag} : PySem.W.findIn K (.type "int") (PySem.dunder "add") = some (some (.builtin "int.__add__")) := by
  show PySem.fastLookup "int" (PySem.dunder "add") = _
  decide +kernel
theorem int_radd {K : PySem.W.Frag} : PySem.W.findIn K (.type "int") (dunderR "add") = some (some (.builtin "int.__radd__")) := by
  show PySem.fastLookup "int" (dunderR "add") = _
  decide +kernel
theorem int_sub {K : PySem.W.Frag} : PySem.W.findIn K (.type "int") (PySem.dunder "sub") = some (some (.builtin "int.__sub__")) := by
  show PySem.fastLookup "int" (PySem.dunder "sub") = _
  decide +kernel
theorem int_rsub {K : PySem.W.Frag} : PySem.W.findIn K (.type "int") (dunderR "sub") = some (some (.builtin "int.__rsub__")) := by
  show PySem.fastLookup "int" (dunderR "sub") = _
  decide +kernel
structure AddF (P : Program) (w : World) (K : PySem.W.Frag) (mg : Str → Option Value) (base : Heap) (cT : Addr) : Prop where
  ex : ∃ (f : Addr) (fd : FuncData), FnG P w K mg base 5 f fd ["self", "other"] (spPlus cT fun i j => i + j) ∧ Has K cT f (PySem.dunder "add") ∧ Binds K fd ["self", "other"] []
  r : ∃ g : Addr, PySem.W.findIn K (.ref cT) (dunderR "add") = some (some (.ref g))
  sub : PySem.W.subIn K (.type "int") (.ref cT) = some false
  sub' : PySem.W.subIn K (.ref cT) (.type "int") = some false
theorem op_plus {X : Cx} {cT : Addr} (T : TermF X.K cT) (A : AddF X.prog X.w X.K X.mg X.base cT) (hG : X.A.guards = some []) (room : Room 5 X.A) : OpR X (binaryOp .Add) (rOwnI cT (spPlus cT fun i j => i + j)) := by
  obtain ⟨f, fd, F, h, b⟩ := A.ex
  obtain ⟨g, hr⟩ := A.r
  exact op_ownI (op := .Add) F hG room b T.own.first h hr (.inr ⟨g, rfl⟩) int_add int_radd A.sub
structure RaddF (P : Program) (w : World) (K : PySem.W.Frag) (mg : Str → Option Value) (base : Heap) (cT : Addr) : Prop where
  ex : ∃ (f : Addr) (fd : FuncData), FnG P w K mg base 6 f fd ["self", "other"] (spPlus cT fun i j => i + j) ∧ Has K cT f (dunderR "add") ∧ Binds K fd ["self", "other"] []
theorem op_radd {X : Cx} {cT : Addr} (T : TermF X.K cT) (A : AddF X.prog X.w X.K X.mg X.base cT) (R : RaddF X.prog X.w X.K X.mg X.base cT) (hG : X.A.guards = some []) (room : Room 6 X.A) : OpR X (binaryOp .Add) (rIOwn cT (spPlus cT fun i j => i + j)) := by
  obtain ⟨_, _, _, h, _⟩ := A.ex
  obtain ⟨f, fd, F, hh, b⟩ := R.ex
  exact op_iown F hG room b T.own.first h.at_ hh int_add int_radd rfl A.sub'
structure SubF (P : Program) (w : World) (K : PySem.W.Frag) (mg : Str → Option Value) (base : Heap) (cT : Addr) : Prop where
  ex : ∃ (f : Addr) (fd : FuncData), FnG P w K mg base 6 f fd ["self", "other"] (spPlus cT fun i j => i - j) ∧ Has K cT f (PySem.dunder "sub") ∧ Binds K fd ["self", "other"] []
  r : PySem.W.findIn K (.ref cT) (dunderR "sub") = some none
theorem op_minus {X : Cx} {cT : Addr} (T : TermF X.K cT) (A : AddF X.prog X.w X.K X.mg X.base cT) (S : SubF X.prog X.w X.K X.mg X.base cT) (hG : X.A.guards = some []) (room : Room 6 X.A) : OpR X (binaryOp .Sub) (rOwnI cT (spPlus cT fun i j => i - j)) := by
  obtain ⟨f, fd, F, h, b⟩ := S.ex
  exact op_ownI (op := .Sub) F hG room b T.own.first h S.r (.inl rfl) int_sub int_rsub A.sub
section
variable {P : Program} {w : World} {K : PySem.W.Frag} {mg : Str → Option Value} {base : Heap} {f cT : Addr} {fd : FuncData}
theorem scRadd : FnScope ["self", "other"] ["self", "other"] (defScope (mT 6)) := ⟨rfl, rfl, rfl, by decide +kernel, rfl, by decide +kernel, by decide +kernel⟩
theorem ok_radd (T : TermF K cT) (A : AddF P w K mg base cT) (F : Fun K "__radd__" "Term.__radd__" (mT 6) f fd) : FnG P w K mg base 6 f fd ["self", "other"] (spPlus cT fun i j => i + j) := by
  refine Fun.okG F scRadd (fun {vs H Q E} h => ?_) (fun cdv Ar outer s H vs Q E hG hr h => ?_)
  · obtain ⟨_, _, _, _, rfl, _⟩ := h
    rfl
  · obtain ⟨a, z, i, j, rfl, ta, go⟩ := h
    have ⟨dx, ha⟩ := ta
    exact ⟨_, pss_one (ps_ret (pe_op (op_plus T A hG hr) (pv 0) (pv 1))), ⟨_, rfl, _, rfl, a, dx, _, j, rfl, rfl, ha, a, z, i, j, rfl, ta, go⟩⟩
theorem scSub : FnScope ["self", "other"] ["self", "other"] (defScope (mT 7)) := ⟨rfl, rfl, rfl, by decide +kernel, rfl, by decide +kernel, by decide +kernel⟩
theorem ok_sub (T : TermF K cT) (A : AddF P w K mg base cT) (DS : Def P w K mg base "check_shift" ["value"] 2 spShift) (F : Fun K "__sub__" "Term.__sub__" (mT 7) f fd) : FnG P w K mg base 6 f fd ["self", "other"] (spPlus cT fun i j => i - j) := by
  refine Fun.okG F scSub (fun {vs H Q E} h => ?_) (fun cdv Ar outer s H vs Q E hG hr h => ?_)
  · obtain ⟨_, _, _, _, rfl, _⟩ := h
    rfl
  · obtain ⟨a, z, i, j, rfl, ta, go⟩ := h
    have ⟨dx, ha⟩ := ta
    refine ⟨_, pss_cons (ps_expr (callD DS (hr.mono (by decide)) rfl (pa_cons (pv 1) pa_nil))) (pss_one (ps_ret (pe_op (op_plus T A hG hr) (pv 0) (pe_un un_neg (pv 1))))), ?_⟩
    refine ⟨_, rfl, j, rfl, ?_⟩
    exact ⟨_, rfl, _, rfl, j, rfl, a, dx, _, -j, rfl, rfl, ha, a, z, i, -j, rfl, ta, go⟩
/-- == of a Term: with a Term, by its parts; with what is none, False -/
def spSame (K : PySem.W.Frag) (cT : Addr) : Sp := fun vs H Q _ => ∃ (a : Addr) (z : Str) (i : Int) (y : V), vs = [.ref a, y] ∧ TermAt cT H a z i ∧
  ((∃ b z' i', y = .ref b ∧ TermAt cT H b z' i' ∧ Q (.bl (decide (z = z') && decide (i = i'))) H) ∨ (∃ t, TyX K H y t ∧ PySem.W.kitOne K t (.ref cT) = some false ∧ Q (.bl false) H))
theorem scEq : FnScope ["self", "other"] ["self", "other"] (defScope (mT 10)) := ⟨rfl, rfl, rfl, by decide +kernel, rfl, by decide +kernel, by decide +kernel⟩
theorem ok_eq (N : Nam mg) (T : TermF K cT) (hm : mg "Term" = some (.ref cT)) (F : Fun K "__eq__" "Term.__eq__" (mT 10) f fd) : FnOk P w K mg base CX0 1 f fd ["self", "other"] (spSame K cT) := by
  refine F.ok scEq (fun vs H Q E h => ?_) (fun cdv A outer s H vs Q E hr h => ?_)
  · obtain ⟨_, _, _, _, rfl, _⟩ := h
    rfl
  · obtain ⟨a, z, i, y, rfl, ⟨dx, ha⟩, h⟩ := h
    refine ⟨_, pss_one (ps_ret (pe_and (pe_callB call_isi rfl N.isi boot_isi (pa_cons (pv 1) (pa_cons (pgC rfl hm) pa_nil)))
      (pe_and (pe_cmpR op_eq (pe_fld (pv 0) rfl) (pe_fld (pv 1) rfl) (nomark _)) (pe_one (pe_cmpR op_eq (pe_fld (pv 0) rfl) (pe_fld (pv 1) rfl) (nomark _)))))), ?_⟩
    rcases h with ⟨b, z', i', rfl, ⟨dy, hb⟩, go⟩ | ⟨t, ty, no, go⟩
    · refine ⟨_, rfl, _, _, _, _, _, rfl, .own _, T.own.ty hb, T.own.me, true, rfl, ?_⟩
      refine ⟨_, rfl, a, cT, dx, _, _, rfl, ha, T.own.cl, T.nM, rfl, _, rfl, b, cT, dy, _, _, rfl, hb, T.own.cl, T.nM, rfl, rfl, _, rfl, ?_⟩
      have e1 : decide (V.str z = V.str z') = decide (z = z') := by simp
      rw [e1]
      by_cases q : z = z'
      · rw [decide_eq_true q] at go ⊢
        refine ⟨_, rfl, a, cT, dx, _, _, rfl, ha, T.own.cl, T.nS, rfl, _, rfl, b, cT, dy, _, _, rfl, hb, T.own.cl, T.nS, rfl, rfl, ?_⟩
        have e2 : decide (V.int i = V.int i') = decide (i = i') := by simp
        rw [e2]
        exact go
      · rw [decide_eq_false q] at go ⊢
        exact go
    · exact ⟨_, rfl, y, _, t, _, _, rfl, .own _, ty, no, false, rfl, go⟩
/-- the text of a term -/
def spText : Sp := fun vs H Q _ => ∃ (z : Str) (i : Int), vs = [.str z, .int i] ∧ Nm z ∧ Sm i ∧ Q (.str (ttext z i)) H
theorem sm_log {i : Int} (h : Sm i) : i.natAbs.log2 < 1920 := log_small (Nat.lt_of_lt_of_le h (by decide +kernel))
theorem plus_le {i : Int} (h : Sm i) : (plusText i).length ≤ 70 := by
  have e := int_text_length_le10 (k := 66) (by decide) h
  unfold plusText
  split
  · rw [PyProof.Rows.ofString_len]
    omega
  · have e2 : (Str.ofString (toString i)).length ≤ 67 := by
      rw [PyProof.Rows.ofString_len]
      omega
    rw [strLen_append]
    have e1 : (("+" : String) : Str).length = 1 := rfl
    omega
theorem scText : FnScope ["moment", "shift"] ["moment", "shift"] (defScope (top 27)) := ⟨rfl, rfl, rfl, by decide +kernel, rfl, by decide +kernel, by decide +kernel⟩
theorem ok_text (F : Fun K "term_text" "term_text" (top 27) f fd) : FnOk P w K mg base CX0 1 f fd ["moment", "shift"] spText := by
  refine F.ok scText (fun vs H Q E h => ?_) (fun cdv A outer s H vs Q E hr h => ?_)
  · obtain ⟨_, _, rfl, _⟩ := h
    rfl
  · obtain ⟨z, i, rfl, nm, sm, go⟩ := h
    refine ⟨_, pss_one (ps_ret (pe_ifExp (pt_cmpR op_eq (pv 1) pe_int (nomark _)) (pv 0) (pe_joined (.cons (pe_fmt (pv 0)) (.cons (pe_fmtP (pv 1)) .nil))))), ?_⟩
    refine ⟨_, rfl, rfl, _, rfl, ?_⟩
    have e1 : decide (V.int i = V.int 0) = decide (i = 0) := by simp
    rw [e1]
    unfold ttext at go
    by_cases q : i = 0
    · rw [decide_eq_true q]
      rw [if_pos q] at go
      exact ⟨_, rfl, go⟩
    · rw [decide_eq_false q]
      rw [if_neg q] at go
      have hz : z.length ≤ 8 := nm.le
      have hp := plus_le sm
      have line : (100 : Nat) ≤ sizeLine := by decide
      refine ⟨_, rfl, .inl ⟨z, rfl, by omega, z, rfl, ?_, _, rfl, i, rfl, sm_log sm, _, rfl, ?_, ?_⟩⟩
      · rw [Str.empty_append]
        omega
      · rw [Str.empty_append, strLen_append]
        omega
      · rw [Str.empty_append]
        exact go
end
end E10

set_option Elab.async false
set_option linter.all false
set_option maxRecDepth 100000
set_option maxHeartbeats 8000000
namespace E10
open L2 PySem PySem.Spec PyProof.Rows
theorem char_abc {c : Nat} (h : 97 ≤ c ∧ c ≤ 122) : Builtin.Str.reprChar 39 c = [c] := by
  have all : ∀ k : Fin 26, Builtin.Str.reprChar 39 (97 + k.val) = [97 + k.val] := by decide +kernel
  have := all ⟨c - 97, by omega⟩
  have e : 97 + (c - 97) = c := by omega
  simp only [e] at this
  exact this
theorem fold_abc : ∀ (l : List Nat) (acc : Array Nat), (∀ c ∈ l, 97 ≤ c ∧ c ≤ 122) → l.foldl (fun out c => out ++ (Builtin.Str.reprChar 39 c).toArray) acc = acc ++ l.toArray
  | [], acc, _ => by simp
  | c :: l, acc, h => by
    rw [List.foldl_cons, char_abc (h c List.mem_cons_self), fold_abc l _ fun d hd => h d (List.mem_cons_of_mem _ hd)]
    simp
theorem quote_abc {z : Str} (h : Nm z) : reprQuote z = 39 := by
  have n : z.cps.contains 39 = false := by
    rw [Bool.eq_false_iff]
    intro q
    have m : 39 ∈ z.cps.toList := by
      rw [Array.contains_iff_mem] at q
      exact Array.mem_toList_iff.mpr q
    have := h.abc 39 m
    omega
  unfold reprQuote
  rw [n]
  rfl
theorem repr_abc {z : Str} (h : Nm z) : reprText z = (("'" : String) : Str) ++ z ++ (("'" : String) : Str) := by
  unfold reprText
  rw [quote_abc h, ← Array.foldl_toList, fold_abc _ _ h.abc]
  refine Str.ext' ?_
  rw [Str.cps_append, Str.cps_append]
  show ((#[39] ++ z.cps.toList.toArray).push 39) = #[39] ++ z.cps ++ #[39]
  simp
theorem repr_abc_len {z : Str} (h : Nm z) : (reprText z).length ≤ 10 := by
  rw [repr_abc h, strLen_append, strLen_append]
  have e1 : (("'" : String) : Str).length = 1 := rfl
  have := h.le
  omega
section
variable {P : Program} {w : World} {K : PySem.W.Frag} {mg : Str → Option Value} {base : Heap} {f cT : Addr} {fd : FuncData}
def spStr (cT : Addr) (tx : Str → Int → Str) : Sp := fun vs H Q _ => ∃ (a : Addr) (z : Str) (i : Int), vs = [.ref a] ∧ TermAt cT H a z i ∧ Nm z ∧ Sm i ∧ Q (.str (tx z i)) H
theorem scStr : FnScope ["self"] ["self"] (defScope (mT 11)) := ⟨rfl, rfl, rfl, by decide +kernel, rfl, by decide +kernel, by decide +kernel⟩
theorem ok_str (N : Nam mg) (T : TermF K cT) (DX : Def P w K mg base "term_text" ["moment", "shift"] 1 spText) (F : Fun K "__str__" "Term.__str__" (mT 11) f fd) : FnOk P w K mg base CX0 2 f fd ["self"] (spStr cT ttext) := by
  refine F.ok scStr (fun vs H Q E h => ?_) (fun cdv A outer s H vs Q E hr h => ?_)
  · obtain ⟨_, _, _, rfl, _⟩ := h
    rfl
  · obtain ⟨a, z, i, rfl, ⟨dx, ha⟩, nm, sm, go⟩ := h
    exact ⟨_, pss_one (ps_ret (pe_callTy SkE.call_str_str rfl N.str_ boot_str' (pa_cons (callD DX hr rfl (pa_cons (pe_fld (pv 0) rfl) (pa_cons (pe_fld (pv 0) rfl) pa_nil))) pa_nil))),
      ⟨_, rfl, a, cT, dx, _, _, rfl, ha, T.own.cl, T.nM, rfl, _, rfl, a, cT, dx, _, _, rfl, ha, T.own.cl, T.nS, rfl, z, i, rfl, nm, sm, _, rfl, go⟩⟩
theorem scRepr : FnScope ["self"] ["self"] (defScope (mT 12)) := ⟨rfl, rfl, rfl, by decide +kernel, rfl, by decide +kernel, by decide +kernel⟩
theorem ok_repr (T : TermF K cT) (F : Fun K "__repr__" "Term.__repr__" (mT 12) f fd) : FnOk P w K mg base CX0 1 f fd ["self"] (spStr cT rtext) := by
  refine F.ok scRepr (fun vs H Q E h => ?_) (fun cdv A outer s H vs Q E hr h => ?_)
  · obtain ⟨_, _, _, rfl, _⟩ := h
    rfl
  · obtain ⟨a, z, i, rfl, ⟨dx, ha⟩, nm, sm, go⟩ := h
    refine ⟨_, pss_one (ps_ret (pe_joined (.cons pe_str (.cons (pe_fmtR (pe_fld (pv 0) rfl)) (.cons pe_str (.cons (pe_fmtR (pe_fld (pv 0) rfl)) (.cons pe_str .nil))))))), ?_⟩
    have l1 := repr_abc_len nm
    have l2 : (Str.ofString (toString i)).length ≤ 67 := by
      have e := int_text_length_le10 (k := 66) (by decide) sm
      rw [PyProof.Rows.ofString_len]
      omega
    have c1 : (("Term(" : String) : Str).length = 5 := rfl
    have c2 : ((", " : String) : Str).length = 2 := rfl
    have c3 : ((")" : String) : Str).length = 1 := rfl
    have line : (100 : Nat) ≤ sizeLine := by decide
    unfold rtext at go
    refine ⟨_, rfl, ?_, _, rfl, a, cT, dx, _, _, rfl, ha, T.own.cl, T.nM, rfl, .inl ⟨z, rfl, by omega, _, rfl, ?_, _, rfl, ?_, _, rfl, a, cT, dx, _, _, rfl, ha, T.own.cl, T.nS, rfl, .inr ⟨i, rfl, sm_log sm, _, rfl, ?_, _, rfl, ?_, ?_⟩⟩⟩
    all_goals rw [Str.empty_append]
    · omega
    · rw [strLen_append]
      omega
    · rw [strLen_append, strLen_append]
      omega
    · rw [strLen_append, strLen_append, strLen_append]
      omega
    · rw [strLen_append, strLen_append, strLen_append, strLen_append]
      omega
    · exact go
end
end E10

set_option Elab.async false
set_option linter.all false
set_option maxRecDepth 100000
set_option maxHeartbeats 8000000
namespace E10
open L2 PySem PySem.Spec PyProof.Rows
/-- a dict comprehension over anything that is walked -/
theorem dc_it {J : It} {n : Nat} {G : Hp → Prop} {Y : Nat → Hp → V → Hp → Prop} (w : Walk J n G Y) {g : TG} {tt : TT} {tk tv : TE} {vs : List Nat} {σ : L2.St} {H1 : Hp} {D : Addr} {Qd : Hp → Prop} (Pv : Nat → Hp → Prop) (h0 : Pv 0 (upd H1 D (.dK []))) (hG : ∀ i H, i ≤ n → Pv i H → G H)
    (hs : ∀ i x H H', i < n → Pv i H → Y i H x H' → g x (wipe σ vs) H' fun σ2 H2 => wipe σ2 vs = wipe σ vs ∧ tt σ2 H2 fun b H3 =>
      if b = true then tk σ2 H3 fun y H4 => tv σ2 H4 fun z H5 => ∃ kvs k, y = kV k ∧ H5 D = some (.dK kvs) ∧ kvs.length < sizeLine ∧ Pv (i + 1) (upd H5 D (.dK (putK kvs k z))) else Pv (i + 1) H3) (hd : ∀ H, Pv n H → Qd H) :
    ∃ W : Nat → Nat → Hp → Prop, (∃ m, W 0 m (upd H1 D (.dK []))) ∧ ∀ i m H, W i m H →
      (J.stop i H ∧ Qd H) ∨ (J.go i H ∧ ∃ Nx : Hp → Prop, (∀ H', Nx H' → ∃ m', m' < m ∧ W (i + 1) m' H') ∧ ∀ x H', J.yld i H x H' → g x (wipe σ vs) H' fun σ2 H2 => wipe σ2 vs = wipe σ vs ∧ tt σ2 H2 fun b H3 =>
        if b = true then tk σ2 H3 fun y H4 => tv σ2 H4 fun z H5 => ∃ kvs k, y = kV k ∧ H5 D = some (.dK kvs) ∧ kvs.length < sizeLine ∧ Nx (upd H5 D (.dK (putK kvs k z))) else Nx H3) := by
  refine ⟨fun i m H => m = n - i ∧ i ≤ n ∧ Pv i H, ⟨n, by simp, Nat.zero_le _, h0⟩, ?_⟩
  rintro i m H ⟨rfl, hi, p⟩
  have q := hG i H hi p
  by_cases hlt : i < n
  · refine .inr ⟨w.goes i H hlt q, Pv (i + 1), fun H' p' => ⟨n - (i + 1), by omega, rfl, hlt, p'⟩, fun x H' y => hs i x H H' hlt p (w.yields i H x H' hlt q y)⟩
  · have e : i = n := by omega
    subst e
    exact .inl ⟨w.stops H q, hd H p⟩
theorem boot_sorted' : bootBuiltins "sorted" = some (.builtin "sorted") := by decide +kernel
theorem names_keys {kvs : List (Key × V)} (h : ∀ p ∈ kvs, ∃ (z : Str) (i : Int), p = (.inr z, .int i) ∧ Nm z) : ∃ ks : List Str, kvs.map (·.1) = ks.map Sum.inr ∧ ks.length = kvs.length ∧ ∀ z ∈ ks, ∃ i, valV kvs (.inr z) = some (.int i) := by
  induction kvs with
  | nil => exact ⟨[], rfl, rfl, fun z h => by cases h⟩
  | cons p r ih =>
    obtain ⟨z, i, rfl, _⟩ := h p List.mem_cons_self
    obtain ⟨ks, e, l, v⟩ := ih fun q hq => h q (List.mem_cons_of_mem _ hq)
    refine ⟨z :: ks, by rw [List.map_cons, List.map_cons, e], by rw [List.length_cons, List.length_cons, l], fun y hy => ?_⟩
    by_cases q : y = z
    · subst q
      exact ⟨i, by simp [valV]⟩
    · rcases List.mem_cons.mp hy with e | hy
      · exact absurd e q
      · obtain ⟨j, hj⟩ := v y hy
        exact ⟨j, by rw [← hj]; simp [valV, q, Ne.symm q]⟩
section
variable {P : Program} {w : World} {K : PySem.W.Frag} {mg : Str → Option Value} {base : Heap} {f cE : Addr} {fd : FuncData}
def spOrder : Sp := fun vs H Q _ => ∃ (d : Addr) (kvs : List (Key × V)), vs = [.ref d] ∧ NamesAt H d kvs ∧ ∀ p H' kvs', H p = none → Same H H' → H' p = some (.dK kvs') → Q (.ref p) H'
theorem scOrder : FnScope ["table", "moment"] ["table"] (defScope (top 23)) := ⟨rfl, rfl, rfl, by decide +kernel, rfl, by decide +kernel, by decide +kernel⟩
theorem ok_order (N : Nam mg) (F : Fun K "in_order" "in_order" (top 23) f fd) : FnOk P w K mg base CX0 1 f fd ["table"] spOrder := by
  refine F.ok scOrder (fun vs H Q E h => ?_) (fun cdv A outer s H vs Q E hr h => ?_)
  · obtain ⟨_, _, rfl, _⟩ := h
    rfl
  · obtain ⟨d, kvs, rfl, na, go⟩ := h
    have hu := hu_of hr
    obtain ⟨ks, ek, lk, vk⟩ := names_keys na.2.2.2
    refine ⟨_, pss_one (ps_ret (pe_dc (own := [("moment", 1)]) (g := gName 1) (tt := tYes) rfl scOrder.nd (pi_list (pe_callB (call_sortedD rfl) rfl N.srt boot_sorted' (pa_cons (pv 0) pa_nil)))
        (blkOk_by (own := [("moment", 1)]) (N := ["table", "moment"]) (sc := defScope (top 23)) (by decide +kernel)) (fun _ _ _ _ _ => pg_name (i := 1) scOrder.nd rfl (Or.inl rfl)) (fun _ _ _ _ _ => pts_nil)
        (fun _ _ _ _ _ => pv 1) (fun _ _ _ _ _ => pe_dget hu (pv 0) (pv 1) (fun _ _ => rfl)))), ?_⟩
    refine ⟨_, rfl, d, kvs, ks, rfl, .inl na.1, ek, by have := na.2.2.1; omega, fun ys p perm _ np => ?_⟩
    have s1 := new_same (o := .lst (ys.map V.str)) np
    refine ⟨p, rfl, ⟨_, .inl (.inl upd_same)⟩, fun D nD => ?_⟩
    refine dc_it (walk_list (xs := ys.map V.str)) (fun i H' => Same (upd H p (.lst (ys.map V.str))) H' ∧ ∃ kvs', H' D = some (.dK kvs') ∧ kvs'.length ≤ i) ⟨new_same nD, [], upd_same, Nat.zero_le _⟩ (fun i H' _ h => .inl (.inl (h.1 _ _ upd_same))) ?_ ?_
    · rintro i x H' H'' lt ⟨sm, kvs', hD, le⟩ ⟨rfl, hx⟩
      refine ⟨rfl, ?_⟩
      obtain ⟨z, hz, rfl⟩ := List.mem_map.mp (List.mem_of_getElem? hx)
      obtain ⟨n, hn⟩ := vk z (perm.mem_iff.mp hz)
      have s2 := s1.trans sm
      have le2 := length_putK kvs' (.inr z) (.int n)
      have ly : ys.length ≤ 40 := by rw [perm.length_eq, lk]; exact na.2.2.1
      rw [List.length_map] at lt
      refine ⟨_, rfl, _, rfl, _, rfl, d, .int n, rfl, by rw [← hn]; exact DGet.k (k := Sum.inr z) (s2 _ _ na.1), kvs', .inr z, rfl, hD, Nat.lt_of_le_of_lt (show kvs'.length ≤ 40 by omega) (by decide), fun c u e => ?_, _, upd_same, by omega⟩
      rw [upd_ne (ne_of_none e nD)]
      exact sm c u e
    · rintro H3 ⟨sm, kvs', hD, _⟩
      exact go D H3 kvs' (s1.free nD) (s1.trans sm) hD
end
end E10

set_option Elab.async false
set_option linter.all false
set_option maxRecDepth 100000
set_option maxHeartbeats 8000000
namespace E10
open L2 PySem PySem.Spec PyProof.Rows
/-! ### Earliest, made -/
abbrev mE (j : Nat) : Stmt := match top 31 with
  | .ClassDef (body := b) .. => b.getD j (.Pass ⟨0, 0, 0, 0⟩)
  | _ => .Pass ⟨0, 0, 0, 0⟩
def EarliestAt (cE : Addr) (H : Hp) (a : Addr) : Prop := ∃ dx fs, H a = some (.ins cE dx fs)
section
variable {P : Program} {w : World} {K : PySem.W.Frag} {mg : Str → Option Value} {base : Heap} {f cE : Addr} {fd : FuncData}
/-- at most eight of them -/
def spShifts : Sp := fun vs H Q _ => ∃ (d : Addr) (kvs : List (Key × V)), vs = [.ref d] ∧ NamesAt H d kvs ∧ kvs.length ≤ 8 ∧ ∀ H', Same H H' → Q .non H'
theorem scShifts : FnScope ["shifts", "moment"] ["shifts"] (defScope (top 30)) := ⟨rfl, rfl, rfl, by decide +kernel, rfl, by decide +kernel, by decide +kernel⟩
theorem ok_shifts (N : Nam mg) (DH : Def P w K mg base "has_names" ["value"] 2 spHas) (DI : Def P w K mg base "is_integer" ["value"] 1 spInteger) (F : Fun K "check_shifts" "check_shifts" (top 30) f fd) : FnOk P w K mg base CX0 3 f fd ["shifts"] spShifts := by
  refine F.ok scShifts (fun vs H Q E h => ?_) (fun cdv A outer s H vs Q E hr h => ?_)
  · obtain ⟨_, _, rfl, _⟩ := h
    rfl
  · obtain ⟨d, kvs, rfl, na, le, go⟩ := h
    have hu := hu_of hr
    obtain ⟨ks, ek, lk, vk⟩ := names_keys na.2.2.2
    refine ⟨_, pss_cons (ps_if (pt_not (pt_val (callD DH hr rfl (pa_cons (pv 0) pa_nil)))) (pss_one ps_never) pss_nil)
      (pss_cons (ps_for PassesOwn.never rfl (pi_list (pe_callB (call_sortedD rfl) rfl N.srt boot_sorted' (pa_cons (pv 0) pa_nil))) (pg_name (i := 1) scShifts.nd rfl (Or.inl rfl))
        (pss_one (ps_if (pt_not (pt_val (callD DI (hr.mono (by decide)) rfl (pa_cons (pe_dget hu (pv 0) (pv 1) (fun _ _ => rfl)) pa_nil)))) (pss_one ps_never) pss_nil)))
      (pss_one (ps_if (pt_cmpR op_gt (pe_callB call_lenD rfl N.len PySem.boot_len (pa_cons (pv 0) pa_nil)) (pgI rfl N.mt) (nomark _)) (pss_one ps_never) pss_nil))), ?_⟩
    refine ⟨_, rfl, d, kvs, rfl, na, fun H1 s1 => ⟨true, rfl, ?_⟩⟩
    have hd1 := s1 _ _ na.1
    refine ⟨_, rfl, d, kvs, ks, rfl, .inl hd1, ek, by omega, fun ys p perm _ np => ?_⟩
    have s2 := new_same (o := .lst (ys.map V.str)) np
    refine ⟨p, rfl, ⟨_, .inl (.inl upd_same)⟩, ?_⟩
    refine for_it (walk_list (xs := ys.map V.str)) (fun i σ H' => Same (upd H1 p (.lst (ys.map V.str))) H' ∧ ∃ u, σ = [some (.ref d), u]) ⟨Same.refl _, none, rfl⟩ (fun i σ H' _ h => .inl (.inl (h.1 _ _ upd_same))) ?_ ?_
    · rintro i x σ H' H'' lt ⟨sm, u, rfl⟩ ⟨rfl, hx⟩
      obtain ⟨z, hz, rfl⟩ := List.mem_map.mp (List.mem_of_getElem? hx)
      obtain ⟨n, hn⟩ := vk z (perm.mem_iff.mp hz)
      have s3 := s2.trans sm
      refine ⟨_, rfl, _, rfl, d, .int n, rfl, by rw [← hn]; exact DGet.k (k := Sum.inr z) (s3 _ _ hd1), n, rfl, true, rfl, ?_⟩
      exact ⟨sm, _, rfl⟩
    · rintro σ H3 ⟨sm, u, rfl⟩
      have s3 := s2.trans sm
      refine ⟨_, rfl, d, kvs, rfl, s3 _ _ hd1, _, _, rfl, rfl, _, rfl, ?_⟩
      rw [decide_eq_false (show ¬ ((kvs.length : Nat) : Int) > 8 by omega)]
      exact go H3 (s1.trans s3)
def spInitE (cE : Addr) : Sp := fun vs H Q _ => ∃ (x dx d : Addr) (kvs : List (Key × V)), vs = [.ref x, .ref d] ∧ NamesAt H d kvs ∧ kvs.length ≤ 8 ∧ H x = some (.ins cE dx []) ∧ d ≠ x ∧ ∀ H', SameB x H H' → EarliestAt cE H' x → Q .non H'
theorem scInitE : FnScope ["self", "shifts"] ["self", "shifts"] (defScope (mE 0)) := ⟨rfl, rfl, rfl, by decide +kernel, rfl, by decide +kernel, by decide +kernel⟩
theorem ok_initE (cl : Cls K cE) (n : NoAttr K cE "_shifts") (DS : Def P w K mg base "check_shifts" ["shifts"] 3 spShifts) (DO : Def P w K mg base "in_order" ["table"] 1 spOrder) (F : Fun K "__init__" "Earliest.__init__" (mE 0) f fd) :
    FnOk P w K mg base CX0 4 f fd ["self", "shifts"] (spInitE cE) := by
  refine F.ok scInitE (fun vs H Q E h => ?_) (fun cdv A outer s H vs Q E hr h => ?_)
  · obtain ⟨_, _, _, _, rfl, _⟩ := h
    rfl
  · obtain ⟨x, dx, d, kvs, rfl, na, le, hx, ne, go⟩ := h
    refine ⟨_, pss_cons (ps_expr (callD DS hr rfl (pa_cons (pv 1) pa_nil))) (pss_one (ps_fld (pv 0) (callD DO (hr.mono (by decide)) rfl (pa_cons (pv 1) pa_nil)) rfl)), ?_⟩
    refine ⟨_, rfl, d, kvs, rfl, na, le, fun H1 s1 => ?_⟩
    refine ⟨_, rfl, d, kvs, rfl, ⟨s1 _ _ na.1, na.2⟩, fun p H2 kvs' np s2 hp => ?_⟩
    have s3 := s1.trans s2
    refine ⟨_, rfl, x, cE, dx, _, rfl, s3 _ _ hx, cl, n, by decide, ?_⟩
    refine go _ (fun b o e nb => ?_) ⟨dx, _, upd_same⟩
    rw [upd_ne nb]
    exact s3 _ _ e
structure MkE (P : Program) (w : World) (K : PySem.W.Frag) (mg : Str → Option Value) (base : Heap) (cE : Addr) : Prop where
  ex : ∃ (f : Addr) (fd : FuncData), Mk K cE f ∧ FnOk P w K mg base CX0 4 f fd ["self", "shifts"] (spInitE cE) ∧ mg "Earliest" = some (.ref cE) ∧ Binds K fd ["self", "shifts"] []
end
section
variable {X : Cx} {cE : Addr}
def tMkE (cE : Addr) (t : TA) : TE := fun σ H Q => t σ H fun vs H1 => ∃ d kvs, vs = [.ref d] ∧ NamesAt H1 d kvs ∧ kvs.length ≤ 8 ∧ ∀ x H', H1 x = none → Same H1 H' → EarliestAt cE H' x → Q (.ref x) H'
theorem mkE {e : Expr} {es : List Expr} {t : TA} {p pos : Pos} (M : MkE X.prog X.w X.K X.mg X.base cE) (hr : Room 5 X.A) (hg : Gl X "Earliest") (ha : PA X (e :: es) t)
    (he : starEach (e :: es) X.env = (false, eval e X.env) :: starEach es X.env := by rfl) (hpl : (backTo pos (starEach es X.env)).any (·.1) = false := by rfl) : PE X (.Call (.Name "Earliest" p) (e :: es) [] pos) (tMkE cE t) := by
  obtain ⟨f, fd, m, F, hm, b⟩ := M.ex
  refine ⟨fun pins s σ H Q I h => ?_⟩
  refine wpAny_Call_Name_kw (ld_glob I hg hm ?_ (by decide))
  refine PySem.W.callWith_K (h₀ := X.base) I.ok.mod.kin m.kp (thn (ha.run pos pins s σ H _ I h) fun us s1 ⟨vs, H1, I1, r, d, kvs, e, na, le, q⟩ => ⟨I1.kIn, ?_⟩) he hpl
  subst e
  refine run_make m F hr b .nil pass0 I1 r fun x dx nx ndx ne => ?_
  have up : Same H1 (upd (upd H1 dx (.own x)) x (.ins cE dx [])) := fun b o e => by
    rw [upd_ne (ne_of_none e nx), upd_ne (ne_of_none e ndx)]
    exact e
  refine ⟨x, dx, d, kvs, rfl, ⟨up _ _ na.1, na.2⟩, le, upd_same, ne_of_none na.1 nx, fun H' s t => ⟨rfl, q x H' nx (fun b o e => ?_) t⟩⟩
  exact s b o (up _ _ e) (ne_of_none e nx)
end
end E10

set_option Elab.async false
set_option linter.all false
set_option maxRecDepth 100000
set_option maxHeartbeats 8000000
namespace E10
open L2 PySem PySem.Spec PyProof.Rows
/-- s * n -/
theorem op_mulS {X : Cx} : OpR X (binaryOp .Mult) (fun x y H Q => ∃ z n, x = .str z ∧ y = .int n ∧ MulOk z n ∧ Q (.str (Txt.mul z n)) H) := by
  intro pins s σ H x y v u Q I rx ry h
  obtain ⟨z, n, rfl, rfl, ok, q⟩ := h
  obtain ⟨t, rfl⟩ := (show ∃ t, v = Value.str z t from rx)
  obtain ⟨t', rfl⟩ := (show ∃ t, u = Value.int n t from ry)
  exact SB.mul ok fun t' k => ⟨.str (Txt.mul z n), H, I.tok _, ⟨_, rfl⟩, q⟩
def Sn (i : Int) : Prop := i.natAbs < 10 ^ 61
section
variable {P : Program} {w : World} {K : PySem.W.Frag} {mg : Str → Option Value} {base : Heap} {f : Addr} {fd : FuncData}
def spNumber : Sp := fun vs H Q _ => ∃ a : Addr, vs = [.ref a] ∧ PotAt H a ∧ ∀ n H', Sn n → PotAt H' a → SameB a H H' → Q (.int n) H'
theorem scNumber : FnScope ["_law_pot_here", "_law_way", "_law_small", "_law_great"] ["_law_pot_here"] (defScope (top 39)) := ⟨rfl, rfl, rfl, by decide +kernel, rfl, by decide +kernel, by decide +kernel⟩
theorem sn_small {n : Int} (h : -100 ≤ n) (h' : n ≤ 100) : Sn n := by
  unfold Sn
  have : n.natAbs ≤ 100 := by omega
  exact Nat.lt_of_le_of_lt this (by decide +kernel)
theorem sn_great {d e : Int} (d0 : 0 ≤ d) (d1 : d < 1000000) (e0 : 0 ≤ e) (e1 : e < 1000000) : Sn (d * 10 ^ 54 + e) ∧ Sn (-(d * 10 ^ 54 + e)) := by
  have k : (10 : Int) ^ 61 = 10000000 * 10 ^ 54 := by decide +kernel
  have p : (0 : Int) ≤ 10 ^ 54 := by decide +kernel
  have b1 : 0 ≤ d * 10 ^ 54 := Int.mul_nonneg d0 p
  have b2 : d * 10 ^ 54 ≤ 1000000 * 10 ^ 54 := Int.mul_le_mul_of_nonneg_right (Int.le_of_lt d1) p
  have b3 : (1000000 : Int) < 9000000 * 10 ^ 54 := by decide +kernel
  have b4 : (1000000 : Int) * 10 ^ 54 + 9000000 * 10 ^ 54 = 10 ^ 61 := by decide +kernel
  have c : ((10 ^ 61 : Nat) : Int) = (10 : Int) ^ 61 := by decide +kernel
  generalize hX : (10 : Int) ^ 54 = X at *
  generalize hY : (10 : Int) ^ 61 = Y at *
  unfold Sn
  generalize hZ : (10 ^ 61 : Nat) = Z at *
  generalize d * X = W at *
  constructor <;> omega
theorem ok_number (DD : Def P w K mg base "_law_draw" ["_law_pot_here", "_law_many"] 1 spDraw) (F : Fun K "_law_number" "_law_number" (top 39) f fd) : FnOk P w K mg base CX0 2 f fd ["_law_pot_here"] spNumber := by
  refine F.ok scNumber (fun vs H Q E h => ?_) (fun cdv A outer s H vs Q E hr h => ?_)
  · obtain ⟨_, rfl, _⟩ := h
    rfl
  · obtain ⟨a, rfl, hp, go⟩ := h
    refine ⟨_, pss_cons (ps_par (i := 1) (j := 2) (by rfl) scNumber.nd rfl rfl (by decide) rfl rfl (pa_cons (callD DD hr rfl (pa_cons (pv 0) (pa_cons pe_int pa_nil))) (pa_cons (pe_op op_sub (callD DD hr rfl (pa_cons (pv 0) (pa_cons pe_int pa_nil))) pe_int) pa_nil)) (by rfl))
      (pss_cons (ps_if (pt_cmpR op_lt (pv 1) pe_int (nomark _)) (pss_one (ps_ret (pe_ix ix_list (pe_lst (pa_cons pe_int (pa_cons (pv 2) (pa_cons (pv 2) pa_nil)))) (pv 1) (fun _ _ => rfl)))) pss_nil)
      (pss_cons (ps_set (i := 3) scNumber.nd rfl (Or.inl rfl) (pe_op op_add (pe_op op_mul (callD DD hr rfl (pa_cons (pv 0) (pa_cons (pe_op op_pow pe_int pe_int) pa_nil))) (pe_op op_pow pe_int pe_int)) (callD DD hr rfl (pa_cons (pv 0) (pa_cons (pe_op op_pow pe_int pe_int) pa_nil)))))
      (pss_one (ps_ret (pe_ifExp (pt_cmpR op_eq (pv 1) pe_int (nomark _)) (pv 3) (pe_un un_neg (pv 3))))))), ?_⟩
    refine ⟨_, rfl, a, 5, rfl, hp, by decide, by decide, fun d H1 d0 d5 p1 s1 => ?_⟩
    refine ⟨_, rfl, a, 9, rfl, p1, by decide, by decide, fun e H2 e0 e9 p2 s2 => ?_⟩
    have s12 := s1.trans s2
    refine ⟨_, 4, rfl, rfl, _, _, rfl, ?_⟩
    refine ⟨_, rfl, _, _, rfl, rfl, _, rfl, ?_⟩
    refine ite2 (fun lt => ?_) (fun _ => ?_)
    · have lt' : d < 3 := of_decide_eq_true lt
      refine ⟨_, rfl, _, rfl, by show 3 ≤ sizeLine; decide, fun p np => ?_⟩
      have s3 := new_same (o := .lst [.int 0, .int (e - 4), .int (e - 4)]) np
      have fin : ∀ n, Sn n → Q (.int n) (upd H2 p (.lst [.int 0, .int (e - 4), .int (e - 4)])) := fun n hn => go n _ hn (p2.sm s3) (s12.trans (SameB.of s3))
      obtain ⟨k, rfl⟩ := Int.eq_ofNat_of_zero_le d0
      have hk : k < 3 := by omega
      match k, hk with
      | 0, _ => exact ⟨_, rfl, p, _, _, .int 0, rfl, rfl, .inl (.inl upd_same), rfl, fin 0 (sn_small (by decide) (by decide))⟩
      | 1, _ => exact ⟨_, rfl, p, _, _, .int (e - 4), rfl, rfl, .inl (.inl upd_same), rfl, fin _ (sn_small (by omega) (by omega))⟩
      | 2, _ => exact ⟨_, rfl, p, _, _, .int (e - 4), rfl, rfl, .inl (.inl upd_same), rfl, fin _ (sn_small (by omega) (by omega))⟩
    · refine ⟨_, rfl, 10, 6, rfl, rfl, ⟨by decide, by decide, by decide⟩, a, _, rfl, p2, by decide, by decide, fun g H3 g0 g6 p3 s3 => ?_⟩
      have six : (10 : Int) ^ (6 : Int).toNat = 1000000 := by decide
      have gl : g < 2 ^ 64 := by omega
      have gm : -(2 ^ 64) < g := by omega
      refine ⟨10, 54, rfl, rfl, ⟨by decide, by decide, by decide⟩, _, _, rfl, rfl, .inl ⟨gm, gl⟩, ?_⟩
      refine ⟨_, rfl, 10, 6, rfl, rfl, ⟨by decide, by decide, by decide⟩, a, _, rfl, p3, by decide, by decide, fun h H4 h0 h6 p4 s4 => ?_⟩
      obtain ⟨y1, y2⟩ := sn_great g0 (by omega) h0 (by omega)
      have s14 := (s12.trans s3).trans s4
      refine ⟨_, _, rfl, rfl, ?_⟩
      refine ⟨_, rfl, rfl, _, rfl, ?_⟩
      refine ite2 (fun _ => ⟨_, rfl, go _ _ y1 p4 s14⟩) (fun _ => ⟨_, rfl, _, rfl, go _ _ y2 p4 s14⟩)
end
end E10

set_option Elab.async false
set_option linter.all false
set_option maxRecDepth 100000
set_option maxHeartbeats 8000000
namespace E10
open L2 PySem PySem.Spec PyProof.Rows
def Me (x : V) : Prop := flatB x = true ∨ ∃ a, x = .ref a
theorem Me.eqV {K : PySem.W.Frag} {H : Hp} {x : V} (m : Me x) (n : Nat) : EqV K H (n + 1) x x := by
  rcases m with f | ⟨a, rfl⟩
  · exact .inl ⟨rfl, f⟩
  · exact .inr (.inl ⟨a, rfl, rfl⟩)
theorem me_pair {K : PySem.W.Frag} {H : Hp} (n : Nat) : ∀ {xs : List V}, (∀ x ∈ xs, Me x) → Paired (EqV K H (n + 1)) xs xs
  | [], _ => .nil
  | _ :: _, m => .cons ((m _ List.mem_cons_self).eqV n) (me_pair n fun x hx => m x (List.mem_cons_of_mem _ hx))
/-- [v, ..] == [v, ..] item by item the same -/
def rLstMe (K : PySem.W.Frag) (b : Bool) : R2 := fun x y H Q => ∃ l m xs, x = .ref l ∧ y = .ref m ∧ SqL K H l xs ∧ SqL K H m xs ∧ (∀ z ∈ xs, Me z) ∧ Q (.bl b) H
theorem op_eqMe {X : Cx} (hu : X.A.units + 64 < cLine) : OpR X (compareOp .Eq) (rLstMe X.K true) := by
  intro pins s σ H x y v u Q I rx ry h
  obtain ⟨l, m, xs, rfl, rfl, hl, hm, me, q⟩ := h
  exact op_eqV hu pins s σ H _ _ v u Q I rx ry ⟨1, by decide, .inl ⟨l, m, xs, xs, rfl, rfl, hl, hm, me_pair 0 me⟩, q⟩
theorem boot_repr : bootBuiltins "repr" = some (.builtin "repr") := by decide +kernel
theorem t_int {i : Int} (h : Sm i) : tiny (.int i) = some (.int i) := if_pos (Nat.lt_of_lt_of_le h (by decide +kernel))
theorem t_nm {z : Str} (h : Nm z) : tiny (.str z) = some (.str z) := if_pos (Nat.le_trans (repr_abc_len h) (by decide))
section
variable {P : Program} {w : World} {K : PySem.W.Frag} {mg : Str → Option Value} {base : Heap} {f cT : Addr} {fd : FuncData}
theorem scLtext : FnScope ["_law_label", "_law_amount"] ["_law_label", "_law_amount"] (defScope (top 40)) := ⟨rfl, rfl, rfl, by decide +kernel, rfl, by decide +kernel, by decide +kernel⟩
theorem mul_0 : Txt.mul "+" 0 = Str.empty := rfl
theorem mul_1 : Txt.mul "+" 1 = "+" := rfl
theorem ok_ltext (N : Nam mg) (F : Fun K "_law_text" "_law_text" (top 40) f fd) : FnOk P w K mg base CX0 1 f fd ["_law_label", "_law_amount"] spText := by
  refine F.ok scLtext (fun vs H Q E h => ?_) (fun cdv A outer s H vs Q E hr h => ?_)
  · obtain ⟨_, _, rfl, _⟩ := h
    rfl
  · obtain ⟨z, i, rfl, nm, sm, go⟩ := h
    refine ⟨_, pss_cons (ps_if (pt_cmpR op_eq (pv 1) pe_int (nomark _)) (pss_one (ps_ret (pv 0))) pss_nil)
      (pss_one (ps_ret (pe_op op_add_str (pe_op op_add_str (pv 0) (pe_op op_mulS pe_str (pe_callTy call_int1 rfl N.int_ boot_int' (pa_cons (pe_cmpR op_gt (pv 1) pe_int (nomark _)) pa_nil))))
        (pe_callTy call_str_int rfl N.str_ boot_str' (pa_cons (pv 1) pa_nil))))), ?_⟩
    refine ⟨_, rfl, rfl, _, rfl, ?_⟩
    have e1 : decide (V.int i = V.int 0) = decide (i = 0) := by simp
    rw [e1]
    unfold ttext plusText at go
    have hz : z.length ≤ 8 := nm.le
    have l2 : (Str.ofString (toString i)).length ≤ 67 := by
      have e := int_text_length_le10 (k := 66) (by decide) sm
      rw [PyProof.Rows.ofString_len]
      omega
    have line : (100 : Nat) ≤ sizeLine := by decide
    have c1 : (("+" : String) : Str).length = 1 := rfl
    have c0 : (Str.empty).length = 0 := rfl
    by_cases q : i = 0
    · rw [decide_eq_true q]
      rw [if_pos q] at go
      exact ⟨_, rfl, go⟩
    · rw [decide_eq_false q]
      rw [if_neg q] at go
      refine ⟨_, rfl, _, rfl, i, 0, rfl, rfl, .inr ⟨_, rfl, ?_⟩⟩
      by_cases p : i > 0
      · rw [if_neg (by omega)] at go
        rw [decide_eq_true p]
        refine ⟨_, 1, rfl, rfl, ⟨by decide, fun _ h => by simp at h, fun _ h => by simp at h⟩, ?_⟩
        rw [mul_1]
        refine ⟨_, _, rfl, rfl, by omega, _, rfl, i, rfl, sm_log sm, _, _, rfl, rfl, ?_, ?_⟩
        · rw [strLen_append]
          omega
        · rw [Str.append_assoc]
          exact go
      · rw [if_pos (by omega)] at go
        rw [decide_eq_false p]
        refine ⟨_, 0, rfl, rfl, ⟨by decide, fun h => absurd (by decide) h, fun h => absurd (by decide) h⟩, ?_⟩
        rw [mul_0]
        refine ⟨_, _, rfl, rfl, by omega, _, rfl, i, rfl, sm_log sm, _, _, rfl, rfl, ?_, ?_⟩
        · rw [strLen_append]
          omega
        · rw [Str.append_empty]
          exact go
end
end E10

set_option Elab.async false
set_option linter.all false
set_option maxRecDepth 100000
set_option maxHeartbeats 8000000
namespace E10
open L2 PySem PySem.Spec PyProof.Rows
/-- all that the law leans on of Term and Earliest -/
structure TopT (P : Program) (w : World) (K : PySem.W.Frag) (mg : Str → Option Value) (base : Heap) (cT cE : Addr) : Prop where
  T : TermF K cT
  M : MkT P w K mg base cT
  A : AddF P w K mg base cT
  R : RaddF P w K mg base cT
  S : SubF P w K mg base cT
  name : mg "Term" = some (.ref cT)
  pm : ∃ (p g : Addr) (fd : FuncData), PropOf K cT "moment" p g ∧ FnOk P w K mg base CX0 1 g fd ["self"] (spGet cT fun z _ => .str z) ∧ Binds K fd ["self"] []
  ps : ∃ (p g : Addr) (fd : FuncData), PropOf K cT "shift" p g ∧ FnOk P w K mg base CX0 1 g fd ["self"] (spGet cT fun _ i => .int i) ∧ Binds K fd ["self"] []
  st : ∃ (f : Addr) (fd : FuncData), FnOk P w K mg base CX0 2 f fd ["self"] (spStr cT ttext) ∧ Has K cT f "__str__" ∧ Binds K fd ["self"] []
  rp : ∃ (f : Addr) (fd : FuncData), FnOk P w K mg base CX0 1 f fd ["self"] (spStr cT rtext) ∧ Has K cT f "__repr__" ∧ Binds K fd ["self"] []
  eq : ∃ (f : Addr) (fd : FuncData), FnOk P w K mg base CX0 1 f fd ["self", "other"] (spSame K cT) ∧ Has K cT f "__eq__" ∧ Binds K fd ["self", "other"] []
  ne : NeBy K cT
  ca : ∃ (f : Addr) (fd : FuncData), StX.CallO K cT f ∧ FnOk P w K mg base CX0 5 f fd ["self", "times"] (spCall cT) ∧ Binds K fd ["self", "times"] [] ∧ ∃ g : List Value → List Value → List Value, KBn K fd ["self", "times"] 1 ["times"] g fun vs zs => vs ++ zs
  E : MkE P w K mg base cE
  oE : Own K cE
  nf : ∀ t ∈ ([.ref cT, .ref cE, .type "tuple", .type "list", .type "str", .type "NoneType", .type "int"] : List Value), PySem.W.notFirst K cT t = true
  no : ∀ t ∈ ([.ref cE, .type "tuple", .type "list", .type "str", .type "NoneType", .type "int"] : List Value), PySem.W.kitOne K t (.ref cT) = some false
theorem u1 {n : Nat} (h : n + 64 < cLine) : n + 1 < cLine := by omega
theorem u2 {n : Nat} (h : n + 64 < cLine) : n + 2 < cLine := by omega
theorem u0 {n : Nat} (h : n + 64 < cLine) : n < cLine := by omega
section
variable {X : Cx} {cT cE : Addr}
def tGetT (cT : Addr) (v : Str → Int → V) (ta : TE) : TE := fun σ H Q => ta σ H fun x H1 => ∃ a z i, x = .ref a ∧ TermAt cT H1 a z i ∧ Q (v z i) H1
theorem get_prop {f : Str} {v : Str → Int → V} {e : Expr} {pos : Pos} {ta : TE} (T : TermF X.K cT) (p : ∃ (p g : Addr) (fd : FuncData), PropOf X.K cT f p g ∧ FnOk X.prog X.w X.K X.mg X.base CX0 1 g fd ["self"] (spGet cT v) ∧ Binds X.K fd ["self"] []) (hr : Room 2 X.A) (he : PE X e ta)
    (hab : attributeBase e f X.env (eval e X.env) = eval e X.env) : PE X (.Attribute e f pos) (tGetT cT v ta) := by
  obtain ⟨p, g, fd, hp, F, b⟩ := p
  refine ⟨fun pins s σ H Q I h => ?_⟩
  refine attr_of hab (thn (he.run pins s σ H _ I h) fun u s1 ⟨x, H1, I1, rx, a, z, i, ex, ⟨dx, ea⟩, q⟩ => ?_)
  subst ex
  obtain rfl : u = Value.ref a := rx
  exact getprop_ok (dvs := []) (ds := []) (E := E0) I1 ea T.own.cl hp F hr b .nil pass0 ⟨a, z, i, rfl, ⟨dx, ea⟩, q⟩
end
section
variable {P : Program} {w : World} {K : PySem.W.Frag} {mg : Str → Option Value} {base : Heap} {f cT cE : Addr} {fd : FuncData}
def spIsTerm (cT : Addr) : Sp := fun vs H Q _ => ∃ (a : Addr) (z : Str) (i : Int), vs = [.ref a, .str z, .int i] ∧ TermAt cT H a z i ∧ Nm z ∧ Sm i ∧ ∀ H', Same H H' → Q (.bl true) H'
theorem scIsTerm : FnScope ["_law_told", "_law_label", "_law_amount"] ["_law_told", "_law_label", "_law_amount"] (defScope (top 41)) := ⟨rfl, rfl, rfl, by decide +kernel, rfl, by decide +kernel, by decide +kernel⟩
theorem ok_isTerm (N : Nam mg) (U : TopT P w K mg base cT cE) (DL : Def P w K mg base "_law_text" ["_law_label", "_law_amount"] 1 spText) (F : Fun K "_law_is_term" "_law_is_term" (top 41) f fd) : FnG P w K mg base 5 f fd ["_law_told", "_law_label", "_law_amount"] (spIsTerm cT) := by
  refine Fun.okG F scIsTerm (fun {vs H Q E} h => ?_) (fun cdv A outer s H vs Q E hG hr h => ?_)
  · obtain ⟨_, _, _, rfl, _⟩ := h
    rfl
  · obtain ⟨a, z, i, rfl, ta, nm, sm, go⟩ := h
    have hu := hr.units
    obtain ⟨fS, fdS, FS, hS, bS⟩ := U.st
    obtain ⟨fR, fdR, FR, hR, bR⟩ := U.rp
    refine ⟨_, pss_cons (ps_if (PW.pt (pw_or (pt_not (pt_val (pe_callB call_isi rfl N.isi boot_isi (pa_cons (pv 0) (pa_cons (pgC rfl U.name) pa_nil)))))
          (pw_or1 (pt_cmpR op_ne (pe_callB (call_reprL hG hu) rfl N.rep boot_repr (pa_cons (pe_lst (pa_cons (get_prop U.T U.pm (hr.mono (by decide)) (pv 0) rfl) (pa_cons (get_prop U.T U.ps (hr.mono (by decide)) (pv 0) rfl) pa_nil))) pa_nil))
            (pe_callB (call_reprL hG hu) rfl N.rep boot_repr (pa_cons (pe_lst (pa_cons (pv 1) (pa_cons (pv 2) pa_nil))) pa_nil)) (nomark _))))) (pss_one (ps_ret pe_bl)) pss_nil)
      (pss_one (ps_ret (pe_cmpR (op_eqMe hu)
        (pe_lst (pa_cons (pe_callTy (call_strO (FnG.of FS) hG (hr.mono (by decide)) (u2 hu) bS hS) rfl N.str_ boot_str' (pa_cons (pv 0) pa_nil)) (pa_cons (pe_callB (call_reprO (FnG.of FR) hG (hr.mono (by decide)) (u1 hu) bR hR) rfl N.rep boot_repr (pa_cons (pv 0) pa_nil)) pa_nil)))
        (pe_lst (pa_cons (callD DL (hr.mono (by decide)) rfl (pa_cons (pv 1) (pa_cons (pv 2) pa_nil)))
          (pa_cons (pe_op op_add_str (pe_op op_add_str (pe_op op_add_str (pe_op op_add_str pe_str (pv 1)) pe_str) (pe_callTy call_str_int rfl N.str_ boot_str' (pa_cons (pv 2) pa_nil))) pe_str) pa_nil))) (nomark _)))), ?_⟩
    have ⟨dx, ha⟩ := ta
    refine ⟨_, rfl, _, _, _, _, _, rfl, .own _, U.T.own.ty ha, U.T.own.me, true, rfl, ?_⟩
    refine ⟨_, rfl, a, z, i, rfl, ta, _, rfl, a, z, i, rfl, ta, by show 2 ≤ sizeLine; decide, fun p np => ?_⟩
    refine ⟨p, _, [.str z, .int i], rfl, upd_same, by show 2 ≤ 40; decide, .cons (t_nm nm) (.cons (t_int sm) .nil), ?_⟩
    have s1 := new_same (o := .lst [.str z, .int i]) np
    refine ⟨_, rfl, _, rfl, by show 2 ≤ sizeLine; decide, fun p2 np2 => ?_⟩
    refine ⟨p2, _, [.str z, .int i], rfl, upd_same, by show 2 ≤ 40; decide, .cons (t_nm nm) (.cons (t_int sm) .nil), rfl, _, rfl, ?_⟩
    have s2 := s1.trans (new_same (o := .lst [.str z, .int i]) np2)
    rw [decide_eq_true rfl]
    have ta2 := ta.sm s2
    have ⟨dx2, ha2⟩ := ta2
    refine ⟨_, rfl, a, dx2, _, rfl, ha2, a, z, i, rfl, ta2, nm, sm, _, rfl, ?_⟩
    refine ⟨_, rfl, a, dx2, _, rfl, ha2, a, z, i, rfl, ta2, nm, sm, _, rfl, by show 2 ≤ sizeLine; decide, fun q nq => ?_⟩
    have s3 := s2.trans (new_same (o := .lst [.str (ttext z i), .str (rtext z i)]) nq)
    have hz : z.length ≤ 8 := nm.le
    have l2 : (Str.ofString (toString i)).length ≤ 67 := by
      have e := int_text_length_le10 (k := 66) (by decide) sm
      rw [PyProof.Rows.ofString_len]
      omega
    have line : (200 : Nat) ≤ sizeLine := by decide
    have c1 : (("Term('" : String) : Str).length = 6 := rfl
    have c2 : (("', " : String) : Str).length = 3 := rfl
    have c3 : ((")" : String) : Str).length = 1 := rfl
    refine ⟨_, rfl, _, rfl, z, i, rfl, nm, sm, _, rfl, _, _, rfl, rfl, by omega, _, _, rfl, rfl, ?_, _, rfl, i, rfl, sm_log sm, _, _, rfl, rfl, ?_, _, _, rfl, rfl, ?_, ?_⟩
    · rw [strLen_append]
      omega
    · rw [strLen_append, strLen_append]
      omega
    · rw [strLen_append, strLen_append, strLen_append]
      omega
    refine ⟨by show 2 ≤ sizeLine; decide, fun q2 nq2 => ?_⟩
    have s5 := new_same (o := .lst [.str (ttext z i), .str ((((("Term('" : String) : Str) ++ z ++ (("', " : String) : Str)) ++ Str.ofString (toString i)) ++ ((")" : String) : Str))]) nq2
    have s4 := s3.trans s5
    have et : (((("Term('" : String) : Str) ++ z ++ (("', " : String) : Str)) ++ Str.ofString (toString i)) ++ ((")" : String) : Str) = rtext z i := by
      unfold rtext
      rw [repr_abc nm]
      simp only [← Str.append_assoc]
      rfl
    refine ⟨q, q2, [.str (ttext z i), .str (rtext z i)], rfl, rfl, .inl (.inl (s5 _ _ upd_same)), ?_, ?_, go _ s4⟩
    · rw [← et]
      exact .inl (.inl upd_same)
    · intro y hy
      simp only [List.mem_cons, List.not_mem_nil, or_false] at hy
      rcases hy with rfl | rfl <;> exact .inl rfl
end
end E10

set_option Elab.async false
set_option linter.all false
set_option maxRecDepth 100000
set_option maxHeartbeats 4000000
namespace E10
open L2 PySem PySem.Spec PyProof.Rows
/-! ### names, mathematically -/
def ch (c : Nat) : Str := ⟨#[c]⟩
theorem fold_ch : ∀ (cs : List Nat) (acc : Array Nat), (cs.map ch).foldl (fun acc p => acc ++ ("" : Str).cps ++ p.cps) acc = acc ++ cs.toArray
  | [], acc => by simp
  | c :: cs, acc => by
    rw [List.map_cons, List.foldl_cons, fold_ch cs]
    have e : ("" : Str).cps = #[] := rfl
    rw [e]
    show acc ++ #[] ++ #[c] ++ cs.toArray = acc ++ (c :: cs).toArray
    simp
theorem join_ch (cs : List Nat) : Txt.join "" (cs.map ch) = ⟨cs.toArray⟩ := by
  unfold Txt.join
  rw [PySem.StrLaws.glued_eq_join]
  cases cs with
  | nil => rfl
  | cons c cs =>
    rw [List.map_cons, ← PySem.StrLaws.glued_cons, fold_ch]
    refine Str.ext' ?_
    show #[c] ++ cs.toArray = (c :: cs).toArray
    simp
theorem nm_of {cs : List Nat} (h0 : 0 < cs.length) (h8 : cs.length ≤ 8) (h : ∀ c ∈ cs, 97 ≤ c ∧ c ≤ 122) : Nm ⟨cs.toArray⟩ := ⟨by simpa [Str.length] using h0, by simpa [Str.length] using h8, by simpa using h⟩
theorem cut_six (z : Str) : (cutS z none (some 6)).cps.toList = z.cps.toList.take 6 := by
  unfold cutS
  rw [HT.sIx_none, show (some (6 : Int)) = some ((6 : Nat) : Int) from rfl, HT.sIx_nat]
  rw [List.drop_zero, Nat.sub_zero, List.toList_toArray]
  by_cases h : 6 ≤ z.length
  · rw [Nat.min_eq_left h]
  · rw [Nat.min_eq_right (by omega)]
    have e : z.length = z.cps.toList.length := by simp [Str.length]
    rw [List.take_of_length_le (by omega), List.take_of_length_le (by omega)]
/-- the further names that are drawn from a word -/
def vari (w : Str) (c : Nat) : Str := (cutS w none (some 6) ++ ch c) ++ ("q" : Str)
theorem vari_list (w : Str) (c : Nat) : (vari w c).cps.toList = w.cps.toList.take 6 ++ [c, 113] := by
  unfold vari
  rw [Str.cps_append, Str.cps_append, Array.toList_append, Array.toList_append, cut_six]
  show w.cps.toList.take 6 ++ [c] ++ [113] = _
  simp
theorem vari_nm {w : Str} {c : Nat} (h : Nm w) (hc : 97 ≤ c ∧ c ≤ 122) : Nm (vari w c) := by
  have e : vari w c = ⟨(w.cps.toList.take 6 ++ [c, 113]).toArray⟩ := by
    refine Str.ext' ?_
    apply Array.toList_inj.mp
    rw [vari_list]
  rw [e]
  refine nm_of (by simp) ?_ fun d hd => ?_
  · rw [List.length_append, List.length_take]
    simp
    omega
  · rcases List.mem_append.mp hd with q | q
    · exact h.abc d (List.mem_of_mem_take q)
    · simp at q
      omega
theorem vari_inj {w : Str} {c d : Nat} (h : vari w c = vari w d) : c = d := by
  have e := congrArg (fun z : Str => z.cps.toList) h
  simp only [vari_list] at e
  have := List.append_cancel_left e
  simp at this
  exact this
theorem nodup_le : ∀ {l m : List Str}, l.Nodup → (∀ x ∈ l, x ∈ m) → l.length ≤ m.length
  | [], _, _, _ => Nat.zero_le _
  | x :: l, m, nd, h => by
    rw [List.nodup_cons] at nd
    have hx := h x List.mem_cons_self
    have e : (m.erase x).length = m.length - 1 := List.length_erase_of_mem hx
    have r := nodup_le (l := l) (m := m.erase x) nd.2 fun y hy => by
      have ne : y ≠ x := fun q => nd.1 (q ▸ hy)
      exact (List.mem_erase_of_ne ne).mpr (h y (List.mem_cons_of_mem _ hy))
    have : 0 < m.length := List.length_pos_of_mem hx
    rw [List.length_cons]
    omega
theorem nodup_vari (w : Str) : ∀ {l : List Nat}, l.Nodup → (l.map (vari w)).Nodup
  | [], _ => List.nodup_nil
  | c :: l, h => by
    rw [List.nodup_cons] at h
    rw [List.map_cons, List.nodup_cons]
    refine ⟨fun m => ?_, nodup_vari w h.2⟩
    obtain ⟨d, hd, e⟩ := List.mem_map.mp m
    exact h.1 (vari_inj e ▸ hd)
/-- of 26 further names one is not among twelve -/
theorem fresh_vari (w : Str) {l : List Nat} (nd : l.Nodup) (many : 12 < l.length) {zs : List Str} (few : zs.length ≤ 12) : ∃ c ∈ l, vari w c ∉ zs := by
  refine Classical.byContradiction fun no => ?_
  have all : ∀ x ∈ l.map (vari w), x ∈ zs := fun x hx => by
    obtain ⟨c, hc, rfl⟩ := List.mem_map.mp hx
    exact Classical.byContradiction fun q => no ⟨c, hc, q⟩
  have := nodup_le (nodup_vari w nd) all
  rw [List.length_map] at this
  omega
theorem inV_str (z : Str) (zs : List Str) : inV (.str z) (zs.map V.str) = decide (z ∈ zs) := by
  unfold inV
  rw [List.any_map]
  rw [Bool.eq_iff_iff]
  simp only [List.any_eq_true, decide_eq_true_eq, Function.comp]
  constructor
  · rintro ⟨y, hy, e⟩
    have : y = z := by simpa [eqV] using e
    exact this ▸ hy
  · intro h
    exact ⟨z, h, by simp [eqV]⟩
end E10

set_option Elab.async false
set_option linter.all false
set_option maxRecDepth 100000
set_option maxHeartbeats 8000000
namespace E10
open L2 PySem PySem.Spec PyProof.Rows
abbrev abc : Str := "abcdefghijklmnopqrstuvwxyz"
theorem abc_at {i c : Nat} (h : abc.cps[i]? = some c) : i < 26 ∧ c = 97 + i := by
  have hi : i < abc.cps.size := (Array.getElem?_eq_some_iff.mp h).1
  have e : abc.cps.size = 26 := by decide +kernel
  have all : ∀ k : Fin 26, abc.cps[k.val]? = some (97 + k.val) := by decide +kernel
  have := all ⟨i, by omega⟩
  simp only at this
  rw [this] at h
  exact ⟨by omega, (Option.some.inj h).symm⟩
theorem abc_mem {c : Nat} (h : c ∈ abc.cps.toList) : 97 ≤ c ∧ c ≤ 122 := by
  obtain ⟨i, hi⟩ := List.getElem?_of_mem h
  rw [Array.getElem?_toList] at hi
  have := abc_at hi
  omega
theorem sum_ch : ∀ cs : List Nat, ((cs.map ch).map (·.length)).sum = cs.length
  | [] => rfl
  | c :: cs => by
    rw [List.map_cons, List.map_cons, List.sum_cons, sum_ch cs, List.length_cons]
    show 1 + cs.length = cs.length + 1
    omega
theorem PotAt.upd {H : Hp} {a D : Addr} {o : HO} (h : PotAt H a) (n : D ≠ a) : PotAt (L2.upd H D o) a := by
  obtain ⟨x, y, e, r⟩ := h
  exact ⟨x, y, (upd_ne n.symm).trans e, r⟩
section
variable {P : Program} {w : World} {K : PySem.W.Frag} {mg : Str → Option Value} {base : Heap} {f : Addr} {fd : FuncData}
/-- so many names -/
def spNames : Sp := fun vs H Q _ => ∃ (a : Addr) (m : Nat), vs = [.ref a, .int m] ∧ PotAt H a ∧ m ≤ 12 ∧ ∀ p H' (zs : List Str), zs.length = m → (∀ z ∈ zs, Nm z) → H p = none → H' p = some (.lst (zs.map V.str)) → PotAt H' a → SameB a H H' → Q (.ref p) H'
abbrev nNames : List Str := ["_law_pot_here", "_law_many", "_law_letters", "_law_found", "_law_k", "_law_size", "_law_word", "_law_some", "_law_turn", "_law_letter", "_law_name"]
theorem scNames : FnScope nNames ["_law_pot_here", "_law_many"] (defScope (top 38)) := ⟨rfl, rfl, rfl, by decide +kernel, rfl, by decide +kernel, by decide +kernel⟩
theorem ok_names (N : Nam mg) (DC : Def P w K mg base "_law_choice" ["_law_pot_here", "_law_some"] 2 spChoice) (F : Fun K "_law_names" "_law_names" (top 38) f fd) : FnOk P w K mg base CX0 3 f fd ["_law_pot_here", "_law_many"] spNames := by
  refine F.ok scNames (fun vs H Q E h => ?_) (fun cdv A outer s H vs Q E hr h => ?_)
  · obtain ⟨_, _, rfl, _⟩ := h
    rfl
  · obtain ⟨a, m, rfl, hp, hm, go⟩ := h
    refine ⟨_, pss_cons (ps_asg (pe_tup (pa_cons pe_str (pa_cons (pe_lst pa_nil) pa_nil))) (pg_tup rfl (pgs_cons (pg_name (i := 2) scNames.nd rfl (Or.inr rfl)) (pgs_cons (pg_name (i := 3) scNames.nd rfl (Or.inr rfl)) pgs_nil))))
      (pss_cons (ps_for PassesOwn.never rfl (pi_range1 rfl N.rng (pa_cons (pv 1) pa_nil)) (pg_name (i := 4) scNames.nd rfl (Or.inl rfl))
        (pss_cons (ps_set (i := 5) scNames.nd rfl (Or.inl rfl) (callD DC hr rfl (pa_cons (pv 0) (pa_cons (pe_lst (pa_cons pe_int (pa_cons pe_int (pa_cons pe_int (pa_cons pe_int (pa_cons pe_int pa_nil)))))) pa_nil))))
        (pss_cons (ps_set (i := 6) scNames.nd rfl (Or.inr rfl) (pe_join pe_str (pe_lc (own := [("_law_turn", 8)]) (g := gName 8) (tt := tYes) rfl scNames.nd (pi_range1 rfl N.rng (pa_cons (pv 5) pa_nil))
          (blkOk_by (own := [("_law_turn", 8)]) (N := nNames) (sc := defScope (top 38)) (by decide +kernel)) (fun _ _ _ _ _ => pg_name (i := 8) scNames.nd rfl (Or.inl rfl)) (fun _ _ _ _ _ => pts_nil)
          (fun _ _ _ _ _ => callD DC hr rfl (pa_cons (pv 0) (pa_cons (pv 2) pa_nil))))))
        (pss_cons (ps_set (i := 7) scNames.nd rfl (Or.inl rfl) (pe_op op_cat (pe_lst (pa_cons (pv 6) pa_nil)) (pe_lc (own := [("_law_letter", 9)]) (g := gName 9) (tt := tYes) rfl scNames.nd (pi_str (pv 2))
          (blkOk_by (own := [("_law_letter", 9)]) (N := nNames) (sc := defScope (top 38)) (by decide +kernel)) (fun _ _ _ _ _ => pg_name (i := 9) scNames.nd rfl (Or.inl rfl)) (fun _ _ _ _ _ => pts_nil)
          (fun _ _ _ _ _ => pe_op op_add_str (pe_op op_add_str (pe_slice sl_str (pv 6) po_none (po_some pe_int)) (pv 9)) pe_str))))
        (pss_one (ps_expr (pe_bm PySem.F.plainAttrs_list PySem.F.slot_list_append PySem.F.type_list_append mt_append (pv 3) (pa_cons (pe_ix ix_list (pe_lc (own := [("_law_name", 10)]) (g := gName 10) (tt := tTest (tOp (rIn K true) (tVar 10) (tVar 3))) rfl scNames.nd (pi_list (pv 7))
          (blkOk_by (own := [("_law_name", 10)]) (N := nNames) (sc := defScope (top 38)) (by decide +kernel)) (fun _ _ _ _ _ => pg_name (i := 10) scNames.nd rfl (Or.inl rfl)) (fun _ _ _ _ _ => pts_one (pt_cmpR op_notIn_seq (pv 10) (pv 3) (by rfl)))
          (fun _ _ _ _ _ => pv 10)) pe_int (fun _ _ => rfl)) pa_nil))))))))
      (pss_one (ps_ret (pv 3)))), ?_⟩
    refine ⟨by show 0 ≤ sizeLine; decide, fun L nL => ⟨by show 2 ≤ sizeLine; decide, fun T nT => ?_⟩⟩
    obtain ⟨x0, y0, ha, hxy⟩ := id hp
    have La : L ≠ a := (ne_of_none ha nL).symm
    have s0 := new_same (o := .lst []) nL
    have s1 := s0.trans (new_same (o := .tup [.str abc, .ref L]) nT)
    have hL : upd (upd H L (.lst [])) T (.tup [.str abc, .ref L]) L = some (.lst []) := (new_same nT) _ _ upd_same
    refine ⟨T, _, rfl, .inl (.inl upd_same), rfl, _, _, rfl, _, _, rfl, rfl, ?_⟩
    refine ⟨_, rfl, _, rfl, by omega, by omega, ?_⟩
    have em : ((m : Int)).toNat = m := rfl
    refine for_it (walk_range (lo := 0) (n := ((m : Int)).toNat)) (fun i σ H' => ∃ (zs : List Str) (u4 u5 u6 u7 u8 u9 u10 : Option V), σ = [some (.ref a), some (.int m), some (.str abc), some (.ref L), u4, u5, u6, u7, u8, u9, u10] ∧ zs.length = i ∧ (∀ z ∈ zs, Nm z) ∧
      H' L = some (.lst (zs.map V.str)) ∧ PotAt H' a ∧ SameB a H H') ⟨[], _, _, _, _, _, _, _, rfl, rfl, (fun z h => by cases h), hL, hp.sm s1, SameB.of s1⟩ (fun _ _ _ _ _ => True.intro) ?_ ?_
    · rintro i x σ H1 H1' lt ⟨zs, u4, u5, u6, u7, u8, u9, u10, rfl, lz, az, hLz, p1, sb1⟩ ⟨rfl, rfl⟩
      have few : zs.length ≤ 12 := by rw [em] at lt; omega
      -- the size
      refine ⟨_, rfl, by show 5 ≤ sizeLine; decide, fun q nq => ?_⟩
      have sq := new_same (o := .lst [.int 1, .int 1, .int 2, .int 3, .int 8]) nq
      have qa : q ≠ a := by
        obtain ⟨_, _, e, _⟩ := p1
        exact (ne_of_none e nq).symm
      refine ⟨a, .ref q, rfl, p1.sm sq, .inl ⟨q, _, rfl, upd_same, qa, by decide, by decide, fun v hv H2 p2 sb2 => ?_⟩⟩
      obtain ⟨n, rfl, n1, n8⟩ : ∃ n : Nat, v = .int n ∧ 0 < n ∧ n ≤ 8 := by
        simp only [List.mem_cons, List.not_mem_nil, or_false] at hv
        rcases hv with rfl | rfl | rfl | rfl | rfl
        · exact ⟨1, rfl, by decide, by decide⟩
        · exact ⟨1, rfl, by decide, by decide⟩
        · exact ⟨2, rfl, by decide, by decide⟩
        · exact ⟨3, rfl, by decide, by decide⟩
        · exact ⟨8, rfl, by decide, by decide⟩
      have hL2 : H2 L = some (.lst (zs.map V.str)) := sb2 _ _ (sq _ _ hLz) La
      have sb12 := (sb1.trans (SameB.of sq)).trans sb2
      -- the word
      refine ⟨⟨_, rfl⟩, _, rfl, _, rfl, by omega, by omega, fun D nD => ?_⟩
      have Da : D ≠ a := by
        obtain ⟨_, _, e, _⟩ := p2
        exact (ne_of_none e nD).symm
      refine lc_it (walk_range (lo := 0) (n := ((n : Int)).toNat)) (fun j H3 => PotAt H3 a ∧ SameB a H2 H3 ∧ ∃ cs : List Nat, cs.length = j ∧ (∀ c ∈ cs, 97 ≤ c ∧ c ≤ 122) ∧ H3 D = some (.lst ((cs.map ch).map V.str)))
        ⟨p2.sm (new_same nD), SameB.of (new_same nD), [], rfl, fun c h => (by cases h), upd_same⟩ (fun _ _ _ _ => True.intro) ?_ ?_
      · rintro j y H3 H3' lj ⟨p3, sb3, cs, lc, ac, hD⟩ ⟨rfl, rfl⟩
        refine ⟨rfl, ?_⟩
        refine ⟨_, rfl, _, rfl, a, .str abc, rfl, p3, .inr ⟨abc, rfl, by decide, by decide, fun c hc H4 p4 sb4 => ?_⟩⟩
        have hD4 := sb4 _ _ hD Da
        refine ⟨_, hD4, ?_, p4.upd Da, fun b o e nb => ?_, cs ++ [c], by rw [List.length_append, lc]; rfl, fun d hd => ?_, ?_⟩
        · rw [List.length_map, List.length_map, lc]
          have : j < 8 := by have : ((n : Int)).toNat = n := rfl; omega
          exact Nat.lt_trans this (by decide)
        · rw [upd_ne (ne_of_none e nD)]
          exact sb4 _ _ (sb3 _ _ e nb) nb
        · rcases List.mem_append.mp hd with h | h
          · exact ac d h
          · rw [List.mem_singleton.mp h]
            exact abc_mem hc
        · rw [upd_same, List.map_append, List.map_append]
          rfl
      · rintro H3 ⟨p3, sb3, cs, lc, ac, hD⟩
        have en : ((n : Int)).toNat = n := rfl
        refine ⟨_, D, cs.map ch, rfl, rfl, .inl (.inl (.inl hD)), ?_, ?_⟩
        · rw [sum_ch, List.length_map, show (("" : String) : Str).length = 0 from rfl]
          omega
        rw [join_ch]
        have nw : Nm ⟨cs.toArray⟩ := nm_of (by omega) (by omega) ac
        generalize (⟨cs.toArray⟩ : Str) = wd at nw
        have hL3 : H3 L = some (.lst (zs.map V.str)) := sb3 _ _ hL2 La
        have sb13 := sb12.trans sb3
        -- the word and the further ones
        refine ⟨_, rfl, by show 1 ≤ sizeLine; decide, fun q1 nq1 => ?_⟩
        have sq1 := new_same (o := .lst [.str wd]) nq1
        refine ⟨_, rfl, _, rfl, fun D2 nD2 => ?_⟩
        refine lc_map (walk_str (z := abc)) (fun i => .str (vari wd (97 + i))) nD2 (by decide +kernel) (fun _ _ => True.intro) (fun _ _ _ _ y => by rw [y.1]; exact Same.refl _) ?_ ?_
        · rintro j y H4 H4' R lj sm _ ⟨rfl, c, hc, rfl⟩ go2
          obtain ⟨_, rfl⟩ := abc_at hc
          refine ⟨rfl, ?_⟩
          have wl : wd.length ≤ sizeLine := Nat.le_trans nw.le (by decide)
          have vl : (vari wd (97 + j)).length ≤ 8 := (vari_nm nw (by omega)).le
          have vl' : (cutS wd none (some 6)).length + 1 + 1 ≤ 8 := by
            have e : (vari wd (97 + j)).length = (cutS wd none (some 6)).length + 1 + 1 := by
              unfold vari
              rw [strLen_append, strLen_append]
              rfl
            omega
          have line : (8 : Nat) ≤ sizeLine := by decide
          refine ⟨_, rfl, 6, rfl, wd, rfl, wl, _, rfl, _, _, rfl, rfl, ?_, _, _, rfl, rfl, ?_, ?_⟩
          · show (cutS wd none (some 6)).length + 1 ≤ sizeLine
            omega
          · show ((cutS wd none (some 6)) ++ ch (97 + j)).length + 1 ≤ sizeLine
            rw [strLen_append]
            show (cutS wd none (some 6)).length + 1 + 1 ≤ sizeLine
            omega
          · exact go2 _ (Same.refl _)
        · intro H4 s4 hD2
          rw [show abc.cps.size = 26 by decide +kernel] at hD2
          have s34 := sq1.trans s4
          have hq1 := s4 _ _ upd_same
          refine ⟨q1, D2, _, _, rfl, rfl, hq1, hD2, by rw [List.length_map, List.length_range]; show 1 + 26 ≤ sizeLine; decide, fun r nr => ?_⟩
          have ew : [V.str wd] ++ (List.range 26).map (fun i => V.str (vari wd (97 + i))) = (wd :: (List.range 26).map fun i => vari wd (97 + i)).map V.str := by
            rw [List.map_cons, List.map_map]
            rfl
          rw [ew]
          have hw : ∀ y ∈ (wd :: (List.range 26).map fun i => vari wd (97 + i)), Nm y := fun y hy => by
            rcases List.mem_cons.mp hy with rfl | hy
            · exact nw
            · obtain ⟨k, hk, rfl⟩ := List.mem_map.mp hy
              have := List.mem_range.mp hk
              exact vari_nm nw (by omega)
          have some_new : ∃ y ∈ (wd :: (List.range 26).map fun i => vari wd (97 + i)), y ∉ zs := by
            obtain ⟨c, hc, q⟩ := fresh_vari wd (l := (List.range 26).map (97 + ·)) (by decide +kernel) (by decide +kernel) few
            obtain ⟨k, hk, rfl⟩ := List.mem_map.mp hc
            exact ⟨_, List.mem_cons_of_mem _ (List.mem_map.mpr ⟨k, hk, rfl⟩), q⟩
          have lw : (wd :: (List.range 26).map fun i => vari wd (97 + i)).length = 27 := by rw [List.length_cons, List.length_map, List.length_range]
          generalize (wd :: (List.range 26).map fun i => vari wd (97 + i)) = ws at hw some_new lw
          have s5 := new_same (o := .lst (ws.map V.str)) nr
          have s35 := s34.trans s5
          have hL5 := s35 _ _ hL3
          -- the first that is not there yet
          refine ⟨_, rfl, Or.inl ⟨rfl, _, Or.inl (Or.inl hL5)⟩, _, rfl, r, rfl, ⟨_, .inl (.inl upd_same)⟩, fun D3 nD3 => ?_⟩
          refine lc_it (walk_list (xs := ws.map V.str)) (fun j H6 => Same (upd H4 r (.lst (ws.map V.str))) H6 ∧ H6 D3 = some (.lst (((ws.take j).filter fun y => !decide (y ∈ zs)).map V.str))) ⟨new_same nD3, upd_same⟩ (fun j H6 _ h => .inl (.inl (h.1 _ _ upd_same))) ?_ ?_
          · rintro j y H6 H6' lj ⟨s6, hD3⟩ ⟨rfl, hy⟩
            obtain ⟨z, hz, rfl⟩ : ∃ z, ws[j]? = some z ∧ y = .str z := by
              rw [List.getElem?_map] at hy
              cases hq : ws[j]? with
              | none => rw [hq] at hy; cases hy
              | some z => rw [hq] at hy; exact ⟨z, rfl, (Option.some.inj hy).symm⟩
            refine ⟨rfl, ?_⟩
            refine ⟨_, rfl, _, rfl, L, zs.map V.str, rfl, .inl (.inl (.inl (s6 _ _ hL5))), rfl, ?_, _, rfl, ?_⟩
            · rw [List.all_map]
              exact List.all_eq_true.mpr fun _ _ => rfl
            rw [inV_str]
            have et : ws.take (j + 1) = ws.take j ++ [z] := by rw [List.take_add_one, hz]; rfl
            by_cases m : z ∈ zs
            · rw [decide_eq_true m]
              refine ⟨s6, ?_⟩
              rw [et, List.filter_append]
              have e0 : ([z].filter fun y => !decide (y ∈ zs)) = [] := by simp [m]
              rw [e0, List.append_nil]
              exact hD3
            · rw [decide_eq_false m]
              refine ⟨_, rfl, _, hD3, ?_, fun b o e => ?_, ?_⟩
              · rw [List.length_map]
                have l1 := List.length_filter_le (fun y => !decide (y ∈ zs)) (ws.take j)
                have l2 : (ws.take j).length ≤ 27 := by rw [List.length_take]; omega
                exact Nat.lt_of_le_of_lt (Nat.le_trans l1 l2) (by decide)
              · rw [upd_ne (ne_of_none e nD3)]
                exact s6 _ _ e
              · rw [upd_same, et, List.filter_append]
                have e0 : ([z].filter fun y => !decide (y ∈ zs)) = [z] := by simp [m]
                rw [e0, List.map_append]
                rfl
          · rintro H6 ⟨s6, hD3⟩
            rw [List.length_map, List.take_length] at hD3
            obtain ⟨y0, hy0, ny0⟩ := some_new
            have ne : (ws.filter fun y => !decide (y ∈ zs)) ≠ [] := fun q => by
              have : y0 ∈ (ws.filter fun y => !decide (y ∈ zs)) := List.mem_filter.mpr ⟨hy0, by simp [ny0]⟩
              rw [q] at this
              cases this
            obtain ⟨y1, rest, ef⟩ := List.exists_cons_of_ne_nil ne
            have ny1 : Nm y1 := hw y1 (List.mem_filter.mp (ef ▸ List.mem_cons_self : y1 ∈ ws.filter fun y => !decide (y ∈ zs))).1
            rw [ef, List.map_cons] at hD3
            have s36 := s35.trans s6
            have hL6 := s6 _ _ hL5
            refine ⟨D3, _, 0, .str y1, rfl, rfl, .inl (.inl hD3), atI_nat (j := 0) rfl, ?_⟩
            refine ⟨L, _, _, rfl, rfl, hL6, ?_, ?_⟩
            · rw [List.length_map]
              exact Nat.lt_of_le_of_lt few (by decide)
            refine ⟨zs ++ [y1], _, _, _, _, _, _, _, rfl, by rw [List.length_append, lz]; rfl, fun z hz => ?_, ?_, (p3.sm s36).upd La, fun b o e nb => ?_⟩
            · rcases List.mem_append.mp hz with h | h
              · exact az z h
              · rw [List.mem_singleton.mp h]
                exact ny1
            · rw [upd_same, List.map_append]
              rfl
            · rw [upd_ne (ne_of_none e nL)]
              exact s36 _ _ (sb13 _ _ e nb)
    · rintro σ H3 ⟨zs, u4, u5, u6, u7, u8, u9, u10, rfl, lz, az, hLz, p1, sb1⟩
      exact ⟨_, rfl, go L H3 zs lz az nL hLz p1 sb1⟩
end
end E10

set_option Elab.async false
set_option linter.all false
set_option maxRecDepth 100000
set_option maxHeartbeats 8000000
namespace E10
open L2 PySem PySem.Spec PyProof.Rows
/-- no Term of this moment with this shift -/
def Unlike (cT cE : Addr) (H : Hp) (z : Str) (i : Int) (y : V) : Prop := (∃ b z' i', y = .ref b ∧ TermAt cT H b z' i' ∧ (z = z' → i = i' → False)) ∨ (∃ b, y = .ref b ∧ EarliestAt cE H b) ∨ (∃ b xs, y = .ref b ∧ H b = some (.tup xs)) ∨
  (∃ b xs, y = .ref b ∧ H b = some (.lst xs)) ∨ (∃ s, y = .str s) ∨ y = .non ∨ (∃ n, y = .int n)
theorem Unlike.sm {cT cE : Addr} {H H' : Hp} {z : Str} {i : Int} {y : V} (s : Same H H') (h : Unlike cT cE H z i y) : Unlike cT cE H' z i y := by
  rcases h with ⟨b, z', i', e, t, n⟩ | ⟨b, e, dx, fs, h⟩ | ⟨b, xs, e, h⟩ | ⟨b, xs, e, h⟩ | h | h | h
  · exact .inl ⟨b, z', i', e, t.sm s, n⟩
  · exact .inr (.inl ⟨b, e, dx, fs, s _ _ h⟩)
  · exact .inr (.inr (.inl ⟨b, xs, e, s _ _ h⟩))
  · exact .inr (.inr (.inr (.inl ⟨b, xs, e, s _ _ h⟩)))
  · exact .inr (.inr (.inr (.inr (.inl h))))
  · exact .inr (.inr (.inr (.inr (.inr (.inl h)))))
  · exact .inr (.inr (.inr (.inr (.inr (.inr h)))))
theorem if_str {c : Bool} {x y : Str} {σ : L2.St} {H : Hp} {Q : VK} (h : Q (.str (if c = true then x else y)) H) : if c = true then tC (.str x) σ H Q else tC (.str y) σ H Q := by
  cases c <;> exact h
theorem like_true {z : Str} {i : Int} : (decide (z = z) && decide (i = i)) = true := by simp
theorem nm_q : Nm "q" := ⟨by decide, by decide, by decide +kernel⟩
theorem nm_r : Nm "r" := ⟨by decide, by decide, by decide +kernel⟩
theorem sn_sm {i : Int} (h : Sn i) : Sm i := Nat.lt_trans h (by decide +kernel)
section
variable {P : Program} {w : World} {K : PySem.W.Frag} {mg : Str → Option Value} {base : Heap} {f cT cE : Addr} {fd : FuncData}
/-- what == of a Term and such a thing goes by -/
theorem Unlike.asks (U : TopT P w K mg base cT cE) {H : Hp} {a : Addr} {z : Str} {i : Int} {y : V} {Q : VK} (ta : TermAt cT H a z i) (h : Unlike cT cE H z i y) (q : Q (.bl false) H) :
    ∃ tb, TyX K H y tb ∧ PySem.W.notFirst K cT tb = true ∧ spSame K cT [.ref a, y] H Q E0 := by
  have nf := U.nf
  have no := U.no
  have go : ∀ {t : Value}, TyX K H y t → t ∈ ([.ref cE, .type "tuple", .type "list", .type "str", .type "NoneType", .type "int"] : List Value) → ∃ tb, TyX K H y tb ∧ PySem.W.notFirst K cT tb = true ∧ spSame K cT [.ref a, y] H Q E0 := fun {t} ty m =>
    ⟨t, ty, nf t (List.mem_cons_of_mem _ m), a, z, i, y, rfl, ta, .inr ⟨t, ty, no t m, q⟩⟩
  rcases h with ⟨b, z', i', rfl, t, n⟩ | ⟨b, rfl, dx, fs, h⟩ | ⟨b, xs, rfl, h⟩ | ⟨b, xs, rfl, h⟩ | ⟨s, rfl⟩ | rfl | ⟨n, rfl⟩
  · have ⟨dy, hb⟩ := t
    refine ⟨.ref cT, U.T.own.ty hb, nf _ List.mem_cons_self, a, z, i, _, rfl, ta, .inl ⟨b, z', i', rfl, t, ?_⟩⟩
    have e : (decide (z = z') && decide (i = i')) = false := by
      by_cases e1 : z = z'
      · rw [decide_eq_false fun e2 => n e1 e2, Bool.and_false]
      · rw [decide_eq_false e1, Bool.false_and]
    rw [e]
    exact q
  · exact go (U.oE.ty h) (by simp)
  · exact go (.base (.tup h)) (by simp)
  · exact go (.base (.lst h)) (by simp)
  · exact go (.base (.str s)) (by simp)
  · exact go (.base .non) (by simp)
  · exact go (.base (.int n)) (by simp)
theorem Like.asks (U : TopT P w K mg base cT cE) {H : Hp} {a b : Addr} {z : Str} {i : Int} {Q : VK} (ta : TermAt cT H a z i) (tb : TermAt cT H b z i) (q : Q (.bl true) H) :
    ∃ t, TyX K H (.ref b) t ∧ PySem.W.notFirst K cT t = true ∧ spSame K cT [.ref a, .ref b] H Q E0 := by
  have ⟨dy, hb⟩ := tb
  refine ⟨.ref cT, U.T.own.ty hb, U.nf _ List.mem_cons_self, a, z, i, _, rfl, ta, .inl ⟨b, z, i, rfl, tb, ?_⟩⟩
  have e : (decide (z = z) && decide (i = i)) = true := by simp
  rw [e]
  exact q
def spEquals (cT : Addr) : Sp := fun vs H Q _ => ∃ (a t : Addr) (z : Str) (i : Int) (bs : List Addr), vs = [.ref a, .ref t, .str z, .int i] ∧ TermAt cT H a z i ∧ Nm z ∧ Sn i ∧ H t = some (.lst (bs.map V.ref)) ∧ bs.length ≤ 20 ∧ (∀ b ∈ bs, TermAt cT H b z i) ∧ ∀ H', Same H H' → Q (.bl true) H'
abbrev nEquals : List Str := ["_law_made", "_law_twins", "_law_label", "_law_amount", "_law_name", "_law_others", "_law_strange", "_law_one"]
theorem scEquals : FnScope nEquals ["_law_made", "_law_twins", "_law_label", "_law_amount"] (defScope (top 42)) := ⟨rfl, rfl, rfl, by decide +kernel, rfl, by decide +kernel, by decide +kernel⟩
theorem ok_equals (N : Nam mg) (U : TopT P w K mg base cT cE) (F : Fun K "_law_equals_right" "_law_equals_right" (top 42) f fd) : FnG P w K mg base 6 f fd ["_law_made", "_law_twins", "_law_label", "_law_amount"] (spEquals cT) := by
  refine Fun.okG F scEquals (fun {vs H Q E} h => ?_) (fun cdv A outer s H vs Q E hG hr h => ?_)
  · obtain ⟨_, _, _, _, _, rfl, _⟩ := h
    rfl
  · obtain ⟨a, t, z, i, bs, rfl, ta, nm, sn, ht, lb, tb, go⟩ := h
    have hu := hr.units
    obtain ⟨fS, fdS, FS, hS, bS⟩ := U.st
    obtain ⟨fQ, fdQ, FQ, hQ, bQ⟩ := U.eq
    refine ⟨_, pss_cons (ps_set (i := 4) scEquals.nd rfl (Or.inl rfl) (pe_ifExp (pt_cmpR op_ne (pv 2) pe_str (nomark _)) pe_str pe_str))
      (pss_cons (ps_set (i := 5) scEquals.nd rfl (Or.inl rfl) (pe_lst (pa_cons (mkT2 U.M (hr.mono (by decide)) rfl (pa_cons (pv 2) (pa_cons (pe_op op_add (pv 3) pe_int) pa_nil)))
        (pa_cons (mkT2 U.M (hr.mono (by decide)) rfl (pa_cons (pv 2) (pa_cons (pe_op op_sub (pe_un un_neg (pv 3)) pe_int) pa_nil))) (pa_cons (mkT2 U.M (hr.mono (by decide)) rfl (pa_cons (pv 4) (pa_cons (pv 3) pa_nil))) pa_nil)))))
      (pss_cons (ps_set (i := 6) scEquals.nd rfl (Or.inl rfl) (pe_lst (pa_cons (mkE U.E hr rfl (pa_cons (pe_disp (pps_cons (pv 2) (pv 3) pps_nil) rfl rfl (by intro q; cases q) (by show 1 ≤ 15; decide)) pa_nil))
        (pa_cons (pe_tup (pa_cons (pv 2) (pa_cons (pv 3) pa_nil))) (pa_cons (pe_lst (pa_cons (pv 2) (pa_cons (pv 3) pa_nil))) (pa_cons (pe_callTy (call_strO (FnG.of FS) hG (hr.mono (by decide)) (u2 hu) bS hS) rfl N.str_ boot_str' (pa_cons (pv 0) pa_nil))
        (pa_cons pe_non (pa_cons (pv 3) (pa_cons (pv 2) (pa_cons (pe_lst (pa_cons (pv 0) pa_nil)) pa_nil))))))))))
      (pss_cons (ps_if (PW.pt (pw_or (pt_val (pe_callB (cr_any rfl) rfl N.any_ boot_any' (pa_cons (pe_lc (own := [("_law_one", 7)]) (g := gName 7) (tt := tYes) (te := tOp (rEqO K cT (spSame K cT)) (tVar 0) (tVar 7)) rfl scEquals.nd (pi_list (pe_op op_cat (pv 5) (pv 6)))
            (blkOk_by (own := [("_law_one", 7)]) (N := nEquals) (sc := defScope (top 42)) (by decide +kernel)) (fun _ _ _ _ _ => pg_name (i := 7) scEquals.nd rfl (Or.inl rfl)) (fun _ _ _ _ _ => pts_nil)
            (fun _ _ _ _ _ => pe_cmpR (op_eqO (FnG.of FQ) hG (hr.mono (by decide)) (u0 hu) bQ hQ) (pv 0) (pv 7) (nomark _))) pa_nil)))
          (pw_or1 (pt_not (pt_val (pe_callB (cr_all rfl) rfl N.all_ boot_all' (pa_cons (pe_lc (own := [("_law_one", 7)]) (g := gName 7) (tt := tYes) (te := tOp (rNeO K cT (spSame K cT)) (tVar 0) (tVar 7)) rfl scEquals.nd (pi_list (pe_op op_cat (pv 5) (pv 6)))
            (blkOk_by (own := [("_law_one", 7)]) (N := nEquals) (sc := defScope (top 42)) (by decide +kernel)) (fun _ _ _ _ _ => pg_name (i := 7) scEquals.nd rfl (Or.inl rfl)) (fun _ _ _ _ _ => pts_nil)
            (fun _ _ _ _ _ => pe_cmpR (op_neO (FnG.of FQ) hG (hr.mono (by decide)) (u1 hu) bQ hQ U.ne) (pv 0) (pv 7) (nomark _))) pa_nil))))))) (pss_one (ps_ret pe_bl)) pss_nil)
      (pss_one (ps_ret (pe_and (pe_callB (cr_all rfl) rfl N.all_ boot_all' (pa_cons (pe_lc (own := [("_law_one", 7)]) (g := gName 7) (tt := tYes) (te := tAndV (tOp (rEqO K cT (spSame K cT)) (tVar 0) (tVar 7)) (tOp (rEqO K cT (spSame K cT)) (tVar 7) (tVar 0))) rfl scEquals.nd (pi_list (pv 1))
            (blkOk_by (own := [("_law_one", 7)]) (N := nEquals) (sc := defScope (top 42)) (by decide +kernel)) (fun _ _ _ _ _ => pg_name (i := 7) scEquals.nd rfl (Or.inl rfl)) (fun _ _ _ _ _ => pts_nil)
            (fun _ _ _ _ _ => pe_and (pe_cmpR (op_eqO (FnG.of FQ) hG (hr.mono (by decide)) (u0 hu) bQ hQ) (pv 0) (pv 7) (nomark _)) (pe_one (pe_cmpR (op_eqO (FnG.of FQ) hG (hr.mono (by decide)) (u0 hu) bQ hQ) (pv 7) (pv 0) (nomark _))))) pa_nil))
          (pe_one (pe_not (pe_callB (cr_any rfl) rfl N.any_ boot_any' (pa_cons (pe_lc (own := [("_law_one", 7)]) (g := gName 7) (tt := tYes) (te := tOp (rNeO K cT (spSame K cT)) (tVar 0) (tVar 7)) rfl scEquals.nd (pi_list (pv 1))
            (blkOk_by (own := [("_law_one", 7)]) (N := nEquals) (sc := defScope (top 42)) (by decide +kernel)) (fun _ _ _ _ _ => pg_name (i := 7) scEquals.nd rfl (Or.inl rfl)) (fun _ _ _ _ _ => pts_nil)
            (fun _ _ _ _ _ => pe_cmpR (op_neO (FnG.of FQ) hG (hr.mono (by decide)) (u1 hu) bQ hQ U.ne) (pv 0) (pv 7) (nomark _))) pa_nil)))))))))), ?_⟩
    have sm := sn_sm sn
    refine ⟨_, rfl, rfl, _, rfl, if_str ?_⟩
    have en : ∃ nz, (if (!decide (V.str z = V.str "q")) = true then ("q" : Str) else "r") = nz ∧ Nm nz ∧ (z = nz → False) := by
      by_cases q : z = "q"
      · subst q
        exact ⟨"r", by rw [decide_eq_true rfl]; rfl, nm_r, by decide⟩
      · have : decide (V.str z = V.str "q") = false := decide_eq_false fun e => q (by simpa using e)
        exact ⟨"q", by rw [this]; rfl, nm_q, q⟩
    obtain ⟨nz, en, nn, unz⟩ := en
    rw [en]
    -- the other Terms
    refine ⟨_, rfl, _, rfl, i, 1, rfl, rfl, z, i + 1, rfl, nm, fun x1 H1 nx1 s1 t1 => ?_⟩
    refine ⟨_, rfl, _, rfl, i, rfl, -i, 1, rfl, rfl, z, -i - 1, rfl, nm, fun x2 H2 nx2 s2 t2 => ?_⟩
    refine ⟨_, rfl, _, rfl, nz, i, rfl, nn, fun x3 H3 nx3 s3 t3 => ⟨by show 3 ≤ sizeLine; decide, fun o no => ?_⟩⟩
    have s4 := new_same (o := .lst [.ref x1, .ref x2, .ref x3]) no
    have u1' : Unlike cT cE (upd H3 o (.lst [.ref x1, .ref x2, .ref x3])) z i (.ref x1) := .inl ⟨x1, z, i + 1, rfl, ((t1.sm s2).sm s3).sm s4, fun _ e => by omega⟩
    have u2' : Unlike cT cE (upd H3 o (.lst [.ref x1, .ref x2, .ref x3])) z i (.ref x2) := .inl ⟨x2, z, -i - 1, rfl, (t2.sm s3).sm s4, fun _ e => by omega⟩
    have u3' : Unlike cT cE (upd H3 o (.lst [.ref x1, .ref x2, .ref x3])) z i (.ref x3) := .inl ⟨x3, nz, i, rfl, t3.sm s4, fun e _ => unz e⟩
    have ho : upd H3 o (.lst [.ref x1, .ref x2, .ref x3]) o = some (.lst [.ref x1, .ref x2, .ref x3]) := upd_same
    have s14 := ((s1.trans s2).trans s3).trans s4
    generalize upd H3 o (.lst [.ref x1, .ref x2, .ref x3]) = H4 at u1' u2' u3' ho s14
    -- things of other kinds
    refine fun d nd => ⟨_, rfl, _, rfl, upd_same, [(.inr z, .int i)], rfl, by show 1 ≤ 15; decide, d, [(.inr z, .int i)], rfl, ⟨upd_same, by show 0 < 1; decide, by show 1 ≤ 40; decide, fun p hp => ⟨z, i, List.mem_singleton.mp hp, nm⟩⟩, by show 1 ≤ 8; decide, fun xE H5 nxE s5 eE => ?_⟩
    have sd : Same H4 (upd (upd H4 d (.dK [])) d (.dK (mergeK [] [(.inr z, .int i)]))) := fun b o e => by
      rw [upd_ne (ne_of_none e nd), upd_ne (ne_of_none e nd)]
      exact e
    have s45 := sd.trans s5
    refine ⟨_, rfl, _, rfl, by show 2 ≤ sizeLine; decide, fun tp ntp => ?_⟩
    have s6 := new_same (o := .tup [.str z, .int i]) ntp
    refine ⟨_, rfl, _, rfl, by show 2 ≤ sizeLine; decide, fun l2 nl2 => ?_⟩
    have s7 := new_same (o := .lst [.str z, .int i]) nl2
    have ta7 := (((ta.sm s14).sm s45).sm s6).sm s7
    have ⟨dx7, ha7⟩ := ta7
    refine ⟨_, rfl, a, dx7, _, rfl, ha7, a, z, i, rfl, ta7, nm, sm, _, rfl, _, rfl, _, rfl, _, rfl, by show 1 ≤ sizeLine; decide, fun lm nlm => ?_⟩
    have s8 := new_same (o := .lst [.ref a]) nlm
    refine ⟨by show 8 ≤ sizeLine; decide, fun g ng => ?_⟩
    have s9 := new_same (o := .lst [.ref xE, .ref tp, .ref l2, .str (ttext z i), .non, .int i, .str z, .ref lm]) ng
    have s49 := (((s45.trans s6).trans s7).trans s8).trans s9
    have v1 := Unlike.sm s49 u1'
    have v2 := Unlike.sm s49 u2'
    have v3 := Unlike.sm s49 u3'
    have vE := Unlike.sm (((s6.trans s7).trans s8).trans s9) (show Unlike cT cE H5 z i (.ref xE) from .inr (.inl ⟨xE, rfl, eE⟩))
    have vt := Unlike.sm ((s7.trans s8).trans s9) (show Unlike cT cE _ z i (.ref tp) from .inr (.inr (.inl ⟨tp, _, rfl, upd_same⟩)))
    have vl := Unlike.sm (s8.trans s9) (show Unlike cT cE _ z i (.ref l2) from .inr (.inr (.inr (.inl ⟨l2, _, rfl, upd_same⟩))))
    have vm := Unlike.sm s9 (show Unlike cT cE _ z i (.ref lm) from .inr (.inr (.inr (.inl ⟨lm, _, rfl, upd_same⟩))))
    have hg : upd (upd (upd (upd H5 tp (.tup [.str z, .int i])) l2 (.lst [.str z, .int i])) lm (.lst [.ref a])) g (.lst [.ref xE, .ref tp, .ref l2, .str (ttext z i), .non, .int i, .str z, .ref lm]) g = some (.lst [.ref xE, .ref tp, .ref l2, .str (ttext z i), .non, .int i, .str z, .ref lm]) := upd_same
    have tN := ta7.sm (s8.trans s9)
    have hoN := s49 _ _ ho
    have sN := s14.trans s49
    have htN := sN _ _ ht
    have tbN : ∀ b ∈ bs, TermAt cT (upd (upd (upd (upd H5 tp (.tup [.str z, .int i])) l2 (.lst [.str z, .int i])) lm (.lst [.ref a])) g (.lst [.ref xE, .ref tp, .ref l2, .str (ttext z i), .non, .int i, .str z, .ref lm])) b z i := fun b hb => (tb b hb).sm sN
    have hU : ∀ y ∈ ([V.ref x1, V.ref x2, V.ref x3] ++ [V.ref xE, V.ref tp, V.ref l2, V.str (ttext z i), V.non, V.int i, V.str z, V.ref lm]), Unlike cT cE (upd (upd (upd (upd H5 tp (.tup [.str z, .int i])) l2 (.lst [.str z, .int i])) lm (.lst [.ref a])) g (.lst [.ref xE, .ref tp, .ref l2, .str (ttext z i), .non, .int i, .str z, .ref lm])) z i y := fun y hy => by
      simp only [List.cons_append, List.nil_append, List.mem_cons, List.not_mem_nil, or_false] at hy
      rcases hy with rfl | rfl | rfl | rfl | rfl | rfl | rfl | rfl | rfl | rfl | rfl
      · exact v1
      · exact v2
      · exact v3
      · exact vE
      · exact vt
      · exact vl
      · exact .inr (.inr (.inr (.inr (.inl ⟨_, rfl⟩))))
      · exact .inr (.inr (.inr (.inr (.inr (.inl rfl)))))
      · exact .inr (.inr (.inr (.inr (.inr (.inr ⟨_, rfl⟩)))))
      · exact .inr (.inr (.inr (.inr (.inl ⟨_, rfl⟩))))
      · exact vm
    have lU : (([V.ref x1, V.ref x2, V.ref x3] ++ [V.ref xE, V.ref tp, V.ref l2, V.str (ttext z i), V.non, V.int i, V.str z, V.ref lm])).length = 11 := rfl
    clear v1 v2 v3 vE vt vl vm
    generalize upd (upd (upd (upd H5 tp (.tup [.str z, .int i])) l2 (.lst [.str z, .int i])) lm (.lst [.ref a])) g (.lst [.ref xE, .ref tp, .ref l2, .str (ttext z i), .non, .int i, .str z, .ref lm]) = HN at hg tN hoN sN htN tbN hU
    -- none of them is equal
    refine ⟨_, rfl, _, rfl, o, g, _, _, rfl, rfl, hoN, hg, by show 3 + 8 ≤ sizeLine; decide, fun c nc => ?_⟩
    generalize hys : ([V.ref x1, V.ref x2, V.ref x3] ++ [V.ref xE, V.ref tp, V.ref l2, V.str (ttext z i), V.non, V.int i, V.str z, V.ref lm]) = ys at hU lU
    have sc := new_same (o := .lst ys) nc
    refine ⟨c, rfl, ⟨_, .inl (.inl upd_same)⟩, fun D nD => ?_⟩
    refine lc_map (walk_list (xs := ys)) (fun _ => .bl false) nD (by omega) (fun H' s => .inl (.inl (s _ _ upd_same))) (fun _ _ _ _ y => by rw [y.1]; exact Same.refl _) ?_ ?_
    · rintro j y H6 H6' R lj sm6 _ ⟨rfl, hy⟩ go2
      refine ⟨rfl, ?_⟩
      have s6 := sc.trans sm6
      have t6 := tN.sm s6
      have ⟨dx6, ha6⟩ := t6
      obtain ⟨tb6, ty, nf, ask⟩ := Unlike.asks U (Q := R) t6 (Unlike.sm s6 (hU y (List.mem_of_getElem? hy))) (go2 _ (Same.refl _))
      exact ⟨_, rfl, _, rfl, a, dx6, _, tb6, rfl, ha6, ty, nf, ask⟩
    · intro H6 s6 hD
      refine ⟨D, List.replicate ys.length false, rfl, by rw [← none_range]; exact .inl (.inl hD), ?_⟩
      rw [any_false]
      refine ⟨false, rfl, ?_⟩
      have s7' := sc.trans s6
      -- and each is unequal
      refine ⟨_, rfl, _, rfl, o, g, _, _, rfl, rfl, s7' _ _ hoN, s7' _ _ hg, by show 3 + 8 ≤ sizeLine; decide, fun c2 nc2 => ?_⟩
      rw [hys]
      have sc2 := new_same (o := .lst ys) nc2
      refine ⟨c2, rfl, ⟨_, .inl (.inl upd_same)⟩, fun D2 nD2 => ?_⟩
      refine lc_map (walk_list (xs := ys)) (fun _ => .bl true) nD2 (by omega) (fun H' s => .inl (.inl (s _ _ upd_same))) (fun _ _ _ _ y => by rw [y.1]; exact Same.refl _) ?_ ?_
      · rintro j y H7 H7' R lj sm7 _ ⟨rfl, hy⟩ go2
        refine ⟨rfl, ?_⟩
        have s8 := (s7'.trans sc2).trans sm7
        have t8 := tN.sm s8
        have ⟨dx8, ha8⟩ := t8
        obtain ⟨tb8, ty, nf, ask⟩ := Unlike.asks U (Q := fun v H' => ∃ b, v = .bl b ∧ R (.bl (!b)) H') t8 (Unlike.sm s8 (hU y (List.mem_of_getElem? hy))) ⟨false, rfl, go2 _ (Same.refl _)⟩
        exact ⟨_, rfl, _, rfl, a, dx8, _, tb8, rfl, ha8, ty, nf, ask⟩
      · intro H7 s8 hD2
        refine ⟨D2, List.replicate ys.length true, rfl, by rw [← all_range]; exact .inl (.inl hD2), ?_⟩
        rw [all_true]
        refine ⟨true, rfl, ?_⟩
        have s9' := (s7'.trans sc2).trans s8
        have ht9 := s9' _ _ htN
        -- the twins are equal, on both sides
        refine ⟨_, rfl, t, rfl, ⟨_, .inl (.inl ht9)⟩, fun D3 nD3 => ?_⟩
        refine lc_map (walk_list (xs := bs.map V.ref)) (fun _ => .bl true) nD3 (by rw [List.length_map]; omega) (fun H' s => .inl (.inl (s _ _ ht9))) (fun _ _ _ _ y => by rw [y.1]; exact Same.refl _) ?_ ?_
        · rintro j y H8 H8' R lj sm8 _ ⟨rfl, hy⟩ go2
          refine ⟨rfl, ?_⟩
          obtain ⟨b, hb, rfl⟩ := List.mem_map.mp (List.mem_of_getElem? hy)
          have s10 := s9'.trans sm8
          have t10 := tN.sm s10
          have tb10 := (tbN b hb).sm s10
          have ⟨dx10, ha10⟩ := t10
          have ⟨dy10, hb10⟩ := tb10
          refine ⟨_, rfl, _, rfl, a, dx10, _, .ref cT, rfl, ha10, U.T.own.ty hb10, U.nf _ List.mem_cons_self, a, z, i, _, rfl, t10, .inl ⟨b, z, i, rfl, tb10, ?_⟩⟩
          rw [like_true]
          refine ⟨true, rfl, ⟨_, rfl, _, rfl, b, dy10, _, .ref cT, rfl, hb10, U.T.own.ty ha10, U.nf _ List.mem_cons_self, b, z, i, _, rfl, tb10, .inl ⟨a, z, i, rfl, t10, ?_⟩⟩⟩
          rw [like_true]
          exact go2 _ (Same.refl _)
        · intro H8 s11 hD3
          refine ⟨D3, List.replicate (bs.map V.ref).length true, rfl, by rw [← all_range]; exact .inl (.inl hD3), ?_⟩
          rw [all_true]
          refine ⟨true, rfl, ?_⟩
          have s12' := s9'.trans s11
          have ht12 := s12' _ _ htN
          refine ⟨_, rfl, t, rfl, ⟨_, .inl (.inl ht12)⟩, fun D4 nD4 => ?_⟩
          refine lc_map (walk_list (xs := bs.map V.ref)) (fun _ => .bl false) nD4 (by rw [List.length_map]; omega) (fun H' s => .inl (.inl (s _ _ ht12))) (fun _ _ _ _ y => by rw [y.1]; exact Same.refl _) ?_ ?_
          · rintro j y H9 H9' R lj sm9 _ ⟨rfl, hy⟩ go2
            refine ⟨rfl, ?_⟩
            obtain ⟨b, hb, rfl⟩ := List.mem_map.mp (List.mem_of_getElem? hy)
            have s13 := s12'.trans sm9
            have t13 := tN.sm s13
            have tb13 := (tbN b hb).sm s13
            have ⟨dx13, ha13⟩ := t13
            have ⟨dy13, hb13⟩ := tb13
            refine ⟨_, rfl, _, rfl, a, dx13, _, .ref cT, rfl, ha13, U.T.own.ty hb13, U.nf _ List.mem_cons_self, a, z, i, _, rfl, t13, .inl ⟨b, z, i, rfl, tb13, ?_⟩⟩
            rw [like_true]
            exact ⟨true, rfl, go2 _ (Same.refl _)⟩
          · intro H9 s14' hD4
            refine ⟨D4, List.replicate (bs.map V.ref).length false, rfl, by rw [← none_range]; exact .inl (.inl hD4), ?_⟩
            rw [any_false]
            exact ⟨false, rfl, go _ (sN.trans (s12'.trans s14'))⟩
end
end E10

set_option Elab.async false
set_option linter.all false
set_option maxRecDepth 100000
set_option maxHeartbeats 4000000
namespace E10
open L2 PySem PySem.Spec PyProof.Rows
/-! ### a clock: times of names -/
def Clk (kvs : List (Key × V)) : Prop := ∀ p ∈ kvs, ∃ (z : Str) (i : Int), p = (.inr z, .int i) ∧ Nm z ∧ Sm i
theorem mem_putK {kvs : List (Key × V)} {k : Key} {v : V} {p : Key × V} (h : p ∈ putK kvs k v) : p ∈ kvs ∨ p = (k, v) := by
  unfold putK at h
  split at h
  · obtain ⟨q, hq, e⟩ := List.mem_map.mp h
    by_cases c : q.1 = k
    · rw [if_pos c] at e
      exact .inr (by rw [← e, c])
    · rw [if_neg c] at e
      exact .inl (e ▸ hq)
  · rcases List.mem_append.mp h with h | h
    · exact .inl h
    · exact .inr (List.mem_singleton.mp h)
theorem Clk.put {kvs : List (Key × V)} {z : Str} {i : Int} (h : Clk kvs) (nm : Nm z) (sn : Sm i) : Clk (putK kvs (.inr z) (.int i)) := fun p hp => by
  rcases mem_putK hp with h1 | rfl
  · exact h p h1
  · exact ⟨z, i, rfl, nm, sn⟩
theorem Clk.merge : ∀ {es acc : List (Key × V)}, Clk acc → Clk es → Clk (mergeK acc es) ∧ (mergeK acc es).length ≤ acc.length + es.length ∧ ∀ k, ((valV acc k).isSome = true ∨ ∃ p ∈ es, p.1 = k) → (valV (mergeK acc es) k).isSome = true
  | [], acc, h, _ => ⟨h, Nat.le_refl _, fun k q => q.elim id fun ⟨p, hp, _⟩ => by cases hp⟩
  | e :: es, acc, h, h2 => by
    obtain ⟨z, i, rfl, nm, sn⟩ := h2 e List.mem_cons_self
    obtain ⟨a, b, c⟩ := Clk.merge (es := es) (h.put nm sn) fun p hp => h2 p (List.mem_cons_of_mem _ hp)
    have l := length_putK acc (.inr z) (.int i)
    refine ⟨a, ?_, fun k q => c k ?_⟩
    · show (mergeK (putK acc (.inr z) (.int i)) es).length ≤ _
      rw [List.length_cons]
      omega
    · rw [valV_put]
      by_cases q2 : k = .inr z
      · rw [if_pos q2]
        exact .inl rfl
      · rw [if_neg q2]
        rcases q with q | ⟨p, hp, e⟩
        · exact .inl q
        · rcases List.mem_cons.mp hp with rfl | hp
          · exact absurd e.symm q2
          · exact .inr ⟨p, hp, e⟩
theorem valV_mem {kvs : List (Key × V)} {k : Key} {v : V} (h : valV kvs k = some v) : (k, v) ∈ kvs := by
  unfold valV at h
  cases q : kvs.find? fun kv => decide (kv.1 = k) with
  | none => rw [q] at h; cases h
  | some p =>
    rw [q] at h
    have e1 : p.2 = v := Option.some.inj h
    have e2 : p.1 = k := of_decide_eq_true (List.find?_some (p := fun kv : Key × V => decide (kv.1 = k)) q)
    have m := List.mem_of_find?_eq_some q
    rw [← e1, ← e2]
    exact m
theorem Clk.get {kvs : List (Key × V)} {z : Str} (h : Clk kvs) (s : (valV kvs (.inr z)).isSome = true) : ∃ i, valV kvs (.inr z) = some (.int i) ∧ Sm i := by
  obtain ⟨v, hv⟩ := Option.isSome_iff_exists.mp s
  obtain ⟨z', i, e, _, sn⟩ := h _ (valV_mem hv)
  have : v = .int i := congrArg Prod.snd e
  exact ⟨i, by rw [hv, this], sn⟩
theorem Clk.data : ∀ {kvs : List (Key × V)}, Clk kvs → ∃ ds, Paired TinyP kvs ds
  | [], _ => ⟨[], .nil⟩
  | p :: r, h => by
    obtain ⟨z, i, rfl, nm, sn⟩ := h p List.mem_cons_self
    obtain ⟨ds, hd⟩ := Clk.data (kvs := r) fun q hq => h q (List.mem_cons_of_mem _ hq)
    exact ⟨(.str z, .int i) :: ds, .cons ⟨t_nm nm, t_int sn⟩ hd⟩
theorem Clk.names {H : Hp} {d : Addr} {kvs : List (Key × V)} (h : Clk kvs) (e : H d = some (.dK kvs)) (pos : 0 < kvs.length) (le : kvs.length ≤ 40) : NamesAt H d kvs :=
  ⟨e, pos, le, fun p hp => by
    obtain ⟨z, i, e, nm, _⟩ := h p hp
    exact ⟨z, i, e, nm⟩⟩
theorem sn_add3 {a b c : Int} (x : Sn a) (y : Sn b) (z : Sn c) : Sm (a + (b + c)) ∧ Sm (a + (b - c)) ∧ Sm (a + b) ∧ Sm (b + c) ∧ Sm (b - c) := by
  unfold Sn at x y z
  unfold Sm
  have k : (10 ^ 66 : Nat) = 100000 * 10 ^ 61 := by decide +kernel
  generalize (10 ^ 61 : Nat) = W at *
  generalize (10 ^ 66 : Nat) = Z at *
  refine ⟨?_, ?_, ?_, ?_, ?_⟩ <;> omega
section
variable {P : Program} {w : World} {K : PySem.W.Frag} {mg : Str → Option Value} {base : Heap} {f cT cE : Addr} {fd : FuncData}
/-- a pot of which anything may come -/
def spRight : Sp := fun vs H Q _ => ∃ a : Addr, vs = [.ref a] ∧ PotAt H a ∧ ∀ H', SameB a H H' → Q (.bl true) H'
abbrev nRight : List Str := ["_law_pot_here", "_law_names_here", "_law_label", "_law_amount", "_law_number_here", "_law_made", "_law_twins", "_law_moved", "_law_dues", "_law_clock", "_law_kept", "_law_told", "_law_one", "_law_due", "_law_name"]
theorem scRight : FnScope nRight ["_law_pot_here"] (defScope (top 43)) := ⟨rfl, rfl, rfl, by decide +kernel, rfl, by decide +kernel, by decide +kernel⟩
end
end E10

set_option Elab.async false
set_option linter.all false
set_option maxRecDepth 100000
set_option maxHeartbeats 4000000
namespace E10
open L2 PySem PySem.Spec PyProof.Rows
theorem wipe_two (σ : L2.St) (u v : Nat) (a b : Option V) : wipe (List.set (List.set (wipe σ [u, v]) u a) v b) [u, v] = wipe σ [u, v] := by
  simp only [wipe]
  apply List.ext_getElem?
  intro k
  simp only [List.getElem?_set, List.length_set]
  split <;> split <;> simp_all
theorem PotAt.at_ {H : Hp} {a : Addr} (p : PotAt H a) : ∃ o, H a = some o := by
  obtain ⟨_, _, e, _⟩ := p
  exact ⟨_, e⟩
def TupsAt (H : Hp) (ps : List Addr) (kvs : List (Key × V)) : Prop := Paired (fun p kv => H p = some (.tup [kV kv.1, kv.2])) ps kvs
theorem TupsAt.mono {H H' : Hp} : ∀ {ps : List Addr} {kvs : List (Key × V)}, (∀ p xs, H p = some (.tup xs) → H' p = some (.tup xs)) → TupsAt H ps kvs → TupsAt H' ps kvs
  | _, _, _, .nil => .nil
  | _, _, s, .cons e t => .cons (s _ _ e) (TupsAt.mono s t)
theorem TupsAt.sq {K : PySem.W.Frag} {H : Hp} : ∀ {ps : List Addr} {kvs : List (Key × V)}, TupsAt H ps kvs → Paired (fun p kv => SqT K H p [kV kv.1, kv.2]) ps kvs
  | _, _, .nil => .nil
  | _, _, .cons e t => .cons (.inl (.inl e)) (TupsAt.sq t)
theorem paired_snoc {α β : Type} {R : α → β → Prop} {x : α} {y : β} : ∀ {xs : List α} {ys : List β}, Paired R xs ys → R x y → Paired R (xs ++ [x]) (ys ++ [y])
  | _, _, .nil, r => .cons r .nil
  | _, _, .cons e t, r => .cons e (paired_snoc t r)
theorem paired_len {α β : Type} {R : α → β → Prop} : ∀ {xs : List α} {ys : List β}, Paired R xs ys → xs.length = ys.length
  | _, _, .nil => rfl
  | _, _, .cons _ t => congrArg (· + 1) (paired_len t)
theorem Clk.snoc {kvs : List (Key × V)} {z : Str} {i : Int} (h : Clk kvs) (nm : Nm z) (sn : Sm i) : Clk (kvs ++ [(.inr z, .int i)]) := fun p hp => by
  rcases List.mem_append.mp hp with hp | hp
  · exact h p hp
  · exact ⟨z, i, List.mem_singleton.mp hp, nm, sn⟩
theorem TermAt.smB {cT a : Addr} {H H' : Hp} {b : Addr} {z : Str} {i : Int} (s : SameB a H H') (p : PotAt H a) (h : TermAt cT H b z i) : TermAt cT H' b z i := by
  obtain ⟨dx, e⟩ := h
  refine ⟨dx, s _ _ e ?_⟩
  rintro rfl
  obtain ⟨_, _, e', _⟩ := p
  rw [e] at e'
  cases e'
theorem t_big {i : Int} (h : i.natAbs < 10 ^ 70) : tiny (.int i) = some (.int i) := if_pos h
theorem big_sums {t i j : Int} (x : Sm t) (y : Sn i) (z : Sn j) : (t + i).natAbs < 10 ^ 70 ∧ (t + (i + j)).natAbs < 10 ^ 70 ∧ (t + (i - j)).natAbs < 10 ^ 70 ∧ (t - 7 + i).natAbs < 10 ^ 70 := by
  unfold Sn at y z
  unfold Sm at x
  have k : (10 ^ 66 : Nat) = 100000 * 10 ^ 61 := by decide +kernel
  have k2 : (10 ^ 70 : Nat) = 1000000000 * 10 ^ 61 := by decide +kernel
  have k3 : 10 < (10 ^ 61 : Nat) := by decide +kernel
  generalize (10 ^ 61 : Nat) = W at *
  generalize (10 ^ 66 : Nat) = Z at *
  generalize (10 ^ 70 : Nat) = Z2 at *
  refine ⟨?_, ?_, ?_, ?_⟩ <;> omega
theorem NamesAt.put {H : Hp} {d : Addr} {kvs : List (Key × V)} {z : Str} {n : Int} (h : Clk kvs) (nm : Nm z) (le : kvs.length ≤ 9) (e : H d = some (.dK (putK kvs (.inr z) (.int n)))) : NamesAt H d (putK kvs (.inr z) (.int n)) := by
  have l := length_putK kvs (.inr z) (.int n)
  refine ⟨e, ?_, by omega, fun p hp => ?_⟩
  · have v := valV_put kvs (Sum.inr z) (Sum.inr z) (.int n)
    rw [if_pos rfl] at v
    exact List.length_pos_of_mem (valV_mem v)
  · rcases mem_putK hp with hp | rfl
    · obtain ⟨z', i, e, nm, _⟩ := h p hp
      exact ⟨z', i, e, nm⟩
    · exact ⟨z, n, rfl, nm⟩
/-- [(name, a number) for name in names] -/
theorem clock_it {K : PySem.W.Frag} {H1 : Hp} {D L a : Addr} {zs : List Str} {g : TG} {te : TE} {vs : List Nat} {σ : L2.St} {Qd : Hp → Prop} (nD : H1 D = none) (hL : H1 L = some (.lst (zs.map V.str))) (La : L ≠ a) (p1 : PotAt H1 a) (az : ∀ z ∈ zs, Nm z) (lz : zs.length ≤ 8)
    (turn : ∀ z ∈ zs, ∀ (G : Hp) (R : V → Hp → Prop), PotAt G a → (∀ T G2 n, Sn n → PotAt G2 a → SameB a G G2 → G2 T = none → R (.ref T) (upd G2 T (.tup [.str z, .int n]))) → g (.str z) (wipe σ vs) G fun σ2 H2 => wipe σ2 vs = wipe σ vs ∧ te σ2 H2 R)
    (done : ∀ G ps kvs, SameB a H1 G → PotAt G a → G D = some (.lst (ps.map V.ref)) → Paired (fun p kv => SqT K G p [kV kv.1, kv.2]) ps kvs → Clk kvs → kvs.length = zs.length → (∀ z ∈ zs, ∃ p ∈ kvs, p.1 = .inr z) → Qd G) :
    ∃ W : Nat → Nat → Hp → Prop, (∃ m, W 0 m (upd H1 D (.lst []))) ∧ ∀ i m H, W i m H →
      ((Itl K L).stop i H ∧ Qd H) ∨ ((Itl K L).go i H ∧ ∃ Nx : Hp → Prop, (∀ H', Nx H' → ∃ m', m' < m ∧ W (i + 1) m' H') ∧ ∀ x H', (Itl K L).yld i H x H' → g x (wipe σ vs) H' fun σ2 H2 => wipe σ2 vs = wipe σ vs ∧ tYes σ2 H2 fun b H3 =>
        if b = true then te σ2 H3 fun y H4 => ∃ acc, H4 D = some (.lst acc) ∧ acc.length < sizeLine ∧ Nx (upd H4 D (.lst (acc ++ [y]))) else Nx H3) := by
  obtain ⟨oa, ha⟩ := p1.at_
  have Da : D ≠ a := (ne_of_none ha nD).symm
  refine lc_it (walk_list (xs := zs.map V.str)) (fun i G => SameB a H1 G ∧ PotAt G a ∧ ∃ ps kvs, G D = some (.lst (ps.map V.ref)) ∧ TupsAt G ps kvs ∧ Clk kvs ∧ kvs.length = i ∧ ∀ j, j < i → ∀ z, zs[j]? = some z → ∃ p ∈ kvs, p.1 = .inr z)
    ⟨SameB.of (new_same nD), p1.sm (new_same nD), [], [], upd_same, .nil, fun _ h => by (cases h), rfl, fun j h => by omega⟩ (fun i H _ h => ?_) ?_ ?_
  · exact .inl (.inl (h.1 _ _ hL La))
  · rintro i x G G' lt ⟨sb, pa, ps, kvs, hD, tp, ck, len, has⟩ ⟨rfl, hy⟩
    obtain ⟨z, hz, rfl⟩ : ∃ z, zs[i]? = some z ∧ x = .str z := by
      rw [List.getElem?_map] at hy
      cases e : zs[i]? with
      | none => rw [e] at hy; cases hy
      | some z => rw [e] at hy; exact ⟨z, rfl, (Option.some.inj hy).symm⟩
    refine turn z (List.mem_of_getElem? hz) _ _ pa fun T G2 n sn p2 s2 nT => ?_
    have hD2 := s2 _ _ hD Da
    have TD : T ≠ D := (ne_of_none hD2 nT).symm
    obtain ⟨o2, ha2⟩ := p2.at_
    have Ta : T ≠ a := (ne_of_none ha2 nT).symm
    have lps : ps.length = i := by rw [paired_len tp, len]
    have li : i < 8 := by
      rw [List.length_map] at lt
      omega
    refine ⟨ps.map V.ref, (upd_ne TD.symm).trans hD2, ?_, ?_, ?_, ps ++ [T], kvs ++ [(.inr z, .int n)], ?_, ?_, ck.snoc (az z (List.mem_of_getElem? hz)) (sn_sm sn), ?_, ?_⟩
    · rw [List.length_map, lps]
      exact Nat.lt_of_lt_of_le li (by decide)
    · intro b o e nb
      have bD : b ≠ D := ne_of_none e nD
      have e2 := s2 _ _ (sb _ _ e nb) nb
      rw [upd_ne bD, upd_ne (ne_of_none e2 nT)]
      exact e2
    · obtain ⟨u, v, e, r⟩ := p2
      exact ⟨u, v, by rw [upd_ne Da.symm, upd_ne Ta.symm]; exact e, r⟩
    · rw [upd_same, List.map_append]
      rfl
    · refine paired_snoc (TupsAt.mono (fun p xs e => ?_) tp) ?_
      · have pa' : p ≠ a := by
          rintro rfl
          obtain ⟨_, _, e', _⟩ := pa
          rw [e] at e'
          cases e'
        have pD : p ≠ D := by
          rintro rfl
          rw [hD] at e
          cases e
        have e2 := s2 _ _ e pa'
        rw [upd_ne pD, upd_ne (ne_of_none e2 nT)]
        exact e2
      · rw [upd_ne TD, upd_same]
        rfl
    · rw [List.length_append, len]
      rfl
    · intro j hj z' hz'
      by_cases q : j = i
      · subst q
        rw [hz] at hz'
        cases hz'
        exact ⟨_, List.mem_append_right _ (List.mem_singleton.mpr rfl), rfl⟩
      · obtain ⟨p, hp, e⟩ := has j (by omega) z' hz'
        exact ⟨p, List.mem_append_left _ hp, e⟩
  · rintro G ⟨sb, pa, ps, kvs, hD, tp, ck, len, has⟩
    rw [List.length_map] at len has
    refine done G ps kvs sb pa hD tp.sq ck len fun z hz => ?_
    obtain ⟨j, hj, e⟩ := List.getElem_of_mem hz
    exact has j hj z (by rw [List.getElem?_eq_getElem hj, e])
end E10

set_option Elab.async false
set_option linter.all false
set_option maxRecDepth 100000
set_option maxHeartbeats 16000000
namespace E10
open L2 PySem PySem.Spec PyProof.Rows
section
variable {P : Program} {w : World} {K : PySem.W.Frag} {mg : Str → Option Value} {base : Heap} {f cT cE : Addr} {fd : FuncData}
theorem ok_right (N : Nam mg) (U : TopT P w K mg base cT cE) (DD : Def P w K mg base "_law_draw" ["_law_pot_here", "_law_many"] 1 spDraw) (DNu : Def P w K mg base "_law_number" ["_law_pot_here"] 2 spNumber) (DNs : Def P w K mg base "_law_names" ["_law_pot_here", "_law_many"] 3 spNames)
    (DIT : DefG P w K mg base "_law_is_term" ["_law_told", "_law_label", "_law_amount"] 5 (spIsTerm cT)) (DEq : DefG P w K mg base "_law_equals_right" ["_law_made", "_law_twins", "_law_label", "_law_amount"] 6 (spEquals cT)) (F : Fun K "_law_right" "_law_right" (top 43) f fd) : FnG P w K mg base 7 f fd ["_law_pot_here"] spRight := by
  refine Fun.okG F scRight (fun {vs H Q E} h => ?_) (fun cdv A outer s H vs Q E hG hr h => ?_)
  · obtain ⟨_, rfl, _⟩ := h
    rfl
  · obtain ⟨a, rfl, hp, go⟩ := h
    have hu := hr.units
    obtain ⟨fC, fdC, cC, FC, bC, gC, kC⟩ := U.ca
    refine ⟨_, pss_cons (ps_set (i := 1) scRight.nd rfl (Or.inl rfl) (callD DNs (hr.mono (by decide)) rfl (pa_cons (pv 0) (pa_cons (pe_op op_add pe_int (callD DD (hr.mono (by decide)) rfl (pa_cons (pv 0) (pa_cons pe_int pa_nil)))) pa_nil))))
      (pss_cons (ps_asg (pe_tup (pa_cons (pe_ix ix_list (pv 1) pe_int (fun _ _ => rfl)) (pa_cons (callD DNu (hr.mono (by decide)) rfl (pa_cons (pv 0) pa_nil)) pa_nil))) (pg_tup rfl (pgs_cons (pg_name (i := 2) scRight.nd rfl (Or.inr rfl)) (pgs_cons (pg_name (i := 3) scRight.nd rfl (Or.inr rfl)) pgs_nil))))
      (pss_cons (ps_set (i := 4) scRight.nd rfl (Or.inl rfl) (callD DNu (hr.mono (by decide)) rfl (pa_cons (pv 0) pa_nil)))
      (pss_cons (ps_set (i := 5) scRight.nd rfl (Or.inl rfl) (mkT2 U.M (hr.mono (by decide)) rfl (pa_cons (pv 2) (pa_cons (pv 3) pa_nil))))
      (pss_cons (ps_set (i := 6) scRight.nd rfl (Or.inl rfl) (pe_lst (pa_cons (mkSM U.M (hr.mono (by decide)) rfl (pk_cons (pv 3) (pk_cons (pv 2) pk_nil))) (pa_cons (pe_op (op_plus U.T U.A hG (hr.mono (by decide))) (mkT1 U.M (hr.mono (by decide)) rfl (pa_cons (pv 2) pa_nil)) (pv 3)) (pa_cons (pe_op (op_minus U.T U.A U.S hG (hr.mono (by decide))) (mkM U.M (hr.mono (by decide)) rfl (pk_cons (pv 2) pk_nil)) (pe_un un_neg (pv 3))) pa_nil)))))
      (pss_cons (ps_if (pt_not (pt_val (pe_callB (cr_all rfl) rfl N.all_ boot_all' (pa_cons (pe_lc (own := [("_law_one", 12)]) (g := gName 12) (tt := tYes) rfl scRight.nd (pi_list (pe_op op_cat (pe_lst (pa_cons (pv 5) pa_nil)) (pv 6))) (blkOk_by (own := [("_law_one", 12)]) (N := nRight) (sc := defScope (top 43)) (by decide +kernel)) (fun _ _ _ _ _ => pg_name (i := 12) scRight.nd rfl (Or.inl rfl)) (fun _ _ _ _ _ => pts_nil) (fun _ _ _ _ _ => (callDG DIT hG (hr.mono (by decide)) rfl (pa_cons (pv 12) (pa_cons (pv 2) (pa_cons (pv 3) pa_nil)))))) pa_nil)))) (pss_one (ps_ret pe_bl)) pss_nil)
      (pss_cons (ps_if (pt_not (pt_val (callDG DIT hG (hr.mono (by decide)) rfl (pa_cons (mkT1 U.M (hr.mono (by decide)) rfl (pa_cons (pv 2) pa_nil)) (pa_cons (pv 2) (pa_cons pe_int pa_nil)))))) (pss_one (ps_ret pe_bl)) pss_nil)
      (pss_cons (ps_if (pt_not (pt_val (callDG DEq hG (hr.mono (by decide)) rfl (pa_cons (pv 5) (pa_cons (pv 6) (pa_cons (pv 2) (pa_cons (pv 3) pa_nil))))))) (pss_one (ps_ret pe_bl)) pss_nil)
      (pss_cons (ps_par (i := 7) (j := 8) (by rfl) scRight.nd rfl rfl (by decide) rfl rfl (pa_cons (pe_lst (pa_cons (pe_op (op_plus U.T U.A hG (hr.mono (by decide))) (pv 5) (pv 4)) (pa_cons (pe_op (op_radd U.T U.A U.R hG (hr.mono (by decide))) (pv 4) (pv 5)) (pa_cons (pe_op (op_minus U.T U.A U.S hG (hr.mono (by decide))) (pv 5) (pv 4)) (pa_cons (pe_op (op_plus U.T U.A hG (hr.mono (by decide))) (pv 5) pe_int) pa_nil))))) (pa_cons (pe_lst (pa_cons (pe_op op_add (pv 3) (pv 4)) (pa_cons (pe_op op_add (pv 3) (pv 4)) pa_nil))) pa_nil)) (by rfl))
      (pss_cons (ps_set (i := 8) scRight.nd rfl (Or.inl rfl) (pe_op op_cat (pv 8) (pe_lst (pa_cons (pe_op op_sub (pv 3) (pv 4)) (pa_cons (pv 3) pa_nil)))))
      (pss_cons (ps_if (pt_not (pt_val (pe_callB (cr_all rfl) rfl N.all_ boot_all' (pa_cons (pe_lc (own := [("_law_one", 12), ("_law_due", 13)]) (g := gTup K 2 (gCons (gName 12) (gCons (gName 13) gNil))) (tt := tYes) rfl scRight.nd (pi_zip rfl N.zip_ (pa_cons (pv 7) (pa_cons (pv 8) pa_nil))) (blkOk_by (own := [("_law_one", 12), ("_law_due", 13)]) (N := nRight) (sc := defScope (top 43)) (by decide +kernel)) (fun _ _ _ _ _ => pg_tup rfl (pgs_cons (pg_name (i := 12) scRight.nd rfl (Or.inl rfl)) (pgs_cons (pg_name (i := 13) scRight.nd rfl (Or.inl rfl)) pgs_nil))) (fun _ _ _ _ _ => pts_nil) (fun _ _ _ _ _ => (callDG DIT hG (hr.mono (by decide)) rfl (pa_cons (pv 12) (pa_cons (pv 2) (pa_cons (pv 13) pa_nil)))))) pa_nil)))) (pss_one (ps_ret pe_bl)) pss_nil)
      (pss_cons (ps_set (i := 9) scRight.nd rfl (Or.inr rfl) (pe_callTy (call_dictP rfl) rfl N.dct boot_dict' (pa_cons (pe_lc (own := [("_law_name", 14)]) (g := gName 14) (tt := tYes) rfl scRight.nd (pi_list (pv 1)) (blkOk_by (own := [("_law_name", 14)]) (N := nRight) (sc := defScope (top 43)) (by decide +kernel)) (fun _ _ _ _ _ => pg_name (i := 14) scRight.nd rfl (Or.inl rfl)) (fun _ _ _ _ _ => pts_nil) (fun _ _ _ _ _ => pe_tup (pa_cons (pv 14) (pa_cons (callD DNu (hr.mono (by decide)) rfl (pa_cons (pv 0) pa_nil)) pa_nil)))) pa_nil)))
      (pss_cons (ps_set (i := 10) scRight.nd rfl (Or.inl rfl) (pe_callB (call_reprD hG hu) rfl N.rep boot_repr (pa_cons (pv 9) pa_nil)))
      (pss_cons (ps_set (i := 11) scRight.nd rfl (Or.inl rfl) (pe_lst (pa_cons (pe_callOb (pv 5) cC FC bC (hr.mono (by decide)) (pa_cons (pv 9) pa_nil) (PySem.arm_eval_Call_Name' _ _ _ _ _ _)) (pa_cons (pe_callObK (pv 5) cC FC kC (hr.mono (by decide)) (pk_cons (pv 9) pk_nil) (PySem.arm_eval_Call_Name' _ _ _ _ _ _)) (pa_cons (pe_callOb (pe_ix ix_list (pv 7) pe_int (fun _ _ => rfl)) cC FC bC (hr.mono (by decide)) (pa_cons (pv 9) pa_nil)) (pa_cons (pe_callOb (pe_ix ix_list (pv 7) pe_int (fun _ _ => rfl)) cC FC bC (hr.mono (by decide)) (pa_cons (pv 9) pa_nil)) pa_nil))))))
      (pss_cons (ps_if (pt_cmpR op_ne (pe_callB (call_reprL hG hu) rfl N.rep boot_repr (pa_cons (pv 11) pa_nil)) (pe_callB (call_reprL hG hu) rfl N.rep boot_repr (pa_cons (pe_lc (own := [("_law_due", 13)]) (g := gName 13) (tt := tYes) rfl scRight.nd (pi_list (pe_lst (pa_cons (pv 3) (pa_cons (pv 3) (pa_cons (pe_op op_add (pv 3) (pv 4)) (pa_cons (pe_op op_sub (pv 3) (pv 4)) pa_nil)))))) (blkOk_by (own := [("_law_due", 13)]) (N := nRight) (sc := defScope (top 43)) (by decide +kernel)) (fun _ _ _ _ _ => pg_name (i := 13) scRight.nd rfl (Or.inl rfl)) (fun _ _ _ _ _ => pts_nil) (fun _ _ _ _ _ => (pe_op op_add (pe_dget (u1 hu) (pv 9) (pv 2) (fun _ _ => rfl)) (pv 13)))) pa_nil)) (nomark _)) (pss_one (ps_ret pe_bl)) pss_nil)
      (pss_cons (ps_if (pt_cmpR op_ne (pe_callB (call_reprD hG hu) rfl N.rep boot_repr (pa_cons (pv 9) pa_nil)) (pv 10) (nomark _)) (pss_one (ps_ret pe_bl)) pss_nil)
      (pss_cons (ps_dput (u1 hu) (pv 9) (pv 2) (pe_op op_sub (pe_dget (u1 hu) (pv 9) (pv 2) (fun _ _ => rfl)) pe_int) rfl)
      (pss_cons (ps_if (pt_cmpR op_ne (pe_callB (call_reprL hG hu) rfl N.rep boot_repr (pa_cons (pe_lst (pa_cons (pe_callOb (pv 5) cC FC bC (hr.mono (by decide)) (pa_cons (pv 9) pa_nil) (PySem.arm_eval_Call_Name' _ _ _ _ _ _)) (pa_cons (pe_callObK (pv 5) cC FC kC (hr.mono (by decide)) (pk_cons (pv 9) pk_nil) (PySem.arm_eval_Call_Name' _ _ _ _ _ _)) pa_nil))) pa_nil)) (pe_callB (call_reprL hG hu) rfl N.rep boot_repr (pa_cons (pe_op op_rep (pe_lst (pa_cons (pe_op op_add (pe_dget (u1 hu) (pv 9) (pv 2) (fun _ _ => rfl)) (pv 3)) pa_nil)) pe_int) pa_nil)) (nomark _)) (pss_one (ps_ret pe_bl)) pss_nil)
      (pss_one (ps_ret (callDG DIT hG (hr.mono (by decide)) rfl (pa_cons (pv 5) (pa_cons (pv 2) (pa_cons (pv 3) pa_nil))))))))))))))))))))))), ?_⟩
    -- the names, the label, the amount
    refine ⟨_, rfl, _, rfl, a, 5, rfl, hp, by decide, by decide, fun d H1 d0 d5 p1 s1 => ?_⟩
    obtain ⟨k, rfl⟩ := Int.eq_ofNat_of_zero_le d0
    refine ⟨1, _, rfl, rfl, a, 1 + k, by show [V.ref a, V.int (1 + (k : Int))] = _; rw [show (1 + (k : Int)) = ((1 + k : Nat) : Int) by omega], p1, by omega, fun L H2 zs lz az nL hL p2 s2 => ?_⟩
    obtain ⟨z, zr, rfl⟩ : ∃ z zr, zs = z :: zr := by
      cases zs with
      | nil => rw [List.length_nil] at lz; omega
      | cons z zr => exact ⟨z, zr, rfl⟩
    have lz8 : (z :: zr).length ≤ 8 := by omega
    have nm : Nm z := az z List.mem_cons_self
    have La : L ≠ a := by
      obtain ⟨_, _, e, _⟩ := p1
      exact (ne_of_none e nL).symm
    refine ⟨_, rfl, L, _, 0, .str z, rfl, rfl, .inl (.inl hL), atI_nat (j := 0) rfl, ?_⟩
    refine ⟨_, rfl, a, rfl, p2, fun i H3 sn p3 s3 => ⟨by show 2 ≤ sizeLine; decide, fun T nT => ⟨T, _, rfl, .inl (.inl upd_same), rfl, _, _, rfl, _, _, rfl, rfl, ?_⟩⟩⟩
    have sT := new_same (o := .tup [.str z, .int i]) nT
    have sb3 := ((s1.trans s2).trans s3).trans (SameB.of sT)
    have hL3 := sT _ _ (s3 _ _ hL La)
    have p3' := p3.sm sT
    clear p1 p2 p3 s1 s2 s3
    generalize upd H3 T (.tup [.str z, .int i]) = H4 at sb3 hL3 p3'
    refine ⟨_, rfl, a, rfl, p3', fun j H5 sj p5 s5 => ?_⟩
    have sb5 := sb3.trans s5
    have hL5 := s5 _ _ hL3 La
    have sm := sn_sm sn
    -- the Term, and its twins
    refine ⟨_, rfl, _, rfl, z, i, rfl, nm, fun x1 H6 nx1 s6 t1 => ?_⟩
    refine ⟨_, rfl, _, rfl, z, i, rfl, nm, fun y1 H7 ny1 s7 t7 => ?_⟩
    refine ⟨_, rfl, z, rfl, nm, fun q1 H8 nq1 s8 t8 => ?_⟩
    have ⟨dq1, hq1⟩ := t8
    refine ⟨_, rfl, q1, dq1, _, i, rfl, rfl, hq1, q1, z, 0, i, rfl, t8, nm, fun y2 H9 ny2 s9 t9 => ?_⟩
    refine ⟨_, rfl, z, rfl, nm, fun q2 H10 nq2 s10 t10 => ?_⟩
    have ⟨dq2, hq2⟩ := t10
    refine ⟨_, rfl, i, rfl, q2, dq2, _, -i, rfl, rfl, hq2, q2, z, 0, -i, rfl, t10, nm, fun y3 H11 ny3 s11 t11 => ?_⟩
    refine ⟨by show 3 ≤ sizeLine; decide, fun W nW => ?_⟩
    have t9' : TermAt cT H9 y2 z i := by
      have : TermAt cT H9 y2 z (0 + i) := t9
      rw [show (0 + i : Int) = i by omega] at this
      exact this
    have t11' : TermAt cT H11 y3 z i := by
      have : TermAt cT H11 y3 z (0 - -i) := t11
      rw [show (0 - -i : Int) = i by omega] at this
      exact this
    have sW := new_same (o := .lst [.ref y1, .ref y2, .ref y3]) nW
    have e1 := t1.sm (((((s7.trans s8).trans s9).trans s10).trans s11).trans sW)
    have e2 := t7.sm ((((s8.trans s9).trans s10).trans s11).trans sW)
    have e3 := t9'.sm ((s10.trans s11).trans sW)
    have e4 := t11'.sm sW
    have s612 := (((((s6.trans s7).trans s8).trans s9).trans s10).trans s11).trans sW
    have sb12 := sb5.trans (SameB.of s612)
    have hL12 := s612 _ _ hL5
    have p12 := p5.sm s612
    have hW : upd H11 W (.lst [.ref y1, .ref y2, .ref y3]) W = some (.lst [.ref y1, .ref y2, .ref y3]) := upd_same
    generalize upd H11 W (.lst [.ref y1, .ref y2, .ref y3]) = H12 at e1 e2 e3 e4 sb12 hL12 p12 hW
    clear t1 t7 t8 t9 t10 t11 hq1 hq2 t9' t11' s6 s7 s8 s9 s10 s11 sW s612 nW sb5 hL5 p5
    -- each of them is the Term that was asked for
    refine ⟨_, rfl, by show 1 ≤ sizeLine; decide, fun l nl => ⟨_, rfl, l, W, _, _, rfl, rfl, upd_same, new_same nl _ _ hW, by show 1 + 3 ≤ sizeLine; decide, fun c nc => ?_⟩⟩
    have sc := (new_same (o := .lst [.ref x1]) nl).trans (new_same (o := .lst ([V.ref x1] ++ [V.ref y1, V.ref y2, V.ref y3])) nc)
    refine ⟨c, rfl, ⟨_, .inl (.inl upd_same)⟩, fun D nD => ?_⟩
    refine lc_map (walk_list (xs := [V.ref x1] ++ [V.ref y1, V.ref y2, V.ref y3])) (fun _ => .bl true) nD (by show (4:Nat) ≤ 1000; decide) (fun H' s => .inl (.inl (s _ _ upd_same))) (fun _ _ _ _ y => by rw [y.1]; exact Same.refl _) ?_ ?_
    · rintro k y G G' R lk smG _ ⟨rfl, hy⟩ go2
      refine ⟨rfl, ?_⟩
      have sG := sc.trans smG
      have hb : ∃ b, y = .ref b ∧ TermAt cT H12 b z i := by
        have m := List.mem_of_getElem? hy
        simp only [List.cons_append, List.nil_append, List.mem_cons, List.not_mem_nil, or_false] at m
        rcases m with rfl | rfl | rfl | rfl
        · exact ⟨_, rfl, e1⟩
        · exact ⟨_, rfl, e2⟩
        · exact ⟨_, rfl, e3⟩
        · exact ⟨_, rfl, e4⟩
      obtain ⟨b, rfl, tb⟩ := hb
      exact ⟨_, rfl, _, rfl, _, rfl, b, z, i, rfl, tb.sm sG, nm, sm, fun H' s => go2 _ s⟩
    · intro H13 s13 hD
      refine ⟨D, List.replicate 4 true, rfl, by rw [← all_range]; exact .inl (.inl hD), ?_⟩
      rw [all_true]
      refine ⟨true, rfl, ?_⟩
      have s1213 := sc.trans s13
      clear hD sc s13
      -- a Term without a shift
      refine ⟨_, rfl, z, rfl, nm, fun q H14 nq s14 tq => ?_⟩
      refine ⟨_, rfl, q, z, 0, rfl, tq, nm, by unfold Sm; decide +kernel, fun H15 s15 => ⟨true, rfl, ?_⟩⟩
      have s1215 := (s1213.trans s14).trans s15
      -- its equals
      refine ⟨_, rfl, _, rfl, _, rfl, _, rfl, x1, W, z, i, [y1, y2, y3], rfl, e1.sm s1215, nm, sn, s1215 _ _ hW, by show (3:Nat) ≤ 20; decide, ?_, fun H16 s16 => ⟨true, rfl, ?_⟩⟩
      · intro b hb
        simp only [List.mem_cons, List.not_mem_nil, or_false] at hb
        rcases hb with rfl | rfl | rfl
        · exact e2.sm s1215
        · exact e3.sm s1215
        · exact e4.sm s1215
      have s1216 := s1215.trans s16
      have sb16 := sb12.trans (SameB.of s1216)
      have f1 := e1.sm s1216
      have hL16 := s1216 _ _ hL12
      have p16 := p12.sm s1216
      clear s1213 s14 s15 s1215 s16 s1216 e1 e2 e3 e4 hW tq sb12 hL12 p12
      have ⟨dx, hx⟩ := f1
      -- what is moved, and what is due
      refine ⟨_, rfl, _, rfl, x1, dx, _, j, rfl, rfl, hx, x1, z, i, j, rfl, f1, nm, fun u1 H17 nu1 s17 w1 => ?_⟩
      have f2 := f1.sm s17
      refine ⟨_, rfl, _, rfl, x1, dx, _, j, rfl, rfl, s17 _ _ hx, x1, z, i, j, rfl, f2, nm, fun u2 H18 nu2 s18 w2 => ?_⟩
      have f3 := f2.sm s18
      have hx3 := s18 _ _ (s17 _ _ hx)
      refine ⟨_, rfl, _, rfl, x1, dx, _, j, rfl, rfl, hx3, x1, z, i, j, rfl, f3, nm, fun u3 H19 nu3 s19 w3 => ?_⟩
      have f4 := f3.sm s19
      refine ⟨_, rfl, x1, dx, _, 0, rfl, rfl, s19 _ _ hx3, x1, z, i, 0, rfl, f4, nm, fun u4 H20 nu4 s20 w4 => ?_⟩
      have w4' : TermAt cT H20 u4 z i := by
        have : TermAt cT H20 u4 z (i + 0) := w4
        rw [show (i + 0 : Int) = i by omega] at this
        exact this
      refine ⟨by show 4 ≤ sizeLine; decide, fun M nM => ⟨_, rfl, _, rfl, i, j, rfl, rfl, _, rfl, _, rfl, i, j, rfl, rfl, by show 2 ≤ sizeLine; decide, fun B nB => ⟨_, _, rfl, ?_⟩⟩⟩
      have sM := new_same (o := .lst [.ref u1, .ref u2, .ref u3, .ref u4]) nM
      have sB := new_same (o := .lst [.int (i + j), .int (i + j)]) nB
      have g1 := (((w1.sm s18).sm s19).sm s20).sm (sM.trans sB)
      have g2 := ((w2.sm s19).sm s20).sm (sM.trans sB)
      have g3 := (w3.sm s20).sm (sM.trans sB)
      have g4 := w4'.sm (sM.trans sB)
      have hM := sB M _ (upd_same (H := H20) (a := M) (o := .lst [.ref u1, .ref u2, .ref u3, .ref u4]))
      have hB : upd (upd H20 M (.lst [.ref u1, .ref u2, .ref u3, .ref u4])) B (.lst [.int (i + j), .int (i + j)]) B = some (.lst [.int (i + j), .int (i + j)]) := upd_same
      have s21 := ((((s17.trans s18).trans s19).trans s20).trans sM).trans sB
      have h1 := f1.sm s21
      have sb21 := sb16.trans (SameB.of s21)
      have hL21 := s21 _ _ hL16
      have p21 := p16.sm s21
      generalize upd (upd H20 M (.lst [.ref u1, .ref u2, .ref u3, .ref u4])) B (.lst [.int (i + j), .int (i + j)]) = H21 at g1 g2 g3 g4 hM hB s21 h1 sb21 hL21 p21
      clear f2 f3 f4 s17 s18 s19 s20 sM sB w1 w2 w3 w4 w4' hx hx3 nM nB f1 sb16 hL16 p16 s21
      -- all dues
      refine ⟨_, rfl, _, rfl, _, rfl, i, j, rfl, rfl, _, rfl, by show 2 ≤ sizeLine; decide, fun l2 nl2 => ⟨B, l2, _, _, rfl, rfl, new_same nl2 _ _ hB, upd_same, by show 2 + 2 ≤ sizeLine; decide, fun C nC => ?_⟩⟩
      have sC := (new_same (o := .lst [.int (i - j), .int i]) nl2).trans (new_same (o := .lst ([V.int (i + j), V.int (i + j)] ++ [V.int (i - j), V.int i])) nC)
      have hC : upd (upd H21 l2 (.lst [.int (i - j), .int i])) C (.lst ([V.int (i + j), V.int (i + j)] ++ [V.int (i - j), V.int i])) C = some (.lst [.int (i + j), .int (i + j), .int (i - j), .int i]) := upd_same
      have sb22 := sb21.trans (SameB.of sC)
      have hL22 := sC _ _ hL21
      have p22 := p21.sm sC
      have hM22 := sC _ _ hM
      have g1' := g1.sm sC
      have g2' := g2.sm sC
      have g3' := g3.sm sC
      have g4' := g4.sm sC
      have h2 := h1.sm sC
      generalize upd (upd H21 l2 (.lst [.int (i - j), .int i])) C (.lst ([V.int (i + j), V.int (i + j)] ++ [V.int (i - j), V.int i])) = H22 at hC sb22 hL22 p22 hM22 g1' g2' g3' g4' h2
      clear g1 g2 g3 g4 hM hB h1 sb21 hL21 p21 nC nl2 sC
      obtain ⟨_, _, q3', _, _⟩ := sn_add3 sn sj sj
      obtain ⟨_, _, _, _, q5''⟩ := sn_add3 sn sn sj
      -- each is the Term that is due
      refine ⟨_, rfl, _, rfl, M, C, _, _, rfl, .inl (.inl hM22), .inl (.inl hC), fun D2 nD2 => ?_⟩
      refine lc_map (walk_zip (n := 4) rfl) (fun _ => .bl true) nD2 (by show (4:Nat) ≤ 1000; decide) (fun H' s => ⟨.inl (.inl (s _ _ hM22)), .inl (.inl (s _ _ hC))⟩) (fun _ _ _ _ ⟨T, _, _, _, nT, e, _⟩ => by rw [e]; exact new_same nT) ?_ ?_
      · rintro k y G G' R lk smG smG' ⟨T, xx, yy, rfl, nT, rfl, hxx, hyy⟩ go2
        refine ⟨T, _, rfl, .inl (.inl upd_same), rfl, _, _, rfl, _, _, rfl, rfl, wipe_two _ _ _ _ _, ?_⟩
        --[[
        have sG := smG'
        have hb : ∃ b n, xx = .ref b ∧ yy = .int n ∧ Sm n ∧ TermAt cT H22 b z n := by
          match k, lk, hxx, hyy with
          | 0, _, hxx, hyy => exact ⟨u1, i + j, (Option.some.inj hxx).symm, (Option.some.inj hyy).symm, q3', g1'⟩
          | 1, _, hxx, hyy => exact ⟨u2, i + j, (Option.some.inj hxx).symm, (Option.some.inj hyy).symm, q3', g2'⟩
          | 2, _, hxx, hyy => exact ⟨u3, i - j, (Option.some.inj hxx).symm, (Option.some.inj hyy).symm, q5'', g3'⟩
          | 3, _, hxx, hyy => exact ⟨u4, i, (Option.some.inj hxx).symm, (Option.some.inj hyy).symm, sm, g4'⟩
          | n + 4, lt, _, _ => omega
        obtain ⟨b, n, rfl, rfl, smn, tb⟩ := hb
        exact ⟨_, rfl, _, rfl, _, rfl, b, z, n, rfl, tb.sm sG, nm, smn, fun H' s => go2 _ s⟩
        --]]
      · intro H23 s23 hD2
        refine ⟨D2, List.replicate 4 true, rfl, by rw [← all_range]; exact .inl (.inl hD2), ?_⟩
        rw [all_true]
        refine ⟨true, rfl, ?_⟩
        have sb23 := sb22.trans (SameB.of s23)
        have hL23 := s23 _ _ hL22
        have p23 := p22.sm s23
        have hM23 := s23 _ _ hM22
        have k1 := g1'.sm s23
        have k2 := h2.sm s23
        have k3 := g3'.sm s23
        clear g1' g2' g3' g4' h2 hC hM22 hL22 p22 sb22 hD2 s23
        -- a clock
        refine ⟨_, rfl, L, rfl, ⟨_, .inl (.inl hL23)⟩, fun D3 nD3 => ?_⟩
        refine clock_it (zs := z :: zr) nD3 hL23 La p23 az lz8 ?_ ?_
        · intro z' hz' G R pG go2
          refine ⟨rfl, ?_⟩
          exact ⟨_, rfl, _, rfl, a, rfl, pG, fun n G2 sn2 p2 s2 => ⟨by show 2 ≤ sizeLine; decide, fun T nT => go2 T G2 n sn2 p2 s2 nT⟩⟩
        · intro G ps kvs sbG pG hD tp ck len has
          refine ⟨D3, ps, kvs, rfl, .inl (.inl hD), tp, fun q nq => ?_⟩
          obtain ⟨ckm, lnm, inm⟩ := Clk.merge (acc := []) (es := kvs) (fun p h => by cases h) ck
          have lm9 : (mergeK [] kvs).length ≤ 9 := by
            rw [len] at lnm
            have : ([] : List (Key × V)).length = 0 := rfl
            omega
          obtain ⟨t, ht, st⟩ := ckm.get (inm (.inr z) (.inr (has z List.mem_cons_self)))
          obtain ⟨ds, hds⟩ := ckm.data
          have k1G := (k1.smB sbG p23).sm (new_same (o := .dK (mergeK [] kvs)) nq)
          have k2G := (k2.smB sbG p23).sm (new_same (o := .dK (mergeK [] kvs)) nq)
          have k3G := (k3.smB sbG p23).sm (new_same (o := .dK (mergeK [] kvs)) nq)
          have hMG : upd G q (.dK (mergeK [] kvs)) M = some (.lst [.ref u1, .ref u2, .ref u3, .ref u4]) := by
            refine new_same nq _ _ (sbG _ _ hM23 ?_)
            rintro rfl
            obtain ⟨_, _, e', _⟩ := p23
            rw [hM23] at e'
            cases e'
          have hq : upd G q (.dK (mergeK [] kvs)) q = some (.dK (mergeK [] kvs)) := upd_same
          have sbq : ∀ b o, H b = some o → b ≠ a → b ≠ q ∧ upd G q (.dK (mergeK [] kvs)) b = some o := fun b o e nb => by
            have e1 := sbG _ _ (sb23 _ _ e nb) nb
            exact ⟨ne_of_none e1 nq, new_same nq _ _ e1⟩
          clear k1 k2 k3 hM23 sb23 sbG pG hD tp ck len has lnm inm nD3 hL23 p23
          generalize mergeK [] kvs = m at ckm lm9 ht hds k1G k2G k3G hMG hq sbq
          generalize upd G q (.dK m) = H24 at k1G k2G k3G hMG hq sbq
          have posm : 0 < m.length := List.length_pos_of_mem (valV_mem ht)
          -- its text
          refine ⟨_, rfl, q, m, ds, rfl, hq, by omega, hds, ?_⟩
          obtain ⟨b1, b2, b3, b4⟩ := big_sums st sn sj
          have na := ckm.names hq posm (by omega)
          have ⟨dxa, hxa⟩ := k2G
          have ⟨dxb, hxb⟩ := k1G
          have ⟨dxc, hxc⟩ := k3G
          -- what it is worth
          refine ⟨_, rfl, x1, rfl, _, rfl, insC_of hxa, x1, q, z, i, t, m, rfl, k2G, na, ht, fun H25 s25 => ?_⟩
          have k2H := k2G.sm s25
          have ⟨dxd, hxd⟩ := k2H
          refine ⟨_, rfl, x1, rfl, _, rfl, ⟨dxd, _, hxd⟩, rfl, x1, q, z, i, t, m, rfl, k2H, ckm.names (s25 _ _ hq) posm (by omega), ht, fun H26 s26 => ?_⟩
          have s26' := s25.trans s26
          refine ⟨_, rfl, M, _, 0, .ref u1, rfl, rfl, .inl (.inl (s26' _ _ hMG)), atI_nat (j := 0) rfl, u1, rfl, _, rfl, insC_of (s26' _ _ hxb), u1, q, z, i + j, t, m, rfl, k1G.sm s26', ckm.names (s26' _ _ hq) posm (by omega), ht, fun H27 s27 => ?_⟩
          have s27' := s26'.trans s27
          refine ⟨_, rfl, M, _, 2, .ref u3, rfl, rfl, .inl (.inl (s27' _ _ hMG)), atI_nat (j := 2) rfl, u3, rfl, _, rfl, insC_of (s27' _ _ hxc), u3, q, z, i - j, t, m, rfl, k3G.sm s27', ckm.names (s27' _ _ hq) posm (by omega), ht, fun H28 s28 => ?_⟩
          have s28' := s27'.trans s28
          refine ⟨by show 4 ≤ sizeLine; decide, fun W2 nW2 => ?_⟩
          have sW2 := new_same (o := .lst [.int (t + i), .int (t + i), .int (t + (i + j)), .int (t + (i - j))]) nW2
          have hW2 : upd H28 W2 (.lst [.int (t + i), .int (t + i), .int (t + (i + j)), .int (t + (i - j))]) W2 = some (.lst [.int (t + i), .int (t + i), .int (t + (i + j)), .int (t + (i - j))]) := upd_same
          have s29 := s28'.trans sW2
          generalize upd H28 W2 (.lst [.int (t + i), .int (t + i), .int (t + (i + j)), .int (t + (i - j))]) = H29 at s29 hW2
          clear sW2 nW2 s25 s26 s26' s27 s27' s28 s28' k2H hxd hxa hxb hxc
          have hds4 : Paired Tiny [V.int (t + i), V.int (t + i), V.int (t + (i + j)), V.int (t + (i - j))] [.int (t + i), .int (t + i), .int (t + (i + j)), .int (t + (i - j))] := .cons (t_big b1) (.cons (t_big b1) (.cons (t_big b2) (.cons (t_big b3) .nil)))
          refine ⟨_, rfl, W2, _, _, rfl, hW2, by show 4 ≤ 40; decide, hds4, ?_⟩
          refine ⟨_, rfl, _, rfl, _, rfl, _, rfl, i, j, rfl, rfl, _, rfl, _, rfl, i, j, rfl, rfl, by show 4 ≤ sizeLine; decide, fun c2 nc2 => ?_⟩
          have sc2 := new_same (o := .lst [.int i, .int i, .int (i + j), .int (i - j)]) nc2
          refine ⟨c2, rfl, ⟨_, .inl (.inl upd_same)⟩, fun D4 nD4 => ?_⟩
          have hq29 := s29 _ _ hq
          refine lc_map (walk_list (xs := [V.int i, V.int i, V.int (i + j), V.int (i - j)])) (fun k => .int (t + [i, i, i + j, i - j].getD k 0)) nD4 (by show (4:Nat) ≤ 1000; decide) (fun H' s => .inl (.inl (s _ _ upd_same))) (fun _ _ _ _ y => by rw [y.1]; exact Same.refl _) ?_ ?_
          · rintro k y G2 G2' R lk smG _ ⟨rfl, hy⟩ go2
            refine ⟨rfl, ?_⟩
            have hq2 := smG _ _ (sc2 _ _ hq29)
            have hb : y = .int ([i, i, i + j, i - j].getD k 0) := by
              match k, lk, hy with
              | 0, _, hy => exact (Option.some.inj hy).symm
              | 1, _, hy => exact (Option.some.inj hy).symm
              | 2, _, hy => exact (Option.some.inj hy).symm
              | 3, _, hy => exact (Option.some.inj hy).symm
              | n + 4, lt, _ => exact absurd lt (by show ¬ (n + 4 < 4); omega)
            subst hb
            refine ⟨_, rfl, _, rfl, q, .int t, rfl, by rw [← ht]; exact DGet.k (k := Sum.inr z) hq2, _, rfl, t, _, rfl, rfl, go2 _ (Same.refl _)⟩
          · intro H31 s30 hD4
            have s31 := sc2.trans s30
            have hq31 := s31 _ _ hq29
            refine ⟨D4, _, _, rfl, hD4, by show 4 ≤ 40; decide, hds4, rfl, _, rfl, ?_⟩
            rw [decide_eq_true rfl]
            -- the clock has stayed
            refine ⟨_, rfl, q, m, ds, rfl, hq31, by omega, hds, _, rfl, rfl, _, rfl, ?_⟩
            rw [decide_eq_true rfl]
            -- another time
            refine ⟨_, rfl, _, rfl, q, .int t, rfl, by rw [← ht]; exact DGet.k (k := Sum.inr z) hq31, t, 7, rfl, rfl, ?_⟩
            refine ⟨_, rfl, _, rfl, q, _, rfl, DPut.k (k := Sum.inr z) hq31 (Nat.lt_of_le_of_lt (show m.length ≤ 9 by omega) (by decide)), ?_⟩
            have hne : ∀ b o, H b = some o → b ≠ a → upd H31 q (.dK (putK m (.inr z) (.int (t - 7)))) b = some o := fun b o e nb => by
              obtain ⟨n1, e1⟩ := sbq b o e nb
              rw [upd_ne n1]
              exact s31 _ _ (s29 _ _ e1)
            have k2I := (k2G.sm s29).sm s31
            have k2J : TermAt cT (upd H31 q (.dK (putK m (.inr z) (.int (t - 7))))) x1 z i := by
              obtain ⟨dx', e⟩ := k2I
              refine ⟨dx', (upd_ne ?_).trans e⟩
              rintro rfl
              rw [hq31] at e
              cases e
            have hq32 : upd H31 q (.dK (putK m (.inr z) (.int (t - 7)))) q = some (.dK (putK m (.inr z) (.int (t - 7)))) := upd_same
            have ht2 : valV (putK m (.inr z) (.int (t - 7))) (.inr z) = some (.int (t - 7)) := by
              have v := valV_put m (Sum.inr z) (Sum.inr z) (.int (t - 7))
              rw [if_pos rfl] at v
              exact v
            clear sbq s29 s31 hq31 hD4 hq29 sc2 k2I k2G k1G k3G hMG hq na
            generalize upd H31 q (.dK (putK m (.inr z) (.int (t - 7)))) = H32 at hne k2J hq32
            have ⟨dxe, hxe⟩ := k2J
            refine ⟨_, rfl, x1, rfl, _, rfl, insC_of hxe, x1, q, z, i, t - 7, _, rfl, k2J, NamesAt.put ckm nm lm9 hq32, ht2, fun H33 s33 => ?_⟩
            have k2K := k2J.sm s33
            have ⟨dxf, hxf⟩ := k2K
            refine ⟨_, rfl, x1, rfl, _, rfl, ⟨dxf, _, hxf⟩, rfl, x1, q, z, i, t - 7, _, rfl, k2K, NamesAt.put ckm nm lm9 (s33 _ _ hq32), ht2, fun H34 s34 => ?_⟩
            refine ⟨by show 2 ≤ sizeLine; decide, fun W3 nW3 => ?_⟩
            have sW3 := new_same (o := .lst [.int (t - 7 + i), .int (t - 7 + i)]) nW3
            have s35 := (s33.trans s34).trans sW3
            have hds2 : Paired Tiny [V.int (t - 7 + i), V.int (t - 7 + i)] [.int (t - 7 + i), .int (t - 7 + i)] := .cons (t_big b4) (.cons (t_big b4) .nil)
            refine ⟨W3, _, _, rfl, upd_same, by show 2 ≤ 40; decide, hds2, ?_⟩
            refine ⟨_, rfl, _, rfl, q, .int (t - 7), rfl, by rw [← ht2]; exact DGet.k (k := Sum.inr z) (s35 _ _ hq32), _, rfl, t - 7, i, rfl, rfl, by show 1 ≤ sizeLine; decide, fun W4 nW4 => ?_⟩
            have sW4 := new_same (o := .lst [.int (t - 7 + i)]) nW4
            refine ⟨W4, 2, [.int (t - 7 + i)], rfl, rfl, upd_same, by decide, by decide, by show 1 * 2 ≤ sizeLine; decide, fun W5 nW5 => ?_⟩
            have s36 := s35.trans (sW4.trans (new_same (o := .lst (List.replicate (2 : Int).toNat [V.int (t - 7 + i)]).flatten) nW5))
            refine ⟨W5, _, _, rfl, upd_same, by show 2 ≤ 40; decide, hds2, rfl, _, rfl, ?_⟩
            rw [decide_eq_true rfl]
            refine ⟨_, rfl, _, rfl, _, rfl, x1, z, i, rfl, k2J.sm s36, nm, sm, fun H' s => go _ fun b o e nb => ?_⟩
            exact s _ _ (s36 _ _ (hne b o e nb))
end
end E10

set_option Elab.async false
set_option linter.all false
set_option maxRecDepth 100000
set_option maxHeartbeats 8000000
namespace E10
open L2 PySem PySem.Spec PyProof.Rows
/-! ### the law -/
def spLaw (K : PySem.W.Frag) : Sp := fun vs H Q _ => ∃ (a : Addr) (ns : List Int), vs = [.ref a] ∧ SqL K H a (ns.map V.int) ∧ ns.length ≤ 63 ∧ ∀ H', Q (.bl true) H'
theorem three (n : Nat) : ∃ m : Nat, (if ((if (3 : Int) < (n : Int) then (3 : Int) else (n : Int)) > 1) then (if (3 : Int) < (n : Int) then (3 : Int) else (n : Int)) else 1) = (m : Int) ∧ m ≤ 3 := by
  by_cases h : (3 : Int) < (n : Int)
  · exact ⟨3, by rw [if_pos h]; rfl, by decide⟩
  · rw [if_neg h]
    by_cases h1 : (n : Int) > 1
    · exact ⟨n, by rw [if_pos h1], by omega⟩
    · exact ⟨1, by rw [if_neg h1]; rfl, by decide⟩
section
variable {P : Program} {w : World} {K : PySem.W.Frag} {mg : Str → Option Value} {base : Heap} {f : Addr} {fd : FuncData}
theorem scLaw : FnScope ["_law_script", "_law_k"] ["_law_script"] (defScope (top 44)) := ⟨rfl, rfl, rfl, by decide +kernel, rfl, by decide +kernel, by decide +kernel⟩
theorem ok_law (N : Nam mg) (DP : Def P w K mg base "_law_pot" ["_law_script", "_law_k"] 1 (spPot K)) (DR : DefG P w K mg base "_law_right" ["_law_pot_here"] 7 spRight) (F : Fun K "law" "law" (top 44) f fd) : FnG P w K mg base 8 f fd ["_law_script"] (spLaw K) := by
  refine Fun.okG F scLaw (fun {vs H Q E} h => ?_) (fun cdv A outer s H vs Q E hG hr h => ?_)
  · obtain ⟨a, ns, rfl, _⟩ := h
    rfl
  · obtain ⟨a, ns, rfl, hS, hl, go⟩ := h
    refine ⟨_, pss_one (ps_ret (pe_callB (cr_all rfl) rfl N.all_ boot_all' (pa_cons (pe_lc (own := [("_law_k", 1)]) (g := gName 1) (tt := tYes) (te := tCall spRight [] E0 (tCons (tCall (spPot K) [] E0 (tCons (tVar 0) (tCons (tVar 1) tNil))) tNil)) (by rfl) scLaw.nd
        (pi_range1 rfl N.rng (pa_cons (pe_callB (call_max2 rfl) rfl N.mx PyProof.Rows.boot_max (pa_cons pe_int (pa_cons (pe_callB (call_min2 rfl) rfl N.mn PyProof.Rows.boot_min (pa_cons (pe_callB call_len_seq rfl N.len PySem.boot_len (pa_cons (pv 0) pa_nil)) (pa_cons pe_int pa_nil))) pa_nil))) pa_nil))
        (blkOk_by (own := [("_law_k", 1)]) (N := ["_law_script", "_law_k"]) (sc := defScope (top 44)) (by decide +kernel)) (fun _ _ _ _ _ => pg_name (i := 1) scLaw.nd rfl (Or.inl rfl)) (fun _ _ _ _ _ => pts_nil)
        (fun _ _ _ _ _ => callDG DR hG hr rfl (pa_cons (callD DP (hr.mono (by decide)) rfl (pa_cons (pv 0) (pa_cons (pv 1) pa_nil))) pa_nil))) pa_nil))), ?_⟩
    refine ⟨_, rfl, a, _, rfl, .inl hS, _, _, rfl, _, _, rfl, ?_⟩
    rw [List.length_map]
    obtain ⟨m, em, m3⟩ := three ns.length
    refine ⟨_, rfl, ?_⟩
    rw [em]
    refine ⟨by omega, by omega, fun D nD => ?_⟩
    refine lc_it (walk_range (lo := 0) (n := ((m : Int)).toNat)) (fun i H' => Same H H' ∧ H' D = some (.lst ((List.replicate i true).map V.bl))) ⟨new_same nD, upd_same⟩ (fun _ _ _ _ => True.intro) ?_ ?_
    · rintro i x H1 H1' hi ⟨sm, hD⟩ ⟨rfl, rfl⟩
      have em : ((m : Int)).toNat = m := rfl
      refine ⟨rfl, ?_⟩
      refine ⟨_, rfl, _, rfl, a, ns, i, by show [V.ref a, V.int (0 + (i : Int))] = _; rw [Int.zero_add], SqL.sm sm hS, by omega, hl, fun p H2 np s2 hp => ⟨p, rfl, hp, fun H3 s3 => ?_⟩⟩
      have s4 : Same H1' H3 := fun b o e => s3 b o (s2 b o e) (ne_of_none e np)
      refine ⟨_, s4 _ _ hD, by rw [List.length_map, List.length_replicate]; exact Nat.lt_of_lt_of_le (Nat.lt_of_lt_of_le hi (by rw [em]; exact m3)) (by decide), fun c u e => ?_, ?_⟩
      · rw [upd_ne (ne_of_none e nD)]
        exact s4 _ _ (sm c u e)
      · rw [upd_same, List.replicate_succ', List.map_append]
        rfl
    · rintro H1 ⟨sm, hD⟩
      refine ⟨D, List.replicate ((m : Int)).toNat true, rfl, .inl (.inl hD), ?_⟩
      rw [all_true]
      exact go H1
end
end E10

set_option Elab.async false
set_option linter.all false
set_option maxRecDepth 100000
set_option maxHeartbeats 8000000
namespace E10
open L2 PySem PySem.Spec PyProof.Rows
/-! ### the law's call, at the heap behind the top -/
/-- what is tracked there: the script, or nothing -/
structure Begins (K : PySem.W.Frag) (H : Hp) (a : Addr) (o : Obj) (xs : List V) : Prop where
  just : ∀ b u, H b = some u → b = a ∧ u = .frz o (.lst xs) ∧ K.lookup a = none
  seq : SqL K H a xs
theorem begins {K : PySem.W.Frag} {h : Heap} {a : Addr} {vs : List Value} {xs : List V} (inK : K.In h) (at_ : h.get? a = some { cls := .type "list", data := .seq vs.toArray }) (r : Vals xs vs) (few : xs.length ≤ sizeLine) :
    ∃ H, Begins K H a { cls := .type "list", data := .seq vs.toArray } xs := by
  cases z : K.lookup a with
  | none =>
    refine ⟨fun b => if b = a then some (.frz { cls := .type "list", data := .seq vs.toArray } (.lst xs)) else none, ⟨fun b u e => ?_, .inl (.inr ⟨_, if_pos rfl⟩)⟩⟩
    by_cases q : b = a
    · have e2 := (if_pos q).symm.trans e
      cases e2
      exact ⟨q, rfl, z⟩
    · have e2 := (if_neg q).symm.trans e
      cases e2
  | some o =>
    have same := inK _ _ z
    rw [at_] at same
    cases same
    refine ⟨fun _ => none, ⟨fun b u e => ?_, .inr ⟨_, vs.toArray, _, z, rfl, rfl, rfl, by rw [List.size_toArray, ← r.length]; exact few, r⟩⟩⟩
    cases (show (none : Option HO) = some u from e)
theorem goes_at {P : Program} {w : World} {K : PySem.W.Frag} {mg mb : Str → Option Value} {k : Nat} {f a : Addr} {fd : FuncData} {y : Str} {sp : Sp} {t : Shared} {vs : List Value} {xs : List V}
    (inK : K.In t.heap) (g : t.heap.Ns mainGlobals mg) (bn : t.heap.Ns builtinsNs mb) (bb : ∀ x : Str, x ≠ "__name__" → mb x = bootBuiltins x) (lim : t.heap.NoLimit) (no : t.gens = #[])
    (at_ : t.heap.get? a = some { cls := .type "list", data := .seq vs.toArray }) (r : Vals xs vs) (few : xs.length ≤ sizeLine) (room : Room k callerA)
    (F : ∀ base : Heap, K.In base → base.Ns mainGlobals mg → FnG P w K mg base k f fd [y] sp) (bi : ∀ (s : Shared) (u : Value), BindsTo s fd ⟨[u], []⟩ [(y, u)])
    (want : ∀ H : Hp, SqL K H a xs → sp [.ref a] H (fun v _ => v = .bl true) E0) :
    codeAny (model P w) callerA (.call (.ref f) ⟨[.ref a], []⟩) (fun res t' => res = .ok (.ret (.bool true)) ∧ OldK t.heap t'.heap ∧ t'.os = t.os ∧ AllBare t'.gens) t := by
  obtain ⟨H, B⟩ := begins inK at_ r few
  have ok : HOk P w H t.heap := fun b u e => by
    obtain ⟨rfl, rfl, _⟩ := B.just b u e
    exact ⟨at_, few, vs, _, r, at_⟩
  have out : ∀ {b : Addr} {m : Str → Option Value}, t.heap.Ns b m → (hidT t.heap H).Ns b m := fun {b m} ⟨o, es, ep, e, d, q⟩ => by
    refine ⟨o, es, ep, hidT_get e ?_, d, q⟩
    cases z : H b with
    | none => rfl
    | some u =>
      obtain ⟨rfl, _, _⟩ := B.just b u z
      rw [at_] at e
      cases e
      cases (show Data.seq vs.toArray _ = Data.dict es ep from d)
  have inB : K.In (hidT t.heap H) := fun b o e => by
    refine hidT_get (inK b o e) ?_
    cases z : H b with
    | none => rfl
    | some u =>
      obtain ⟨rfl, _, n⟩ := B.just b u z
      rw [n] at e
      cases e
  obtain ⟨mc, l1, l2⟩ := lim
  have env : Env0 P w K mg (hidT t.heap H) callerA [] t H := ⟨rfl, ⟨inB, out g, ⟨mb, out bn, bb⟩, ⟨mc, out l1, l2⟩⟩, fun _ _ e => of_hidT e, Nat.le_of_eq (hidT_size _ _), trivial, (fun b m => absurd (show b ∈ ([] : List Addr) from m) (List.not_mem_nil)), ok, .of_eq no⟩
  refine codeAny_mono ((F _ inB (out g)).goes (us := [.ref a]) (vs := [.ref a]) rfl room env (bi t (.ref a)) (.cons rfl .nil) (want H B.seq)) fun res t' ends => ?_
  match res, ends with
  | .error _, z => exact z.elim
  | .ok .next, z => exact z.elim
  | .ok .brk, z => exact z.elim
  | .ok .cont, z => exact z.elim
  | .ok (.ret u), ⟨v, H', os, bare, un, ok', rv, q⟩ =>
    cases (show v = V.bl true from q)
    cases (show u = Value.bool true from rv)
    refine ⟨rfl, OldK.of_keep fun b o e => ?_, os, bare⟩
    cases z : H b with
    | none => exact un.keep b o e z (fun m => by cases m) (fun m => by cases m)
    | some u =>
      obtain ⟨rfl, rfl, _⟩ := B.just b u z
      rw [at_] at e
      cases e
      exact (ok' _ _ (un.frzs _ _ _ z)).1
theorem walkG {l : PySem.W.OpenLaw} {n k : Nat} {q : Program} {loose : List Str} {XP : (Str → Option Value) → Heap → Prop} {YP : World → Heap → Prop} {d : DefRec} {y : Str} (most : l.most = some n) (line : n ≤ sizeLine) (df : d.params.defaults = []) (room : Room k callerA)
    (F : ∀ (w : World) (mg : Str → Option Value) (f : Addr) (h : Heap), YP w h → h.Ns mainGlobals mg → mg d.name = some (.ref f) → ∃ (K : PySem.W.Frag) (fd : FuncData) (sp : Sp), K.In h ∧ (∀ (s : Shared) (u : Value), BindsTo s fd ⟨[u], []⟩ [(y, u)]) ∧
      (∀ (H : Hp) (a : Addr) (ns : List Int), ns.length ≤ n → SqL K H a (ns.map V.int) → sp [.ref a] H (fun v _ => v = .bl true) E0) ∧ ∀ base : Heap, K.In base → base.Ns mainGlobals mg → FnG l.prog w K mg base k f fd [y] sp) :
    PySem.W.WalkO q loose XP YP l.row.toRowW d [] (fun f vs => PySem.call f vs) := by
  refine Att.attach_call most df fun w s0 t mg mb f o pm cd doc a vs ns G Y at_f is_f rec_f is_g at_a nums few no => ?_
  obtain ⟨K, fd, sp, inK, bi, want, G2⟩ := F w mg f _ Y G.T.g is_g
  exact goes_at inK G.T.g G.T.b G.T.builtins G.T.nolimit no at_a (vals_ints nums) (by rw [List.length_map]; exact Nat.le_trans few line) room G2 bi fun H S => want H a ns few S
end E10

set_option Elab.async false
set_option linter.all false
set_option maxRecDepth 100000
set_option maxHeartbeats 4000000
namespace E10
open L2 PySem PySem.Spec PyProof.Rows
open He (eqO eqO_ok ba ga ma)
/-! ### looks at the heap behind the top, and what follows from them -/
section
variable {K : PySem.W.Frag}
def gloB (K : PySem.W.Frag) (x : Str) : Bool := eqO (PySem.W.nsIn K mainGlobals x) (some (some (.ref (ga K x))))
def freeB (K : PySem.W.Frag) (x : Str) : Bool := eqO (PySem.W.nsIn K mainGlobals x) (some none)
def intB (K : PySem.W.Frag) (p : Str × Int) : Bool := (He.Fa.int p.1 p.2).ok K
def mB (K : PySem.W.Frag) (C : Addr) (m : Str) : Bool := eqO (PySem.W.findIn K (.ref C) m) (some (some (.ref (ma K C m)))) && PySem.W.isFn K (.ref (ma K C m))
theorem mB_ok {C : Addr} {m : Str} (h : mB K C m = true) : Has K C (ma K C m) m := ⟨eqO_ok (ba h).1, (ba h).2⟩
def clB (K : PySem.W.Frag) (C : Addr) : Bool := PySem.W.plainGet K C Str.empty && (PySem.W.hasDictIn K C && (PySem.W.plainOver K C && eqO (PySem.W.findIn K (.ref C) "__setattr__") (some (some (.builtin "object.__setattr__")))))
theorem clB_ok {C : Addr} (h : clB K C = true) : Cls K C := by
  obtain ⟨a, h⟩ := ba h
  obtain ⟨b, h⟩ := ba h
  obtain ⟨c, d⟩ := ba h
  exact ⟨a, b, c, eqO_ok d⟩
def ownB (K : PySem.W.Frag) (C : Addr) : Bool := clB K C && (eqO (PySem.W.findIn K (.ref C) "__class__") (some (some (.builtin "object.__class__"))) && (eqO (PySem.W.specialIn K (.builtin "object.__class__") "__get__") (some (some (.builtin "getset_descriptor.__get__"))) &&
  (decide (PySem.W.takesIn K (.builtin "object.__class__") = some true) && (decide (PySem.W.mroIn K C (.type "object") = some true) && (decide (PySem.W.subIn K (.ref C) (.type "object") = some true) && (decide (PySem.W.kitOne K (.ref C) (.ref C) = some true) && PySem.W.selfFirst K C))))))
theorem ownB_ok {C : Addr} (h : ownB K C = true) : Own K C := by
  obtain ⟨a, h⟩ := ba h
  obtain ⟨b, h⟩ := ba h
  obtain ⟨c, h⟩ := ba h
  obtain ⟨d, h⟩ := ba h
  obtain ⟨e, h⟩ := ba h
  obtain ⟨f, h⟩ := ba h
  obtain ⟨g, i⟩ := ba h
  exact ⟨clB_ok a, eqO_ok b, eqO_ok c, of_decide_eq_true d, of_decide_eq_true e, of_decide_eq_true f, of_decide_eq_true g, i⟩
def noB (K : PySem.W.Frag) (C : Addr) (f : Str) : Bool := eqO (PySem.W.findIn K (.ref C) f) (some none)
def propB (K : PySem.W.Frag) (C : Addr) (f : Str) : Bool := eqO (PySem.W.findIn K (.ref C) f) (some (some (.ref (ma K C f)))) && (eqO (PySem.W.specialIn K (.ref (ma K C f)) "__get__") (some (some (.builtin "property.__get__"))) && (decide (PySem.W.takesIn K (.ref (ma K C f)) = some true) &&
  match PySem.W.recIn K (ma K C f) "property" with
  | some (.ref _ :: _) => true
  | _ => false))
theorem propB_ok {C : Addr} {f : Str} (h : propB K C f = true) : PropOf K C f (ma K C f) (He5.wf K C "property" f) := by
  obtain ⟨a, h⟩ := ba h
  obtain ⟨b, h⟩ := ba h
  obtain ⟨c, h⟩ := ba h
  refine ⟨eqO_ok a, eqO_ok b, of_decide_eq_true c, ?_⟩
  unfold He5.wf
  split at h
  · rename_i g r e
    exact ⟨r, by rw [e]⟩
  · cases h
def neB (K : PySem.W.Frag) (C : Addr) : Bool := eqO (PySem.W.findIn K (.ref C) "__ne__") (some (some (.builtin "object.__ne__"))) && (decide (PySem.W.mroIn K C (.type "object") = some true) && decide (PySem.W.subIn K (.ref C) (.type "object") = some true))
theorem neB_ok {C : Addr} (h : neB K C = true) : NeBy K C := by
  obtain ⟨a, h⟩ := ba h
  obtain ⟨b, c⟩ := ba h
  exact ⟨eqO_ok a, of_decide_eq_true b, of_decide_eq_true c⟩
def callB (K : PySem.W.Frag) (C : Addr) : Bool := mB K C "__call__" && PySem.W.fnIn K (ma K C "__call__")
theorem callB_ok {C : Addr} (h : callB K C = true) : StX.CallO K C (ma K C "__call__") := by
  obtain ⟨a, b⟩ := ba h
  exact ⟨(mB_ok a).at_, (mB_ok a).fn, b⟩
def mkB (K : PySem.W.Frag) (C : Addr) : Bool := PySem.W.makesIn K C && (mB K C "__init__" && PySem.W.keepIn K (.ref C))
theorem mkB_ok {C : Addr} (h : mkB K C = true) : Mk K C (ma K C "__init__") := by
  obtain ⟨a, h⟩ := ba h
  obtain ⟨b, c⟩ := ba h
  exact ⟨a, (mB_ok b).at_, (mB_ok b).fn, c⟩
def intX (K : PySem.W.Frag) (C : Addr) : Bool := decide (PySem.W.subIn K (.type "int") (.ref C) = some false) && decide (PySem.W.subIn K (.ref C) (.type "int") = some false)
theorem intX_ok {C : Addr} (h : intX K C = true) : PySem.W.subIn K (.type "int") (.ref C) = some false ∧ PySem.W.subIn K (.ref C) (.type "int") = some false := ⟨of_decide_eq_true (ba h).1, of_decide_eq_true (ba h).2⟩
variable {x qual : Str} {params : Arguments} {body : List Stmt} {scope : Scope} {dvs : List V} {f : Addr} {fd : FuncData} {ps : List Str}
theorem vals_at : ∀ {zs : List V} {ws : List Value} (i : Nat), Vals zs ws → RelV (zs.getD i .non) (ws.getD i .none)
  | _, _, _, .nil => rfl
  | _, _, 0, .cons r _ => r
  | _, _, i + 1, .cons _ t => by
    rw [List.getD_cons_succ, List.getD_cons_succ]
    exact vals_at i t
/-- a call with keywords of a def that has defaults, but none of keywords alone -/
theorem kb_dfl (F : FunD K x qual params body scope dvs [] f fd) (n : Nat) (ks : List Str) (g : List Value → List Value → List Value → List Value) (gV : List V → List V → List V) (hd : dvs ≠ [])
    (hrel : ∀ {vs zs : List V} {us its ws : List Value}, Vals vs us → Vals dvs its → Vals zs ws → Vals (gV vs zs) (g us its ws))
    (h : ∀ (T : Addr) (kV doc pm : Value) (an : Option Addr) (cdv ct : Value) (us its ws : List Value), us.length = n → its.length = dvs.length → ws.length = ks.length →
      ∃ k, bindArgs (PySem.W.fnOf x qual params body scope (.ref T) kV doc pm an cdv ct) ⟨us, ks.zip ws⟩ = seqItems? (.ref T) >>= k ∧ k (some its.toArray) = pure (ps.zip (g us its ws))) :
    ∃ its, KBn K fd ps n ks (fun us ws => g us its ws) gV := by
  obtain ⟨oc, od, dV, kV, doc, pm, an, cdv, ct, osl, rfl, lk, hcd, hD, _⟩ := F.ex
  rcases hD with ⟨e, _⟩ | ⟨_, T, o, its, m, rfl, lT, oT, rT⟩
  · exact absurd e hd
  · refine ⟨its, ⟨fun s us ws X l1 l2 => ?_, fun r1 r2 => hrel r1 rT r2⟩⟩
    obtain ⟨k, e1, e2⟩ := h T kV doc pm an cdv ct us its ws l1 rT.length.symm l2
    refine BindsTo.of_looks fun M => ?_
    rw [e1]
    exact looks_items X lT oT (.of_pure e2)
/-- every parameter is given, by place, to a def that has defaults -/
theorem binds_full (F : FunD K x qual params body scope dvs [] f fd) (hd : dvs ≠ [])
    (h : ∀ (T : Addr) (kV doc pm : Value) (an : Option Addr) (cdv ct : Value) (us its : List Value), us.length = ps.length → its.length = dvs.length →
      ∃ k, bindArgs (PySem.W.fnOf x qual params body scope (.ref T) kV doc pm an cdv ct) ⟨us, []⟩ = seqItems? (.ref T) >>= k ∧ k (some its.toArray) = pure (ps.zip us)) : Binds K fd ps [] := by
  obtain ⟨oc, od, dV, kV, doc, pm, an, cdv, ct, osl, rfl, lk, hcd, hD, _⟩ := F.ex
  rcases hD with ⟨e, _⟩ | ⟨_, T, o, its, m, rfl, lT, oT, rT⟩
  · exact absurd e hd
  · refine fun s us X hlen => ?_
    rw [List.append_nil] at hlen ⊢
    obtain ⟨k, e1, e2⟩ := h T kV doc pm an cdv ct us its hlen rT.length.symm
    refine BindsTo.of_looks fun M => ?_
    rw [e1]
    exact looks_items X lT oT (.of_pure e2)
end
section
variable {P : Program} {w : World} {K : PySem.W.Frag} {mg : Str → Option Value} {base : Heap}
theorem glo_of (X : K.In base) (G : base.Ns mainGlobals mg) {l : List Str} (h : l.all (gloB K) = true) (i : Nat) {x : Str} (e : l[i]? = some x := by rfl) : mg x = some (.ref (ga K x)) :=
  PySem.W.mg_of X G (eqO_ok (List.all_eq_true.mp h x (List.mem_of_getElem? e)))
theorem free_of (X : K.In base) (G : base.Ns mainGlobals mg) {l : List Str} (h : l.all (freeB K) = true) (i : Nat) {x : Str} (e : l[i]? = some x := by rfl) : mg x = none :=
  PySem.W.mg_none_of X G (eqO_ok (List.all_eq_true.mp h x (List.mem_of_getElem? e)))
theorem int_of (X : K.In base) (G : base.Ns mainGlobals mg) {l : List (Str × Int)} (h : l.all (intB K) = true) (i : Nat) {x : Str} {n : Int} (e : l[i]? = some (x, n) := by rfl) : ∃ t, mg x = some (.int n t) :=
  He.int_ok X G (List.all_eq_true.mp h _ (List.mem_of_getElem? e))
theorem fun_of {x qual : Str} {st : Stmt} {f : Addr} {fd : FuncData} (F : FunD K x qual (defArgs st) (defBody st) (defScope st) [] [] f fd) : Fun K x qual st f fd := He5.fun_of F
theorem def_mk {x : Str} {ps : List Str} {k : Nat} {sp : Sp} {st : Stmt} {f : Addr} {fd : FuncData} (F : Fun K x x st f fd) (g : mg x = some (.ref f)) (ok : FnOk P w K mg base CX0 k f fd ps sp)
    (h : ∀ (kV doc pm : Value) (an : Option Addr) (cdv ct : Value) (us : List Value), us.length = ps.length → bindArgs (PySem.W.fnOf x x (defArgs st) (defBody st) (defScope st) .none kV doc pm an cdv ct) ⟨us, []⟩ = pure (ps.zip us)) : Def P w K mg base x ps k sp :=
  ⟨_, fd, ok, g, F.kp, F.binds h⟩
theorem defG_mk {x : Str} {ps : List Str} {k : Nat} {sp : Sp} {st : Stmt} {f : Addr} {fd : FuncData} (F : Fun K x x st f fd) (g : mg x = some (.ref f)) (ok : FnG P w K mg base k f fd ps sp)
    (h : ∀ (kV doc pm : Value) (an : Option Addr) (cdv ct : Value) (us : List Value), us.length = ps.length → bindArgs (PySem.W.fnOf x x (defArgs st) (defBody st) (defScope st) .none kV doc pm an cdv ct) ⟨us, []⟩ = pure (ps.zip us)) : DefG P w K mg base x ps k sp :=
  ⟨_, fd, ok, g, F.kp, F.binds h⟩
theorem one_fd {x q : Str} {st : Stmt} {f : Addr} {fd fd' : FuncData} (F : Fun K x q st f fd) (F' : Fun K x q st f fd') : fd' = fd := by
  obtain ⟨oc, od, _, _, _, _, _, _, osl, _, l, _⟩ := F.ex
  obtain ⟨oc', od', _, _, _, _, _, _, osl', _, l', _⟩ := F'.ex
  have e := l'.symm.trans l
  simp only [Option.some.injEq, Obj.mk.injEq, Data.func.injEq] at e
  exact e.2.2.1
end
end E10

set_option Elab.async false
set_option linter.all false
set_option maxRecDepth 100000
set_option maxHeartbeats 0
namespace E10
open L2 PySem PySem.Spec PyProof.Rows
open He (ga ma)
/-! ### what is looked at behind the top -/
def nfree : List Str := ["isinstance", "all", "any", "len", "range", "int", "max", "min", "abs", "divmod", "repr", "str", "dict", "zip", "bool", "tuple", "sorted"]
def nglob : List Str := ["is_name", "is_integer", "has_names", "is_times", "check_shift", "check_times", "in_order", "term_text", "check_shifts", "_law_pot", "_law_draw", "_law_choice", "_law_names", "_law_number", "_law_text", "_law_is_term", "_law_equals_right", "_law_right", "law", "Term", "Earliest"]
def dF (i : Nat) (x : Str) : He5.DefA := ⟨fun K => ga K x, x, x, defArgs (top i), defBody (top i), defScope (top i), [], []⟩
def dM (c : Str) (s : Stmt) (x q : Str) : He5.DefA := ⟨fun K => ma K (ga K c) x, x, q, defArgs s, defBody s, defScope s, [], []⟩
def dP (c : Str) (s : Stmt) (x q : Str) : He5.DefA := ⟨fun K => He5.wf K (ga K c) "property" x, x, q, defArgs s, defBody s, defScope s, [], []⟩
def dfs : List He5.DefA := [dF 13 "is_name", dF 14 "is_integer", dF 16 "has_names", dF 17 "is_times", dF 19 "check_shift", dF 20 "check_times", dF 23 "in_order", dF 27 "term_text", dF 30 "check_shifts",
  dF 35 "_law_pot", dF 36 "_law_draw", dF 37 "_law_choice", dF 38 "_law_names", dF 39 "_law_number", dF 40 "_law_text", dF 41 "_law_is_term", dF 42 "_law_equals_right", dF 43 "_law_right", dF 44 "law",
  ⟨fun K => ma K (ga K "Term") "__init__", "__init__", "Term.__init__", defArgs (mT 0), defBody (mT 0), defScope (mT 0), [.int 0], []⟩,
  dP "Term" (mT 1) "moment" "Term.moment", dP "Term" (mT 2) "shift" "Term.shift", dM "Term" (mT 4) "__call__" "Term.__call__", dM "Term" (mT 5) "__add__" "Term.__add__", dM "Term" (mT 6) "__radd__" "Term.__radd__", dM "Term" (mT 7) "__sub__" "Term.__sub__",
  dM "Term" (mT 10) "__eq__" "Term.__eq__", dM "Term" (mT 11) "__str__" "Term.__str__", dM "Term" (mT 12) "__repr__" "Term.__repr__", dM "Earliest" (mE 0) "__init__" "Earliest.__init__"]
def others (K : PySem.W.Frag) : List Value := [.ref (ga K "Earliest"), .type "tuple", .type "list", .type "str", .type "NoneType", .type "int"]
def chks (K : PySem.W.Frag) : List Bool := [nfree.all (freeB K), nglob.all (gloB K), ([("MOST_LETTERS", 8), ("MOST_TERMS", 8)] : List (Str × Int)).all (intB K), ownB K (ga K "Term"), ownB K (ga K "Earliest"), noB K (ga K "Term") "_moment", noB K (ga K "Term") "_shift", noB K (ga K "Earliest") "_shifts",
  mkB K (ga K "Term"), mkB K (ga K "Earliest"), propB K (ga K "Term") "moment", propB K (ga K "Term") "shift", mB K (ga K "Term") (PySem.dunder "add"), mB K (ga K "Term") (dunderR "add"), mB K (ga K "Term") (PySem.dunder "sub"), noB K (ga K "Term") (dunderR "sub"), intX K (ga K "Term"),
  mB K (ga K "Term") "__str__", mB K (ga K "Term") "__repr__", mB K (ga K "Term") "__eq__", neB K (ga K "Term"), callB K (ga K "Term"), ((.ref (ga K "Term")) :: others K).all (PySem.W.notFirst K (ga K "Term")), (others K).all fun t => decide (PySem.W.kitOne K t (.ref (ga K "Term")) = some false), dfs.all (He5.DefA.ok K)]
abbrev Al : Type := Bool × List He.FnW
def obsK (K : PySem.W.Frag) : Al := ((chks K).all id, dfs.map fun d => He5.fnA K (d.at_ K))
def val0 : Al := (true, dfs.map He5.DefA.val)
def frag (g : Addr → Option Obj) : PySem.W.Frag := He.frG g (cStatics :: He.asD g 5)
def hook : PySem.W.Hook where
  α := Al
  obs := fun s => obsK (frag s.heap.get?)
  val := fun _ => val0
  says := fun _ h => ∃ K : PySem.W.Frag, K.In h ∧ obsK K = val0
  of := fun _ _ e => ⟨_, He.frG_in, e⟩
  keeps := fun _ _ _ ⟨K, hK, c⟩ k => ⟨K, PySem.W.Frag.In.keeps hK k, c⟩
abbrev R : PySem.W.OpenRow := PySem.W.OpenLaw.row PySem.Challenge.rw_anyofthese_k10_terms_made_and_told
abbrev qv : Program := PySem.W.view R.prog [44]
def names1 : List Str := ["_wall", "AnyError", "InvalidName", "InvalidShift", "InvalidShifts", "InvalidTimes", "MissingError", "UnknownMoment", "LimitError", "TooMany", "MOST_LETTERS", "is_name", "is_integer", "is_moment_of", "has_names", "is_times", "check_shift", "check_times", "check_moment", "in_order"]
def names2 : List Str := ["moved", "least_of", "term_text", "MOST_TERMS", "check_shifts", "Earliest", "Term", "_law_pot", "_law_draw", "_law_choice", "_law_names", "_law_number", "_law_text", "_law_is_term", "_law_equals_right", "_law_right"]
def names : List Str := names1 ++ names2
def ob (s : PySem.W.SharedT) : Al := obsK (frag (HandSHeadRun.getT s))
theorem ob_eq (s : PySem.W.SharedT) : ob s = hook.obs s.abs := by
  have e : HandSHeadRun.getT s = s.abs.heap.get? := funext (HandSHeadRun.getT_eq s)
  show obsK (frag (HandSHeadRun.getT s)) = _
  rw [e]
  rfl
end E10

set_option Elab.async false
set_option maxRecDepth 100000
set_option maxHeartbeats 0
namespace E10
open L2 PySem PySem.Spec PyProof.Rows
theorem run (w : World) : HandSHeadRun.RunEq R qv hook ob 60000 names w := by
  intro os
  kernel_rfl
end E10

set_option Elab.async false
set_option linter.all false
set_option maxRecDepth 100000
set_option maxHeartbeats 4000000
namespace E10
open L2 PySem PySem.Spec PyProof.Rows
open He (ga ma ba)
section
variable {K : PySem.W.Frag}
theorem bit_of (c : obsK K = val0) (i : Nat) {b : Bool} (h : (chks K)[i]? = some b := by rfl) : b = true :=
  List.all_eq_true.mp (show (chks K).all id = true from congrArg (fun t : Al => t.1) c) _ (List.mem_of_getElem? h)
theorem def_of (c : obsK K = val0) (i : Nat) {d : He5.DefA} (h : dfs[i]? = some d := by rfl) : ∃ fd, FunD K d.name d.qual d.params d.body d.scope (d.dvs K) (d.kws K) (d.at_ K) fd := by
  have c2 : dfs.all (He5.DefA.ok K) = true := bit_of c 24
  have e : dfs.map (fun d => He5.fnA K (d.at_ K)) = dfs.map He5.DefA.val := congrArg (fun t : Al => t.2) c
  have e2 : (dfs.map fun d => He5.fnA K (d.at_ K))[i]? = (dfs.map He5.DefA.val)[i]? := by rw [e]
  rw [List.getElem?_map, List.getElem?_map, h] at e2
  exact He5.DefA.funD (Option.some.inj e2) (List.all_eq_true.mp c2 d (List.mem_of_getElem? h))
theorem termF_of (c : obsK K = val0) : TermF K (ga K "Term") := ⟨ownB_ok (bit_of c 3), He.eqO_ok (bit_of c 5), He.eqO_ok (bit_of c 6)⟩
end
section
variable {P : Program} {w : World} {K : PySem.W.Frag} {mg : Str → Option Value} {base : Heap}
theorem nam_of (X : K.In base) (G : base.Ns mainGlobals mg) (c : obsK K = val0) : Nam mg := by
  have f : nfree.all (freeB K) = true := bit_of c 0
  have i : ([("MOST_LETTERS", 8), ("MOST_TERMS", 8)] : List (Str × Int)).all (intB K) = true := bit_of c 2
  exact ⟨free_of X G f 0, free_of X G f 1, free_of X G f 2, free_of X G f 3, free_of X G f 4, free_of X G f 5, free_of X G f 6, free_of X G f 7, free_of X G f 8, free_of X G f 9, free_of X G f 10, free_of X G f 11, free_of X G f 12, free_of X G f 13, free_of X G f 14, free_of X G f 15, free_of X G f 16, int_of X G i 0, int_of X G i 1⟩
theorem d_name (X : K.In base) (G : base.Ns mainGlobals mg) (c : obsK K = val0) : Def P w K mg base "is_name" ["value"] 1 spName := by
  obtain ⟨fd, d⟩ := def_of c 0
  have F : Fun K "is_name" "is_name" (top 13) (ga K "is_name") fd := fun_of d
  exact def_mk F (glo_of X G (bit_of c 1) 0) (ok_name (nam_of X G c) F) (by intro _ _ _ _ _ _ us hl; first | (match us, hl with | [_], _ => rfl) | (match us, hl with | [_, _], _ => rfl) | (match us, hl with | [_, _, _], _ => rfl) | (match us, hl with | [_, _, _, _], _ => rfl))
theorem d_integer (X : K.In base) (G : base.Ns mainGlobals mg) (c : obsK K = val0) : Def P w K mg base "is_integer" ["value"] 1 spInteger := by
  obtain ⟨fd, d⟩ := def_of c 1
  have F : Fun K "is_integer" "is_integer" (top 14) (ga K "is_integer") fd := fun_of d
  exact def_mk F (glo_of X G (bit_of c 1) 1) (ok_integer (nam_of X G c) F) (by intro _ _ _ _ _ _ us hl; first | (match us, hl with | [_], _ => rfl) | (match us, hl with | [_, _], _ => rfl) | (match us, hl with | [_, _, _], _ => rfl) | (match us, hl with | [_, _, _, _], _ => rfl))
theorem d_has (X : K.In base) (G : base.Ns mainGlobals mg) (c : obsK K = val0) : Def P w K mg base "has_names" ["value"] 2 spHas := by
  obtain ⟨fd, d⟩ := def_of c 2
  have F : Fun K "has_names" "has_names" (top 16) (ga K "has_names") fd := fun_of d
  exact def_mk F (glo_of X G (bit_of c 1) 2) (ok_has (nam_of X G c) (d_name X G c) F) (by intro _ _ _ _ _ _ us hl; first | (match us, hl with | [_], _ => rfl) | (match us, hl with | [_, _], _ => rfl) | (match us, hl with | [_, _, _], _ => rfl) | (match us, hl with | [_, _, _, _], _ => rfl))
theorem d_times (X : K.In base) (G : base.Ns mainGlobals mg) (c : obsK K = val0) : Def P w K mg base "is_times" ["value"] 3 spHas := by
  obtain ⟨fd, d⟩ := def_of c 3
  have F : Fun K "is_times" "is_times" (top 17) (ga K "is_times") fd := fun_of d
  exact def_mk F (glo_of X G (bit_of c 1) 3) (ok_times (nam_of X G c) (d_integer X G c) (d_has X G c) F) (by intro _ _ _ _ _ _ us hl; first | (match us, hl with | [_], _ => rfl) | (match us, hl with | [_, _], _ => rfl) | (match us, hl with | [_, _, _], _ => rfl) | (match us, hl with | [_, _, _, _], _ => rfl))
theorem d_cshift (X : K.In base) (G : base.Ns mainGlobals mg) (c : obsK K = val0) : Def P w K mg base "check_shift" ["value"] 2 spShift := by
  obtain ⟨fd, d⟩ := def_of c 4
  have F : Fun K "check_shift" "check_shift" (top 19) (ga K "check_shift") fd := fun_of d
  exact def_mk F (glo_of X G (bit_of c 1) 4) (ok_shift (d_integer X G c) F) (by intro _ _ _ _ _ _ us hl; first | (match us, hl with | [_], _ => rfl) | (match us, hl with | [_, _], _ => rfl) | (match us, hl with | [_, _, _], _ => rfl) | (match us, hl with | [_, _, _, _], _ => rfl))
theorem d_ctimes (X : K.In base) (G : base.Ns mainGlobals mg) (c : obsK K = val0) : Def P w K mg base "check_times" ["value", "moments"] 4 (spCheck K) := by
  obtain ⟨fd, d⟩ := def_of c 5
  have F : Fun K "check_times" "check_times" (top 20) (ga K "check_times") fd := fun_of d
  exact def_mk F (glo_of X G (bit_of c 1) 5) (ok_check (nam_of X G c) (d_times X G c) F) (by intro _ _ _ _ _ _ us hl; first | (match us, hl with | [_], _ => rfl) | (match us, hl with | [_, _], _ => rfl) | (match us, hl with | [_, _, _], _ => rfl) | (match us, hl with | [_, _, _, _], _ => rfl))
theorem d_order (X : K.In base) (G : base.Ns mainGlobals mg) (c : obsK K = val0) : Def P w K mg base "in_order" ["table"] 1 spOrder := by
  obtain ⟨fd, d⟩ := def_of c 6
  have F : Fun K "in_order" "in_order" (top 23) (ga K "in_order") fd := fun_of d
  exact def_mk F (glo_of X G (bit_of c 1) 6) (ok_order (nam_of X G c) F) (by intro _ _ _ _ _ _ us hl; first | (match us, hl with | [_], _ => rfl) | (match us, hl with | [_, _], _ => rfl) | (match us, hl with | [_, _, _], _ => rfl) | (match us, hl with | [_, _, _, _], _ => rfl))
theorem d_text (X : K.In base) (G : base.Ns mainGlobals mg) (c : obsK K = val0) : Def P w K mg base "term_text" ["moment", "shift"] 1 spText := by
  obtain ⟨fd, d⟩ := def_of c 7
  have F : Fun K "term_text" "term_text" (top 27) (ga K "term_text") fd := fun_of d
  exact def_mk F (glo_of X G (bit_of c 1) 7) (ok_text F) (by intro _ _ _ _ _ _ us hl; first | (match us, hl with | [_], _ => rfl) | (match us, hl with | [_, _], _ => rfl) | (match us, hl with | [_, _, _], _ => rfl) | (match us, hl with | [_, _, _, _], _ => rfl))
theorem d_shifts (X : K.In base) (G : base.Ns mainGlobals mg) (c : obsK K = val0) : Def P w K mg base "check_shifts" ["shifts"] 3 spShifts := by
  obtain ⟨fd, d⟩ := def_of c 8
  have F : Fun K "check_shifts" "check_shifts" (top 30) (ga K "check_shifts") fd := fun_of d
  exact def_mk F (glo_of X G (bit_of c 1) 8) (ok_shifts (nam_of X G c) (d_has X G c) (d_integer X G c) F) (by intro _ _ _ _ _ _ us hl; first | (match us, hl with | [_], _ => rfl) | (match us, hl with | [_, _], _ => rfl) | (match us, hl with | [_, _, _], _ => rfl) | (match us, hl with | [_, _, _, _], _ => rfl))
theorem mkT_of (X : K.In base) (G : base.Ns mainGlobals mg) (c : obsK K = val0) : MkT P w K mg base (ga K "Term") := by
  obtain ⟨fd, d⟩ := def_of c 19
  have D : FunD K "__init__" "Term.__init__" (defArgs (mT 0)) (defBody (mT 0)) (defScope (mT 0)) [.int 0] [] (ma K (ga K "Term") "__init__") fd := d
  refine ⟨_, fd, mkB_ok (bit_of c 8), ok_init (termF_of c) (d_name X G c) (d_cshift X G c) D, glo_of X G (bit_of c 1) 19, ?_, ?_, ?_, ?_⟩
  · refine binds_full D (by simp) fun T kV doc pm an cdv ct us its l1 l2 => ?_
    match us, its, l1, l2 with
    | [_, _, _], [_], _, _ => exact ⟨_, rfl, rfl⟩
  · have h := FunD.binds1 (ps := ["self", "moment", "shift"]) D 2 0 (by simp) rfl fun T kV doc pm an cdv ct us its l1 l2 => by
      match us, its, l1, l2 with
      | [_, _], [_], _, _ => exact ⟨_, rfl, rfl⟩
    exact h
  · obtain ⟨its, h⟩ := kb_dfl (ps := ["self", "moment", "shift"]) D 1 ["shift", "moment"] (fun us _ ws => us ++ [ws.getD 1 .none, ws.getD 0 .none]) (fun vs zs => vs ++ [zs.getD 1 .non, zs.getD 0 .non]) (by simp) (fun r1 _ r3 => r1.append (.cons (vals_at 1 r3) (.cons (vals_at 0 r3) .nil)))
      fun T kV doc pm an cdv ct us its ws l1 l2 l3 => by
        match us, its, ws, l1, l2, l3 with
        | [_], [_], [_, _], _, _, _ => exact ⟨_, rfl, rfl⟩
    exact ⟨_, h⟩
  · obtain ⟨its, h⟩ := kb_dfl (ps := ["self", "moment", "shift"]) D 1 ["moment"] (fun us its ws => us ++ [ws.getD 0 .none, its.getD 0 .none]) (fun vs zs => vs ++ [zs.getD 0 .non, .int 0]) (by simp) (fun r1 r2 r3 => r1.append (.cons (vals_at 0 r3) (.cons (vals_at 0 r2) .nil)))
      fun T kV doc pm an cdv ct us its ws l1 l2 l3 => by
        match us, its, ws, l1, l2, l3 with
        | [_], [_], [_], _, _, _ => exact ⟨_, rfl, rfl⟩
    exact ⟨_, h⟩
theorem mkE_of (X : K.In base) (G : base.Ns mainGlobals mg) (c : obsK K = val0) : MkE P w K mg base (ga K "Earliest") := by
  obtain ⟨fd, d⟩ := def_of c 29
  have F : Fun K "__init__" "Earliest.__init__" (mE 0) (ma K (ga K "Earliest") "__init__") fd := fun_of d
  exact ⟨_, fd, mkB_ok (bit_of c 9), ok_initE (ownB_ok (bit_of c 4)).cl (He.eqO_ok (bit_of c 7)) (d_shifts X G c) (d_order X G c) F, glo_of X G (bit_of c 1) 20, F.binds (by intro _ _ _ _ _ _ us hl; first | (match us, hl with | [_], _ => rfl) | (match us, hl with | [_, _], _ => rfl) | (match us, hl with | [_, _, _], _ => rfl) | (match us, hl with | [_, _, _, _], _ => rfl))⟩
theorem add_of (X : K.In base) (G : base.Ns mainGlobals mg) (c : obsK K = val0) : AddF P w K mg base (ga K "Term") := by
  obtain ⟨fd, d⟩ := def_of c 23
  have F : Fun K "__add__" "Term.__add__" (mT 5) (ma K (ga K "Term") "__add__") fd := fun_of d
  exact ⟨⟨_, fd, .of (ok_add (termF_of c) (mkT_of X G c) (d_cshift X G c) F), mB_ok (bit_of c 12), F.binds (by intro _ _ _ _ _ _ us hl; first | (match us, hl with | [_], _ => rfl) | (match us, hl with | [_, _], _ => rfl) | (match us, hl with | [_, _, _], _ => rfl) | (match us, hl with | [_, _, _, _], _ => rfl))⟩, ⟨_, (mB_ok (bit_of c 13)).at_⟩, (intX_ok (bit_of c 16)).1, (intX_ok (bit_of c 16)).2⟩
theorem radd_of (X : K.In base) (G : base.Ns mainGlobals mg) (c : obsK K = val0) : RaddF P w K mg base (ga K "Term") := by
  obtain ⟨fd, d⟩ := def_of c 24
  have F : Fun K "__radd__" "Term.__radd__" (mT 6) (ma K (ga K "Term") "__radd__") fd := fun_of d
  exact ⟨_, fd, ok_radd (termF_of c) (add_of X G c) F, mB_ok (bit_of c 13), F.binds (by intro _ _ _ _ _ _ us hl; first | (match us, hl with | [_], _ => rfl) | (match us, hl with | [_, _], _ => rfl) | (match us, hl with | [_, _, _], _ => rfl) | (match us, hl with | [_, _, _, _], _ => rfl))⟩
theorem sub_of (X : K.In base) (G : base.Ns mainGlobals mg) (c : obsK K = val0) : SubF P w K mg base (ga K "Term") := by
  obtain ⟨fd, d⟩ := def_of c 25
  have F : Fun K "__sub__" "Term.__sub__" (mT 7) (ma K (ga K "Term") "__sub__") fd := fun_of d
  exact ⟨⟨_, fd, ok_sub (termF_of c) (add_of X G c) (d_cshift X G c) F, mB_ok (bit_of c 14), F.binds (by intro _ _ _ _ _ _ us hl; first | (match us, hl with | [_], _ => rfl) | (match us, hl with | [_, _], _ => rfl) | (match us, hl with | [_, _, _], _ => rfl) | (match us, hl with | [_, _, _, _], _ => rfl))⟩, He.eqO_ok (bit_of c 15)⟩
theorem topT_of (X : K.In base) (G : base.Ns mainGlobals mg) (c : obsK K = val0) : TopT P w K mg base (ga K "Term") (ga K "Earliest") := by
  have N := nam_of X G c
  have T := termF_of c
  refine ⟨T, mkT_of X G c, add_of X G c, radd_of X G c, sub_of X G c, glo_of X G (bit_of c 1) 19, ?_, ?_, ?_, ?_, ?_, neB_ok (bit_of c 20), ?_, mkE_of X G c, ownB_ok (bit_of c 4), fun t h => ?_, fun t h => ?_⟩
  · obtain ⟨fd, d⟩ := def_of c 20
    have F : Fun K "moment" "Term.moment" (mT 1) (He5.wf K (ga K "Term") "property" "moment") fd := fun_of d
    exact ⟨_, _, fd, propB_ok (bit_of c 10), ok_moment T F, F.binds (by intro _ _ _ _ _ _ us hl; first | (match us, hl with | [_], _ => rfl) | (match us, hl with | [_, _], _ => rfl) | (match us, hl with | [_, _, _], _ => rfl) | (match us, hl with | [_, _, _, _], _ => rfl))⟩
  · obtain ⟨fd, d⟩ := def_of c 21
    have F : Fun K "shift" "Term.shift" (mT 2) (He5.wf K (ga K "Term") "property" "shift") fd := fun_of d
    exact ⟨_, _, fd, propB_ok (bit_of c 11), ok_shiftP T F, F.binds (by intro _ _ _ _ _ _ us hl; first | (match us, hl with | [_], _ => rfl) | (match us, hl with | [_, _], _ => rfl) | (match us, hl with | [_, _, _], _ => rfl) | (match us, hl with | [_, _, _, _], _ => rfl))⟩
  · obtain ⟨fd, d⟩ := def_of c 27
    have F : Fun K "__str__" "Term.__str__" (mT 11) (ma K (ga K "Term") "__str__") fd := fun_of d
    exact ⟨_, fd, ok_str N T (d_text X G c) F, mB_ok (bit_of c 17), F.binds (by intro _ _ _ _ _ _ us hl; first | (match us, hl with | [_], _ => rfl) | (match us, hl with | [_, _], _ => rfl) | (match us, hl with | [_, _, _], _ => rfl) | (match us, hl with | [_, _, _, _], _ => rfl))⟩
  · obtain ⟨fd, d⟩ := def_of c 28
    have F : Fun K "__repr__" "Term.__repr__" (mT 12) (ma K (ga K "Term") "__repr__") fd := fun_of d
    exact ⟨_, fd, ok_repr T F, mB_ok (bit_of c 18), F.binds (by intro _ _ _ _ _ _ us hl; first | (match us, hl with | [_], _ => rfl) | (match us, hl with | [_, _], _ => rfl) | (match us, hl with | [_, _, _], _ => rfl) | (match us, hl with | [_, _, _, _], _ => rfl))⟩
  · obtain ⟨fd, d⟩ := def_of c 26
    have F : Fun K "__eq__" "Term.__eq__" (mT 10) (ma K (ga K "Term") "__eq__") fd := fun_of d
    exact ⟨_, fd, ok_eq N T (glo_of X G (bit_of c 1) 19) F, mB_ok (bit_of c 19), F.binds (by intro _ _ _ _ _ _ us hl; first | (match us, hl with | [_], _ => rfl) | (match us, hl with | [_, _], _ => rfl) | (match us, hl with | [_, _, _], _ => rfl) | (match us, hl with | [_, _, _, _], _ => rfl))⟩
  · obtain ⟨fd, d⟩ := def_of c 22
    have F : Fun K "__call__" "Term.__call__" (mT 4) (ma K (ga K "Term") "__call__") fd := fun_of d
    refine ⟨_, fd, callB_ok (bit_of c 21), ok_call T (d_ctimes X G c) F, F.binds (by intro _ _ _ _ _ _ us hl; first | (match us, hl with | [_], _ => rfl) | (match us, hl with | [_, _], _ => rfl) | (match us, hl with | [_, _, _], _ => rfl) | (match us, hl with | [_, _, _, _], _ => rfl)), fun us ws => us ++ ws, ?_⟩
    obtain ⟨oc, od, kV, doc, pm, an, cdv, ct, osl, rfl, lk, hcd⟩ := F.ex
    refine ⟨fun s us ws _ l1 l2 => BindsTo.of_eq ?_, fun r1 r2 => r1.append r2⟩
    match us, ws, l1, l2 with
    | [_], [_], _, _ => rfl
  · have a : ((.ref (ga K "Term")) :: others K).all (PySem.W.notFirst K (ga K "Term")) = true := bit_of c 22
    exact List.all_eq_true.mp a t h
  · have a : ((others K).all fun t => decide (PySem.W.kitOne K t (.ref (ga K "Term")) = some false)) = true := bit_of c 23
    exact of_decide_eq_true (List.all_eq_true.mp a t h)
theorem law_of (X : K.In base) (G : base.Ns mainGlobals mg) (c : obsK K = val0) : ∃ fd, Fun K "law" "law" (top 44) (ga K "law") fd ∧ FnG P w K mg base 8 (ga K "law") fd ["_law_script"] (spLaw K) := by
  have N := nam_of X G c
  have U := topT_of (P := P) (w := w) X G c
  have g : nglob.all (gloB K) = true := bit_of c 1
  obtain ⟨f9, d9⟩ := def_of c 9
  obtain ⟨f10, d10⟩ := def_of c 10
  obtain ⟨f11, d11⟩ := def_of c 11
  obtain ⟨f12, d12⟩ := def_of c 12
  obtain ⟨f13, d13⟩ := def_of c 13
  obtain ⟨f14, d14⟩ := def_of c 14
  obtain ⟨f15, d15⟩ := def_of c 15
  obtain ⟨f16, d16⟩ := def_of c 16
  obtain ⟨f17, d17⟩ := def_of c 17
  obtain ⟨f18, d18⟩ := def_of c 18
  have F9 : Fun K "_law_pot" "_law_pot" sPot (ga K "_law_pot") f9 := fun_of d9
  have F10 : Fun K "_law_draw" "_law_draw" sDraw (ga K "_law_draw") f10 := fun_of d10
  have F11 : Fun K "_law_choice" "_law_choice" sChoice (ga K "_law_choice") f11 := fun_of d11
  have F12 : Fun K "_law_names" "_law_names" (top 38) (ga K "_law_names") f12 := fun_of d12
  have F13 : Fun K "_law_number" "_law_number" (top 39) (ga K "_law_number") f13 := fun_of d13
  have F14 : Fun K "_law_text" "_law_text" (top 40) (ga K "_law_text") f14 := fun_of d14
  have F15 : Fun K "_law_is_term" "_law_is_term" (top 41) (ga K "_law_is_term") f15 := fun_of d15
  have F16 : Fun K "_law_equals_right" "_law_equals_right" (top 42) (ga K "_law_equals_right") f16 := fun_of d16
  have F17 : Fun K "_law_right" "_law_right" (top 43) (ga K "_law_right") f17 := fun_of d17
  have F18 : Fun K "law" "law" (top 44) (ga K "law") f18 := fun_of d18
  have D9 := def_mk (w := w) (base := base) F9 (glo_of X G g 9) (ok_pot (P := P) N F9) (by intro _ _ _ _ _ _ us hl; first | (match us, hl with | [_], _ => rfl) | (match us, hl with | [_, _], _ => rfl) | (match us, hl with | [_, _, _], _ => rfl) | (match us, hl with | [_, _, _, _], _ => rfl))
  have D10 := def_mk (w := w) (base := base) F10 (glo_of X G g 10) (ok_draw (P := P) N F10) (by intro _ _ _ _ _ _ us hl; first | (match us, hl with | [_], _ => rfl) | (match us, hl with | [_, _], _ => rfl) | (match us, hl with | [_, _, _], _ => rfl) | (match us, hl with | [_, _, _, _], _ => rfl))
  have D11 := def_mk (w := w) (base := base) F11 (glo_of X G g 11) (ok_choice (P := P) N D10 F11) (by intro _ _ _ _ _ _ us hl; first | (match us, hl with | [_], _ => rfl) | (match us, hl with | [_, _], _ => rfl) | (match us, hl with | [_, _, _], _ => rfl) | (match us, hl with | [_, _, _, _], _ => rfl))
  have D12 := def_mk (w := w) (base := base) F12 (glo_of X G g 12) (ok_names (P := P) N D11 F12) (by intro _ _ _ _ _ _ us hl; first | (match us, hl with | [_], _ => rfl) | (match us, hl with | [_, _], _ => rfl) | (match us, hl with | [_, _, _], _ => rfl) | (match us, hl with | [_, _, _, _], _ => rfl))
  have D13 := def_mk (w := w) (base := base) F13 (glo_of X G g 13) (ok_number (P := P) D10 F13) (by intro _ _ _ _ _ _ us hl; first | (match us, hl with | [_], _ => rfl) | (match us, hl with | [_, _], _ => rfl) | (match us, hl with | [_, _, _], _ => rfl) | (match us, hl with | [_, _, _, _], _ => rfl))
  have D14 := def_mk (w := w) (base := base) F14 (glo_of X G g 14) (ok_ltext (P := P) N F14) (by intro _ _ _ _ _ _ us hl; first | (match us, hl with | [_], _ => rfl) | (match us, hl with | [_, _], _ => rfl) | (match us, hl with | [_, _, _], _ => rfl) | (match us, hl with | [_, _, _, _], _ => rfl))
  have D15 := defG_mk (w := w) (base := base) F15 (glo_of X G g 15) (ok_isTerm (P := P) N U D14 F15) (by intro _ _ _ _ _ _ us hl; first | (match us, hl with | [_], _ => rfl) | (match us, hl with | [_, _], _ => rfl) | (match us, hl with | [_, _, _], _ => rfl) | (match us, hl with | [_, _, _, _], _ => rfl))
  have D16 := defG_mk (w := w) (base := base) F16 (glo_of X G g 16) (ok_equals (P := P) N U F16) (by intro _ _ _ _ _ _ us hl; first | (match us, hl with | [_], _ => rfl) | (match us, hl with | [_, _], _ => rfl) | (match us, hl with | [_, _, _], _ => rfl) | (match us, hl with | [_, _, _, _], _ => rfl))
  have D17 := defG_mk (w := w) (base := base) F17 (glo_of X G g 17) (ok_right (P := P) N U D10 D13 D12 D15 D16 F17) (by intro _ _ _ _ _ _ us hl; first | (match us, hl with | [_], _ => rfl) | (match us, hl with | [_, _], _ => rfl) | (match us, hl with | [_, _, _], _ => rfl) | (match us, hl with | [_, _, _, _], _ => rfl))
  exact ⟨f18, F18, ok_law N D9 D17 F18⟩
theorem binds_law {f : Addr} {fd : FuncData} (F : Fun K "law" "law" (top 44) f fd) (s : Shared) (u : Value) : BindsTo s fd ⟨[u], []⟩ [("_law_script", u)] := by
  obtain ⟨oc, od, kV, doc, pm, an, cdv, ct, osl, rfl, _⟩ := F.ex
  exact BindsTo.of_eq rfl
end
end E10

set_option Elab.async false
set_option linter.all false
set_option maxRecDepth 100000
set_option maxHeartbeats 4000000
open PySem PySem.W PySem.Calls PyProof.Rows
theorem PySem.Challenge.cw_anyofthese_k10_terms_made_and_told_holds : PySem.Challenge.rw_anyofthese_k10_terms_made_and_told.Holds := by
  w_on; o_law
  refine HandSHeadRun.head_any (r := E10.R) (q := E10.qv) (H := E10.hook) (ob := E10.ob) (M := 60000) (loose := E10.names) (d := HandSHeadRun.topDef E10.R.prog 44) (kwd := []) E10.ob_eq
    (by kernel_rfl) (fun s => by kernel_rfl) E10.run (by kernel_rfl) (by kernel_rfl) (by kernel_rfl) (by rfl) (by first | assumption | decide +kernel) (by decide +kernel) ⟨rfl, rfl, rfl, rfl, rfl, by decide +kernel⟩ ?hw ?hc
  case hw => w_witness2
  case hc =>
    refine E10.walkG (l := PySem.Challenge.rw_anyofthese_k10_terms_made_and_told) (n := 63) (k := 8) (y := "_law_script") rfl (by decide) (by kernel_rfl) ⟨rfl, by decide, by decide⟩ ?F
    intro w mg f h Y G g
    obtain ⟨K, X, c⟩ := Y
    have g2 : mg ("law" : PySem.Str) = some (.ref f) := by
      have e : (HandSHeadRun.topDef E10.R.prog 44).name = ("law" : PySem.Str) := by kernel_rfl
      rw [← e]
      exact g
    have g3 : mg ("law" : PySem.Str) = some (.ref (He.ga K "law")) := E10.glo_of X G (E10.bit_of c 1) 18
    have ef : f = He.ga K "law" := by
      have z := g2.symm.trans g3
      simpa using z
    subst ef
    obtain ⟨fd, F, _⟩ := E10.law_of (P := (PySem.Challenge.rw_anyofthese_k10_terms_made_and_told).prog) (w := w) X G c
    refine ⟨K, fd, E10.spLaw K, X, E10.binds_law F, fun H a ns hl hS => ⟨a, ns, rfl, hS, hl, fun _ => rfl⟩, fun base X2 G2 => ?_⟩
    obtain ⟨fd2, F2, L⟩ := E10.law_of (P := (PySem.Challenge.rw_anyofthese_k10_terms_made_and_told).prog) (w := w) X2 G2 c
    rw [E10.one_fd F F2] at L
    exact L

