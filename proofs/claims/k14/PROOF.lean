import PyProof.Rows.All
import Wide.All
import OpenK.AllK
import Wide.FinOn
import PyProof.InstEq
import KE.KOpsOwn
import HandS.Base
import HandS.Call
import HandS.List
import HandS.Words
import HandS.IsInst
import HandS.Defaults
import HandS.MakeKw
import HandS.Star
import HandS.FStr
import PyProof.Rows.StrIntSpec
import HandS.Dict
import HandS.DeepEq
import KE.KSortTup
import KE.KSortTupAny
import HandS.SortRule
import HandS.DictComp
import HandS.Comp
import HandS.Flow
import HandS.Ends
import HandS.Walk
import HandS.Text
import HandS.Iter
import HandS.WordsDict
import PyProof.Rows.SortStr
import PyProof.Rows.StrMeet
import HandS.Property
import HandS.RaiseMore
import HandS.ListItems
import HandS.HeadHook2
import HandS.HeadNt
import KE.KStateDown
import HandS.Head0
import HandS.Head1
import HandS.Head2
import PySem.Challenge.RW_anyofthese_k14_whole_values_and_first
set_option Elab.async false
set_option linter.all false
set_option maxRecDepth 100000
set_option maxHeartbeats 4000000
/-! Defs and methods called where no text of a container is being made; own operators. -/
namespace E10
open L2 PySem PySem.Spec PyProof.Rows
structure FnG (P : Program) (w : World) (K : PySem.W.Frag) (mg : Str → Option Value) (base : Heap) (k : Nat) (f : Addr) (fd : FuncData) (ps : List Str) (sp : Sp) : Prop where
  few : ∀ {vs H Q E}, sp vs H Q E → vs.length = ps.length
  goes : ∀ {A : Around} {fr : List Env} {s : Shared} {H : Hp} {ar : Args} {us : List Value} {vs : List V} {Q : VK} {E : XK}, A.guards = some [] → Room k A → Env0 P w K mg base A fr s H → BindsTo s fd ar (ps.zip us) → Vals vs us → sp vs H Q E →
    codeAny (model P w) A (.call (.ref f) ar) (CR CX0 fr P w H s Q E) s
section
variable {P : Program} {w : World} {K : PySem.W.Frag} {mg : Str → Option Value} {base : Heap} {k : Nat} {f : Addr} {fd : FuncData} {ps N : List Str} {sp : Sp}
theorem FnG.of (F : FnOk P w K mg base CX0 k f fd ps sp) : FnG P w K mg base k f fd ps sp :=
  ⟨fun {vs H Q E} h => F.len vs H Q E h, fun {A fr s H ar us vs Q E} _ room env b v h => F.run A fr s H ar us vs Q E room env b v h⟩
theorem FnG.mono {j : Nat} (F : FnG P w K mg base j f fd ps sp) (h : j ≤ k) : FnG P w K mg base k f fd ps sp :=
  ⟨F.few, fun {A fr s H ar us vs Q E} g room env b v q => F.goes g (room.mono h) env b v q⟩
theorem Fun.okG {x qual : Str} {st : Stmt} (F : Fun K x qual st f fd) (S : FnScope N ps (defScope st)) (few : ∀ {vs H Q E}, sp vs H Q E → vs.length = ps.length)
    (body : ∀ (cdv : Value) (A : Around) (fr : List Env) (s : Shared) (H : Hp) (vs : List V) (Q : VK) (E : XK), A.guards = some [] → Room k (A.deeper (envOfC qual (defScope st) s.heap.objs.size f cdv)) → sp vs H Q E →
      ∃ t, PSs (cxOf CX0 P w K mg base N qual (defScope st) f cdv A fr s H E).nox (defBody st) t ∧ t { nx := fun _ H' => Q .non H', rt := Q } (start N vs) H) : FnG P w K mg base (k + 1) f fd ps sp := by
  obtain ⟨oc, od, kV, doc, pm, an, cdv, ct, osl, rfl, lk, code⟩ := F.ex
  refine ⟨few, fun {A fr s H ar us vs Q E} hG room env bind val want => ?_⟩
  have inK : K.In s.heap := env.mod.kin.keeps fun c o e => (env.bs c o e).1
  refine codeAny_call_function room.depth (inK _ _ lk) rfl S.co S.gen rfl (PySem.W.codeRec_of inK code) (bind _ _ _ _ ?_)
  refine wpAny_newFunctionEnv_cells S.kind (fun ⟨n, v⟩ hy => (S.par n (List.of_mem_zip hy).1).elim .inl fun q => .inr ⟨q, PySem.W.cellsFrom_some _ _ _ (.inl q)⟩) fun own same s1 x => ?_
  subst same
  obtain ⟨t, T, wish⟩ := body cdv A fr s H vs Q E hG (room.deeper _) want
  have begun : Inv (cxOf CX0 P w K mg base N qual (defScope st) f cdv A fr s H E) [] (start N vs) H s1 := inv_start S room.hd env (few want) val x
  refine ⟨(env.mod.nolimit.keeps fun c o e => (env.bs c o e).1).keeps x.toInCall.keep, codeAny_func (wpAny_mono (T.nox.run [] s1 _ H _ begun wish) (fun fl s2 ends => ?_) fun _ _ z => z)⟩
  match fl, ends with
  | .ret _, ⟨v, _, H2, J, rv, q⟩ => exact ⟨v, H2, J.os, J.bare, J.base, J.hok, rv, q⟩
  | .next, ⟨_, H2, J, q⟩ => exact ⟨V.non, H2, J.os, J.bare, J.base, J.hok, rfl, q⟩
  | .brk, ⟨_, _, _, q⟩ => exact q.elim
  | .cont, ⟨_, _, _, q⟩ => exact q.elim
end
/-- the own class C has the def f under the name n -/
structure Has (K : PySem.W.Frag) (C f : Addr) (n : Str) : Prop where
  at_ : PySem.W.findIn K (.ref C) n = some (some (.ref f))
  fn : PySem.W.isFn K (.ref f) = true
section
variable {X : Cx} {A : Around} {E' : Value → Shared → Prop} {pins : List (Addr × Obj)} {σ : L2.St} {H : Hp} {s : Shared} {Q : VK} {us : List Value} {vs : List V} {k : Nat} {f C : Addr} {fd : FuncData} {ps : List Str} {sp : Sp}
theorem run_at (F : FnG X.prog X.w X.K X.mg X.base k f fd ps sp) (fr : A.frames = X.A.frames) (hG : A.guards = some []) (room : Room k A) (bi : Binds X.K fd ps []) (I : Inv X pins σ H s) (r : Vals vs us) (q : sp vs H Q E0) :
    wpAny (model X.prog X.w) A (call (.ref f) us) (EP X pins σ Q) E' s := by
  have n1 : us.length = ps.length := r.length.symm.trans (F.few q)
  have e0 : Env0 X.prog X.w X.K X.mg X.base A X.stack s H := by
    have e := I.env0
    exact ⟨by rw [fr]; exact e.frames, e.mod, e.bs, e.bsz, e.funs, e.frf, e.hok, e.bare⟩
  refine wpAny_call (codeAny_mono (F.goes (ar := ⟨us, []⟩) hG room e0 (by
    have := bi s us I.kIn (by simpa using n1)
    simpa using this) r q) fun res s2 ends => ?_)
  match res, ends with
  | .error _, z => exact z.elim
  | .ok (.ret _), z => exact I.after z
  | .ok .next, z => exact z.elim
  | .ok .brk, z => exact z.elim
  | .ok .cont, z => exact z.elim
theorem cmpBack {u : Value} {s' : Shared} (h : EP X pins σ Q u s') : PySem.W.CmpBack (EP X pins σ Q) u s' := by
  obtain ⟨v, H', I, r, q⟩ := h
  cases u <;> first | exact ⟨v, H', I, r, q⟩ | (cases v <;> first | (obtain ⟨_, e⟩ := r; cases e) | cases r)
/-- a op n: an own object and an int -/
def rOwnI (C : Addr) (sp : Sp) : R2 := fun x y H Q => ∃ (a dx : Addr) (fs : List (Str × V)) (i : Int), x = .ref a ∧ y = .int i ∧ H a = some (.ins C dx fs) ∧ sp [.ref a, .int i] H Q E0
theorem op_ownI {op : Operator} {fo ro rc : Option Value} (F : FnG X.prog X.w X.K X.mg X.base k f fd ps sp) (hG : X.A.guards = some []) (room : Room k X.A) (bi : Binds X.K fd ps []) (hc : PySem.W.selfFirst X.K C = true) (h : Has X.K C f (PySem.dunder op.info.2))
    (hr : PySem.W.findIn X.K (.ref C) (dunderR op.info.2) = some rc) (hp : rc = none ∨ ∃ g : Addr, rc = some (.ref g)) (h1 : PySem.W.findIn X.K (.type "int") (PySem.dunder op.info.2) = some fo) (h2 : PySem.W.findIn X.K (.type "int") (dunderR op.info.2) = some ro)
    (hsub : PySem.W.subIn X.K (.type "int") (.ref C) = some false) : OpR X (binaryOp op) (rOwnI C sp) := by
  intro pins s σ H x y v u Q I rx ry h0
  obtain ⟨a, dx, fs, i, rfl, rfl, ha, q⟩ := h0
  cases (show v = Value.ref a from rx)
  obtain ⟨t, rfl⟩ := (show ∃ t, u = Value.int i t from ry)
  obtain ⟨mA, O, _⟩ := ins_get I.hok ha
  obtain ⟨od, J, _⟩ := O.look
  obtain ⟨m, hF⟩ := I.fr
  refine PySem.W.ksp_binT (T := "int") hF I.ok.mod.kin J rfl hc h.at_ h.fn hr hp h1 h2 hsub ?_
  exact wpAny_mono (run_at (vs := [.ref a, .int i]) F rfl hG room bi I (.cons rfl (.cons ⟨t, rfl⟩ .nil)) q) (fun _ _ z => cmpBack z) fun _ _ z => z
end
end E10

set_option Elab.async false
set_option linter.all false
set_option maxRecDepth 100000
set_option maxHeartbeats 4000000
namespace E10
open L2 PySem PySem.Spec PyProof.Rows
open AutoSeq1 (wpAny_loadPart')
section
variable {prog : Program} {w : World} {A : Around} {E : Value → Shared → Prop} {s : Shared}
theorem try_int_add {i : Int} {t : Tok} {a : Addr} {ox : Obj} {Q : Option Value → Shared → Prop} (hx : s.heap.get? a = some ox) (pl : ox.data = .plain) (q : Q none s) : wpAny (model prog w) A (tryMethod (.int i t) (PySem.dunder "add") (.ref a)) Q E s := by
  unfold tryMethod
  refine wpAny_bind (wpAny_callSpecial?_slot (typeIs_int s i t) F.slot_int_add (wpAny_call (codeAny_call_builtin F.slot_int_add.plain F.entry_int_add (F.slot_int_add.check _ _ _ _ _ _ _ _ (typeIs_int s i t) (F.args_int_add_2 _ _) ?_))))
  obtain ⟨c, d, dt, sl⟩ := ox
  obtain rfl : dt = .plain := pl
  obtain ⟨hp, g, dr, tk, os⟩ := s
  have hx' : hp.get? a = some ⟨c, d, .plain, sl⟩ := hx
  wp_walk using wpAny_loadPart' hx'
  all_goals first | exact wpAny_pure q | exact q | skip
end
end E10

set_option Elab.async false
set_option linter.all false
set_option maxRecDepth 100000
set_option maxHeartbeats 4000000
namespace E10
open L2 PySem PySem.Spec PyProof.Rows
section
variable {X : Cx} {k : Nat} {f fr C : Addr} {fd : FuncData} {ps : List Str} {sp : Sp}
/-- n + a: an int and an own object -/
def rIOwn (C : Addr) (sp : Sp) : R2 := fun x y H Q => ∃ (a dx : Addr) (fs : List (Str × V)) (i : Int), x = .int i ∧ y = .ref a ∧ H a = some (.ins C dx fs) ∧ sp [.ref a, .int i] H Q E0
theorem op_iown {fo ro : Option Value} (F : FnG X.prog X.w X.K X.mg X.base k f fd ps sp) (hG : X.A.guards = some []) (room : Room k X.A) (bi : Binds X.K fd ps []) (hc : PySem.W.selfFirst X.K C = true) (ha : PySem.W.findIn X.K (.ref C) (PySem.dunder "add") = some (some (.ref fr))) (h : Has X.K C f (dunderR "add"))
    (h1 : PySem.W.findIn X.K (.type "int") (PySem.dunder "add") = some fo) (h2 : PySem.W.findIn X.K (.type "int") (dunderR "add") = some ro) (h3 : ((fo.isSome && !isSeqSlot fo) || (ro.isSome && !isSeqSlot ro)) = true)
    (hsub : PySem.W.subIn X.K (.ref C) (.type "int") = some false) : OpR X (binaryOp .Add) (rIOwn C sp) := by
  intro pins s σ H x y v u Q I rx ry h0
  obtain ⟨a, dx, fs, i, rfl, rfl, ea, q⟩ := h0
  cases (show u = Value.ref a from ry)
  obtain ⟨t, rfl⟩ := (show ∃ t, v = Value.int i t from rx)
  obtain ⟨mA, O, _⟩ := ins_get I.hok ea
  obtain ⟨od, J, _⟩ := O.look
  obtain ⟨m, hF⟩ := I.fr
  have KX := I.ok.mod.kin.keeps hF.keep
  obtain ⟨cd, rest, hcd, hm⟩ := PySem.W.ksp_first hc
  have two := PySem.W.ksp_try (E := X.xe) (b := .int i t) KX J h.at_ h.fn (wpAny_mono (run_at (vs := [.ref a, .int i]) F rfl hG room bi I (.cons rfl (.cons ⟨t, rfl⟩ .nil)) q) (fun _ _ z => cmpBack z) fun _ _ z => z)
  have J0 := J
  obtain ⟨hx, hcl, hdt, _⟩ := J0
  obtain ⟨hh, g, d, tt, os⟩ := s
  have one : ∀ {Q : Option Value → Shared → Prop}, Q none ⟨hh, g, d, tt, os⟩ → wpAny (model X.prog X.w) X.A (tryMethod (.int i t) (PySem.dunder "add") (.ref a)) Q X.xe ⟨hh, g, d, tt, os⟩ := fun q => try_int_add hx rfl q
  have L1 : PySem.W.Looks (model X.prog X.w) hh (typeOf (.int i t)) (.type "int") := PySem.W.Looks.of_pure rfl
  have L2 : PySem.W.Looks (model X.prog X.w) hh (typeOf (.ref a)) (.ref C) := J.type
  have L3 : PySem.W.Looks (model X.prog X.w) hh (fillsNumberSlot (.type "int") "add") true := by
    have z := PySem.W.ksp_fillsT (M := model X.prog X.w) (nm := "add") KX h1 h2
    rw [h3] at z
    exact z
  have L4 : PySem.W.Looks (model X.prog X.w) hh (fillsNumberSlot (.ref C) "add") true := PySem.W.fills_K KX hcd hm ha
  have L5 : PySem.W.Looks (model X.prog X.w) hh (isSubtype (.ref C) (.type "int")) false := PySem.W.looks_subIn KX hsub
  have L6 : PySem.W.Looks (model X.prog X.w) hh (numberSlotInPython (.type "int") "add") false := PySem.W.Looks.of_pure rfl
  have hne : (Value.type "int" == Value.ref C) = false := Bool.eq_false_iff.mpr fun q => by cases beq_iff_eq.mp q
  have hi : Operator.info .Add = ("+", "add") := rfl
  simp only [binaryOp, hi]
  refine wpAny_holding (wpAny_bind ?_)
  unfold binaryOp1
  refine wpAny_bind (L1.at (wpAny_bind (L2.at (wpAny_bind (L3.at ?_)))))
  simp only [hne, Bool.false_eq_true, if_false]
  repeat ((fail_if_success (with_reducible show wpAny _ _ (tryMethod _ _ _) _ _ _)); lk)
  refine one ?_
  repeat ((fail_if_success (with_reducible show wpAny _ _ (tryMethod _ _ _) _ _ _)); lk)
  refine wpAny_mono two (fun r s' hr' => ?_) fun _ _ e => e
  obtain ⟨v, rfl, hq⟩ := hr'
  repeat ((fail_if_success (with_reducible show wpAny _ _ (tryMethod _ _ _) _ _ _)); lk)
  exact hq
end
end E10

set_option Elab.async false
set_option linter.all false
set_option maxRecDepth 100000
set_option maxHeartbeats 4000000
namespace E10
open L2 PySem PySem.Spec PyProof.Rows
section
variable {X : Cx} {A : Around} {k : Nat} {f C : Addr} {fd : FuncData} {ps : List Str} {sp : Sp}
theorem cmp_at {op : CmpOp} {pins : List (Addr × Obj)} {σ : L2.St} {H : Hp} {s : Shared} {Q : VK} {E' : Value → Shared → Prop} {a dx : Addr} {fs : List (Str × V)} {y : V} {u tb : Value} (F : FnG X.prog X.w X.K X.mg X.base k f fd ps sp) (fr : A.frames = X.A.frames) (hG : A.guards = some []) (room : Room k A) (hu : A.units < cLine)
    (bi : Binds X.K fd ps []) (h : Has X.K C f (cmpInfo op).2.1) (I : Inv X pins σ H s) (ry : RelV y u) (ha : H a = some (.ins C dx fs)) (ty : TyX X.K H y tb) (nf : PySem.W.notFirst X.K C tb = true) (q : sp [.ref a, y] H Q E0) :
    wpAny (model X.prog X.w) A (richCompare op (.ref a) u) (EP X pins σ Q) E' s := by
  obtain ⟨mA, O, _⟩ := ins_get I.hok ha
  obtain ⟨od, J, _⟩ := O.look
  obtain ⟨m, hF⟩ := I.fr
  obtain ⟨P, Z, p, _⟩ := kit_of I ry ty
  refine PySem.W.cmp_K (op := op) (tb := tb) hu hF I.ok.mod.kin J (Z.ty _ _ I.kIn p) nf h.at_ h.fn ?_
  exact wpAny_mono (run_at (vs := [.ref a, y]) F fr hG room bi I (.cons rfl (.cons ry .nil)) q) (fun _ _ z => cmpBack z) fun _ _ z => z
/-- a == y: an own object with an own __eq__, and anything -/
def rEqO (K : PySem.W.Frag) (C : Addr) (sp : Sp) : R2 := fun x y H Q => ∃ (a dx : Addr) (fs : List (Str × V)) (tb : Value), x = .ref a ∧ H a = some (.ins C dx fs) ∧ TyX K H y tb ∧ PySem.W.notFirst K C tb = true ∧ sp [.ref a, y] H Q E0
theorem op_eqO (F : FnG X.prog X.w X.K X.mg X.base k f fd ps sp) (hG : X.A.guards = some []) (room : Room k X.A) (hu : X.A.units < cLine) (bi : Binds X.K fd ps []) (h : Has X.K C f "__eq__") : OpR X (compareOp .Eq) (rEqO X.K C sp) := by
  intro pins s σ H x y v u Q I rx ry h0
  obtain ⟨a, dx, fs, tb, rfl, ha, ty, nf, q⟩ := h0
  cases (show v = Value.ref a from rx)
  exact cmp_at (op := .Eq) F rfl hG room hu bi h I ry ha ty nf q
/-- what an own class has that != goes by its own __eq__ -/
structure NeBy (K : PySem.W.Frag) (C : Addr) : Prop where
  at_ : PySem.W.findIn K (.ref C) "__ne__" = some (some (.builtin "object.__ne__"))
  mro : PySem.W.mroIn K C (.type "object") = some true
  sub : PySem.W.subIn K (.ref C) (.type "object") = some true
/-- a != y -/
def rNeO (K : PySem.W.Frag) (C : Addr) (sp : Sp) : R2 := fun x y H Q => ∃ (a dx : Addr) (fs : List (Str × V)) (tb : Value), x = .ref a ∧ H a = some (.ins C dx fs) ∧ TyX K H y tb ∧ PySem.W.notFirst K C tb = true ∧ sp [.ref a, y] H (fun v H' => ∃ b, v = .bl b ∧ Q (.bl (!b)) H') E0
theorem bind_one : bindSpecial (.builtin "object.__ne__") = fun self => pure (.builtin "object.__ne__", [self]) := funext fun self => PySem.F.cmp_object.ne.bind self
theorem op_neO (F : FnG X.prog X.w X.K X.mg X.base k f fd ps sp) (hG : X.A.guards = some []) (room : Room (k + 1) X.A) (hu : X.A.units + 1 < cLine) (bi : Binds X.K fd ps []) (h : Has X.K C f "__eq__") (n : NeBy X.K C) : OpR X (compareOp .NotEq) (rNeO X.K C sp) := by
  intro pins s σ H x y v u Q I rx ry h0
  obtain ⟨a, dx, fs, tb, rfl, ha, ty, nf, q⟩ := h0
  cases (show v = Value.ref a from rx)
  obtain ⟨mA, O, _⟩ := ins_get I.hok ha
  obtain ⟨od, J, _⟩ := O.look
  have KX := I.kIn
  obtain ⟨P, Z, p, _⟩ := kit_of I ry ty
  have hb := Z.ty (model X.prog X.w) _ I.kIn p
  have inner : wpAny (model X.prog X.w) X.A.in1 (call (.ref f) [.ref a, u]) (EP X pins σ fun v H' => ∃ b, v = .bl b ∧ Q (.bl (!b)) H') X.xe s :=
    run_at (vs := [.ref a, y]) F rfl hG room.in1 bi I (.cons rfl (.cons ry .nil)) q
  have body : ∀ {R : Result → Shared → Prop}, (∀ r s', EP X pins σ Q r s' → R (.ok (.ret r)) s') → (∀ e s', X.xe e s' → R (.error e) s') →
      wpAny (model X.prog X.w) X.A.in1 (Builtin.«object.__ne__» ⟨[.ref a, u], []⟩) (fun fin s' => match fin with | .done f => R (.ok f) s' | .again c' => c'.quiet = true ∧ codeAny (model X.prog X.w) X.A c' R s') (fun e s' => R (.error e) s') s := fun {R} hR hE => by
    unfold Builtin.«object.__ne__»
    repeat (first
      | with_reducible refine wpAny_cRoomFor (show X.A.in1.units < cLine from hu) ?_
      | (refine wpAny_bind (m := callSpecialIfBound? (.ref a) (Str.ofString "__eq__") [u]) (PySem.W.ifBound_K KX J h.at_ h.fn (wpAny_mono inner (fun r s' hr => by
          obtain ⟨v', H', I', rv, b, rfl, q'⟩ := hr
          cases (show r = Value.bool b from rv)
          repeat (first | exact hR _ _ ⟨.bl (!b), H', I', rfl, q'⟩ | exact wpAny_pure (hR _ _ ⟨.bl (!b), H', I', rfl, q'⟩) | (refine wpAny_bind (m := truthy (.bool _)) (wpAny_truthy_bool ?_)) | wp_step)) hE)))
      | wp_step)
  have chk : ∀ {Q' : Unit → Shared → Prop} {E' : Value → Shared → Prop}, Q' () s → wpAny (model X.prog X.w) X.A.in1 (checkBuiltinCall "object.__ne__" ⟨[.ref a, u], []⟩) Q' E' s := fun {Q' E'} q' => by
    simp only [checkBuiltinCall, PySem.F.cmpKind_ne, PySem.F.cmpSplit_ne]
    refine wpAny_bind ?_
    unfold isInstance
    refine wpAny_bind (J.type.here ((PySem.W.looks_subIn KX n.sub).here ?_))
    have ha := PySem.F.cmpArgs_ne (.ref a) u
    cases hsig : Manifest.signature? "object.__ne__" with
    | none => exact wpAny_pure q'
    | some sig =>
      simp only [argsOk, hsig] at ha
      have h2 : Bind.checkArgs "object.__ne__" sig ⟨[.ref a, u], []⟩ = pure () := ha
      show wpAny _ _ (Bind.checkArgs "object.__ne__" sig ⟨[.ref a, u], []⟩) Q' _ _
      rw [h2]
      exact wpAny_pure q'
  have called : wpAny (model X.prog X.w) X.A (call (.builtin "object.__ne__") [.ref a, u]) (EP X pins σ Q) X.xe s :=
    wpAny_call (codeAny_call_builtin PySem.F.cmp_object.ne.plain PySem.F.cmpEntry_ne (chk (body (R := fun r s' => match r with | .ok (.ret v) => EP X pins σ Q v s' | .ok _ => False | .error e => X.xe e s') (fun _ _ z => z) fun _ _ z => z)))
  have once : wpAny (model X.prog X.w) X.A (callSpecialIfBound? (.ref a) "__ne__" [u]) (fun r s' => ∃ v, r = some v ∧ EP X pins σ Q v s') X.xe s := by
    simp only [callSpecialIfBound?, bindSpecialIfBound?]
    refine wpAny_holding (wpAny_bind (wpAny_bind (wpAny_bind (J.type.here ((PySem.W.looks_findIn KX n.at_).here ?_)))))
    refine wpAny_bind (wpAny_askSetting (wpAny_ite ?_))
    simp only [PySem.F.cmp_object.ne.bind]
    have fin : wpAny (model X.prog X.w) X.A (call (.builtin "object.__ne__") ([.ref a] ++ [u]) >>= fun v => pure (some v)) (fun r s' => ∃ v, r = some v ∧ EP X pins σ Q v s') X.xe s :=
      wpAny_bind (wpAny_mono called (fun v s' h' => wpAny_pure ⟨v, rfl, h'⟩) fun _ _ h' => h')
    split
    · exact wpAny_bind (wpAny_pure (wpAny_pure fin))
    · exact wpAny_tryCatch (wpAny_bind (wpAny_pure (wpAny_pure fin)))
  have one : wpAny (model X.prog X.w) X.A (tryCompare (.ref a) "__ne__" u) (fun r s' => ∃ v, r = some v ∧ EP X pins σ Q v s') X.xe s := by
    unfold tryCompare
    refine wpAny_bind (wpAny_mono once (fun r s' z => ?_) fun _ _ e => e)
    obtain ⟨v, rfl, z⟩ := z
    have z' := cmpBack z
    cases v <;> first | exact z'.elim | exact wpAny_pure ⟨_, rfl, z⟩
  show wpAny _ _ (richCompare .NotEq (.ref a) u) _ _ _
  unfold richCompare
  simp only [oneThing_ref]
  refine wpAny_holding (wpAny_bind (wpAny_cRoomFor (Nat.lt_of_succ_lt hu) ?_))
  rw [cmpInfo_NotEq]
  dsimp only
  refine wpAny_bind (J.type.here (wpAny_bind (hb.here ?_)))
  split
  · rename_i z
    have e : PySem.W.subIn X.K tb (.ref C) = some false := by
      rcases Bool.or_eq_true_iff.mp nf with e | e
      · rw [beq_iff_eq.mp e] at z; simp at z
      · exact beq_iff_eq.mp e
    refine wpAny_bind ((PySem.W.looks_subIn KX e).here ?_)
    simp only [Bool.false_eq_true, if_false]
    refine wpAny_bind (wpAny_mono one (fun r s' z => ?_) fun _ _ e => e)
    obtain ⟨v, rfl, hq⟩ := z
    exact wpAny_pure hq
  · refine wpAny_bind (wpAny_pure ?_)
    simp only [Bool.false_eq_true, if_false]
    refine wpAny_bind (wpAny_mono one (fun r s' z => ?_) fun _ _ e => e)
    obtain ⟨v, rfl, hq⟩ := z
    exact wpAny_pure hq
end
end E10

set_option Elab.async false
set_option linter.all false
set_option maxRecDepth 100000
set_option maxHeartbeats 4000000
namespace E10
open L2 PySem PySem.Spec PyProof.Rows
section
variable {X : Cx} {k n : Nat} {f C : Addr} {fd : FuncData} {ps : List Str} {sp : Sp}
/-- repr(a), str(a): an own object by its own def -/
def rTextO (C : Addr) (sp : Sp) : List V → Hp → VK → Prop := fun xs H Q => ∃ (a dx : Addr) (fs : List (Str × V)), xs = [.ref a] ∧ H a = some (.ins C dx fs) ∧ sp [.ref a] H (fun v H' => ∃ z, v = .str z ∧ Q (.str z) H') E0
theorem strBack {pins : List (Addr × Obj)} {σ : L2.St} {Q : VK} {u : Value} {s' : Shared} (h : EP X pins σ (fun v H' => ∃ z, v = .str z ∧ Q (.str z) H') u s') : PySem.W.StrBack (EP X pins σ Q) u s' := by
  obtain ⟨v, H', I, r, z, rfl, q⟩ := h
  obtain ⟨t, rfl⟩ := (show ∃ t, u = Value.str z t from r)
  exact ⟨.str z, H', I, ⟨t, rfl⟩, q⟩
theorem call_reprO (F : FnG X.prog X.w X.K X.mg X.base k f fd ps sp) (hG : X.A.guards = some []) (room : Room (k + 1) X.A) (hu : X.A.units + 1 < cLine) (bi : Binds X.K fd ps []) (h : Has X.K C f "__repr__") : CallR X (.builtin "repr") (rTextO C sp) := by
  intro pins s σ H xs us Q I r h0
  obtain ⟨a, dx, fs, rfl, ha, q⟩ := h0
  obtain ⟨u, rfl, ru⟩ := vals1 r
  cases (show u = Value.ref a from ru)
  obtain ⟨mA, O, _⟩ := ins_get I.hok ha
  obtain ⟨od, J, _⟩ := O.look
  obtain ⟨m, hF⟩ := I.fr
  refine PySem.W.repr_K (show X.A.in1.units < cLine from hu) hF I.ok.mod.kin J h.at_ h.fn ?_
  exact wpAny_mono (run_at (vs := [.ref a]) F rfl hG room.in1 bi I (.cons rfl .nil) q) (fun _ _ z => strBack z) fun _ _ z => z
theorem call_strO (F : FnG X.prog X.w X.K X.mg X.base k f fd ps sp) (hG : X.A.guards = some []) (room : Room (k + 2) X.A) (hu : X.A.units + 2 < cLine) (bi : Binds X.K fd ps []) (h : Has X.K C f "__str__") : CallR X (.type "str") (rTextO C sp) := by
  intro pins s σ H xs us Q I r h0
  obtain ⟨a, dx, fs, rfl, ha, q⟩ := h0
  obtain ⟨u, rfl, ru⟩ := vals1 r
  cases (show u = Value.ref a from ru)
  obtain ⟨mA, O, _⟩ := ins_get I.hok ha
  obtain ⟨od, J, _⟩ := O.look
  refine PySem.W.kso_call (show X.A.in1.in1.units < cLine from hu) I.kIn J h.at_ h.fn ?_
  exact wpAny_mono (run_at (vs := [.ref a]) F rfl hG (Room.in1 (Room.in1 room)) bi I (.cons rfl .nil) q) (fun _ _ z => strBack z) fun _ _ z => z
/-- f(e, ..) of a def that is called where no text of a container is being made -/
theorem pe_callG {x : Str} {e : Expr} {es : List Expr} {t : TA} {p pos : Pos} (F : FnG X.prog X.w X.K X.mg X.base k f fd ps sp) (hG : X.A.guards = some []) (room : Room k X.A) (g : Gl X x) (m : X.mg x = some (.ref f)) (kp : PySem.W.keepIn X.K (.ref f) = true)
    (bi : Binds X.K fd ps []) (ha : PA X (e :: es) t) (hdb : (x == ("__debug__" : Str)) = false := by decide) (he : starEach (e :: es) X.env = (false, eval e X.env) :: starEach es X.env := by rfl) (hpl : (backTo pos (starEach es X.env)).any (·.1) = false := by rfl) :
    PE X (.Call (.Name x p) (e :: es) [] pos) (tCall sp [] E0 t) := by
  refine ⟨fun pins s σ H Q I h => wpAny_Call_Name_kw (ld_glob I g m (PySem.W.callWith_K (h₀ := X.base) I.ok.mod.kin kp (thn (ha.run pos pins s σ H _ I h) fun us s1 ⟨vs, H1, I1, r, q⟩ => ⟨I1.kIn, ?_⟩) he hpl) hdb)⟩
  have q' : sp (vs ++ []) H1 Q E0 := q
  rw [List.append_nil] at q'
  exact run_at F rfl hG room bi I1 r q'
/-! ### an own object, called -/
theorem callO_any {M : Model} {A : Around} {E : Value → Shared → Prop} {s : Shared} {a : Addr} {pos : Pos} {Q : Value → Shared → Prop} {args : List (Bool × Sem Value)} {kws : List (Option Str × Sem Value)} (hplain : (args.any (·.1) || kws.any (·.1.isNone)) = false)
    (h : wpAny M A (evalArgs (.ref a) true args kws) (fun z s₁ => (∃ C ox od, PySem.W.InstAt s₁.heap a ox C od ∧ ox.data = .plain) ∧ wpAny M A (call (.ref a) ([] ++ z.pos) z.kw) Q E s₁) E s) : wpAny M A (callWith pos (.ref a) [] args kws) Q E s := by
  unfold callWith
  refine wpAny_bind (wpAny_holding (wpAny_mono h (fun z s₁ h₁ => wpAny_bind (wpAny_standAt ?_)) fun _ _ y => y))
  obtain ⟨⟨C, ox, od, J, hd⟩, h₁⟩ := h₁
  have L := PySem.W.kco_keeper (M := M) J hd
  simp only [hplain]
  refine wpAny_bind (L.here ?_)
  have tail : ∀ {t : Sem Value}, wpAny M A t Q E s₁ → wpAny M A (t >>= fun r => holding [r] point >>= fun _ => pure r) Q E s₁ :=
    fun ht => wpAny_bind (wpAny_mono ht (fun r s₂ hr => wpAny_bind (wpAny_holding (wpAny_point (wpAny_pure hr)))) fun _ _ y => y)
  exact tail (wpAny_operateT h₁)
theorem run_ofOk (F : FnOk X.prog X.w X.K X.mg X.base CX0 k f fd ps sp) (b : Binds X.K fd ps []) : StX.CallO X.K C f → StX.CallO X.K C f ∧ FnR X.prog X.w X.K X.mg X.base CX0 k f sp := fun c => ⟨c, fun A outer s H us vs Q E hr e0 r q => by
  have n1 : us.length = ps.length := r.length.symm.trans (F.len _ _ _ _ q)
  have inK : X.K.In s.heap := e0.mod.kin.keeps fun c o e => (e0.bs c o e).1
  have bb := b s us inK (by simpa using n1)
  rw [List.append_nil] at bb
  exact F.run A outer s H ⟨us, []⟩ us vs Q E hr e0 bb r q⟩
theorem insC_of {H : Hp} {a dx : Addr} {fs : List (Str × V)} (h : H a = some (.ins C dx fs)) : StX.InsC X H a C := .inr ⟨dx, fs, h⟩
/-- e(e1, ..), e an own object of C whose __call__ is f -/
theorem pe_callOb {fe e : Expr} {es : List Expr} {tf : TE} {t : TA} {pos : Pos} (hf : PE X fe tf) (c : StX.CallO X.K C f) (F : FnOk X.prog X.w X.K X.mg X.base CX0 k f fd ps sp) (b : Binds X.K fd ps []) (hr : Room k X.A) (ha : PA X (e :: es) t)
    (ht : eval (.Call fe (e :: es) [] pos) X.env = (do callWith pos (← eval fe X.env) [] (backTo pos (starEach (e :: es) X.env)) (backToKw pos (keywordEach [] X.env))) := by rfl)
    (he : starEach (e :: es) X.env = (false, eval e X.env) :: starEach es X.env := by rfl) (hpl : (backTo pos (starEach es X.env)).any (·.1) = false := by rfl) : PE X (.Call fe (e :: es) [] pos) (StX.tCallO X C sp E0 tf t) :=
  StX.pe_callO hf c (run_ofOk F b c).2 hr pass0 ha ht he hpl
/-- e(k = e1, ..) -/
def tCallOK (C : Addr) (m : Nat) (sp : Sp) (gV : List V → List V → List V) (tf : TE) (tk : TA) : TE := fun σ H Q => tf σ H fun y H1 => ∃ a, y = V.ref a ∧ tk σ H1 fun zs H2 => (∃ dx fs, H2 a = some (.ins C dx fs)) ∧ zs.length = m ∧ sp (gV [.ref a] zs) H2 Q E0
theorem pe_callObK {fe : Expr} {kws : List Keyword} {ks : List Str} {tf : TE} {tk : TA} {pos : Pos} {g : List Value → List Value → List Value} {gV : List V → List V → List V} (hf : PE X fe tf) (c : StX.CallO X.K C f) (F : FnOk X.prog X.w X.K X.mg X.base CX0 k f fd ps sp) (hb : KBn X.K fd ps 1 ks g gV) (hr : Room k X.A) (hkw : PK X kws tk)
    (ht : eval (.Call fe [] kws pos) X.env = (do callWith pos (← eval fe X.env) [] (backTo pos (starEach [] X.env)) (backToKw pos (keywordEach kws X.env))) := by rfl)
    (hall : (backToKw pos (keywordEach kws X.env)).all (·.1.isSome) = true := by rfl) (hks : (backToKw pos (keywordEach kws X.env)).filterMap (·.1) = ks := by rfl)
    (hpl : ((backTo pos (starEach [] X.env)).any (·.1) || (backToKw pos (keywordEach kws X.env)).any (·.1.isNone)) = false := by rfl) : PE X (.Call fe [] kws pos) (tCallOK C ks.length sp gV tf tk) := by
  refine ⟨fun pins s σ H Q I h => ?_⟩
  rw [ht]
  refine wpAny_bind (thn (hf.run pins s σ H _ I h) fun u s1 ⟨y, H1, I1, ry, a, ey, q⟩ => ?_)
  subst ey
  obtain rfl : u = Value.ref a := ry
  refine callO_any hpl (PyProof.Rows.evalArgs_kw2_nil hall (thn (hkw.run pos pins s1 σ H1 _ I1 q) fun ws s2 ⟨zs, H2, I2, rz, ⟨dx, fs, ha⟩, l2, q2⟩ => ?_))
  rw [hks]
  obtain ⟨ox, od, J, hd⟩ := StX.insC_at I2 (insC_of (X := X) ha)
  refine ⟨⟨C, ox, od, J, hd⟩, wpAny_call (PySem.W.kco_code I2.kIn J hd c.at_ c.fn c.fi ?_)⟩
  refine codeAny_mono (F.run X.A X.stack s2 H2 ⟨[.ref a], ks.zip ws⟩ (g [.ref a] ws) _ Q E0 hr I2.env0 (hb.to s2 [.ref a] ws I2.kIn rfl (rz.length.symm.trans l2)) (hb.rel (vs := [V.ref a]) (.cons rfl .nil) rz) q2) fun res s' hq => ?_
  match res, hq with
  | .error _, z => exact z.elim
  | .ok (.ret _), z => exact I2.after z
  | .ok .next, z => exact z.elim
  | .ok .brk, z => exact z.elim
  | .ok .cont, z => exact z.elim
/-- C(k = e, ..): keywords alone -/
def tMakeK (C : Addr) (m : Nat) (sp : Sp) (gV : List V → List V → List V) (tk : TA) : TE := fun σ H Q => tk σ H fun zs H2 => zs.length = m ∧ ∀ x dx, H2 x = none → H2 dx = none → dx ≠ x → sp (gV [.ref x] zs) (upd (upd H2 dx (.own x)) x (.ins C dx [])) (fun v H3 => v = .non ∧ Q (.ref x) H3) E0
theorem pe_makeK {x : Str} {p pos : Pos} {kws : List Keyword} {ks : List Str} {tk : TA} {g : List Value → List Value → List Value} {gV : List V → List V → List V} (M : Mk X.K C f) (F : FnOk X.prog X.w X.K X.mg X.base CX0 k f fd ps sp) (hr : Room (k + 1) X.A) (hg : Gl X x) (hm : X.mg x = some (.ref C)) (hb : KBn X.K fd ps 1 ks g gV)
    (hkw : PK X kws tk) (hall : (backToKw pos (keywordEach kws X.env)).all (·.1.isSome) = true := by rfl) (hks : (backToKw pos (keywordEach kws X.env)).filterMap (·.1) = ks := by rfl)
    (hdb : (x == ("__debug__" : Str)) = false := by decide) (hpl : ((backTo pos (starEach [] X.env)).any (·.1) || (backToKw pos (keywordEach kws X.env)).any (·.1.isNone)) = false := by rfl) :
    PE X (.Call (.Name x p) [] kws pos) (tMakeK C ks.length sp gV tk) := by
  refine ⟨fun pins s σ H Q I h => ?_⟩
  refine wpAny_Call_Name_kw (ld_glob I hg hm ?_ hdb)
  refine PySem.W.callWith_KW0 (h₀ := X.base) I.ok.mod.kin M.kp hall (thn (hkw.run pos pins s σ H _ I h) fun ws s2 ⟨zs, H2, I2, rz, l2, q2⟩ => ⟨I2.kIn, ?_⟩) hpl
  rw [hks]
  exact run_makeN (n := 0) (us := []) (vs := []) M F hr hb pass0 I2 .nil rz rfl l2 q2
end
end E10

set_option Elab.async false
set_option linter.all false
set_option maxRecDepth 100000
set_option maxHeartbeats 4000000
namespace E10
open L2 PySem PySem.Spec PyProof.Rows Builtin Float
def okF (r : Except String FormatSpec) : FormatSpec := match r with
  | .ok f => f
  | .error _ => { fill := 32, align := 62 }
def plusF : FormatSpec := okF (parseFormatSpec ("+d" : Str).cps.toList "int" 62)
theorem plusF_ok : parseFormatSpec ("+d" : Str).cps.toList "int" 62 = .ok plusF := by
  first | rfl | decide +kernel
theorem plusF_facts : plusF.sign = some 43 ∧ plusF.width = none ∧ plusF.grouping = none ∧ plusF.precision = none ∧ plusF.noNeg0 = false ∧ plusF.alt = false ∧ plusF.fill = 32 ∧ plusF.align = 62 ∧ plusF.type.getD (if ("+d" : Str).cps.back? == some 0 then 0 else 100) = 100 := by
  refine ⟨?_, ?_, ?_, ?_, ?_, ?_, ?_, ?_, ?_⟩ <;> first | rfl | decide +kernel
/-- an int with its sign -/
def plusText (a : Int) : Str := if a < 0 then Str.ofString (toString a) else ("+" : Str) ++ Str.ofString (toString a)
theorem pad_none (n m : Nat) : (-1 - (n : Int) - (m : Int)).toNat = 0 := Int.toNat_eq_zero.mpr (by omega)
theorem plus_text (a : Int) : intSpecText plusF a = plusText a := by
  obtain ⟨hs, hw, hg, _, _, _, hf, ha, _⟩ := plusF_facts
  have hd : ((Nat.toDigits 10 a.natAbs).map fun c => (if (100 : Nat) == 88 then c.toUpper else c).toNat) = (Nat.toDigits 10 a.natAbs).map Char.toNat := by
    refine List.map_congr_left fun c _ => ?_
    rfl
  have hne : ((Nat.toDigits 10 a.natAbs).map Char.toNat).isEmpty = false := by
    have := tDigits_len_ge 10 a.natAbs
    cases h : Nat.toDigits 10 a.natAbs with
    | nil => rw [h] at this; simp at this
    | cons _ _ => rfl
  unfold intSpecText intField'
  rw [hd]
  simp only [hs, hw, hg, hf, ha, hne, show ((32 : Nat) == 48) = false by decide, show ((62 : Nat) == 61) = false by decide, show ((62 : Nat) == 60) = false by decide, show ((62 : Nat) == 94) = false by decide, Bool.false_and, Bool.and_false,
    Bool.false_eq_true, if_false, List.length_nil, List.append_nil, Int.toNat_zero, Nat.zero_sub, List.replicate_zero, List.nil_append]
  have zero : ∀ (l : List Nat) (x : Nat), List.replicate (-1 - ((l.length : Int) + ((0 : Nat) : Int) + ((0 : Nat) : Int)) - (((List.map Char.toNat (Nat.toDigits 10 a.natAbs)).length : Nat) : Int)).toNat x = [] := fun l x => by
    rw [Int.toNat_eq_zero.mpr (by omega)]
    rfl
  by_cases h : a < 0
  · have e : plusText a = ⟨(45 :: (Nat.toDigits 10 a.natAbs).map Char.toNat).toArray⟩ := by
      unfold plusText
      rw [if_pos h]
      obtain ⟨n, rfl⟩ : ∃ n : Nat, a = Int.negSucc n := ⟨a.natAbs - 1, by omega⟩
      have t : Str.ofString (Nat.repr (n + 1)) = ⟨((Nat.toDigits 10 (n + 1)).map Char.toNat).toArray⟩ := text_ofNat (n + 1)
      have s : toString (Int.negSucc n) = "-" ++ Nat.repr (n + 1) := rfl
      rw [Str.ofString_eq_toList] at t
      rw [s, Str.ofString_eq_toList]
      refine Str.ext' ?_
      have t2 := congrArg Str.cps t
      simp only [String.toList_append, Int.natAbs_negSucc, List.map_append] at t2 ⊢
      have t3 := congrArg Array.toList t2
      simp only [List.toList_toArray] at t3
      rw [t3]
      rfl
    rw [e]
    simp only [decide_eq_true h, if_true]
    refine Str.ext' ?_
    rw [zero [45] 32]
    simp
  · have e : plusText a = ⟨(43 :: (Nat.toDigits 10 a.natAbs).map Char.toNat).toArray⟩ := by
      unfold plusText
      rw [if_neg h]
      obtain ⟨n, rfl⟩ := Int.eq_ofNat_of_zero_le (Int.not_lt.mp h)
      have t : Str.ofString (toString (n : Int)) = ⟨((Nat.toDigits 10 n).map Char.toNat).toArray⟩ := text_ofNat n
      rw [t]
      refine Str.ext' ?_
      rw [Str.cps_append]
      simp
      rfl
    rw [e]
    simp only [decide_eq_false h, Bool.false_eq_true, if_false]
    refine Str.ext' ?_
    rw [zero [43] 32]
    simp
section
variable {prog : Program} {w : World} {A : Around} {E : Value → Shared → Prop} {s : Shared}
theorem plus_len {a : Int} (h : a.natAbs.log2 < 1920) : (plusText a).length ≤ sizeLine := by
  have e := int_text_fits h
  unfold plusText
  split
  · exact e
  · rw [strLen_append]
    have e1 : (("+" : String) : Str).length = 1 := rfl
    have e2 := int_text_length_le (k := 1920) (by decide) h
    rw [e1, PySem.ofString_length, sizeLine_eq]
    omega
theorem field_signed {a : Int} {t : Tok} {f : FormatSpec} {Q : Value → Shared → Prop} (hd : a.natAbs.log2 < 1920) (hp : parseFormatSpec ("+d" : Str).cps.toList "int" 62 = .ok f) (hs : f.sign = some 43) (hw : f.width = none) (hgr : f.grouping = none) (hpr : f.precision = none) (hz : f.noNeg0 = false) (hal : f.alt = false)
    (hty : f.type.getD (if ("+d" : Str).cps.back? == some 0 then 0 else 100) = 100) (hlen : (intSpecText f a).length ≤ sizeLine) (h : Q (.str (intSpecText f a) (s.toks + 1)) { s with toks := s.toks + 1 + 1 }) : wpAny (model prog w) A (formatField (.int a t) "+d") Q E s := by
  have hne : ((("+d" : String) : Str).length == 0) = false := by decide
  have hasc : ((("+d" : Str).cps.toList.drop 1).any (· ≥ 128) || (("+d" : Str).cps.getD 0 0 ≥ 128 && !([60, 62, 61, 94] : List Nat).contains (("+d" : Str).cps.getD 1 0))) = false := by decide +kernel
  show wpAny _ _ (holding [.int a t] (pyFormat (.int a t) "+d")) Q E s
  refine wpAny_holding ?_
  unfold pyFormat
  refine wpAny_bind (wpAny_mkStr ?_ (by decide))
  refine wpAny_bind (m := callSpecial? (.int a t) (Str.ofString "__format__") [.str "+d" s.toks]) (wpAny_callSpecial?_slot (name := Str.ofString "__format__") (typeIs_int _ a t) slot_int_format ?_)
  refine wpAny_call (codeAny_call_builtin slot_int_format.plain entry_int_format (slot_int_format.check _ _ _ _ _ _ _ _ (typeIs_int _ a t) (args_int_format _ _) ?_))
  unfold Builtin.«int.__format__»
  simp only [selfAndOne, noKeywords, Int.intOfSelf, asInt?, asStr?, List.isEmpty_nil, if_true, pure_bind, bind_pure, bind_assoc, hne, hasc, Bool.false_eq_true, if_false,
    show (Value.str "+d" s.toks == Value.none) = false from rfl]
  refine wpAny_bind (wpAny_typeNameOf (T := "str") (typeIs_str _ _ _) (by decide) fun _ => ?_)
  first | refine wpAny_bind (wpAny_typeNameOfCut_int ?_) | refine wpAny_bind (wpAny_typeNameOf_int ?_)
  simp only [hp, hty]
  rw [if_pos (by decide)]
  show wpAny _ _ (if _ then _ else _) _ _ _
  rw [if_neg (by simp [hpr])]
  show wpAny _ _ (if _ then _ else _) _ _ _
  rw [if_neg (by simp [hz])]
  show wpAny _ _ (if _ then _ else _) _ _ _
  rw [if_neg (by decide)]
  show wpAny _ _ (do let r ← Builtin.overDigitLimit? a; _) _ _ _
  rw [PySem.overDigitLimit_small hd]
  refine wpAny_bind (wpAny_pure ?_)
  show wpAny _ _ (if _ then _ else _) _ _ _
  rw [if_neg (by simp [hw])]
  show wpAny _ _ (retStr _) _ _ _
  unfold retStr
  refine wpAny_bind (wpAny_mkStr (wpAny_pure ?_) ?hs2)
  case hs2 =>
    simp only [hal, Bool.false_eq_true, if_false, show ((10 : Nat) == 10) = true by decide, if_true]
    conv => lhs; arg 1; whnf
    simp only [intSpecText, intField', hgr, hs, hal, Bool.false_eq_true, if_false, show ((10 : Nat) == 10) = true by decide, if_true] at hlen ⊢
    exact hlen
  dsimp only
  refine wpAny_bind (wpAny_isInstance (typeIs_str _ _ _) isSubtype_str_str (wpAny_pure ?_))
  simp only [hal, Bool.false_eq_true, if_false, show ((10 : Nat) == 10) = true by decide, if_true]
  conv => arg 1; arg 1; whnf
  simp only [intSpecText, intField', hgr, hs, hal, Bool.false_eq_true, if_false, show ((10 : Nat) == 10) = true by decide, if_true] at h ⊢
  exact h
theorem formatField_plus {a : Int} {t : Tok} {Q : Value → Shared → Prop} (hd : a.natAbs.log2 < 1920) (h : Q (.str (plusText a) (s.toks + 1)) { s with toks := s.toks + 1 + 1 }) : wpAny (model prog w) A (formatField (.int a t) "+d") Q E s := by
  obtain ⟨hs, hw, hgr, hpr, hz, hal, hf, hli, hty⟩ := plusF_facts
  rw [← plus_text] at h
  exact field_signed hd plusF_ok hs hw hgr hpr hz hal hty (by rw [plus_text]; exact plus_len hd) h
end
section
variable {X : Cx}
/-- {n:+d} -/
def tFmtP (te : TE) : TE := fun σ H Q => te σ H fun x H1 => ∃ i : Int, x = .int i ∧ i.natAbs.log2 < 1920 ∧ Q (.str (plusText i)) H1
theorem pe_fmtP {e : Expr} {te : TE} {p1 p2 pos : Pos} {j : Nat} (he : PE X e te) : PE X (.FormattedValue e (-1) (some (.JoinedStr [.Constant (.str "+d") j p1] p2)) pos) (tFmtP te) := by
  refine ⟨fun pins s σ H Q I h => ?_⟩
  refine wpAny_FormattedValue_spec (thn (he.run pins s σ H _ I h) fun v s1 hv => ?_)
  obtain ⟨x, H1, I1, r1, i, rfl, hz, q⟩ := hv
  obtain ⟨t, rfl⟩ := (show ∃ t, v = Value.int i t from r1)
  refine wpAny_JoinedStr_one (thn ((pe_str (x := "+d") (j := j) (pos := p1)).run pins s1 σ H1 (fun y H2 => y = .str "+d" ∧ H2 = H1) I1 ⟨rfl, rfl⟩) fun u s2 hu => ?_)
  obtain ⟨y, H2, I2, r2, rfl, rfl⟩ := hu
  obtain ⟨t2, rfl⟩ := (show ∃ t, u = Value.str "+d" t from r2)
  exact ⟨_, t2, rfl, formatField_plus hz ⟨.str (plusText i), _, I2.tok _, ⟨_, rfl⟩, q⟩⟩
end
end E10

set_option Elab.async false
set_option linter.all false
set_option maxRecDepth 100000
set_option maxHeartbeats 4000000
namespace E10
open L2 PySem PySem.Spec PyProof.Rows
/-! ### repr of a list, a dict of small things -/
def tiny : V → Option PyData
  | .non => some .none
  | .bl b => some (.bool b)
  | .int i => if i.natAbs < 10 ^ 70 then some (.int i) else none
  | .str z => if (reprText z).length ≤ 100 then some (.str z) else none
  | _ => none
theorem log_small {i : Int} (h : i.natAbs < 10 ^ 70) : i.natAbs.log2 < 1920 := by
  by_cases z : i.natAbs = 0
  · rw [z]
    decide
  · exact (Nat.log2_lt z).mpr (Nat.lt_of_lt_of_le h (by decide +kernel))
theorem tiny_int {i : Int} {d : PyData} (h : tiny (.int i) = some d) : i.natAbs < 10 ^ 70 ∧ d = .int i := by
  have h' : (if i.natAbs < 10 ^ 70 then some (PyData.int i) else none) = some d := h
  by_cases c : i.natAbs < 10 ^ 70
  · rw [if_pos c] at h'
    exact ⟨c, (Option.some.inj h').symm⟩
  · rw [if_neg c] at h'
    cases h'
theorem tiny_str {z : Str} {d : PyData} (h : tiny (.str z) = some d) : (reprText z).length ≤ 100 ∧ d = .str z := by
  have h' : (if (reprText z).length ≤ 100 then some (PyData.str z) else none) = some d := h
  by_cases c : (reprText z).length ≤ 100
  · rw [if_pos c] at h'
    exact ⟨c, (Option.some.inj h').symm⟩
  · rw [if_neg c] at h'
    cases h'
theorem tiny_ok {x : V} {d : PyData} (h : tiny x = some d) : d.showable = true ∧ d.depth = 0 ∧ d.shown.length ≤ 100 ∧ d.hasDict = false := by
  cases x with
  | non =>
    cases h
    exact ⟨rfl, rfl, by decide, rfl⟩
  | bl b =>
    cases h
    cases b <;> exact ⟨rfl, rfl, by decide, rfl⟩
  | int i =>
    obtain ⟨hi, rfl⟩ := tiny_int h
    refine ⟨decide_eq_true (log_small hi), rfl, ?_, rfl⟩
    show (Str.ofString (toString i)).length ≤ 100
    have e := int_text_length_le10 (k := 70) (by decide) hi
    rw [PyProof.Rows.ofString_len]
    omega
  | str z =>
    obtain ⟨hz, rfl⟩ := tiny_str h
    exact ⟨rfl, rfl, hz, rfl⟩
  | _ => simp [tiny] at h
theorem tiny_reads {h : Heap} {x : V} {d : PyData} {u : Value} (t : tiny x = some d) (r : RelV x u) : Reads h u d [] := by
  cases x with
  | non =>
    cases t
    cases (show u = Value.none from r)
    exact .none
  | bl b =>
    cases t
    cases (show u = Value.bool b from r)
    exact .bool b
  | int i =>
    obtain ⟨_, rfl⟩ := tiny_int t
    obtain ⟨k, rfl⟩ := (show ∃ t, u = Value.int i t from r)
    exact .int i k
  | str z =>
    obtain ⟨_, rfl⟩ := tiny_str t
    obtain ⟨k, rfl⟩ := (show ∃ t, u = Value.str z t from r)
    exact .str z k
  | _ => simp [tiny] at t
abbrev Tiny (x : V) (d : PyData) : Prop := tiny x = some d
abbrev TinyP (p : Key × V) (q : PyData × PyData) : Prop := tiny (kV p.1) = some q.1 ∧ tiny p.2 = some q.2
theorem list_reads {h : Heap} : ∀ {xs : List V} {ds : List PyData} {us : List Value}, Paired Tiny xs ds → Vals xs us → ReadsAll h us ds []
  | _, _, _, .nil, .nil => .nil
  | _, _, _, .cons r t, .cons q k => .cons (as := []) (bs := []) (tiny_reads r q) (list_reads t k)
theorem listLen (ts : List Str) : (listText ts).length ≤ piled ts + 2 := by
  have e1 : ((("[" : String) : Str)).length = 1 := rfl
  have e2 : ((("]" : String) : Str)).length = 1 := rfl
  have e3 : ((("" : String) : Str)).length = 0 := rfl
  cases ts with
  | nil =>
    unfold listText
    rw [strLen_append, e2]
    show (("[" : String) : Str).length + 1 ≤ 0 + 2
    rw [e1]
    decide
  | cons t r =>
    unfold listText
    rw [strLen_append, e2]
    show (textFrom 1 (((("[" : String) : Str) ++ (("" : String) : Str)) ++ t) r).length + 1 ≤ _
    rw [textFrom_length_pos _ _ _ (by decide), strLen_append, strLen_append, e1, e3, piled_cons]
    omega
theorem dictLen (ts : List Str) : (dictText ts).length ≤ piled ts + 2 := by
  have e1 : ((("{" : String) : Str)).length = 1 := rfl
  have e2 : ((("}" : String) : Str)).length = 1 := rfl
  unfold dictText
  rw [strLen_append, strLen_append, e1, e2]
  by_cases h : ts = []
  · subst h
    have : (Str.join ", " []).length = 0 := rfl
    rw [this, piled_nil]
    omega
  · have := join_length_add ts h
    omega
theorem list_ok : ∀ {xs : List V} {ds : List PyData}, Paired Tiny xs ds → PyData.showableAll ds = true ∧ PyData.depthAll ds = 0 ∧ piled (PyData.shownAll ds) ≤ 102 * xs.length ∧ PyData.hasDictAll ds = false
  | _, _, .nil => ⟨rfl, rfl, Nat.zero_le _, rfl⟩
  | _, _, .cons r t => by
    obtain ⟨a1, b1, c1, e1⟩ := tiny_ok r
    obtain ⟨a2, b2, c2, e2⟩ := list_ok t
    refine ⟨?_, ?_, ?_, ?_⟩
    · show (_ && _) = true
      rw [a1, a2]
      rfl
    · show max _ _ = 0
      rw [b1, b2]
      rfl
    · show piled (_ :: _) ≤ _
      rw [piled_cons, List.length_cons]
      omega
    · show (_ || _) = false
      rw [e1, e2]
      rfl
theorem dict_ok : ∀ {ps : List (Key × V)} {qs : List (PyData × PyData)}, Paired TinyP ps qs → PyData.showableKv qs = true ∧ PyData.depthKv qs = 0 ∧ piled (PyData.shownKv qs) ≤ 204 * ps.length
  | _, _, .nil => ⟨rfl, rfl, Nat.zero_le _⟩
  | _, _, @Paired.cons _ _ _ p (kd, vd) l m r t => by
    obtain ⟨a1, b1, c1, _⟩ := tiny_ok r.1
    obtain ⟨a3, b3, c3, _⟩ := tiny_ok r.2
    obtain ⟨a2, b2, c2⟩ := dict_ok t
    refine ⟨?_, ?_, ?_⟩
    · show (_ && _ && _) = true
      rw [a1, a2, a3]
      rfl
    · show max (max _ _) _ = 0
      rw [b1, b2, b3]
      rfl
    · show piled (_ :: _) ≤ _
      have e : ((": " : String) : Str).length = 2 := rfl
      rw [piled_cons, List.length_cons, strLen_append, strLen_append, e]
      have : (kd, vd).1 = kd := rfl
      simp only at c1 c3
      omega
theorem dict_reads {P : Program} {w : World} {h : Heap} : ∀ {ps : List (Key × V)} {qs : List (PyData × PyData)} {vs : List (Key × Value)} {es : List DictEntry}, Paired TinyP ps qs → KV ps vs → Pairs (mixKind P w) es vs →
    ReadsAll h (es.map (·.key)) (qs.map (·.1)) [] ∧ ReadsAll h (es.map (·.val)) (qs.map (·.2)) []
  | _, _, _, _, .nil, .nil, .nil => ⟨.nil, .nil⟩
  | (k, v) :: _, (kd, vd) :: _, (k2, u) :: _, p :: _, .cons r t, .cons e n, .cons i1 i2 i3 => by
    obtain ⟨e1, e2⟩ := e
    simp only at e1 e2
    subst e1
    obtain ⟨a, b⟩ := dict_reads (h := h) t n i3
    have kr : Reads h p.key kd [] := by
      rcases keyIs_shape (show keyIs k p.key = true from i1) with ⟨i, t, e, e'⟩ | ⟨z, t, e, e'⟩
      · subst e
        exact tiny_reads r.1 ⟨t, e'⟩
      · subst e
        exact tiny_reads r.1 ⟨t, e'⟩
    exact ⟨.cons (as := []) (bs := []) kr a, .cons (as := []) (bs := []) (tiny_reads r.2 (show RelV v p.val by rw [i2]; exact e2)) b⟩
section
variable {X : Cx}
/-- repr of a list of small things -/
def rReprL (K : PySem.W.Frag) : List V → Hp → VK → Prop := fun xs H Q => ∃ a ys ds, xs = [.ref a] ∧ H a = some (.lst ys) ∧ ys.length ≤ 40 ∧ Paired Tiny ys ds ∧ Q (.str (PyData.list ds).shown) H
theorem call_reprL (hg : X.A.guards = some []) (hu : X.A.units + 64 < cLine) : CallR X (.builtin "repr") (rReprL X.K) := by
  intro pins s σ H xs us Q I r h
  obtain ⟨a, ys, ds, rfl, ha, hl, hp, q⟩ := h
  obtain ⟨u, rfl, ru⟩ := vals1 r
  cases (show u = Value.ref a from ru)
  obtain ⟨_, its, m, rv, e⟩ := (show ObjOk X.prog X.w H s.heap a (.lst ys) from I.hok a _ ha)
  obtain ⟨o1, o2, o3, o4⟩ := list_ok hp
  have rd : Reads s.heap (.ref a) (.list ds) [a] := .list e rfl rfl (by simpa using list_reads hp rv)
  have hd : (PyData.list ds).depth = 1 := by
    show PyData.depthAll ds + 1 = 1
    rw [o2]
  have lid : (PyData.list ds).shown.length ≤ sizeLine := by
    have l1 := listLen (PyData.shownAll ds)
    show (listText (PyData.shownAll ds)).length ≤ _
    have : (5000 : Nat) ≤ sizeLine := by decide
    omega
  exact repr_of_reads' rd o1 (fun z => absurd (show PyData.hasDictAll ds = true from z) (by rw [o4]; exact Bool.false_ne_true)) hg (by omega) (fun _ _ e => e) (fun h' u tk hk => ⟨.str (PyData.list ds).shown, H, I.kept (t' := tk) hk, ⟨u, rfl⟩, q⟩) lid
/-- repr of a dict of small things -/
def rReprD : List V → Hp → VK → Prop := fun xs H Q => ∃ a ys ds, xs = [.ref a] ∧ H a = some (.dK ys) ∧ ys.length ≤ 40 ∧ Paired TinyP ys ds ∧ Q (.str (PyData.dict ds).shown) H
theorem call_reprD (hg : X.A.guards = some []) (hu : X.A.units + 64 < cLine) : CallR X (.builtin "repr") rReprD := by
  intro pins s σ H xs us Q I r h
  obtain ⟨a, ys, ds, rfl, ha, hl, hp, q⟩ := h
  obtain ⟨u, rfl, ru⟩ := vals1 r
  cases (show u = Value.ref a from ru)
  obtain ⟨_, ns, vs, rel, o, es, ep, h1, ex, h3, _, prs, _⟩ := (show ObjOk X.prog X.w H s.heap a (.dK ys) from I.hok a _ ha)
  have na : sysModules ≠ a := fun z => by rw [z] at ns; simp at ns
  obtain ⟨o1, o2, o3⟩ := dict_ok hp
  obtain ⟨r1, r2⟩ := dict_reads (h := s.heap) hp rel prs
  have rd : Reads s.heap (.ref a) (.dict ds) (a :: [] ++ []) := .dict h1 ex.1 h3 r1 r2
  have hd : (PyData.dict ds).depth = 1 := by
    show PyData.depthKv ds + 1 = 1
    rw [o2]
  have lid : (PyData.dict ds).shown.length ≤ sizeLine := by
    have l1 := dictLen (PyData.shownKv ds)
    show (dictText (PyData.shownKv ds)).length ≤ _
    have : (9000 : Nat) ≤ sizeLine := by decide
    omega
  exact repr_of_reads' rd o1 (fun _ => by simp [na]) hg (by omega) (fun _ _ e => e) (fun h' u tk hk => ⟨.str (PyData.dict ds).shown, H, I.kept (t' := tk) hk, ⟨u, rfl⟩, q⟩) lid
end
end E10

set_option Elab.async false
set_option linter.all false
set_option maxRecDepth 100000
set_option maxHeartbeats 4000000
/-! ### sorted of pairs of an int and a text -/
namespace E10
open L2 PySem PySem.Spec PyProof.Rows SrtO Srt
/-- by the ints, then by the texts -/
def ltIS (p q : Int × Str) : Bool := if p.1 = q.1 then decide (p.2.cps.toList < q.2.cps.toList) else decide (p.1 < q.1)
theorem ltIS_iff {p q : Int × Str} : ltIS p q = true ↔ p.1 < q.1 ∨ (p.1 = q.1 ∧ p.2.cps.toList < q.2.cps.toList) := by
  unfold ltIS
  by_cases e : p.1 = q.1
  · rw [if_pos e, decide_eq_true_eq]
    exact ⟨fun h => .inr ⟨e, h⟩, fun h => h.elim (fun z => absurd z (by omega)) (·.2)⟩
  · rw [if_neg e, decide_eq_true_eq]
    exact ⟨fun h => .inl h, fun h => h.elim id fun z => absurd z.1 e⟩
theorem ltIS_no {p q : Int × Str} : ltIS p q = false ↔ ¬ (p.1 < q.1 ∨ (p.1 = q.1 ∧ p.2.cps.toList < q.2.cps.toList)) := by
  rw [← ltIS_iff]
  cases ltIS p q <;> simp
theorem codes_asym {a b : List Nat} (h : a < b) : ¬ b < a := fun z => List.lt_irrefl a (List.lt_trans h z)
theorem codes_tr {a b c : List Nat} (h1 : ¬ b < a) (h2 : ¬ c < b) : ¬ c < a := List.not_lt.mpr (List.le_trans (List.not_lt.mp h1) (List.not_lt.mp h2))
theorem swoIS {α : Type} (k : α → Int × Str) : Swo fun v u => ltIS (k v) (k u) := by
  refine ⟨fun x y h => ltIS_no.mpr fun z => ?_, fun x y z h1 h2 => ltIS_no.mpr fun q => ?_⟩
  · rcases ltIS_iff.mp h with a | ⟨a, b⟩ <;> rcases z with c | ⟨c, d⟩
    · omega
    · omega
    · omega
    · exact codes_asym b d
  · have a := ltIS_no.mp h1
    have b := ltIS_no.mp h2
    have n1 : ¬ (k y).1 < (k x).1 := fun t => a (.inl t)
    have n2 : ¬ (k z).1 < (k y).1 := fun t => b (.inl t)
    rcases q with q | ⟨q, r⟩
    · omega
    · have e1 : (k y).1 = (k x).1 := by omega
      have e2 : (k z).1 = (k y).1 := by omega
      exact codes_tr (fun t => a (.inr ⟨e1, t⟩)) (fun t => b (.inr ⟨e2, t⟩)) r
/-- v is a tuple of this int and this text -/
def IsIS (h : Heap) (v : Value) (x : Int) (y : Str) : Prop := ∃ a o t u n, v = .ref a ∧ h.get? a = some o ∧ o.cls = .type "tuple" ∧ o.data = .seq #[.int x t, .str y u] n
theorem IsIS.keeps {h h' : Heap} {v : Value} {x : Int} {y : Str} (p : IsIS h v x y) (k : ∀ b o, h.get? b = some o → o.cls = .type "tuple" → h'.get? b = some o) : IsIS h' v x y :=
  let ⟨a, o, t, u, n, e, ho, hc, hd⟩ := p
  ⟨a, o, t, u, n, e, k _ _ ho hc, hc, hd⟩
section
variable {prog : Program} {w : World} {A : Around} {E : Value → Shared → Prop} {s : Shared}
theorem cmpIS {vs : List Value} {k : Value → Int × Str} (hp : ∀ v ∈ vs, IsIS s.heap v (k v).1 (k v).2) : Cmp prog w A s (tuples' true) (fun p => p.1 ∈ vs) (lt2 fun v u => ltIS (k v) (k u)) := by
  intro p q hm hm'
  have i1 := hp _ hm
  have i2 := hp _ hm'
  show wpAny (model prog w) A (keyLt' (tuples' true) p.1 q.1) (fun r s' => s' = s ∧ r = ltIS (k p.1) (k q.1)) (fun _ _ => False) s
  unfold ltIS
  generalize (k p.1).1 = x at i1 ⊢
  generalize (k p.1).2 = y at i1 ⊢
  generalize (k q.1).1 = x2 at i2 ⊢
  generalize (k q.1).2 = y2 at i2 ⊢
  obtain ⟨a, o, t, u, n, ea, ho, _, hd⟩ := i1
  obtain ⟨a2, o2, t2, u2, n2, ea2, ho2, _, hd2⟩ := i2
  rw [ea, ea2]
  refine PySem.W.kat_lt ho hd ho2 hd2 (show PySem.W.KatLex prog w A true (decide (2 < 2)) _ [(.int x t, .int x2 t2), (.str y u, .str y2 u2)] 0 s from ?_)
  refine PySem.W.kat_cons (SeqAt.EqAt.int_int x t x2 t2 prog w _ _ (PySem.W.kat_go (fun e1 => ?_) fun e1 => ?_))
  · have ex : x = x2 := by simpa using e1
    refine PySem.W.kat_yes (PySem.W.kat_cons (SeqAt.EqAt.str_str y u y2 u2 prog w _ _ (PySem.W.kat_go (fun e2 => ?_) fun e2 => ?_)))
    · have ey : y = y2 := by simpa using e2
      refine PySem.W.kat_yes (PySem.W.kat_nil ⟨rfl, ?_⟩)
      rw [if_pos ex, ey]
      exact (decide_eq_false (List.lt_irrefl _)).symm
    · refine PySem.W.kat_no (PySem.W.kat_one _ _ (PyProof.Rows.lt_str (show s = s ∧ decide (y.cps.toList < y2.cps.toList) = _ from ⟨rfl, ?_⟩)))
      rw [if_pos ex]
  · have ex : ¬ x = x2 := by simpa using e1
    refine PySem.W.kat_no (oneLt_int ⟨rfl, ?_⟩)
    rw [if_neg ex]
theorem headsIS {h : Heap} : ∀ {vs : List Value}, (∀ v ∈ vs, ∃ x y, IsIS h v x y) → ∃ fs : List Value, PySem.W.KatTups h vs fs ∧ fs.length = vs.length ∧ ∀ f ∈ fs, ∃ x t, f = Value.int x t
  | [], _ => ⟨[], .nil, rfl, nofun⟩
  | v :: r, hp => by
    obtain ⟨fs, f1, f2, f3⟩ := headsIS (vs := r) fun z hm => hp z (.tail _ hm)
    obtain ⟨x, y, a, o, t, u, n, rfl, ho, hc, hd⟩ := hp v (.head _)
    refine ⟨.int x t :: fs, .cons ho hc hd rfl f1, congrArg (· + 1) f2, fun f hm => ?_⟩
    cases hm with
    | head => exact ⟨x, t, rfl⟩
    | tail _ hm => exact f3 f hm
theorem sortableIS {a : Addr} {vs : List Value} {k : Value → Int × Str} (h0 : 0 < vs.length) (hp : ∀ v ∈ vs, IsIS s.heap v (k v).1 (k v).2) (ha : ∀ o, s.heap.get? a = some o → o.cls ≠ .type "tuple") : SortableO prog w A s a vs fun v u => ltIS (k v) (k u) := by
  intro h2 keep
  have hp2 : ∀ v ∈ vs, IsIS h2 v (k v).1 (k v).2 := fun v hm => (hp v hm).keeps fun b o e c => keep b o (fun z => ha o (z ▸ e) c) e
  obtain ⟨fs, f1, f2, f3⟩ := headsIS fun v hm => ⟨_, _, hp2 v hm⟩
  refine ⟨tuples' true, fun Q E hq => PySem.W.kat_kind (T := .type "int") f1 (by omega) (fun f hm => ?_) (by rfl) ?_, cmpIS hp2⟩
  · obtain ⟨x, t, rfl⟩ := f3 f hm
    exact .now
  · rw [show (Value.type "int" != Value.type "tuple") = true by first | decide +kernel | rfl]
    exact hq
end
/-- sorted(xs), xs a list of tuples of an int and a text (k says which) -/
def rSortIS (K : PySem.W.Frag) : List V → Hp → VK → Prop := fun vs H Q => ∃ (a : Addr) (xs : List V) (k : V → Int × Str), vs = [V.ref a] ∧ SqL K H a xs ∧ (∀ x ∈ xs, ∃ t, x = V.ref t ∧ H t = some (.tup [.int (k x).1, .str (k x).2])) ∧
  ∀ ys p, ys.Perm xs → ys.Pairwise (fun x y => ltIS (k y) (k x) = false) → H p = none → Q (.ref p) (upd H p (.lst ys))
theorem call_sortIS {X : Cx} : CallR X (.builtin "sorted") (rSortIS X.K) := by
  intro pins s σ H vs us Q I r h
  obtain ⟨a, xs, k, rfl, hs, hx, q⟩ := h
  obtain ⟨its, rv, hl, hz⟩ := I.list hs
  obtain ⟨u, rfl, ru⟩ := vals1 r
  cases (show u = Value.ref a from ru)
  obtain ⟨e1, e2⟩ := refs_back rv fun x m => let ⟨t, e, _⟩ := hx x m; ⟨t, e⟩
  have hz2 : its.length ≤ sizeLine := rv.length ▸ hz
  have hp : ∀ v ∈ its, IsIS s.heap v (k (backV v)).1 (k (backV v)).2 := fun v hv => by
    obtain ⟨t, rfl⟩ := e2 v hv
    obtain ⟨t2, e, ht⟩ := hx (V.ref t) (e1 ▸ List.mem_map.mpr ⟨_, hv, rfl⟩)
    cases e
    obtain ⟨_, its2, r2, o, ho, hc, n, hd⟩ := I.hok _ _ ht
    obtain ⟨u1, u2, rfl, ⟨t1, rfl⟩, ⟨t2, rfl⟩⟩ := vals2 r2
    exact ⟨t, o, t1, t2, n, rfl, ho, hc, hd⟩
  refine sorted_ord (ltv := fun v u => ltIS (k (backV v)) (k (backV u))) (swoIS fun v => k (backV v)) hl.isList hz2 (fun h2 h₁ d hd kk => ?_) fun out o1 o2 => ?_
  · refine sortableIS (k := fun v => k (backV v)) (s := { s with heap := h₁ }) (by omega) (fun v hm => (hp v hm).keeps fun b o e _ => (kk b o e).2) fun o e c => ?_
    cases (show some o = some (seqObj "list" its.toArray 0) from e.symm.trans hd)
    exact absurd (Value.type.inj c) (by decide)
  · have h3 : ∀ u ∈ out, ∃ a, u = Value.ref a := fun u hu => e2 u (o2.perm.mem_iff.mp hu)
    obtain ⟨n, hn⟩ := sortedAll_at s.heap its out.toArray
    have hb : (out.map backV).Perm xs := e1 ▸ o2.perm.map backV
    refine ⟨.ref _, upd H (s.heap.objs.size + 1) (.lst (out.map backV)), I.laid (t' := s.toks) (fun b o e => sortedAll_old e) (Nat.le_succ _) ⟨?_, out, n, vals_back h3, by simpa using hn⟩, rfl, q _ _ hb (List.pairwise_map.mpr o1) (I.hok.fresh (Nat.le_succ _))⟩
    rw [hb.length_eq]
    exact hz
end E10

set_option Elab.async false
set_option linter.all false
set_option maxRecDepth 100000
set_option maxHeartbeats 4000000
namespace E10
open L2 PySem PySem.Spec PyProof.Rows
/-! ### repr of lists and tuples of small things, one in another -/
def Rdr (K : PySem.W.Frag) (H : Hp) : Nat → V → PyData → Prop
  | 0, x, d => tiny x = some d
  | n + 1, x, d => Rdr K H n x d ∨ (∃ a xs ds, x = .ref a ∧ d = .tuple ds ∧ SqT K H a xs ∧ xs.length ≤ 40 ∧ Paired (Rdr K H n) xs ds) ∨ (∃ a xs ds, x = .ref a ∧ d = .list ds ∧ SqL K H a xs ∧ xs.length ≤ 40 ∧ Paired (Rdr K H n) xs ds)
def bnd : Nat → Nat
  | 0 => 100
  | n + 1 => 40 * (bnd n + 2) + 10
theorem bnd_le (n : Nat) : bnd n ≤ bnd (n + 1) := by
  show _ ≤ 40 * (bnd n + 2) + 10
  omega
theorem bnd_mono {n m : Nat} (h : n ≤ m) : bnd n ≤ bnd m := by
  induction h with
  | refl => exact Nat.le_refl _
  | step _ ih => exact Nat.le_trans ih (bnd_le _)
theorem piled_le {B : Nat} : ∀ {ts : List Str}, (∀ t ∈ ts, t.length ≤ B) → piled ts ≤ ts.length * (B + 2)
  | [], _ => by rw [piled_nil]; exact Nat.zero_le _
  | t :: r, h => by
    have a := h t (.head _)
    have b := piled_le (ts := r) fun z hz => h z (.tail _ hz)
    rw [piled_cons, List.length_cons, Nat.succ_mul]
    omega
theorem tupLen (ts : List Str) : (tupleText ts).length ≤ piled ts + 3 := by
  have e1 : ((("(" : String) : Str)).length = 1 := rfl
  have e2 : ((",)" : String) : Str).length = 2 := rfl
  have e3 : ((")" : String) : Str).length = 1 := rfl
  unfold tupleText
  rw [strLen_append, strLen_append, e1]
  have hj : (Str.join ", " ts).length ≤ piled ts := by
    by_cases h : ts = []
    · subst h
      exact Nat.le_refl 0
    · have := join_length_add ts h
      omega
  split
  · rw [e2]
    omega
  · rw [e3]
    omega
structure RdOk (n : Nat) (d : PyData) : Prop where
  sh : d.showable = true
  dp : d.depth ≤ n
  le : d.shown.length ≤ bnd n
  nd : d.hasDict = false
theorem RdOk.all {K : PySem.W.Frag} {H : Hp} {n : Nat} : ∀ {xs : List V} {ds : List PyData}, Paired (Rdr K H n) xs ds → (∀ x d, Rdr K H n x d → RdOk n d) →
    PyData.showableAll ds = true ∧ PyData.depthAll ds ≤ n ∧ (∀ t ∈ PyData.shownAll ds, t.length ≤ bnd n) ∧ (PyData.shownAll ds).length = xs.length ∧ PyData.hasDictAll ds = false
  | _, _, .nil, _ => ⟨rfl, Nat.zero_le _, nofun, rfl, rfl⟩
  | _, _, .cons r t, h => by
    obtain ⟨a1, a2, a3, a4⟩ := h _ _ r
    obtain ⟨b1, b2, b3, b4, b5⟩ := RdOk.all t h
    refine ⟨?_, ?_, fun z hz => ?_, ?_, ?_⟩
    · show (_ && _) = true
      rw [a1, b1]
      rfl
    · show max _ _ ≤ n
      omega
    · cases hz with
      | head => exact a3
      | tail _ hz => exact b3 z hz
    · show _ + 1 = _ + 1
      rw [b4]
    · show (_ || _) = false
      rw [a4, b5]
      rfl
theorem Rdr.ok {K : PySem.W.Frag} {H : Hp} : ∀ (n : Nat) {x : V} {d : PyData}, Rdr K H n x d → RdOk n d
  | 0, _, _, h => by
    obtain ⟨a, b, c, e⟩ := tiny_ok h
    exact ⟨a, by omega, c, e⟩
  | n + 1, _, _, h => by
    rcases h with h | ⟨a, xs, ds, rfl, rfl, _, l, p⟩ | ⟨a, xs, ds, rfl, rfl, _, l, p⟩
    · obtain ⟨a, b, c, e⟩ := Rdr.ok n h
      exact ⟨a, by omega, Nat.le_trans c (bnd_le n), e⟩
    · obtain ⟨b1, b2, b3, b4, b5⟩ := RdOk.all p fun _ _ => Rdr.ok n
      have pl := piled_le b3
      have tl := tupLen (PyData.shownAll ds)
      have m : (PyData.shownAll ds).length * (bnd n + 2) ≤ 40 * (bnd n + 2) := Nat.mul_le_mul_right _ (by omega)
      refine ⟨b1, show PyData.depthAll ds + 1 ≤ n + 1 by omega, ?_, b5⟩
      show (tupleText (PyData.shownAll ds)).length ≤ 40 * (bnd n + 2) + 10
      omega
    · obtain ⟨b1, b2, b3, b4, b5⟩ := RdOk.all p fun _ _ => Rdr.ok n
      have pl := piled_le b3
      have tl := listLen (PyData.shownAll ds)
      have m : (PyData.shownAll ds).length * (bnd n + 2) ≤ 40 * (bnd n + 2) := Nat.mul_le_mul_right _ (by omega)
      refine ⟨b1, show PyData.depthAll ds + 1 ≤ n + 1 by omega, ?_, b5⟩
      show (listText (PyData.shownAll ds)).length ≤ 40 * (bnd n + 2) + 10
      omega
section
variable {X : Cx} {pins : List (Addr × Obj)} {σ : L2.St} {H : Hp} {s : Shared}
theorem reads_all {n : Nat} (ih : ∀ {x : V} {d : PyData} {u : Value}, Rdr X.K H n x d → RelV x u → ∃ as, Reads s.heap u d as) : ∀ {xs : List V} {ds : List PyData} {us : List Value}, Paired (Rdr X.K H n) xs ds → Vals xs us → ∃ as, ReadsAll s.heap us ds as
  | _, _, _, .nil, .nil => ⟨_, .nil⟩
  | _, _, _, .cons r t, .cons q k => by
    obtain ⟨_, a⟩ := ih r q
    obtain ⟨_, b⟩ := reads_all ih t k
    exact ⟨_, .cons a b⟩
theorem Rdr.reads (I : Inv X pins σ H s) : ∀ (n : Nat) {x : V} {d : PyData} {u : Value}, Rdr X.K H n x d → RelV x u → ∃ as, Reads s.heap u d as
  | 0, _, _, _, h, r => ⟨_, tiny_reads h r⟩
  | n + 1, _, _, u, h, r => by
    rcases h with h | ⟨a, xs, ds, rfl, rfl, ht, _, p⟩ | ⟨a, xs, ds, rfl, rfl, hl, _, p⟩
    · exact Rdr.reads I n h r
    · cases (show u = Value.ref a from r)
      obtain ⟨its, rv, ⟨o, ho, hc, k, hd⟩, _⟩ := I.tuple ht
      obtain ⟨as, q⟩ := reads_all (fun h r => Rdr.reads I n h r) p rv
      exact ⟨_, .tuple ho hc hd (by simpa using q)⟩
    · cases (show u = Value.ref a from r)
      obtain ⟨its, rv, pl, _⟩ := I.list hl
      obtain ⟨o, ho, hc, k, hd⟩ := pl.isList
      obtain ⟨as, q⟩ := reads_all (fun h r => Rdr.reads I n h r) p rv
      exact ⟨_, .list ho hc hd (by simpa using q)⟩
end
/-- repr of such a list, such a tuple -/
def rReprX (K : PySem.W.Frag) : List V → Hp → VK → Prop := fun xs H Q => ∃ (n : Nat) (a : Addr) (d : PyData), xs = [.ref a] ∧ n ≤ 3 ∧ Rdr K H n (.ref a) d ∧ Q (.str d.shown) H
theorem call_reprX {X : Cx} (hg : X.A.guards = some []) (hu : X.A.units + 64 < cLine) : CallR X (.builtin "repr") (rReprX X.K) := by
  intro pins s σ H xs us Q I r h
  obtain ⟨n, a, d, rfl, hn, hr, q⟩ := h
  obtain ⟨u, rfl, ru⟩ := vals1 r
  cases (show u = Value.ref a from ru)
  obtain ⟨as, rd⟩ := Rdr.reads I n hr (show RelV (.ref a) (.ref a) from rfl)
  obtain ⟨b1, b2, b3, b4⟩ := Rdr.ok n hr
  have lid : d.shown.length ≤ sizeLine := Nat.le_trans b3 (Nat.le_trans (bnd_mono hn) (by decide))
  exact repr_of_reads' rd b1 (fun z => absurd (b4.symm.trans z) Bool.false_ne_true) hg (by omega) (fun _ _ e => e) (fun h' u tk hk => ⟨.str d.shown, H, I.kept (t' := tk) hk, ⟨u, rfl⟩, q⟩) lid
theorem Rdr.up {K : PySem.W.Frag} {H : Hp} {n : Nat} {x : V} {d : PyData} (h : Rdr K H n x d) : Rdr K H (n + 1) x d := .inl h
theorem Rdr.tiny {K : PySem.W.Frag} {H : Hp} {x : V} {d : PyData} (h : tiny x = some d) : ∀ n, Rdr K H n x d
  | 0 => h
  | n + 1 => .inl (Rdr.tiny h n)
theorem Rdr.tup {K : PySem.W.Frag} {H : Hp} {n : Nat} {a : Addr} {xs : List V} {ds : List PyData} (h : SqT K H a xs) (l : xs.length ≤ 40) (p : Paired (Rdr K H n) xs ds) : Rdr K H (n + 1) (.ref a) (.tuple ds) := .inr (.inl ⟨a, xs, ds, rfl, rfl, h, l, p⟩)
theorem Rdr.lst {K : PySem.W.Frag} {H : Hp} {n : Nat} {a : Addr} {xs : List V} {ds : List PyData} (h : SqL K H a xs) (l : xs.length ≤ 40) (p : Paired (Rdr K H n) xs ds) : Rdr K H (n + 1) (.ref a) (.list ds) := .inr (.inr ⟨a, xs, ds, rfl, rfl, h, l, p⟩)
theorem Rdr.sm {K : PySem.W.Frag} {H H' : Hp} (s : ∀ b o, H b = some o → H' b = some o) : ∀ (n : Nat) {x : V} {d : PyData}, Rdr K H n x d → Rdr K H' n x d
  | 0, _, _, h => h
  | n + 1, _, _, h => by
    have pm : ∀ {xs : List V} {ds : List PyData}, Paired (Rdr K H n) xs ds → Paired (Rdr K H' n) xs ds := fun {xs ds} p => by
      induction p with
      | nil => exact .nil
      | cons r _ ih => exact .cons (Rdr.sm s n r) ih
    rcases h with h | ⟨a, xs, ds, e1, e2, ht, l, p⟩ | ⟨a, xs, ds, e1, e2, hl, l, p⟩
    · exact .inl (Rdr.sm s n h)
    · refine .inr (.inl ⟨a, xs, ds, e1, e2, ?_, l, pm p⟩)
      rcases ht with (e | ⟨o, e⟩) | z
      · exact .inl (.inl (s _ _ e))
      · exact .inl (.inr ⟨o, s _ _ e⟩)
      · exact .inr z
    · refine .inr (.inr ⟨a, xs, ds, e1, e2, ?_, l, pm p⟩)
      rcases hl with (e | ⟨o, e⟩) | z
      · exact .inl (.inl (s _ _ e))
      · exact .inl (.inr ⟨o, s _ _ e⟩)
      · exact .inr z
end E10

set_option Elab.async false
set_option linter.all false
set_option maxRecDepth 100000
set_option maxHeartbeats 4000000
namespace E10
open L2 PySem PySem.Spec PyProof.Rows
section
variable {X : Cx} {k n : Nat} {f C : Addr} {fd : FuncData} {ps ks : List Str} {sp : Sp}
/-! ### a method called with keywords alone -/
def tMethKw (C : Addr) (m : Str) (many : Nat) (sp : Sp) (gV : List V → List V → List V) (ta : TE) (tk : TA) : TE := fun σ H Q => ta σ H fun x H1 => ∃ a dx fs, x = .ref a ∧ H1 a = some (.ins C dx fs) ∧ fs.lookup m = none ∧ tk σ H1 fun zs H2 => zs.length = many ∧ sp (gV [x] zs) H2 Q E0
theorem pe_methKw {o : Expr} {m : Str} {kws : List Keyword} {apos pos : Pos} {ta : TE} {tk : TA} {g : List Value → List Value → List Value} {gV : List V → List V → List V} {pl : Sem Bool} (he : PE X o ta) (c : Cls X.K C) (hm : Meth X.K C m f) (F : FnOk X.prog X.w X.K X.mg X.base CX0 k f fd ps sp) (hr : Room k X.A)
    (hb : KBn X.K fd ps 1 ks g gV) (hkw : PK X kws tk) (hall : (backToKw pos (keywordEach kws X.env)).all (·.1.isSome) = true := by rfl) (hks : (backToKw pos (keywordEach kws X.env)).filterMap (·.1) = ks := by rfl)
    (hpl : ((backTo pos (starEach [] X.env)).any (·.1) || (backToKw pos (keywordEach kws X.env)).any (·.1.isNone)) = false := by rfl)
    (ht : eval (.Call (.Attribute o m apos) [] kws pos) X.env = (do
      let ov ← eval o X.env
      standAt apos.atName
      let (f, first) ← holding [ov] (getMethod ov m pl)
      callWith pos f first (backTo pos (starEach [] X.env)) (backToKw pos (keywordEach kws X.env))) := by rfl) : PE X (.Call (.Attribute o m apos) [] kws pos) (tMethKw C m ks.length sp gV ta tk) := by
  refine ⟨fun pins s σ H Q I h => ?_⟩
  refine PySem.W.methodCall_KW (pl := pl) (thn (he.run pins s σ H _ I h) fun u s1 ⟨x, H1, I1, rx, a, dx, fs, ex, ea, l, q⟩ => ?_) ht
  subst ex
  obtain rfl : u = Value.ref a := rx
  refine getmeth_ok I1 ea c hm l ?_
  refine PySem.W.callWith_KW0 (first := [.ref a]) (h₀ := X.base) I.ok.mod.kin hm.kp hall (thn (hkw.run pos pins s1 σ H1 _ I1 q) fun ws s2 ⟨zs, H2, I2, rz, l2, q2⟩ => ⟨I2.kIn, ?_⟩) hpl
  rw [hks]
  exact run_fnN (n := 1) (us := [.ref a]) (vs := [.ref a]) F hr hb pass0 I2 (.cons rfl .nil) rz rfl l2 q2
/-! ### o[i], x in o of an own object -/
def tSubO (C : Addr) (sp : Sp) (ta ti : TE) : TE := fun σ H Q => ta σ H fun x H1 => ti σ H1 fun y H2 => ∃ a dx fs, x = .ref a ∧ H2 a = some (.ins C dx fs) ∧ sp [x, y] H2 Q E0
def rInO (C : Addr) (sp : Sp) (neg : Bool) : R2 := fun x y H Q => ∃ a dx fs, y = .ref a ∧ H a = some (.ins C dx fs) ∧ sp [y, x] H (fun v H' => ∃ b, v = .bl b ∧ Q (.bl (if neg then !b else b)) H') E0
theorem op_inO (F : FnG X.prog X.w X.K X.mg X.base k f fd ps sp) (hG : X.A.guards = some []) (room : Room k X.A) (bi : Binds X.K fd ps []) (h : Has X.K C f "__contains__") : OpR X (compareOp .In) (rInO C sp false) := by
  intro pins s σ H x y v u Q I rx ry h0
  obtain ⟨a, dx, fs, rfl, ha, q⟩ := h0
  cases (show u = Value.ref a from ry)
  obtain ⟨mA, O, _⟩ := ins_get I.hok ha
  obtain ⟨od, J, _⟩ := O.look
  obtain ⟨m, hF⟩ := I.fr
  refine PySem.W.in_K hF I.ok.mod.kin J h.at_ h.fn (wpAny_mono (run_at (vs := [.ref a, x]) F rfl hG room bi I (.cons rfl (.cons rx .nil)) q) (fun r s' hr => ?_) fun _ _ z => z)
  obtain ⟨v', H', I', rv, b, rfl, q'⟩ := hr
  cases (show r = Value.bool b from rv)
  exact wpAny_truthy_bool ⟨.bl b, H', I', rfl, q'⟩
theorem op_notInO (F : FnG X.prog X.w X.K X.mg X.base k f fd ps sp) (hG : X.A.guards = some []) (room : Room k X.A) (bi : Binds X.K fd ps []) (h : Has X.K C f "__contains__") : OpR X (compareOp .NotIn) (rInO C sp true) := by
  intro pins s σ H x y v u Q I rx ry h0
  obtain ⟨a, dx, fs, rfl, ha, q⟩ := h0
  cases (show u = Value.ref a from ry)
  obtain ⟨mA, O, _⟩ := ins_get I.hok ha
  obtain ⟨od, J, _⟩ := O.look
  obtain ⟨m, hF⟩ := I.fr
  refine PySem.W.notIn_K hF I.ok.mod.kin J h.at_ h.fn (wpAny_mono (run_at (vs := [.ref a, x]) F rfl hG room bi I (.cons rfl (.cons rx .nil)) q) (fun r s' hr => ?_) fun _ _ z => z)
  obtain ⟨v', H', I', rv, b, rfl, q'⟩ := hr
  cases (show r = Value.bool b from rv)
  exact wpAny_truthy_bool ⟨.bl (!b), H', I', rfl, q'⟩
theorem pe_ixO {a b : Expr} {ta tb : TE} {pos : Pos} (F : FnG X.prog X.w X.K X.mg X.base k f fd ps sp) (hG : X.A.guards = some []) (room : Room (k + 1) X.A) (bi : Binds X.K fd ps []) (h : Has X.K C f "__getitem__") (fi : PySem.W.fnIn X.K f = true) (ha : PE X a ta) (hb : PE X b tb)
    (hs : ∀ (x : Addr) (i : Value), subscripted b true (.ref x) i = runValue (.builtin "lifetime.subscript" ⟨[.ref x, i], []⟩) := by intro x i; with_unfolding_all rfl) :
    PE X (.Subscript a b pos) (tOp (fun x y H Q => ∃ a dx fs, x = .ref a ∧ H a = some (.ins C dx fs) ∧ sp [x, y] H Q E0) ta tb) := by
  refine ⟨fun pins s σ H Q I h => ?_⟩
  refine Subscript_ (binT ha hb I h fun v u s2 x y H2 I2 rx ry q => ?_)
  obtain ⟨a, dx, fs, rfl, ha, q⟩ := q
  cases (show v = Value.ref a from rx)
  obtain ⟨mA, O, _⟩ := ins_get I2.hok ha
  obtain ⟨od, J, _⟩ := O.look
  obtain ⟨m, hF⟩ := I2.fr
  exact PySem.W.sub_K hF I2.ok.mod.kin J ‹Has X.K C f "__getitem__"›.at_ fi ‹Has X.K C f "__getitem__"›.fn (run_at (vs := [.ref a, y]) F rfl hG room.in1 bi I2 (.cons rfl (.cons ry .nil)) q) (hs a u)
end
end E10

set_option Elab.async false
set_option linter.all false
set_option maxRecDepth 100000
set_option maxHeartbeats 4000000
namespace E10
open L2 PySem PySem.Spec PyProof.Rows
/-! ### the text by places -/
abbrev top (i : Nat) : Stmt := PySem.Challenge.pw_anyofthese_k14_whole_values_and_first.main.body.getD i (.Pass ⟨0, 0, 0, 0⟩)
abbrev inC (i j : Nat) : Stmt := match top i with
  | .ClassDef (body := b) .. => b.getD j (.Pass ⟨0, 0, 0, 0⟩)
  | _ => .Pass ⟨0, 0, 0, 0⟩
abbrev s_is_name : Stmt := top 13
abbrev s_is_integer : Stmt := top 14
abbrev s_is_moment_of : Stmt := top 15
abbrev s_has_names : Stmt := top 16
abbrev s_is_times : Stmt := top 17
abbrev s_check_shift : Stmt := top 19
abbrev s_check_times : Stmt := top 20
abbrev s_check_moment : Stmt := top 21
abbrev s_in_order : Stmt := top 23
abbrev s_moved : Stmt := top 24
abbrev s_least_of : Stmt := top 25
abbrev s_term_text : Stmt := top 27
abbrev s_check_shifts : Stmt := top 30
abbrev s__law_pot : Stmt := top 35
abbrev s__law_draw : Stmt := top 36
abbrev s__law_choice : Stmt := top 37
abbrev s__law_names : Stmt := top 38
abbrev s__law_number : Stmt := top 39
abbrev s__law_value : Stmt := top 40
abbrev s__law_told_right : Stmt := top 41
abbrev s__law_moved_right : Stmt := top 42
abbrev s__law_planted_right : Stmt := top 43
abbrev s__law_right : Stmt := top 44
abbrev s_law : Stmt := top 45
abbrev m_InvalidName___init__ : Stmt := inC 3 0
abbrev m_InvalidShift___init__ : Stmt := inC 4 0
abbrev m_InvalidShifts___init__ : Stmt := inC 5 0
abbrev m_InvalidTimes___init__ : Stmt := inC 6 0
abbrev m_UnknownMoment___init__ : Stmt := inC 8 0
abbrev m_TooMany___init__ : Stmt := inC 10 0
abbrev m_Earliest___init__ : Stmt := inC 31 0
abbrev m_Earliest_of : Stmt := inC 31 1
abbrev m_Earliest_moments : Stmt := inC 31 2
abbrev m_Earliest_shifts : Stmt := inC 31 3
abbrev m_Earliest___getitem__ : Stmt := inC 31 4
abbrev m_Earliest___contains__ : Stmt := inC 31 5
abbrev m_Earliest___len__ : Stmt := inC 31 6
abbrev m_Earliest___iter__ : Stmt := inC 31 7
abbrev m_Earliest___call__ : Stmt := inC 31 8
abbrev m_Earliest_first : Stmt := inC 31 9
abbrev m_Earliest___add__ : Stmt := inC 31 10
abbrev m_Earliest___radd__ : Stmt := inC 31 11
abbrev m_Earliest___sub__ : Stmt := inC 31 12
abbrev m_Earliest___or__ : Stmt := inC 31 13
abbrev m_Earliest_is_never_later : Stmt := inC 31 14
abbrev m_Earliest_without : Stmt := inC 31 15
abbrev m_Earliest_put_in : Stmt := inC 31 16
abbrev m_Earliest___eq__ : Stmt := inC 31 17
abbrev m_Earliest___str__ : Stmt := inC 31 18
abbrev m_Earliest___repr__ : Stmt := inC 31 19
abbrev m_Term___init__ : Stmt := inC 33 0
abbrev m_Term_moment : Stmt := inC 33 1
abbrev m_Term_shift : Stmt := inC 33 2
abbrev m_Term_shifts : Stmt := inC 33 3
abbrev m_Term___call__ : Stmt := inC 33 4
abbrev m_Term___add__ : Stmt := inC 33 5
abbrev m_Term___radd__ : Stmt := inC 33 6
abbrev m_Term___sub__ : Stmt := inC 33 7
abbrev m_Term___or__ : Stmt := inC 33 8
abbrev m_Term___ror__ : Stmt := inC 33 9
abbrev m_Term___eq__ : Stmt := inC 33 10
abbrev m_Term___str__ : Stmt := inC 33 11
abbrev m_Term___repr__ : Stmt := inC 33 12
end E10

set_option Elab.async false
set_option linter.all false
set_option maxRecDepth 100000
set_option maxHeartbeats 8000000
namespace E10
open L2 PySem PySem.Spec PyProof.Rows
/-! ### the text by places; the pot that is drawn from -/
/-- the names that the law leans on -/
structure Nam (mg : Str → Option Value) : Prop where
  isi : mg "isinstance" = none
  all_ : mg "all" = none
  any_ : mg "any" = none
  len : mg "len" = none
  rng : mg "range" = none
  int_ : mg "int" = none
  mx : mg "max" = none
  mn : mg "min" = none
  ab : mg "abs" = none
  dm : mg "divmod" = none
  rep : mg "repr" = none
  str_ : mg "str" = none
  dct : mg "dict" = none
  zip_ : mg "zip" = none
  bool_ : mg "bool" = none
  tup_ : mg "tuple" = none
  srt : mg "sorted" = none
  lst_ : mg "list" = none
  sum_ : mg "sum" = none
  ml : ∃ t, mg "MOST_LETTERS" = some (.int 8 t)
  mt : ∃ t, mg "MOST_TERMS" = some (.int 8 t)
theorem new_same {H : Hp} {p : Addr} {o : HO} (np : H p = none) : Same H (upd H p o) := fun c u e => (upd_ne (ne_of_none e np)).trans e
theorem SqL.sm {K : PySem.W.Frag} {H H' : Hp} {a : Addr} {xs : List V} (s : Same H H') (h : SqL K H a xs) : SqL K H' a xs := by
  rcases h with (e | ⟨o, e⟩) | h
  · exact .inl (.inl (s _ _ e))
  · exact .inl (.inr ⟨o, s _ _ e⟩)
  · exact .inr h
def PotAt (H : Hp) (a : Addr) : Prop := ∃ x y : Int, H a = some (.lst [.int x, .int y]) ∧ 0 ≤ x ∧ 0 ≤ y ∧ y < 2147483630
/-- all but what stands at a is as it was -/
def SameB (a : Addr) (H H' : Hp) : Prop := ∀ b o, H b = some o → b ≠ a → H' b = some o
theorem SameB.of {a : Addr} {H H' : Hp} (s : Same H H') : SameB a H H' := fun b o e _ => s b o e
theorem SameB.trans {a : Addr} {H H1 H2 : Hp} (s : SameB a H H1) (t : SameB a H1 H2) : SameB a H H2 := fun b o e n => t b o (s b o e n) n
theorem SameB.new {a : Addr} {H H' : Hp} (n : H a = none) (s : SameB a H H') : Same H H' := fun b o e => s b o e (ne_of_none e n)
theorem PotAt.sm {H H' : Hp} {a : Addr} (s : Same H H') (h : PotAt H a) : PotAt H' a := by
  obtain ⟨x, y, e, r⟩ := h
  exact ⟨x, y, s _ _ e, r⟩
def spPot (K : PySem.W.Frag) : Sp := fun vs H Q _ => ∃ (a : Addr) (ns : List Int) (k : Nat), vs = [.ref a, .int k] ∧ SqL K H a (ns.map V.int) ∧ k < 3 ∧ ns.length ≤ 63 ∧ ∀ p H', H p = none → Same H H' → PotAt H' p → Q (.ref p) H'
def spDraw : Sp := fun vs H Q _ => ∃ (a : Addr) (m : Int), vs = [.ref a, .int m] ∧ PotAt H a ∧ 0 < m ∧ m < 1073741824 ∧ ∀ (d : Int) H', 0 ≤ d → d < m → PotAt H' a → SameB a H H' → Q (.int d) H'
def spChoice : Sp := fun vs H Q _ => ∃ (a : Addr) (y : V), vs = [.ref a, y] ∧ PotAt H a ∧ ((∃ l xs, y = .ref l ∧ H l = some (.lst xs) ∧ l ≠ a ∧ 0 < xs.length ∧ xs.length ≤ 1000 ∧ ∀ x ∈ xs, ∀ H', PotAt H' a → SameB a H H' → Q x H') ∨
  (∃ z : Str, y = .str z ∧ 0 < z.length ∧ z.length ≤ 1000 ∧ ∀ c ∈ z.cps.toList, ∀ H', PotAt H' a → SameB a H H' → Q (.str ⟨#[c]⟩) H'))
theorem small_mod (i : Int) : 0 ≤ i % 2147483629 ∧ i % 2147483629 < 2147483629 := ⟨Int.emod_nonneg _ (by decide), Int.emod_lt_of_pos _ (by decide)⟩
/-- a def of the text: where it stands and what it promises -/
structure Def (P : Program) (w : World) (K : PySem.W.Frag) (mg : Str → Option Value) (base : Heap) (x : Str) (ps : List Str) (k : Nat) (sp : Sp) : Prop where
  ex : ∃ (f : Addr) (fd : FuncData), FnOk P w K mg base CX0 k f fd ps sp ∧ mg x = some (.ref f) ∧ PySem.W.keepIn K (.ref f) = true ∧ Binds K fd ps []
structure DefG (P : Program) (w : World) (K : PySem.W.Frag) (mg : Str → Option Value) (base : Heap) (x : Str) (ps : List Str) (k : Nat) (sp : Sp) : Prop where
  ex : ∃ (f : Addr) (fd : FuncData), FnG P w K mg base k f fd ps sp ∧ mg x = some (.ref f) ∧ PySem.W.keepIn K (.ref f) = true ∧ Binds K fd ps []
theorem callD {X : Cx} {x : Str} {k : Nat} {ps : List Str} {sp : Sp} {e : Expr} {es : List Expr} {t : TA} {p pos : Pos} (D : Def X.prog X.w X.K X.mg X.base x ps k sp) (hr : Room k X.A) (hg : Gl X x) (ha : PA X (e :: es) t) (hdb : (x == ("__debug__" : Str)) = false := by decide)
    (he : starEach (e :: es) X.env = (false, eval e X.env) :: starEach es X.env := by rfl) (hpl : (backTo pos (starEach es X.env)).any (·.1) = false := by rfl) : PE X (.Call (.Name x p) (e :: es) [] pos) (tCall sp [] E0 t) := by
  obtain ⟨f, fd, h1, h2, h3, h4⟩ := D.ex
  exact pe_call h1 hr hg h2 h3 h4 .nil pass0 ha hdb he hpl
theorem callDG {X : Cx} {x : Str} {k : Nat} {ps : List Str} {sp : Sp} {e : Expr} {es : List Expr} {t : TA} {p pos : Pos} (D : DefG X.prog X.w X.K X.mg X.base x ps k sp) (hG : X.A.guards = some []) (hr : Room k X.A) (hg : Gl X x) (ha : PA X (e :: es) t) (hdb : (x == ("__debug__" : Str)) = false := by decide)
    (he : starEach (e :: es) X.env = (false, eval e X.env) :: starEach es X.env := by rfl) (hpl : (backTo pos (starEach es X.env)).any (·.1) = false := by rfl) : PE X (.Call (.Name x p) (e :: es) [] pos) (tCall sp [] E0 t) := by
  obtain ⟨f, fd, h1, h2, h3, h4⟩ := D.ex
  exact pe_callG h1 hG hr hg h2 h3 h4 ha hdb he hpl
theorem CallR.or {X : Cx} {f : Value} {r r' : List V → Hp → VK → Prop} (h : CallR X f r) (h' : CallR X f r') : CallR X f (fun xs H Q => r xs H Q ∨ r' xs H Q) := fun pins s σ H xs us Q I rv q => q.elim (h pins s σ H xs us Q I rv) (h' pins s σ H xs us Q I rv)
section
variable {P : Program} {w : World} {K : PySem.W.Frag} {mg : Str → Option Value} {base : Heap} {f : Addr} {fd : FuncData}
theorem scPot : FnScope ["_law_script", "_law_k", "_law_cell"] ["_law_script", "_law_k"] (defScope s__law_pot) := ⟨rfl, rfl, rfl, by decide +kernel, rfl, by decide +kernel, by decide +kernel⟩
theorem ok_pot (N : Nam mg) (F : Fun K "_law_pot" "_law_pot" s__law_pot f fd) : FnOk P w K mg base CX0 1 f fd ["_law_script", "_law_k"] (spPot K) := by
  refine F.ok scPot (fun vs H Q E h => ?_) (fun cdv A outer s H vs Q E hr h => ?_)
  · obtain ⟨a, ns, k, rfl, _⟩ := h
    rfl
  · obtain ⟨a, ns, k, rfl, hS, hk, hl, go⟩ := h
    refine ⟨_, pss_cons (ps_set (i := 2) scPot.nd rfl (Or.inl rfl) (pe_op op_add (pe_op op_mul pe_int (pv 1)) pe_int))
      (pss_cons (ps_if (pt_cmpR op_lt (pv 1) (pe_callB call_len_seq rfl N.len PySem.boot_len (pa_cons (pv 0) pa_nil)) (nomark _))
        (pss_one (ps_set (i := 2) scPot.nd rfl (Or.inl rfl) (pe_callB call_abs rfl N.ab PyProof.Rows.boot_abs (pa_cons (pe_ix ix_list (pv 0) (pv 1) (fun _ _ => rfl)) pa_nil)))) pss_nil)
      (pss_one (ps_ret (pe_lst (pa_cons (pe_callB (call_max2 rfl) rfl N.mx PyProof.Rows.boot_max (pa_cons pe_int (pa_cons (pe_op op_sub (pv 2) (pe_op op_pow pe_int pe_int)) pa_nil)))
        (pa_cons (pe_op op_add (pe_op op_mod (pe_callTy call_int1 rfl N.int_ PyProof.Rows.boot_int (pa_cons (pe_op op_add (pe_op op_add (pe_op op_mul (pe_op op_mod (pe_callTy call_int1 rfl N.int_ PyProof.Rows.boot_int (pa_cons (pv 2) pa_nil)) pe_int) pe_int) (pe_op op_mul pe_int (pv 1))) pe_int) pa_nil)) pe_int) pe_int) pa_nil)))))), ?_⟩
    refine ⟨_, rfl, 61, k, rfl, rfl, .inl ⟨by decide, by decide⟩, _, _, rfl, rfl, ?_⟩
    refine ⟨_, rfl, _, rfl, a, _, rfl, .inl hS, _, _, rfl, rfl, _, rfl, ?_⟩
    have fin : ∀ c : Int, ∃ p q : Int, True := fun c => ⟨0, 0, True.intro⟩
    refine ite2 (fun lt => ?_) (fun _ => ?_)
    · have lt' : (k : Int) < ((ns.map V.int).length : Int) := of_decide_eq_true lt
      rw [List.length_map] at lt'
      have ltn : k < ns.length := by omega
      have hat : atI (ns.map V.int) (k : Int) = some (.int ns[k]) := atI_nat (by rw [List.getElem?_map, List.getElem?_eq_getElem ltn]; rfl)
      refine ⟨_, rfl, _, rfl, a, _, k, _, rfl, rfl, hS, hat, _, rfl, ?_⟩
      refine ⟨_, rfl, 10, 18, rfl, rfl, ⟨by decide, by decide, by decide⟩, _, _, rfl, rfl, 0, _, rfl, ?_⟩
      refine ⟨_, rfl, .inl ⟨_, rfl, _, 2147483563, rfl, rfl, by show (0:Int) < 2147483563; decide, _, 39989, rfl, rfl, .inr ⟨by decide, by decide⟩, _, rfl, 15013, k, rfl, rfl, .inl ⟨by decide, by decide⟩, _, _, rfl, rfl, _, _, rfl, rfl, .inl ⟨_, rfl, _, 2147483629, rfl, rfl, by show (0:Int) < 2147483629; decide, _, _, rfl, rfl, by show 2 ≤ sizeLine; decide, fun p np => ?_⟩⟩⟩
      refine go p _ np (new_same np) ⟨_, _, upd_same, ?_, ?_, ?_⟩
      · split <;> omega
      · have := (small_mod ((if ns[k] < 0 then -ns[k] else ns[k]) % 2147483563 * 39989 + 15013 * ↑k + 47)).1
        omega
      · have := (small_mod ((if ns[k] < 0 then -ns[k] else ns[k]) % 2147483563 * 39989 + 15013 * ↑k + 47)).2
        omega
    · refine ⟨_, rfl, 10, 18, rfl, rfl, ⟨by decide, by decide, by decide⟩, _, _, rfl, rfl, 0, _, rfl, ?_⟩
      refine ⟨_, rfl, .inl ⟨_, rfl, _, 2147483563, rfl, rfl, by show (0:Int) < 2147483563; decide, _, 39989, rfl, rfl, .inr ⟨by decide, by decide⟩, _, rfl, 15013, k, rfl, rfl, .inl ⟨by decide, by decide⟩, _, _, rfl, rfl, _, _, rfl, rfl, .inl ⟨_, rfl, _, 2147483629, rfl, rfl, by show (0:Int) < 2147483629; decide, _, _, rfl, rfl, by show 2 ≤ sizeLine; decide, fun p np => ?_⟩⟩⟩
      refine go p _ np (new_same np) ⟨_, _, upd_same, ?_, ?_, ?_⟩
      · split <;> omega
      · have := (small_mod ((61 * (k : Int) + 17) % 2147483563 * 39989 + 15013 * ↑k + 47)).1
        omega
      · have := (small_mod ((61 * (k : Int) + 17) % 2147483563 * 39989 + 15013 * ↑k + 47)).2
        omega
theorem scDraw : FnScope ["_law_pot_here", "_law_many", "_law_digit"] ["_law_pot_here", "_law_many"] (defScope s__law_draw) := ⟨rfl, rfl, rfl, by decide +kernel, rfl, by decide +kernel, by decide +kernel⟩
theorem ok_draw (N : Nam mg) (F : Fun K "_law_draw" "_law_draw" s__law_draw f fd) : FnOk P w K mg base CX0 1 f fd ["_law_pot_here", "_law_many"] spDraw := by
  refine F.ok scDraw (fun vs H Q E h => ?_) (fun cdv A outer s H vs Q E hr h => ?_)
  · obtain ⟨a, m, rfl, _⟩ := h
    rfl
  · obtain ⟨a, m, rfl, ⟨x, y, ha, hx, hy, hz⟩, h0, hm, go⟩ := h
    refine ⟨_, pss_cons (ps_if (pt_cmpR op_gt (pe_ix ix_list (pv 0) pe_int (fun _ _ => rfl)) pe_int (nomark _))
        (pss_cons (ps_asg (pe_callB call_divmod rfl N.dm PyProof.Rows.boot_divmod (pa_cons (pe_ix ix_list (pv 0) pe_int (fun _ _ => rfl)) (pa_cons (pv 1) pa_nil)))
            (pg_tup (by rfl) (pgs_cons (pg_sub (pv 0) pe_int set_list) (pgs_cons (pg_name (i := 2) scDraw.nd rfl (Or.inl rfl)) pgs_nil))))
          (pss_one (ps_ret (pv 2)))) pss_nil)
      (pss_cons (ps_asg (pe_op op_mod (pe_callTy call_int1 rfl N.int_ PyProof.Rows.boot_int (pa_cons (pe_op op_add (pe_op op_mul (pe_ix ix_list (pv 0) pe_int (fun _ _ => rfl)) pe_int) pe_int) pa_nil)) pe_int) (pg_sub (pv 0) pe_int set_list))
      (pss_one (ps_ret (pe_op op_mod (pe_callTy call_int1 rfl N.int_ PyProof.Rows.boot_int (pa_cons (pe_op op_fdiv (pe_op op_mod (pe_callTy call_int1 rfl N.int_ PyProof.Rows.boot_int (pa_cons (pe_op op_mul (pe_ix ix_list (pv 0) pe_int (fun _ _ => rfl)) (pe_ix ix_list (pv 0) pe_int (fun _ _ => rfl))) pa_nil)) pe_int) pe_int) pa_nil)) (pv 1))))), ?_⟩
    refine ⟨_, rfl, a, _, 0, _, rfl, rfl, .inl (.inl ha), rfl, _, _, rfl, rfl, _, rfl, ?_⟩
    refine ite2 (fun gt => ?_) (fun _ => ?_)
    · have gt' : (0 : Int) < x := of_decide_eq_true gt
      refine ⟨_, rfl, a, _, 0, _, rfl, rfl, .inl (.inl ha), rfl, _, rfl, _, _, rfl, ⟨h0, hm⟩, fun t nt => ?_⟩
      have at1 : upd H t (.tup [.int (x / m), .int (x % m)]) a = some (.lst [.int x, .int y]) := (upd_ne (ne_of_none ha nt)).trans ha
      refine ⟨t, _, rfl, .inl (.inl upd_same), rfl, _, _, rfl, ?_⟩
      refine ⟨_, rfl, a, _, 0, 0, rfl, rfl, at1, rfl, _, _, rfl, rfl, ?_⟩
      refine ⟨_, rfl, go (x % m) _ (Int.emod_nonneg _ (by omega)) (Int.emod_lt_of_pos _ h0) ⟨x / m, y, upd_same, Int.ediv_nonneg hx (by omega), hy, hz⟩ fun c o e n => ?_⟩
      rw [upd_ne n]
      exact (upd_ne (ne_of_none e nt)).trans e
    · refine ⟨_, rfl, a, _, 1, _, rfl, rfl, .inl (.inl ha), rfl, _, 43987, rfl, rfl, .inr ⟨by decide, by decide⟩, _, _, rfl, rfl, .inl ⟨_, rfl, _, 2147483629, rfl, rfl, by show (0:Int) < 2147483629; decide, ?_⟩⟩
      have sm := small_mod (y * 43987 + 26003)
      refine ⟨_, rfl, a, _, 1, 1, rfl, rfl, ha, rfl, ?_⟩
      have at2 : upd H a (.lst ([V.int x, V.int y].set 1 (.int ((y * 43987 + 26003) % 2147483629)))) a = some (.lst [.int x, .int ((y * 43987 + 26003) % 2147483629)]) := upd_same
      refine ⟨_, rfl, a, _, 1, _, rfl, rfl, .inl (.inl at2), rfl, _, rfl, a, _, 1, _, rfl, rfl, .inl (.inl at2), rfl, _, _, rfl, rfl, .inl ⟨by omega, by omega⟩, .inl ⟨_, rfl, _, 2147483587, rfl, rfl, by show (0:Int) < 2147483587; decide, _, 19, rfl, rfl, ⟨by decide, by decide⟩, .inl ⟨_, rfl, _, rfl, _, _, rfl, rfl, h0, ?_⟩⟩⟩
      exact go _ _ (Int.emod_nonneg _ (by omega)) (Int.emod_lt_of_pos _ h0) ⟨x, ((y * 43987 + 26003) % 2147483629), at2, hx, by omega, by omega⟩ fun c o e n => (upd_ne n).trans e
theorem scChoice : FnScope ["_law_pot_here", "_law_some"] ["_law_pot_here", "_law_some"] (defScope s__law_choice) := ⟨rfl, rfl, rfl, by decide +kernel, rfl, by decide +kernel, by decide +kernel⟩
theorem ok_choice (N : Nam mg) (DD : Def P w K mg base "_law_draw" ["_law_pot_here", "_law_many"] 1 spDraw) (F : Fun K "_law_choice" "_law_choice" s__law_choice f fd) : FnOk P w K mg base CX0 2 f fd ["_law_pot_here", "_law_some"] spChoice := by
  refine F.ok scChoice (fun vs H Q E h => ?_) (fun cdv A outer s H vs Q E hr h => ?_)
  · obtain ⟨a, y, rfl, _⟩ := h
    rfl
  · obtain ⟨a, y, rfl, hp, h⟩ := h
    refine ⟨_, pss_one (ps_ret (pe_ix (ix_list.or ix_str) (pv 1) (callD DD hr rfl (pa_cons (pv 0) (pa_cons (pe_callB (CallR.or call_len_seq call_len_str) rfl N.len PySem.boot_len (pa_cons (pv 1) pa_nil)) pa_nil))) (fun _ _ => rfl))), ?_⟩
    rcases h with ⟨l, xs, rfl, hl, ne, pos, small, go⟩ | ⟨z, rfl, pos, small, go⟩
    · refine ⟨_, rfl, _, rfl, _, rfl, .inl ⟨l, _, rfl, .inl (.inl (.inl hl)), a, _, rfl, hp, by omega, by omega, fun d H' d0 dm pa sb => ?_⟩⟩
      have hl' := sb _ _ hl ne
      obtain ⟨n, rfl⟩ := Int.eq_ofNat_of_zero_le d0
      have lt : n < xs.length := by omega
      exact .inl ⟨l, xs, _, xs[n], rfl, rfl, .inl (.inl hl'), atI_nat (List.getElem?_eq_getElem lt), go _ (List.getElem_mem lt) _ pa sb⟩
    · refine ⟨_, rfl, _, rfl, _, rfl, .inr ⟨_, rfl, ?_, a, _, rfl, hp, by omega, by omega, fun d H' d0 dm pa sb => ?_⟩⟩
      · exact Nat.le_trans small (by decide)
      · obtain ⟨n, rfl⟩ := Int.eq_ofNat_of_zero_le d0
        have lt : n < z.cps.toList.length := by
          rw [Array.length_toList]
          have : z.length = z.cps.size := rfl
          omega
        exact .inr ⟨z, _, z.cps.toList[n], rfl, rfl, Nat.le_trans small (by decide), atI_nat (List.getElem?_eq_getElem lt), go _ (List.getElem_mem lt) _ pa sb⟩
end
end E10

set_option Elab.async false
set_option linter.all false
set_option maxRecDepth 100000
set_option maxHeartbeats 8000000
namespace E10
open L2 PySem PySem.Spec PyProof.Rows
/-- [.. for .. in ..] whose items are told ahead, nothing tracked changed -/
theorem lc_map {J : It} {n : Nat} {G : Hp → Prop} {Y : Nat → Hp → V → Hp → Prop} (w : Walk J n G Y) (fz : Nat → V) {g : TG} {te : TE} {vs : List Nat} {σ : L2.St} {H1 : Hp} {D : Addr} {Qd : Hp → Prop} (nD : H1 D = none) (small : n ≤ 1000)
    (hG : ∀ H', Same H1 H' → G H') (hY : ∀ i H x H', Y i H x H' → Same H H')
    (turn : ∀ i x H' H'' (R : V → Hp → Prop), i < n → Same H1 H' → Same H1 H'' → Y i H' x H'' → (∀ H3, Same H'' H3 → R (fz i) H3) → g x (wipe σ vs) H'' fun σ2 H2 => wipe σ2 vs = wipe σ vs ∧ te σ2 H2 R)
    (done : ∀ H3, Same H1 H3 → H3 D = some (.lst ((List.range n).map fz)) → Qd H3) :
    ∃ W : Nat → Nat → Hp → Prop, (∃ m, W 0 m (upd H1 D (.lst []))) ∧ ∀ i m H, W i m H →
      (J.stop i H ∧ Qd H) ∨ (J.go i H ∧ ∃ Nx : Hp → Prop, (∀ H', Nx H' → ∃ m', m' < m ∧ W (i + 1) m' H') ∧ ∀ x H', J.yld i H x H' → g x (wipe σ vs) H' fun σ2 H2 => wipe σ2 vs = wipe σ vs ∧ tYes σ2 H2 fun b H3 =>
        if b = true then te σ2 H3 fun y H4 => ∃ acc, H4 D = some (.lst acc) ∧ acc.length < sizeLine ∧ Nx (upd H4 D (.lst (acc ++ [y]))) else Nx H3) := by
  refine lc_it w (fun i H' => Same H1 H' ∧ H' D = some (.lst ((List.range i).map fz))) ⟨new_same nD, upd_same⟩ (fun i H _ h => hG H h.1) ?_ (fun H' h => done H' h.1 h.2)
  rintro i x H' H'' lt ⟨sm, hD⟩ y
  have s2 := hY i H' x H'' y
  exact turn i x H' H'' (fun y H4 => ∃ acc, H4 D = some (.lst acc) ∧ acc.length < sizeLine ∧ (Same H1 (upd H4 D (.lst (acc ++ [y]))) ∧ upd H4 D (.lst (acc ++ [y])) D = some (.lst ((List.range (i + 1)).map fz)))) lt sm (sm.trans s2) y fun H3 s3 => by
    refine ⟨_, s3 _ _ (s2 _ _ hD), by rw [List.length_map, List.length_range]; exact Nat.lt_of_lt_of_le (Nat.lt_of_lt_of_le lt small) (by decide), fun c u e => ?_, ?_⟩
    · rw [upd_ne (ne_of_none e nD)]
      exact s3 _ _ (s2 _ _ (sm c u e))
    · rw [upd_same, List.range_succ, List.map_append]
      rfl
theorem all_range (n : Nat) : ((List.range n).map fun _ => V.bl true) = (List.replicate n true).map V.bl := by
  induction n with
  | zero => rfl
  | succ n ih => rw [List.range_succ, List.map_append, ih, List.replicate_succ', List.map_append]; rfl
theorem all_true (n : Nat) : (List.replicate n true).all id = true := by
  rw [List.all_eq_true]
  intro x h
  rw [(List.mem_replicate.mp h).2]
  rfl
theorem any_false (n : Nat) : (List.replicate n false).any id = false := by
  rw [List.any_eq_false]
  intro x h
  rw [(List.mem_replicate.mp h).2]
  exact Bool.false_ne_true
theorem none_range (n : Nat) : ((List.range n).map fun _ => V.bl false) = (List.replicate n false).map V.bl := by
  induction n with
  | zero => rfl
  | succ n ih => rw [List.range_succ, List.map_append, ih, List.replicate_succ', List.map_append]; rfl
theorem boot_all' : bootBuiltins "all" = some (.builtin "all") := by decide +kernel
theorem boot_any' : bootBuiltins "any" = some (.builtin "any") := by decide +kernel
theorem boot_isi : bootBuiltins "isinstance" = some (.builtin "isinstance") := by decide +kernel
theorem boot_str' : bootBuiltins "str" = some (.type "str") := by decide +kernel
theorem boot_int' : bootBuiltins "int" = some (.type "int") := by decide +kernel
theorem boot_bool' : bootBuiltins "bool" = some (.type "bool") := by decide +kernel
theorem boot_dict' : bootBuiltins "dict" = some (.type "dict") := by decide +kernel
theorem pbT {X : Cx} {x : Str} {n : String} {pos : Pos} (hg : Gl X x) (hm : X.mg x = none) (hv : bootBuiltins x = some (.type n)) (hn : x ≠ "__name__" := by decide) (hd : (x == ("__debug__" : Str)) = false := by decide) : PE X (.Name x pos) (tC (.ty n)) :=
  pe_bltn hg hm hv rfl hn hd
theorem pgI {X : Cx} {x : Str} {i : Int} {pos : Pos} (hg : Gl X x) (hm : ∃ t, X.mg x = some (.int i t)) (hd : (x == ("__debug__" : Str)) = false := by decide) : PE X (.Name x pos) (tC (.int i)) := by
  obtain ⟨t, h⟩ := hm
  exact pe_glob hg h ⟨t, rfl⟩ hd
theorem pgC {X : Cx} {x : Str} {a : Addr} {pos : Pos} (hg : Gl X x) (hm : X.mg x = some (.ref a)) (hd : (x == ("__debug__" : Str)) = false := by decide) : PE X (.Name x pos) (tC (.ref a)) := pe_glob hg hm rfl hd
/-- a name -/
structure Nm (z : Str) : Prop where
  pos : 0 < z.length
  le : z.length ≤ 8
  abc : ∀ c ∈ z.cps.toList, 97 ≤ c ∧ c ≤ 122
theorem lt_one {a b : Nat} (h : b ≤ a) : decide ([a] < [b]) = false := by
  refine decide_eq_false fun q => ?_
  rcases List.cons_lt_cons_iff.mp q with q | ⟨_, q⟩
  · omega
  · exact absurd q (by simp)
section
variable {P : Program} {w : World} {K : PySem.W.Frag} {mg : Str → Option Value} {base : Heap} {f : Addr} {fd : FuncData}
def spName : Sp := fun vs H Q _ => ∃ z : Str, vs = [.str z] ∧ Nm z ∧ ∀ H', Same H H' → Q (.bl true) H'
theorem scName : FnScope ["value", "letter"] ["value"] (defScope s_is_name) := ⟨rfl, rfl, rfl, by decide +kernel, rfl, by decide +kernel, by decide +kernel⟩
theorem ok_name (N : Nam mg) (F : Fun K "is_name" "is_name" s_is_name f fd) : FnOk P w K mg base CX0 1 f fd ["value"] spName := by
  refine F.ok scName (fun vs H Q E h => ?_) (fun cdv A outer s H vs Q E hr h => ?_)
  · obtain ⟨z, rfl, _⟩ := h
    rfl
  · obtain ⟨z, rfl, nm, go⟩ := h
    refine ⟨_, pss_cons (ps_if (PW.pt (pw_or (pt_not (pt_val (pe_callB call_isi rfl N.isi boot_isi (pa_cons (pv 0) (pa_cons (pbT rfl N.str_ boot_str') pa_nil)))))
          (pw_or1 (pt_not (pt_chain op_le op_le pe_int (pe_callB call_len_str rfl N.len PySem.boot_len (pa_cons (pv 0) pa_nil)) (pgI rfl N.ml)))))) (pss_one (ps_ret pe_bl)) pss_nil)
      (pss_one (ps_ret (pe_callB (cr_all rfl) rfl N.all_ boot_all' (pa_cons (pe_lc (own := [("letter", 1)]) (g := gName 1) (tt := tYes) rfl scName.nd (pi_str (pv 0))
        (blkOk_by (own := [("letter", 1)]) (N := ["value", "letter"]) (sc := defScope s_is_name) (by decide +kernel)) (fun _ _ _ _ _ => pg_name (i := 1) scName.nd rfl (Or.inl rfl)) (fun _ _ _ _ _ => pts_nil)
        (fun _ _ _ _ _ => pe_chain op_le_str op_le_str pe_str (pv 1) pe_str)) pa_nil)))), ?_⟩
    refine ⟨_, rfl, _, _, _, _, _, rfl, .ty _, .base (.str _), kit_ty (b := "str") (r := true) (by decide +kernel), true, rfl, ?_⟩
    refine ⟨_, rfl, _, rfl, Nat.le_trans nm.le (by decide), _, _, rfl, rfl, _, rfl, ?_⟩
    rw [decide_eq_true (show (1 : Int) ≤ (z.length : Int) by have := nm.pos; omega)]
    refine ⟨_, _, rfl, rfl, _, rfl, ?_⟩
    rw [decide_eq_true (show (z.length : Int) ≤ 8 by have := nm.le; omega)]
    refine ⟨_, rfl, _, rfl, fun D nD => ?_⟩
    refine lc_map walk_str (fun _ => .bl true) nD (Nat.le_trans nm.le (by decide)) (fun _ _ => True.intro) (fun _ _ _ _ y => by rw [y.1]; exact Same.refl _) ?_ ?_
    · rintro i x H' H'' R lt sm _ ⟨rfl, c, hc, rfl⟩ go2
      refine ⟨rfl, ?_⟩
      have hm : c ∈ z.cps.toList := by
        rw [← Array.getElem?_toList] at hc
        exact List.mem_of_getElem? hc
      obtain ⟨c1, c2⟩ := nm.abc c hm
      refine ⟨_, rfl, _, _, rfl, rfl, _, rfl, ?_⟩
      rw [show (!decide ((⟨#[c]⟩ : Str).cps.toList < ("a" : Str).cps.toList)) = true by
        rw [show decide ((⟨#[c]⟩ : Str).cps.toList < ("a" : Str).cps.toList) = false from lt_one c1]; rfl]
      refine ⟨_, _, rfl, rfl, ?_⟩
      rw [show (!decide (("z" : Str).cps.toList < (⟨#[c]⟩ : Str).cps.toList)) = true by
        rw [show decide (("z" : Str).cps.toList < (⟨#[c]⟩ : Str).cps.toList) = false from lt_one c2]; rfl]
      exact go2 _ (Same.refl _)
    · intro H3 s3 hD
      refine ⟨D, List.replicate z.cps.size true, rfl, ?_, ?_⟩
      · rw [← all_range]
        exact .inl (.inl hD)
      · rw [all_true]
        exact go H3 s3
end
end E10

set_option Elab.async false
set_option linter.all false
set_option maxRecDepth 100000
set_option maxHeartbeats 8000000
namespace E10
open L2 PySem PySem.Spec PyProof.Rows
theorem locked {H H' : Hp} {d : Addr} {od : Obj} {u : HO} (h : H d = some u) (s : Same (upd H d (.frz od u)) H') : Same H (upd H' d u) := fun b o e => by
  by_cases q : b = d
  · rw [q] at e ⊢
    rw [upd_same]
    exact h.symm.trans e
  · rw [upd_ne q]
    exact s b o ((upd_ne q).trans e)
/-- at d stands a dict from names to ints -/
def NamesAt (H : Hp) (d : Addr) (kvs : List (Key × V)) : Prop := H d = some (.dK kvs) ∧ 0 < kvs.length ∧ kvs.length ≤ 40 ∧ ∀ p ∈ kvs, ∃ (z : Str) (i : Int), p = (.inr z, .int i) ∧ Nm z
section
variable {P : Program} {w : World} {K : PySem.W.Frag} {mg : Str → Option Value} {base : Heap} {f : Addr} {fd : FuncData}
def spInteger : Sp := fun vs H Q _ => ∃ i : Int, vs = [.int i] ∧ Q (.bl true) H
theorem scInteger : FnScope ["value"] ["value"] (defScope s_is_integer) := ⟨rfl, rfl, rfl, by decide +kernel, rfl, by decide +kernel, by decide +kernel⟩
theorem ok_integer (N : Nam mg) (F : Fun K "is_integer" "is_integer" s_is_integer f fd) : FnOk P w K mg base CX0 1 f fd ["value"] spInteger := by
  refine F.ok scInteger (fun vs H Q E h => ?_) (fun cdv A outer s H vs Q E hr h => ?_)
  · obtain ⟨z, rfl, _⟩ := h
    rfl
  · obtain ⟨i, rfl, go⟩ := h
    refine ⟨_, pss_one (ps_ret (pe_and (pe_callB call_isi rfl N.isi boot_isi (pa_cons (pv 0) (pa_cons (pbT rfl N.int_ boot_int') pa_nil)))
      (pe_one (pe_not (pe_callB call_isi rfl N.isi boot_isi (pa_cons (pv 0) (pa_cons (pbT rfl N.bool_ boot_bool') pa_nil))))))), ?_⟩
    refine ⟨_, rfl, _, _, _, _, _, rfl, .ty _, .base (.int _), kit_ty (b := "int") (r := true) (by decide +kernel), true, rfl, ?_⟩
    refine ⟨_, rfl, _, _, _, _, _, rfl, .ty _, .base (.int _), kit_ty (b := "bool") (r := false) (by decide +kernel), false, rfl, go⟩
def spHas : Sp := fun vs H Q _ => ∃ (d : Addr) (kvs : List (Key × V)), vs = [.ref d] ∧ NamesAt H d kvs ∧ ∀ H', Same H H' → Q (.bl true) H'
theorem scHas : FnScope ["value", "key"] ["value"] (defScope s_has_names) := ⟨rfl, rfl, rfl, by decide +kernel, rfl, by decide +kernel, by decide +kernel⟩
theorem ok_has (N : Nam mg) (DN : Def P w K mg base "is_name" ["value"] 1 spName) (F : Fun K "has_names" "has_names" s_has_names f fd) : FnOk P w K mg base CX0 2 f fd ["value"] spHas := by
  refine F.ok scHas (fun vs H Q E h => ?_) (fun cdv A outer s H vs Q E hr h => ?_)
  · obtain ⟨d, kvs, rfl, _⟩ := h
    rfl
  · obtain ⟨d, kvs, rfl, ⟨hd, pos, le, all⟩, go⟩ := h
    refine ⟨_, pss_one (ps_ret (pe_and (pe_callB call_isi rfl N.isi boot_isi (pa_cons (pv 0) (pa_cons (pbT rfl N.dct boot_dict') pa_nil)))
      (pe_and (pe_cmpR op_gt (pe_callB call_lenD rfl N.len PySem.boot_len (pa_cons (pv 0) pa_nil)) pe_int (nomark _))
      (pe_one (pe_lock (pe_callB (cr_all rfl) rfl N.all_ boot_all' (pa_cons (pe_lc (own := [("key", 1)]) (g := gName 1) (tt := tYes) rfl scHas.nd (pi_keys (pv 0))
        (blkOk_by (own := [("key", 1)]) (N := ["value", "key"]) (sc := defScope s_has_names) (by decide +kernel)) (fun _ _ _ _ _ => pg_name (i := 1) scHas.nd rfl (Or.inl rfl)) (fun _ _ _ _ _ => pts_nil)
        (fun _ _ _ _ _ => callD DN hr rfl (pa_cons (pv 1) pa_nil))) pa_nil))))))), ?_⟩
    refine ⟨_, rfl, _, _, _, _, _, rfl, .ty _, .base (.dK hd), kit_ty (b := "dict") (r := true) (by decide +kernel), true, rfl, ?_⟩
    refine ⟨_, rfl, d, kvs, rfl, hd, _, _, rfl, rfl, _, rfl, ?_⟩
    rw [decide_eq_true (show ((kvs.length : Nat) : Int) > 0 by omega)]
    refine ⟨d, _, hd, True.intro, fun od => ?_⟩
    have hF : upd H d (.frz od (.dK kvs)) d = some (.frz od (.dK kvs)) := upd_same
    refine ⟨_, rfl, d, od, rfl, .inl ⟨kvs, hF, fun D nD => ?_⟩⟩
    refine lc_map walk_keys (fun _ => .bl true) nD (by omega) (fun H' s => s _ _ hF) (fun _ _ _ _ y => by rw [y.1]; exact Same.refl _) ?_ ?_
    · rintro i x H' H'' R lt sm _ ⟨rfl, k, v, hk, rfl⟩ go2
      refine ⟨rfl, ?_⟩
      obtain ⟨z, n, e, nm⟩ := all _ (List.mem_of_getElem? hk)
      cases e
      exact ⟨_, rfl, z, rfl, nm, fun H3 s3 => go2 H3 s3⟩
    · intro H3 s3 hD
      refine ⟨D, List.replicate kvs.length true, rfl, ?_, s3 _ _ hF, ?_⟩
      · rw [← all_range]
        exact .inl (.inl hD)
      · rw [all_true]
        exact go _ (locked hd s3)
theorem scTimes : FnScope ["value", "time"] ["value"] (defScope s_is_times) := ⟨rfl, rfl, rfl, by decide +kernel, rfl, by decide +kernel, by decide +kernel⟩
theorem ok_times (N : Nam mg) (DI : Def P w K mg base "is_integer" ["value"] 1 spInteger) (DH : Def P w K mg base "has_names" ["value"] 2 spHas) (F : Fun K "is_times" "is_times" s_is_times f fd) : FnOk P w K mg base CX0 3 f fd ["value"] spHas := by
  refine F.ok scTimes (fun vs H Q E h => ?_) (fun cdv A outer s H vs Q E hr h => ?_)
  · obtain ⟨d, kvs, rfl, _⟩ := h
    rfl
  · obtain ⟨d, kvs, rfl, ⟨hd, pos, le, all⟩, go⟩ := h
    refine ⟨_, pss_one (ps_ret (pe_and (callD DH hr rfl (pa_cons (pv 0) pa_nil))
      (pe_one (pe_lock (pe_callB (cr_all rfl) rfl N.all_ boot_all' (pa_cons (pe_lc (own := [("time", 1)]) (g := gName 1) (tt := tYes) rfl scTimes.nd (pi_values (pv 0))
        (blkOk_by (own := [("time", 1)]) (N := ["value", "time"]) (sc := defScope s_is_times) (by decide +kernel)) (fun _ _ _ _ _ => pg_name (i := 1) scTimes.nd rfl (Or.inl rfl)) (fun _ _ _ _ _ => pts_nil)
        (fun _ _ _ _ _ => callD DI (hr.mono (by decide)) rfl (pa_cons (pv 1) pa_nil))) pa_nil)))))), ?_⟩
    refine ⟨_, rfl, d, kvs, rfl, ⟨hd, pos, le, all⟩, fun H1 s1 => ⟨true, rfl, ?_⟩⟩
    have hd1 := s1 _ _ hd
    refine ⟨d, _, hd1, True.intro, fun od => ?_⟩
    have hF : upd H1 d (.frz od (.dK kvs)) d = some (.frz od (.dK kvs)) := upd_same
    refine ⟨_, rfl, d, od, kvs, rfl, hF, fun D nD => ?_⟩
    refine lc_map walk_values (fun _ => .bl true) nD (by omega) (fun H' s => s _ _ hF) (fun _ _ _ _ y => by rw [y.1]; exact Same.refl _) ?_ ?_
    · rintro i x H' H'' R lt sm _ ⟨rfl, k, hk⟩ go2
      refine ⟨rfl, ?_⟩
      obtain ⟨z, n, e, nm⟩ := all _ (List.mem_of_getElem? hk)
      cases e
      exact ⟨_, rfl, n, rfl, go2 _ (Same.refl _)⟩
    · intro H3 s3 hD
      refine ⟨D, List.replicate kvs.length true, rfl, ?_, s3 _ _ hF, ?_⟩
      · rw [← all_range]
        exact .inl (.inl hD)
      · rw [all_true]
        exact go _ (s1.trans (locked hd1 s3))
def spShift : Sp := fun vs H Q _ => ∃ i : Int, vs = [.int i] ∧ Q .non H
theorem scShift : FnScope ["value"] ["value"] (defScope s_check_shift) := ⟨rfl, rfl, rfl, by decide +kernel, rfl, by decide +kernel, by decide +kernel⟩
theorem ok_shift (DI : Def P w K mg base "is_integer" ["value"] 1 spInteger) (F : Fun K "check_shift" "check_shift" s_check_shift f fd) : FnOk P w K mg base CX0 2 f fd ["value"] spShift := by
  refine F.ok scShift (fun vs H Q E h => ?_) (fun cdv A outer s H vs Q E hr h => ?_)
  · obtain ⟨z, rfl, _⟩ := h
    rfl
  · obtain ⟨i, rfl, go⟩ := h
    refine ⟨_, pss_one (ps_if (pt_not (pt_val (callD DI hr rfl (pa_cons (pv 0) pa_nil)))) (pss_one ps_never) pss_nil), ?_⟩
    exact ⟨_, rfl, i, rfl, true, rfl, go⟩
/-- the value, a dict from names to ints, has all of the moments -/
def spCheck (K : PySem.W.Frag) : Sp := fun vs H Q _ => ∃ (d t : Addr) (kvs : List (Key × V)) (zs : List Str), vs = [.ref d, .ref t] ∧ NamesAt H d kvs ∧ SqT K H t (zs.map V.str) ∧ zs.length ≤ 40 ∧ (∀ z ∈ zs, (valV kvs (.inr z)).isSome = true) ∧ ∀ H', Same H H' → Q .non H'
theorem SqT.sm {H H' : Hp} {a : Addr} {xs : List V} (s : Same H H') (h : SqT K H a xs) : SqT K H' a xs := by
  rcases h with (e | ⟨o, e⟩) | h
  · exact .inl (.inl (s _ _ e))
  · exact .inl (.inr ⟨o, s _ _ e⟩)
  · exact .inr h
theorem scCheck : FnScope ["value", "moments", "moment"] ["value", "moments"] (defScope s_check_times) := ⟨rfl, rfl, rfl, by decide +kernel, rfl, by decide +kernel, by decide +kernel⟩
theorem ok_check (N : Nam mg) (DT : Def P w K mg base "is_times" ["value"] 3 spHas) (F : Fun K "check_times" "check_times" s_check_times f fd) : FnOk P w K mg base CX0 4 f fd ["value", "moments"] (spCheck K) := by
  refine F.ok scCheck (fun vs H Q E h => ?_) (fun cdv A outer s H vs Q E hr h => ?_)
  · obtain ⟨_, _, _, _, rfl, _⟩ := h
    rfl
  · obtain ⟨d, t, kvs, zs, rfl, na, ht, small, has, go⟩ := h
    have hu := hu_of hr
    refine ⟨_, pss_one (ps_if (PW.pt (pw_or (pt_not (pt_val (callD DT hr rfl (pa_cons (pv 0) pa_nil)))) (pw_or1 (pt_not (pt_val (pe_callB (cr_all rfl) rfl N.all_ boot_all' (pa_cons (pe_lc (own := [("moment", 2)]) (g := gName 2) (tt := tYes) rfl scCheck.nd (pi_tup (pv 1))
        (blkOk_by (own := [("moment", 2)]) (N := ["value", "moments", "moment"]) (sc := defScope s_check_times) (by decide +kernel)) (fun _ _ _ _ _ => pg_name (i := 2) scCheck.nd rfl (Or.inl rfl)) (fun _ _ _ _ _ => pts_nil)
        (fun _ _ _ _ _ => pe_cmp (pc_din hu (pv 2) (pv 0)) rfl)) pa_nil))))))) (pss_one ps_never) pss_nil), ?_⟩
    refine ⟨_, rfl, d, kvs, rfl, na, fun H1 s1 => ⟨true, rfl, ?_⟩⟩
    have hd1 := s1 _ _ na.1
    have ht1 := SqT.sm s1 ht
    refine ⟨_, rfl, t, rfl, ⟨_, ht1⟩, fun D nD => ?_⟩
    refine lc_map (walk_tup (xs := zs.map V.str)) (fun _ => .bl true) nD (by rw [List.length_map]; omega) (fun H' s => SqT.sm s ht1) (fun _ _ _ _ y => by rw [y.1]; exact Same.refl _) ?_ ?_
    · rintro i x H' H'' R lt sm _ ⟨rfl, hx⟩ go2
      refine ⟨rfl, ?_⟩
      obtain ⟨z, hz, rfl⟩ := List.mem_map.mp (List.mem_of_getElem? hx)
      refine ⟨_, rfl, _, rfl, d, _, rfl, DGet.k (k := Sum.inr z) (sm _ _ hd1), ?_⟩
      rw [has z hz]
      exact go2 _ (Same.refl _)
    · intro H3 s3 hD
      refine ⟨D, List.replicate (zs.map V.str).length true, rfl, ?_, ?_⟩
      · rw [← all_range]
        exact .inl (.inl hD)
      · rw [all_true]
        exact ⟨true, rfl, go _ (s1.trans s3)⟩
end
end E10

set_option Elab.async false
set_option linter.all false
set_option maxRecDepth 100000
set_option maxHeartbeats 4000000
namespace E10
open L2 PySem PySem.Spec PyProof.Rows
/-! ### tables of names and ints, mathematically -/
abbrev Tb := List (Str × Int)
def kv (m : Tb) : List (Key × V) := m.map fun p => (Sum.inr p.1, V.int p.2)
def keys (m : Tb) : List Str := m.map (·.1)
def gv (m : Tb) (z : Str) : Option Int := (m.find? fun p => decide (p.1 = z)).map (·.2)
theorem kv_len (m : Tb) : (kv m).length = m.length := List.length_map ..
theorem keys_len (m : Tb) : (keys m).length = m.length := List.length_map ..
theorem kv_keys (m : Tb) : (kv m).map (·.1) = (keys m).map Sum.inr := by
  unfold kv keys
  rw [List.map_map, List.map_map]
  rfl
theorem valV_kv (m : Tb) (z : Str) : valV (kv m) (.inr z) = (gv m z).map V.int := by
  induction m with
  | nil => rfl
  | cons p r ih =>
    unfold gv kv at *
    by_cases e : p.1 = z
    · subst e
      simp [valV]
    · have e2 : ¬ (Sum.inr p.1 : Key) = Sum.inr z := fun q => e (Sum.inr.inj q)
      simp only [valV, List.map_cons, List.find?_cons] at ih ⊢
      rw [decide_eq_false e, decide_eq_false e2]
      exact ih
theorem gv_mem {m : Tb} {z : Str} {i : Int} (h : gv m z = some i) : (z, i) ∈ m := by
  unfold gv at h
  cases q : m.find? fun p => decide (p.1 = z) with
  | none => rw [q] at h; cases h
  | some p =>
    rw [q] at h
    have e1 : p.2 = i := Option.some.inj h
    have e2 : p.1 = z := of_decide_eq_true (List.find?_some (p := fun p : Str × Int => decide (p.1 = z)) q)
    rw [← e1, ← e2]
    exact List.mem_of_find?_eq_some q
theorem gv_some {m : Tb} {z : Str} (h : z ∈ keys m) : ∃ i, gv m z = some i := by
  obtain ⟨p, hp, rfl⟩ := List.mem_map.mp h
  unfold gv
  cases q : m.find? fun r => decide (r.1 = p.1) with
  | none => exact absurd (List.find?_eq_none.mp q p hp) (by simp)
  | some r => exact ⟨r.2, rfl⟩
theorem gv_of {m : Tb} (nd : (keys m).Nodup) {z : Str} {i : Int} (h : (z, i) ∈ m) : gv m z = some i := by
  induction m with
  | nil => cases h
  | cons p r ih =>
    unfold keys at nd
    rw [List.map_cons, List.nodup_cons] at nd
    unfold gv
    rw [List.find?_cons]
    rcases List.mem_cons.mp h with rfl | h
    · simp
    · have ne : ¬ p.1 = z := fun q => nd.1 (q ▸ List.mem_map.mpr ⟨_, h, rfl⟩)
      rw [decide_eq_false ne]
      exact ih nd.2 h
theorem gv_none {m : Tb} {z : Str} (h : z ∉ keys m) : gv m z = none := by
  cases q : gv m z with
  | none => rfl
  | some i => exact absurd (List.mem_map.mpr ⟨_, gv_mem q, rfl⟩) h
/-- the value, 0 if there is none -/
def g0 (m : Tb) (z : Str) : Int := (gv m z).getD 0
theorem gv_g0 {m : Tb} {z : Str} (h : z ∈ keys m) : gv m z = some (g0 m z) := by
  obtain ⟨i, e⟩ := gv_some h
  unfold g0
  rw [e]
  rfl
/-- d[z] = i -/
def put (m : Tb) (z : Str) (i : Int) : Tb := if (m.any fun p => decide (p.1 = z)) = true then m.map (fun p => if p.1 = z then (p.1, i) else p) else m ++ [(z, i)]
theorem putK_kv (m : Tb) (z : Str) (i : Int) : putK (kv m) (.inr z) (.int i) = kv (put m z i) := by
  have ea : ((kv m).any fun p => decide (p.1 = Sum.inr z)) = m.any fun p => decide (p.1 = z) := by
    unfold kv
    rw [List.any_map]
    congr 1
    funext p
    simp [Function.comp]
  unfold putK put
  rw [ea]
  split
  · unfold kv
    rw [List.map_map, List.map_map]
    refine List.map_congr_left fun p _ => ?_
    by_cases e : p.1 = z
    · simp [Function.comp, e]
    · simp [Function.comp, e]
  · unfold kv
    rw [List.map_append]
    rfl
theorem any_keys {m : Tb} {z : Str} : (m.any fun p => decide (p.1 = z)) = true ↔ z ∈ keys m := by
  unfold keys
  rw [List.any_eq_true, List.mem_map]
  constructor
  · rintro ⟨p, hp, e⟩
    exact ⟨p, hp, of_decide_eq_true e⟩
  · rintro ⟨p, hp, e⟩
    exact ⟨p, hp, decide_eq_true e⟩
theorem keys_put {m : Tb} {z : Str} {i : Int} : keys (put m z i) = if z ∈ keys m then keys m else keys m ++ [z] := by
  unfold put
  by_cases h : z ∈ keys m
  · rw [if_pos (any_keys.mpr h), if_pos h]
    unfold keys
    rw [List.map_map]
    refine List.map_congr_left fun p _ => ?_
    by_cases e : p.1 = z
    · simp [Function.comp, e]
    · simp [Function.comp, e]
  · rw [if_neg (fun q => h (any_keys.mp q)), if_neg h]
    unfold keys
    rw [List.map_append]
    rfl
theorem put_new {m : Tb} {z : Str} {i : Int} (h : z ∉ keys m) : put m z i = m ++ [(z, i)] := if_neg fun q => h (any_keys.mp q)
theorem gv_put {m : Tb} {z y : Str} {i : Int} : gv (put m z i) y = if y = z then some i else gv m y := by
  have e := valV_put (kv m) (Sum.inr z) (Sum.inr y) (.int i)
  rw [putK_kv, valV_kv, valV_kv] at e
  have e2 : ((Sum.inr y : Key) = Sum.inr z) = (y = z) := by simp
  by_cases q : y = z
  · rw [if_pos (by rw [q])] at e
    rw [if_pos q]
    cases h : gv (put m z i) y with
    | none => rw [h] at e; cases e
    | some j => rw [h] at e; cases e; rfl
  · rw [if_neg (fun t => q (Sum.inr.inj t))] at e
    rw [if_neg q]
    cases h : gv (put m z i) y with
    | none =>
      rw [h] at e
      cases h2 : gv m y with
      | none => rfl
      | some j => rw [h2] at e; cases e
    | some j =>
      rw [h] at e
      cases h2 : gv m y with
      | none => rw [h2] at e; cases e
      | some k => rw [h2] at e; cases e; rfl
theorem g0_put {m : Tb} {z y : Str} {i : Int} : g0 (put m z i) y = if y = z then i else g0 m y := by
  unfold g0
  rw [gv_put]
  split <;> rfl
theorem nodup_snoc {l : List Str} {z : Str} (nd : l.Nodup) (h : z ∉ l) : (l ++ [z]).Nodup := by
  rw [List.nodup_append]
  refine ⟨nd, by simp, fun a ha b hb e => h ?_⟩
  rw [List.mem_singleton] at hb
  exact hb ▸ e ▸ ha
theorem nodup_put {m : Tb} {z : Str} {i : Int} (nd : (keys m).Nodup) : (keys (put m z i)).Nodup := by
  rw [keys_put]
  split
  · exact nd
  · exact nodup_snoc nd ‹_›
/-- dict(rows) -/
def ofRows (acc rows : Tb) : Tb := rows.foldl (fun m p => put m p.1 p.2) acc
theorem mergeK_kv : ∀ (rows acc : Tb), mergeK (kv acc) (kv rows) = kv (ofRows acc rows)
  | [], _ => rfl
  | p :: r, acc => by
    show mergeK (putK (kv acc) (.inr p.1) (.int p.2)) (kv r) = _
    rw [putK_kv]
    exact mergeK_kv r (put acc p.1 p.2)
theorem ofRows_nodup : ∀ {rows acc : Tb}, (keys acc).Nodup → (keys (ofRows acc rows)).Nodup
  | [], _, h => h
  | p :: r, acc, h => ofRows_nodup (rows := r) (nodup_put h)
theorem ofRows_keys : ∀ {rows acc : Tb} {z : Str}, z ∈ keys (ofRows acc rows) ↔ z ∈ keys acc ∨ z ∈ keys rows
  | [], acc, z => by simp [ofRows, keys]
  | p :: r, acc, z => by
    show z ∈ keys (ofRows (put acc p.1 p.2) r) ↔ _
    rw [ofRows_keys (rows := r), keys_put]
    have e : keys (p :: r) = p.1 :: keys r := rfl
    rw [e, List.mem_cons]
    split
    · rename_i q
      constructor
      · rintro (h | h)
        · exact .inl h
        · exact .inr (.inr h)
      · rintro (h | h | h)
        · exact .inl h
        · exact .inl (h ▸ q)
        · exact .inr h
    · rw [List.mem_append, List.mem_singleton]
      constructor
      · rintro ((h | h) | h)
        · exact .inl h
        · exact .inr (.inl h)
        · exact .inr (.inr h)
      · rintro (h | h | h)
        · exact .inl (.inl h)
        · exact .inl (.inr h)
        · exact .inr h
theorem ofRows_len : ∀ {rows acc : Tb}, (ofRows acc rows).length ≤ acc.length + rows.length
  | [], _ => Nat.le_refl _
  | p :: r, acc => by
    have a := ofRows_len (rows := r) (acc := put acc p.1 p.2)
    have b := length_putK (kv acc) (.inr p.1) (.int p.2)
    rw [putK_kv, kv_len, kv_len] at b
    show (ofRows (put acc p.1 p.2) r).length ≤ _
    rw [List.length_cons]
    omega
/-- rows of names that differ: as they stand -/
theorem ofRows_append : ∀ {rows acc : Tb}, (keys acc ++ keys rows).Nodup → ofRows acc rows = acc ++ rows
  | [], acc, _ => (List.append_nil _).symm
  | p :: r, acc, nd => by
    have e : keys (p :: r) = p.1 :: keys r := rfl
    rw [e] at nd
    have n1 : p.1 ∉ keys acc := fun h => by
      rw [List.nodup_append] at nd
      exact nd.2.2 _ h _ (.head _) rfl
    show ofRows (put acc p.1 p.2) r = _
    rw [put_new n1, ofRows_append (rows := r) ?_, List.append_assoc]
    · rfl
    · unfold keys at nd ⊢
      rw [List.map_append, List.append_assoc]
      exact nd
theorem ofRows_id {rows : Tb} (nd : (keys rows).Nodup) : ofRows [] rows = rows := ofRows_append (acc := []) nd
/-- of several rows of one name the last one stands -/
theorem ofRows_gv : ∀ {rows acc : Tb} {z : Str}, gv (ofRows acc rows) z = ((rows.reverse.find? fun p => decide (p.1 = z)).map (·.2)).or (gv acc z)
  | [], acc, z => rfl
  | p :: r, acc, z => by
    show gv (ofRows (put acc p.1 p.2) r) z = _
    rw [ofRows_gv (rows := r), gv_put, List.reverse_cons, List.find?_append]
    cases (r.reverse.find? fun p => decide (p.1 = z)) with
    | some q => rfl
    | none =>
      by_cases e : p.1 = z
      · simp [e]
      · have : ¬ z = p.1 := fun t => e t.symm
        simp [e, this]
/-! ### names, sorted -/
def leS (a b : Str) : Bool := !decide (b.cps.toList < a.cps.toList)
theorem leS_tr (a b c : Str) (h1 : leS a b = true) (h2 : leS b c = true) : leS a c = true := by
  unfold leS at *
  simp only [Bool.not_eq_true', decide_eq_false_iff_not] at *
  exact codes_tr h1 h2
theorem leS_tot (a b : Str) : (leS a b || leS b a) = true := by
  unfold leS
  by_cases h : a.cps.toList < b.cps.toList
  · simp [codes_asym h]
  · simp [h]
theorem leS_anti {a b : Str} (h1 : leS a b = true) (h2 : leS b a = true) : a = b := by
  unfold leS at *
  simp only [Bool.not_eq_true', decide_eq_false_iff_not] at *
  have e : a.cps.toList = b.cps.toList := List.le_antisymm (List.not_lt.mp h1) (List.not_lt.mp h2)
  exact Str.ext' (Array.toList_inj.mp e)
def srt (l : List Str) : List Str := l.mergeSort leS
theorem srt_perm (l : List Str) : (srt l).Perm l := List.mergeSort_perm ..
theorem srt_pw (l : List Str) : (srt l).Pairwise fun a b => leS a b = true := List.pairwise_mergeSort leS_tr leS_tot l
theorem uniq_sorted : ∀ {l m : List Str}, l.Pairwise (fun a b => leS a b = true) → m.Pairwise (fun a b => leS a b = true) → l.Perm m → l = m
  | [], m, _, _, p => (List.Perm.eq_nil p.symm).symm
  | x :: l, [], _, _, p => absurd p.length_eq (by simp)
  | x :: l, y :: m, hl, hm, p => by
    rw [List.pairwise_cons] at hl hm
    have e : x = y := by
      rcases List.mem_cons.mp (p.mem_iff.mp (List.mem_cons_self (a := x) (l := l))) with e | hx
      · exact e
      · rcases List.mem_cons.mp (p.mem_iff.mpr (List.mem_cons_self (a := y) (l := m))) with e | hy
        · exact e.symm
        · exact leS_anti (hl.1 _ hy) (hm.1 _ hx)
    subst e
    rw [uniq_sorted hl.2 hm.2 p.cons_inv]
theorem pw_of_rising : ∀ {l : List Str} {p : Str}, risingS p l = true → (p :: l).Pairwise fun a b => leS a b = true
  | [], p, _ => List.pairwise_singleton ..
  | x :: r, p, h => by
    have h2 : (!ltCps x.cps.toList p.cps.toList && risingS x r) = true := h
    obtain ⟨a, b⟩ := Bool.and_eq_true_iff.mp h2
    have pw := pw_of_rising b
    have le : leS p x = true := by
      unfold leS
      rw [ltCps_eq] at a
      exact a
    rw [List.pairwise_cons]
    refine ⟨fun z hz => ?_, pw⟩
    rcases List.mem_cons.mp hz with rfl | hz
    · exact le
    · exact leS_tr _ _ _ le ((List.pairwise_cons.mp pw).1 z hz)
theorem pw_of_sortedS {l : List Str} (h : sortedS l = true) : l.Pairwise fun a b => leS a b = true := by
  cases l with
  | nil => exact .nil
  | cons x r => exact pw_of_rising h
theorem srt_uniq {ys l : List Str} (p : ys.Perm l) (h : sortedS ys = true) : ys = srt l := uniq_sorted (pw_of_sortedS h) (srt_pw l) (p.trans (srt_perm l).symm)
theorem srt_nodup {l : List Str} (h : l.Nodup) : (srt l).Nodup := (srt_perm l).nodup_iff.mpr h
theorem srt_mem {l : List Str} {z : Str} : z ∈ srt l ↔ z ∈ l := (srt_perm l).mem_iff
theorem srt_len (l : List Str) : (srt l).length = l.length := (srt_perm l).length_eq
/-- a table in the order of its names -/
def ord (m : Tb) : Tb := (srt (keys m)).map fun z => (z, g0 m z)
theorem keys_ord (m : Tb) : keys (ord m) = srt (keys m) := by
  unfold ord keys
  rw [List.map_map]
  exact List.map_id _
theorem ord_len (m : Tb) : (ord m).length = m.length := by
  unfold ord
  rw [List.length_map, srt_len, keys_len]
theorem gv_ord {m : Tb} (nd : (keys m).Nodup) (z : Str) : gv (ord m) z = gv m z := by
  by_cases h : z ∈ keys m
  · rw [gv_g0 h]
    refine gv_of (by rw [keys_ord]; exact srt_nodup nd) ?_
    exact List.mem_map.mpr ⟨z, srt_mem.mpr h, rfl⟩
  · rw [gv_none h, gv_none]
    rw [keys_ord, srt_mem]
    exact h
theorem g0_ord {m : Tb} (nd : (keys m).Nodup) (z : Str) : g0 (ord m) z = g0 m z := by
  unfold g0
  rw [gv_ord nd]
theorem ord_id {m : Tb} (nd : (keys m).Nodup) (so : (keys m).Pairwise fun a b => leS a b = true) : ord m = m := by
  unfold ord
  rw [← uniq_sorted so (srt_pw _) (srt_perm _).symm]
  unfold keys
  rw [List.map_map]
  conv => rhs; rw [← List.map_id m]
  refine List.map_congr_left fun p hp => ?_
  show (p.1, g0 m p.1) = p
  unfold g0
  rw [gv_of nd hp]
  rfl
/-- what a table must be: names, none twice -/
structure Okt (m : Tb) : Prop where
  nm : ∀ p ∈ m, Nm p.1
  nd : (keys m).Nodup
theorem Okt.key {m : Tb} (h : Okt m) {z : Str} (k : z ∈ keys m) : Nm z := by
  obtain ⟨p, hp, rfl⟩ := List.mem_map.mp k
  exact h.nm p hp
theorem Okt.ord {m : Tb} (h : Okt m) : Okt (ord m) := by
  refine ⟨fun p hp => ?_, by rw [keys_ord]; exact srt_nodup h.nd⟩
  have : p.1 ∈ keys (E10.ord m) := List.mem_map.mpr ⟨p, hp, rfl⟩
  rw [keys_ord, srt_mem] at this
  exact h.key this
theorem NamesAt.of {H : Hp} {d : Addr} {m : Tb} (o : Okt m) (e : H d = some (.dK (kv m))) (pos : 0 < m.length) (le : m.length ≤ 40) : NamesAt H d (kv m) := by
  refine ⟨e, by rw [kv_len]; exact pos, by rw [kv_len]; exact le, fun p hp => ?_⟩
  obtain ⟨q, hq, rfl⟩ := List.mem_map.mp hp
  exact ⟨q.1, q.2, rfl, o.nm q hq⟩
end E10

set_option Elab.async false
set_option linter.all false
set_option maxRecDepth 100000
set_option maxHeartbeats 8000000
namespace E10
open L2 PySem PySem.Spec PyProof.Rows
/-- a dict comprehension over anything that is walked -/
theorem dc_it {J : It} {n : Nat} {G : Hp → Prop} {Y : Nat → Hp → V → Hp → Prop} (w : Walk J n G Y) {g : TG} {tt : TT} {tk tv : TE} {vs : List Nat} {σ : L2.St} {H1 : Hp} {D : Addr} {Qd : Hp → Prop} (Pv : Nat → Hp → Prop) (h0 : Pv 0 (upd H1 D (.dK []))) (hG : ∀ i H, i ≤ n → Pv i H → G H)
    (hs : ∀ i x H H', i < n → Pv i H → Y i H x H' → g x (wipe σ vs) H' fun σ2 H2 => wipe σ2 vs = wipe σ vs ∧ tt σ2 H2 fun b H3 =>
      if b = true then tk σ2 H3 fun y H4 => tv σ2 H4 fun z H5 => ∃ kvs k, y = kV k ∧ H5 D = some (.dK kvs) ∧ kvs.length < sizeLine ∧ Pv (i + 1) (upd H5 D (.dK (putK kvs k z))) else Pv (i + 1) H3) (hd : ∀ H, Pv n H → Qd H) :
    ∃ W : Nat → Nat → Hp → Prop, (∃ m, W 0 m (upd H1 D (.dK []))) ∧ ∀ i m H, W i m H →
      (J.stop i H ∧ Qd H) ∨ (J.go i H ∧ ∃ Nx : Hp → Prop, (∀ H', Nx H' → ∃ m', m' < m ∧ W (i + 1) m' H') ∧ ∀ x H', J.yld i H x H' → g x (wipe σ vs) H' fun σ2 H2 => wipe σ2 vs = wipe σ vs ∧ tt σ2 H2 fun b H3 =>
        if b = true then tk σ2 H3 fun y H4 => tv σ2 H4 fun z H5 => ∃ kvs k, y = kV k ∧ H5 D = some (.dK kvs) ∧ kvs.length < sizeLine ∧ Nx (upd H5 D (.dK (putK kvs k z))) else Nx H3) := by
  refine ⟨fun i m H => m = n - i ∧ i ≤ n ∧ Pv i H, ⟨n, by simp, Nat.zero_le _, h0⟩, ?_⟩
  rintro i m H ⟨rfl, hi, p⟩
  have q := hG i H hi p
  by_cases hlt : i < n
  · refine .inr ⟨w.goes i H hlt q, Pv (i + 1), fun H' p' => ⟨n - (i + 1), by omega, rfl, hlt, p'⟩, fun x H' y => hs i x H H' hlt p (w.yields i H x H' hlt q y)⟩
  · have e : i = n := by omega
    subst e
    exact .inl ⟨w.stops H q, hd H p⟩
theorem boot_sorted' : bootBuiltins "sorted" = some (.builtin "sorted") := by decide +kernel
theorem boot_tuple' : bootBuiltins "tuple" = some (.type "tuple") := by decide +kernel
theorem boot_list' : bootBuiltins "list" = some (.type "list") := by decide +kernel
theorem boot_min' : bootBuiltins "min" = some (.builtin "min") := by decide +kernel
theorem boot_repr : bootBuiltins "repr" = some (.builtin "repr") := by decide +kernel
/-- at d a dict, this table -/
abbrev Tab (H : Hp) (d : Addr) (m : Tb) : Prop := H d = some (.dK (kv m))
theorem DGet.tab {H : Hp} {d : Addr} {m : Tb} {z : Str} (h : Rd H d (.dK (kv m))) (k : z ∈ keys m) : DGet H d (.str z) (some (.int (g0 m z))) := by
  refine .inl ⟨kv m, Sum.inr z, h, rfl, ?_⟩
  rw [valV_kv, gv_g0 k]
  rfl
theorem kv_at {m : Tb} {i : Nat} {k : Key} {v : V} (h : (kv m)[i]? = some (k, v)) : ∃ z n, m[i]? = some (z, n) ∧ k = .inr z ∧ v = .int n := by
  unfold kv at h
  rw [List.getElem?_map] at h
  cases e : m[i]? with
  | none => rw [e] at h; cases h
  | some p =>
    rw [e] at h
    cases h
    exact ⟨p.1, p.2, rfl, rfl, rfl⟩
theorem at_key {m : Tb} {i : Nat} {z : Str} {n : Int} (h : m[i]? = some (z, n)) : z ∈ keys m := List.mem_map.mpr ⟨_, List.mem_of_getElem? h, rfl⟩
/-- a table moved by a number -/
def shf (m : Tb) (n : Int) : Tb := m.map fun p => (p.1, p.2 + n)
theorem keys_shf (m : Tb) (n : Int) : keys (shf m n) = keys m := by
  unfold shf keys
  rw [List.map_map]
  rfl
theorem shf_len (m : Tb) (n : Int) : (shf m n).length = m.length := List.length_map ..
/-- a table as an Earliest has it -/
structure EOk (m : Tb) : Prop where
  ok : Okt m
  so : (keys m).Pairwise fun a b => leS a b = true
  pos : 0 < m.length
  le : m.length ≤ 8
theorem EOk.of {m : Tb} (o : Okt m) (pos : 0 < m.length) (le : m.length ≤ 8) : EOk (ord m) :=
  ⟨o.ord, by rw [keys_ord]; exact srt_pw _, by rw [ord_len]; exact pos, by rw [ord_len]; exact le⟩
theorem EOk.shf {m : Tb} (h : EOk m) (n : Int) : EOk (shf m n) := by
  refine ⟨⟨fun p hp => ?_, by rw [keys_shf]; exact h.ok.nd⟩, by rw [keys_shf]; exact h.so, by rw [shf_len]; exact h.pos, by rw [shf_len]; exact h.le⟩
  obtain ⟨q, hq, rfl⟩ := List.mem_map.mp hp
  exact h.ok.nm q hq
theorem EOk.ord {m : Tb} (h : EOk m) : ord m = m := ord_id h.ok.nd h.so
section
variable {P : Program} {w : World} {K : PySem.W.Frag} {mg : Str → Option Value} {base : Heap} {f cE : Addr} {fd : FuncData}
def spOrder : Sp := fun vs H Q _ => ∃ (d : Addr) (m : Tb), vs = [.ref d] ∧ Tab H d m ∧ (keys m).Nodup ∧ m.length ≤ 40 ∧ ∀ p H', H p = none → Same H H' → Tab H' p (ord m) → Q (.ref p) H'
theorem scOrder : FnScope ["table", "moment"] ["table"] (defScope s_in_order) := ⟨rfl, rfl, rfl, by decide +kernel, rfl, by decide +kernel, by decide +kernel⟩
theorem take_keys {l : List Str} {F : Str → Int} {i : Nat} {z : Str} (nd : l.Nodup) (h : l[i]? = some z) : z ∉ keys ((l.take i).map fun y => (y, F y)) := by
  unfold keys
  rw [List.map_map]
  intro q
  obtain ⟨y, hy, e⟩ := List.mem_map.mp q
  have e : y = z := e
  subst e
  obtain ⟨lt, g⟩ := List.getElem?_eq_some_iff.mp h
  obtain ⟨j, hj, e⟩ := List.getElem_of_mem hy
  rw [List.length_take] at hj
  rw [List.getElem_take] at e
  have := (List.nodup_iff_pairwise_ne.mp nd)
  have ij : j < i := by omega
  exact (List.pairwise_iff_getElem.mp this) j i (by omega) lt ij (e.trans g.symm)
theorem take_put {l : List Str} {F : Str → Int} {i : Nat} {z : Str} (nd : l.Nodup) (h : l[i]? = some z) : putK (kv ((l.take i).map fun y => (y, F y))) (.inr z) (.int (F z)) = kv ((l.take (i + 1)).map fun y => (y, F y)) := by
  rw [putK_kv, put_new (take_keys nd h), List.take_add_one, h, List.map_append]
  rfl
theorem ok_order (N : Nam mg) (F : Fun K "in_order" "in_order" s_in_order f fd) : FnOk P w K mg base CX0 1 f fd ["table"] spOrder := by
  refine F.ok scOrder (fun vs H Q E h => ?_) (fun cdv A outer s H vs Q E hr h => ?_)
  · obtain ⟨_, _, rfl, _⟩ := h
    rfl
  · obtain ⟨d, m, rfl, hd, nd, lm, go⟩ := h
    have hu := hu_of hr
    refine ⟨_, pss_one (ps_ret (pe_dc (own := [("moment", 1)]) (g := gName 1) (tt := tYes) rfl scOrder.nd (pi_list (pe_callB (call_sortedD rfl) rfl N.srt boot_sorted' (pa_cons (pv 0) pa_nil)))
        (blkOk_by (own := [("moment", 1)]) (N := ["table", "moment"]) (sc := defScope s_in_order) (by decide +kernel)) (fun _ _ _ _ _ => pg_name (i := 1) scOrder.nd rfl (Or.inl rfl)) (fun _ _ _ _ _ => pts_nil)
        (fun _ _ _ _ _ => pv 1) (fun _ _ _ _ _ => pe_dget hu (pv 0) (pv 1) (fun _ _ => rfl)))), ?_⟩
    refine ⟨_, rfl, d, kv m, keys m, rfl, .inl hd, kv_keys m, by rw [keys_len]; omega, fun ys p perm so np => ?_⟩
    obtain rfl := srt_uniq perm so
    have s1 := new_same (o := .lst ((srt (keys m)).map V.str)) np
    refine ⟨p, rfl, ⟨_, .inl (.inl upd_same)⟩, fun D nD => ?_⟩
    refine dc_it (walk_list (xs := (srt (keys m)).map V.str)) (fun i H' => Same (upd H p (.lst ((srt (keys m)).map V.str))) H' ∧ H' D = some (.dK (kv (((srt (keys m)).take i).map fun z => (z, g0 m z))))) ⟨new_same nD, upd_same⟩ (fun i H' _ h => .inl (.inl (h.1 _ _ upd_same))) ?_ ?_
    · rintro i x H' H'' lt ⟨sm, hD⟩ ⟨rfl, hx⟩
      refine ⟨rfl, ?_⟩
      obtain ⟨z, hz, rfl⟩ : ∃ z, (srt (keys m))[i]? = some z ∧ x = .str z := by
        rw [List.getElem?_map] at hx
        cases e : (srt (keys m))[i]? with
        | none => rw [e] at hx; cases hx
        | some z => rw [e] at hx; exact ⟨z, rfl, (Option.some.inj hx).symm⟩
      have s2 := s1.trans sm
      refine ⟨_, rfl, _, rfl, _, rfl, d, _, rfl, DGet.tab (.inl (s2 _ _ hd)) (srt_mem.mp (List.mem_of_getElem? hz)), _, .inr z, rfl, hD, ?_, fun c u e => ?_, ?_⟩
      · rw [kv_len, List.length_map, List.length_take]
        refine Nat.lt_of_le_of_lt (Nat.min_le_right _ _) ?_
        rw [srt_len, keys_len]
        exact Nat.lt_of_le_of_lt lm (by decide)
      · rw [upd_ne (ne_of_none e nD)]
        exact sm c u e
      · rw [upd_same, take_put (srt_nodup nd) hz]
    · rintro H3 ⟨sm, hD⟩
      rw [List.length_map, List.take_length] at hD
      exact go D H3 (s1.free nD) (s1.trans sm) hD
/-- at most eight of them -/
def spShifts : Sp := fun vs H Q _ => ∃ (d : Addr) (m : Tb), vs = [.ref d] ∧ Tab H d m ∧ Okt m ∧ 0 < m.length ∧ m.length ≤ 8 ∧ ∀ H', Same H H' → Q .non H'
theorem scShifts : FnScope ["shifts", "moment"] ["shifts"] (defScope s_check_shifts) := ⟨rfl, rfl, rfl, by decide +kernel, rfl, by decide +kernel, by decide +kernel⟩
theorem ok_shifts (N : Nam mg) (DH : Def P w K mg base "has_names" ["value"] 2 spHas) (DI : Def P w K mg base "is_integer" ["value"] 1 spInteger) (F : Fun K "check_shifts" "check_shifts" s_check_shifts f fd) : FnOk P w K mg base CX0 3 f fd ["shifts"] spShifts := by
  refine F.ok scShifts (fun vs H Q E h => ?_) (fun cdv A outer s H vs Q E hr h => ?_)
  · obtain ⟨_, _, rfl, _⟩ := h
    rfl
  · obtain ⟨d, m, rfl, hd, o, pos, le, go⟩ := h
    have hu := hu_of hr
    refine ⟨_, pss_cons (ps_if (pt_not (pt_val (callD DH hr rfl (pa_cons (pv 0) pa_nil)))) (pss_one ps_never) pss_nil)
      (pss_cons (ps_for PassesOwn.never rfl (pi_list (pe_callB (call_sortedD rfl) rfl N.srt boot_sorted' (pa_cons (pv 0) pa_nil))) (pg_name (i := 1) scShifts.nd rfl (Or.inl rfl))
        (pss_one (ps_if (pt_not (pt_val (callD DI (hr.mono (by decide)) rfl (pa_cons (pe_dget hu (pv 0) (pv 1) (fun _ _ => rfl)) pa_nil)))) (pss_one ps_never) pss_nil)))
      (pss_one (ps_if (pt_cmpR op_gt (pe_callB call_lenD rfl N.len PySem.boot_len (pa_cons (pv 0) pa_nil)) (pgI rfl N.mt) (nomark _)) (pss_one ps_never) pss_nil))), ?_⟩
    refine ⟨_, rfl, d, kv m, rfl, NamesAt.of o hd pos (by omega), fun H1 s1 => ⟨true, rfl, ?_⟩⟩
    have hd1 := s1 _ _ hd
    refine ⟨_, rfl, d, kv m, keys m, rfl, .inl hd1, kv_keys m, by rw [keys_len]; omega, fun ys p perm _ np => ?_⟩
    have s2 := new_same (o := .lst (ys.map V.str)) np
    refine ⟨p, rfl, ⟨_, .inl (.inl upd_same)⟩, ?_⟩
    refine for_it (walk_list (xs := ys.map V.str)) (fun i σ H' => Same (upd H1 p (.lst (ys.map V.str))) H' ∧ ∃ u, σ = [some (.ref d), u]) ⟨Same.refl _, none, rfl⟩ (fun i σ H' _ h => .inl (.inl (h.1 _ _ upd_same))) ?_ ?_
    · rintro i x σ H' H'' lt ⟨sm, u, rfl⟩ ⟨rfl, hx⟩
      obtain ⟨z, hz, rfl⟩ := List.mem_map.mp (List.mem_of_getElem? hx)
      have s3 := s2.trans sm
      refine ⟨_, rfl, _, rfl, d, _, rfl, DGet.tab (.inl (s3 _ _ hd1)) (perm.mem_iff.mp hz), _, rfl, true, rfl, ?_⟩
      exact ⟨sm, _, rfl⟩
    · rintro σ H3 ⟨sm, u, rfl⟩
      have s3 := s2.trans sm
      refine ⟨_, rfl, d, kv m, rfl, s3 _ _ hd1, _, _, rfl, rfl, _, rfl, ?_⟩
      rw [decide_eq_false (show ¬ (((kv m).length : Nat) : Int) > 8 by rw [kv_len]; omega)]
      exact go H3 (s1.trans s3)
/-! ### Earliest -/
structure Own (K : PySem.W.Frag) (C : Addr) : Prop where
  cl : Cls K C
  ca : PySem.W.findIn K (.ref C) "__class__" = some (some (.builtin "object.__class__"))
  sp : PySem.W.specialIn K (.builtin "object.__class__") "__get__" = some (some (.builtin "getset_descriptor.__get__"))
  tk : PySem.W.takesIn K (.builtin "object.__class__") = some true
  mo : PySem.W.mroIn K C (.type "object") = some true
  su : PySem.W.subIn K (.ref C) (.type "object") = some true
  me : PySem.W.kitOne K (.ref C) (.ref C) = some true
  first : PySem.W.selfFirst K C = true
theorem Own.ty {K : PySem.W.Frag} {C a dx : Addr} {H : Hp} {fs : List (Str × V)} (O : Own K C) (e : H a = some (.ins C dx fs)) : TyX K H (.ref a) (.ref C) := .base (.ins e O.cl O.ca O.sp O.tk O.mo)
/-- at a an Earliest, its table at d -/
structure EAt (cE : Addr) (H : Hp) (a d : Addr) (m : Tb) : Prop where
  ins : ∃ dx, H a = some (.ins cE dx [("_shifts", .ref d)])
  tab : Tab H d m
theorem EAt.sm {cE a d : Addr} {H H' : Hp} {m : Tb} (s : Same H H') (h : EAt cE H a d m) : EAt cE H' a d m := ⟨h.ins.imp fun _ e => s _ _ e, s _ _ h.tab⟩
/-- what Earliest has of its own -/
structure ErlF (K : PySem.W.Frag) (cE : Addr) : Prop where
  own : Own K cE
  nS : NoAttr K cE "_shifts"
def spInitE (cE : Addr) : Sp := fun vs H Q _ => ∃ (x dx d : Addr) (m : Tb), vs = [.ref x, .ref d] ∧ Tab H d m ∧ Okt m ∧ 0 < m.length ∧ m.length ≤ 8 ∧ H x = some (.ins cE dx []) ∧ ∀ H' e, SameB x H H' → H e = none → EAt cE H' x e (ord m) → Q .non H'
theorem scInitE : FnScope ["self", "shifts"] ["self", "shifts"] (defScope m_Earliest___init__) := ⟨rfl, rfl, rfl, by decide +kernel, rfl, by decide +kernel, by decide +kernel⟩
theorem ok_initE (T : ErlF K cE) (DS : Def P w K mg base "check_shifts" ["shifts"] 3 spShifts) (DO : Def P w K mg base "in_order" ["table"] 1 spOrder) (F : Fun K "__init__" "Earliest.__init__" m_Earliest___init__ f fd) :
    FnOk P w K mg base CX0 4 f fd ["self", "shifts"] (spInitE cE) := by
  refine F.ok scInitE (fun vs H Q E h => ?_) (fun cdv A outer s H vs Q E hr h => ?_)
  · obtain ⟨_, _, _, _, rfl, _⟩ := h
    rfl
  · obtain ⟨x, dx, d, m, rfl, hd, o, pos, le, hx, go⟩ := h
    refine ⟨_, pss_cons (ps_expr (callD DS hr rfl (pa_cons (pv 1) pa_nil))) (pss_one (ps_fld (pv 0) (callD DO (hr.mono (by decide)) rfl (pa_cons (pv 1) pa_nil)) rfl)), ?_⟩
    refine ⟨_, rfl, d, m, rfl, hd, o, pos, le, fun H1 s1 => ?_⟩
    refine ⟨_, rfl, d, m, rfl, s1 _ _ hd, o.nd, by omega, fun p H2 np s2 hp => ?_⟩
    have s3 := s1.trans s2
    have px : p ≠ x := (ne_of_none (s1 _ _ hx) np).symm
    refine ⟨_, rfl, x, cE, dx, _, rfl, s3 _ _ hx, T.own.cl, T.nS, by decide, ?_⟩
    refine go _ p (fun b o e nb => ?_) (s1.free np) ⟨⟨dx, upd_same⟩, (upd_ne px).trans hp⟩
    rw [upd_ne nb]
    exact s3 _ _ e
/-- what Earliest(..) asks of its argument, and gives -/
def WE (cE : Addr) (d : Addr) (m : Tb) (H : Hp) (Q : VK) : Prop := Tab H d m ∧ Okt m ∧ 0 < m.length ∧ m.length ≤ 8 ∧ ∀ x e H', H x = none → H e = none → Same H H' → EAt cE H' x e (ord m) → Q (.ref x) H'
structure MkE (P : Program) (w : World) (K : PySem.W.Frag) (mg : Str → Option Value) (base : Heap) (cE : Addr) : Prop where
  ex : ∃ (f : Addr) (fd : FuncData), Mk K cE f ∧ FnOk P w K mg base CX0 4 f fd ["self", "shifts"] (spInitE cE) ∧ mg "Earliest" = some (.ref cE) ∧ Binds K fd ["self", "shifts"] []
end
section
variable {X : Cx} {cE : Addr}
def tMkE (cE : Addr) (t : TA) : TE := fun σ H Q => t σ H fun vs H1 => ∃ d m, vs = [.ref d] ∧ WE cE d m H1 Q
theorem mkE {e : Expr} {es : List Expr} {t : TA} {p pos : Pos} (M : MkE X.prog X.w X.K X.mg X.base cE) (hr : Room 5 X.A) (hg : Gl X "Earliest") (ha : PA X (e :: es) t)
    (he : starEach (e :: es) X.env = (false, eval e X.env) :: starEach es X.env := by rfl) (hpl : (backTo pos (starEach es X.env)).any (·.1) = false := by rfl) : PE X (.Call (.Name "Earliest" p) (e :: es) [] pos) (tMkE cE t) := by
  obtain ⟨f, fd, m, F, hm, b⟩ := M.ex
  refine ⟨fun pins s σ H Q I h => ?_⟩
  refine wpAny_Call_Name_kw (ld_glob I hg hm ?_ (by decide))
  refine PySem.W.callWith_K (h₀ := X.base) I.ok.mod.kin m.kp (thn (ha.run pos pins s σ H _ I h) fun us s1 ⟨vs, H1, I1, r, d, tb, e, ht, o, pos, le, q⟩ => ⟨I1.kIn, ?_⟩) he hpl
  subst e
  refine run_make m F hr b .nil pass0 I1 r fun x dx nx ndx ne => ?_
  have up : Same H1 (upd (upd H1 dx (.own x)) x (.ins cE dx [])) := fun b o e => by
    rw [upd_ne (ne_of_none e nx), upd_ne (ne_of_none e ndx)]
    exact e
  refine ⟨x, dx, d, tb, rfl, up _ _ ht, o, pos, le, upd_same, fun H' e s ne2 t => ⟨rfl, q x e H' nx (up.free ne2) (fun b o e => ?_) t⟩⟩
  exact s b o (up _ _ e) (ne_of_none e nx)
end
end E10

set_option Elab.async false
set_option linter.all false
set_option maxRecDepth 100000
set_option maxHeartbeats 8000000
namespace E10
open L2 PySem PySem.Spec PyProof.Rows
/-- the least value of the terms at these times -/
structure IsLv (m c : Tb) (v : Int) : Prop where
  at_ : ∃ p ∈ m, g0 c p.1 + p.2 = v
  le : ∀ p ∈ m, v ≤ g0 c p.1 + p.2
theorem IsLv.uniq {m c : Tb} {v u : Int} (h : IsLv m c v) (h' : IsLv m c u) : v = u := by
  obtain ⟨p, hp, e⟩ := h.at_
  obtain ⟨q, hq, e'⟩ := h'.at_
  have a := h.le q hq
  have b := h'.le p hp
  omega
/-- the names whose terms have this value -/
def fs (m c : Tb) (v : Int) : List Str := (keys m).filter fun z => decide (g0 c z + g0 m z = v)
theorem at_g0 {m : Tb} (nd : (keys m).Nodup) {i : Nat} {z : Str} {n : Int} (h : m[i]? = some (z, n)) : g0 m z = n := by
  unfold g0
  rw [gv_of nd (List.mem_of_getElem? h)]
  rfl
theorem keys_at {m : Tb} {i : Nat} {z : Str} {n : Int} (h : m[i]? = some (z, n)) : (keys m)[i]? = some z := by
  unfold keys
  rw [List.getElem?_map, h]
  rfl
theorem take_succ_filter {m c : Tb} {v : Int} {i : Nat} {z : Str} (h : (keys m)[i]? = some z) :
    ((keys m).take (i + 1)).filter (fun z => decide (g0 c z + g0 m z = v)) = ((keys m).take i).filter (fun z => decide (g0 c z + g0 m z = v)) ++ if g0 c z + g0 m z = v then [z] else [] := by
  rw [List.take_add_one, h, List.filter_append]
  congr 1
  by_cases q : g0 c z + g0 m z = v <;> simp [q]
section
variable {P : Program} {w : World} {K : PySem.W.Frag} {mg : Str → Option Value} {base : Heap} {f cE : Addr} {fd : FuncData}
/-- the value, a dict from names to ints, has all the names of the dict at t -/
def spCheckD : Sp := fun vs H Q _ => ∃ (d t : Addr) (kvs : List (Key × V)) (m : Tb), vs = [.ref d, .ref t] ∧ NamesAt H d kvs ∧ Tab H t m ∧ m.length ≤ 40 ∧ d ≠ t ∧ (∀ z ∈ keys m, (valV kvs (.inr z)).isSome = true) ∧ ∀ H', Same H H' → Q .non H'
theorem ok_checkD (N : Nam mg) (DT : Def P w K mg base "is_times" ["value"] 3 spHas) (F : Fun K "check_times" "check_times" s_check_times f fd) : FnOk P w K mg base CX0 4 f fd ["value", "moments"] spCheckD := by
  refine F.ok scCheck (fun vs H Q E h => ?_) (fun cdv A outer s H vs Q E hr h => ?_)
  · obtain ⟨_, _, _, _, rfl, _⟩ := h
    rfl
  · obtain ⟨d, t, kvs, m, rfl, na, ht, small, dt, has, go⟩ := h
    have hu := hu_of hr
    refine ⟨_, pss_one (ps_if (PW.pt (pw_or (pt_not (pt_val (callD DT hr rfl (pa_cons (pv 0) pa_nil)))) (pw_or1 (pt_not (pt_val (pe_lock (pe_callB (cr_all rfl) rfl N.all_ boot_all' (pa_cons (pe_lc (own := [("moment", 2)]) (g := gName 2) (tt := tYes) rfl scCheck.nd (pi_keys (pv 1))
        (blkOk_by (own := [("moment", 2)]) (N := ["value", "moments", "moment"]) (sc := defScope s_check_times) (by decide +kernel)) (fun _ _ _ _ _ => pg_name (i := 2) scCheck.nd rfl (Or.inl rfl)) (fun _ _ _ _ _ => pts_nil)
        (fun _ _ _ _ _ => pe_cmp (pc_din hu (pv 2) (pv 0)) rfl)) pa_nil)))))))) (pss_one ps_never) pss_nil), ?_⟩
    refine ⟨_, rfl, d, kvs, rfl, na, fun H1 s1 => ⟨true, rfl, ?_⟩⟩
    have hd1 := s1 _ _ na.1
    have ht1 := s1 _ _ ht
    refine ⟨t, _, ht1, True.intro, fun od => ?_⟩
    have hF : upd H1 t (.frz od (.dK (kv m))) t = some (.frz od (.dK (kv m))) := upd_same
    have hdF : upd H1 t (.frz od (.dK (kv m))) d = some (.dK kvs) := (upd_ne dt).trans hd1
    refine ⟨_, rfl, t, od, rfl, .inl ⟨kv m, hF, fun D nD => ?_⟩⟩
    refine lc_map walk_keys (fun _ => .bl true) nD (by rw [kv_len]; omega) (fun H' s => s _ _ hF) (fun _ _ _ _ y => by rw [y.1]; exact Same.refl _) ?_ ?_
    · rintro i x H' H'' R lt sm _ ⟨rfl, k, v, hk, rfl⟩ go2
      refine ⟨rfl, ?_⟩
      obtain ⟨z, n, hm, rfl, rfl⟩ := kv_at hk
      refine ⟨_, rfl, _, rfl, d, _, rfl, DGet.k (k := Sum.inr z) (sm _ _ hdF), ?_⟩
      rw [has z (at_key hm)]
      exact go2 _ (Same.refl _)
    · intro H3 s3 hD
      refine ⟨D, List.replicate (kv m).length true, rfl, ?_, s3 _ _ hF, ?_⟩
      · rw [← all_range]
        exact .inl (.inl hD)
      · rw [all_true]
        exact ⟨true, rfl, go _ (s1.trans (locked ht1 s3))⟩
/-- an Earliest, called with times -/
structure Clock (H : Hp) (c : Addr) (t : Tb) : Prop where
  tab : Tab H c t
  ok : Okt t
  pos : 0 < t.length
  le : t.length ≤ 40
theorem Clock.sm {H H' : Hp} {c : Addr} {t : Tb} (s : Same H H') (h : Clock H c t) : Clock H' c t := ⟨s _ _ h.tab, h.ok, h.pos, h.le⟩
def spCallE (cE : Addr) : Sp := fun vs H Q _ => ∃ (a e c : Addr) (m t : Tb), vs = [.ref a, .ref c] ∧ EAt cE H a e m ∧ EOk m ∧ Clock H c t ∧ c ≠ e ∧ (∀ z ∈ keys m, z ∈ keys t) ∧ ∀ v H', IsLv m t v → Same H H' → Q (.int v) H'
theorem scCallE : FnScope ["self", "times", "moment"] ["self", "times"] (defScope m_Earliest___call__) := ⟨rfl, rfl, rfl, by decide +kernel, rfl, by decide +kernel, by decide +kernel⟩
theorem has_of {m t : Tb} (h : ∀ z ∈ keys m, z ∈ keys t) : ∀ z ∈ keys m, (valV (kv t) (.inr z)).isSome = true := fun z hz => by
  rw [valV_kv, gv_g0 (h z hz)]
  rfl
theorem ok_callE (N : Nam mg) (T : ErlF K cE) (DC : Def P w K mg base "check_times" ["value", "moments"] 4 spCheckD) (F : Fun K "__call__" "Earliest.__call__" m_Earliest___call__ f fd) : FnOk P w K mg base CX0 5 f fd ["self", "times"] (spCallE cE) := by
  refine F.ok scCallE (fun vs H Q E h => ?_) (fun cdv A outer s H vs Q E hr h => ?_)
  · obtain ⟨_, _, _, _, _, rfl, _⟩ := h
    rfl
  · obtain ⟨a, e, c, m, t, rfl, ea, eo, ck, ce, sub, go⟩ := h
    have hu := hu_of hr
    refine ⟨_, pss_cons (ps_expr (callD DC hr rfl (pa_cons (pv 1) (pa_cons (pe_fld (pv 0) rfl) pa_nil))))
      (pss_one (ps_ret (pe_lock (pe_callB (cr_min rfl) rfl N.mn boot_min' (pa_cons (pe_lc (own := [("moment", 2)]) (g := gName 2) (tt := tYes) (te := tOp (rI0 fun i j => .int (i + j)) (tDGet (tVar 1) (tVar 2)) (tDGet (tFld K (tVar 0) "_shifts") (tVar 2))) rfl scCallE.nd (pi_keys (pe_fld (pv 0) rfl))
        (blkOk_by (own := [("moment", 2)]) (N := ["self", "times", "moment"]) (sc := defScope m_Earliest___call__) (by decide +kernel)) (fun _ _ _ _ _ => pg_name (i := 2) scCallE.nd rfl (Or.inl rfl)) (fun _ _ _ _ _ => pts_nil)
        (fun _ _ _ _ _ => pe_op op_add (pe_dget hu (pv 1) (pv 2) (fun _ _ => rfl)) (pe_dget hu (pe_fld (pv 0) rfl) (pv 2) (fun _ _ => rfl)))) pa_nil))))), ?_⟩
    obtain ⟨dx, hi⟩ := ea.ins
    refine ⟨_, rfl, _, rfl, a, cE, dx, _, _, rfl, hi, T.own.cl, T.nS, rfl, ?_⟩
    refine ⟨c, e, kv t, m, rfl, NamesAt.of ck.ok ck.tab ck.pos ck.le, ea.tab, by have := eo.le; omega, ce, has_of sub, fun H1 s1 => ?_⟩
    have hi1 := s1 _ _ hi
    have ht1 := s1 _ _ ea.tab
    have hc1 := s1 _ _ ck.tab
    refine ⟨e, _, ht1, True.intro, fun od => ?_⟩
    have ae : a ≠ e := by
      rintro rfl
      rw [hi1] at ht1
      cases ht1
    have hF : upd H1 e (.frz od (.dK (kv m))) e = some (.frz od (.dK (kv m))) := upd_same
    have hiF : upd H1 e (.frz od (.dK (kv m))) a = some (.ins cE dx [("_shifts", .ref e)]) := (upd_ne ae).trans hi1
    have hcF : upd H1 e (.frz od (.dK (kv m))) c = some (.dK (kv t)) := (upd_ne ce).trans hc1
    refine ⟨_, rfl, a, cE, dx, _, _, rfl, hiF, T.own.cl, T.nS, rfl, e, od, rfl, .inl ⟨kv m, hF, fun D nD => ?_⟩⟩
    refine lc_map walk_keys (fun i => .int ((m.map fun p => g0 t p.1 + p.2).getD i 0)) nD (by rw [kv_len]; have := eo.le; omega) (fun H' s => s _ _ hF) (fun _ _ _ _ y => by rw [y.1]; exact Same.refl _) ?_ ?_
    · rintro i x H' H'' R lt sm _ ⟨rfl, k, v, hk, rfl⟩ go2
      refine ⟨rfl, ?_⟩
      obtain ⟨z, n, hm, rfl, rfl⟩ := kv_at hk
      have k1 := at_key hm
      refine ⟨_, rfl, _, rfl, c, _, rfl, DGet.tab (.inl (sm _ _ hcF)) (sub z k1), ?_⟩
      refine ⟨_, rfl, a, cE, dx, _, _, rfl, sm _ _ hiF, T.own.cl, T.nS, rfl, _, rfl, e, _, rfl, DGet.tab (.inr ⟨od, sm _ _ hF⟩) k1, _, _, rfl, rfl, ?_⟩
      rw [at_g0 eo.ok.nd hm]
      have e1 : (m.map fun p => g0 t p.1 + p.2).getD i 0 = g0 t z + n := by
        rw [List.getD_eq_getElem?_getD, List.getElem?_map, hm]
        rfl
      show R (.int (g0 t z + n)) H''
      rw [← e1]
      exact go2 _ (Same.refl _)
    · intro H3 s3 hD
      have el : ((List.range (kv m).length).map fun i => V.int ((m.map fun p => g0 t p.1 + p.2).getD i 0)) = (m.map fun p => g0 t p.1 + p.2).map V.int := by
        rw [kv_len]
        apply List.ext_getElem
        · simp
        · intro i h1 h2
          simp at h1 h2 ⊢
          simp [h1]
      rw [el] at hD
      refine ⟨D, _, rfl, .inl (.inl hD), by rw [List.length_map]; exact eo.pos, fun v hv le => ⟨s3 _ _ hF, ?_⟩⟩
      refine go v _ ⟨?_, fun p hp => le _ (List.mem_map.mpr ⟨p, hp, rfl⟩)⟩ (s1.trans (locked ht1 s3))
      obtain ⟨p, hp, e⟩ := List.mem_map.mp hv
      exact ⟨p, hp, e⟩
def spFirst (cE : Addr) : Sp := fun vs H Q _ => ∃ (a e c : Addr) (m t : Tb), vs = [.ref a, .ref c] ∧ EAt cE H a e m ∧ EOk m ∧ Clock H c t ∧ c ≠ e ∧ (∀ z ∈ keys m, z ∈ keys t) ∧ ∀ v p H', IsLv m t v → H p = none → Same H H' → H' p = some (.tup ((fs m t v).map V.str)) → Q (.ref p) H'
theorem scFirst : FnScope ["self", "times", "least", "moment"] ["self", "times"] (defScope m_Earliest_first) := ⟨rfl, rfl, rfl, by decide +kernel, rfl, by decide +kernel, by decide +kernel⟩
theorem ok_first (N : Nam mg) (T : ErlF K cE) {g : Addr} {gd : FuncData} (cC : StX.CallO K cE g) (FC : FnOk P w K mg base CX0 5 g gd ["self", "times"] (spCallE cE)) (bC : Binds K gd ["self", "times"] []) (F : Fun K "first" "Earliest.first" m_Earliest_first f fd) : FnOk P w K mg base CX0 6 f fd ["self", "times"] (spFirst cE) := by
  refine F.ok scFirst (fun vs H Q E h => ?_) (fun cdv A outer s H vs Q E hr h => ?_)
  · obtain ⟨_, _, _, _, _, rfl, _⟩ := h
    rfl
  · obtain ⟨a, e, c, m, t, rfl, ea, eo, ck, ce, sub, go⟩ := h
    have hu := hu_of hr
    refine ⟨_, pss_cons (ps_set (i := 2) scFirst.nd rfl (Or.inr rfl) (pe_callOb (pv 0) cC FC bC hr (pa_cons (pv 1) pa_nil) (PySem.arm_eval_Call_Name' _ _ _ _ _ _)))
      (pss_one (ps_ret (pe_lock (pe_callTy call_tuple_of rfl N.tup_ boot_tuple' (pa_cons (pe_lc (own := [("moment", 3)]) (g := gName 3) (tt := tTest (tOp rEq (tOp (rI0 fun i j => .int (i + j)) (tDGet (tVar 1) (tVar 3)) (tDGet (tFld K (tVar 0) "_shifts") (tVar 3))) (tVar 2))) rfl scFirst.nd (pi_keys (pe_fld (pv 0) rfl))
        (blkOk_by (own := [("moment", 3)]) (N := ["self", "times", "least", "moment"]) (sc := defScope m_Earliest_first) (by decide +kernel)) (fun _ _ _ _ _ => pg_name (i := 3) scFirst.nd rfl (Or.inl rfl))
        (fun _ _ _ _ _ => pts_one (pt_cmpR op_eq (pe_op op_add (pe_dget hu (pv 1) (pv 3) (fun _ _ => rfl)) (pe_dget hu (pe_fld (pv 0) rfl) (pv 3) (fun _ _ => rfl))) (pv 2) (nomark _)))
        (fun _ _ _ _ _ => pv 3)) pa_nil))))), ?_⟩
    obtain ⟨dx, hi⟩ := ea.ins
    refine ⟨_, rfl, a, rfl, _, rfl, insC_of hi, a, e, c, m, t, rfl, ea, eo, ck, ce, sub, fun v H1 lv s1 => ?_⟩
    have hi1 := s1 _ _ hi
    have ht1 := s1 _ _ ea.tab
    have hc1 := s1 _ _ ck.tab
    refine ⟨e, _, ht1, True.intro, fun od => ?_⟩
    have ae : a ≠ e := by
      rintro rfl
      rw [hi1] at ht1
      cases ht1
    have hF : upd H1 e (.frz od (.dK (kv m))) e = some (.frz od (.dK (kv m))) := upd_same
    have hiF : upd H1 e (.frz od (.dK (kv m))) a = some (.ins cE dx [("_shifts", .ref e)]) := (upd_ne ae).trans hi1
    have hcF : upd H1 e (.frz od (.dK (kv m))) c = some (.dK (kv t)) := (upd_ne ce).trans hc1
    refine ⟨_, rfl, a, cE, dx, _, _, rfl, hiF, T.own.cl, T.nS, rfl, e, od, rfl, .inl ⟨kv m, hF, fun D nD => ?_⟩⟩
    refine lc_it (walk_keys (kvs := kv m)) (fun i H' => Same (upd H1 e (.frz od (.dK (kv m)))) H' ∧ H' D = some (.lst ((((keys m).take i).filter fun z => decide (g0 t z + g0 m z = v)).map V.str))) ⟨new_same nD, upd_same⟩ (fun i H' _ h => h.1 _ _ hF) ?_ ?_
    · rintro i x H' H'' lt ⟨sm, hD⟩ ⟨rfl, k, u, hk, rfl⟩
      refine ⟨rfl, ?_⟩
      obtain ⟨z, n, hm, rfl, rfl⟩ := kv_at hk
      have k1 := at_key hm
      refine ⟨_, rfl, _, rfl, c, _, rfl, DGet.tab (.inl (sm _ _ hcF)) (sub z k1), ?_⟩
      refine ⟨_, rfl, a, cE, dx, _, _, rfl, sm _ _ hiF, T.own.cl, T.nS, rfl, _, rfl, e, _, rfl, DGet.tab (.inr ⟨od, sm _ _ hF⟩) k1, _, _, rfl, rfl, ?_⟩
      refine ⟨_, rfl, rfl, _, rfl, ?_⟩
      have ed : decide (V.int (g0 t z + g0 m z) = V.int v) = decide (g0 t z + g0 m z = v) := by simp
      rw [ed]
      have ts := take_succ_filter (c := t) (v := v) (keys_at hm)
      by_cases q : g0 t z + g0 m z = v
      · rw [decide_eq_true q]
        rw [if_pos q] at ts
        refine ⟨_, rfl, _, hD, ?_, fun b o e => ?_, ?_⟩
        · rw [List.length_map]
          refine Nat.lt_of_le_of_lt (List.length_filter_le _ _) ?_
          rw [List.length_take, keys_len]
          exact Nat.lt_of_le_of_lt (Nat.le_trans (Nat.min_le_right _ _) eo.le) (by decide)
        · rw [upd_ne (ne_of_none e nD)]
          exact sm _ _ e
        · rw [upd_same, ts, List.map_append]
          rfl
      · rw [decide_eq_false q]
        rw [if_neg q, List.append_nil] at ts
        refine ⟨sm, ?_⟩
        rw [ts]
        exact hD
    · rintro H3 ⟨sm, hD⟩
      rw [kv_len, ← keys_len, List.take_length] at hD
      refine ⟨D, _, rfl, .inl ⟨.inl (.inl hD), fun p np => ?_⟩⟩
      have s4 := sm.trans (new_same (o := .tup ((fs m t v).map V.str)) np)
      refine ⟨s4 _ _ hF, ?_⟩
      have s5 := s1.trans (locked ht1 s4)
      refine go v p _ lv ?_ s5 ?_
      · have n3 : H3 p = none := np
        cases hp : H p with
        | none => rfl
        | some o =>
          have e1 := s1 _ _ hp
          by_cases pe : p = e
          · rw [pe] at n3
            rw [sm _ _ hF] at n3
            cases n3
          · rw [sm _ _ ((upd_ne pe).trans e1)] at n3
            cases n3
      · have pe : p ≠ e := (ne_of_none (sm _ _ hF) np).symm
        rw [upd_ne pe]
        exact upd_same
/-! ### its terms, and another number added -/
def spMomD : Sp := fun vs H Q _ => ∃ (z : Str) (d : Addr) (m : Tb), vs = [.str z, .ref d] ∧ Tab H d m ∧ z ∈ keys m ∧ Q (.bl true) H
theorem scMom : FnScope ["value", "moments"] ["value", "moments"] (defScope s_is_moment_of) := ⟨rfl, rfl, rfl, by decide +kernel, rfl, by decide +kernel, by decide +kernel⟩
theorem ok_mom (N : Nam mg) (F : Fun K "is_moment_of" "is_moment_of" s_is_moment_of f fd) : FnOk P w K mg base CX0 1 f fd ["value", "moments"] spMomD := by
  refine F.ok scMom (fun vs H Q E h => ?_) (fun cdv A outer s H vs Q E hr h => ?_)
  · obtain ⟨_, _, _, rfl, _⟩ := h
    rfl
  · obtain ⟨z, d, m, rfl, hd, hz, go⟩ := h
    have hu := hu_of hr
    refine ⟨_, pss_one (ps_ret (pe_and (pe_callB call_isi rfl N.isi boot_isi (pa_cons (pv 0) (pa_cons (pbT rfl N.str_ boot_str') pa_nil))) (pe_one (pe_cmp (pc_din hu (pv 0) (pv 1)) rfl)))), ?_⟩
    refine ⟨_, rfl, _, _, _, _, _, rfl, .ty _, .base (.str _), kit_ty (b := "str") (r := true) (by decide +kernel), true, rfl, ?_⟩
    exact ⟨_, rfl, _, rfl, d, _, rfl, DGet.tab (.inl hd) hz, go⟩
def spCMomD : Sp := fun vs H Q _ => ∃ (z : Str) (d : Addr) (m : Tb), vs = [.str z, .ref d] ∧ Tab H d m ∧ z ∈ keys m ∧ Q .non H
theorem scCMom : FnScope ["value", "moments"] ["value", "moments"] (defScope s_check_moment) := ⟨rfl, rfl, rfl, by decide +kernel, rfl, by decide +kernel, by decide +kernel⟩
theorem ok_cmom (DM : Def P w K mg base "is_moment_of" ["value", "moments"] 1 spMomD) (F : Fun K "check_moment" "check_moment" s_check_moment f fd) : FnOk P w K mg base CX0 2 f fd ["value", "moments"] spCMomD := by
  refine F.ok scCMom (fun vs H Q E h => ?_) (fun cdv A outer s H vs Q E hr h => ?_)
  · obtain ⟨_, _, _, rfl, _⟩ := h
    rfl
  · obtain ⟨z, d, m, rfl, hd, hz, go⟩ := h
    refine ⟨_, pss_one (ps_if (pt_not (pt_val (callD DM hr rfl (pa_cons (pv 0) (pa_cons (pv 1) pa_nil))))) (pss_one ps_never) pss_nil), ?_⟩
    exact ⟨_, rfl, _, rfl, z, d, m, rfl, hd, hz, true, rfl, go⟩
def spItemE (cE : Addr) : Sp := fun vs H Q _ => ∃ (a e : Addr) (z : Str) (m : Tb), vs = [.ref a, .str z] ∧ EAt cE H a e m ∧ z ∈ keys m ∧ Q (.int (g0 m z)) H
theorem scItemE : FnScope ["self", "at"] ["self", "at"] (defScope m_Earliest___getitem__) := ⟨rfl, rfl, rfl, by decide +kernel, rfl, by decide +kernel, by decide +kernel⟩
theorem ok_itemE (T : ErlF K cE) (DM : Def P w K mg base "check_moment" ["value", "moments"] 2 spCMomD) (F : Fun K "__getitem__" "Earliest.__getitem__" m_Earliest___getitem__ f fd) : FnOk P w K mg base CX0 3 f fd ["self", "at"] (spItemE cE) := by
  refine F.ok scItemE (fun vs H Q E h => ?_) (fun cdv A outer s H vs Q E hr h => ?_)
  · obtain ⟨_, _, _, _, rfl, _⟩ := h
    rfl
  · obtain ⟨a, e, z, m, rfl, ea, hz, go⟩ := h
    have hu := hu_of hr
    obtain ⟨dx, hi⟩ := ea.ins
    refine ⟨_, pss_cons (ps_expr (callD DM hr rfl (pa_cons (pv 1) (pa_cons (pe_fld (pv 0) rfl) pa_nil)))) (pss_one (ps_ret (pe_dget hu (pe_fld (pv 0) rfl) (pv 1) (fun _ _ => rfl)))), ?_⟩
    refine ⟨_, rfl, _, rfl, a, cE, dx, _, _, rfl, hi, T.own.cl, T.nS, rfl, z, e, m, rfl, ea.tab, hz, ?_⟩
    exact ⟨_, rfl, a, cE, dx, _, _, rfl, hi, T.own.cl, T.nS, rfl, _, rfl, e, _, rfl, DGet.tab (.inl ea.tab) hz, go⟩
def spMoved : Sp := fun vs H Q _ => ∃ (d : Addr) (m : Tb) (n : Int), vs = [.ref d, .int n] ∧ Tab H d m ∧ (keys m).Nodup ∧ m.length ≤ 40 ∧ ∀ p H', H p = none → Same H H' → Tab H' p (shf m n) → Q (.ref p) H'
theorem scMoved : FnScope ["table", "number", "moment"] ["table", "number"] (defScope s_moved) := ⟨rfl, rfl, rfl, by decide +kernel, rfl, by decide +kernel, by decide +kernel⟩
theorem shf_eq {m : Tb} (nd : (keys m).Nodup) (n : Int) : shf m n = (keys m).map fun z => (z, g0 m z + n) := by
  unfold shf keys
  rw [List.map_map]
  refine List.map_congr_left fun p hp => ?_
  show (p.1, p.2 + n) = (p.1, g0 m p.1 + n)
  unfold g0
  rw [gv_of nd hp]
  rfl
theorem ok_moved (F : Fun K "moved" "moved" s_moved f fd) : FnOk P w K mg base CX0 1 f fd ["table", "number"] spMoved := by
  refine F.ok scMoved (fun vs H Q E h => ?_) (fun cdv A outer s H vs Q E hr h => ?_)
  · obtain ⟨_, _, _, rfl, _⟩ := h
    rfl
  · obtain ⟨d, m, n, rfl, hd, nd, lm, go⟩ := h
    have hu := hu_of hr
    refine ⟨_, pss_one (ps_ret (pe_lock (pe_dc (own := [("moment", 2)]) (g := gName 2) (tt := tYes) (tk := tVar 2) (tv := tOp (rI0 fun i j => .int (i + j)) (tDGet (tVar 0) (tVar 2)) (tVar 1)) rfl scMoved.nd (pi_keys (pv 0))
        (blkOk_by (own := [("moment", 2)]) (N := ["table", "number", "moment"]) (sc := defScope s_moved) (by decide +kernel)) (fun _ _ _ _ _ => pg_name (i := 2) scMoved.nd rfl (Or.inl rfl)) (fun _ _ _ _ _ => pts_nil)
        (fun _ _ _ _ _ => pv 2) (fun _ _ _ _ _ => pe_op op_add (pe_dget hu (pv 0) (pv 2) (fun _ _ => rfl)) (pv 1))))), ?_⟩
    refine ⟨d, _, hd, True.intro, fun od => ?_⟩
    have hF : upd H d (.frz od (.dK (kv m))) d = some (.frz od (.dK (kv m))) := upd_same
    refine ⟨_, rfl, d, od, rfl, .inl ⟨kv m, hF, fun D nD => ?_⟩⟩
    refine dc_it (walk_keys (kvs := kv m)) (fun i H' => Same (upd H d (.frz od (.dK (kv m)))) H' ∧ H' D = some (.dK (kv (((keys m).take i).map fun z => (z, g0 m z + n))))) ⟨new_same nD, upd_same⟩ (fun i H' _ h => h.1 _ _ hF) ?_ ?_
    · rintro i x H' H'' lt ⟨sm, hD⟩ ⟨rfl, k, u, hk, rfl⟩
      refine ⟨rfl, ?_⟩
      obtain ⟨z, v, hm, rfl, rfl⟩ := kv_at hk
      have k1 := at_key hm
      refine ⟨_, rfl, _, rfl, _, rfl, d, _, rfl, DGet.tab (.inr ⟨od, sm _ _ hF⟩) k1, _, rfl, _, _, rfl, rfl, _, .inr z, rfl, hD, ?_, fun c u e => ?_, ?_⟩
      · rw [kv_len, List.length_map, List.length_take, keys_len]
        exact Nat.lt_of_le_of_lt (Nat.le_trans (Nat.min_le_right _ _) lm) (by decide)
      · rw [upd_ne (ne_of_none e nD)]
        exact sm c u e
      · rw [upd_same]
        exact congrArg (fun q => some (HO.dK q)) (take_put (F := fun z => g0 m z + n) nd (keys_at hm))
    · rintro H3 ⟨sm, hD⟩
      rw [kv_len, ← keys_len, List.take_length, ← shf_eq nd] at hD
      refine ⟨sm _ _ hF, ?_⟩
      have Dd : D ≠ d := (ne_of_none hF nD).symm
      exact go D _ ((upd_ne Dd).symm.trans nD) (locked hd sm) ((upd_ne Dd).trans hD)
def spPlusE (cE : Addr) (op : Int → Int) : Sp := fun vs H Q _ => ∃ (a e : Addr) (m : Tb) (n : Int), vs = [.ref a, .int n] ∧ EAt cE H a e m ∧ EOk m ∧ ∀ x e' H', H x = none → H e' = none → Same H H' → EAt cE H' x e' (shf m (op n)) → Q (.ref x) H'
theorem scAddE : FnScope ["self", "other"] ["self", "other"] (defScope m_Earliest___add__) := ⟨rfl, rfl, rfl, by decide +kernel, rfl, by decide +kernel, by decide +kernel⟩
theorem ok_addE (T : ErlF K cE) (M : MkE P w K mg base cE) (DS : Def P w K mg base "check_shift" ["value"] 2 spShift) (DM : Def P w K mg base "moved" ["table", "number"] 1 spMoved) (F : Fun K "__add__" "Earliest.__add__" m_Earliest___add__ f fd) : FnOk P w K mg base CX0 6 f fd ["self", "other"] (spPlusE cE id) := by
  refine F.ok scAddE (fun vs H Q E h => ?_) (fun cdv A outer s H vs Q E hr h => ?_)
  · obtain ⟨_, _, _, _, rfl, _⟩ := h
    rfl
  · obtain ⟨a, e, m, n, rfl, ea, eo, go⟩ := h
    obtain ⟨dx, hi⟩ := ea.ins
    refine ⟨_, pss_cons (ps_expr (callD DS (hr.mono (by decide)) rfl (pa_cons (pv 1) pa_nil)))
      (pss_one (ps_ret (mkE M hr rfl (pa_cons (callD DM (hr.mono (by decide)) rfl (pa_cons (pe_fld (pv 0) rfl) (pa_cons (pv 1) pa_nil))) pa_nil)))), ?_⟩
    refine ⟨_, rfl, n, rfl, ?_⟩
    refine ⟨_, rfl, a, cE, dx, _, _, rfl, hi, T.own.cl, T.nS, rfl, _, rfl, e, m, n, rfl, ea.tab, eo.ok.nd, by have := eo.le; omega, fun p H1 np s1 hp => ?_⟩
    have eo2 := eo.shf n
    refine ⟨p, shf m n, rfl, hp, eo2.ok, eo2.pos, eo2.le, fun x e2 H2 nx ne2 s2 ea2 => ?_⟩
    rw [eo2.ord] at ea2
    exact go x e2 H2 (s1.free nx) (s1.free ne2) (s1.trans s2) ea2
theorem int_add {K : PySem.W.Frag} : PySem.W.findIn K (.type "int") (PySem.dunder "add") = some (some (.builtin "int.__add__")) := by
  show PySem.fastLookup "int" (PySem.dunder "add") = _
  decide +kernel
theorem int_radd {K : PySem.W.Frag} : PySem.W.findIn K (.type "int") (dunderR "add") = some (some (.builtin "int.__radd__")) := by
  show PySem.fastLookup "int" (dunderR "add") = _
  decide +kernel
theorem int_sub {K : PySem.W.Frag} : PySem.W.findIn K (.type "int") (PySem.dunder "sub") = some (some (.builtin "int.__sub__")) := by
  show PySem.fastLookup "int" (PySem.dunder "sub") = _
  decide +kernel
theorem int_rsub {K : PySem.W.Frag} : PySem.W.findIn K (.type "int") (dunderR "sub") = some (some (.builtin "int.__rsub__")) := by
  show PySem.fastLookup "int" (dunderR "sub") = _
  decide +kernel
structure AddE (P : Program) (w : World) (K : PySem.W.Frag) (mg : Str → Option Value) (base : Heap) (cE : Addr) : Prop where
  ex : ∃ (f : Addr) (fd : FuncData), FnG P w K mg base 6 f fd ["self", "other"] (spPlusE cE id) ∧ Has K cE f (PySem.dunder "add") ∧ Binds K fd ["self", "other"] []
  r : ∃ g : Addr, PySem.W.findIn K (.ref cE) (dunderR "add") = some (some (.ref g))
  sub : PySem.W.subIn K (.type "int") (.ref cE) = some false
  sub' : PySem.W.subIn K (.ref cE) (.type "int") = some false
theorem op_plusE {X : Cx} {cE : Addr} (T : ErlF X.K cE) (A : AddE X.prog X.w X.K X.mg X.base cE) (hG : X.A.guards = some []) (room : Room 6 X.A) : OpR X (binaryOp .Add) (rOwnI cE (spPlusE cE id)) := by
  obtain ⟨f, fd, F, h, b⟩ := A.ex
  obtain ⟨g, hr⟩ := A.r
  exact op_ownI (op := .Add) F hG room b T.own.first h hr (.inr ⟨g, rfl⟩) int_add int_radd A.sub
structure RaddE (P : Program) (w : World) (K : PySem.W.Frag) (mg : Str → Option Value) (base : Heap) (cE : Addr) : Prop where
  ex : ∃ (f : Addr) (fd : FuncData), FnG P w K mg base 7 f fd ["self", "other"] (spPlusE cE id) ∧ Has K cE f (dunderR "add") ∧ Binds K fd ["self", "other"] []
theorem op_raddE {X : Cx} {cE : Addr} (T : ErlF X.K cE) (A : AddE X.prog X.w X.K X.mg X.base cE) (R : RaddE X.prog X.w X.K X.mg X.base cE) (hG : X.A.guards = some []) (room : Room 7 X.A) : OpR X (binaryOp .Add) (rIOwn cE (spPlusE cE id)) := by
  obtain ⟨_, _, _, h, _⟩ := A.ex
  obtain ⟨f, fd, F, hh, b⟩ := R.ex
  exact op_iown F hG room b T.own.first h.at_ hh int_add int_radd rfl A.sub'
structure SubE (P : Program) (w : World) (K : PySem.W.Frag) (mg : Str → Option Value) (base : Heap) (cE : Addr) : Prop where
  ex : ∃ (f : Addr) (fd : FuncData), FnG P w K mg base 7 f fd ["self", "other"] (spPlusE cE (- ·)) ∧ Has K cE f (PySem.dunder "sub") ∧ Binds K fd ["self", "other"] []
  r : PySem.W.findIn K (.ref cE) (dunderR "sub") = some none
theorem op_minusE {X : Cx} {cE : Addr} (T : ErlF X.K cE) (A : AddE X.prog X.w X.K X.mg X.base cE) (S : SubE X.prog X.w X.K X.mg X.base cE) (hG : X.A.guards = some []) (room : Room 7 X.A) : OpR X (binaryOp .Sub) (rOwnI cE (spPlusE cE (- ·))) := by
  obtain ⟨f, fd, F, h, b⟩ := S.ex
  exact op_ownI (op := .Sub) F hG room b T.own.first h S.r (.inl rfl) int_sub int_rsub A.sub
theorem scRaddE : FnScope ["self", "other"] ["self", "other"] (defScope m_Earliest___radd__) := ⟨rfl, rfl, rfl, by decide +kernel, rfl, by decide +kernel, by decide +kernel⟩
theorem ok_raddE (T : ErlF K cE) (A : AddE P w K mg base cE) (F : Fun K "__radd__" "Earliest.__radd__" m_Earliest___radd__ f fd) : FnG P w K mg base 7 f fd ["self", "other"] (spPlusE cE id) := by
  refine Fun.okG F scRaddE (fun {vs H Q E} h => ?_) (fun cdv Ar outer s H vs Q E hG hr h => ?_)
  · obtain ⟨_, _, _, _, rfl, _⟩ := h
    rfl
  · obtain ⟨a, e, m, n, rfl, ea, eo, go⟩ := h
    have ⟨dx, hi⟩ := ea.ins
    exact ⟨_, pss_one (ps_ret (pe_op (op_plusE T A hG hr) (pv 0) (pv 1))), ⟨_, rfl, _, rfl, a, dx, _, n, rfl, rfl, hi, a, e, m, n, rfl, ea, eo, go⟩⟩
theorem scSubE : FnScope ["self", "other"] ["self", "other"] (defScope m_Earliest___sub__) := ⟨rfl, rfl, rfl, by decide +kernel, rfl, by decide +kernel, by decide +kernel⟩
theorem ok_subE (T : ErlF K cE) (A : AddE P w K mg base cE) (DS : Def P w K mg base "check_shift" ["value"] 2 spShift) (F : Fun K "__sub__" "Earliest.__sub__" m_Earliest___sub__ f fd) : FnG P w K mg base 7 f fd ["self", "other"] (spPlusE cE (- ·)) := by
  refine Fun.okG F scSubE (fun {vs H Q E} h => ?_) (fun cdv Ar outer s H vs Q E hG hr h => ?_)
  · obtain ⟨_, _, _, _, rfl, _⟩ := h
    rfl
  · obtain ⟨a, e, m, n, rfl, ea, eo, go⟩ := h
    have ⟨dx, hi⟩ := ea.ins
    refine ⟨_, pss_cons (ps_expr (callD DS (hr.mono (by decide)) rfl (pa_cons (pv 1) pa_nil))) (pss_one (ps_ret (pe_op (op_plusE T A hG hr) (pv 0) (pe_un un_neg (pv 1))))), ?_⟩
    refine ⟨_, rfl, n, rfl, ?_⟩
    exact ⟨_, rfl, _, rfl, n, rfl, a, dx, _, -n, rfl, rfl, hi, a, e, m, -n, rfl, ea, eo, go⟩
end
end E10

set_option Elab.async false
set_option linter.all false
set_option maxRecDepth 100000
set_option maxHeartbeats 8000000
namespace E10
open L2 PySem PySem.Spec PyProof.Rows
/-! ### Term -/
/-- a Term of this moment with this shift -/
def TermAt (cT : Addr) (H : Hp) (a : Addr) (z : Str) (i : Int) : Prop := ∃ dx, H a = some (.ins cT dx [("_moment", .str z), ("_shift", .int i)])
theorem TermAt.sm {cT : Addr} {H H' : Hp} {a : Addr} {z : Str} {i : Int} (s : Same H H') (h : TermAt cT H a z i) : TermAt cT H' a z i := by
  obtain ⟨dx, e⟩ := h
  exact ⟨dx, s _ _ e⟩
/-- what Term has of its own -/
structure TermF (K : PySem.W.Frag) (cT : Addr) : Prop where
  own : Own K cT
  nM : NoAttr K cT "_moment"
  nS : NoAttr K cT "_shift"
def ttext (z : Str) (i : Int) : Str := if i = 0 then z else z ++ plusText i
def rtext (z : Str) (i : Int) : Str := (((("Term(" : String) : Str) ++ reprText z) ++ ((", " : String) : Str) ++ Str.ofString (toString i)) ++ ((")" : String) : Str)
def Sm (i : Int) : Prop := i.natAbs < 10 ^ 66
section
variable {P : Program} {w : World} {K : PySem.W.Frag} {mg : Str → Option Value} {base : Heap} {f cT : Addr} {fd : FuncData}
def spInit (cT : Addr) : Sp := fun vs H Q _ => ∃ (x dx : Addr) (z : Str) (i : Int), vs = [.ref x, .str z, .int i] ∧ Nm z ∧ H x = some (.ins cT dx []) ∧ ∀ H', SameB x H H' → TermAt cT H' x z i → Q .non H'
theorem scInit : FnScope ["self", "moment", "shift"] ["self", "moment", "shift"] (defScope m_Term___init__) := ⟨rfl, rfl, rfl, by decide +kernel, rfl, by decide +kernel, by decide +kernel⟩
theorem ok_init (T : TermF K cT) (DN : Def P w K mg base "is_name" ["value"] 1 spName) (DS : Def P w K mg base "check_shift" ["value"] 2 spShift) (F : FunD K "__init__" "Term.__init__" (defArgs m_Term___init__) (defBody m_Term___init__) (defScope m_Term___init__) [.int 0] [] f fd) :
    FnOk P w K mg base CX0 3 f fd ["self", "moment", "shift"] (spInit cT) := by
  refine F.ok scInit (fun vs H Q E h => ?_) (fun cdv A outer s H vs Q E hr h => ?_)
  · obtain ⟨_, _, _, _, rfl, _⟩ := h
    rfl
  · obtain ⟨x, dx, z, i, rfl, nm, hx, go⟩ := h
    refine ⟨_, pss_cons (ps_if (pt_not (pt_val (callD DN (hr.mono (by decide)) rfl (pa_cons (pv 1) pa_nil)))) (pss_one ps_never) pss_nil)
      (pss_cons (ps_expr (callD DS hr rfl (pa_cons (pv 2) pa_nil)))
      (pss_cons (ps_fld (pv 0) (pv 1) rfl) (pss_one (ps_fld (pv 0) (pv 2) rfl)))), ?_⟩
    refine ⟨_, rfl, z, rfl, nm, fun H1 s1 => ⟨true, rfl, ?_⟩⟩
    have h1 := s1 _ _ hx
    refine ⟨_, rfl, i, rfl, ?_⟩
    refine ⟨_, rfl, _, rfl, x, cT, dx, _, rfl, h1, T.own.cl, T.nM, by decide, ?_⟩
    refine ⟨_, rfl, _, rfl, x, cT, dx, _, rfl, upd_same, T.own.cl, T.nS, by show 1 < 1000; decide, ?_⟩
    refine go _ (fun b o e n => ?_) ⟨dx, upd_same⟩
    rw [upd_ne n, upd_ne n]
    exact s1 _ _ e
/-- self._moment, self._shift of a Term -/
def spGet (cT : Addr) (v : Str → Int → V) : Sp := fun vs H Q _ => ∃ (a : Addr) (z : Str) (i : Int), vs = [.ref a] ∧ TermAt cT H a z i ∧ Q (v z i) H
theorem scGet1 : FnScope ["self"] ["self"] (defScope m_Term_moment) := ⟨rfl, rfl, rfl, by decide +kernel, rfl, by decide +kernel, by decide +kernel⟩
theorem scGet2 : FnScope ["self"] ["self"] (defScope m_Term_shift) := ⟨rfl, rfl, rfl, by decide +kernel, rfl, by decide +kernel, by decide +kernel⟩
theorem ok_moment (T : TermF K cT) (F : Fun K "moment" "Term.moment" m_Term_moment f fd) : FnOk P w K mg base CX0 1 f fd ["self"] (spGet cT fun z _ => .str z) := by
  refine F.ok scGet1 (fun vs H Q E h => ?_) (fun cdv A outer s H vs Q E hr h => ?_)
  · obtain ⟨_, _, _, rfl, _⟩ := h
    rfl
  · obtain ⟨a, z, i, rfl, ⟨dx, ha⟩, go⟩ := h
    exact ⟨_, pss_one (ps_ret (pe_fld (pv 0) rfl)), ⟨_, rfl, a, cT, dx, _, _, rfl, ha, T.own.cl, T.nM, rfl, go⟩⟩
theorem ok_shiftP (T : TermF K cT) (F : Fun K "shift" "Term.shift" m_Term_shift f fd) : FnOk P w K mg base CX0 1 f fd ["self"] (spGet cT fun _ i => .int i) := by
  refine F.ok scGet2 (fun vs H Q E h => ?_) (fun cdv A outer s H vs Q E hr h => ?_)
  · obtain ⟨_, _, _, rfl, _⟩ := h
    rfl
  · obtain ⟨a, z, i, rfl, ⟨dx, ha⟩, go⟩ := h
    exact ⟨_, pss_one (ps_ret (pe_fld (pv 0) rfl)), ⟨_, rfl, a, cT, dx, _, _, rfl, ha, T.own.cl, T.nS, rfl, go⟩⟩
/-- a Term, called with times -/
def spCall (cT : Addr) : Sp := fun vs H Q _ => ∃ (a d : Addr) (z : Str) (i n : Int) (kvs : List (Key × V)), vs = [.ref a, .ref d] ∧ TermAt cT H a z i ∧ NamesAt H d kvs ∧ valV kvs (.inr z) = some (.int n) ∧ ∀ H', Same H H' → Q (.int (n + i)) H'
theorem scCall : FnScope ["self", "times"] ["self", "times"] (defScope m_Term___call__) := ⟨rfl, rfl, rfl, by decide +kernel, rfl, by decide +kernel, by decide +kernel⟩
theorem ok_call (T : TermF K cT) (DC : Def P w K mg base "check_times" ["value", "moments"] 4 (spCheck K)) (F : Fun K "__call__" "Term.__call__" m_Term___call__ f fd) : FnOk P w K mg base CX0 5 f fd ["self", "times"] (spCall cT) := by
  refine F.ok scCall (fun vs H Q E h => ?_) (fun cdv A outer s H vs Q E hr h => ?_)
  · obtain ⟨_, _, _, _, _, _, rfl, _⟩ := h
    rfl
  · obtain ⟨a, d, z, i, n, kvs, rfl, ⟨dx, ha⟩, na, hv, go⟩ := h
    refine ⟨_, pss_cons (ps_expr (callD DC hr rfl (pa_cons (pv 1) (pa_cons (pe_tup (pa_cons (pe_fld (pv 0) rfl) pa_nil)) pa_nil))))
      (pss_one (ps_ret (pe_op op_add (pe_dget (hu_of hr) (pv 1) (pe_fld (pv 0) rfl) (fun _ _ => rfl)) (pe_fld (pv 0) rfl)))), ?_⟩
    refine ⟨_, rfl, _, rfl, a, cT, dx, _, _, rfl, ha, T.own.cl, T.nM, rfl, by show 1 ≤ sizeLine; decide, fun t nt => ?_⟩
    have s1 := new_same (o := .tup [.str z]) nt
    refine ⟨d, t, kvs, [z], rfl, ⟨s1 _ _ na.1, na.2⟩, .inl (.inl upd_same), by show 1 ≤ 40; decide, fun y hy => ?_, fun H2 s2 => ?_⟩
    · rw [List.mem_singleton.mp hy, hv]
      rfl
    have s3 := s1.trans s2
    refine ⟨_, rfl, _, rfl, a, cT, dx, _, _, rfl, s3 _ _ ha, T.own.cl, T.nM, rfl, ?_⟩
    refine ⟨d, .int n, rfl, by rw [← hv]; exact DGet.k (k := Sum.inr z) (s3 _ _ na.1), ?_⟩
    exact ⟨_, rfl, a, cT, dx, _, .int i, rfl, s3 _ _ ha, T.own.cl, T.nS, rfl, n, i, rfl, rfl, go _ s3⟩
end
/-- Term(..), however it is called -/
structure MkT (P : Program) (w : World) (K : PySem.W.Frag) (mg : Str → Option Value) (base : Heap) (cT : Addr) : Prop where
  ex : ∃ (f : Addr) (fd : FuncData), Mk K cT f ∧ FnOk P w K mg base CX0 3 f fd ["self", "moment", "shift"] (spInit cT) ∧ mg "Term" = some (.ref cT) ∧ Binds K fd ["self", "moment", "shift"] [] ∧
    (∃ ds, Vals [.int 0] ds ∧ Binds K fd ["self", "moment", "shift"] ds) ∧
    (∃ g : List Value → List Value → List Value, KBn K fd ["self", "moment", "shift"] 1 ["shift", "moment"] g fun vs zs => vs ++ [zs.getD 1 .non, zs.getD 0 .non]) ∧
    (∃ g : List Value → List Value → List Value, KBn K fd ["self", "moment", "shift"] 1 ["moment"] g fun vs zs => vs ++ [zs.getD 0 .non, .int 0])
/-- what it asks of its arguments, and gives -/
def WT (cT : Addr) (z : Str) (i : Int) (H : Hp) (Q : VK) : Prop := Nm z ∧ ∀ x H', H x = none → Same H H' → TermAt cT H' x z i → Q (.ref x) H'
theorem WT.init {cT : Addr} {z : Str} {i : Int} {H : Hp} {Q : VK} (h : WT cT z i H Q) (x dx : Addr) (nx : H x = none) (ndx : H dx = none) (ne : dx ≠ x) : spInit cT [.ref x, .str z, .int i] (upd (upd H dx (.own x)) x (.ins cT dx [])) (fun v H2 => v = .non ∧ Q (.ref x) H2) E0 := by
  refine ⟨x, dx, z, i, rfl, h.1, upd_same, fun H' s t => ⟨rfl, h.2 x H' nx (fun b o e => ?_) t⟩⟩
  have n1 := ne_of_none e nx
  have n2 := ne_of_none e ndx
  refine s b o ?_ n1
  rw [upd_ne n1, upd_ne n2]
  exact e
section
variable {X : Cx} {cT : Addr}
def tMk2 (cT : Addr) (t : TA) : TE := fun σ H Q => t σ H fun vs H1 => ∃ z i, vs = [.str z, .int i] ∧ WT cT z i H1 Q
theorem mkT2 {e : Expr} {es : List Expr} {t : TA} {p pos : Pos} (M : MkT X.prog X.w X.K X.mg X.base cT) (hr : Room 4 X.A) (hg : Gl X "Term") (ha : PA X (e :: es) t)
    (he : starEach (e :: es) X.env = (false, eval e X.env) :: starEach es X.env := by rfl) (hpl : (backTo pos (starEach es X.env)).any (·.1) = false := by rfl) : PE X (.Call (.Name "Term" p) (e :: es) [] pos) (tMk2 cT t) := by
  obtain ⟨f, fd, m, F, hm, b, _⟩ := M.ex
  refine ⟨fun pins s σ H Q I h => ?_⟩
  refine wpAny_Call_Name_kw (ld_glob I hg hm ?_ (by decide))
  refine PySem.W.callWith_K (h₀ := X.base) I.ok.mod.kin m.kp (thn (ha.run pos pins s σ H _ I h) fun us s1 ⟨vs, H1, I1, r, z, i, e, q⟩ => ⟨I1.kIn, ?_⟩) he hpl
  subst e
  exact run_make m F hr b .nil pass0 I1 r q.init
def tMk1 (cT : Addr) (t : TA) : TE := fun σ H Q => t σ H fun vs H1 => ∃ z, vs = [.str z] ∧ WT cT z 0 H1 Q
theorem mkT1 {e : Expr} {es : List Expr} {t : TA} {p pos : Pos} (M : MkT X.prog X.w X.K X.mg X.base cT) (hr : Room 4 X.A) (hg : Gl X "Term") (ha : PA X (e :: es) t)
    (he : starEach (e :: es) X.env = (false, eval e X.env) :: starEach es X.env := by rfl) (hpl : (backTo pos (starEach es X.env)).any (·.1) = false := by rfl) : PE X (.Call (.Name "Term" p) (e :: es) [] pos) (tMk1 cT t) := by
  obtain ⟨f, fd, m, F, hm, _, ⟨ds, dv, b⟩, _⟩ := M.ex
  refine ⟨fun pins s σ H Q I h => ?_⟩
  refine wpAny_Call_Name_kw (ld_glob I hg hm ?_ (by decide))
  refine PySem.W.callWith_K (h₀ := X.base) I.ok.mod.kin m.kp (thn (ha.run pos pins s σ H _ I h) fun us s1 ⟨vs, H1, I1, r, z, e, q⟩ => ⟨I1.kIn, ?_⟩) he hpl
  subst e
  exact run_make m F hr b dv pass0 I1 r q.init
/-- Term(shift=.., moment=..) -/
def tMkSM (cT : Addr) (t : TA) : TE := fun σ H Q => t σ H fun vs H1 => ∃ z i, vs = [.int i, .str z] ∧ WT cT z i H1 Q
theorem mkSM {kws : List Keyword} {tk : TA} {p pos : Pos} (M : MkT X.prog X.w X.K X.mg X.base cT) (hr : Room 4 X.A) (hg : Gl X "Term") (hkw : PK X kws tk)
    (hall : (backToKw pos (keywordEach kws X.env)).all (·.1.isSome) = true := by rfl) (hks : (backToKw pos (keywordEach kws X.env)).filterMap (·.1) = (["shift", "moment"] : List Str) := by rfl)
    (hpl : ((backTo pos (starEach [] X.env)).any (·.1) || (backToKw pos (keywordEach kws X.env)).any (·.1.isNone)) = false := by rfl) : PE X (.Call (.Name "Term" p) [] kws pos) (tMkSM cT tk) := by
  obtain ⟨f, fd, m, F, hm, _, _, ⟨g, hb⟩, _⟩ := M.ex
  refine ⟨fun pins s σ H Q I h => ?_⟩
  refine wpAny_Call_Name_kw (ld_glob I hg hm ?_ (by decide))
  refine PySem.W.callWith_KW0 (h₀ := X.base) I.ok.mod.kin m.kp hall (thn (hkw.run pos pins s σ H _ I h) fun ws s2 ⟨zs, H2, I2, rz, z, i, e, q2⟩ => ⟨I2.kIn, ?_⟩) hpl
  subst e
  rw [hks]
  exact run_makeN (n := 0) (us := []) (vs := []) m F hr hb pass0 I2 .nil rz rfl rfl q2.init
/-- Term(moment=..) -/
theorem mkM {kws : List Keyword} {tk : TA} {p pos : Pos} (M : MkT X.prog X.w X.K X.mg X.base cT) (hr : Room 4 X.A) (hg : Gl X "Term") (hkw : PK X kws tk)
    (hall : (backToKw pos (keywordEach kws X.env)).all (·.1.isSome) = true := by rfl) (hks : (backToKw pos (keywordEach kws X.env)).filterMap (·.1) = (["moment"] : List Str) := by rfl)
    (hpl : ((backTo pos (starEach [] X.env)).any (·.1) || (backToKw pos (keywordEach kws X.env)).any (·.1.isNone)) = false := by rfl) : PE X (.Call (.Name "Term" p) [] kws pos) (tMk1 cT tk) := by
  obtain ⟨f, fd, m, F, hm, _, _, _, ⟨g, hb⟩⟩ := M.ex
  refine ⟨fun pins s σ H Q I h => ?_⟩
  refine wpAny_Call_Name_kw (ld_glob I hg hm ?_ (by decide))
  refine PySem.W.callWith_KW0 (h₀ := X.base) I.ok.mod.kin m.kp hall (thn (hkw.run pos pins s σ H _ I h) fun ws s2 ⟨zs, H2, I2, rz, z, e, q2⟩ => ⟨I2.kIn, ?_⟩) hpl
  subst e
  rw [hks]
  exact run_makeN (n := 0) (us := []) (vs := []) m F hr hb pass0 I2 .nil rz rfl rfl q2.init
end
section
variable {P : Program} {w : World} {K : PySem.W.Frag} {mg : Str → Option Value} {base : Heap} {f cT : Addr} {fd : FuncData}
/-- a Term and a number: the Term with another shift -/
def spPlus (cT : Addr) (op : Int → Int → Int) : Sp := fun vs H Q _ => ∃ (a : Addr) (z : Str) (i j : Int), vs = [.ref a, .int j] ∧ TermAt cT H a z i ∧ WT cT z (op i j) H Q
theorem scAdd : FnScope ["self", "other"] ["self", "other"] (defScope m_Term___add__) := ⟨rfl, rfl, rfl, by decide +kernel, rfl, by decide +kernel, by decide +kernel⟩
theorem ok_add (T : TermF K cT) (M : MkT P w K mg base cT) (DS : Def P w K mg base "check_shift" ["value"] 2 spShift) (F : Fun K "__add__" "Term.__add__" m_Term___add__ f fd) : FnOk P w K mg base CX0 5 f fd ["self", "other"] (spPlus cT fun i j => i + j) := by
  refine F.ok scAdd (fun vs H Q E h => ?_) (fun cdv A outer s H vs Q E hr h => ?_)
  · obtain ⟨_, _, _, _, rfl, _⟩ := h
    rfl
  · obtain ⟨a, z, i, j, rfl, ⟨dx, ha⟩, go⟩ := h
    refine ⟨_, pss_cons (ps_expr (callD DS (hr.mono (by decide)) rfl (pa_cons (pv 1) pa_nil)))
      (pss_one (ps_ret (mkT2 M hr rfl (pa_cons (pe_fld (pv 0) rfl) (pa_cons (pe_op op_add (pe_fld (pv 0) rfl) (pv 1)) pa_nil))))), ?_⟩
    refine ⟨_, rfl, j, rfl, ?_⟩
    refine ⟨_, rfl, a, cT, dx, _, _, rfl, ha, T.own.cl, T.nM, rfl, _, rfl, a, cT, dx, _, _, rfl, ha, T.own.cl, T.nS, rfl, _, rfl, i, j, rfl, rfl, z, i + j, rfl, go⟩
end
end E10

set_option Elab.async false
set_option linter.all false
set_option maxRecDepth 100000
set_option maxHeartbeats 8000000
namespace E10
open L2 PySem PySem.Spec PyProof.Rows
def Sn (i : Int) : Prop := i.natAbs < 10 ^ 61
section
variable {P : Program} {w : World} {K : PySem.W.Frag} {mg : Str → Option Value} {base : Heap} {f : Addr} {fd : FuncData}
def spNumber : Sp := fun vs H Q _ => ∃ a : Addr, vs = [.ref a] ∧ PotAt H a ∧ ∀ n H', Sn n → PotAt H' a → SameB a H H' → Q (.int n) H'
theorem scNumber : FnScope ["_law_pot_here", "_law_way", "_law_small", "_law_great"] ["_law_pot_here"] (defScope s__law_number) := ⟨rfl, rfl, rfl, by decide +kernel, rfl, by decide +kernel, by decide +kernel⟩
theorem sn_small {n : Int} (h : -100 ≤ n) (h' : n ≤ 100) : Sn n := by
  unfold Sn
  have : n.natAbs ≤ 100 := by omega
  exact Nat.lt_of_le_of_lt this (by decide +kernel)
theorem sn_great {d e : Int} (d0 : 0 ≤ d) (d1 : d < 1000000) (e0 : 0 ≤ e) (e1 : e < 1000000) : Sn (d * 10 ^ 44 + e) ∧ Sn (-(d * 10 ^ 44 + e)) := by
  have p : (0 : Int) ≤ 10 ^ 44 := by decide +kernel
  have b1 : 0 ≤ d * 10 ^ 44 := Int.mul_nonneg d0 p
  have b2 : d * 10 ^ 44 ≤ 1000000 * 10 ^ 44 := Int.mul_le_mul_of_nonneg_right (Int.le_of_lt d1) p
  have b3 : (1000000 : Int) < 9000000 * 10 ^ 44 := by decide +kernel
  have b4 : (1000000 : Int) * 10 ^ 44 + 9000000 * 10 ^ 44 ≤ 10 ^ 61 := by decide +kernel
  have c : ((10 ^ 61 : Nat) : Int) = (10 : Int) ^ 61 := by decide +kernel
  generalize hX : (10 : Int) ^ 44 = X at *
  generalize hY : (10 : Int) ^ 61 = Y at *
  unfold Sn
  generalize hZ : (10 ^ 61 : Nat) = Z at *
  generalize d * X = W at *
  constructor <;> omega
theorem ok_number (DD : Def P w K mg base "_law_draw" ["_law_pot_here", "_law_many"] 1 spDraw) (F : Fun K "_law_number" "_law_number" s__law_number f fd) : FnOk P w K mg base CX0 2 f fd ["_law_pot_here"] spNumber := by
  refine F.ok scNumber (fun vs H Q E h => ?_) (fun cdv A outer s H vs Q E hr h => ?_)
  · obtain ⟨_, rfl, _⟩ := h
    rfl
  · obtain ⟨a, rfl, hp, go⟩ := h
    refine ⟨_, pss_cons (ps_par (i := 1) (j := 2) (by rfl) scNumber.nd rfl rfl (by decide) rfl rfl (pa_cons (callD DD hr rfl (pa_cons (pv 0) (pa_cons pe_int pa_nil))) (pa_cons (pe_op op_sub (callD DD hr rfl (pa_cons (pv 0) (pa_cons pe_int pa_nil))) pe_int) pa_nil)) (by rfl))
      (pss_cons (ps_if (pt_cmpR op_lt (pv 1) pe_int (nomark _)) (pss_one (ps_ret (pe_ix ix_list (pe_lst (pa_cons pe_int (pa_cons (pv 2) (pa_cons (pv 2) pa_nil)))) (pv 1) (fun _ _ => rfl)))) pss_nil)
      (pss_cons (ps_set (i := 3) scNumber.nd rfl (Or.inl rfl) (pe_op op_add (pe_op op_mul (callD DD hr rfl (pa_cons (pv 0) (pa_cons (pe_op op_pow pe_int pe_int) pa_nil))) (pe_op op_pow pe_int pe_int)) (callD DD hr rfl (pa_cons (pv 0) (pa_cons (pe_op op_pow pe_int pe_int) pa_nil)))))
      (pss_one (ps_ret (pe_ifExp (pt_cmpR op_eq (pv 1) pe_int (nomark _)) (pv 3) (pe_un un_neg (pv 3))))))), ?_⟩
    refine ⟨_, rfl, a, 5, rfl, hp, by decide, by decide, fun d H1 d0 d5 p1 s1 => ?_⟩
    refine ⟨_, rfl, a, 9, rfl, p1, by decide, by decide, fun e H2 e0 e9 p2 s2 => ?_⟩
    have s12 := s1.trans s2
    refine ⟨_, 4, rfl, rfl, _, _, rfl, ?_⟩
    refine ⟨_, rfl, _, _, rfl, rfl, _, rfl, ?_⟩
    refine ite2 (fun lt => ?_) (fun _ => ?_)
    · have lt' : d < 3 := of_decide_eq_true lt
      refine ⟨_, rfl, _, rfl, by show 3 ≤ sizeLine; decide, fun p np => ?_⟩
      have s3 := new_same (o := .lst [.int 0, .int (e - 4), .int (e - 4)]) np
      have fin : ∀ n, Sn n → Q (.int n) (upd H2 p (.lst [.int 0, .int (e - 4), .int (e - 4)])) := fun n hn => go n _ hn (p2.sm s3) (s12.trans (SameB.of s3))
      obtain ⟨k, rfl⟩ := Int.eq_ofNat_of_zero_le d0
      have hk : k < 3 := by omega
      match k, hk with
      | 0, _ => exact ⟨_, rfl, p, _, _, .int 0, rfl, rfl, .inl (.inl upd_same), rfl, fin 0 (sn_small (by decide) (by decide))⟩
      | 1, _ => exact ⟨_, rfl, p, _, _, .int (e - 4), rfl, rfl, .inl (.inl upd_same), rfl, fin _ (sn_small (by omega) (by omega))⟩
      | 2, _ => exact ⟨_, rfl, p, _, _, .int (e - 4), rfl, rfl, .inl (.inl upd_same), rfl, fin _ (sn_small (by omega) (by omega))⟩
    · refine ⟨_, rfl, 10, 6, rfl, rfl, ⟨by decide, by decide, by decide⟩, a, _, rfl, p2, by decide, by decide, fun g H3 g0 g6 p3 s3 => ?_⟩
      have six : (10 : Int) ^ (6 : Int).toNat = 1000000 := by decide
      have gl : g < 2 ^ 64 := by omega
      have gm : -(2 ^ 64) < g := by omega
      refine ⟨10, 44, rfl, rfl, ⟨by decide, by decide, by decide⟩, _, _, rfl, rfl, .inl ⟨gm, gl⟩, ?_⟩
      refine ⟨_, rfl, 10, 6, rfl, rfl, ⟨by decide, by decide, by decide⟩, a, _, rfl, p3, by decide, by decide, fun h H4 h0 h6 p4 s4 => ?_⟩
      obtain ⟨y1, y2⟩ := sn_great g0 (by omega) h0 (by omega)
      have s14 := (s12.trans s3).trans s4
      refine ⟨_, _, rfl, rfl, ?_⟩
      refine ⟨_, rfl, rfl, _, rfl, ?_⟩
      refine ite2 (fun _ => ⟨_, rfl, go _ _ y1 p4 s14⟩) (fun _ => ⟨_, rfl, _, rfl, go _ _ y2 p4 s14⟩)
end
end E10

set_option Elab.async false
set_option linter.all false
set_option maxRecDepth 100000
set_option maxHeartbeats 4000000
namespace E10
open L2 PySem PySem.Spec PyProof.Rows
/-! ### names, mathematically -/
def ch (c : Nat) : Str := ⟨#[c]⟩
theorem fold_ch : ∀ (cs : List Nat) (acc : Array Nat), (cs.map ch).foldl (fun acc p => acc ++ ("" : Str).cps ++ p.cps) acc = acc ++ cs.toArray
  | [], acc => by simp
  | c :: cs, acc => by
    rw [List.map_cons, List.foldl_cons, fold_ch cs]
    have e : ("" : Str).cps = #[] := rfl
    rw [e]
    show acc ++ #[] ++ #[c] ++ cs.toArray = acc ++ (c :: cs).toArray
    simp
theorem join_ch (cs : List Nat) : Txt.join "" (cs.map ch) = ⟨cs.toArray⟩ := by
  unfold Txt.join
  rw [PySem.StrLaws.glued_eq_join]
  cases cs with
  | nil => rfl
  | cons c cs =>
    rw [List.map_cons, ← PySem.StrLaws.glued_cons, fold_ch]
    refine Str.ext' ?_
    show #[c] ++ cs.toArray = (c :: cs).toArray
    simp
theorem nm_of {cs : List Nat} (h0 : 0 < cs.length) (h8 : cs.length ≤ 8) (h : ∀ c ∈ cs, 97 ≤ c ∧ c ≤ 122) : Nm ⟨cs.toArray⟩ := ⟨by simpa [Str.length] using h0, by simpa [Str.length] using h8, by simpa using h⟩
theorem cut_six (z : Str) : (cutS z none (some 6)).cps.toList = z.cps.toList.take 6 := by
  unfold cutS
  rw [HT.sIx_none, show (some (6 : Int)) = some ((6 : Nat) : Int) from rfl, HT.sIx_nat]
  rw [List.drop_zero, Nat.sub_zero, List.toList_toArray]
  by_cases h : 6 ≤ z.length
  · rw [Nat.min_eq_left h]
  · rw [Nat.min_eq_right (by omega)]
    have e : z.length = z.cps.toList.length := by simp [Str.length]
    rw [List.take_of_length_le (by omega), List.take_of_length_le (by omega)]
/-- the further names that are drawn from a word -/
def vari (w : Str) (c : Nat) : Str := (cutS w none (some 6) ++ ch c) ++ ("q" : Str)
theorem vari_list (w : Str) (c : Nat) : (vari w c).cps.toList = w.cps.toList.take 6 ++ [c, 113] := by
  unfold vari
  rw [Str.cps_append, Str.cps_append, Array.toList_append, Array.toList_append, cut_six]
  show w.cps.toList.take 6 ++ [c] ++ [113] = _
  simp
theorem vari_nm {w : Str} {c : Nat} (h : Nm w) (hc : 97 ≤ c ∧ c ≤ 122) : Nm (vari w c) := by
  have e : vari w c = ⟨(w.cps.toList.take 6 ++ [c, 113]).toArray⟩ := by
    refine Str.ext' ?_
    apply Array.toList_inj.mp
    rw [vari_list]
  rw [e]
  refine nm_of (by simp) ?_ fun d hd => ?_
  · rw [List.length_append, List.length_take]
    simp
    omega
  · rcases List.mem_append.mp hd with q | q
    · exact h.abc d (List.mem_of_mem_take q)
    · simp at q
      omega
theorem vari_inj {w : Str} {c d : Nat} (h : vari w c = vari w d) : c = d := by
  have e := congrArg (fun z : Str => z.cps.toList) h
  simp only [vari_list] at e
  have := List.append_cancel_left e
  simp at this
  exact this
theorem nodup_le : ∀ {l m : List Str}, l.Nodup → (∀ x ∈ l, x ∈ m) → l.length ≤ m.length
  | [], _, _, _ => Nat.zero_le _
  | x :: l, m, nd, h => by
    rw [List.nodup_cons] at nd
    have hx := h x List.mem_cons_self
    have e : (m.erase x).length = m.length - 1 := List.length_erase_of_mem hx
    have r := nodup_le (l := l) (m := m.erase x) nd.2 fun y hy => by
      have ne : y ≠ x := fun q => nd.1 (q ▸ hy)
      exact (List.mem_erase_of_ne ne).mpr (h y (List.mem_cons_of_mem _ hy))
    have : 0 < m.length := List.length_pos_of_mem hx
    rw [List.length_cons]
    omega
theorem nodup_vari (w : Str) : ∀ {l : List Nat}, l.Nodup → (l.map (vari w)).Nodup
  | [], _ => List.nodup_nil
  | c :: l, h => by
    rw [List.nodup_cons] at h
    rw [List.map_cons, List.nodup_cons]
    refine ⟨fun m => ?_, nodup_vari w h.2⟩
    obtain ⟨d, hd, e⟩ := List.mem_map.mp m
    exact h.1 (vari_inj e ▸ hd)
/-- of 26 further names one is not among twelve -/
theorem fresh_vari (w : Str) {l : List Nat} (nd : l.Nodup) (many : 12 < l.length) {zs : List Str} (few : zs.length ≤ 12) : ∃ c ∈ l, vari w c ∉ zs := by
  refine Classical.byContradiction fun no => ?_
  have all : ∀ x ∈ l.map (vari w), x ∈ zs := fun x hx => by
    obtain ⟨c, hc, rfl⟩ := List.mem_map.mp hx
    exact Classical.byContradiction fun q => no ⟨c, hc, q⟩
  have := nodup_le (nodup_vari w nd) all
  rw [List.length_map] at this
  omega
theorem inV_str (z : Str) (zs : List Str) : inV (.str z) (zs.map V.str) = decide (z ∈ zs) := by
  unfold inV
  rw [List.any_map]
  rw [Bool.eq_iff_iff]
  simp only [List.any_eq_true, decide_eq_true_eq, Function.comp]
  constructor
  · rintro ⟨y, hy, e⟩
    have : y = z := by simpa [eqV] using e
    exact this ▸ hy
  · intro h
    exact ⟨z, h, by simp [eqV]⟩
end E10

set_option Elab.async false
set_option linter.all false
set_option maxRecDepth 100000
set_option maxHeartbeats 8000000
namespace E10
open L2 PySem PySem.Spec PyProof.Rows
abbrev abc : Str := "abcdefghijklmnopqrstuvwxyz"
theorem abc_at {i c : Nat} (h : abc.cps[i]? = some c) : i < 26 ∧ c = 97 + i := by
  have hi : i < abc.cps.size := (Array.getElem?_eq_some_iff.mp h).1
  have e : abc.cps.size = 26 := by decide +kernel
  have all : ∀ k : Fin 26, abc.cps[k.val]? = some (97 + k.val) := by decide +kernel
  have := all ⟨i, by omega⟩
  simp only at this
  rw [this] at h
  exact ⟨by omega, (Option.some.inj h).symm⟩
theorem abc_mem {c : Nat} (h : c ∈ abc.cps.toList) : 97 ≤ c ∧ c ≤ 122 := by
  obtain ⟨i, hi⟩ := List.getElem?_of_mem h
  rw [Array.getElem?_toList] at hi
  have := abc_at hi
  omega
theorem sum_ch : ∀ cs : List Nat, ((cs.map ch).map (·.length)).sum = cs.length
  | [] => rfl
  | c :: cs => by
    rw [List.map_cons, List.map_cons, List.sum_cons, sum_ch cs, List.length_cons]
    show 1 + cs.length = cs.length + 1
    omega
theorem PotAt.upd {H : Hp} {a D : Addr} {o : HO} (h : PotAt H a) (n : D ≠ a) : PotAt (L2.upd H D o) a := by
  obtain ⟨x, y, e, r⟩ := h
  exact ⟨x, y, (upd_ne n.symm).trans e, r⟩
section
variable {P : Program} {w : World} {K : PySem.W.Frag} {mg : Str → Option Value} {base : Heap} {f : Addr} {fd : FuncData}
/-- so many names -/
def spNames : Sp := fun vs H Q _ => ∃ (a : Addr) (m : Nat), vs = [.ref a, .int m] ∧ PotAt H a ∧ m ≤ 12 ∧ ∀ p H' (zs : List Str), zs.length = m → (∀ z ∈ zs, Nm z) → H p = none → H' p = some (.lst (zs.map V.str)) → PotAt H' a → SameB a H H' → Q (.ref p) H'
abbrev nNames : List Str := ["_law_pot_here", "_law_many", "_law_letters", "_law_found", "_law_k", "_law_size", "_law_word", "_law_some", "_law_turn", "_law_letter", "_law_name"]
theorem scNames : FnScope nNames ["_law_pot_here", "_law_many"] (defScope s__law_names) := ⟨rfl, rfl, rfl, by decide +kernel, rfl, by decide +kernel, by decide +kernel⟩
theorem ok_names (N : Nam mg) (DC : Def P w K mg base "_law_choice" ["_law_pot_here", "_law_some"] 2 spChoice) (F : Fun K "_law_names" "_law_names" s__law_names f fd) : FnOk P w K mg base CX0 3 f fd ["_law_pot_here", "_law_many"] spNames := by
  refine F.ok scNames (fun vs H Q E h => ?_) (fun cdv A outer s H vs Q E hr h => ?_)
  · obtain ⟨_, _, rfl, _⟩ := h
    rfl
  · obtain ⟨a, m, rfl, hp, hm, go⟩ := h
    refine ⟨_, pss_cons (ps_asg (pe_tup (pa_cons pe_str (pa_cons (pe_lst pa_nil) pa_nil))) (pg_tup rfl (pgs_cons (pg_name (i := 2) scNames.nd rfl (Or.inr rfl)) (pgs_cons (pg_name (i := 3) scNames.nd rfl (Or.inr rfl)) pgs_nil))))
      (pss_cons (ps_for PassesOwn.never rfl (pi_range1 rfl N.rng (pa_cons (pv 1) pa_nil)) (pg_name (i := 4) scNames.nd rfl (Or.inl rfl))
        (pss_cons (ps_set (i := 5) scNames.nd rfl (Or.inl rfl) (callD DC hr rfl (pa_cons (pv 0) (pa_cons (pe_lst (pa_cons pe_int (pa_cons pe_int (pa_cons pe_int (pa_cons pe_int (pa_cons pe_int pa_nil)))))) pa_nil))))
        (pss_cons (ps_set (i := 6) scNames.nd rfl (Or.inr rfl) (pe_join pe_str (pe_lc (own := [("_law_turn", 8)]) (g := gName 8) (tt := tYes) rfl scNames.nd (pi_range1 rfl N.rng (pa_cons (pv 5) pa_nil))
          (blkOk_by (own := [("_law_turn", 8)]) (N := nNames) (sc := defScope s__law_names) (by decide +kernel)) (fun _ _ _ _ _ => pg_name (i := 8) scNames.nd rfl (Or.inl rfl)) (fun _ _ _ _ _ => pts_nil)
          (fun _ _ _ _ _ => callD DC hr rfl (pa_cons (pv 0) (pa_cons (pv 2) pa_nil))))))
        (pss_cons (ps_set (i := 7) scNames.nd rfl (Or.inl rfl) (pe_op op_cat (pe_lst (pa_cons (pv 6) pa_nil)) (pe_lc (own := [("_law_letter", 9)]) (g := gName 9) (tt := tYes) rfl scNames.nd (pi_str (pv 2))
          (blkOk_by (own := [("_law_letter", 9)]) (N := nNames) (sc := defScope s__law_names) (by decide +kernel)) (fun _ _ _ _ _ => pg_name (i := 9) scNames.nd rfl (Or.inl rfl)) (fun _ _ _ _ _ => pts_nil)
          (fun _ _ _ _ _ => pe_op op_add_str (pe_op op_add_str (pe_slice sl_str (pv 6) po_none (po_some pe_int)) (pv 9)) pe_str))))
        (pss_one (ps_expr (pe_bm PySem.F.plainAttrs_list PySem.F.slot_list_append PySem.F.type_list_append mt_append (pv 3) (pa_cons (pe_ix ix_list (pe_lc (own := [("_law_name", 10)]) (g := gName 10) (tt := tTest (tOp (rIn K true) (tVar 10) (tVar 3))) rfl scNames.nd (pi_list (pv 7))
          (blkOk_by (own := [("_law_name", 10)]) (N := nNames) (sc := defScope s__law_names) (by decide +kernel)) (fun _ _ _ _ _ => pg_name (i := 10) scNames.nd rfl (Or.inl rfl)) (fun _ _ _ _ _ => pts_one (pt_cmpR op_notIn_seq (pv 10) (pv 3) (by rfl)))
          (fun _ _ _ _ _ => pv 10)) pe_int (fun _ _ => rfl)) pa_nil))))))))
      (pss_one (ps_ret (pv 3)))), ?_⟩
    refine ⟨by show 0 ≤ sizeLine; decide, fun L nL => ⟨by show 2 ≤ sizeLine; decide, fun T nT => ?_⟩⟩
    obtain ⟨x0, y0, ha, hxy⟩ := id hp
    have La : L ≠ a := (ne_of_none ha nL).symm
    have s0 := new_same (o := .lst []) nL
    have s1 := s0.trans (new_same (o := .tup [.str abc, .ref L]) nT)
    have hL : upd (upd H L (.lst [])) T (.tup [.str abc, .ref L]) L = some (.lst []) := (new_same nT) _ _ upd_same
    refine ⟨T, _, rfl, .inl (.inl upd_same), rfl, _, _, rfl, _, _, rfl, rfl, ?_⟩
    refine ⟨_, rfl, _, rfl, by omega, by omega, ?_⟩
    have em : ((m : Int)).toNat = m := rfl
    refine for_it (walk_range (lo := 0) (n := ((m : Int)).toNat)) (fun i σ H' => ∃ (zs : List Str) (u4 u5 u6 u7 u8 u9 u10 : Option V), σ = [some (.ref a), some (.int m), some (.str abc), some (.ref L), u4, u5, u6, u7, u8, u9, u10] ∧ zs.length = i ∧ (∀ z ∈ zs, Nm z) ∧
      H' L = some (.lst (zs.map V.str)) ∧ PotAt H' a ∧ SameB a H H') ⟨[], _, _, _, _, _, _, _, rfl, rfl, (fun z h => by cases h), hL, hp.sm s1, SameB.of s1⟩ (fun _ _ _ _ _ => True.intro) ?_ ?_
    · rintro i x σ H1 H1' lt ⟨zs, u4, u5, u6, u7, u8, u9, u10, rfl, lz, az, hLz, p1, sb1⟩ ⟨rfl, rfl⟩
      have few : zs.length ≤ 12 := by rw [em] at lt; omega
      -- the size
      refine ⟨_, rfl, by show 5 ≤ sizeLine; decide, fun q nq => ?_⟩
      have sq := new_same (o := .lst [.int 1, .int 1, .int 2, .int 3, .int 8]) nq
      have qa : q ≠ a := by
        obtain ⟨_, _, e, _⟩ := p1
        exact (ne_of_none e nq).symm
      refine ⟨a, .ref q, rfl, p1.sm sq, .inl ⟨q, _, rfl, upd_same, qa, by decide, by decide, fun v hv H2 p2 sb2 => ?_⟩⟩
      obtain ⟨n, rfl, n1, n8⟩ : ∃ n : Nat, v = .int n ∧ 0 < n ∧ n ≤ 8 := by
        simp only [List.mem_cons, List.not_mem_nil, or_false] at hv
        rcases hv with rfl | rfl | rfl | rfl | rfl
        · exact ⟨1, rfl, by decide, by decide⟩
        · exact ⟨1, rfl, by decide, by decide⟩
        · exact ⟨2, rfl, by decide, by decide⟩
        · exact ⟨3, rfl, by decide, by decide⟩
        · exact ⟨8, rfl, by decide, by decide⟩
      have hL2 : H2 L = some (.lst (zs.map V.str)) := sb2 _ _ (sq _ _ hLz) La
      have sb12 := (sb1.trans (SameB.of sq)).trans sb2
      -- the word
      refine ⟨⟨_, rfl⟩, _, rfl, _, rfl, by omega, by omega, fun D nD => ?_⟩
      have Da : D ≠ a := by
        obtain ⟨_, _, e, _⟩ := p2
        exact (ne_of_none e nD).symm
      refine lc_it (walk_range (lo := 0) (n := ((n : Int)).toNat)) (fun j H3 => PotAt H3 a ∧ SameB a H2 H3 ∧ ∃ cs : List Nat, cs.length = j ∧ (∀ c ∈ cs, 97 ≤ c ∧ c ≤ 122) ∧ H3 D = some (.lst ((cs.map ch).map V.str)))
        ⟨p2.sm (new_same nD), SameB.of (new_same nD), [], rfl, fun c h => (by cases h), upd_same⟩ (fun _ _ _ _ => True.intro) ?_ ?_
      · rintro j y H3 H3' lj ⟨p3, sb3, cs, lc, ac, hD⟩ ⟨rfl, rfl⟩
        refine ⟨rfl, ?_⟩
        refine ⟨_, rfl, _, rfl, a, .str abc, rfl, p3, .inr ⟨abc, rfl, by decide, by decide, fun c hc H4 p4 sb4 => ?_⟩⟩
        have hD4 := sb4 _ _ hD Da
        refine ⟨_, hD4, ?_, p4.upd Da, fun b o e nb => ?_, cs ++ [c], by rw [List.length_append, lc]; rfl, fun d hd => ?_, ?_⟩
        · rw [List.length_map, List.length_map, lc]
          have : j < 8 := by have : ((n : Int)).toNat = n := rfl; omega
          exact Nat.lt_trans this (by decide)
        · rw [upd_ne (ne_of_none e nD)]
          exact sb4 _ _ (sb3 _ _ e nb) nb
        · rcases List.mem_append.mp hd with h | h
          · exact ac d h
          · rw [List.mem_singleton.mp h]
            exact abc_mem hc
        · rw [upd_same, List.map_append, List.map_append]
          rfl
      · rintro H3 ⟨p3, sb3, cs, lc, ac, hD⟩
        have en : ((n : Int)).toNat = n := rfl
        refine ⟨_, D, cs.map ch, rfl, rfl, .inl (.inl (.inl hD)), ?_, ?_⟩
        · rw [sum_ch, List.length_map, show (("" : String) : Str).length = 0 from rfl]
          omega
        rw [join_ch]
        have nw : Nm ⟨cs.toArray⟩ := nm_of (by omega) (by omega) ac
        generalize (⟨cs.toArray⟩ : Str) = wd at nw
        have hL3 : H3 L = some (.lst (zs.map V.str)) := sb3 _ _ hL2 La
        have sb13 := sb12.trans sb3
        -- the word and the further ones
        refine ⟨_, rfl, by show 1 ≤ sizeLine; decide, fun q1 nq1 => ?_⟩
        have sq1 := new_same (o := .lst [.str wd]) nq1
        refine ⟨_, rfl, _, rfl, fun D2 nD2 => ?_⟩
        refine lc_map (walk_str (z := abc)) (fun i => .str (vari wd (97 + i))) nD2 (by decide +kernel) (fun _ _ => True.intro) (fun _ _ _ _ y => by rw [y.1]; exact Same.refl _) ?_ ?_
        · rintro j y H4 H4' R lj sm _ ⟨rfl, c, hc, rfl⟩ go2
          obtain ⟨_, rfl⟩ := abc_at hc
          refine ⟨rfl, ?_⟩
          have wl : wd.length ≤ sizeLine := Nat.le_trans nw.le (by decide)
          have vl : (vari wd (97 + j)).length ≤ 8 := (vari_nm nw (by omega)).le
          have vl' : (cutS wd none (some 6)).length + 1 + 1 ≤ 8 := by
            have e : (vari wd (97 + j)).length = (cutS wd none (some 6)).length + 1 + 1 := by
              unfold vari
              rw [strLen_append, strLen_append]
              rfl
            omega
          have line : (8 : Nat) ≤ sizeLine := by decide
          refine ⟨_, rfl, 6, rfl, wd, rfl, wl, _, rfl, _, _, rfl, rfl, ?_, _, _, rfl, rfl, ?_, ?_⟩
          · show (cutS wd none (some 6)).length + 1 ≤ sizeLine
            omega
          · show ((cutS wd none (some 6)) ++ ch (97 + j)).length + 1 ≤ sizeLine
            rw [strLen_append]
            show (cutS wd none (some 6)).length + 1 + 1 ≤ sizeLine
            omega
          · exact go2 _ (Same.refl _)
        · intro H4 s4 hD2
          rw [show abc.cps.size = 26 by decide +kernel] at hD2
          have s34 := sq1.trans s4
          have hq1 := s4 _ _ upd_same
          refine ⟨q1, D2, _, _, rfl, rfl, hq1, hD2, by rw [List.length_map, List.length_range]; show 1 + 26 ≤ sizeLine; decide, fun r nr => ?_⟩
          have ew : [V.str wd] ++ (List.range 26).map (fun i => V.str (vari wd (97 + i))) = (wd :: (List.range 26).map fun i => vari wd (97 + i)).map V.str := by
            rw [List.map_cons, List.map_map]
            rfl
          rw [ew]
          have hw : ∀ y ∈ (wd :: (List.range 26).map fun i => vari wd (97 + i)), Nm y := fun y hy => by
            rcases List.mem_cons.mp hy with rfl | hy
            · exact nw
            · obtain ⟨k, hk, rfl⟩ := List.mem_map.mp hy
              have := List.mem_range.mp hk
              exact vari_nm nw (by omega)
          have some_new : ∃ y ∈ (wd :: (List.range 26).map fun i => vari wd (97 + i)), y ∉ zs := by
            obtain ⟨c, hc, q⟩ := fresh_vari wd (l := (List.range 26).map (97 + ·)) (by decide +kernel) (by decide +kernel) few
            obtain ⟨k, hk, rfl⟩ := List.mem_map.mp hc
            exact ⟨_, List.mem_cons_of_mem _ (List.mem_map.mpr ⟨k, hk, rfl⟩), q⟩
          have lw : (wd :: (List.range 26).map fun i => vari wd (97 + i)).length = 27 := by rw [List.length_cons, List.length_map, List.length_range]
          generalize (wd :: (List.range 26).map fun i => vari wd (97 + i)) = ws at hw some_new lw
          have s5 := new_same (o := .lst (ws.map V.str)) nr
          have s35 := s34.trans s5
          have hL5 := s35 _ _ hL3
          -- the first that is not there yet
          refine ⟨_, rfl, Or.inl ⟨rfl, _, Or.inl (Or.inl hL5)⟩, _, rfl, r, rfl, ⟨_, .inl (.inl upd_same)⟩, fun D3 nD3 => ?_⟩
          refine lc_it (walk_list (xs := ws.map V.str)) (fun j H6 => Same (upd H4 r (.lst (ws.map V.str))) H6 ∧ H6 D3 = some (.lst (((ws.take j).filter fun y => !decide (y ∈ zs)).map V.str))) ⟨new_same nD3, upd_same⟩ (fun j H6 _ h => .inl (.inl (h.1 _ _ upd_same))) ?_ ?_
          · rintro j y H6 H6' lj ⟨s6, hD3⟩ ⟨rfl, hy⟩
            obtain ⟨z, hz, rfl⟩ : ∃ z, ws[j]? = some z ∧ y = .str z := by
              rw [List.getElem?_map] at hy
              cases hq : ws[j]? with
              | none => rw [hq] at hy; cases hy
              | some z => rw [hq] at hy; exact ⟨z, rfl, (Option.some.inj hy).symm⟩
            refine ⟨rfl, ?_⟩
            refine ⟨_, rfl, _, rfl, L, zs.map V.str, rfl, .inl (.inl (.inl (s6 _ _ hL5))), rfl, ?_, _, rfl, ?_⟩
            · rw [List.all_map]
              exact List.all_eq_true.mpr fun _ _ => rfl
            rw [inV_str]
            have et : ws.take (j + 1) = ws.take j ++ [z] := by rw [List.take_add_one, hz]; rfl
            by_cases m : z ∈ zs
            · rw [decide_eq_true m]
              refine ⟨s6, ?_⟩
              rw [et, List.filter_append]
              have e0 : ([z].filter fun y => !decide (y ∈ zs)) = [] := by simp [m]
              rw [e0, List.append_nil]
              exact hD3
            · rw [decide_eq_false m]
              refine ⟨_, rfl, _, hD3, ?_, fun b o e => ?_, ?_⟩
              · rw [List.length_map]
                have l1 := List.length_filter_le (fun y => !decide (y ∈ zs)) (ws.take j)
                have l2 : (ws.take j).length ≤ 27 := by rw [List.length_take]; omega
                exact Nat.lt_of_le_of_lt (Nat.le_trans l1 l2) (by decide)
              · rw [upd_ne (ne_of_none e nD3)]
                exact s6 _ _ e
              · rw [upd_same, et, List.filter_append]
                have e0 : ([z].filter fun y => !decide (y ∈ zs)) = [z] := by simp [m]
                rw [e0, List.map_append]
                rfl
          · rintro H6 ⟨s6, hD3⟩
            rw [List.length_map, List.take_length] at hD3
            obtain ⟨y0, hy0, ny0⟩ := some_new
            have ne : (ws.filter fun y => !decide (y ∈ zs)) ≠ [] := fun q => by
              have : y0 ∈ (ws.filter fun y => !decide (y ∈ zs)) := List.mem_filter.mpr ⟨hy0, by simp [ny0]⟩
              rw [q] at this
              cases this
            obtain ⟨y1, rest, ef⟩ := List.exists_cons_of_ne_nil ne
            have ny1 : Nm y1 := hw y1 (List.mem_filter.mp (ef ▸ List.mem_cons_self : y1 ∈ ws.filter fun y => !decide (y ∈ zs))).1
            rw [ef, List.map_cons] at hD3
            have s36 := s35.trans s6
            have hL6 := s6 _ _ hL5
            refine ⟨D3, _, 0, .str y1, rfl, rfl, .inl (.inl hD3), atI_nat (j := 0) rfl, ?_⟩
            refine ⟨L, _, _, rfl, rfl, hL6, ?_, ?_⟩
            · rw [List.length_map]
              exact Nat.lt_of_le_of_lt few (by decide)
            refine ⟨zs ++ [y1], _, _, _, _, _, _, _, rfl, by rw [List.length_append, lz]; rfl, fun z hz => ?_, ?_, (p3.sm s36).upd La, fun b o e nb => ?_⟩
            · rcases List.mem_append.mp hz with h | h
              · exact az z h
              · rw [List.mem_singleton.mp h]
                exact ny1
            · rw [upd_same, List.map_append]
              rfl
            · rw [upd_ne (ne_of_none e nL)]
              exact s36 _ _ (sb13 _ _ e nb)
    · rintro σ H3 ⟨zs, u4, u5, u6, u7, u8, u9, u10, rfl, lz, az, hLz, p1, sb1⟩
      exact ⟨_, rfl, go L H3 zs lz az nL hLz p1 sb1⟩
end
end E10

set_option Elab.async false
set_option linter.all false
set_option maxRecDepth 100000
set_option maxHeartbeats 8000000
namespace E10
open L2 PySem PySem.Spec PyProof.Rows
/-! ### rows of names and numbers, and dicts made of them -/
theorem wipe_two (σ : L2.St) (u v : Nat) (a b : Option V) : wipe (List.set (List.set (wipe σ [u, v]) u a) v b) [u, v] = wipe σ [u, v] := by
  simp only [wipe]
  apply List.ext_getElem?
  intro k
  simp only [List.getElem?_set, List.length_set]
  split <;> split <;> simp_all
theorem PotAt.at_ {H : Hp} {a : Addr} (p : PotAt H a) : ∃ o, H a = some o := by
  obtain ⟨_, _, e, _⟩ := p
  exact ⟨_, e⟩
theorem PotAt.ne {H : Hp} {a b : Addr} {o : HO} (p : PotAt H a) (h : H b = some o) (k : ∀ xs, o ≠ .lst xs) : b ≠ a := by
  rintro rfl
  obtain ⟨_, _, e, _⟩ := p
  rw [h] at e
  exact k _ (Option.some.inj e)
theorem PotAt.new {H : Hp} {a b : Addr} (p : PotAt H a) (h : H b = none) : b ≠ a := by
  obtain ⟨o, e⟩ := p.at_
  exact (ne_of_none e h).symm
theorem mem_put {m : Tb} {z : Str} {i : Int} {p : Str × Int} (h : p ∈ put m z i) : p ∈ m ∨ p = (z, i) := by
  unfold put at h
  split at h
  · obtain ⟨q, hq, e⟩ := List.mem_map.mp h
    by_cases c : q.1 = z
    · rw [if_pos c] at e
      exact .inr (by rw [← e, c])
    · rw [if_neg c] at e
      exact .inl (e ▸ hq)
  · rcases List.mem_append.mp h with h | h
    · exact .inl h
    · exact .inr (List.mem_singleton.mp h)
theorem mem_ofRows : ∀ {rows acc : Tb} {p : Str × Int}, p ∈ ofRows acc rows → p ∈ acc ∨ p ∈ rows
  | [], _, _, h => .inl h
  | q :: r, acc, p, h => by
    rcases mem_ofRows (rows := r) (acc := put acc q.1 q.2) h with h | h
    · rcases mem_put h with h | rfl
      · exact .inl h
      · exact .inr (.head _)
    · exact .inr (.tail _ h)
/-- a table of names with numbers that are not too great -/
structure Tbl (B : Int → Prop) (n : Nat) (m : Tb) : Prop where
  ok : Okt m
  pos : 0 < m.length
  le : m.length ≤ n
  sn : ∀ p ∈ m, B p.2
theorem Tbl.of {B : Int → Prop} {n : Nat} {rows : Tb} (nm : ∀ p ∈ rows, Nm p.1) (pos : 0 < rows.length) (le : rows.length ≤ n) (sn : ∀ p ∈ rows, B p.2) : Tbl B n (ofRows [] rows) := by
  refine ⟨⟨fun p hp => ?_, ofRows_nodup List.nodup_nil⟩, ?_, ?_, fun p hp => ?_⟩
  · rcases mem_ofRows hp with h | h
    · cases h
    · exact nm p h
  · cases rows with
    | nil => exact pos
    | cons p r =>
      have : p.1 ∈ keys (ofRows [] (p :: r)) := ofRows_keys.mpr (.inr (.head _))
      rw [← keys_len]
      exact List.length_pos_of_mem this
  · have := ofRows_len (rows := rows) (acc := [])
    simp at this
    omega
  · rcases mem_ofRows hp with h | h
    · cases h
    · exact sn p h
theorem Tbl.g0 {B : Int → Prop} {n : Nat} {m : Tb} (h : Tbl B n m) {z : Str} (k : z ∈ keys m) : B (g0 m z) := h.sn _ (gv_mem (gv_g0 k))
/-- tuples of the rows at these places -/
def RowsAt (H : Hp) (ps : List Addr) (rows : Tb) : Prop := Paired (fun p r => H p = some (.tup [.str r.1, .int r.2])) ps rows
theorem RowsAt.mono {H H' : Hp} : ∀ {ps : List Addr} {rows : Tb}, (∀ p xs, H p = some (.tup xs) → H' p = some (.tup xs)) → RowsAt H ps rows → RowsAt H' ps rows
  | _, _, _, .nil => .nil
  | _, _, s, .cons e t => .cons (s _ _ e) (RowsAt.mono s t)
theorem RowsAt.sq {K : PySem.W.Frag} {H : Hp} : ∀ {ps : List Addr} {rows : Tb}, RowsAt H ps rows → Paired (fun p kv => SqT K H p [kV kv.1, kv.2]) ps (kv rows)
  | _, _, .nil => .nil
  | _, _, .cons e t => .cons (.inl (.inl e)) (RowsAt.sq t)
theorem paired_snoc {α β : Type} {R : α → β → Prop} {x : α} {y : β} : ∀ {xs : List α} {ys : List β}, Paired R xs ys → R x y → Paired R (xs ++ [x]) (ys ++ [y])
  | _, _, .nil, r => .cons r .nil
  | _, _, .cons e t, r => .cons e (paired_snoc t r)
theorem paired_len {α β : Type} {R : α → β → Prop} : ∀ {xs : List α} {ys : List β}, Paired R xs ys → xs.length = ys.length
  | _, _, .nil => rfl
  | _, _, .cons _ t => congrArg (· + 1) (paired_len t)
theorem paired_at {α β : Type} {R : α → β → Prop} : ∀ {xs : List α} {ys : List β} {i : Nat} {x : α}, Paired R xs ys → xs[i]? = some x → ∃ y, ys[i]? = some y ∧ R x y
  | _, _, _, _, .nil, h => by simp at h
  | _, _, 0, _, .cons r _, h => ⟨_, rfl, by simp at h; exact h ▸ r⟩
  | _, _, i + 1, _, .cons _ t, h => paired_at (i := i) t (by simpa using h)
/-- {name: a number for name in names}, by rows -/
theorem rows_it {K : PySem.W.Frag} {H1 : Hp} {D L a : Addr} {zs : List Str} {g : TG} {te : TE} {vs : List Nat} {σ : L2.St} {Qd : Hp → Prop} (nD : H1 D = none) (hL : SqL K H1 L (zs.map V.str)) (La : L ≠ a) (p1 : PotAt H1 a) (lz : zs.length ≤ 12)
    (turn : ∀ z ∈ zs, ∀ (G : Hp) (R : V → Hp → Prop), PotAt G a → (∀ T G2 n, Sn n → PotAt G2 a → SameB a G G2 → G2 T = none → R (.ref T) (upd G2 T (.tup [.str z, .int n]))) → g (.str z) (wipe σ vs) G fun σ2 H2 => wipe σ2 vs = wipe σ vs ∧ te σ2 H2 R)
    (done : ∀ G ps rows, SameB a H1 G → PotAt G a → G D = some (.lst (ps.map V.ref)) → RowsAt G ps rows → keys rows = zs → (∀ p ∈ rows, Sn p.2) → Qd G) :
    ∃ W : Nat → Nat → Hp → Prop, (∃ m, W 0 m (upd H1 D (.lst []))) ∧ ∀ i m H, W i m H →
      ((Itl K L).stop i H ∧ Qd H) ∨ ((Itl K L).go i H ∧ ∃ Nx : Hp → Prop, (∀ H', Nx H' → ∃ m', m' < m ∧ W (i + 1) m' H') ∧ ∀ x H', (Itl K L).yld i H x H' → g x (wipe σ vs) H' fun σ2 H2 => wipe σ2 vs = wipe σ vs ∧ tYes σ2 H2 fun b H3 =>
        if b = true then te σ2 H3 fun y H4 => ∃ acc, H4 D = some (.lst acc) ∧ acc.length < sizeLine ∧ Nx (upd H4 D (.lst (acc ++ [y]))) else Nx H3) := by
  have Da : D ≠ a := p1.new nD
  have sqB : ∀ {G : Hp}, SameB a H1 G → SqL K G L (zs.map V.str) := fun {G} s => by
    rcases hL with (e | ⟨o, e⟩) | h
    · exact .inl (.inl (s _ _ e La))
    · exact .inl (.inr ⟨o, s _ _ e La⟩)
    · exact .inr h
  refine lc_it (walk_list (xs := zs.map V.str)) (fun i G => SameB a H1 G ∧ PotAt G a ∧ ∃ ps rows, G D = some (.lst (ps.map V.ref)) ∧ RowsAt G ps rows ∧ keys rows = zs.take i ∧ (∀ p ∈ rows, Sn p.2))
    ⟨SameB.of (new_same nD), p1.sm (new_same nD), [], [], upd_same, .nil, rfl, nofun⟩ (fun i H _ h => sqB h.1) ?_ ?_
  · rintro i x G G' lt ⟨sb, pa, ps, rows, hD, tp, ek, sn⟩ ⟨rfl, hy⟩
    obtain ⟨z, hz, rfl⟩ : ∃ z, zs[i]? = some z ∧ x = .str z := by
      rw [List.getElem?_map] at hy
      cases e : zs[i]? with
      | none => rw [e] at hy; cases hy
      | some z => rw [e] at hy; exact ⟨z, rfl, (Option.some.inj hy).symm⟩
    refine turn z (List.mem_of_getElem? hz) _ _ pa fun T G2 n hn p2 s2 nT => ?_
    have hD2 := s2 _ _ hD Da
    have TD : T ≠ D := (ne_of_none hD2 nT).symm
    have Ta : T ≠ a := p2.new nT
    have li : i < 12 := by
      rw [List.length_map] at lt
      omega
    have lps : ps.length ≤ 12 := by
      rw [paired_len tp, ← keys_len, ek, List.length_take]
      omega
    refine ⟨ps.map V.ref, (upd_ne TD.symm).trans hD2, ?_, ?_, ?_, ps ++ [T], rows ++ [(z, n)], ?_, ?_, ?_, ?_⟩
    · rw [List.length_map]
      exact Nat.lt_of_le_of_lt lps (by decide)
    · intro b o e nb
      have bD : b ≠ D := ne_of_none e nD
      have e2 := s2 _ _ (sb _ _ e nb) nb
      rw [upd_ne bD, upd_ne (ne_of_none e2 nT)]
      exact e2
    · obtain ⟨u, v, e, r⟩ := p2
      exact ⟨u, v, by rw [upd_ne Da.symm, upd_ne Ta.symm]; exact e, r⟩
    · rw [upd_same, List.map_append]
      rfl
    · refine paired_snoc (RowsAt.mono (fun p xs e => ?_) tp) ?_
      · have e2 := s2 _ _ e (pa.ne e (by intro xs q; cases q))
        have pD : p ≠ D := by
          rintro rfl
          rw [hD] at e
          cases e
        rw [upd_ne pD, upd_ne (ne_of_none e2 nT)]
        exact e2
      · rw [upd_ne TD, upd_same]
    · unfold keys at ek ⊢
      rw [List.map_append, ek, List.take_add_one, hz]
      rfl
    · intro p hp
      rcases List.mem_append.mp hp with h | h
      · exact sn p h
      · rw [List.mem_singleton.mp h]
        exact hn
  · rintro G ⟨sb, pa, ps, rows, hD, tp, ek, sn⟩
    rw [List.length_map, List.take_length] at ek
    exact done G ps rows sb pa hD tp ek sn
end E10

set_option Elab.async false
set_option linter.all false
set_option maxRecDepth 100000
set_option maxHeartbeats 8000000
namespace E10
open L2 PySem PySem.Spec PyProof.Rows
/-! ### the law's own least value, and who is first -/
def ents (m t : Tb) : List (Int × Str) := m.map fun r => (g0 t r.1 + r.2, r.1)
theorem isLv_ord {m t : Tb} {v : Int} (nd : (keys m).Nodup) : IsLv (ord m) t v ↔ IsLv m t v := by
  have mem : ∀ p : Str × Int, p ∈ ord m ↔ p ∈ m := fun p => by
    constructor
    · intro h
      obtain ⟨z, hz, rfl⟩ := List.mem_map.mp h
      exact gv_mem (gv_g0 (srt_mem.mp hz))
    · intro h
      refine List.mem_map.mpr ⟨p.1, srt_mem.mpr (List.mem_map.mpr ⟨p, h, rfl⟩), ?_⟩
      show (p.1, g0 m p.1) = p
      unfold g0
      rw [gv_of nd h]
      rfl
  constructor
  · rintro ⟨⟨p, hp, e⟩, le⟩
    exact ⟨⟨p, (mem p).mp hp, e⟩, fun q hq => le q ((mem q).mpr hq)⟩
  · rintro ⟨⟨p, hp, e⟩, le⟩
    exact ⟨⟨p, (mem p).mpr hp, e⟩, fun q hq => le q ((mem q).mp hq)⟩
theorem ents_math {m t : Tb} {E : List (Int × Str)} (nd : (keys m).Nodup) (pos : 0 < m.length) (perm : E.Perm (ents m t)) (pw : E.Pairwise fun x y => ltIS y x = false) :
    ∃ v z r, E = (v, z) :: r ∧ IsLv m t v ∧ (E.filter fun q => decide (q.1 = v)).map (·.2) = fs (ord m) t v := by
  have len := perm.length_eq
  unfold ents at len
  rw [List.length_map] at len
  match E, perm, pw, len with
  | [], _, _, len => simp at len; omega
  | (v, z) :: r, perm, pw, _ =>
    have hd : ∀ q ∈ ((v, z) :: r), v ≤ q.1 := fun q hq => by
      rcases List.mem_cons.mp hq with rfl | hq
      · exact Int.le_refl _
      · have := ltIS_no.mp ((List.pairwise_cons.mp pw).1 q hq)
        have n : ¬ q.1 < v := fun t => this (.inl t)
        omega
    refine ⟨v, z, r, rfl, ⟨?_, fun p hp => ?_⟩, ?_⟩
    · have : (v, z) ∈ ents m t := perm.mem_iff.mp (.head _)
      obtain ⟨p, hp, e⟩ := List.mem_map.mp this
      exact ⟨p, hp, congrArg Prod.fst e⟩
    · exact hd (g0 t p.1 + p.2, p.1) (perm.mem_iff.mpr (List.mem_map.mpr ⟨p, hp, rfl⟩))
    · refine uniq_sorted ?_ ?_ ?_
      · rw [List.pairwise_map]
        refine List.Pairwise.imp_of_mem ?_ (pw.filter _)
        intro a b ha hb h
        have ea : a.1 = v := of_decide_eq_true (List.mem_filter.mp ha).2
        have eb : b.1 = v := of_decide_eq_true (List.mem_filter.mp hb).2
        have := ltIS_no.mp h
        unfold leS
        rw [decide_eq_false fun q => this (.inr ⟨by rw [ea, eb], q⟩)]
        rfl
      · unfold fs
        rw [keys_ord]
        exact (srt_pw _).filter _
      · refine ((perm.filter _).map _).trans ?_
        have e1 : ((ents m t).filter fun q => decide (q.1 = v)).map (·.2) = (keys m).filter fun z => decide (g0 t z + g0 (ord m) z = v) := by
          unfold ents keys
          rw [List.filter_map, List.map_map, List.filter_map]
          have e2 : m.filter ((fun q : Int × Str => decide (q.1 = v)) ∘ fun r => (g0 t r.1 + r.2, r.1)) = m.filter ((fun z => decide (g0 t z + g0 (ord m) z = v)) ∘ fun r => r.1) := by
            refine List.filter_congr fun p hp => ?_
            show decide (g0 t p.1 + p.2 = v) = decide (g0 t p.1 + g0 (ord m) p.1 = v)
            rw [g0_ord nd]
            unfold g0
            rw [gv_of nd (show (p.1, p.2) ∈ m from hp)]
            rfl
          rw [e2]
          rfl
        rw [e1]
        unfold fs
        rw [keys_ord]
        exact ((srt_perm _).filter _).symm
/-- the entries at these places -/
def EntsAt (t : Tb) (H : Hp) (ps : List Addr) (m : Tb) : Prop := Paired (fun p r => H p = some (.tup [.int (g0 t r.1 + r.2), .str r.1])) ps m
theorem EntsAt.mono {t : Tb} {H H' : Hp} : ∀ {ps : List Addr} {m : Tb}, (∀ p xs, H p = some (.tup xs) → H' p = some (.tup xs)) → EntsAt t H ps m → EntsAt t H' ps m
  | _, _, _, .nil => .nil
  | _, _, s, .cons e r => .cons (s _ _ e) (EntsAt.mono s r)
def keyIn (H : Hp) : V → Int × Str
  | .ref p => match H p with
    | some (.tup [.int i, .str s]) => (i, s)
    | _ => (0, Str.empty)
  | _ => (0, Str.empty)
theorem EntsAt.keys {t : Tb} {H : Hp} : ∀ {ps : List Addr} {m : Tb}, EntsAt t H ps m → (ps.map V.ref).map (keyIn H) = ents m t
  | _, _, .nil => rfl
  | _, _, @Paired.cons _ _ _ p r l n e q => by
    show keyIn H (.ref p) :: (l.map V.ref).map (keyIn H) = _ :: ents n t
    rw [EntsAt.keys q]
    congr 1
    have e2 : H p = some (.tup [.int (g0 t r.1 + r.2), .str r.1]) := e
    simp only [keyIn, e2]
theorem EntsAt.tup {t : Tb} {H : Hp} {ps : List Addr} {m : Tb} (h : EntsAt t H ps m) {x : V} (hx : x ∈ ps.map V.ref) : ∃ p, x = .ref p ∧ H p = some (.tup [.int (keyIn H x).1, .str (keyIn H x).2]) := by
  obtain ⟨p, hp, rfl⟩ := List.mem_map.mp hx
  obtain ⟨i, hi⟩ := List.getElem?_of_mem hp
  obtain ⟨r, _, e⟩ := paired_at h hi
  have e2 : H p = some (.tup [.int (g0 t r.1 + r.2), .str r.1]) := e
  exact ⟨p, rfl, by simp only [keyIn, e2]⟩
section
variable {P : Program} {w : World} {K : PySem.W.Frag} {mg : Str → Option Value} {base : Heap} {f cE : Addr} {fd : FuncData}
/-- the least value, and the tuple of those that are first -/
def spValue : Sp := fun vs H Q _ => ∃ (d c : Addr) (m t : Tb), vs = [.ref d, .ref c] ∧ Tab H d m ∧ (keys m).Nodup ∧ 0 < m.length ∧ m.length ≤ 40 ∧ Tab H c t ∧ c ≠ d ∧ (∀ z ∈ keys m, z ∈ keys t) ∧
  ∀ v p q H', IsLv m t v → H p = none → H q = none → Same H H' → H' p = some (.lst [.int v, .ref q]) → H' q = some (.tup ((fs (ord m) t v).map V.str)) → Q (.ref p) H'
abbrev nValue : List Str := ["_law_shifts", "_law_clock", "_law_entries", "_law_name", "_law_shift", "_law_value_here"]
theorem scValue : FnScope nValue ["_law_shifts", "_law_clock"] (defScope s__law_value) := ⟨rfl, rfl, rfl, by decide +kernel, rfl, by decide +kernel, by decide +kernel⟩
theorem ok_value (N : Nam mg) (F : Fun K "_law_value" "_law_value" s__law_value f fd) : FnOk P w K mg base CX0 1 f fd ["_law_shifts", "_law_clock"] spValue := by
  refine F.ok scValue (fun vs H Q E h => ?_) (fun cdv A outer s H vs Q E hr h => ?_)
  · obtain ⟨_, _, _, _, rfl, _⟩ := h
    rfl
  · obtain ⟨d, c, m, t, rfl, hd, nd, pos, le, hc, cd, sub, go⟩ := h
    have hu := hu_of hr
    refine ⟨_, pss_cons (ps_set (i := 2) scValue.nd rfl (Or.inr rfl) (pe_lock (pe_callB call_sortIS rfl N.srt boot_sorted' (pa_cons (pe_lc (own := [("_law_name", 3), ("_law_shift", 4)]) (g := gTup K 2 (gCons (gName 3) (gCons (gName 4) gNil))) (tt := tYes) rfl scValue.nd (pi_items (pv 0))
        (blkOk_by (own := [("_law_name", 3), ("_law_shift", 4)]) (N := nValue) (sc := defScope s__law_value) (by decide +kernel)) (fun _ _ _ _ _ => pg_tup rfl (pgs_cons (pg_name (i := 3) scValue.nd rfl (Or.inl rfl)) (pgs_cons (pg_name (i := 4) scValue.nd rfl (Or.inl rfl)) pgs_nil))) (fun _ _ _ _ _ => pts_nil)
        (fun _ _ _ _ _ => pe_tup (pa_cons (pe_op op_add (pe_dget hu (pv 1) (pv 3) (fun _ _ => rfl)) (pv 4)) (pa_cons (pv 3) pa_nil)))) pa_nil))))
      (pss_one (ps_ret (pe_lst (pa_cons (pe_ix ix_tup (pe_ix ix_list (pv 2) pe_int (fun _ _ => rfl)) pe_int (fun _ _ => rfl)) (pa_cons
        (pe_callTy call_tuple_of rfl N.tup_ boot_tuple' (pa_cons (pe_lc (own := [("_law_value_here", 5), ("_law_name", 3)]) (g := gTup K 2 (gCons (gName 5) (gCons (gName 3) gNil))) (tt := tTest (tOp rEq (tVar 5) (tOp (rIxT K) (tOp (rIxL K) (tVar 2) (tC (.int 0))) (tC (.int 0))))) rfl scValue.nd (pi_list (pv 2))
        (blkOk_by (own := [("_law_value_here", 5), ("_law_name", 3)]) (N := nValue) (sc := defScope s__law_value) (by decide +kernel)) (fun _ _ _ _ _ => pg_tup rfl (pgs_cons (pg_name (i := 5) scValue.nd rfl (Or.inl rfl)) (pgs_cons (pg_name (i := 3) scValue.nd rfl (Or.inl rfl)) pgs_nil)))
        (fun _ _ _ _ _ => pts_one (pt_cmpR op_eq (pv 5) (pe_ix ix_tup (pe_ix ix_list (pv 2) pe_int (fun _ _ => rfl)) pe_int (fun _ _ => rfl)) (nomark _)))
        (fun _ _ _ _ _ => pv 3)) pa_nil)) pa_nil))))), ?_⟩
    refine ⟨d, _, hd, True.intro, fun od => ?_⟩
    have hF : upd H d (.frz od (.dK (kv m))) d = some (.frz od (.dK (kv m))) := upd_same
    have hcF : upd H d (.frz od (.dK (kv m))) c = some (.dK (kv t)) := (upd_ne cd).trans hc
    refine ⟨_, rfl, d, od, kv m, rfl, hF, fun D nD => ?_⟩
    refine lc_it (walk_items (kvs := kv m)) (fun i H' => Same (upd H d (.frz od (.dK (kv m)))) H' ∧ ∃ ps, H' D = some (.lst (ps.map V.ref)) ∧ EntsAt t H' ps (m.take i)) ⟨new_same nD, [], upd_same, .nil⟩ (fun i H' _ h => h.1 _ _ hF) ?_ ?_
    · rintro i x H1 H1' lt ⟨sm, ps, hD, ea⟩ ⟨T, xx, yy, rfl, nT, rfl, hxx, hyy⟩
      obtain ⟨z, n, hm⟩ : ∃ z n, m[i]? = some (z, n) := by
        rw [kv_len] at lt
        exact ⟨_, _, List.getElem?_eq_getElem lt⟩
      have hk : (kv m)[i]? = some (.inr z, .int n) := by
        unfold kv
        rw [List.getElem?_map, hm]
        rfl
      replace hxx : Option.map (fun kv => kV kv.1) (kv m)[i]? = some xx := hxx
      replace hyy : Option.map Prod.snd (kv m)[i]? = some yy := hyy
      rw [hk] at hxx hyy
      obtain rfl : xx = .str z := (Option.some.inj hxx).symm
      obtain rfl : yy = .int n := (Option.some.inj hyy).symm
      refine ⟨T, _, rfl, .inl (.inl upd_same), rfl, _, _, rfl, _, _, rfl, rfl, wipe_two _ _ _ _ _, ?_⟩
      have sT := new_same (o := .tup [.str z, .int n]) nT
      have s2 := sm.trans sT
      refine ⟨_, rfl, _, rfl, c, _, rfl, DGet.tab (.inl (s2 _ _ hcF)) (sub z (at_key hm)), _, rfl, _, _, rfl, rfl, _, rfl, by show 2 ≤ sizeLine; decide, fun p np => ?_⟩
      have sp := new_same (o := .tup [.int (g0 t z + n), .str z]) np
      have s3 := sT.trans sp
      refine ⟨_, s3 _ _ hD, ?_, fun b o e => ?_, ps ++ [p], ?_, ?_⟩
      · rw [List.length_map, paired_len ea, List.length_take]
        exact Nat.lt_of_le_of_lt (Nat.le_trans (Nat.min_le_right _ _) le) (by decide)
      · rw [upd_ne (ne_of_none e nD)]
        exact s3 _ _ (sm _ _ e)
      · rw [upd_same, List.map_append]
        rfl
      · rw [List.take_add_one, hm]
        have pD : p ≠ D := (ne_of_none (sT _ _ hD) np).symm
        refine paired_snoc (EntsAt.mono (fun q xs e => ?_) ea) ?_
        · have qD : q ≠ D := by
            rintro rfl
            rw [hD] at e
            cases e
          rw [upd_ne qD]
          exact s3 _ _ e
        · exact (upd_ne pD).trans upd_same
    · rintro H1 ⟨sm, ps, hD, ea⟩
      rw [kv_len, List.take_length] at ea
      refine ⟨D, _, keyIn H1, rfl, .inl (.inl hD), fun x hx => ea.tup hx, fun ys p perm pw np => ?_⟩
      obtain ⟨v, z, r, eE, lv, ef⟩ := ents_math nd pos (E := ys.map (keyIn H1)) ((perm.map _).trans (by rw [ea.keys])) (List.pairwise_map.mpr pw)
      have sp := new_same (o := .lst ys) np
      refine ⟨sp _ _ (sm _ _ hF), ?_⟩
      have s1 : Same H (upd (upd H1 p (.lst ys)) d (.dK (kv m))) := locked hd (sm.trans sp)
      have pd : p ≠ d := (ne_of_none (sm _ _ hF) np).symm
      have hp : upd (upd H1 p (.lst ys)) d (.dK (kv m)) p = some (.lst ys) := (upd_ne pd).trans upd_same
      have tupq : ∀ x ∈ ys, ∃ q, x = .ref q ∧ upd (upd H1 p (.lst ys)) d (.dK (kv m)) q = some (.tup [.int (keyIn H1 x).1, .str (keyIn H1 x).2]) := fun x hx => by
        obtain ⟨q, rfl, e⟩ := ea.tup (perm.mem_iff.mp hx)
        refine ⟨q, rfl, ?_⟩
        have qd : q ≠ d := by
          rintro rfl
          rw [sm _ _ hF] at e
          cases e
        rw [upd_ne qd]
        exact sp _ _ e
      have ly : ys.length ≤ 40 := by
        rw [perm.length_eq, List.length_map, paired_len ea]
        exact le
      generalize hG : upd (upd H1 p (.lst ys)) d (.dK (kv m)) = G at s1 hp tupq
      generalize keyIn H1 = k at eE ef tupq
      clear hG sp perm pw ea hD sm np nD
      match ys, eE, hp, tupq, ly with
      | [], eE, _, _, _ => cases eE
      | y :: yr, eE, hp, tupq, ly =>
        have ek : k y = (v, z) := (List.cons.inj eE).1
        obtain ⟨q, rfl, hq⟩ := tupq y (.head _)
        rw [ek] at hq
        refine ⟨_, rfl, p, _, 0, .ref q, rfl, rfl, .inl (.inl hp), atI_nat (j := 0) rfl, q, _, 0, .int v, rfl, rfl, .inl (.inl hq), atI_nat (j := 0) rfl, ?_⟩
        refine ⟨_, rfl, p, rfl, ⟨_, .inl (.inl hp)⟩, fun D2 nD2 => ?_⟩
        refine lc_it (walk_list (xs := .ref q :: yr)) (fun i H' => Same G H' ∧ H' D2 = some (.lst (((((V.ref q :: yr).map k).take i).filter fun e => decide (e.1 = v)).map fun e => V.str e.2))) ⟨new_same nD2, upd_same⟩ (fun i H' _ h => .inl (.inl (h.1 _ _ hp))) ?_ ?_
        · rintro i x H2 H2' lt ⟨sm, hD⟩ ⟨rfl, hx⟩
          obtain ⟨q2, rfl, h2⟩ := tupq x (List.mem_of_getElem? hx)
          refine ⟨q2, _, rfl, .inl (.inl (sm _ _ h2)), rfl, _, _, rfl, _, _, rfl, rfl, wipe_two _ _ _ _ _, ?_⟩
          refine ⟨_, rfl, _, rfl, p, _, 0, .ref q, rfl, rfl, .inl (.inl (sm _ _ hp)), atI_nat (j := 0) rfl, q, _, 0, .int v, rfl, rfl, .inl (.inl (sm _ _ hq)), atI_nat (j := 0) rfl, rfl, _, rfl, ?_⟩
          have ed : decide (V.int (k (.ref q2)).1 = V.int v) = decide ((k (.ref q2)).1 = v) := by simp
          rw [ed]
          have ts : ((V.ref q :: yr).map k).take (i + 1) = ((V.ref q :: yr).map k).take i ++ [k (.ref q2)] := by
            rw [List.take_add_one, List.getElem?_map, hx]
            rfl
          by_cases c2 : (k (.ref q2)).1 = v
          · rw [decide_eq_true c2]
            refine ⟨_, rfl, _, hD, ?_, fun b o e => ?_, ?_⟩
            · rw [List.length_map]
              refine Nat.lt_of_le_of_lt (List.length_filter_le _ _) ?_
              rw [List.length_take, List.length_map]
              exact Nat.lt_of_le_of_lt (Nat.le_trans (Nat.min_le_right _ _) ly) (by decide)
            · rw [upd_ne (ne_of_none e nD2)]
              exact sm _ _ e
            · rw [upd_same, ts, List.filter_append, List.map_append]
              have e0 : ([k (.ref q2)].filter fun e => decide (e.1 = v)) = [k (.ref q2)] := by simp [c2]
              rw [e0]
              rfl
          · rw [decide_eq_false c2]
            refine ⟨sm, ?_⟩
            rw [ts, List.filter_append]
            have e0 : ([k (.ref q2)].filter fun e => decide (e.1 = v)) = [] := by simp [c2]
            rw [e0, List.append_nil]
            exact hD
        · rintro H2 ⟨sm, hD⟩
          have el : ((V.ref q :: yr).map k).length = (V.ref q :: yr).length := List.length_map ..
          rw [← el, List.take_length, show (fun e : Int × Str => V.str e.2) = V.str ∘ fun e => e.2 from rfl, ← List.map_map, ef] at hD
          refine ⟨D2, _, rfl, .inl ⟨.inl (.inl hD), fun u nu => ⟨by show 2 ≤ sizeLine; decide, fun L nL => ?_⟩⟩⟩
          have su := new_same (o := .tup ((fs (ord m) t v).map V.str)) nu
          have sL := new_same (o := .lst [.int v, .ref u]) nL
          refine go v L u _ lv ((s1.trans (sm.trans su)).free nL) ((s1.trans sm).free nu) (((s1.trans sm).trans su).trans sL) upd_same (sL _ _ upd_same)
end
end E10

set_option Elab.async false
set_option linter.all false
set_option maxRecDepth 100000
set_option maxHeartbeats 16000000
namespace E10
open L2 PySem PySem.Spec PyProof.Rows
theorem char_abc {c : Nat} (h : 97 ≤ c ∧ c ≤ 122) : Builtin.Str.reprChar 39 c = [c] := by
  have all : ∀ k : Fin 26, Builtin.Str.reprChar 39 (97 + k.val) = [97 + k.val] := by decide +kernel
  have := all ⟨c - 97, by omega⟩
  have e : 97 + (c - 97) = c := by omega
  simp only [e] at this
  exact this
theorem fold_abc : ∀ (l : List Nat) (acc : Array Nat), (∀ c ∈ l, 97 ≤ c ∧ c ≤ 122) → l.foldl (fun out c => out ++ (Builtin.Str.reprChar 39 c).toArray) acc = acc ++ l.toArray
  | [], acc, _ => by simp
  | c :: l, acc, h => by
    rw [List.foldl_cons, char_abc (h c List.mem_cons_self), fold_abc l _ fun d hd => h d (List.mem_cons_of_mem _ hd)]
    simp
theorem quote_abc {z : Str} (h : Nm z) : reprQuote z = 39 := by
  have n : z.cps.contains 39 = false := by
    rw [Bool.eq_false_iff]
    intro q
    have m : 39 ∈ z.cps.toList := by
      rw [Array.contains_iff_mem] at q
      exact Array.mem_toList_iff.mpr q
    have := h.abc 39 m
    omega
  unfold reprQuote
  rw [n]
  rfl
theorem repr_abc {z : Str} (h : Nm z) : reprText z = (("'" : String) : Str) ++ z ++ (("'" : String) : Str) := by
  unfold reprText
  rw [quote_abc h, ← Array.foldl_toList, fold_abc _ _ h.abc]
  refine Str.ext' ?_
  rw [Str.cps_append, Str.cps_append]
  show ((#[39] ++ z.cps.toList.toArray).push 39) = #[39] ++ z.cps ++ #[39]
  simp
theorem repr_abc_len {z : Str} (h : Nm z) : (reprText z).length ≤ 10 := by
  rw [repr_abc h, strLen_append, strLen_append]
  have e1 : (("'" : String) : Str).length = 1 := rfl
  have := h.le
  omega
theorem t_nm {z : Str} (h : Nm z) : tiny (.str z) = some (.str z) := if_pos (Nat.le_trans (repr_abc_len h) (by decide))
theorem t_big {i : Int} (h : i.natAbs < 10 ^ 70) : tiny (.int i) = some (.int i) := if_pos h
/-- a number of not too many digits -/
def Bg (i : Int) : Prop := i.natAbs < 10 ^ 64
theorem Bg.add {i j : Int} (h : Bg i) (k : Bg j) : (i + j).natAbs < 10 ^ 70 := by
  unfold Bg at *
  have e : (10 ^ 70 : Nat) = 1000000 * 10 ^ 64 := by decide +kernel
  generalize (10 ^ 64 : Nat) = W at *
  generalize (10 ^ 70 : Nat) = Z at *
  omega
theorem Bg.small {i : Int} (h : Bg i) : i.natAbs < 10 ^ 70 := by
  have := Bg.add h (show Bg 0 by unfold Bg; decide +kernel)
  rw [Int.add_zero] at this
  exact this
theorem tbl_data {n : Nat} {m : Tb} (h : Tbl Bg n m) : ∃ ds, Paired TinyP (kv m) ds := by
  have : ∀ l : Tb, (∀ p ∈ l, Nm p.1) → (∀ p ∈ l, Bg p.2) → ∃ ds, Paired TinyP (kv l) ds := by
    intro l
    induction l with
    | nil => exact fun _ _ => ⟨[], .nil⟩
    | cons p r ih =>
      intro h1 h2
      obtain ⟨ds, hd⟩ := ih (fun q hq => h1 q (.tail _ hq)) fun q hq => h2 q (.tail _ hq)
      exact ⟨(.str p.1, .int p.2) :: ds, .cons ⟨t_nm (h1 p (.head _)), t_big (h2 p (.head _)).small⟩ hd⟩
  exact this m h.ok.nm h.sn
theorem tup_data {K : PySem.W.Frag} {H : Hp} {a : Addr} {zs : List Str} (h : H a = some (.tup (zs.map V.str))) (nm : ∀ z ∈ zs, Nm z) (le : zs.length ≤ 40) : Rdr K H 1 (.ref a) (.tuple (zs.map PyData.str)) := by
  refine Rdr.tup (.inl (.inl h)) (by rw [List.length_map]; exact le) ?_
  have : ∀ l : List Str, (∀ z ∈ l, Nm z) → Paired (Rdr K H 0) (l.map V.str) (l.map PyData.str) := by
    intro l
    induction l with
    | nil => exact fun _ => .nil
    | cons z r ih => exact fun h1 => .cons (t_nm (h1 z (.head _))) (ih fun y hy => h1 y (.tail _ hy))
  exact this zs nm
theorem fs_mem {m t : Tb} {v : Int} {z : Str} : z ∈ fs m t v ↔ z ∈ keys m ∧ g0 t z + g0 m z = v := by
  unfold fs
  rw [List.mem_filter, decide_eq_true_eq]
theorem fs_len {m t : Tb} {v : Int} : (fs m t v).length ≤ m.length := by
  unfold fs
  exact Nat.le_trans (List.length_filter_le _ _) (by rw [keys_len]; exact Nat.le_refl _)
/-- a list of a number and a tuple of names -/
theorem pair_data {K : PySem.W.Frag} {H : Hp} {a q : Addr} {v : Int} {zs : List Str} (h : SqL K H a [.int v, .ref q]) (hq : H q = some (.tup (zs.map V.str))) (hv : v.natAbs < 10 ^ 70) (nm : ∀ z ∈ zs, Nm z) (le : zs.length ≤ 40) :
    Rdr K H 2 (.ref a) (.list [.int v, .tuple (zs.map PyData.str)]) := Rdr.lst h (by show 2 ≤ 40; decide) (.cons (Rdr.tiny (t_big hv) 1) (.cons (tup_data hq nm le) .nil))
theorem four_data {K : PySem.W.Frag} {H : Hp} {a q p : Addr} {v : Int} {zs : List Str} (h : SqL K H a [.int v, .ref q, .int v, .ref p]) (hq : H q = some (.tup (zs.map V.str))) (hp : H p = some (.tup (zs.map V.str))) (hv : v.natAbs < 10 ^ 70) (nm : ∀ z ∈ zs, Nm z) (le : zs.length ≤ 40) :
    Rdr K H 2 (.ref a) (.list [.int v, .tuple (zs.map PyData.str), .int v, .tuple (zs.map PyData.str)]) :=
  Rdr.lst h (by show 4 ≤ 40; decide) (.cons (Rdr.tiny (t_big hv) 1) (.cons (tup_data hq nm le) (.cons (Rdr.tiny (t_big hv) 1) (.cons (tup_data hp nm le) .nil))))
theorem lv_big {n k : Nat} {m t : Tb} {v : Int} (h : Tbl Bg n m) (c : Tbl Bg k t) (sub : ∀ z ∈ keys m, z ∈ keys t) (lv : IsLv m t v) : v.natAbs < 10 ^ 70 := by
  obtain ⟨p, hp, e⟩ := lv.at_
  rw [← e]
  exact Bg.add (c.g0 (sub _ (List.mem_map.mpr ⟨p, hp, rfl⟩))) (h.sn p hp)
/-- all that the law leans on of Term and Earliest -/
structure TopE (P : Program) (w : World) (K : PySem.W.Frag) (mg : Str → Option Value) (base : Heap) (cT cE : Addr) : Prop where
  T : ErlF K cE
  M : MkE P w K mg base cE
  A : AddE P w K mg base cE
  R : RaddE P w K mg base cE
  S : SubE P w K mg base cE
  ca : ∃ (f : Addr) (fd : FuncData), StX.CallO K cE f ∧ FnOk P w K mg base CX0 5 f fd ["self", "times"] (spCallE cE) ∧ Binds K fd ["self", "times"] [] ∧ ∃ g : List Value → List Value → List Value, KBn K fd ["self", "times"] 1 ["times"] g fun vs zs => vs ++ zs
  fi : ∃ (f : Addr) (fd : FuncData), Meth K cE "first" f ∧ FnOk P w K mg base CX0 6 f fd ["self", "times"] (spFirst cE) ∧ Binds K fd ["self", "times"] [] ∧ ∃ g : List Value → List Value → List Value, KBn K fd ["self", "times"] 1 ["times"] g fun vs zs => vs ++ zs
  it : ∃ (f : Addr) (fd : FuncData), FnOk P w K mg base CX0 3 f fd ["self", "at"] (spItemE cE) ∧ Has K cE f "__getitem__" ∧ PySem.W.fnIn K f = true ∧ Binds K fd ["self", "at"] []
  TT : TermF K cT
  MT : MkT P w K mg base cT
  ct : ∃ (f : Addr) (fd : FuncData), StX.CallO K cT f ∧ FnOk P w K mg base CX0 5 f fd ["self", "times"] (spCall cT) ∧ Binds K fd ["self", "times"] []
theorem u1 {n : Nat} (h : n + 64 < cLine) : n + 1 < cLine := by omega
section
variable {P : Program} {w : World} {K : PySem.W.Frag} {mg : Str → Option Value} {base : Heap} {f cT cE : Addr} {fd : FuncData}
/-- what stands there: an Earliest of a table, the table, a clock -/
structure Stand (cE : Addr) (H : Hp) (a e d c : Addr) (m t : Tb) : Prop where
  ea : EAt cE H a e (ord m)
  hd : Tab H d m
  tm : Tbl Bg 8 m
  hc : Tab H c t
  tt : Tbl Bg 40 t
  ce : c ≠ e
  cd : c ≠ d
  ed : e ≠ d
  sub : ∀ z ∈ keys m, z ∈ keys t
theorem Stand.eok {cE : Addr} {H : Hp} {a e d c : Addr} {m t : Tb} (S : Stand cE H a e d c m t) : EOk (ord m) := EOk.of S.tm.ok S.tm.pos S.tm.le
theorem Stand.subO {cE : Addr} {H : Hp} {a e d c : Addr} {m t : Tb} (S : Stand cE H a e d c m t) : ∀ z ∈ keys (ord m), z ∈ keys t := fun z hz => by
  rw [keys_ord, srt_mem] at hz
  exact S.sub z hz
theorem Stand.ck {cE : Addr} {H : Hp} {a e d c : Addr} {m t : Tb} (S : Stand cE H a e d c m t) : Clock H c t := ⟨S.hc, S.tt.ok, S.tt.pos, S.tt.le⟩
theorem Stand.sm {cE : Addr} {H H' : Hp} {a e d c : Addr} {m t : Tb} (s : Same H H') (S : Stand cE H a e d c m t) : Stand cE H' a e d c m t := { S with ea := S.ea.sm s, hd := s _ _ S.hd, hc := s _ _ S.hc }
theorem Stand.lvO {cE : Addr} {H : Hp} {a e d c : Addr} {m t : Tb} {v : Int} (S : Stand cE H a e d c m t) : IsLv (ord m) t v ↔ IsLv m t v := isLv_ord S.tm.ok.nd
theorem Stand.nms {cE : Addr} {H : Hp} {a e d c : Addr} {m t : Tb} {v : Int} (S : Stand cE H a e d c m t) : ∀ z ∈ fs (ord m) t v, Nm z := fun z hz => S.eok.ok.key (fs_mem.mp hz).1
theorem Stand.fle {cE : Addr} {H : Hp} {a e d c : Addr} {m t : Tb} {v : Int} (S : Stand cE H a e d c m t) : (fs (ord m) t v).length ≤ 40 := by
  have := S.eok.le
  have := fs_len (m := ord m) (t := t) (v := v)
  omega
def spTold (cE : Addr) : Sp := fun vs H Q _ => ∃ (a e d c : Addr) (m t : Tb), vs = [.ref a, .ref d, .ref c] ∧ Stand cE H a e d c m t ∧ ∀ H', Same H H' → Q (.bl true) H'
abbrev nTold : List Str := ["_law_made", "_law_shifts", "_law_clock", "_law_due", "_law_kept", "_law_name", "_law_shift", "_law_value_here"]
theorem scTold : FnScope nTold ["_law_made", "_law_shifts", "_law_clock"] (defScope s__law_told_right) := ⟨rfl, rfl, rfl, by decide +kernel, rfl, by decide +kernel, by decide +kernel⟩
theorem ok_told (N : Nam mg) (U : TopE P w K mg base cT cE) (DV : Def P w K mg base "_law_value" ["_law_shifts", "_law_clock"] 1 spValue) (F : Fun K "_law_told_right" "_law_told_right" s__law_told_right f fd) : FnG P w K mg base 8 f fd ["_law_made", "_law_shifts", "_law_clock"] (spTold cE) := by
  refine Fun.okG F scTold (fun {vs H Q E} h => ?_) (fun cdv A outer s H vs Q E hG hr h => ?_)
  · obtain ⟨_, _, _, _, _, _, rfl, _⟩ := h
    rfl
  · obtain ⟨a, e, d, c, m, t, rfl, S, go⟩ := h
    have hu := hr.units
    have T := U.T
    obtain ⟨fC, fdC, cC, FC, bC, gC, kC⟩ := U.ca
    obtain ⟨fI, fdI, mI, FI, bI, gI, kI⟩ := U.fi
    obtain ⟨fX, fdX, FX, hX, nX, bX⟩ := U.it
    obtain ⟨fT, fdT, cTT, FT, bT⟩ := U.ct
    refine ⟨_, pss_cons (ps_par (i := 3) (j := 4) (by rfl) scTold.nd rfl rfl (by decide) rfl rfl (pa_cons (callD DV (hr.mono (by decide)) rfl (pa_cons (pv 1) (pa_cons (pv 2) pa_nil))) (pa_cons (pe_callB (call_reprD hG hu) rfl N.rep boot_repr (pa_cons (pv 2) pa_nil)) pa_nil)) (by rfl))
      (pss_cons (ps_if (pt_cmpR op_ne (pe_callB (call_reprX hG hu) rfl N.rep boot_repr (pa_cons (pe_lst (pa_cons (pe_callOb (pv 0) cC FC bC (hr.mono (by decide)) (pa_cons (pv 2) pa_nil) (PySem.arm_eval_Call_Name' _ _ _ _ _ _))
          (pa_cons (pe_meth (pv 0) T.own.cl mI FI (hr.mono (by decide)) bI .nil pass0 (pa_cons (pv 2) pa_nil)) (pa_cons (pe_callObK (pv 0) cC FC kC (hr.mono (by decide)) (pk_cons (pv 2) pk_nil) (PySem.arm_eval_Call_Name' _ _ _ _ _ _))
          (pa_cons (pe_methKw (pv 0) T.own.cl mI FI (hr.mono (by decide)) kI (pk_cons (pv 2) pk_nil)) pa_nil))))) pa_nil))
        (pe_callB (call_reprX hG hu) rfl N.rep boot_repr (pa_cons (pe_op op_cat (pv 3) (pv 3)) pa_nil)) (nomark _)) (pss_one (ps_ret pe_bl)) pss_nil)
      (pss_cons (ps_lock (ps_for PassesOwn.never rfl (pi_items (pv 1)) (pg_tup rfl (pgs_cons (pg_name (i := 5) scTold.nd rfl (Or.inl rfl)) (pgs_cons (pg_name (i := 6) scTold.nd rfl (Or.inl rfl)) pgs_nil)))
        (pss_cons (ps_set (i := 7) scTold.nd rfl (Or.inl rfl) (pe_callOb (mkT2 U.MT (hr.mono (by decide)) rfl (pa_cons (pv 5) (pa_cons (pv 6) pa_nil))) cTT FT bT (hr.mono (by decide)) (pa_cons (pv 2) pa_nil)))
        (pss_one (ps_if (PW.pt (pw_or (pt_cmpR op_lt (pv 7) (pe_ix ix_list (pv 3) pe_int (fun _ _ => rfl)) (nomark _))
          (pw_or (pt_cmpR op_ne (pe_cmpR op_eq (pv 7) (pe_ix ix_list (pv 3) pe_int (fun _ _ => rfl)) (nomark _)) (pe_cmpR op_in_seq (pv 5) (pe_meth (pv 0) T.own.cl mI FI (hr.mono (by decide)) bI .nil pass0 (pa_cons (pv 2) pa_nil)) (by rfl)) (nomark _))
          (pw_or1 (pt_cmpR op_ne (pv 7) (pe_op op_add (pe_ixO (.of FX) hG (hr.mono (by decide)) bX hX nX (pv 0) (pv 5)) (pe_dget (u1 hu) (pv 2) (pv 5) (fun _ _ => rfl))) (nomark _)))))) (pss_one (ps_ret pe_bl)) pss_nil)))))
      (pss_one (ps_ret (pe_cmpR op_eq (pe_callB (call_reprD hG hu) rfl N.rep boot_repr (pa_cons (pv 2) pa_nil)) (pv 4) (nomark _)))))), ?_⟩
    obtain ⟨ds, hds⟩ := tbl_data S.tt
    have lt40 : (kv t).length ≤ 40 := by rw [kv_len]; exact S.tt.le
    refine ⟨_, rfl, _, rfl, d, c, m, t, rfl, S.hd, S.tm.ok.nd, S.tm.pos, by have := S.tm.le; omega, S.hc, S.cd, S.sub, fun v L q H1 lv nL nq s1 hL hq => ?_⟩
    have S1 := S.sm s1
    refine ⟨_, rfl, c, kv t, ds, rfl, S1.hc, lt40, hds, ⟨_, _, rfl, ?_⟩⟩
    -- what it is worth, and who is first
    have ⟨dx, hi⟩ := S1.ea.ins
    refine ⟨_, rfl, a, rfl, _, rfl, insC_of hi, a, e, c, ord m, t, rfl, S1.ea, S1.eok, S1.ck, S1.ce, S1.subO, fun v1 H2 lv1 s2 => ?_⟩
    have ev1 : v1 = v := (S1.lvO.mp lv1).uniq lv
    subst ev1
    have S2 := S1.sm s2
    have ⟨dx2, hi2⟩ := S2.ea.ins
    refine ⟨_, rfl, a, dx2, _, rfl, hi2, rfl, _, rfl, a, e, c, ord m, t, rfl, S2.ea, S2.eok, S2.ck, S2.ce, S2.subO, fun v2 p1 H3 lv2 np1 s3 hp1 => ?_⟩
    obtain rfl : v2 = v1 := (S1.lvO.mp lv2).uniq lv
    have S3 := S2.sm s3
    have ⟨dx3, hi3⟩ := S3.ea.ins
    refine ⟨_, rfl, a, rfl, _, rfl, ⟨dx3, _, hi3⟩, rfl, a, e, c, ord m, t, rfl, S3.ea, S3.eok, S3.ck, S3.ce, S3.subO, fun v3 H4 lv3 s4 => ?_⟩
    obtain rfl : v3 = v2 := (S1.lvO.mp lv3).uniq lv
    have S4 := S3.sm s4
    have ⟨dx4, hi4⟩ := S4.ea.ins
    refine ⟨_, rfl, a, dx4, _, rfl, hi4, rfl, _, rfl, rfl, a, e, c, ord m, t, rfl, S4.ea, S4.eok, S4.ck, S4.ce, S4.subO, fun v4 p2 H5 lv4 np2 s5 hp2 => ?_⟩
    obtain rfl : v4 = v3 := (S1.lvO.mp lv4).uniq lv
    have big := lv_big S.tm S.tt S.sub lv
    refine ⟨by show 4 ≤ sizeLine; decide, fun W nW => ?_⟩
    have sW := new_same (o := .lst [.int v4, .ref p1, .int v4, .ref p2]) nW
    have s15 := ((s2.trans s3).trans (s4.trans s5)).trans sW
    refine ⟨2, W, _, rfl, by decide, four_data (.inl (.inl upd_same)) (sW _ _ (s5 _ _ (s4 _ _ hp1))) (sW _ _ hp2) big S.nms S.fle, ?_⟩
    have hL5 := s15 _ _ hL
    have hq5 := s15 _ _ hq
    refine ⟨_, rfl, _, rfl, L, L, _, _, rfl, rfl, hL5, hL5, by show 2 + 2 ≤ sizeLine; decide, fun W2 nW2 => ?_⟩
    have sW2 := new_same (o := .lst ([.int v4, .ref q] ++ [.int v4, .ref q])) nW2
    refine ⟨2, W2, _, rfl, by decide, four_data (.inl (.inl upd_same)) (sW2 _ _ hq5) (sW2 _ _ hq5) big S.nms S.fle, rfl, _, rfl, ?_⟩
    rw [decide_eq_true rfl]
    have s06 := s1.trans (s15.trans sW2)
    have hL6 := sW2 _ _ hL5
    have S6 := S.sm s06
    generalize upd (upd H5 W (.lst [.int v4, .ref p1, .int v4, .ref p2])) W2 (.lst ([.int v4, .ref q] ++ [.int v4, .ref q])) = H6 at s06 hL6 S6
    clear S1 S2 S3 S4 s1 s2 s3 s4 s5 s15 sW sW2 hL hL5 hq hq5 hp1 hp2 hi hi2 hi3 hi4 nW nW2 np1 np2 nL nq lv1 lv2 lv3 lv4
    -- each term by itself
    refine ⟨d, _, S6.hd, True.intro, fun od => ?_⟩
    have hF : upd H6 d (.frz od (.dK (kv m))) d = some (.frz od (.dK (kv m))) := upd_same
    have keep : ∀ {b : Addr} {o : HO}, H6 b = some o → b ≠ d → upd H6 d (.frz od (.dK (kv m))) b = some o := fun {b o} e n => (upd_ne n).trans e
    have hcF := keep S6.hc S.cd
    have heF := keep S6.ea.tab S.ed
    have ad : a ≠ d := by
      rintro rfl
      obtain ⟨_, e1⟩ := S6.ea.ins
      rw [S6.hd] at e1
      cases e1
    have Ld : L ≠ d := by
      rintro rfl
      rw [S6.hd] at hL6
      cases hL6
    have hLF := keep hL6 Ld
    obtain ⟨dx, hi6⟩ := S6.ea.ins
    have haF := keep hi6 ad
    refine ⟨_, rfl, d, od, kv m, rfl, hF, ?_⟩
    refine for_it (walk_items (kvs := kv m)) (fun i σ H' => Same (upd H6 d (.frz od (.dK (kv m)))) H' ∧ ∃ x5 x6 x7, σ = [some (.ref a), some (.ref d), some (.ref c), some (.ref L), some (.str (PyData.dict ds).shown), x5, x6, x7]) ⟨Same.refl _, none, none, none, rfl⟩ (fun i σ H' _ h => h.1 _ _ hF) ?_ ?_
    · rintro i x σ H7 H7' lt ⟨sm, x5, x6, x7, rfl⟩ ⟨T7, xx, yy, rfl, nT, rfl, hxx, hyy⟩
      obtain ⟨z, n, hm⟩ : ∃ z n, m[i]? = some (z, n) := by
        rw [kv_len] at lt
        exact ⟨_, _, List.getElem?_eq_getElem lt⟩
      have hk : (kv m)[i]? = some (.inr z, .int n) := by
        unfold kv
        rw [List.getElem?_map, hm]
        rfl
      replace hxx : Option.map (fun kv => kV kv.1) (kv m)[i]? = some xx := hxx
      replace hyy : Option.map Prod.snd (kv m)[i]? = some yy := hyy
      rw [hk] at hxx hyy
      obtain rfl : xx = .str z := (Option.some.inj hxx).symm
      obtain rfl : yy = .int n := (Option.some.inj hyy).symm
      have k1 := at_key hm
      have kt := S.sub z k1
      have en : n = g0 m z := (at_g0 S.tm.ok.nd hm).symm
      have ko : z ∈ keys (ord m) := by rw [keys_ord, srt_mem]; exact k1
      refine ⟨T7, _, rfl, .inl (.inl upd_same), rfl, _, _, rfl, _, _, rfl, rfl, ?_⟩
      have s8 := sm.trans (new_same (o := .tup [.str z, .int n]) nT)
      refine ⟨_, rfl, _, rfl, z, n, rfl, S.tm.ok.key k1, fun y H9 ny s9 ty => ⟨y, rfl, ?_⟩⟩
      have s89 := s8.trans s9
      have hc9 := s89 _ _ hcF
      have ⟨dy, hy⟩ := ty
      refine ⟨_, rfl, insC_of hy, y, c, z, n, g0 t z, kv t, rfl, ty, NamesAt.of S.tt.ok hc9 S.tt.pos S.tt.le, ?_, fun H10 s10 => ?_⟩
      · rw [valV_kv, gv_g0 kt]
        rfl
      have s810 := s89.trans s10
      have ge : v4 ≤ g0 t z + n := lv.le (z, n) (List.mem_of_getElem? hm)
      refine ⟨_, rfl, _, rfl, L, _, 0, .int v4, rfl, rfl, .inl (.inl (s810 _ _ hLF)), atI_nat (j := 0) rfl, _, _, rfl, rfl, _, rfl, ?_⟩
      rw [decide_eq_false (show ¬ (g0 t z + n < v4) by omega)]
      have ea10 : EAt cE H10 a e (ord m) := ⟨⟨dx, s810 _ _ haF⟩, s810 _ _ heF⟩
      have ck10 : Clock H10 c t := ⟨s810 _ _ hcF, S.tt.ok, S.tt.pos, S.tt.le⟩
      refine ⟨_, rfl, _, rfl, L, _, 0, .int v4, rfl, rfl, .inl (.inl (s810 _ _ hLF)), atI_nat (j := 0) rfl, rfl, ?_⟩
      refine ⟨_, rfl, _, rfl, a, dx, _, rfl, s810 _ _ haF, rfl, _, rfl, a, e, c, ord m, t, rfl, ea10, S.eok, ck10, S.ce, S.subO, fun v5 p5 H11 lv5 np5 s11 hp5 => ?_⟩
      obtain rfl : v5 = v4 := (S.lvO.mp lv5).uniq lv
      refine ⟨p5, _, rfl, .inr (.inl (.inl hp5)), rfl, ?_, rfl, _, rfl, ?_⟩
      · rw [List.all_map]
        exact List.all_eq_true.mpr fun _ _ => rfl
      rw [inV_str]
      have eb : decide (V.bl (decide (V.int (g0 t z + n) = V.int v5)) = V.bl (decide (z ∈ fs (ord m) t v5))) = true := by
        have e1 : decide (V.int (g0 t z + n) = V.int v5) = decide (z ∈ fs (ord m) t v5) := by
          rw [Bool.eq_iff_iff, decide_eq_true_eq, decide_eq_true_eq, fs_mem, g0_ord S.tm.ok.nd, ← en]
          constructor
          · intro h
            exact ⟨ko, by simpa using h⟩
          · rintro ⟨_, h⟩
            rw [h]
        rw [e1]
        exact decide_eq_true rfl
      rw [show (if false = true then !decide (z ∈ fs (ord m) t v5) else decide (z ∈ fs (ord m) t v5)) = decide (z ∈ fs (ord m) t v5) from rfl, eb]
      have s811 := s810.trans s11
      have ea11 := ea10.sm s11
      refine ⟨_, rfl, _, rfl, _, rfl, a, dx, _, rfl, s811 _ _ haF, a, e, z, ord m, rfl, ea11, ko, ?_⟩
      refine ⟨_, rfl, _, rfl, c, _, rfl, DGet.tab (.inl (s811 _ _ hcF)) kt, _, _, rfl, rfl, rfl, _, rfl, ?_⟩
      have e2 : decide (V.int (g0 t z + n) = V.int (g0 (ord m) z + g0 t z)) = true := decide_eq_true (by rw [g0_ord S.tm.ok.nd, ← en, Int.add_comm])
      rw [e2]
      exact ⟨s811, _, _, _, rfl⟩
    · rintro σ H7 ⟨sm, x5, x6, x7, rfl⟩
      refine ⟨sm _ _ hF, ?_⟩
      have s7 := locked S6.hd sm
      have S7 := S6.sm s7
      exact ⟨_, rfl, c, kv t, ds, rfl, S7.hc, lt40, hds, _, rfl, rfl, (by rw [decide_eq_true rfl]; exact go _ (s06.trans s7))⟩
end
end E10

set_option Elab.async false
set_option linter.all false
set_option maxRecDepth 100000
set_option maxHeartbeats 16000000
namespace E10
open L2 PySem PySem.Spec PyProof.Rows
theorem g0_shf {m : Tb} {z : Str} {n : Int} (nd : (keys m).Nodup) (k : z ∈ keys m) : g0 (shf m n) z = g0 m z + n := by
  unfold g0
  have : (z, g0 m z + n) ∈ shf m n := List.mem_map.mpr ⟨(z, g0 m z), gv_mem (gv_g0 k), rfl⟩
  rw [gv_of (by rw [keys_shf]; exact nd) this]
  rfl
theorem lv_shfM {m t : Tb} {n v : Int} (h : IsLv m t v) : IsLv (shf m n) t (v + n) := by
  obtain ⟨⟨p, hp, e⟩, le⟩ := h
  refine ⟨⟨(p.1, p.2 + n), List.mem_map.mpr ⟨p, hp, rfl⟩, ?_⟩, fun q hq => ?_⟩
  · show g0 t p.1 + (p.2 + n) = v + n
    omega
  · obtain ⟨r, hr, rfl⟩ := List.mem_map.mp hq
    have := le r hr
    show v + n ≤ g0 t r.1 + (r.2 + n)
    omega
theorem lv_shfT {m t : Tb} {n v : Int} (nd : (keys t).Nodup) (sub : ∀ z ∈ keys m, z ∈ keys t) (h : IsLv m t v) : IsLv m (shf t n) (v + n) := by
  have k : ∀ p ∈ m, g0 (shf t n) p.1 = g0 t p.1 + n := fun p hp => g0_shf nd (sub _ (List.mem_map.mpr ⟨p, hp, rfl⟩))
  obtain ⟨⟨p, hp, e⟩, le⟩ := h
  refine ⟨⟨p, hp, ?_⟩, fun q hq => ?_⟩
  · rw [k p hp]
    omega
  · rw [k q hq]
    have := le q hq
    omega
theorem fs_shfM {m t : Tb} {n v : Int} (nd : (keys m).Nodup) : fs (shf m n) t (v + n) = fs m t v := by
  unfold fs
  rw [keys_shf]
  refine List.filter_congr fun z hz => ?_
  rw [g0_shf nd hz, Bool.eq_iff_iff, decide_eq_true_eq, decide_eq_true_eq]
  constructor <;> intro h <;> omega
theorem fs_shfT {m t : Tb} {n v : Int} (nd : (keys t).Nodup) (sub : ∀ z ∈ keys m, z ∈ keys t) : fs m (shf t n) (v + n) = fs m t v := by
  unfold fs
  refine List.filter_congr fun z hz => ?_
  rw [g0_shf nd (sub z hz), Bool.eq_iff_iff, decide_eq_true_eq, decide_eq_true_eq]
  constructor <;> intro h <;> omega
theorem Okt.shf {m : Tb} (h : Okt m) (n : Int) : Okt (shf m n) := by
  refine ⟨fun p hp => ?_, by rw [keys_shf]; exact h.nd⟩
  obtain ⟨q, hq, rfl⟩ := List.mem_map.mp hp
  exact h.nm q hq
theorem Bg.more {v n : Int} {k l : Nat} {m t : Tb} (h : Tbl Bg l m) (c : Tbl Bg k t) (sub : ∀ z ∈ keys m, z ∈ keys t) (lv : IsLv m t v) (hn : Bg n) : (v + n).natAbs < 10 ^ 70 := by
  obtain ⟨p, hp, e⟩ := lv.at_
  rw [← e]
  have a : Bg _ := c.g0 (sub _ (List.mem_map.mpr ⟨p, hp, rfl⟩))
  have b : Bg p.2 := h.sn p hp
  unfold Bg at *
  have e : (10 ^ 70 : Nat) = 1000000 * 10 ^ 64 := by decide +kernel
  generalize (10 ^ 64 : Nat) = W at *
  generalize (10 ^ 70 : Nat) = Z at *
  omega
section
variable {X : Cx} {k : Nat} {f C : Addr} {fd : FuncData} {ps : List Str} {sp : Sp}
/-- e(e1, ..) of an own object; its reading names no place -/
def tCallI (C : Addr) (sp : Sp) (tf : TE) (t : TA) : TE := fun σ H Q => tf σ H fun y H1 => ∃ a, y = V.ref a ∧ t σ H1 fun vs H2 => ((∃ dx vs, SlX.Slt H2 a C dx vs) ∨ ∃ dx fs, H2 a = some (.ins C dx fs)) ∧ sp (V.ref a :: vs) H2 Q E0
theorem pe_callI {fe e : Expr} {es : List Expr} {tf : TE} {t : TA} {pos : Pos} (hf : PE X fe tf) (c : StX.CallO X.K C f) (F : FnOk X.prog X.w X.K X.mg X.base CX0 k f fd ps sp) (b : Binds X.K fd ps []) (hr : Room k X.A) (ha : PA X (e :: es) t)
    (ht : eval (.Call fe (e :: es) [] pos) X.env = (do callWith pos (← eval fe X.env) [] (backTo pos (starEach (e :: es) X.env)) (backToKw pos (keywordEach [] X.env))) := by rfl)
    (he : starEach (e :: es) X.env = (false, eval e X.env) :: starEach es X.env := by rfl) (hpl : (backTo pos (starEach es X.env)).any (·.1) = false := by rfl) : PE X (.Call fe (e :: es) [] pos) (tCallI C sp tf t) :=
  pe_callOb hf c F b hr ha ht he hpl
end
section
variable {P : Program} {w : World} {K : PySem.W.Frag} {mg : Str → Option Value} {base : Heap} {f cT cE : Addr} {fd : FuncData}
def spMovR (cE : Addr) : Sp := fun vs H Q _ => ∃ (a e d c : Addr) (m t : Tb) (n : Int), vs = [.ref a, .ref d, .ref c, .int n] ∧ Stand cE H a e d c m t ∧ Bg n ∧ ∀ H', Same H H' → Q (.bl true) H'
abbrev nMovR : List Str := ["_law_made", "_law_shifts", "_law_clock", "_law_number_here", "_law_due", "_law_later", "_law_both", "_law_name", "_law_time", "_law_one"]
theorem scMovR : FnScope nMovR ["_law_made", "_law_shifts", "_law_clock", "_law_number_here"] (defScope s__law_moved_right) := ⟨rfl, rfl, rfl, by decide +kernel, rfl, by decide +kernel, by decide +kernel⟩
theorem ok_movR (N : Nam mg) (U : TopE P w K mg base cT cE) (DV : Def P w K mg base "_law_value" ["_law_shifts", "_law_clock"] 1 spValue) (F : Fun K "_law_moved_right" "_law_moved_right" s__law_moved_right f fd) : FnG P w K mg base 8 f fd ["_law_made", "_law_shifts", "_law_clock", "_law_number_here"] (spMovR cE) := by
  refine Fun.okG F scMovR (fun {vs H Q E} h => ?_) (fun cdv A outer s H vs Q E hG hr h => ?_)
  · obtain ⟨_, _, _, _, _, _, _, rfl, _⟩ := h
    rfl
  · obtain ⟨a, e, d, c, m, t, n, rfl, S, hn, go⟩ := h
    have hu := hr.units
    have T := U.T
    obtain ⟨fC, fdC, cC, FC, bC, gC, kC⟩ := U.ca
    obtain ⟨fI, fdI, mI, FI, bI, gI, kI⟩ := U.fi
    refine ⟨_, pss_cons (ps_set (i := 4) scMovR.nd rfl (Or.inr rfl) (callD DV (hr.mono (by decide)) rfl (pa_cons (pv 1) (pa_cons (pv 2) pa_nil))))
      (pss_cons (ps_set (i := 5) scMovR.nd rfl (Or.inl rfl) (pe_callTy (call_dictP rfl) rfl N.dct boot_dict' (pa_cons (pe_lock (pe_lc (own := [("_law_name", 7), ("_law_time", 8)]) (g := gTup K 2 (gCons (gName 7) (gCons (gName 8) gNil))) (tt := tYes) rfl scMovR.nd (pi_items (pv 2))
        (blkOk_by (own := [("_law_name", 7), ("_law_time", 8)]) (N := nMovR) (sc := defScope s__law_moved_right) (by decide +kernel)) (fun _ _ _ _ _ => pg_tup rfl (pgs_cons (pg_name (i := 7) scMovR.nd rfl (Or.inl rfl)) (pgs_cons (pg_name (i := 8) scMovR.nd rfl (Or.inl rfl)) pgs_nil))) (fun _ _ _ _ _ => pts_nil)
        (fun _ _ _ _ _ => pe_tup (pa_cons (pv 7) (pa_cons (pe_op op_add (pv 8) (pv 3)) pa_nil))))) pa_nil)))
      (pss_cons (ps_if (pt_cmpR op_ne (pe_callB (call_reprX hG hu) rfl N.rep boot_repr (pa_cons (pe_lst (pa_cons (pe_callOb (pv 0) cC FC bC (hr.mono (by decide)) (pa_cons (pv 5) pa_nil) (PySem.arm_eval_Call_Name' _ _ _ _ _ _))
          (pa_cons (pe_meth (pv 0) T.own.cl mI FI (hr.mono (by decide)) bI .nil pass0 (pa_cons (pv 5) pa_nil)) pa_nil))) pa_nil))
        (pe_callB (call_reprX hG hu) rfl N.rep boot_repr (pa_cons (pe_lst (pa_cons (pe_op op_add (pe_ix ix_list (pv 4) pe_int (fun _ _ => rfl)) (pv 3)) (pa_cons (pe_ix ix_list (pv 4) pe_int (fun _ _ => rfl)) pa_nil))) pa_nil)) (nomark _)) (pss_one (ps_ret pe_bl)) pss_nil)
      (pss_cons (ps_set (i := 6) scMovR.nd rfl (Or.inl rfl) (pe_lst (pa_cons (pe_op (op_plusE T U.A hG (hr.mono (by decide))) (pv 0) (pv 3)) (pa_cons (pe_op (op_raddE T U.A U.R hG (hr.mono (by decide))) (pv 3) (pv 0)) (pa_cons (pe_op (op_minusE T U.A U.S hG (hr.mono (by decide))) (pv 0) (pe_un un_neg (pv 3))) pa_nil)))))
      (pss_one (ps_ret (pe_callB (cr_all rfl) rfl N.all_ boot_all' (pa_cons (pe_lc (own := [("_law_one", 9)]) (g := gName 9) (tt := tYes)
        (te := tOp rEq (tCB (rReprX K) (tCons (tLst (tCons (tCallI cE (spCallE cE) (tVar 9) (tCons (tVar 2) tNil)) (tCons (tMeth cE "first" (spFirst cE) [] E0 (tVar 9) (tCons (tVar 2) tNil)) tNil))) tNil))
          (tCB (rReprX K) (tCons (tLst (tCons (tOp (rI0 fun i j => .int (i + j)) (tOp (rIxL K) (tVar 4) (tC (.int 0))) (tVar 3)) (tCons (tOp (rIxL K) (tVar 4) (tC (.int 1))) tNil))) tNil))) rfl scMovR.nd (pi_list (pv 6))
        (blkOk_by (own := [("_law_one", 9)]) (N := nMovR) (sc := defScope s__law_moved_right) (by decide +kernel)) (fun _ _ _ _ _ => pg_name (i := 9) scMovR.nd rfl (Or.inl rfl)) (fun _ _ _ _ _ => pts_nil)
        (fun _ _ _ _ _ => pe_cmpR op_eq (pe_callB (call_reprX hG hu) rfl N.rep boot_repr (pa_cons (pe_lst (pa_cons (pe_callI (pv 9) cC FC bC (hr.mono (by decide)) (pa_cons (pv 2) pa_nil) (PySem.arm_eval_Call_Name' _ _ _ _ _ _))
          (pa_cons (pe_meth (pv 9) T.own.cl mI FI (hr.mono (by decide)) bI .nil pass0 (pa_cons (pv 2) pa_nil)) pa_nil))) pa_nil))
          (pe_callB (call_reprX hG hu) rfl N.rep boot_repr (pa_cons (pe_lst (pa_cons (pe_op op_add (pe_ix ix_list (pv 4) pe_int (fun _ _ => rfl)) (pv 3)) (pa_cons (pe_ix ix_list (pv 4) pe_int (fun _ _ => rfl)) pa_nil))) pa_nil)) (nomark _))) pa_nil))))))), ?_⟩
    refine ⟨_, rfl, _, rfl, d, c, m, t, rfl, S.hd, S.tm.ok.nd, S.tm.pos, by have := S.tm.le; omega, S.hc, S.cd, S.sub, fun v L q H1 lv nL nq s1 hL hq => ?_⟩
    have S1 := S.sm s1
    have big := Bg.more S.tm S.tt S.sub lv hn
    -- later times
    refine ⟨c, _, S1.hc, True.intro, fun od => ?_⟩
    have hF : upd H1 c (.frz od (.dK (kv t))) c = some (.frz od (.dK (kv t))) := upd_same
    refine ⟨_, rfl, c, od, kv t, rfl, hF, fun D nD => ?_⟩
    refine lc_it (walk_items (kvs := kv t)) (fun i H' => Same (upd H1 c (.frz od (.dK (kv t)))) H' ∧ ∃ ps, H' D = some (.lst (ps.map V.ref)) ∧ RowsAt H' ps ((shf t n).take i)) ⟨new_same nD, [], upd_same, .nil⟩ (fun i H' _ h => h.1 _ _ hF) ?_ ?_
    · rintro i x H2 H2' lt ⟨sm, ps, hD, ra⟩ ⟨T7, xx, yy, rfl, nT, rfl, hxx, hyy⟩
      obtain ⟨z, j, hm⟩ : ∃ z j, t[i]? = some (z, j) := by
        rw [kv_len] at lt
        exact ⟨_, _, List.getElem?_eq_getElem lt⟩
      have hk : (kv t)[i]? = some (.inr z, .int j) := by
        unfold kv
        rw [List.getElem?_map, hm]
        rfl
      replace hxx : Option.map (fun kv => kV kv.1) (kv t)[i]? = some xx := hxx
      replace hyy : Option.map Prod.snd (kv t)[i]? = some yy := hyy
      rw [hk] at hxx hyy
      obtain rfl : xx = .str z := (Option.some.inj hxx).symm
      obtain rfl : yy = .int j := (Option.some.inj hyy).symm
      refine ⟨T7, _, rfl, .inl (.inl upd_same), rfl, _, _, rfl, _, _, rfl, rfl, wipe_two _ _ _ _ _, ?_⟩
      have sT := new_same (o := .tup [.str z, .int j]) nT
      refine ⟨_, rfl, _, rfl, _, rfl, _, _, rfl, rfl, by show 2 ≤ sizeLine; decide, fun p np => ?_⟩
      have sp := new_same (o := .tup [.str z, .int (j + n)]) np
      have s3 := sT.trans sp
      refine ⟨_, s3 _ _ hD, ?_, fun b o e => ?_, ps ++ [p], ?_, ?_⟩
      · rw [List.length_map, paired_len ra, List.length_take, shf_len]
        exact Nat.lt_of_le_of_lt (Nat.le_trans (Nat.min_le_right _ _) S.tt.le) (by decide)
      · rw [upd_ne (ne_of_none e nD)]
        exact s3 _ _ (sm _ _ e)
      · rw [upd_same, List.map_append]
        rfl
      · have hs : (shf t n)[i]? = some (z, j + n) := by
          unfold shf
          rw [List.getElem?_map, hm]
          rfl
        rw [List.take_add_one, hs]
        have pD : p ≠ D := (ne_of_none (sT _ _ hD) np).symm
        refine paired_snoc (RowsAt.mono (fun q xs e => ?_) ra) ?_
        · have qD : q ≠ D := by
            rintro rfl
            rw [hD] at e
            cases e
          rw [upd_ne qD]
          exact s3 _ _ e
        · exact (upd_ne pD).trans upd_same
    · rintro H2 ⟨sm, ps, hD, ra⟩
      rw [kv_len, ← shf_len t n, List.take_length] at ra
      have s2 := locked S1.hc sm
      refine ⟨sm _ _ hF, D, ps, kv (shf t n), rfl, ?_, ?_, fun l nl => ?_⟩
      · have Dc : D ≠ c := (ne_of_none hF nD).symm
        exact .inl (.inl ((upd_ne Dc).trans hD))
      · refine RowsAt.sq (RowsAt.mono (fun p xs e => ?_) ra)
        have pc : p ≠ c := by
          rintro rfl
          rw [sm _ _ hF] at e
          cases e
        exact (upd_ne pc).trans e
      rw [show mergeK [] (kv (shf t n)) = kv (ofRows [] (shf t n)) from mergeK_kv (shf t n) [], ofRows_id (by rw [keys_shf]; exact S.tt.ok.nd)]
      have sl := new_same (o := .dK (kv (shf t n))) nl
      have s12 := (s1.trans s2).trans sl
      have S3 := S.sm s12
      have hL3 := (s2.trans sl) _ _ hL
      have hq3 := (s2.trans sl) _ _ hq
      have hl : upd (upd H2 c (.dK (kv t))) l (.dK (kv (shf t n))) l = some (.dK (kv (shf t n))) := upd_same
      have le : l ≠ e := (ne_of_none (s2 _ _ S1.ea.tab) nl).symm
      generalize upd (upd H2 c (.dK (kv t))) l (.dK (kv (shf t n))) = H3 at s12 S3 hL3 hq3 hl
      clear s2 sl ra hD sm nD nl hF S1 s1 hL hq
      have ckl : Clock H3 l (shf t n) := ⟨hl, S.tt.ok.shf n, by rw [shf_len]; exact S.tt.pos, by rw [shf_len]; exact S.tt.le⟩
      have subl : ∀ z ∈ keys (ord m), z ∈ keys (shf t n) := fun z hz => by
        rw [keys_shf]
        exact S.subO z hz
      have lvO := S.lvO.mpr lv
      have lvl := lv_shfT (n := n) S.tt.ok.nd S.subO lvO
      have fsl := fs_shfT (m := ord m) (t := t) (n := n) (v := v) S.tt.ok.nd S.subO
      have ⟨dx, hi⟩ := S3.ea.ins
      refine ⟨_, rfl, a, rfl, _, rfl, insC_of hi, a, e, l, ord m, shf t n, rfl, S3.ea, S.eok, ckl, le, subl, fun v1 H4 lv1 s4 => ?_⟩
      obtain rfl : v1 = v + n := lv1.uniq lvl
      have S4 := S3.sm s4
      have ⟨dx4, hi4⟩ := S4.ea.ins
      refine ⟨_, rfl, a, dx4, _, rfl, hi4, rfl, _, rfl, a, e, l, ord m, shf t n, rfl, S4.ea, S.eok, ckl.sm s4, le, subl, fun v2 p1 H5 lv2 np1 s5 hp1 => ?_⟩
      obtain rfl : v2 = v + n := lv2.uniq lvl
      rw [fsl] at hp1
      refine ⟨by show 2 ≤ sizeLine; decide, fun W nW => ?_⟩
      have sW := new_same (o := .lst [.int (v + n), .ref p1]) nW
      refine ⟨2, W, _, rfl, by decide, pair_data (.inl (.inl upd_same)) (sW _ _ hp1) big S.nms S.fle, ?_⟩
      have s35 := (s4.trans s5).trans sW
      have hL5 := s35 _ _ hL3
      have hq5 := s35 _ _ hq3
      refine ⟨_, rfl, L, _, 0, .int v, rfl, rfl, .inl (.inl hL5), atI_nat (j := 0) rfl, _, rfl, _, _, rfl, rfl, _, rfl, L, _, 1, .ref q, rfl, rfl, .inl (.inl hL5), atI_nat (j := 1) rfl, by show 2 ≤ sizeLine; decide, fun W2 nW2 => ?_⟩
      have sW2 := new_same (o := .lst [.int (v + n), .ref q]) nW2
      refine ⟨2, W2, _, rfl, by decide, pair_data (.inl (.inl upd_same)) (sW2 _ _ hq5) big S.nms S.fle, rfl, _, rfl, ?_⟩
      rw [decide_eq_true rfl]
      have s6 := s12.trans (s35.trans sW2)
      have hL6 := sW2 _ _ hL5
      have hq6 := sW2 _ _ hq5
      have S6 := S.sm s6
      generalize upd (upd H5 W (.lst [.int (v + n), .ref p1])) W2 (.lst [.int (v + n), .ref q]) = H6 at s6 hL6 hq6 S6
      clear s35 sW sW2 hL5 hq5 hp1 s4 s5 S3 S4 hi hi4 hL3 hq3 s12 ckl lv1 lv2 lvl fsl subl nW nW2 np1 hl
      -- moved by the number
      have ⟨dx6, hi6⟩ := S6.ea.ins
      refine ⟨_, rfl, _, rfl, a, dx6, _, n, rfl, rfl, hi6, a, e, ord m, n, rfl, S6.ea, S.eok, fun x1 e1 H7 nx1 ne1 s7 ea1 => ?_⟩
      have S7 := S6.sm s7
      have ⟨dx7, hi7⟩ := S7.ea.ins
      refine ⟨_, rfl, _, rfl, a, dx7, _, n, rfl, rfl, hi7, a, e, ord m, n, rfl, S7.ea, S.eok, fun x2 e2 H8 nx2 ne2 s8 ea2 => ?_⟩
      have S8 := S7.sm s8
      have ⟨dx8, hi8⟩ := S8.ea.ins
      refine ⟨_, rfl, _, rfl, n, rfl, a, dx8, _, -n, rfl, rfl, hi8, a, e, ord m, -n, rfl, S8.ea, S.eok, fun x3 e3 H9 nx3 ne3 s9 ea3 => ?_⟩
      rw [show shf (ord m) (- -n) = shf (ord m) n by rw [Int.neg_neg]] at ea3
      refine ⟨by show 3 ≤ sizeLine; decide, fun B nB => ?_⟩
      have sB := new_same (o := .lst [.ref x1, .ref x2, .ref x3]) nB
      have f1 := ea1.sm ((s8.trans s9).trans sB)
      have f2 := ea2.sm (s9.trans sB)
      have f3 := ea3.sm sB
      have s69 := ((s7.trans s8).trans s9).trans sB
      have c1 : c ≠ e1 := ne_of_none S6.hc ne1
      have c2 : c ≠ e2 := ne_of_none (s7 _ _ S6.hc) ne2
      have c3 : c ≠ e3 := ne_of_none (s8 _ _ (s7 _ _ S6.hc)) ne3
      have S9 := S6.sm s69
      have hL9 := s69 _ _ hL6
      have hq9 := s69 _ _ hq6
      have s09 := s6.trans s69
      have hB : upd H9 B (.lst [.ref x1, .ref x2, .ref x3]) B = some (.lst [.ref x1, .ref x2, .ref x3]) := upd_same
      generalize upd H9 B (.lst [.ref x1, .ref x2, .ref x3]) = G at f1 f2 f3 S9 hL9 hq9 s09 hB
      clear s69 sB s7 s8 s9 ea1 ea2 ea3 S6 S7 S8 hi6 hi7 hi8 s6 hL6 hq6 nB
      have all : ∀ y ∈ [V.ref x1, V.ref x2, V.ref x3], ∃ x e', y = .ref x ∧ EAt cE G x e' (shf (ord m) n) ∧ c ≠ e' := fun y hy => by
        simp only [List.mem_cons, List.not_mem_nil, or_false] at hy
        rcases hy with rfl | rfl | rfl
        · exact ⟨_, _, rfl, f1, c1⟩
        · exact ⟨_, _, rfl, f2, c2⟩
        · exact ⟨_, _, rfl, f3, c3⟩
      refine ⟨_, rfl, B, rfl, ⟨_, .inl (.inl hB)⟩, fun D3 nD3 => ?_⟩
      refine lc_map (walk_list (xs := [V.ref x1, V.ref x2, V.ref x3])) (fun _ => .bl true) nD3 (by show (3:Nat) ≤ 1000; decide) (fun H' s => .inl (.inl (s _ _ hB))) (fun _ _ _ _ y => by rw [y.1]; exact Same.refl _) ?_ ?_
      · rintro i x G1 G1' R lt sm _ ⟨rfl, hy⟩ go2
        refine ⟨rfl, ?_⟩
        obtain ⟨x, e', rfl, ea, ce'⟩ := all x (List.mem_of_getElem? hy)
        have ea1 := ea.sm sm
        have ⟨dy, hy1⟩ := ea1.ins
        have eo := S.eok.shf n
        have lvm := lv_shfM (n := n) lvO
        have sub2 : ∀ z ∈ keys (shf (ord m) n), z ∈ keys t := fun z hz => by
          rw [keys_shf] at hz
          exact S.subO z hz
        refine ⟨_, rfl, x, rfl, _, rfl, .inr ⟨_, _, hy1⟩, x, e', c, _, t, rfl, ea1, eo, S9.ck.sm sm, ce', sub2, fun v1 G2 lv1 s2 => ?_⟩
        obtain rfl : v1 = v + n := lv1.uniq lvm
        have ea2 := ea1.sm s2
        have ⟨dy2, hy2⟩ := ea2.ins
        refine ⟨_, rfl, x, dy2, _, rfl, hy2, rfl, _, rfl, x, e', c, _, t, rfl, ea2, eo, (S9.ck.sm sm).sm s2, ce', sub2, fun v2 p1 G3 lv2 np1 s3 hp1 => ?_⟩
        obtain rfl : v2 = v + n := lv2.uniq lvm
        rw [fs_shfM S.eok.ok.nd] at hp1
        refine ⟨by show 2 ≤ sizeLine; decide, fun W nW => ?_⟩
        have sW := new_same (o := .lst [.int (v + n), .ref p1]) nW
        refine ⟨2, W, _, rfl, by decide, pair_data (.inl (.inl upd_same)) (sW _ _ hp1) big S.nms S.fle, ?_⟩
        have s13 := (s2.trans s3).trans sW
        have hL3 := s13 _ _ (sm _ _ hL9)
        have hq3 := s13 _ _ (sm _ _ hq9)
        refine ⟨_, rfl, L, _, 0, .int v, rfl, rfl, .inl (.inl hL3), atI_nat (j := 0) rfl, _, rfl, _, _, rfl, rfl, _, rfl, L, _, 1, .ref q, rfl, rfl, .inl (.inl hL3), atI_nat (j := 1) rfl, by show 2 ≤ sizeLine; decide, fun W2 nW2 => ?_⟩
        have sW2 := new_same (o := .lst [.int (v + n), .ref q]) nW2
        refine ⟨2, W2, _, rfl, by decide, pair_data (.inl (.inl upd_same)) (sW2 _ _ hq3) big S.nms S.fle, rfl, ?_⟩
        rw [decide_eq_true rfl]
        exact go2 _ (s13.trans sW2)
      · intro G1 sm hD
        refine ⟨D3, List.replicate 3 true, rfl, by rw [← all_range]; exact .inl (.inl hD), ?_⟩
        rw [all_true]
        exact go _ (s09.trans sm)
end
end E10

set_option Elab.async false
set_option linter.all false
set_option maxRecDepth 100000
set_option maxHeartbeats 4000000
namespace E10
open L2 PySem PySem.Spec PyProof.Rows
theorem strs_lay : ∀ l : List Str, (∀ z ∈ l, PyData.strOk z = true) → PyData.canLay0 (.list (l.map PyData.str)) = true ∧ PyData.depthAll (l.map PyData.str) = 0
  | [], _ => ⟨rfl, rfl⟩
  | z :: r, h => by
    obtain ⟨a, b⟩ := strs_lay r fun y m => h y (.tail _ m)
    have hz : PyData.strOk z = true := h z (.head _)
    refine ⟨?_, ?_⟩
    · have e : PyData.canLayAll0 (PyData.str z :: r.map PyData.str) = (PyData.canLay0 (.str z) && PyData.canLayAll0 (r.map PyData.str)) := by simp only [PyData.canLayAll0]
      have a2 : PyData.canLayAll0 (r.map PyData.str) = true := by simpa only [PyData.canLay0] using a
      show PyData.canLay0 (.list (PyData.str z :: r.map PyData.str)) = true
      simp only [PyData.canLay0]
      rw [e, a2]
      simp only [PyData.canLay0, hz, Bool.and_self]
    · show max _ _ = 0
      rw [b]
      rfl
theorem strs_shaped (l : List Str) (h : ∀ z ∈ l, PyData.strOk z = true) : SeqAt.shaped (.list (l.map PyData.str)) = true := by
  obtain ⟨a, b⟩ := strs_lay l h
  unfold SeqAt.shaped
  rw [a]
  show decide (PyData.depthAll (l.map PyData.str) + 1 ≤ 64) = true
  rw [b]
  rfl
theorem Nm.strOk {z : Str} (h : Nm z) : PyData.strOk z = true := by
  unfold PyData.strOk
  rw [← Array.all_toList]
  refine List.all_eq_true.mpr fun c m => decide_eq_true ?_
  have := h.abc c m
  omega
theorem strs_dp {K : PySem.W.Frag} {H : Hp} {a : Addr} {l : List Str} (h : SqL K H a (l.map V.str)) : Dp K H (.ref a) (.list (l.map PyData.str)) := by
  refine .lst h ?_
  clear h
  induction l with
  | nil => exact .nil
  | cons z r ih => exact .cons (.str z) ih
/-- names != [] -/
def rNeNil (K : PySem.W.Frag) : R2 := fun x y H Q => ∃ (a b : Addr) (zs : List Str), x = .ref a ∧ y = .ref b ∧ (∀ z ∈ zs, PyData.strOk z = true) ∧ SqL K H a (zs.map V.str) ∧ SqL K H b [] ∧ Q (.bl (!zs.isEmpty)) H
theorem op_neNil {X : Cx} (hu : X.A.units + 64 < cLine) : OpR X (compareOp .NotEq) (rNeNil X.K) := by
  intro pins s σ H x y v u Q I rx ry h
  obtain ⟨a, b, zs, rfl, rfl, ok, ha, hb, q⟩ := h
  refine op_neD hu pins s σ H _ _ v u Q I rx ry ⟨_, .list [], strs_dp ha, .lst hb .nil, strs_shaped zs ok, rfl, ?_⟩
  have e : PyData.eqv (.list (zs.map PyData.str)) (.list []) = zs.isEmpty := by cases zs <;> rfl
  rw [e]
  exact q
def rEqNil (K : PySem.W.Frag) : R2 := fun x y H Q => ∃ (a b : Addr) (zs : List Str), x = .ref a ∧ y = .ref b ∧ (∀ z ∈ zs, PyData.strOk z = true) ∧ SqL K H a (zs.map V.str) ∧ SqL K H b [] ∧ Q (.bl zs.isEmpty) H
theorem op_eqNil {X : Cx} (hu : X.A.units + 64 < cLine) : OpR X (compareOp .Eq) (rEqNil X.K) := by
  intro pins s σ H x y v u Q I rx ry h
  obtain ⟨a, b, zs, rfl, rfl, ok, ha, hb, q⟩ := h
  refine op_eqD hu pins s σ H _ _ v u Q I rx ry ⟨_, .list [], strs_dp ha, .lst hb .nil, strs_shaped zs ok, rfl, ?_⟩
  have e : PyData.eqv (.list (zs.map PyData.str)) (.list []) = zs.isEmpty := by cases zs <;> rfl
  rw [e]
  exact q
end E10

set_option Elab.async false
set_option linter.all false
set_option maxRecDepth 100000
set_option maxHeartbeats 16000000
namespace E10
open L2 PySem PySem.Spec PyProof.Rows
theorem boot_tuple2 : bootBuiltins "tuple" = some (.type "tuple") := by decide +kernel
/-- the delays: 0 of the chosen ones, more of the others -/
structure Delays (C : List Str) (m rows : Tb) : Prop where
  ks : keys rows = keys m
  of : ∀ p ∈ rows, (p.1 ∈ C ∧ p.2 = 0) ∨ (p.1 ∉ C ∧ 1 ≤ p.2)
theorem Delays.g0 {C : List Str} {m rows : Tb} (D : Delays C m rows) {z : Str} (k : z ∈ keys m) : (z ∈ C ∧ g0 rows z = 0) ∨ (z ∉ C ∧ 1 ≤ g0 rows z) :=
  D.of _ (gv_mem (gv_g0 (D.ks ▸ k)))
/-- the times at which just the chosen ones are first, at v -/
def plant (v : Int) (m rows : Tb) : Tb := m.map fun p => (p.1, v - p.2 + g0 rows p.1)
theorem keys_plant {v : Int} {m rows : Tb} : keys (plant v m rows) = keys m := by
  unfold plant keys
  rw [List.map_map]
  rfl
theorem g0_plant {v : Int} {m rows : Tb} (nd : (keys m).Nodup) {z : Str} (k : z ∈ keys m) : g0 (plant v m rows) z = v - g0 m z + g0 rows z := by
  have : (z, v - g0 m z + g0 rows z) ∈ plant v m rows := List.mem_map.mpr ⟨(z, g0 m z), gv_mem (gv_g0 k), rfl⟩
  show (gv (plant v m rows) z).getD 0 = _
  rw [gv_of (by rw [keys_plant]; exact nd) this]
  rfl
theorem plant_lv {v : Int} {C : List Str} {m rows : Tb} (nd : (keys m).Nodup) (D : Delays C m rows) (ne : C ≠ []) (sub : ∀ z ∈ C, z ∈ keys m) : IsLv m (plant v m rows) v := by
  have val : ∀ p ∈ m, g0 (plant v m rows) p.1 + p.2 = v + g0 rows p.1 := fun p hp => by
    have k : p.1 ∈ keys m := List.mem_map.mpr ⟨p, hp, rfl⟩
    rw [g0_plant nd k]
    have : g0 m p.1 = p.2 := by
      unfold g0
      rw [gv_of nd (show (p.1, p.2) ∈ m from hp)]
      rfl
    omega
  refine ⟨?_, fun p hp => ?_⟩
  · obtain ⟨z, r, rfl⟩ := List.exists_cons_of_ne_nil ne
    have k := sub z (.head _)
    refine ⟨(z, g0 m z), gv_mem (gv_g0 k), ?_⟩
    rw [val _ (gv_mem (gv_g0 k))]
    rcases D.g0 k with ⟨_, e⟩ | ⟨n, _⟩
    · rw [e, Int.add_zero]
    · exact absurd (.head _) n
  · rw [val p hp]
    rcases D.g0 (List.mem_map.mpr ⟨p, hp, rfl⟩) with ⟨_, e⟩ | ⟨_, e⟩ <;> omega
theorem plant_fs {v : Int} {C : List Str} {m rows : Tb} (nd : (keys m).Nodup) (nC : C.Nodup) (D : Delays C m rows) (sub : ∀ z ∈ C, z ∈ keys m) : fs (ord m) (plant v m rows) v = srt C := by
  have key : ∀ z ∈ keys m, (g0 (plant v m rows) z + g0 (ord m) z = v ↔ z ∈ C) := fun z k => by
    rw [g0_plant nd k, g0_ord nd]
    rcases D.g0 k with ⟨c, e⟩ | ⟨c, e⟩
    · exact ⟨fun _ => c, fun _ => by omega⟩
    · exact ⟨fun h => by omega, fun h => absurd h c⟩
  refine uniq_sorted ?_ (srt_pw _) ?_
  · unfold fs
    rw [keys_ord]
    exact (srt_pw _).filter _
  · refine (List.perm_ext_iff_of_nodup ?_ (srt_nodup nC)).mpr fun z => ?_
    · unfold fs
      rw [keys_ord]
      exact (srt_nodup nd).filter _
    · rw [fs_mem, keys_ord, srt_mem, srt_mem]
      constructor
      · rintro ⟨k, h⟩
        exact (key z k).mp h
      · intro h
        exact ⟨sub z h, (key z (sub z h)).mpr h⟩
/-- one goes ahead alone -/
theorem ahead_lv {v : Int} {C : List Str} {m rows : Tb} {z : Str} (nd : (keys m).Nodup) (D : Delays C m rows) (k : z ∈ keys m) : IsLv m (put (plant v m rows) z (v - g0 m z - 1)) (v - 1) ∧ fs (ord m) (put (plant v m rows) z (v - g0 m z - 1)) (v - 1) = [z] := by
  have gm : ∀ p ∈ m, g0 m p.1 = p.2 := fun p hp => by
    unfold g0
    rw [gv_of nd (show (p.1, p.2) ∈ m from hp)]
    rfl
  have val : ∀ y ∈ keys m, g0 (put (plant v m rows) z (v - g0 m z - 1)) y + g0 m y = if y = z then v - 1 else v + g0 rows y := fun y ky => by
    rw [g0_put]
    by_cases e : y = z
    · rw [if_pos e, if_pos e, e]
      omega
    · rw [if_neg e, if_neg e, g0_plant nd ky]
      omega
  refine ⟨⟨⟨(z, g0 m z), gv_mem (gv_g0 k), ?_⟩, fun p hp => ?_⟩, ?_⟩
  · have := val z k
    rw [if_pos rfl] at this
    exact this
  · have kp : p.1 ∈ keys m := List.mem_map.mpr ⟨p, hp, rfl⟩
    have := val p.1 kp
    rw [gm p hp] at this
    rw [this]
    split
    · exact Int.le_refl _
    · rcases D.g0 kp with ⟨_, e⟩ | ⟨_, e⟩ <;> omega
  · refine uniq_sorted ?_ (List.pairwise_singleton ..) ?_
    · unfold fs
      rw [keys_ord]
      exact (srt_pw _).filter _
    · refine (List.perm_ext_iff_of_nodup ?_ (by simp)).mpr fun y => ?_
      · unfold fs
        rw [keys_ord]
        exact (srt_nodup nd).filter _
      · rw [fs_mem, keys_ord, srt_mem, List.mem_singleton, g0_ord nd]
        constructor
        · rintro ⟨ky, h⟩
          refine Classical.byContradiction fun e => ?_
          rw [val y ky, if_neg e] at h
          rcases D.g0 ky with ⟨_, e⟩ | ⟨_, e⟩ <;> omega
        · rintro rfl
          refine ⟨k, ?_⟩
          rw [val y k, if_pos rfl]
section
variable {P : Program} {w : World} {K : PySem.W.Frag} {mg : Str → Option Value} {base : Heap} {f cT cE : Addr} {fd : FuncData}
theorem lockedB {H H' : Hp} {d b : Addr} {od : Obj} {u : HO} (h : H d = some u) (db : d ≠ b) (s : SameB b (upd H d (.frz od u)) H') : SameB b H (upd H' d u) := fun c o e nc => by
  by_cases q : c = d
  · rw [q] at e ⊢
    rw [upd_same]
    exact h.symm.trans e
  · rw [upd_ne q]
    exact s c o ((upd_ne q).trans e) nc
/-- an Earliest of a table, and the table -/
structure Stand1 (cE : Addr) (H : Hp) (a e d : Addr) (m : Tb) : Prop where
  ea : EAt cE H a e (ord m)
  hd : Tab H d m
  tm : Tbl Bg 8 m
  ed : e ≠ d
theorem Stand1.smB {cE : Addr} {H H' : Hp} {a e d b : Addr} {m : Tb} (s : SameB b H H') (p : PotAt H b) (S : Stand1 cE H a e d m) : Stand1 cE H' a e d m := by
  obtain ⟨dx, hi⟩ := S.ea.ins
  exact { S with
    ea := ⟨⟨dx, s _ _ hi (p.ne hi (by intro xs q; cases q))⟩, s _ _ S.ea.tab (p.ne S.ea.tab (by intro xs q; cases q))⟩
    hd := s _ _ S.hd (p.ne S.hd (by intro xs q; cases q)) }
theorem Stand1.eok {cE : Addr} {H : Hp} {a e d : Addr} {m : Tb} (S : Stand1 cE H a e d m) : EOk (ord m) := EOk.of S.tm.ok S.tm.pos S.tm.le
theorem Stand1.ck {cE : Addr} {H : Hp} {a e d : Addr} {m : Tb} (S : Stand1 cE H a e d m) : ∀ z ∈ keys (ord m), z ∈ keys m := fun z hz => by
  rw [keys_ord, srt_mem] at hz
  exact hz
theorem seq_if_by {i : Nat} {x : V} {σ : L2.St} {tt : TT} {ta tb : TE} {g : TG} {u : TS} {D D0 : Ends} {H : Hp} (Pr : V → Hp → Prop) (h : ∀ Q' : VK, (∀ y H', Pr y H' → Q' y H') → tIf tt ta tb (σ.set i (some x)) H Q')
    (go : ∀ y H', Pr y H' → g y (σ.set i (some x)) H' (u D)) : gName i x σ H (Ends.nx { D0 with nx := tSeq (tAsg (tIf tt ta tb) g) u D }) := h _ go
/-- a row more, at the end of a list of rows -/
theorem rows_next {b D p : Addr} {F G1 G2 : Hp} {ps : List Addr} {rows : Tb} {z : Str} {n : Int} (nD : F D = none) (Db : D ≠ b) (sb : SameB b F G1) (s2 : SameB b G1 G2) (pa : PotAt G1 b) (p2 : PotAt G2 b)
    (hD : G1 D = some (.lst (ps.map V.ref))) (ra : RowsAt G1 ps rows) (np : G2 p = none) (le : rows.length ≤ 40) :
    ∃ acc, upd G2 p (.tup [.str z, .int n]) D = some (.lst acc) ∧ acc.length < sizeLine ∧ SameB b F (upd (upd G2 p (.tup [.str z, .int n])) D (.lst (acc ++ [.ref p]))) ∧
      PotAt (upd (upd G2 p (.tup [.str z, .int n])) D (.lst (acc ++ [.ref p]))) b ∧ ∃ ps', upd (upd G2 p (.tup [.str z, .int n])) D (.lst (acc ++ [.ref p])) D = some (.lst (ps'.map V.ref)) ∧
      RowsAt (upd (upd G2 p (.tup [.str z, .int n])) D (.lst (acc ++ [.ref p]))) ps' (rows ++ [(z, n)]) := by
  have hD2 := s2 _ _ hD Db
  have pD : p ≠ D := (ne_of_none hD2 np).symm
  have pb : p ≠ b := p2.new np
  refine ⟨ps.map V.ref, (upd_ne pD.symm).trans hD2, ?_, ?_, (p2.upd pb).upd Db, ps ++ [p], ?_, ?_⟩
  · rw [List.length_map, paired_len ra]
    exact Nat.lt_of_le_of_lt le (by decide)
  · intro q o e nq
    have qD : q ≠ D := ne_of_none e nD
    have e2 := s2 _ _ (sb _ _ e nq) nq
    rw [upd_ne qD, upd_ne (ne_of_none e2 np)]
    exact e2
  · rw [upd_same, List.map_append]
    rfl
  · refine paired_snoc (RowsAt.mono (fun q xs e => ?_) ra) ?_
    · have e2 := s2 _ _ e (pa.ne e (by intro xs q; cases q))
      have qD : q ≠ D := by
        rintro rfl
        rw [hD] at e
        cases e
      rw [upd_ne qD, upd_ne (ne_of_none e2 np)]
      exact e2
    · exact (upd_ne pD).trans upd_same
theorem Stand1.sm {cE : Addr} {H H' : Hp} {a e d : Addr} {m : Tb} (s : Same H H') (S : Stand1 cE H a e d m) : Stand1 cE H' a e d m := { S with ea := S.ea.sm s, hd := s _ _ S.hd }
def spPlan (cE : Addr) : Sp := fun vs H Q _ => ∃ (b a e d : Addr) (m : Tb) (v : Int), vs = [.ref b, .ref a, .ref d, .int v] ∧ PotAt H b ∧ Stand1 cE H a e d m ∧ Bg v ∧ ∀ H', SameB b H H' → PotAt H' b → Q (.bl true) H'
abbrev nPlan : List Str := ["_law_pot_here", "_law_made", "_law_shifts", "_law_value_here", "_law_name", "_law_chosen", "_law_later", "_law_clock", "_law_shift"]
theorem scPlan : FnScope nPlan ["_law_pot_here", "_law_made", "_law_shifts", "_law_value_here"] (defScope s__law_planted_right) := ⟨rfl, rfl, rfl, by decide +kernel, rfl, by decide +kernel, by decide +kernel⟩
theorem ok_plan (N : Nam mg) (U : TopE P w K mg base cT cE) (DD : Def P w K mg base "_law_draw" ["_law_pot_here", "_law_many"] 1 spDraw) (DC : Def P w K mg base "_law_choice" ["_law_pot_here", "_law_some"] 2 spChoice) (F : Fun K "_law_planted_right" "_law_planted_right" s__law_planted_right f fd) :
    FnG P w K mg base 8 f fd ["_law_pot_here", "_law_made", "_law_shifts", "_law_value_here"] (spPlan cE) := by
  refine Fun.okG F scPlan (fun {vs H Q E} h => ?_) (fun cdv A outer s H vs Q E hG hr h => ?_)
  · obtain ⟨_, _, _, _, _, _, rfl, _⟩ := h
    rfl
  · obtain ⟨b, a, e, d, m, v, rfl, hp, S, bv, go⟩ := h
    have hu := hr.units
    have T := U.T
    obtain ⟨fC, fdC, cC, FC, bC, gC, kC⟩ := U.ca
    obtain ⟨fI, fdI, mI, FI, bI, gI, kI⟩ := U.fi
    refine ⟨_, pss_cons (ps_set (i := 5) scPlan.nd rfl (Or.inr rfl) (pe_lock (pe_lc (own := [("_law_name", 4)]) (g := gName 4) (tt := tTest (tOp rEq (tCall spDraw [] E0 (tCons (tVar 0) (tCons (tC (.int 3)) tNil))) (tC (.int 0)))) rfl scPlan.nd (pi_keys (pv 2))
        (blkOk_by (own := [("_law_name", 4)]) (N := nPlan) (sc := defScope s__law_planted_right) (by decide +kernel)) (fun _ _ _ _ _ => pg_name (i := 4) scPlan.nd rfl (Or.inl rfl)) (fun _ _ _ _ _ => pts_one (pt_cmpR op_eq (callD DD (hr.mono (by decide)) rfl (pa_cons (pv 0) (pa_cons pe_int pa_nil))) pe_int (nomark _)))
        (fun _ _ _ _ _ => pv 4))))
      (pss_cons (ps_set (i := 5) scPlan.nd rfl (Or.inr rfl) (pe_ifExp (pt_cmpR (op_neNil hu) (pv 5) (pe_lst pa_nil) (nomark _)) (pv 5) (pe_lst (pa_cons (callD DC (hr.mono (by decide)) rfl (pa_cons (pv 0) (pa_cons (pe_callTy (call_listD rfl) rfl N.lst_ boot_list' (pa_cons (pv 2) pa_nil)) pa_nil))) pa_nil))))
      (pss_cons (ps_set (i := 6) scPlan.nd rfl (Or.inr rfl) (pe_callTy (call_dictP rfl) rfl N.dct boot_dict' (pa_cons (pe_lock (pe_lc (own := [("_law_name", 4)]) (g := gName 4) (tt := tYes)
        (te := tTup (tCons (tVar 4) (tCons (tIf (tTest (tOp (rIn K false) (tVar 4) (tVar 5))) (tC (.int 0)) (tOp (rI0 fun i j => .int (i + j)) (tC (.int 1)) (tCall spDraw [] E0 (tCons (tVar 0) (tCons (tC (.int 3)) tNil))))) tNil))) rfl scPlan.nd (pi_keys (pv 2))
        (blkOk_by (own := [("_law_name", 4)]) (N := nPlan) (sc := defScope s__law_planted_right) (by decide +kernel)) (fun _ _ _ _ _ => pg_name (i := 4) scPlan.nd rfl (Or.inl rfl)) (fun _ _ _ _ _ => pts_nil)
        (fun _ _ _ _ _ => pe_tup (pa_cons (pv 4) (pa_cons (pe_ifExp (pt_cmpR op_in_seq (pv 4) (pv 5) (by rfl)) pe_int (pe_op op_add pe_int (callD DD (hr.mono (by decide)) rfl (pa_cons (pv 0) (pa_cons pe_int pa_nil))))) pa_nil))))) pa_nil)))
      (pss_cons (ps_set (i := 7) scPlan.nd rfl (Or.inl rfl) (pe_callTy (call_dictP rfl) rfl N.dct boot_dict' (pa_cons (pe_lock (pe_lc (own := [("_law_name", 4), ("_law_shift", 8)]) (g := gTup K 2 (gCons (gName 4) (gCons (gName 8) gNil))) (tt := tYes) rfl scPlan.nd (pi_items (pv 2))
        (blkOk_by (own := [("_law_name", 4), ("_law_shift", 8)]) (N := nPlan) (sc := defScope s__law_planted_right) (by decide +kernel)) (fun _ _ _ _ _ => pg_tup rfl (pgs_cons (pg_name (i := 4) scPlan.nd rfl (Or.inl rfl)) (pgs_cons (pg_name (i := 8) scPlan.nd rfl (Or.inl rfl)) pgs_nil))) (fun _ _ _ _ _ => pts_nil)
        (fun _ _ _ _ _ => pe_tup (pa_cons (pv 4) (pa_cons (pe_op op_add (pe_op op_sub (pv 3) (pv 8)) (pe_dget (u1 hu) (pv 6) (pv 4) (fun _ _ => rfl))) pa_nil))))) pa_nil)))
      (pss_cons (ps_if (pt_cmpR op_ne (pe_callB (call_reprX hG hu) rfl N.rep boot_repr (pa_cons (pe_lst (pa_cons (pe_callOb (pv 1) cC FC bC (hr.mono (by decide)) (pa_cons (pv 7) pa_nil) (PySem.arm_eval_Call_Name' _ _ _ _ _ _))
          (pa_cons (pe_meth (pv 1) T.own.cl mI FI (hr.mono (by decide)) bI .nil pass0 (pa_cons (pv 7) pa_nil)) pa_nil))) pa_nil))
        (pe_callB (call_reprX hG hu) rfl N.rep boot_repr (pa_cons (pe_lst (pa_cons (pv 3) (pa_cons (pe_callTy call_tuple_of rfl N.tup_ boot_tuple' (pa_cons (pe_callB cr_sortedS rfl N.srt boot_sorted' (pa_cons (pv 5) pa_nil)) pa_nil)) pa_nil))) pa_nil)) (nomark _)) (pss_one (ps_ret pe_bl)) pss_nil)
      (pss_cons (ps_set (i := 4) scPlan.nd rfl (Or.inl rfl) (callD DC (hr.mono (by decide)) rfl (pa_cons (pv 0) (pa_cons (pe_callTy (call_listD rfl) rfl N.lst_ boot_list' (pa_cons (pv 2) pa_nil)) pa_nil))))
      (pss_cons (ps_dput (u1 hu) (pv 7) (pv 4) (pe_op op_sub (pe_op op_sub (pv 3) (pe_dget (u1 hu) (pv 2) (pv 4) (fun _ _ => rfl))) pe_int) rfl)
      (pss_one (ps_ret (pe_cmpR op_eq (pe_callB (call_reprX hG hu) rfl N.rep boot_repr (pa_cons (pe_lst (pa_cons (pe_callOb (pv 1) cC FC bC (hr.mono (by decide)) (pa_cons (pv 7) pa_nil) (PySem.arm_eval_Call_Name' _ _ _ _ _ _))
          (pa_cons (pe_meth (pv 1) T.own.cl mI FI (hr.mono (by decide)) bI .nil pass0 (pa_cons (pv 7) pa_nil)) pa_nil))) pa_nil))
        (pe_callB (call_reprX hG hu) rfl N.rep boot_repr (pa_cons (pe_lst (pa_cons (pe_op op_sub (pv 3) pe_int) (pa_cons (pe_tup (pa_cons (pv 4) pa_nil)) pa_nil))) pa_nil)) (nomark _)))))))))), ?_⟩
    refine ⟨d, _, S.hd, True.intro, fun od => ?_⟩
    have hF : upd H d (.frz od (.dK (kv m))) d = some (.frz od (.dK (kv m))) := upd_same
    have db : d ≠ b := hp.ne S.hd (by intro xs q; cases q)
    have pF : PotAt (upd H d (.frz od (.dK (kv m)))) b := by
      obtain ⟨u, v2, e, r⟩ := hp
      exact ⟨u, v2, (upd_ne db.symm).trans e, r⟩
    refine ⟨_, rfl, d, od, rfl, .inl ⟨kv m, hF, fun D nD => ?_⟩⟩
    have Db : D ≠ b := pF.new nD
    refine lc_it walk_keys (fun i H' => SameB b (upd H d (.frz od (.dK (kv m)))) H' ∧ PotAt H' b ∧ ∃ zs, H' D = some (.lst (zs.map V.str)) ∧ List.Sublist zs ((keys m).take i)) ⟨SameB.of (new_same nD), pF.sm (new_same nD), [], upd_same, List.nil_sublist _⟩ (fun i H' _ h => h.1 _ _ hF db) ?_ ?_
    · rintro i x H1 H1' lt ⟨sb, pb, zs, hD, sl⟩ ⟨rfl, k, v0, hk, rfl⟩
      obtain ⟨z, j, hm⟩ : ∃ z j, m[i]? = some (z, j) := by
        rw [kv_len] at lt
        exact ⟨_, _, List.getElem?_eq_getElem lt⟩
      obtain rfl : k = .inr z := by
        unfold kv at hk
        rw [List.getElem?_map, hm] at hk
        cases hk
        rfl
      have tk : (keys m).take (i + 1) = (keys m).take i ++ [z] := by
        unfold keys
        rw [List.take_add_one, List.getElem?_map, hm]
        rfl
      refine ⟨rfl, ?_⟩
      refine ⟨_, rfl, b, 3, rfl, pb, by decide, by decide, fun n H2 n0 n3 p2 s2 => ?_⟩
      refine ⟨rfl, _, rfl, ?_⟩
      have hD2 := s2 _ _ hD Db
      by_cases c : V.int n = V.int 0
      · rw [decide_eq_true c]
        refine ⟨_, rfl, _, hD2, ?_, ?_, ?_, zs ++ [z], ?_, ?_⟩
        · rw [List.length_map]
          have := sl.length_le
          rw [List.length_take, keys_len] at this
          have := S.tm.le
          exact Nat.lt_of_le_of_lt (show zs.length ≤ 8 by omega) (by decide)
        · intro q o e nq
          rw [upd_ne (ne_of_none e nD)]
          exact s2 _ _ (sb _ _ e nq) nq
        · obtain ⟨u, v2, e, r⟩ := p2
          exact ⟨u, v2, (upd_ne Db.symm).trans e, r⟩
        · rw [upd_same, List.map_append]
          rfl
        · rw [tk]
          exact sl.append (List.Sublist.refl _)
      · rw [decide_eq_false c]
        exact ⟨sb.trans s2, p2, zs, hD2, by rw [tk]; exact sl.trans (List.sublist_append_left _ _)⟩
    · rintro H1 ⟨sb, pb, zs, hD, sl⟩
      rw [kv_len, ← keys_len, List.take_length] at sl
      refine ⟨sb _ _ hF db, ?_⟩
      have s1 : SameB b H (upd H1 d (.dK (kv m))) := lockedB S.hd db sb
      have Dd : D ≠ d := (ne_of_none hF nD).symm
      have p1 : PotAt (upd H1 d (.dK (kv m))) b := by
        obtain ⟨u, v2, e, r⟩ := pb
        exact ⟨u, v2, (upd_ne db.symm).trans e, r⟩
      have hD1 : upd H1 d (.dK (kv m)) D = some (.lst (zs.map V.str)) := (upd_ne Dd).trans hD
      have S1 := S.smB s1 hp
      generalize upd H1 d (.dK (kv m)) = G at s1 p1 hD1 S1
      have nD0 : H D = none := (upd_ne Dd).symm.trans nD
      clear pb hD sb nD hF pF
      have zsub : ∀ z ∈ zs, z ∈ keys m := fun z hz => sl.subset hz
      have znd : zs.Nodup := sl.nodup S.tm.ok.nd
      have zle : zs.length ≤ 8 := by
        have := sl.length_le
        rw [keys_len] at this
        have := S.tm.le
        omega
      clear sl
      refine seq_if_by (fun y G' => ∃ (L : Addr) (C : List Str), y = .ref L ∧ SameB b H G' ∧ PotAt G' b ∧ L ≠ b ∧ H L = none ∧ G' L = some (.lst (C.map V.str)) ∧ C ≠ [] ∧ C.Nodup ∧ (∀ z ∈ C, z ∈ keys m) ∧ C.length ≤ 8) (fun Q' go' => ?_) ?_
      · refine ⟨_, rfl, by show 0 ≤ sizeLine; decide, fun Z nZ => ?_⟩
        have hZ := upd_ne (H := G) (o := HO.lst []) (ne_of_none hD1 nZ)
        refine ⟨D, Z, zs, rfl, rfl, fun z hz => (S.tm.ok.key (zsub z hz)).strOk, .inl (.inl (hZ.trans hD1)), .inl (.inl upd_same), _, rfl, ?_⟩
        cases zs with
        | cons z0 zr =>
          refine ⟨_, rfl, go' _ _ ⟨D, z0 :: zr, rfl, s1.trans (SameB.of (new_same nZ)), p1.sm (new_same nZ), Db, nD0, hZ.trans hD1, by simp, znd, zsub, zle⟩⟩
        | nil =>
          have pZ := p1.sm (new_same (o := .lst []) nZ)
          have sZ := s1.trans (SameB.of (new_same (o := .lst []) nZ))
          have hdZ : upd G Z (.lst []) d = some (.dK (kv m)) := (upd_ne (ne_of_none S1.hd nZ)).trans S1.hd
          generalize upd G Z (.lst []) = G1 at pZ sZ hdZ
          refine ⟨_, rfl, _, rfl, d, kv m, rfl, Rd.of hdZ, fun p np => ?_⟩
          have pb := pZ.new np
          refine ⟨b, .ref p, rfl, pZ.upd pb, .inl ⟨p, _, rfl, upd_same, pb, by rw [List.length_map, kv_len]; exact S.tm.pos, by rw [List.length_map, kv_len]; exact Nat.le_trans S.tm.le (by decide), fun x hx H3 p3 s3 => ?_⟩⟩
          obtain ⟨q, hq, rfl⟩ := List.mem_map.mp hx
          obtain ⟨r, hr2, rfl⟩ := List.mem_map.mp hq
          refine ⟨by show 1 ≤ sizeLine; decide, fun L nL => ?_⟩
          have s13 : SameB b H H3 := (sZ.trans (SameB.of (new_same np))).trans s3
          refine go' _ _ ⟨L, [r.1], rfl, s13.trans (SameB.of (new_same nL)), p3.sm (new_same nL), p3.new nL, ?_, upd_same, by simp, by simp, fun z hz => ?_, by show 1 ≤ 8; decide⟩
          · refine Option.eq_none_iff_forall_ne_some.mpr fun o e => ?_
            have := s13 _ _ e (p3.new nL)
            rw [nL] at this
            cases this
          · obtain rfl := List.mem_singleton.mp hz
            exact List.mem_map.mpr ⟨r, hr2, rfl⟩
      rintro y G' ⟨L, C, rfl, s2, p2, Lb, nL, hL, ne, nd, sub, le⟩
      clear hD1 S1 p1 s1 zsub znd zle nD0 Db Dd G
      have S2 := S.smB s2 hp
      have Ld : L ≠ d := by
        rintro rfl
        rw [S.hd] at nL
        cases nL
      -- the delays
      refine ⟨d, _, S2.hd, True.intro, fun od => ?_⟩
      have hF : upd G' d (.frz od (.dK (kv m))) d = some (.frz od (.dK (kv m))) := upd_same
      have pF : PotAt (upd G' d (.frz od (.dK (kv m)))) b := p2.upd db
      have hLF : upd G' d (.frz od (.dK (kv m))) L = some (.lst (C.map V.str)) := (upd_ne Ld).trans hL
      refine ⟨_, rfl, d, od, rfl, .inl ⟨kv m, hF, fun D nD => ?_⟩⟩
      have Db : D ≠ b := pF.new nD
      refine lc_it walk_keys (fun i H' => SameB b (upd G' d (.frz od (.dK (kv m)))) H' ∧ PotAt H' b ∧ ∃ ps rows, H' D = some (.lst (ps.map V.ref)) ∧ RowsAt H' ps rows ∧ keys rows = (keys m).take i ∧ ∀ p ∈ rows, (p.1 ∈ C ∧ p.2 = 0) ∨ (p.1 ∉ C ∧ 1 ≤ p.2))
        ⟨SameB.of (new_same nD), pF.sm (new_same nD), [], [], upd_same, .nil, rfl, nofun⟩ (fun i H' _ h => h.1 _ _ hF db) ?_ ?_
      · rintro i x H1 H1' lt ⟨sb, pb, ps, rows, hD, ra, ek, hr3⟩ ⟨rfl, k, v0, hk, rfl⟩
        obtain ⟨z, j, hm⟩ : ∃ z j, m[i]? = some (z, j) := by
          rw [kv_len] at lt
          exact ⟨_, _, List.getElem?_eq_getElem lt⟩
        obtain rfl : k = .inr z := by
          unfold kv at hk
          rw [List.getElem?_map, hm] at hk
          cases hk
          rfl
        have tk : (keys m).take (i + 1) = (keys m).take i ++ [z] := by
          unfold keys
          rw [List.take_add_one, List.getElem?_map, hm]
          rfl
        have lr : rows.length ≤ 40 := by
          have := congrArg List.length ek
          rw [keys_len, List.length_take, keys_len] at this
          have := S.tm.le
          omega
        have fin : ∀ (G2 : Hp) (n : Int), SameB b H1' G2 → PotAt G2 b → ((z ∈ C ∧ n = 0) ∨ (z ∉ C ∧ 1 ≤ n)) → ∀ p, G2 p = none → ∃ acc, upd G2 p (.tup [.str z, .int n]) D = some (.lst acc) ∧ acc.length < sizeLine ∧ SameB b (upd G' d (.frz od (.dK (kv m)))) (upd (upd G2 p (.tup [.str z, .int n])) D (.lst (acc ++ [.ref p]))) ∧
            PotAt (upd (upd G2 p (.tup [.str z, .int n])) D (.lst (acc ++ [.ref p]))) b ∧ ∃ ps rows, upd (upd G2 p (.tup [.str z, .int n])) D (.lst (acc ++ [.ref p])) D = some (.lst (ps.map V.ref)) ∧
            RowsAt (upd (upd G2 p (.tup [.str z, .int n])) D (.lst (acc ++ [.ref p]))) ps rows ∧ keys rows = (keys m).take (i + 1) ∧ ∀ p ∈ rows, (p.1 ∈ C ∧ p.2 = 0) ∨ (p.1 ∉ C ∧ 1 ≤ p.2) := fun G2 n s3 p3 hn p np => by
          obtain ⟨acc, a1, a2, a3, a4, ps', a5, a6⟩ := rows_next (z := z) (n := n) nD Db sb s3 pb p3 hD ra np lr
          refine ⟨acc, a1, a2, a3, a4, ps', _, a5, a6, ?_, fun q hq => ?_⟩
          · rw [tk, ← ek]
            unfold keys
            rw [List.map_append]
            rfl
          · rcases List.mem_append.mp hq with h | h
            · exact hr3 q h
            · rw [List.mem_singleton.mp h]
              exact hn
        refine ⟨rfl, _, rfl, ?_⟩
        refine ⟨_, rfl, _, rfl, L, _, rfl, .inl (.inl (.inl (sb _ _ hLF Lb))), rfl, ?_, _, rfl, ?_⟩
        · rw [List.all_map]
          exact List.all_eq_true.mpr fun _ _ => rfl
        rw [show kV (.inr z) = V.str z from rfl, inV_str]
        by_cases c : z ∈ C
        · rw [show (if false = true then !decide (z ∈ C) else decide (z ∈ C)) = true from decide_eq_true c]
          exact ⟨by show 2 ≤ sizeLine; decide, fun p np => fin _ 0 (SameB.of (Same.refl _)) pb (.inl ⟨c, rfl⟩) p np⟩
        · rw [show (if false = true then !decide (z ∈ C) else decide (z ∈ C)) = false from decide_eq_false c]
          refine ⟨_, rfl, b, 3, rfl, pb, by decide, by decide, fun n H2 n0 n3 p2 s2 => ?_⟩
          exact ⟨_, _, rfl, rfl, by show 2 ≤ sizeLine; decide, fun p np => fin H2 (1 + n) s2 p2 (.inr ⟨c, by omega⟩) p np⟩
      · rintro H1 ⟨sb, pb, ps, rows, hD, ra, ek, hr3⟩
        rw [kv_len, ← keys_len, List.take_length] at ek
        refine ⟨sb _ _ hF db, ?_⟩
        have s1 : SameB b G' (upd H1 d (.dK (kv m))) := lockedB S2.hd db sb
        have Dd : D ≠ d := (ne_of_none hF nD).symm
        have hD1 : upd H1 d (.dK (kv m)) D = some (.lst (ps.map V.ref)) := (upd_ne Dd).trans hD
        have ra1 : RowsAt (upd H1 d (.dK (kv m))) ps rows := RowsAt.mono (fun p xs e => by
          have pd : p ≠ d := by
            rintro rfl
            rw [sb _ _ hF db] at e
            cases e
          exact (upd_ne pd).trans e) ra
        have p1 := pb.upd (o := .dK (kv m)) db
        have De : Delays C m rows := ⟨ek, hr3⟩
        refine ⟨D, ps, kv rows, rfl, .inl (.inl hD1), RowsAt.sq ra1, fun l nl => ?_⟩
        rw [show mergeK [] (kv rows) = kv (ofRows [] rows) from mergeK_kv rows [], ofRows_id (by rw [ek]; exact S.tm.ok.nd)]
        have s3 := (s2.trans s1).trans (SameB.of (new_same (o := .dK (kv rows)) nl))
        have p3 := p1.sm (new_same (o := .dK (kv rows)) nl)
        have hl : upd (upd H1 d (.dK (kv m))) l (.dK (kv rows)) l = some (.dK (kv rows)) := upd_same
        have hL3 := (new_same (o := .dK (kv rows)) nl) _ _ (s1 _ _ hL Lb)
        have S3 := S.smB s3 hp
        have lb : l ≠ b := p1.new nl
        have nl0 : l ≠ d := (ne_of_none (S2.smB s1 p2).hd nl).symm
        generalize upd (upd H1 d (.dK (kv m))) l (.dK (kv rows)) = G3 at s3 p3 hl hL3 S3
        clear ra1 hD1 p1 s1 Dd hD ra pb sb hr3 ek nD hLF pF hF S2 hL p2 s2 nl Db
        -- the clock
        refine ⟨d, _, S3.hd, True.intro, fun od2 => ?_⟩
        have hF : upd G3 d (.frz od2 (.dK (kv m))) d = some (.frz od2 (.dK (kv m))) := upd_same
        have pF : PotAt (upd G3 d (.frz od2 (.dK (kv m)))) b := p3.upd db
        have hlF : upd G3 d (.frz od2 (.dK (kv m))) l = some (.dK (kv rows)) := (upd_ne nl0).trans hl
        refine ⟨_, rfl, d, od2, kv m, rfl, hF, fun D nD => ?_⟩
        have Db : D ≠ b := pF.new nD
        refine lc_it (walk_items (kvs := kv m)) (fun i H' => SameB b (upd G3 d (.frz od2 (.dK (kv m)))) H' ∧ PotAt H' b ∧ ∃ ps, H' D = some (.lst (ps.map V.ref)) ∧ RowsAt H' ps ((plant v m rows).take i))
          ⟨SameB.of (new_same nD), pF.sm (new_same nD), [], upd_same, .nil⟩ (fun i H' _ h => h.1 _ _ hF db) ?_ ?_
        · rintro i x H2 H2' lt ⟨sb, pb, ps, hD, ra⟩ ⟨T7, xx, yy, rfl, nT, rfl, hxx, hyy⟩
          obtain ⟨z, j, hm⟩ : ∃ z j, m[i]? = some (z, j) := by
            rw [kv_len] at lt
            exact ⟨_, _, List.getElem?_eq_getElem lt⟩
          have hk : (kv m)[i]? = some (.inr z, .int j) := by
            unfold kv
            rw [List.getElem?_map, hm]
            rfl
          replace hxx : Option.map (fun kv => kV kv.1) (kv m)[i]? = some xx := hxx
          replace hyy : Option.map Prod.snd (kv m)[i]? = some yy := hyy
          rw [hk] at hxx hyy
          obtain rfl : xx = .str z := (Option.some.inj hxx).symm
          obtain rfl : yy = .int j := (Option.some.inj hyy).symm
          have sT := new_same (o := .tup [.str z, .int j]) nT
          have kz : z ∈ keys rows := by
            rw [De.ks]
            exact at_key hm
          have hs : (plant v m rows)[i]? = some (z, v - j + g0 rows z) := by
            unfold plant
            rw [List.getElem?_map, hm]
            rfl
          refine ⟨T7, _, rfl, .inl (.inl upd_same), rfl, _, _, rfl, _, _, rfl, rfl, wipe_two _ _ _ _ _, ?_⟩
          refine ⟨_, rfl, _, rfl, _, rfl, _, _, rfl, rfl, _, rfl, _, rfl, l, _, rfl, DGet.tab (.inl (sT _ _ (sb _ _ hlF lb))) kz, _, _, rfl, rfl, by show 2 ≤ sizeLine; decide, fun p np => ?_⟩
          have lr : ((plant v m rows).take i).length ≤ 40 := by
            rw [List.length_take]
            unfold plant
            rw [List.length_map]
            have := S.tm.le
            omega
          obtain ⟨acc, a1, a2, a3, a4, ps', a5, a6⟩ := rows_next (z := z) (n := v - j + g0 rows z) nD Db sb (SameB.of sT) pb (pb.sm sT) hD ra np lr
          refine ⟨acc, a1, a2, a3, a4, ps', a5, ?_⟩
          rw [List.take_add_one, hs]
          exact a6
        · rintro H2 ⟨sb, pb, ps, hD, ra⟩
          have pl : (plant v m rows).length = m.length := List.length_map ..
          rw [kv_len, ← pl, List.take_length] at ra
          refine ⟨sb _ _ hF db, ?_⟩
          have s1 : SameB b G3 (upd H2 d (.dK (kv m))) := lockedB S3.hd db sb
          have Dd : D ≠ d := (ne_of_none hF nD).symm
          have hD1 : upd H2 d (.dK (kv m)) D = some (.lst (ps.map V.ref)) := (upd_ne Dd).trans hD
          have ra1 : RowsAt (upd H2 d (.dK (kv m))) ps (plant v m rows) := RowsAt.mono (fun p xs e => by
            have pd : p ≠ d := by
              rintro rfl
              rw [sb _ _ hF db] at e
              cases e
            exact (upd_ne pd).trans e) ra
          have p1 := pb.upd (o := .dK (kv m)) db
          refine ⟨D, ps, kv (plant v m rows), rfl, .inl (.inl hD1), RowsAt.sq ra1, fun c nc => ?_⟩
          rw [show mergeK [] (kv (plant v m rows)) = kv (ofRows [] (plant v m rows)) from mergeK_kv (plant v m rows) [], ofRows_id (by rw [keys_plant]; exact S.tm.ok.nd)]
          have s4 := (s3.trans s1).trans (SameB.of (new_same (o := .dK (kv (plant v m rows))) nc))
          have p4 := p1.sm (new_same (o := .dK (kv (plant v m rows))) nc)
          have hc : upd (upd H2 d (.dK (kv m))) c (.dK (kv (plant v m rows))) c = some (.dK (kv (plant v m rows))) := upd_same
          have hL4 := (new_same (o := .dK (kv (plant v m rows))) nc) _ _ (s1 _ _ hL3 Lb)
          have S4 := S.smB s4 hp
          have cb : c ≠ b := p1.new nc
          have S31 := S3.smB s1 p3
          have cd : c ≠ d := (ne_of_none S31.hd nc).symm
          have ce : c ≠ e := (ne_of_none S31.ea.tab nc).symm
          have nc0 : H c = none := by
            refine Option.eq_none_iff_forall_ne_some.mpr fun o e => ?_
            have := (s3.trans s1) _ _ e cb
            rw [nc] at this
            cases this
          generalize upd (upd H2 d (.dK (kv m))) c (.dK (kv (plant v m rows))) = G4 at s4 p4 hc hL4 S4
          clear S31 ra1 hD1 p1 s1 Dd hD ra pb sb nD hlF pF hF S3 hL3 p3 s3 hl nl0 lb nc
          have pk : keys (plant v m rows) = keys m := keys_plant
          have plen : (plant v m rows).length = m.length := List.length_map ..
          have pok : Okt (plant v m rows) := by
            refine ⟨fun p hp => ?_, by rw [pk]; exact S.tm.ok.nd⟩
            obtain ⟨q, hq, rfl⟩ := List.mem_map.mp hp
            exact S.tm.ok.nm q hq
          have ck : Clock G4 c (plant v m rows) := ⟨hc, pok, by rw [plen]; exact S.tm.pos, by rw [plen]; exact Nat.le_trans S.tm.le (by decide)⟩
          have subO : ∀ z ∈ keys (ord m), z ∈ keys (plant v m rows) := fun z hz => by
            rw [pk]
            exact S.ck z hz
          have lvO := (isLv_ord S.tm.ok.nd).mpr (plant_lv (v := v) S.tm.ok.nd De ne sub)
          have fsO := plant_fs (v := v) S.tm.ok.nd nd De sub
          have ⟨dx, hi⟩ := S4.ea.ins
          refine ⟨_, rfl, a, rfl, _, rfl, insC_of hi, a, e, c, ord m, _, rfl, S4.ea, S4.eok, ck, ce, subO, fun v1 H5 lv1 s5 => ?_⟩
          obtain rfl : v1 = v := lv1.uniq lvO
          have ea5 := S4.ea.sm s5
          have ⟨dx5, hi5⟩ := ea5.ins
          refine ⟨_, rfl, a, dx5, _, rfl, hi5, rfl, _, rfl, a, e, c, ord m, _, rfl, ea5, S4.eok, ck.sm s5, ce, subO, fun v2 q1 H6 lv2 nq1 s6 hq1 => ?_⟩
          obtain rfl : v2 = v1 := lv2.uniq lvO
          rw [fsO] at hq1
          have nms : ∀ z ∈ srt C, Nm z := fun z hz => S.tm.ok.key (sub z (srt_mem.mp hz))
          have lsC : (srt C).length ≤ 40 := by
            rw [srt_len]
            omega
          refine ⟨by show 2 ≤ sizeLine; decide, fun W nW => ?_⟩
          have sW := new_same (o := .lst [.int v2, .ref q1]) nW
          refine ⟨2, W, _, rfl, by decide, pair_data (.inl (.inl upd_same)) (sW _ _ hq1) bv.small nms lsC, ?_⟩
          have s46 := (s5.trans s6).trans sW
          have hL6 := s46 _ _ hL4
          refine ⟨_, rfl, _, rfl, L, C, rfl, .inl (.inl hL6), by omega, fun ys y perm so ny => ?_⟩
          obtain rfl := srt_uniq perm so
          have sy := new_same (o := .lst ((srt C).map V.str)) ny
          refine ⟨y, _, rfl, .inl ⟨.inl (.inl upd_same), fun u nu => ?_⟩⟩
          have su := new_same (o := .tup ((srt C).map V.str)) nu
          refine ⟨by show 2 ≤ sizeLine; decide, fun W2 nW2 => ?_⟩
          have sW2 := new_same (o := .lst [.int v2, .ref u]) nW2
          refine ⟨2, W2, _, rfl, by decide, pair_data (.inl (.inl upd_same)) (sW2 _ _ upd_same) bv.small nms lsC, rfl, _, rfl, ?_⟩
          rw [decide_eq_true rfl]
          have s7 := s46.trans ((sy.trans su).trans sW2)
          have S7 := S4.sm s7
          have ck7 := ck.sm s7
          have p7 := p4.sm s7
          have s07 := s4.trans (SameB.of s7)
          generalize upd (upd (upd (upd H6 W (.lst [.int v2, .ref q1])) y (.lst ((srt C).map V.str))) u (.tup ((srt C).map V.str))) W2 (.lst [.int v2, .ref u]) = G7 at s7 S7 ck7 p7 s07
          clear s46 sy su sW2 sW hL6 hq1 s5 s6 ea5 hi5 hi ck S4 p4 s4 hc hL4
          -- one ahead
          refine ⟨_, rfl, _, rfl, d, kv m, rfl, Rd.of S7.hd, fun p np => ?_⟩
          have pb := p7.new np
          have sp := new_same (o := .lst ((kv m).map fun kv => kV kv.1)) np
          refine ⟨b, .ref p, rfl, p7.upd pb, .inl ⟨p, _, rfl, upd_same, pb, by rw [List.length_map, kv_len]; exact S.tm.pos, by rw [List.length_map, kv_len]; exact Nat.le_trans S.tm.le (by decide), fun x hx H8 p8 s8 => ?_⟩⟩
          obtain ⟨q, hq, rfl⟩ := List.mem_map.mp hx
          obtain ⟨⟨z, j⟩, hr2, rfl⟩ := List.mem_map.mp hq
          have kz : z ∈ keys m := List.mem_map.mpr ⟨_, hr2, rfl⟩
          have s78 := (SameB.of sp).trans s8
          have S8 := S7.smB s78 p7
          have hc8 := s78 _ _ ck7.tab cb
          have s08 := s07.trans s78
          clear s78 s8 sp hx hq np pb s7 s07 S7 p7 ck7
          have c8 : (kv (plant v2 m rows)).length < sizeLine := by
            rw [kv_len, plen]
            exact Nat.lt_of_le_of_lt S.tm.le (by decide)
          have dp : DPut H8 c (.str z) (.int (v2 - g0 m z - 1)) (upd H8 c (.dK (kv (put (plant v2 m rows) z (v2 - g0 m z - 1))))) := by
            rw [← putK_kv]
            exact DPut.k (k := .inr z) (v := .int (v2 - g0 m z - 1)) hc8 c8
          refine ⟨_, rfl, _, rfl, _, rfl, d, _, rfl, DGet.tab (.inl S8.hd) kz, _, _, rfl, rfl, _, _, rfl, rfl, _, rfl, _, rfl, c, _, rfl, dp, ?_⟩
          have s09 : SameB b H (upd H8 c (.dK (kv (put (plant v2 m rows) z (v2 - g0 m z - 1))))) := fun q o e nq => by
            rw [upd_ne (ne_of_none e nc0)]
            exact s08 _ _ e nq
          have p9 : PotAt (upd H8 c (.dK (kv (put (plant v2 m rows) z (v2 - g0 m z - 1))))) b := p8.upd cb
          have h9 : upd H8 c (.dK (kv (put (plant v2 m rows) z (v2 - g0 m z - 1)))) c = some (.dK (kv (put (plant v2 m rows) z (v2 - g0 m z - 1)))) := upd_same
          generalize upd H8 c (.dK (kv (put (plant v2 m rows) z (v2 - g0 m z - 1)))) = G9 at s09 p9 h9
          have S9 := S.smB s09 hp
          have pk9 : keys (put (plant v2 m rows) z (v2 - g0 m z - 1)) = keys m := by
            rw [keys_put, pk, if_pos kz]
          have len9 : (put (plant v2 m rows) z (v2 - g0 m z - 1)).length = m.length := by
            rw [← keys_len, pk9, keys_len]
          have ck9 : Clock G9 c (put (plant v2 m rows) z (v2 - g0 m z - 1)) := by
            refine ⟨h9, ⟨fun p hp => ?_, by rw [pk9]; exact S.tm.ok.nd⟩, by rw [len9]; exact S.tm.pos, by rw [len9]; exact Nat.le_trans S.tm.le (by decide)⟩
            have : p.1 ∈ keys (put (plant v2 m rows) z (v2 - g0 m z - 1)) := List.mem_map.mpr ⟨p, hp, rfl⟩
            rw [pk9] at this
            exact S.tm.ok.key this
          have sub9 : ∀ y ∈ keys (ord m), y ∈ keys (put (plant v2 m rows) z (v2 - g0 m z - 1)) := fun y hy => by
            rw [pk9]
            exact S.ck y hy
          have ah := ahead_lv (v := v2) S.tm.ok.nd De kz
          have lv9 := (isLv_ord S.tm.ok.nd).mpr ah.1
          have ⟨dx, hi⟩ := S9.ea.ins
          refine ⟨_, rfl, a, rfl, _, rfl, insC_of hi, a, e, c, ord m, _, rfl, S9.ea, S9.eok, ck9, ce, sub9, fun v1 H5 lv1 s5 => ?_⟩
          obtain rfl : v1 = v2 - 1 := lv1.uniq lv9
          have ea5 := S9.ea.sm s5
          have ⟨dx5, hi5⟩ := ea5.ins
          refine ⟨_, rfl, a, dx5, _, rfl, hi5, rfl, _, rfl, a, e, c, ord m, _, rfl, ea5, S9.eok, ck9.sm s5, ce, sub9, fun v3 q1 H6 lv2 nq1 s6 hq1 => ?_⟩
          obtain rfl : v3 = v2 - 1 := lv2.uniq lv9
          rw [ah.2] at hq1
          have big : (v2 - 1).natAbs < 10 ^ 70 := Bg.add (i := v2) (j := -1) bv (by unfold Bg; decide +kernel)
          have nm1 : ∀ y ∈ [z], Nm y := fun y hy => by
            obtain rfl := List.mem_singleton.mp hy
            exact S.tm.ok.key kz
          refine ⟨by show 2 ≤ sizeLine; decide, fun W nW => ?_⟩
          have sW := new_same (o := .lst [.int (v2 - 1), .ref q1]) nW
          refine ⟨2, W, _, rfl, by decide, pair_data (.inl (.inl upd_same)) (sW _ _ hq1) big nm1 (by show 1 ≤ 40; decide), ?_⟩
          refine ⟨_, rfl, _, _, rfl, rfl, _, rfl, by show 1 ≤ sizeLine; decide, fun u nu => ?_⟩
          have su := new_same (o := .tup [.str z]) nu
          refine ⟨by show 2 ≤ sizeLine; decide, fun W2 nW2 => ?_⟩
          have sW2 := new_same (o := .lst [.int (v2 - 1), .ref u]) nW2
          refine ⟨2, W2, _, rfl, by decide, pair_data (zs := [z]) (.inl (.inl upd_same)) (sW2 _ _ upd_same) big nm1 (by show 1 ≤ 40; decide), rfl, ?_⟩
          rw [decide_eq_true rfl]
          have s7 := ((s5.trans s6).trans sW).trans (su.trans sW2)
          exact go _ (s09.trans (SameB.of s7)) (p9.sm s7)
end
end E10

set_option Elab.async false
set_option linter.all false
set_option maxRecDepth 100000
set_option maxHeartbeats 16000000
namespace E10
open L2 PySem PySem.Spec PyProof.Rows
section
variable {P : Program} {w : World} {K : PySem.W.Frag} {mg : Str → Option Value} {base : Heap} {f cT cE : Addr} {fd : FuncData}
theorem Stand.smB {cE : Addr} {H H' : Hp} {a e d c b : Addr} {m t : Tb} (s : SameB b H H') (p : PotAt H b) (S : Stand cE H a e d c m t) : Stand cE H' a e d c m t := by
  obtain ⟨dx, hi⟩ := S.ea.ins
  exact { S with
    ea := ⟨⟨dx, s _ _ hi (p.ne hi (by intro xs q; cases q))⟩, s _ _ S.ea.tab (p.ne S.ea.tab (by intro xs q; cases q))⟩
    hd := s _ _ S.hd (p.ne S.hd (by intro xs q; cases q))
    hc := s _ _ S.hc (p.ne S.hc (by intro xs q; cases q)) }
theorem Sn.bg {i : Int} (h : Sn i) : Bg i := by
  unfold Sn at h
  unfold Bg
  exact Nat.lt_trans h (by decide +kernel)
theorem nm_a : Nm "a" := ⟨by decide +kernel, by decide +kernel, by decide +kernel⟩
theorem nm_b : Nm "b" := ⟨by decide +kernel, by decide +kernel, by decide +kernel⟩
theorem nm_c : Nm "c" := ⟨by decide +kernel, by decide +kernel, by decide +kernel⟩
theorem nm_z : Nm "zzzzzzzz" := ⟨by decide +kernel, by decide +kernel, by decide +kernel⟩
theorem RowsAt.app {H : Hp} : ∀ {ps qs : List Addr} {rows t : Tb}, RowsAt H ps rows → RowsAt H qs t → RowsAt H (ps ++ qs) (rows ++ t)
  | _, _, _, _, .nil, h => h
  | _, _, _, _, .cons e r, h => .cons e (RowsAt.app r h)
theorem RowsAt.of {H : Hp} : ∀ {ts : List Addr} {t : Tb}, Paired (fun (t : Addr) (q : Key × V) => H t = some (.tup [kV q.1, q.2])) ts (kv t) → RowsAt H ts t
  | [], [], .nil => .nil
  | _ :: _, _ :: _, .cons e r => .cons e (RowsAt.of r)
def spRight : Sp := fun vs H Q _ => ∃ b : Addr, vs = [.ref b] ∧ PotAt H b ∧ ∀ H', SameB b H H' → PotAt H' b → Q (.bl true) H'
abbrev nRight : List Str := ["_law_pot_here", "_law_names_here", "_law_shifts", "_law_made", "_law_clock", "_law_wider", "_law_name"]
theorem scRight : FnScope nRight ["_law_pot_here"] (defScope s__law_right) := ⟨rfl, rfl, rfl, by decide +kernel, rfl, by decide +kernel, by decide +kernel⟩
theorem ok_right (N : Nam mg) (U : TopE P w K mg base cT cE) (DD : Def P w K mg base "_law_draw" ["_law_pot_here", "_law_many"] 1 spDraw) (DNs : Def P w K mg base "_law_names" ["_law_pot_here", "_law_many"] 3 spNames) (DNu : Def P w K mg base "_law_number" ["_law_pot_here"] 2 spNumber)
    (DT : DefG P w K mg base "_law_told_right" ["_law_made", "_law_shifts", "_law_clock"] 8 (spTold cE)) (DM : DefG P w K mg base "_law_moved_right" ["_law_made", "_law_shifts", "_law_clock", "_law_number_here"] 8 (spMovR cE))
    (DP : DefG P w K mg base "_law_planted_right" ["_law_pot_here", "_law_made", "_law_shifts", "_law_value_here"] 8 (spPlan cE)) (F : Fun K "_law_right" "_law_right" s__law_right f fd) :
    FnG P w K mg base 9 f fd ["_law_pot_here"] spRight := by
  refine Fun.okG F scRight (fun {vs H Q E} h => ?_) (fun cdv A outer s H vs Q E hG hr h => ?_)
  · obtain ⟨_, rfl, _⟩ := h
    rfl
  · obtain ⟨b, rfl, hp, go⟩ := h
    have hu := hr.units
    refine ⟨_, pss_cons (ps_set (i := 1) scRight.nd rfl (Or.inl rfl) (callD DNs (hr.mono (by decide)) rfl (pa_cons (pv 0) (pa_cons (pe_op op_add pe_int (callD DD (hr.mono (by decide)) rfl (pa_cons (pv 0) (pa_cons pe_int pa_nil)))) pa_nil))))
      (pss_cons (ps_set (i := 2) scRight.nd rfl (Or.inr rfl) (pe_callTy (call_dictP rfl) rfl N.dct boot_dict' (pa_cons (pe_lc (own := [("_law_name", 6)]) (g := gName 6) (tt := tYes) (te := tTup (tCons (tVar 6) (tCons (tCall spNumber [] E0 (tCons (tVar 0) tNil)) tNil))) rfl scRight.nd (pi_list (pv 1))
        (blkOk_by (own := [("_law_name", 6)]) (N := nRight) (sc := defScope s__law_right) (by decide +kernel)) (fun _ _ _ _ _ => pg_name (i := 6) scRight.nd rfl (Or.inl rfl)) (fun _ _ _ _ _ => pts_nil)
        (fun _ _ _ _ _ => pe_tup (pa_cons (pv 6) (pa_cons (callD DNu (hr.mono (by decide)) rfl (pa_cons (pv 0) pa_nil)) pa_nil)))) pa_nil)))
      (pss_cons (ps_set (i := 3) scRight.nd rfl (Or.inl rfl) (mkE U.M (hr.mono (by decide)) rfl (pa_cons (pv 2) pa_nil)))
      (pss_cons (ps_set (i := 4) scRight.nd rfl (Or.inl rfl) (pe_callTy (call_dictP rfl) rfl N.dct boot_dict' (pa_cons (pe_lc (own := [("_law_name", 6)]) (g := gName 6) (tt := tYes) (te := tTup (tCons (tVar 6) (tCons (tCall spNumber [] E0 (tCons (tVar 0) tNil)) tNil))) rfl scRight.nd (pi_list (pv 1))
        (blkOk_by (own := [("_law_name", 6)]) (N := nRight) (sc := defScope s__law_right) (by decide +kernel)) (fun _ _ _ _ _ => pg_name (i := 6) scRight.nd rfl (Or.inl rfl)) (fun _ _ _ _ _ => pts_nil)
        (fun _ _ _ _ _ => pe_tup (pa_cons (pv 6) (pa_cons (callD DNu (hr.mono (by decide)) rfl (pa_cons (pv 0) pa_nil)) pa_nil)))) pa_nil)))
      (pss_cons (ps_set (i := 5) scRight.nd rfl (Or.inl rfl) (pe_op op_cat (pe_lc (own := [("_law_name", 6)]) (g := gName 6) (tt := tB (tDNotIn (tVar 6) (tVar 2))) (te := tTup (tCons (tVar 6) (tCons (tUn (rU fun i => .int (-i)) (tOp (rI CPow fun i j => .int (i ^ j.toNat)) (tC (.int 10)) (tC (.int 55)))) tNil))) rfl scRight.nd (pi_list (pe_lst (pa_cons pe_str (pa_cons pe_str (pa_cons pe_str (pa_cons pe_str pa_nil))))))
        (blkOk_by (own := [("_law_name", 6)]) (N := nRight) (sc := defScope s__law_right) (by decide +kernel)) (fun _ _ _ _ _ => pg_name (i := 6) scRight.nd rfl (Or.inl rfl)) (fun _ _ _ _ _ => pts_one (pt_cmp (pc_dnotin (u1 hu) (pv 6) (pv 2))))
        (fun _ _ _ _ _ => pe_tup (pa_cons (pv 6) (pa_cons (pe_un un_neg (pe_op op_pow pe_int pe_int)) pa_nil)))) (LiI.pe_listItems rfl (pv 4) rfl N.lst_ boot_list')))
      (pss_cons (ps_if (PW.pt (pw_or (pt_not (pt_val (callDG DT hG (hr.mono (by decide)) rfl (pa_cons (pv 3) (pa_cons (pv 2) (pa_cons (pv 4) pa_nil))))))
        (pw_or1 (pt_not (pt_val (callDG DT hG (hr.mono (by decide)) rfl (pa_cons (pv 3) (pa_cons (pv 2) (pa_cons (pe_callTy (call_dictP rfl) rfl N.dct boot_dict' (pa_cons (pv 5) pa_nil)) pa_nil))))))))) (pss_one (ps_ret pe_bl)) pss_nil)
      (pss_cons (ps_if (pt_not (pt_val (callDG DT hG (hr.mono (by decide)) rfl (pa_cons (pv 3) (pa_cons (pv 2) (pa_cons (pe_callTy (call_dictP rfl) rfl N.dct boot_dict' (pa_cons (pe_lc (own := [("_law_name", 6)]) (g := gName 6) (tt := tYes) (te := tTup (tCons (tVar 6) (tCons (tC (.int 0)) tNil))) rfl scRight.nd (pi_list (pv 1))
        (blkOk_by (own := [("_law_name", 6)]) (N := nRight) (sc := defScope s__law_right) (by decide +kernel)) (fun _ _ _ _ _ => pg_name (i := 6) scRight.nd rfl (Or.inl rfl)) (fun _ _ _ _ _ => pts_nil)
        (fun _ _ _ _ _ => pe_tup (pa_cons (pv 6) (pa_cons pe_int pa_nil)))) pa_nil)) pa_nil)))))) (pss_one (ps_ret pe_bl)) pss_nil)
      (pss_cons (ps_if (pt_not (pt_val (callDG DM hG (hr.mono (by decide)) rfl (pa_cons (pv 3) (pa_cons (pv 2) (pa_cons (pv 4) (pa_cons (callD DNu (hr.mono (by decide)) rfl (pa_cons (pv 0) pa_nil)) pa_nil))))))) (pss_one (ps_ret pe_bl)) pss_nil)
      (pss_one (ps_ret (pe_and (callDG DP hG (hr.mono (by decide)) rfl (pa_cons (pv 0) (pa_cons (pv 3) (pa_cons (pv 2) (pa_cons (callD DNu (hr.mono (by decide)) rfl (pa_cons (pv 0) pa_nil)) pa_nil)))))
        (pe_one (callDG DT hG (hr.mono (by decide)) rfl (pa_cons (pv 3) (pa_cons (pv 2) (pa_cons (pv 4) pa_nil))))))))))))))), ?_⟩
    refine ⟨_, rfl, _, rfl, b, 8, rfl, hp, by decide, by decide, fun k0 H1 d0 d8 p1 s1 => ?_⟩
    obtain ⟨k, rfl⟩ := Int.eq_ofNat_of_zero_le d0
    refine ⟨_, _, rfl, rfl, b, 1 + k, rfl, p1, by omega, fun L H2 zs lz nmz nL hL p2 s2 => ?_⟩
    have Lb : L ≠ b := p1.new nL
    have le8 : zs.length ≤ 8 := by omega
    have pos : 0 < zs.length := by omega
    have s02 := s1.trans s2
    clear s1 s2 p1 nL
    -- the shifts
    refine ⟨_, rfl, L, rfl, ⟨_, .inl (.inl hL)⟩, fun D nD => rows_it nD (.inl (.inl hL)) Lb p2 (by omega) (fun z hz G R pG kk => ?_) (fun G ps rows sb pG hD ra ek hr3 => ?_)⟩
    · exact ⟨rfl, _, rfl, _, rfl, b, rfl, pG, fun n G2 hn p3 s3 => ⟨by show 2 ≤ sizeLine; decide, fun T nT => kk T G2 n hn p3 s3 nT⟩⟩
    refine ⟨D, ps, kv rows, rfl, .inl (.inl hD), RowsAt.sq ra, fun d nd => ?_⟩
    rw [show mergeK [] (kv rows) = kv (ofRows [] rows) from mergeK_kv rows []]
    have lrows : rows.length = zs.length := by rw [← ek, keys_len]
    have tm : Tbl Bg 8 (ofRows [] rows) := Tbl.of (fun p hp => nmz _ (ek ▸ List.mem_map.mpr ⟨p, hp, rfl⟩)) (by omega) (by omega) (fun p hp => (hr3 p hp).bg)
    have mk : ∀ z, z ∈ keys (ofRows [] rows) ↔ z ∈ zs := fun z => by
      rw [ofRows_keys, ek]
      simp [keys]
    generalize ofRows [] rows = m at tm mk
    have s3 := (s02.trans sb).trans (SameB.of (new_same (o := .dK (kv m)) nd))
    have p3 := pG.sm (new_same (o := .dK (kv m)) nd)
    have hL3 := new_same (o := .dK (kv m)) nd _ _ (sb _ _ hL Lb)
    have hd : upd G d (.dK (kv m)) d = some (.dK (kv m)) := upd_same
    have db : d ≠ b := pG.new nd
    generalize upd G d (.dK (kv m)) = G3 at s3 p3 hL3 hd
    clear sb pG hD ra ek hr3 lrows nd nD hL p2 s02
    -- the Earliest
    refine ⟨_, rfl, d, m, rfl, hd, tm.ok, tm.pos, tm.le, fun a e H4 na ne s4 ea => ?_⟩
    have S1 : Stand1 cE H4 a e d m := ⟨ea, s4 _ _ hd, tm, (ne_of_none hd ne).symm⟩
    have p4 := p3.sm s4
    have hL4 := s4 _ _ hL3
    have s04 := s3.trans (SameB.of s4)
    clear s4 s3 p3 hL3 hd na ne ea
    -- the clock
    refine ⟨_, rfl, L, rfl, ⟨_, .inl (.inl hL4)⟩, fun D nD => rows_it nD (.inl (.inl hL4)) Lb p4 (by omega) (fun z hz G R pG kk => ?_) (fun G ps rows sb pG hD ra ek hr3 => ?_)⟩
    · exact ⟨rfl, _, rfl, _, rfl, b, rfl, pG, fun n G2 hn p3 s3 => ⟨by show 2 ≤ sizeLine; decide, fun T nT => kk T G2 n hn p3 s3 nT⟩⟩
    refine ⟨D, ps, kv rows, rfl, .inl (.inl hD), RowsAt.sq ra, fun c nc => ?_⟩
    rw [show mergeK [] (kv rows) = kv (ofRows [] rows) from mergeK_kv rows []]
    have lrows : rows.length = zs.length := by rw [← ek, keys_len]
    have tt : Tbl Bg 8 (ofRows [] rows) := Tbl.of (fun p hp => nmz _ (ek ▸ List.mem_map.mpr ⟨p, hp, rfl⟩)) (by omega) (by omega) (fun p hp => (hr3 p hp).bg)
    have tk : ∀ z, z ∈ keys (ofRows [] rows) ↔ z ∈ zs := fun z => by
      rw [ofRows_keys, ek]
      simp [keys]
    generalize ofRows [] rows = t at tt tk
    have S5 := S1.smB sb p4
    have cd : c ≠ d := (ne_of_none S5.hd nc).symm
    have ce : c ≠ e := (ne_of_none S5.ea.tab nc).symm
    have cb : c ≠ b := pG.new nc
    have s5 := (s04.trans sb).trans (SameB.of (new_same (o := .dK (kv t)) nc))
    have p5 := pG.sm (new_same (o := .dK (kv t)) nc)
    have hL5 := new_same (o := .dK (kv t)) nc _ _ (sb _ _ hL4 Lb)
    have hc : upd G c (.dK (kv t)) c = some (.dK (kv t)) := upd_same
    have S6 := S5.sm (new_same (o := .dK (kv t)) nc)
    have St : Stand cE (upd G c (.dK (kv t))) a e d c m t := ⟨S6.ea, S6.hd, tm, hc, ⟨tt.ok, tt.pos, Nat.le_trans tt.le (by decide), tt.sn⟩, ce, cd, S6.ed, fun z hz => (tk z).mpr ((mk z).mp hz)⟩
    generalize upd G c (.dK (kv t)) = G5 at s5 p5 hL5 hc S6 St
    clear S5 sb pG hD ra ek hr3 lrows nc nD hL4 p4 s04 S1
    -- a wider one
    refine ⟨by show 4 ≤ sizeLine; decide, fun M nM => ?_⟩
    have sM := new_same (o := .lst [.str "a", .str "b", .str "c", .str "zzzzzzzz"]) nM
    have St6 := St.sm sM
    have p6 := p5.sm sM
    have hL6 := sM _ _ hL5
    have s6 := s5.trans (SameB.of sM)
    have Mb := p5.new nM
    have hM : upd G5 M (.lst [.str "a", .str "b", .str "c", .str "zzzzzzzz"]) M = some (.lst [.str "a", .str "b", .str "c", .str "zzzzzzzz"]) := upd_same
    generalize upd G5 M (.lst [.str "a", .str "b", .str "c", .str "zzzzzzzz"]) = G6 at sM St6 p6 hL6 s6 hM
    clear sM St S6 p5 hL5 s5 hc nM
    refine ⟨M, rfl, ⟨_, .inl (.inl hM)⟩, fun D nD => ?_⟩
    have Db := p6.new nD
    refine lc_it (walk_list (xs := [.str "a", .str "b", .str "c", .str "zzzzzzzz"])) (fun i H' => Same G6 H' ∧ ∃ ps rows, H' D = some (.lst (ps.map V.ref)) ∧ RowsAt H' ps rows ∧ rows.length ≤ i ∧ (∀ p ∈ rows, Nm p.1) ∧ ∀ p ∈ rows, Bg p.2)
      ⟨new_same nD, [], [], upd_same, .nil, Nat.le_refl _, nofun, nofun⟩ (fun i H' _ h => .inl (.inl (h.1 _ _ hM))) ?_ ?_
    · rintro i x H1 H1' lt ⟨sm, ps, rows, hD, ra, lr, nmr, bgr⟩ ⟨rfl, hx⟩
      obtain ⟨z, rfl, nz⟩ : ∃ z, x = .str z ∧ Nm z := by
        have := List.mem_of_getElem? hx
        simp only [List.mem_cons, List.not_mem_nil, or_false] at this
        rcases this with rfl | rfl | rfl | rfl
        · exact ⟨_, rfl, nm_a⟩
        · exact ⟨_, rfl, nm_b⟩
        · exact ⟨_, rfl, nm_c⟩
        · exact ⟨_, rfl, nm_z⟩
      refine ⟨rfl, _, rfl, _, rfl, d, _, rfl, DGet.k (k := .inr z) (sm _ _ St6.hd), _, rfl, ?_⟩
      have l4 : i < 4 := lt
      cases hv : valV (kv m) (.inr z) with
      | some v =>
        exact ⟨sm, ps, rows, hD, ra, by omega, nmr, bgr⟩
      | none =>
        refine ⟨_, rfl, 10, 55, rfl, rfl, ⟨by decide, by decide, by decide⟩, _, rfl, by show 2 ≤ sizeLine; decide, fun T nT => ?_⟩
        obtain ⟨acc, a1, a2, a3, a4, ps', a5, a6⟩ := rows_next (z := z) (n := -(10 ^ (55 : Int).toNat)) nD Db (SameB.of sm) (SameB.of (Same.refl _)) (p6.sm sm) (p6.sm sm) hD ra nT (by omega)
        refine ⟨acc, a1, a2, fun q o e => ?_, ps', _, a5, a6, by rw [List.length_append]; exact Nat.add_le_add lr (Nat.le_refl _), fun p hp => ?_, fun p hp => ?_⟩
        · rw [upd_ne (ne_of_none e nD), upd_ne (ne_of_none (sm _ _ e) nT)]
          exact sm _ _ e
        · rcases List.mem_append.mp hp with h | h
          · exact nmr p h
          · rw [List.mem_singleton.mp h]
            exact nz
        · rcases List.mem_append.mp hp with h | h
          · exact bgr p h
          · rw [List.mem_singleton.mp h]
            show (-(10 ^ (55 : Int).toNat) : Int).natAbs < 10 ^ 64
            decide +kernel
    · rintro H1 ⟨sm, ps, rows, hD, ra, lr, nmr, bgr⟩
      have l4 : rows.length ≤ 4 := lr
      have St7 := St6.sm sm
      refine ⟨_, rfl, c, kv t, rfl, St7.hc, fun H7 q ts s7 nq nts qts hq pr => ?_⟩
      have rt := RowsAt.of pr
      have rp := RowsAt.mono (fun p xs e => s7 _ _ e) ra
      have lps : ps.length ≤ 4 := by rw [paired_len ra]; exact l4
      have lts : ts.length ≤ 8 := by rw [paired_len rt]; exact tt.le
      refine ⟨D, q, _, _, rfl, rfl, s7 _ _ hD, hq, ?_, fun X nX => ?_⟩
      · rw [List.length_map, List.length_map]
        exact Nat.le_trans (show ps.length + ts.length ≤ 12 by omega) (by decide)
      have sX := new_same (o := .lst (ps.map V.ref ++ ts.map V.ref)) nX
      have s67 := (sm.trans s7).trans sX
      have S8 := St6.sm s67
      have p8 := p6.sm s67
      have hL8 := s67 _ _ hL6
      have s8 := s6.trans (SameB.of s67)
      have hX : upd H7 X (.lst (ps.map V.ref ++ ts.map V.ref)) X = some (.lst ((ps ++ ts).map V.ref)) := by
        rw [List.map_append]
        exact upd_same
      have rw8 : RowsAt (upd H7 X (.lst (ps.map V.ref ++ ts.map V.ref))) (ps ++ ts) (rows ++ t) := RowsAt.mono (fun p xs e => sX _ _ e) (rp.app rt)
      have wide : Tbl Bg 12 (ofRows [] (rows ++ t)) := Tbl.of (fun p hp => (List.mem_append.mp hp).elim (nmr p) (tt.ok.nm p)) (by rw [List.length_append]; have := tt.pos; omega) (by rw [List.length_append]; have := tt.le; omega) (fun p hp => (List.mem_append.mp hp).elim (bgr p) (tt.sn p))
      have wk : ∀ z ∈ keys m, z ∈ keys (ofRows [] (rows ++ t)) := fun z hz => by
        refine ofRows_keys.mpr (.inr ?_)
        unfold keys
        rw [List.map_append]
        exact List.mem_append_right _ (St6.sub z hz)
      generalize upd H7 X (.lst (ps.map V.ref ++ ts.map V.ref)) = G8 at S8 p8 hL8 s8 hX rw8
      clear sX s67 s7 St7 sm rp rt pr hq qts nts nq hD ra nD St6 p6 s6 hM hL6 nX
      -- told three times
      refine ⟨_, rfl, _, rfl, _, rfl, a, e, d, c, m, t, rfl, S8, fun H9 s9 => ⟨true, rfl, ?_⟩⟩
      refine ⟨_, rfl, _, rfl, _, rfl, X, ps ++ ts, kv (rows ++ t), rfl, .inl (.inl (s9 _ _ hX)), RowsAt.sq (RowsAt.mono (fun p xs e => s9 _ _ e) rw8), fun l nl => ?_⟩
      rw [show mergeK [] (kv (rows ++ t)) = kv (ofRows [] (rows ++ t)) from mergeK_kv (rows ++ t) []]
      have sl := new_same (o := .dK (kv (ofRows [] (rows ++ t)))) nl
      have S9 := S8.sm s9
      have S10 := S9.sm sl
      have Sw : Stand cE (upd H9 l (.dK (kv (ofRows [] (rows ++ t))))) a e d l m (ofRows [] (rows ++ t)) := ⟨S10.ea, S10.hd, tm, upd_same, ⟨wide.ok, wide.pos, Nat.le_trans wide.le (by decide), wide.sn⟩, (ne_of_none S9.ea.tab nl).symm, (ne_of_none S9.hd nl).symm, S10.ed, wk⟩
      refine ⟨a, e, d, l, m, _, rfl, Sw, fun H11 s11 => ⟨true, rfl, ?_⟩⟩
      have s811 := (s9.trans sl).trans s11
      have S11 := S8.sm s811
      have p11 := p8.sm s811
      have hL11 := s811 _ _ hL8
      have s011 := s8.trans (SameB.of s811)
      clear s811 S9 S10 Sw sl s9 s11 S8 p8 hL8 s8 hX rw8 nl
      refine ⟨_, rfl, _, rfl, _, rfl, L, rfl, ⟨_, .inl (.inl hL11)⟩, fun D nD => rows_it nD (.inl (.inl hL11)) Lb p11 (by omega) (fun z hz G R pG kk => ?_) (fun G ps2 rows2 sb pG hD ra ek hr3 => ?_)⟩
      · exact ⟨rfl, _, rfl, by show 2 ≤ sizeLine; decide, fun T nT => kk T G 0 (sn_small (by decide) (by decide)) pG (SameB.of (Same.refl _)) nT⟩
      refine ⟨D, ps2, kv rows2, rfl, .inl (.inl hD), RowsAt.sq ra, fun o no => ?_⟩
      rw [show mergeK [] (kv rows2) = kv (ofRows [] rows2) from mergeK_kv rows2 []]
      have lrows : rows2.length = zs.length := by rw [← ek, keys_len]
      have t0 : Tbl Bg 8 (ofRows [] rows2) := Tbl.of (fun p hp => nmz _ (ek ▸ List.mem_map.mpr ⟨p, hp, rfl⟩)) (by omega) (by omega) (fun p hp => (hr3 p hp).bg)
      have k0 : ∀ z ∈ keys m, z ∈ keys (ofRows [] rows2) := fun z hz => by
        rw [ofRows_keys, ek]
        exact .inr ((mk z).mp hz)
      generalize ofRows [] rows2 = t2 at t0 k0
      have S12 := S11.smB sb p11
      have so := new_same (o := .dK (kv t2)) no
      have S13 := S12.sm so
      have Sz : Stand cE (upd G o (.dK (kv t2))) a e d o m t2 := ⟨S13.ea, S13.hd, tm, upd_same, ⟨t0.ok, t0.pos, Nat.le_trans t0.le (by decide), t0.sn⟩, (ne_of_none S12.ea.tab no).symm, (ne_of_none S12.hd no).symm, S13.ed, k0⟩
      refine ⟨a, e, d, o, m, t2, rfl, Sz, fun H14 s14 => ⟨true, rfl, ?_⟩⟩
      have S14 := S13.sm s14
      have p14 := (pG.sm so).sm s14
      have s014 := (s011.trans sb).trans (SameB.of (so.trans s14))
      clear S13 Sz so s14 S12 sb pG hD ra ek hr3 lrows no nD S11 p11 hL11 s011
      -- moved
      refine ⟨_, rfl, _, rfl, _, rfl, _, rfl, b, rfl, p14, fun n H15 hn p15 s15 => ?_⟩
      have S15 := S14.smB s15 p14
      refine ⟨a, e, d, c, m, t, n, rfl, S15, hn.bg, fun H16 s16 => ⟨true, rfl, ?_⟩⟩
      have S16 := S15.sm s16
      have p16 := p15.sm s16
      -- planted
      refine ⟨_, rfl, _, rfl, _, rfl, _, rfl, b, rfl, p16, fun n2 H17 hn2 p17 s17 => ?_⟩
      have S17 := S16.smB s17 p16
      refine ⟨b, a, e, d, m, n2, rfl, p17, ⟨S17.ea, S17.hd, S17.tm, S17.ed⟩, hn2.bg, fun H18 s18 p18 => ⟨true, rfl, ?_⟩⟩
      have S18 := S17.smB s18 p17
      exact ⟨_, rfl, _, rfl, _, rfl, a, e, d, c, m, t, rfl, S18, fun H19 s19 => go _ ((((s014.trans s15).trans (SameB.of s16)).trans (s17.trans s18)).trans (SameB.of s19)) (p18.sm s19)⟩
end
end E10

set_option Elab.async false
set_option linter.all false
set_option maxRecDepth 100000
set_option maxHeartbeats 8000000
namespace E10
open L2 PySem PySem.Spec PyProof.Rows
/-! ### the law's call, at the heap behind the top -/
/-- what is tracked there: the script, or nothing -/
structure Begins (K : PySem.W.Frag) (H : Hp) (a : Addr) (o : Obj) (xs : List V) : Prop where
  just : ∀ b u, H b = some u → b = a ∧ u = .frz o (.lst xs) ∧ K.lookup a = none
  seq : SqL K H a xs
theorem begins {K : PySem.W.Frag} {h : Heap} {a : Addr} {vs : List Value} {xs : List V} (inK : K.In h) (at_ : h.get? a = some { cls := .type "list", data := .seq vs.toArray }) (r : Vals xs vs) (few : xs.length ≤ sizeLine) :
    ∃ H, Begins K H a { cls := .type "list", data := .seq vs.toArray } xs := by
  cases z : K.lookup a with
  | none =>
    refine ⟨fun b => if b = a then some (.frz { cls := .type "list", data := .seq vs.toArray } (.lst xs)) else none, ⟨fun b u e => ?_, .inl (.inr ⟨_, if_pos rfl⟩)⟩⟩
    by_cases q : b = a
    · have e2 := (if_pos q).symm.trans e
      cases e2
      exact ⟨q, rfl, z⟩
    · have e2 := (if_neg q).symm.trans e
      cases e2
  | some o =>
    have same := inK _ _ z
    rw [at_] at same
    cases same
    refine ⟨fun _ => none, ⟨fun b u e => ?_, .inr ⟨_, vs.toArray, _, z, rfl, rfl, rfl, by rw [List.size_toArray, ← r.length]; exact few, r⟩⟩⟩
    cases (show (none : Option HO) = some u from e)
theorem goes_at {P : Program} {w : World} {K : PySem.W.Frag} {mg mb : Str → Option Value} {k : Nat} {f a : Addr} {fd : FuncData} {y : Str} {sp : Sp} {t : Shared} {vs : List Value} {xs : List V}
    (inK : K.In t.heap) (g : t.heap.Ns mainGlobals mg) (bn : t.heap.Ns builtinsNs mb) (bb : ∀ x : Str, x ≠ "__name__" → mb x = bootBuiltins x) (lim : t.heap.NoLimit) (no : t.gens = #[])
    (at_ : t.heap.get? a = some { cls := .type "list", data := .seq vs.toArray }) (r : Vals xs vs) (few : xs.length ≤ sizeLine) (room : Room k callerA)
    (F : ∀ base : Heap, K.In base → base.Ns mainGlobals mg → FnG P w K mg base k f fd [y] sp) (bi : ∀ (s : Shared) (u : Value), BindsTo s fd ⟨[u], []⟩ [(y, u)])
    (want : ∀ H : Hp, SqL K H a xs → sp [.ref a] H (fun v _ => v = .bl true) E0) :
    codeAny (model P w) callerA (.call (.ref f) ⟨[.ref a], []⟩) (fun res t' => res = .ok (.ret (.bool true)) ∧ OldK t.heap t'.heap ∧ t'.os = t.os ∧ AllBare t'.gens) t := by
  obtain ⟨H, B⟩ := begins inK at_ r few
  have ok : HOk P w H t.heap := fun b u e => by
    obtain ⟨rfl, rfl, _⟩ := B.just b u e
    exact ⟨at_, few, vs, _, r, at_⟩
  have out : ∀ {b : Addr} {m : Str → Option Value}, t.heap.Ns b m → (hidT t.heap H).Ns b m := fun {b m} ⟨o, es, ep, e, d, q⟩ => by
    refine ⟨o, es, ep, hidT_get e ?_, d, q⟩
    cases z : H b with
    | none => rfl
    | some u =>
      obtain ⟨rfl, _, _⟩ := B.just b u z
      rw [at_] at e
      cases e
      cases (show Data.seq vs.toArray _ = Data.dict es ep from d)
  have inB : K.In (hidT t.heap H) := fun b o e => by
    refine hidT_get (inK b o e) ?_
    cases z : H b with
    | none => rfl
    | some u =>
      obtain ⟨rfl, _, n⟩ := B.just b u z
      rw [n] at e
      cases e
  obtain ⟨mc, l1, l2⟩ := lim
  have env : Env0 P w K mg (hidT t.heap H) callerA [] t H := ⟨rfl, ⟨inB, out g, ⟨mb, out bn, bb⟩, ⟨mc, out l1, l2⟩⟩, fun _ _ e => of_hidT e, Nat.le_of_eq (hidT_size _ _), trivial, (fun b m => absurd (show b ∈ ([] : List Addr) from m) (List.not_mem_nil)), ok, .of_eq no⟩
  refine codeAny_mono ((F _ inB (out g)).goes (us := [.ref a]) (vs := [.ref a]) rfl room env (bi t (.ref a)) (.cons rfl .nil) (want H B.seq)) fun res t' ends => ?_
  match res, ends with
  | .error _, z => exact z.elim
  | .ok .next, z => exact z.elim
  | .ok .brk, z => exact z.elim
  | .ok .cont, z => exact z.elim
  | .ok (.ret u), ⟨v, H', os, bare, un, ok', rv, q⟩ =>
    cases (show v = V.bl true from q)
    cases (show u = Value.bool true from rv)
    refine ⟨rfl, OldK.of_keep fun b o e => ?_, os, bare⟩
    cases z : H b with
    | none => exact un.keep b o e z (fun m => by cases m) (fun m => by cases m)
    | some u =>
      obtain ⟨rfl, rfl, _⟩ := B.just b u z
      rw [at_] at e
      cases e
      exact (ok' _ _ (un.frzs _ _ _ z)).1
theorem walkG {l : PySem.W.OpenLaw} {n k : Nat} {q : Program} {loose : List Str} {XP : (Str → Option Value) → Heap → Prop} {YP : World → Heap → Prop} {d : DefRec} {y : Str} (most : l.most = some n) (line : n ≤ sizeLine) (df : d.params.defaults = []) (room : Room k callerA)
    (F : ∀ (w : World) (mg : Str → Option Value) (f : Addr) (h : Heap), YP w h → h.Ns mainGlobals mg → mg d.name = some (.ref f) → ∃ (K : PySem.W.Frag) (fd : FuncData) (sp : Sp), K.In h ∧ (∀ (s : Shared) (u : Value), BindsTo s fd ⟨[u], []⟩ [(y, u)]) ∧
      (∀ (H : Hp) (a : Addr) (ns : List Int), ns.length ≤ n → SqL K H a (ns.map V.int) → sp [.ref a] H (fun v _ => v = .bl true) E0) ∧ ∀ base : Heap, K.In base → base.Ns mainGlobals mg → FnG l.prog w K mg base k f fd [y] sp) :
    PySem.W.WalkO q loose XP YP l.row.toRowW d [] (fun f vs => PySem.call f vs) := by
  refine Att.attach_call most df fun w s0 t mg mb f o pm cd doc a vs ns G Y at_f is_f rec_f is_g at_a nums few no => ?_
  obtain ⟨K, fd, sp, inK, bi, want, G2⟩ := F w mg f _ Y G.T.g is_g
  exact goes_at inK G.T.g G.T.b G.T.builtins G.T.nolimit no at_a (vals_ints nums) (by rw [List.length_map]; exact Nat.le_trans few line) room G2 bi fun H S => want H a ns few S
end E10

set_option Elab.async false
set_option linter.all false
set_option maxRecDepth 100000
set_option maxHeartbeats 4000000
namespace E10
open L2 PySem PySem.Spec PyProof.Rows
open He (eqO eqO_ok ba ga ma)
/-! ### looks at the heap behind the top, and what follows from them -/
section
variable {K : PySem.W.Frag}
def gloB (K : PySem.W.Frag) (x : Str) : Bool := eqO (PySem.W.nsIn K mainGlobals x) (some (some (.ref (ga K x))))
def freeB (K : PySem.W.Frag) (x : Str) : Bool := eqO (PySem.W.nsIn K mainGlobals x) (some none)
def intB (K : PySem.W.Frag) (p : Str × Int) : Bool := (He.Fa.int p.1 p.2).ok K
def mB (K : PySem.W.Frag) (C : Addr) (m : Str) : Bool := eqO (PySem.W.findIn K (.ref C) m) (some (some (.ref (ma K C m)))) && PySem.W.isFn K (.ref (ma K C m))
theorem mB_ok {C : Addr} {m : Str} (h : mB K C m = true) : Has K C (ma K C m) m := ⟨eqO_ok (ba h).1, (ba h).2⟩
def clB (K : PySem.W.Frag) (C : Addr) : Bool := PySem.W.plainGet K C Str.empty && (PySem.W.hasDictIn K C && (PySem.W.plainOver K C && eqO (PySem.W.findIn K (.ref C) "__setattr__") (some (some (.builtin "object.__setattr__")))))
theorem clB_ok {C : Addr} (h : clB K C = true) : Cls K C := by
  obtain ⟨a, h⟩ := ba h
  obtain ⟨b, h⟩ := ba h
  obtain ⟨c, d⟩ := ba h
  exact ⟨a, b, c, eqO_ok d⟩
def ownB (K : PySem.W.Frag) (C : Addr) : Bool := clB K C && (eqO (PySem.W.findIn K (.ref C) "__class__") (some (some (.builtin "object.__class__"))) && (eqO (PySem.W.specialIn K (.builtin "object.__class__") "__get__") (some (some (.builtin "getset_descriptor.__get__"))) &&
  (decide (PySem.W.takesIn K (.builtin "object.__class__") = some true) && (decide (PySem.W.mroIn K C (.type "object") = some true) && (decide (PySem.W.subIn K (.ref C) (.type "object") = some true) && (decide (PySem.W.kitOne K (.ref C) (.ref C) = some true) && PySem.W.selfFirst K C))))))
theorem ownB_ok {C : Addr} (h : ownB K C = true) : Own K C := by
  obtain ⟨a, h⟩ := ba h
  obtain ⟨b, h⟩ := ba h
  obtain ⟨c, h⟩ := ba h
  obtain ⟨d, h⟩ := ba h
  obtain ⟨e, h⟩ := ba h
  obtain ⟨f, h⟩ := ba h
  obtain ⟨g, i⟩ := ba h
  exact ⟨clB_ok a, eqO_ok b, eqO_ok c, of_decide_eq_true d, of_decide_eq_true e, of_decide_eq_true f, of_decide_eq_true g, i⟩
def noB (K : PySem.W.Frag) (C : Addr) (f : Str) : Bool := eqO (PySem.W.findIn K (.ref C) f) (some none)
def propB (K : PySem.W.Frag) (C : Addr) (f : Str) : Bool := eqO (PySem.W.findIn K (.ref C) f) (some (some (.ref (ma K C f)))) && (eqO (PySem.W.specialIn K (.ref (ma K C f)) "__get__") (some (some (.builtin "property.__get__"))) && (decide (PySem.W.takesIn K (.ref (ma K C f)) = some true) &&
  match PySem.W.recIn K (ma K C f) "property" with
  | some (.ref _ :: _) => true
  | _ => false))
theorem propB_ok {C : Addr} {f : Str} (h : propB K C f = true) : PropOf K C f (ma K C f) (He5.wf K C "property" f) := by
  obtain ⟨a, h⟩ := ba h
  obtain ⟨b, h⟩ := ba h
  obtain ⟨c, h⟩ := ba h
  refine ⟨eqO_ok a, eqO_ok b, of_decide_eq_true c, ?_⟩
  unfold He5.wf
  split at h
  · rename_i g r e
    exact ⟨r, by rw [e]⟩
  · cases h
def neB (K : PySem.W.Frag) (C : Addr) : Bool := eqO (PySem.W.findIn K (.ref C) "__ne__") (some (some (.builtin "object.__ne__"))) && (decide (PySem.W.mroIn K C (.type "object") = some true) && decide (PySem.W.subIn K (.ref C) (.type "object") = some true))
theorem neB_ok {C : Addr} (h : neB K C = true) : NeBy K C := by
  obtain ⟨a, h⟩ := ba h
  obtain ⟨b, c⟩ := ba h
  exact ⟨eqO_ok a, of_decide_eq_true b, of_decide_eq_true c⟩
def callB (K : PySem.W.Frag) (C : Addr) : Bool := mB K C "__call__" && PySem.W.fnIn K (ma K C "__call__")
theorem callB_ok {C : Addr} (h : callB K C = true) : StX.CallO K C (ma K C "__call__") := by
  obtain ⟨a, b⟩ := ba h
  exact ⟨(mB_ok a).at_, (mB_ok a).fn, b⟩
def mkB (K : PySem.W.Frag) (C : Addr) : Bool := PySem.W.makesIn K C && (mB K C "__init__" && PySem.W.keepIn K (.ref C))
theorem mkB_ok {C : Addr} (h : mkB K C = true) : Mk K C (ma K C "__init__") := by
  obtain ⟨a, h⟩ := ba h
  obtain ⟨b, c⟩ := ba h
  exact ⟨a, (mB_ok b).at_, (mB_ok b).fn, c⟩
def intX (K : PySem.W.Frag) (C : Addr) : Bool := decide (PySem.W.subIn K (.type "int") (.ref C) = some false) && decide (PySem.W.subIn K (.ref C) (.type "int") = some false)
theorem intX_ok {C : Addr} (h : intX K C = true) : PySem.W.subIn K (.type "int") (.ref C) = some false ∧ PySem.W.subIn K (.ref C) (.type "int") = some false := ⟨of_decide_eq_true (ba h).1, of_decide_eq_true (ba h).2⟩
def metB (K : PySem.W.Frag) (C : Addr) (m : Str) : Bool := mB K C m && PySem.W.keepIn K (.ref (ma K C m))
theorem metB_ok {C : Addr} {m : Str} (h : metB K C m = true) : Meth K C m (ma K C m) := ⟨(mB_ok (ba h).1).at_, (mB_ok (ba h).1).fn, (ba h).2⟩
variable {x qual : Str} {params : Arguments} {body : List Stmt} {scope : Scope} {dvs : List V} {f : Addr} {fd : FuncData} {ps : List Str}
theorem vals_at : ∀ {zs : List V} {ws : List Value} (i : Nat), Vals zs ws → RelV (zs.getD i .non) (ws.getD i .none)
  | _, _, _, .nil => rfl
  | _, _, 0, .cons r _ => r
  | _, _, i + 1, .cons _ t => by
    rw [List.getD_cons_succ, List.getD_cons_succ]
    exact vals_at i t
/-- a call with keywords of a def that has defaults, but none of keywords alone -/
theorem kb_dfl (F : FunD K x qual params body scope dvs [] f fd) (n : Nat) (ks : List Str) (g : List Value → List Value → List Value → List Value) (gV : List V → List V → List V) (hd : dvs ≠ [])
    (hrel : ∀ {vs zs : List V} {us its ws : List Value}, Vals vs us → Vals dvs its → Vals zs ws → Vals (gV vs zs) (g us its ws))
    (h : ∀ (T : Addr) (kV doc pm : Value) (an : Option Addr) (cdv ct : Value) (us its ws : List Value), us.length = n → its.length = dvs.length → ws.length = ks.length →
      ∃ k, bindArgs (PySem.W.fnOf x qual params body scope (.ref T) kV doc pm an cdv ct) ⟨us, ks.zip ws⟩ = seqItems? (.ref T) >>= k ∧ k (some its.toArray) = pure (ps.zip (g us its ws))) :
    ∃ its, KBn K fd ps n ks (fun us ws => g us its ws) gV := by
  obtain ⟨oc, od, dV, kV, doc, pm, an, cdv, ct, osl, rfl, lk, hcd, hD, _⟩ := F.ex
  rcases hD with ⟨e, _⟩ | ⟨_, T, o, its, m, rfl, lT, oT, rT⟩
  · exact absurd e hd
  · refine ⟨its, ⟨fun s us ws X l1 l2 => ?_, fun r1 r2 => hrel r1 rT r2⟩⟩
    obtain ⟨k, e1, e2⟩ := h T kV doc pm an cdv ct us its ws l1 rT.length.symm l2
    refine BindsTo.of_looks fun M => ?_
    rw [e1]
    exact looks_items X lT oT (.of_pure e2)
/-- every parameter is given, by place, to a def that has defaults -/
theorem binds_full (F : FunD K x qual params body scope dvs [] f fd) (hd : dvs ≠ [])
    (h : ∀ (T : Addr) (kV doc pm : Value) (an : Option Addr) (cdv ct : Value) (us its : List Value), us.length = ps.length → its.length = dvs.length →
      ∃ k, bindArgs (PySem.W.fnOf x qual params body scope (.ref T) kV doc pm an cdv ct) ⟨us, []⟩ = seqItems? (.ref T) >>= k ∧ k (some its.toArray) = pure (ps.zip us)) : Binds K fd ps [] := by
  obtain ⟨oc, od, dV, kV, doc, pm, an, cdv, ct, osl, rfl, lk, hcd, hD, _⟩ := F.ex
  rcases hD with ⟨e, _⟩ | ⟨_, T, o, its, m, rfl, lT, oT, rT⟩
  · exact absurd e hd
  · refine fun s us X hlen => ?_
    rw [List.append_nil] at hlen ⊢
    obtain ⟨k, e1, e2⟩ := h T kV doc pm an cdv ct us its hlen rT.length.symm
    refine BindsTo.of_looks fun M => ?_
    rw [e1]
    exact looks_items X lT oT (.of_pure e2)
end
section
variable {P : Program} {w : World} {K : PySem.W.Frag} {mg : Str → Option Value} {base : Heap}
theorem glo_of (X : K.In base) (G : base.Ns mainGlobals mg) {l : List Str} (h : l.all (gloB K) = true) (i : Nat) {x : Str} (e : l[i]? = some x := by rfl) : mg x = some (.ref (ga K x)) :=
  PySem.W.mg_of X G (eqO_ok (List.all_eq_true.mp h x (List.mem_of_getElem? e)))
theorem free_of (X : K.In base) (G : base.Ns mainGlobals mg) {l : List Str} (h : l.all (freeB K) = true) (i : Nat) {x : Str} (e : l[i]? = some x := by rfl) : mg x = none :=
  PySem.W.mg_none_of X G (eqO_ok (List.all_eq_true.mp h x (List.mem_of_getElem? e)))
theorem int_of (X : K.In base) (G : base.Ns mainGlobals mg) {l : List (Str × Int)} (h : l.all (intB K) = true) (i : Nat) {x : Str} {n : Int} (e : l[i]? = some (x, n) := by rfl) : ∃ t, mg x = some (.int n t) :=
  He.int_ok X G (List.all_eq_true.mp h _ (List.mem_of_getElem? e))
theorem fun_of {x qual : Str} {st : Stmt} {f : Addr} {fd : FuncData} (F : FunD K x qual (defArgs st) (defBody st) (defScope st) [] [] f fd) : Fun K x qual st f fd := He5.fun_of F
theorem def_mk {x : Str} {ps : List Str} {k : Nat} {sp : Sp} {st : Stmt} {f : Addr} {fd : FuncData} (F : Fun K x x st f fd) (g : mg x = some (.ref f)) (ok : FnOk P w K mg base CX0 k f fd ps sp)
    (h : ∀ (kV doc pm : Value) (an : Option Addr) (cdv ct : Value) (us : List Value), us.length = ps.length → bindArgs (PySem.W.fnOf x x (defArgs st) (defBody st) (defScope st) .none kV doc pm an cdv ct) ⟨us, []⟩ = pure (ps.zip us)) : Def P w K mg base x ps k sp :=
  ⟨_, fd, ok, g, F.kp, F.binds h⟩
theorem defG_mk {x : Str} {ps : List Str} {k : Nat} {sp : Sp} {st : Stmt} {f : Addr} {fd : FuncData} (F : Fun K x x st f fd) (g : mg x = some (.ref f)) (ok : FnG P w K mg base k f fd ps sp)
    (h : ∀ (kV doc pm : Value) (an : Option Addr) (cdv ct : Value) (us : List Value), us.length = ps.length → bindArgs (PySem.W.fnOf x x (defArgs st) (defBody st) (defScope st) .none kV doc pm an cdv ct) ⟨us, []⟩ = pure (ps.zip us)) : DefG P w K mg base x ps k sp :=
  ⟨_, fd, ok, g, F.kp, F.binds h⟩
theorem one_fd {x q : Str} {st : Stmt} {f : Addr} {fd fd' : FuncData} (F : Fun K x q st f fd) (F' : Fun K x q st f fd') : fd' = fd := by
  obtain ⟨oc, od, _, _, _, _, _, _, osl, _, l, _⟩ := F.ex
  obtain ⟨oc', od', _, _, _, _, _, _, osl', _, l', _⟩ := F'.ex
  have e := l'.symm.trans l
  simp only [Option.some.injEq, Obj.mk.injEq, Data.func.injEq] at e
  exact e.2.2.1
end
/-- one parameter behind n given ones, passed by its name -/
theorem kb_one {K : PySem.W.Frag} {x qual : Str} {st : Stmt} {f : Addr} {fd : FuncData} {ps : List Str} (F : Fun K x qual st f fd) (n : Nat) (ks : List Str) (g : List Value → List Value → List Value) (gV : List V → List V → List V)
    (hrel : ∀ {vs zs : List V} {us ws : List Value}, Vals vs us → Vals zs ws → Vals (gV vs zs) (g us ws))
    (h : ∀ (kV doc pm : Value) (an : Option Addr) (cdv ct : Value) (us ws : List Value), us.length = n → ws.length = ks.length →
      bindArgs (PySem.W.fnOf x qual (defArgs st) (defBody st) (defScope st) .none kV doc pm an cdv ct) ⟨us, ks.zip ws⟩ = pure (ps.zip (g us ws))) : KBn K fd ps n ks g gV := by
  obtain ⟨oc, od, kV, doc, pm, an, cdv, ct, osl, rfl, lk, hcd⟩ := F.ex
  exact ⟨fun s us ws _ l1 l2 => BindsTo.of_eq (h kV doc pm an cdv ct us ws l1 l2), fun r1 r2 => hrel r1 r2⟩
end E10

set_option Elab.async false
set_option linter.all false
set_option maxRecDepth 100000
set_option maxHeartbeats 4000000
namespace E10
open L2 PySem PySem.Spec PyProof.Rows
open He (ga ma)
/-! ### what is looked at behind the top -/
def nfree : List Str := ["isinstance", "all", "any", "len", "range", "int", "max", "min", "abs", "divmod", "repr", "str", "dict", "zip", "bool", "tuple", "sorted", "list", "sum"]
def nglob : List Str := ["is_name", "is_integer", "is_moment_of", "has_names", "is_times", "check_shift", "check_times", "check_moment", "in_order", "moved", "check_shifts", "_law_pot", "_law_draw", "_law_choice", "_law_names", "_law_number", "_law_value", "_law_told_right", "_law_moved_right", "_law_planted_right", "_law_right", "law", "Term", "Earliest"]
def nints : List (Str × Int) := [("MOST_LETTERS", 8), ("MOST_TERMS", 8)]
def dfs : List He5.DefA := [⟨fun K => ga K "is_name", "is_name", "is_name", defArgs s_is_name, defBody s_is_name, defScope s_is_name, [], []⟩,
  ⟨fun K => ga K "is_integer", "is_integer", "is_integer", defArgs s_is_integer, defBody s_is_integer, defScope s_is_integer, [], []⟩,
  ⟨fun K => ga K "is_moment_of", "is_moment_of", "is_moment_of", defArgs s_is_moment_of, defBody s_is_moment_of, defScope s_is_moment_of, [], []⟩,
  ⟨fun K => ga K "has_names", "has_names", "has_names", defArgs s_has_names, defBody s_has_names, defScope s_has_names, [], []⟩,
  ⟨fun K => ga K "is_times", "is_times", "is_times", defArgs s_is_times, defBody s_is_times, defScope s_is_times, [], []⟩,
  ⟨fun K => ga K "check_shift", "check_shift", "check_shift", defArgs s_check_shift, defBody s_check_shift, defScope s_check_shift, [], []⟩,
  ⟨fun K => ga K "check_times", "check_times", "check_times", defArgs s_check_times, defBody s_check_times, defScope s_check_times, [], []⟩,
  ⟨fun K => ga K "check_moment", "check_moment", "check_moment", defArgs s_check_moment, defBody s_check_moment, defScope s_check_moment, [], []⟩,
  ⟨fun K => ga K "in_order", "in_order", "in_order", defArgs s_in_order, defBody s_in_order, defScope s_in_order, [], []⟩,
  ⟨fun K => ga K "moved", "moved", "moved", defArgs s_moved, defBody s_moved, defScope s_moved, [], []⟩,
  ⟨fun K => ga K "check_shifts", "check_shifts", "check_shifts", defArgs s_check_shifts, defBody s_check_shifts, defScope s_check_shifts, [], []⟩,
  ⟨fun K => ga K "_law_pot", "_law_pot", "_law_pot", defArgs s__law_pot, defBody s__law_pot, defScope s__law_pot, [], []⟩,
  ⟨fun K => ga K "_law_draw", "_law_draw", "_law_draw", defArgs s__law_draw, defBody s__law_draw, defScope s__law_draw, [], []⟩,
  ⟨fun K => ga K "_law_choice", "_law_choice", "_law_choice", defArgs s__law_choice, defBody s__law_choice, defScope s__law_choice, [], []⟩,
  ⟨fun K => ga K "_law_names", "_law_names", "_law_names", defArgs s__law_names, defBody s__law_names, defScope s__law_names, [], []⟩,
  ⟨fun K => ga K "_law_number", "_law_number", "_law_number", defArgs s__law_number, defBody s__law_number, defScope s__law_number, [], []⟩,
  ⟨fun K => ga K "_law_value", "_law_value", "_law_value", defArgs s__law_value, defBody s__law_value, defScope s__law_value, [], []⟩,
  ⟨fun K => ga K "_law_told_right", "_law_told_right", "_law_told_right", defArgs s__law_told_right, defBody s__law_told_right, defScope s__law_told_right, [], []⟩,
  ⟨fun K => ga K "_law_moved_right", "_law_moved_right", "_law_moved_right", defArgs s__law_moved_right, defBody s__law_moved_right, defScope s__law_moved_right, [], []⟩,
  ⟨fun K => ga K "_law_planted_right", "_law_planted_right", "_law_planted_right", defArgs s__law_planted_right, defBody s__law_planted_right, defScope s__law_planted_right, [], []⟩,
  ⟨fun K => ga K "_law_right", "_law_right", "_law_right", defArgs s__law_right, defBody s__law_right, defScope s__law_right, [], []⟩,
  ⟨fun K => ga K "law", "law", "law", defArgs s_law, defBody s_law, defScope s_law, [], []⟩,
  ⟨fun K => ma K (ga K "Term") "__init__", "__init__", "Term.__init__", defArgs m_Term___init__, defBody m_Term___init__, defScope m_Term___init__, [.int 0], []⟩,
  ⟨fun K => ma K (ga K "Term") "__call__", "__call__", "Term.__call__", defArgs m_Term___call__, defBody m_Term___call__, defScope m_Term___call__, [], []⟩,
  ⟨fun K => ma K (ga K "Earliest") "__init__", "__init__", "Earliest.__init__", defArgs m_Earliest___init__, defBody m_Earliest___init__, defScope m_Earliest___init__, [], []⟩,
  ⟨fun K => ma K (ga K "Earliest") "__call__", "__call__", "Earliest.__call__", defArgs m_Earliest___call__, defBody m_Earliest___call__, defScope m_Earliest___call__, [], []⟩,
  ⟨fun K => ma K (ga K "Earliest") "first", "first", "Earliest.first", defArgs m_Earliest_first, defBody m_Earliest_first, defScope m_Earliest_first, [], []⟩,
  ⟨fun K => ma K (ga K "Earliest") "__getitem__", "__getitem__", "Earliest.__getitem__", defArgs m_Earliest___getitem__, defBody m_Earliest___getitem__, defScope m_Earliest___getitem__, [], []⟩,
  ⟨fun K => ma K (ga K "Earliest") "__add__", "__add__", "Earliest.__add__", defArgs m_Earliest___add__, defBody m_Earliest___add__, defScope m_Earliest___add__, [], []⟩,
  ⟨fun K => ma K (ga K "Earliest") "__radd__", "__radd__", "Earliest.__radd__", defArgs m_Earliest___radd__, defBody m_Earliest___radd__, defScope m_Earliest___radd__, [], []⟩,
  ⟨fun K => ma K (ga K "Earliest") "__sub__", "__sub__", "Earliest.__sub__", defArgs m_Earliest___sub__, defBody m_Earliest___sub__, defScope m_Earliest___sub__, [], []⟩]
def chks (K : PySem.W.Frag) : List Bool := [nfree.all (freeB K),
  nglob.all (gloB K),
  nints.all (intB K),
  ownB K (ga K "Earliest"),
  noB K (ga K "Earliest") "_shifts",
  mkB K (ga K "Earliest"),
  mB K (ga K "Earliest") (PySem.dunder "add"),
  mB K (ga K "Earliest") (dunderR "add"),
  mB K (ga K "Earliest") (PySem.dunder "sub"),
  noB K (ga K "Earliest") (dunderR "sub"),
  intX K (ga K "Earliest"),
  callB K (ga K "Earliest"),
  metB K (ga K "Earliest") "first",
  mB K (ga K "Earliest") "__getitem__",
  PySem.W.fnIn K (ma K (ga K "Earliest") "__getitem__"),
  ownB K (ga K "Term"),
  noB K (ga K "Term") "_moment",
  noB K (ga K "Term") "_shift",
  mkB K (ga K "Term"),
  callB K (ga K "Term"),
  dfs.all (He5.DefA.ok K)]
abbrev Al : Type := Bool × List He.FnW
def obsK (K : PySem.W.Frag) : Al := ((chks K).all id, dfs.map fun d => He5.fnA K (d.at_ K))
def val0 : Al := (true, dfs.map He5.DefA.val)
def frag (g : Addr → Option Obj) : PySem.W.Frag := He.frG g (cStatics :: He.asD g 5)
def hook : PySem.W.Hook where
  α := Al
  obs := fun s => obsK (frag s.heap.get?)
  val := fun _ => val0
  says := fun _ h => ∃ K : PySem.W.Frag, K.In h ∧ obsK K = val0
  of := fun _ _ e => ⟨_, He.frG_in, e⟩
  keeps := fun _ _ _ ⟨K, hK, c⟩ k => ⟨K, PySem.W.Frag.In.keeps hK k, c⟩
abbrev R : PySem.W.OpenRow := PySem.W.OpenLaw.row PySem.Challenge.rw_anyofthese_k14_whole_values_and_first
abbrev qv : Program := PySem.W.view R.prog [45]
abbrev iLaw : Nat := 45
def names0 : List Str := ["_wall", "AnyError", "InvalidName", "InvalidShift", "InvalidShifts", "InvalidTimes", "MissingError", "UnknownMoment", "LimitError", "TooMany", "MOST_LETTERS", "is_name", "is_integer", "is_moment_of", "has_names", "is_times", "check_shift", "check_times", "check_moment", "in_order"]
def names1 : List Str := ["moved", "least_of", "term_text", "MOST_TERMS", "check_shifts", "Earliest", "Term", "_law_pot", "_law_draw", "_law_choice", "_law_names", "_law_number", "_law_value", "_law_told_right", "_law_moved_right", "_law_planted_right", "_law_right"]
def names : List Str := names0 ++ names1
def ob (s : PySem.W.SharedT) : Al := obsK (frag (HandSHeadRun.getT s))
theorem ob_eq (s : PySem.W.SharedT) : ob s = hook.obs s.abs := by
  have e : HandSHeadRun.getT s = s.abs.heap.get? := funext (HandSHeadRun.getT_eq s)
  show obsK (frag (HandSHeadRun.getT s)) = _
  rw [e]
  rfl
section
variable {K : PySem.W.Frag}
theorem bit_of (c : obsK K = val0) (i : Nat) {b : Bool} (h : (chks K)[i]? = some b := by rfl) : b = true :=
  List.all_eq_true.mp (show (chks K).all id = true from congrArg (fun t : Al => t.1) c) _ (List.mem_of_getElem? h)
theorem bFree (c : obsK K = val0) : nfree.all (freeB K) = true := bit_of c 0
theorem bGlob (c : obsK K = val0) : nglob.all (gloB K) = true := bit_of c 1
theorem bInts (c : obsK K = val0) : nints.all (intB K) = true := bit_of c 2
theorem bOwnE (c : obsK K = val0) : ownB K (ga K "Earliest") = true := bit_of c 3
theorem bNoE (c : obsK K = val0) : noB K (ga K "Earliest") "_shifts" = true := bit_of c 4
theorem bMkE (c : obsK K = val0) : mkB K (ga K "Earliest") = true := bit_of c 5
theorem bAddE (c : obsK K = val0) : mB K (ga K "Earliest") (PySem.dunder "add") = true := bit_of c 6
theorem bRaddE (c : obsK K = val0) : mB K (ga K "Earliest") (dunderR "add") = true := bit_of c 7
theorem bSubE (c : obsK K = val0) : mB K (ga K "Earliest") (PySem.dunder "sub") = true := bit_of c 8
theorem bRsubE (c : obsK K = val0) : noB K (ga K "Earliest") (dunderR "sub") = true := bit_of c 9
theorem bIntE (c : obsK K = val0) : intX K (ga K "Earliest") = true := bit_of c 10
theorem bCallE (c : obsK K = val0) : callB K (ga K "Earliest") = true := bit_of c 11
theorem bFirst (c : obsK K = val0) : metB K (ga K "Earliest") "first" = true := bit_of c 12
theorem bItem (c : obsK K = val0) : mB K (ga K "Earliest") "__getitem__" = true := bit_of c 13
theorem bItemF (c : obsK K = val0) : PySem.W.fnIn K (ma K (ga K "Earliest") "__getitem__") = true := bit_of c 14
theorem bOwnT (c : obsK K = val0) : ownB K (ga K "Term") = true := bit_of c 15
theorem bNoM (c : obsK K = val0) : noB K (ga K "Term") "_moment" = true := bit_of c 16
theorem bNoS (c : obsK K = val0) : noB K (ga K "Term") "_shift" = true := bit_of c 17
theorem bMkT (c : obsK K = val0) : mkB K (ga K "Term") = true := bit_of c 18
theorem bCallT (c : obsK K = val0) : callB K (ga K "Term") = true := bit_of c 19
theorem bDefs (c : obsK K = val0) : dfs.all (He5.DefA.ok K) = true := bit_of c 20
theorem def_of (c : obsK K = val0) (i : Nat) {d : He5.DefA} (h : dfs[i]? = some d := by rfl) : ∃ fd, FunD K d.name d.qual d.params d.body d.scope (d.dvs K) (d.kws K) (d.at_ K) fd := by
  have e : dfs.map (fun d => He5.fnA K (d.at_ K)) = dfs.map He5.DefA.val := congrArg (fun t : Al => t.2) c
  have e2 : (dfs.map fun d => He5.fnA K (d.at_ K))[i]? = (dfs.map He5.DefA.val)[i]? := by rw [e]
  rw [List.getElem?_map, List.getElem?_map, h] at e2
  exact He5.DefA.funD (Option.some.inj e2) (List.all_eq_true.mp (bDefs c) d (List.mem_of_getElem? h))
theorem F_is_name (c : obsK K = val0) : ∃ fd, Fun K "is_name" "is_name" s_is_name (ga K "is_name") fd := (def_of c 0).imp fun _ d => fun_of d
theorem F_is_integer (c : obsK K = val0) : ∃ fd, Fun K "is_integer" "is_integer" s_is_integer (ga K "is_integer") fd := (def_of c 1).imp fun _ d => fun_of d
theorem F_is_moment_of (c : obsK K = val0) : ∃ fd, Fun K "is_moment_of" "is_moment_of" s_is_moment_of (ga K "is_moment_of") fd := (def_of c 2).imp fun _ d => fun_of d
theorem F_has_names (c : obsK K = val0) : ∃ fd, Fun K "has_names" "has_names" s_has_names (ga K "has_names") fd := (def_of c 3).imp fun _ d => fun_of d
theorem F_is_times (c : obsK K = val0) : ∃ fd, Fun K "is_times" "is_times" s_is_times (ga K "is_times") fd := (def_of c 4).imp fun _ d => fun_of d
theorem F_check_shift (c : obsK K = val0) : ∃ fd, Fun K "check_shift" "check_shift" s_check_shift (ga K "check_shift") fd := (def_of c 5).imp fun _ d => fun_of d
theorem F_check_times (c : obsK K = val0) : ∃ fd, Fun K "check_times" "check_times" s_check_times (ga K "check_times") fd := (def_of c 6).imp fun _ d => fun_of d
theorem F_check_moment (c : obsK K = val0) : ∃ fd, Fun K "check_moment" "check_moment" s_check_moment (ga K "check_moment") fd := (def_of c 7).imp fun _ d => fun_of d
theorem F_in_order (c : obsK K = val0) : ∃ fd, Fun K "in_order" "in_order" s_in_order (ga K "in_order") fd := (def_of c 8).imp fun _ d => fun_of d
theorem F_moved (c : obsK K = val0) : ∃ fd, Fun K "moved" "moved" s_moved (ga K "moved") fd := (def_of c 9).imp fun _ d => fun_of d
theorem F_check_shifts (c : obsK K = val0) : ∃ fd, Fun K "check_shifts" "check_shifts" s_check_shifts (ga K "check_shifts") fd := (def_of c 10).imp fun _ d => fun_of d
theorem F__law_pot (c : obsK K = val0) : ∃ fd, Fun K "_law_pot" "_law_pot" s__law_pot (ga K "_law_pot") fd := (def_of c 11).imp fun _ d => fun_of d
theorem F__law_draw (c : obsK K = val0) : ∃ fd, Fun K "_law_draw" "_law_draw" s__law_draw (ga K "_law_draw") fd := (def_of c 12).imp fun _ d => fun_of d
theorem F__law_choice (c : obsK K = val0) : ∃ fd, Fun K "_law_choice" "_law_choice" s__law_choice (ga K "_law_choice") fd := (def_of c 13).imp fun _ d => fun_of d
theorem F__law_names (c : obsK K = val0) : ∃ fd, Fun K "_law_names" "_law_names" s__law_names (ga K "_law_names") fd := (def_of c 14).imp fun _ d => fun_of d
theorem F__law_number (c : obsK K = val0) : ∃ fd, Fun K "_law_number" "_law_number" s__law_number (ga K "_law_number") fd := (def_of c 15).imp fun _ d => fun_of d
theorem F__law_value (c : obsK K = val0) : ∃ fd, Fun K "_law_value" "_law_value" s__law_value (ga K "_law_value") fd := (def_of c 16).imp fun _ d => fun_of d
theorem F__law_told_right (c : obsK K = val0) : ∃ fd, Fun K "_law_told_right" "_law_told_right" s__law_told_right (ga K "_law_told_right") fd := (def_of c 17).imp fun _ d => fun_of d
theorem F__law_moved_right (c : obsK K = val0) : ∃ fd, Fun K "_law_moved_right" "_law_moved_right" s__law_moved_right (ga K "_law_moved_right") fd := (def_of c 18).imp fun _ d => fun_of d
theorem F__law_planted_right (c : obsK K = val0) : ∃ fd, Fun K "_law_planted_right" "_law_planted_right" s__law_planted_right (ga K "_law_planted_right") fd := (def_of c 19).imp fun _ d => fun_of d
theorem F__law_right (c : obsK K = val0) : ∃ fd, Fun K "_law_right" "_law_right" s__law_right (ga K "_law_right") fd := (def_of c 20).imp fun _ d => fun_of d
theorem F_law (c : obsK K = val0) : ∃ fd, Fun K "law" "law" s_law (ga K "law") fd := (def_of c 21).imp fun _ d => fun_of d
theorem F_Term___init__ (c : obsK K = val0) : ∃ fd, FunD K "__init__" "Term.__init__" (defArgs m_Term___init__) (defBody m_Term___init__) (defScope m_Term___init__) [V.int 0] [] (ma K (ga K "Term") "__init__") fd := def_of c 22
theorem F_Term___call__ (c : obsK K = val0) : ∃ fd, Fun K "__call__" "Term.__call__" m_Term___call__ (ma K (ga K "Term") "__call__") fd := (def_of c 23).imp fun _ d => fun_of d
theorem F_Earliest___init__ (c : obsK K = val0) : ∃ fd, Fun K "__init__" "Earliest.__init__" m_Earliest___init__ (ma K (ga K "Earliest") "__init__") fd := (def_of c 24).imp fun _ d => fun_of d
theorem F_Earliest___call__ (c : obsK K = val0) : ∃ fd, Fun K "__call__" "Earliest.__call__" m_Earliest___call__ (ma K (ga K "Earliest") "__call__") fd := (def_of c 25).imp fun _ d => fun_of d
theorem F_Earliest_first (c : obsK K = val0) : ∃ fd, Fun K "first" "Earliest.first" m_Earliest_first (ma K (ga K "Earliest") "first") fd := (def_of c 26).imp fun _ d => fun_of d
theorem F_Earliest___getitem__ (c : obsK K = val0) : ∃ fd, Fun K "__getitem__" "Earliest.__getitem__" m_Earliest___getitem__ (ma K (ga K "Earliest") "__getitem__") fd := (def_of c 27).imp fun _ d => fun_of d
theorem F_Earliest___add__ (c : obsK K = val0) : ∃ fd, Fun K "__add__" "Earliest.__add__" m_Earliest___add__ (ma K (ga K "Earliest") "__add__") fd := (def_of c 28).imp fun _ d => fun_of d
theorem F_Earliest___radd__ (c : obsK K = val0) : ∃ fd, Fun K "__radd__" "Earliest.__radd__" m_Earliest___radd__ (ma K (ga K "Earliest") "__radd__") fd := (def_of c 29).imp fun _ d => fun_of d
theorem F_Earliest___sub__ (c : obsK K = val0) : ∃ fd, Fun K "__sub__" "Earliest.__sub__" m_Earliest___sub__ (ma K (ga K "Earliest") "__sub__") fd := (def_of c 30).imp fun _ d => fun_of d
end
section
variable {K : PySem.W.Frag} {mg : Str → Option Value} {base : Heap}
theorem g_is_name (X : K.In base) (G : base.Ns mainGlobals mg) (c : obsK K = val0) : mg "is_name" = some (.ref (ga K "is_name")) := glo_of X G (bGlob c) 0
theorem g_is_integer (X : K.In base) (G : base.Ns mainGlobals mg) (c : obsK K = val0) : mg "is_integer" = some (.ref (ga K "is_integer")) := glo_of X G (bGlob c) 1
theorem g_is_moment_of (X : K.In base) (G : base.Ns mainGlobals mg) (c : obsK K = val0) : mg "is_moment_of" = some (.ref (ga K "is_moment_of")) := glo_of X G (bGlob c) 2
theorem g_has_names (X : K.In base) (G : base.Ns mainGlobals mg) (c : obsK K = val0) : mg "has_names" = some (.ref (ga K "has_names")) := glo_of X G (bGlob c) 3
theorem g_is_times (X : K.In base) (G : base.Ns mainGlobals mg) (c : obsK K = val0) : mg "is_times" = some (.ref (ga K "is_times")) := glo_of X G (bGlob c) 4
theorem g_check_shift (X : K.In base) (G : base.Ns mainGlobals mg) (c : obsK K = val0) : mg "check_shift" = some (.ref (ga K "check_shift")) := glo_of X G (bGlob c) 5
theorem g_check_times (X : K.In base) (G : base.Ns mainGlobals mg) (c : obsK K = val0) : mg "check_times" = some (.ref (ga K "check_times")) := glo_of X G (bGlob c) 6
theorem g_check_moment (X : K.In base) (G : base.Ns mainGlobals mg) (c : obsK K = val0) : mg "check_moment" = some (.ref (ga K "check_moment")) := glo_of X G (bGlob c) 7
theorem g_in_order (X : K.In base) (G : base.Ns mainGlobals mg) (c : obsK K = val0) : mg "in_order" = some (.ref (ga K "in_order")) := glo_of X G (bGlob c) 8
theorem g_moved (X : K.In base) (G : base.Ns mainGlobals mg) (c : obsK K = val0) : mg "moved" = some (.ref (ga K "moved")) := glo_of X G (bGlob c) 9
theorem g_check_shifts (X : K.In base) (G : base.Ns mainGlobals mg) (c : obsK K = val0) : mg "check_shifts" = some (.ref (ga K "check_shifts")) := glo_of X G (bGlob c) 10
theorem g__law_pot (X : K.In base) (G : base.Ns mainGlobals mg) (c : obsK K = val0) : mg "_law_pot" = some (.ref (ga K "_law_pot")) := glo_of X G (bGlob c) 11
theorem g__law_draw (X : K.In base) (G : base.Ns mainGlobals mg) (c : obsK K = val0) : mg "_law_draw" = some (.ref (ga K "_law_draw")) := glo_of X G (bGlob c) 12
theorem g__law_choice (X : K.In base) (G : base.Ns mainGlobals mg) (c : obsK K = val0) : mg "_law_choice" = some (.ref (ga K "_law_choice")) := glo_of X G (bGlob c) 13
theorem g__law_names (X : K.In base) (G : base.Ns mainGlobals mg) (c : obsK K = val0) : mg "_law_names" = some (.ref (ga K "_law_names")) := glo_of X G (bGlob c) 14
theorem g__law_number (X : K.In base) (G : base.Ns mainGlobals mg) (c : obsK K = val0) : mg "_law_number" = some (.ref (ga K "_law_number")) := glo_of X G (bGlob c) 15
theorem g__law_value (X : K.In base) (G : base.Ns mainGlobals mg) (c : obsK K = val0) : mg "_law_value" = some (.ref (ga K "_law_value")) := glo_of X G (bGlob c) 16
theorem g__law_told_right (X : K.In base) (G : base.Ns mainGlobals mg) (c : obsK K = val0) : mg "_law_told_right" = some (.ref (ga K "_law_told_right")) := glo_of X G (bGlob c) 17
theorem g__law_moved_right (X : K.In base) (G : base.Ns mainGlobals mg) (c : obsK K = val0) : mg "_law_moved_right" = some (.ref (ga K "_law_moved_right")) := glo_of X G (bGlob c) 18
theorem g__law_planted_right (X : K.In base) (G : base.Ns mainGlobals mg) (c : obsK K = val0) : mg "_law_planted_right" = some (.ref (ga K "_law_planted_right")) := glo_of X G (bGlob c) 19
theorem g__law_right (X : K.In base) (G : base.Ns mainGlobals mg) (c : obsK K = val0) : mg "_law_right" = some (.ref (ga K "_law_right")) := glo_of X G (bGlob c) 20
theorem g_law (X : K.In base) (G : base.Ns mainGlobals mg) (c : obsK K = val0) : mg "law" = some (.ref (ga K "law")) := glo_of X G (bGlob c) 21
theorem g_Term (X : K.In base) (G : base.Ns mainGlobals mg) (c : obsK K = val0) : mg "Term" = some (.ref (ga K "Term")) := glo_of X G (bGlob c) 22
theorem g_Earliest (X : K.In base) (G : base.Ns mainGlobals mg) (c : obsK K = val0) : mg "Earliest" = some (.ref (ga K "Earliest")) := glo_of X G (bGlob c) 23
theorem f_isinstance (X : K.In base) (G : base.Ns mainGlobals mg) (c : obsK K = val0) : mg "isinstance" = none := free_of X G (bFree c) 0
theorem f_all (X : K.In base) (G : base.Ns mainGlobals mg) (c : obsK K = val0) : mg "all" = none := free_of X G (bFree c) 1
theorem f_any (X : K.In base) (G : base.Ns mainGlobals mg) (c : obsK K = val0) : mg "any" = none := free_of X G (bFree c) 2
theorem f_len (X : K.In base) (G : base.Ns mainGlobals mg) (c : obsK K = val0) : mg "len" = none := free_of X G (bFree c) 3
theorem f_range (X : K.In base) (G : base.Ns mainGlobals mg) (c : obsK K = val0) : mg "range" = none := free_of X G (bFree c) 4
theorem f_int (X : K.In base) (G : base.Ns mainGlobals mg) (c : obsK K = val0) : mg "int" = none := free_of X G (bFree c) 5
theorem f_max (X : K.In base) (G : base.Ns mainGlobals mg) (c : obsK K = val0) : mg "max" = none := free_of X G (bFree c) 6
theorem f_min (X : K.In base) (G : base.Ns mainGlobals mg) (c : obsK K = val0) : mg "min" = none := free_of X G (bFree c) 7
theorem f_abs (X : K.In base) (G : base.Ns mainGlobals mg) (c : obsK K = val0) : mg "abs" = none := free_of X G (bFree c) 8
theorem f_divmod (X : K.In base) (G : base.Ns mainGlobals mg) (c : obsK K = val0) : mg "divmod" = none := free_of X G (bFree c) 9
theorem f_repr (X : K.In base) (G : base.Ns mainGlobals mg) (c : obsK K = val0) : mg "repr" = none := free_of X G (bFree c) 10
theorem f_str (X : K.In base) (G : base.Ns mainGlobals mg) (c : obsK K = val0) : mg "str" = none := free_of X G (bFree c) 11
theorem f_dict (X : K.In base) (G : base.Ns mainGlobals mg) (c : obsK K = val0) : mg "dict" = none := free_of X G (bFree c) 12
theorem f_zip (X : K.In base) (G : base.Ns mainGlobals mg) (c : obsK K = val0) : mg "zip" = none := free_of X G (bFree c) 13
theorem f_bool (X : K.In base) (G : base.Ns mainGlobals mg) (c : obsK K = val0) : mg "bool" = none := free_of X G (bFree c) 14
theorem f_tuple (X : K.In base) (G : base.Ns mainGlobals mg) (c : obsK K = val0) : mg "tuple" = none := free_of X G (bFree c) 15
theorem f_sorted (X : K.In base) (G : base.Ns mainGlobals mg) (c : obsK K = val0) : mg "sorted" = none := free_of X G (bFree c) 16
theorem f_list (X : K.In base) (G : base.Ns mainGlobals mg) (c : obsK K = val0) : mg "list" = none := free_of X G (bFree c) 17
theorem f_sum (X : K.In base) (G : base.Ns mainGlobals mg) (c : obsK K = val0) : mg "sum" = none := free_of X G (bFree c) 18
theorem n_MOST_LETTERS (X : K.In base) (G : base.Ns mainGlobals mg) (c : obsK K = val0) : ∃ t, mg "MOST_LETTERS" = some (.int 8 t) := int_of X G (bInts c) 0
theorem n_MOST_TERMS (X : K.In base) (G : base.Ns mainGlobals mg) (c : obsK K = val0) : ∃ t, mg "MOST_TERMS" = some (.int 8 t) := int_of X G (bInts c) 1
end
end E10

set_option Elab.async false
set_option maxRecDepth 100000
set_option maxHeartbeats 0
namespace E10
open L2 PySem PySem.Spec PyProof.Rows
theorem run (w : World) : HandSHeadRun.RunEq R qv hook ob 60000 names w := by
  intro os
  kernel_rfl
end E10

set_option Elab.async false
set_option linter.all false
set_option maxRecDepth 100000
set_option maxHeartbeats 8000000
namespace E10
open L2 PySem PySem.Spec PyProof.Rows
open He (ga ma ba)
/-! ### the law -/
def spLaw (K : PySem.W.Frag) : Sp := fun vs H Q _ => ∃ (a : Addr) (ns : List Int), vs = [.ref a] ∧ SqL K H a (ns.map V.int) ∧ ns.length ≤ 63 ∧ ∀ H', Q (.bl true) H'
theorem three (n : Nat) : ∃ m : Nat, (if ((if (3 : Int) < (n : Int) then (3 : Int) else (n : Int)) > 1) then (if (3 : Int) < (n : Int) then (3 : Int) else (n : Int)) else 1) = (m : Int) ∧ m ≤ 3 := by
  by_cases h : (3 : Int) < (n : Int)
  · exact ⟨3, by rw [if_pos h]; rfl, by decide⟩
  · rw [if_neg h]
    by_cases h1 : (n : Int) > 1
    · exact ⟨n, by rw [if_pos h1], by omega⟩
    · exact ⟨1, by rw [if_neg h1]; rfl, by decide⟩
abbrev lawLevel : Nat := 10
section
variable {P : Program} {w : World} {K : PySem.W.Frag} {mg : Str → Option Value} {base : Heap} {f : Addr} {fd : FuncData}
theorem scLaw : FnScope ["_law_script", "_law_k"] ["_law_script"] (defScope s_law) := ⟨rfl, rfl, rfl, by decide +kernel, rfl, by decide +kernel, by decide +kernel⟩
theorem ok_law (N : Nam mg) (DP : Def P w K mg base "_law_pot" ["_law_script", "_law_k"] 1 (spPot K)) (DR : DefG P w K mg base "_law_right" ["_law_pot_here"] 9 spRight) (F : Fun K "law" "law" s_law f fd) : FnG P w K mg base lawLevel f fd ["_law_script"] (spLaw K) := by
  refine Fun.okG F scLaw (fun {vs H Q E} h => ?_) (fun cdv A outer s H vs Q E hG hr h => ?_)
  · obtain ⟨a, ns, rfl, _⟩ := h
    rfl
  · obtain ⟨a, ns, rfl, hS, hl, go⟩ := h
    refine ⟨_, pss_one (ps_ret (pe_callB (cr_all rfl) rfl N.all_ boot_all' (pa_cons (pe_lc (own := [("_law_k", 1)]) (g := gName 1) (tt := tYes) (te := tCall spRight [] E0 (tCons (tCall (spPot K) [] E0 (tCons (tVar 0) (tCons (tVar 1) tNil))) tNil)) (by rfl) scLaw.nd
        (pi_range1 rfl N.rng (pa_cons (pe_callB (call_max2 rfl) rfl N.mx PyProof.Rows.boot_max (pa_cons pe_int (pa_cons (pe_callB (call_min2 rfl) rfl N.mn PyProof.Rows.boot_min (pa_cons (pe_callB call_len_seq rfl N.len PySem.boot_len (pa_cons (pv 0) pa_nil)) (pa_cons pe_int pa_nil))) pa_nil))) pa_nil))
        (blkOk_by (own := [("_law_k", 1)]) (N := ["_law_script", "_law_k"]) (sc := defScope s_law) (by decide +kernel)) (fun _ _ _ _ _ => pg_name (i := 1) scLaw.nd rfl (Or.inl rfl)) (fun _ _ _ _ _ => pts_nil)
        (fun _ _ _ _ _ => callDG DR hG hr rfl (pa_cons (callD DP (hr.mono (by decide)) rfl (pa_cons (pv 0) (pa_cons (pv 1) pa_nil))) pa_nil))) pa_nil))), ?_⟩
    refine ⟨_, rfl, a, _, rfl, .inl hS, _, _, rfl, _, _, rfl, ?_⟩
    rw [List.length_map]
    obtain ⟨m, em, m3⟩ := three ns.length
    refine ⟨_, rfl, ?_⟩
    rw [em]
    refine ⟨by omega, by omega, fun D nD => ?_⟩
    refine lc_it (walk_range (lo := 0) (n := ((m : Int)).toNat)) (fun i H' => Same H H' ∧ H' D = some (.lst ((List.replicate i true).map V.bl))) ⟨new_same nD, upd_same⟩ (fun _ _ _ _ => True.intro) ?_ ?_
    · rintro i x H1 H1' hi ⟨sm, hD⟩ ⟨rfl, rfl⟩
      have em : ((m : Int)).toNat = m := rfl
      refine ⟨rfl, ?_⟩
      refine ⟨_, rfl, _, rfl, a, ns, i, by show [V.ref a, V.int (0 + (i : Int))] = _; rw [Int.zero_add], SqL.sm sm hS, by omega, hl, fun p H2 np s2 hp => ⟨p, rfl, hp, fun H3 s3 _ => ?_⟩⟩
      have s4 : Same H1' H3 := fun b o e => s3 b o (s2 b o e) (ne_of_none e np)
      refine ⟨_, s4 _ _ hD, by rw [List.length_map, List.length_replicate]; exact Nat.lt_of_lt_of_le (Nat.lt_of_lt_of_le hi (by rw [em]; exact m3)) (by decide), fun c u e => ?_, ?_⟩
      · rw [upd_ne (ne_of_none e nD)]
        exact s4 _ _ (sm c u e)
      · rw [upd_same, List.replicate_succ', List.map_append]
        rfl
    · rintro H1 ⟨sm, hD⟩
      refine ⟨D, List.replicate ((m : Int)).toNat true, rfl, .inl (.inl hD), ?_⟩
      rw [all_true]
      exact go H1
end
/-! ### all together -/
section
variable {P : Program} {w : World} {K : PySem.W.Frag} {mg : Str → Option Value} {base : Heap}
theorem erlF_of (c : obsK K = val0) : ErlF K (ga K "Earliest") := ⟨ownB_ok (bOwnE c), He.eqO_ok (bNoE c)⟩
theorem termF_of (c : obsK K = val0) : TermF K (ga K "Term") := ⟨ownB_ok (bOwnT c), He.eqO_ok (bNoM c), He.eqO_ok (bNoS c)⟩
theorem nam_of (X : K.In base) (G : base.Ns mainGlobals mg) (c : obsK K = val0) : Nam mg :=
  ⟨f_isinstance X G c, f_all X G c, f_any X G c, f_len X G c, f_range X G c, f_int X G c, f_max X G c, f_min X G c, f_abs X G c, f_divmod X G c, f_repr X G c, f_str X G c, f_dict X G c, f_zip X G c, f_bool X G c, f_tuple X G c, f_sorted X G c, f_list X G c, f_sum X G c, n_MOST_LETTERS X G c, n_MOST_TERMS X G c⟩
theorem d_name (X : K.In base) (G : base.Ns mainGlobals mg) (c : obsK K = val0) : Def P w K mg base "is_name" ["value"] 1 spName := by
  obtain ⟨fd, F⟩ := F_is_name c
  exact def_mk F (g_is_name X G c) (ok_name (nam_of X G c) F) (by intro _ _ _ _ _ _ us hl; first | (match us, hl with | [_], _ => rfl) | (match us, hl with | [_, _], _ => rfl) | (match us, hl with | [_, _, _], _ => rfl) | (match us, hl with | [_, _, _, _], _ => rfl) | (match us, hl with | [_, _, _, _, _], _ => rfl) | (match us, hl with | [_, _, _, _, _, _], _ => rfl) | (match us, hl with | [_, _, _, _, _, _, _], _ => rfl) | (match us, hl with | [_, _, _, _, _, _, _, _], _ => rfl) | (match us, hl with | [_, _, _, _, _, _, _, _, _], _ => rfl))
theorem d_integer (X : K.In base) (G : base.Ns mainGlobals mg) (c : obsK K = val0) : Def P w K mg base "is_integer" ["value"] 1 spInteger := by
  obtain ⟨fd, F⟩ := F_is_integer c
  exact def_mk F (g_is_integer X G c) (ok_integer (nam_of X G c) F) (by intro _ _ _ _ _ _ us hl; first | (match us, hl with | [_], _ => rfl) | (match us, hl with | [_, _], _ => rfl) | (match us, hl with | [_, _, _], _ => rfl) | (match us, hl with | [_, _, _, _], _ => rfl) | (match us, hl with | [_, _, _, _, _], _ => rfl) | (match us, hl with | [_, _, _, _, _, _], _ => rfl) | (match us, hl with | [_, _, _, _, _, _, _], _ => rfl) | (match us, hl with | [_, _, _, _, _, _, _, _], _ => rfl) | (match us, hl with | [_, _, _, _, _, _, _, _, _], _ => rfl))
theorem d_mom (X : K.In base) (G : base.Ns mainGlobals mg) (c : obsK K = val0) : Def P w K mg base "is_moment_of" ["value", "moments"] 1 spMomD := by
  obtain ⟨fd, F⟩ := F_is_moment_of c
  exact def_mk F (g_is_moment_of X G c) (ok_mom (nam_of X G c) F) (by intro _ _ _ _ _ _ us hl; first | (match us, hl with | [_], _ => rfl) | (match us, hl with | [_, _], _ => rfl) | (match us, hl with | [_, _, _], _ => rfl) | (match us, hl with | [_, _, _, _], _ => rfl) | (match us, hl with | [_, _, _, _, _], _ => rfl) | (match us, hl with | [_, _, _, _, _, _], _ => rfl) | (match us, hl with | [_, _, _, _, _, _, _], _ => rfl) | (match us, hl with | [_, _, _, _, _, _, _, _], _ => rfl) | (match us, hl with | [_, _, _, _, _, _, _, _, _], _ => rfl))
theorem d_has (X : K.In base) (G : base.Ns mainGlobals mg) (c : obsK K = val0) : Def P w K mg base "has_names" ["value"] 2 spHas := by
  obtain ⟨fd, F⟩ := F_has_names c
  exact def_mk F (g_has_names X G c) (ok_has (nam_of X G c) (d_name X G c) F) (by intro _ _ _ _ _ _ us hl; first | (match us, hl with | [_], _ => rfl) | (match us, hl with | [_, _], _ => rfl) | (match us, hl with | [_, _, _], _ => rfl) | (match us, hl with | [_, _, _, _], _ => rfl) | (match us, hl with | [_, _, _, _, _], _ => rfl) | (match us, hl with | [_, _, _, _, _, _], _ => rfl) | (match us, hl with | [_, _, _, _, _, _, _], _ => rfl) | (match us, hl with | [_, _, _, _, _, _, _, _], _ => rfl) | (match us, hl with | [_, _, _, _, _, _, _, _, _], _ => rfl))
theorem d_times (X : K.In base) (G : base.Ns mainGlobals mg) (c : obsK K = val0) : Def P w K mg base "is_times" ["value"] 3 spHas := by
  obtain ⟨fd, F⟩ := F_is_times c
  exact def_mk F (g_is_times X G c) (ok_times (nam_of X G c) (d_integer X G c) (d_has X G c) F) (by intro _ _ _ _ _ _ us hl; first | (match us, hl with | [_], _ => rfl) | (match us, hl with | [_, _], _ => rfl) | (match us, hl with | [_, _, _], _ => rfl) | (match us, hl with | [_, _, _, _], _ => rfl) | (match us, hl with | [_, _, _, _, _], _ => rfl) | (match us, hl with | [_, _, _, _, _, _], _ => rfl) | (match us, hl with | [_, _, _, _, _, _, _], _ => rfl) | (match us, hl with | [_, _, _, _, _, _, _, _], _ => rfl) | (match us, hl with | [_, _, _, _, _, _, _, _, _], _ => rfl))
theorem d_cshift (X : K.In base) (G : base.Ns mainGlobals mg) (c : obsK K = val0) : Def P w K mg base "check_shift" ["value"] 2 spShift := by
  obtain ⟨fd, F⟩ := F_check_shift c
  exact def_mk F (g_check_shift X G c) (ok_shift (d_integer X G c) F) (by intro _ _ _ _ _ _ us hl; first | (match us, hl with | [_], _ => rfl) | (match us, hl with | [_, _], _ => rfl) | (match us, hl with | [_, _, _], _ => rfl) | (match us, hl with | [_, _, _, _], _ => rfl) | (match us, hl with | [_, _, _, _, _], _ => rfl) | (match us, hl with | [_, _, _, _, _, _], _ => rfl) | (match us, hl with | [_, _, _, _, _, _, _], _ => rfl) | (match us, hl with | [_, _, _, _, _, _, _, _], _ => rfl) | (match us, hl with | [_, _, _, _, _, _, _, _, _], _ => rfl))
theorem d_ctimes (X : K.In base) (G : base.Ns mainGlobals mg) (c : obsK K = val0) : Def P w K mg base "check_times" ["value", "moments"] 4 (spCheck K) := by
  obtain ⟨fd, F⟩ := F_check_times c
  exact def_mk F (g_check_times X G c) (ok_check (nam_of X G c) (d_times X G c) F) (by intro _ _ _ _ _ _ us hl; first | (match us, hl with | [_], _ => rfl) | (match us, hl with | [_, _], _ => rfl) | (match us, hl with | [_, _, _], _ => rfl) | (match us, hl with | [_, _, _, _], _ => rfl) | (match us, hl with | [_, _, _, _, _], _ => rfl) | (match us, hl with | [_, _, _, _, _, _], _ => rfl) | (match us, hl with | [_, _, _, _, _, _, _], _ => rfl) | (match us, hl with | [_, _, _, _, _, _, _, _], _ => rfl) | (match us, hl with | [_, _, _, _, _, _, _, _, _], _ => rfl))
theorem d_ctimesD (X : K.In base) (G : base.Ns mainGlobals mg) (c : obsK K = val0) : Def P w K mg base "check_times" ["value", "moments"] 4 spCheckD := by
  obtain ⟨fd, F⟩ := F_check_times c
  exact def_mk F (g_check_times X G c) (ok_checkD (nam_of X G c) (d_times X G c) F) (by intro _ _ _ _ _ _ us hl; first | (match us, hl with | [_], _ => rfl) | (match us, hl with | [_, _], _ => rfl) | (match us, hl with | [_, _, _], _ => rfl) | (match us, hl with | [_, _, _, _], _ => rfl) | (match us, hl with | [_, _, _, _, _], _ => rfl) | (match us, hl with | [_, _, _, _, _, _], _ => rfl) | (match us, hl with | [_, _, _, _, _, _, _], _ => rfl) | (match us, hl with | [_, _, _, _, _, _, _, _], _ => rfl) | (match us, hl with | [_, _, _, _, _, _, _, _, _], _ => rfl))
theorem d_cmom (X : K.In base) (G : base.Ns mainGlobals mg) (c : obsK K = val0) : Def P w K mg base "check_moment" ["value", "moments"] 2 spCMomD := by
  obtain ⟨fd, F⟩ := F_check_moment c
  exact def_mk F (g_check_moment X G c) (ok_cmom (d_mom X G c) F) (by intro _ _ _ _ _ _ us hl; first | (match us, hl with | [_], _ => rfl) | (match us, hl with | [_, _], _ => rfl) | (match us, hl with | [_, _, _], _ => rfl) | (match us, hl with | [_, _, _, _], _ => rfl) | (match us, hl with | [_, _, _, _, _], _ => rfl) | (match us, hl with | [_, _, _, _, _, _], _ => rfl) | (match us, hl with | [_, _, _, _, _, _, _], _ => rfl) | (match us, hl with | [_, _, _, _, _, _, _, _], _ => rfl) | (match us, hl with | [_, _, _, _, _, _, _, _, _], _ => rfl))
theorem d_order (X : K.In base) (G : base.Ns mainGlobals mg) (c : obsK K = val0) : Def P w K mg base "in_order" ["table"] 1 spOrder := by
  obtain ⟨fd, F⟩ := F_in_order c
  exact def_mk F (g_in_order X G c) (ok_order (nam_of X G c) F) (by intro _ _ _ _ _ _ us hl; first | (match us, hl with | [_], _ => rfl) | (match us, hl with | [_, _], _ => rfl) | (match us, hl with | [_, _, _], _ => rfl) | (match us, hl with | [_, _, _, _], _ => rfl) | (match us, hl with | [_, _, _, _, _], _ => rfl) | (match us, hl with | [_, _, _, _, _, _], _ => rfl) | (match us, hl with | [_, _, _, _, _, _, _], _ => rfl) | (match us, hl with | [_, _, _, _, _, _, _, _], _ => rfl) | (match us, hl with | [_, _, _, _, _, _, _, _, _], _ => rfl))
theorem d_moved (X : K.In base) (G : base.Ns mainGlobals mg) (c : obsK K = val0) : Def P w K mg base "moved" ["table", "number"] 1 spMoved := by
  obtain ⟨fd, F⟩ := F_moved c
  exact def_mk F (g_moved X G c) (ok_moved F) (by intro _ _ _ _ _ _ us hl; first | (match us, hl with | [_], _ => rfl) | (match us, hl with | [_, _], _ => rfl) | (match us, hl with | [_, _, _], _ => rfl) | (match us, hl with | [_, _, _, _], _ => rfl) | (match us, hl with | [_, _, _, _, _], _ => rfl) | (match us, hl with | [_, _, _, _, _, _], _ => rfl) | (match us, hl with | [_, _, _, _, _, _, _], _ => rfl) | (match us, hl with | [_, _, _, _, _, _, _, _], _ => rfl) | (match us, hl with | [_, _, _, _, _, _, _, _, _], _ => rfl))
theorem d_shifts (X : K.In base) (G : base.Ns mainGlobals mg) (c : obsK K = val0) : Def P w K mg base "check_shifts" ["shifts"] 3 spShifts := by
  obtain ⟨fd, F⟩ := F_check_shifts c
  exact def_mk F (g_check_shifts X G c) (ok_shifts (nam_of X G c) (d_has X G c) (d_integer X G c) F) (by intro _ _ _ _ _ _ us hl; first | (match us, hl with | [_], _ => rfl) | (match us, hl with | [_, _], _ => rfl) | (match us, hl with | [_, _, _], _ => rfl) | (match us, hl with | [_, _, _, _], _ => rfl) | (match us, hl with | [_, _, _, _, _], _ => rfl) | (match us, hl with | [_, _, _, _, _, _], _ => rfl) | (match us, hl with | [_, _, _, _, _, _, _], _ => rfl) | (match us, hl with | [_, _, _, _, _, _, _, _], _ => rfl) | (match us, hl with | [_, _, _, _, _, _, _, _, _], _ => rfl))
theorem mkE_of (X : K.In base) (G : base.Ns mainGlobals mg) (c : obsK K = val0) : MkE P w K mg base (ga K "Earliest") := by
  obtain ⟨fd, F⟩ := F_Earliest___init__ c
  exact ⟨_, fd, mkB_ok (bMkE c), ok_initE (erlF_of c) (d_shifts X G c) (d_order X G c) F, g_Earliest X G c, F.binds (by intro _ _ _ _ _ _ us hl; first | (match us, hl with | [_], _ => rfl) | (match us, hl with | [_, _], _ => rfl) | (match us, hl with | [_, _, _], _ => rfl) | (match us, hl with | [_, _, _, _], _ => rfl) | (match us, hl with | [_, _, _, _, _], _ => rfl) | (match us, hl with | [_, _, _, _, _, _], _ => rfl) | (match us, hl with | [_, _, _, _, _, _, _], _ => rfl) | (match us, hl with | [_, _, _, _, _, _, _, _], _ => rfl) | (match us, hl with | [_, _, _, _, _, _, _, _, _], _ => rfl))⟩
theorem addE_of (X : K.In base) (G : base.Ns mainGlobals mg) (c : obsK K = val0) : AddE P w K mg base (ga K "Earliest") := by
  obtain ⟨fd, F⟩ := F_Earliest___add__ c
  exact ⟨⟨_, fd, .of (ok_addE (erlF_of c) (mkE_of X G c) (d_cshift X G c) (d_moved X G c) F), mB_ok (bAddE c), F.binds (by intro _ _ _ _ _ _ us hl; first | (match us, hl with | [_], _ => rfl) | (match us, hl with | [_, _], _ => rfl) | (match us, hl with | [_, _, _], _ => rfl) | (match us, hl with | [_, _, _, _], _ => rfl) | (match us, hl with | [_, _, _, _, _], _ => rfl) | (match us, hl with | [_, _, _, _, _, _], _ => rfl) | (match us, hl with | [_, _, _, _, _, _, _], _ => rfl) | (match us, hl with | [_, _, _, _, _, _, _, _], _ => rfl) | (match us, hl with | [_, _, _, _, _, _, _, _, _], _ => rfl))⟩, ⟨_, (mB_ok (bRaddE c)).at_⟩, (intX_ok (bIntE c)).1, (intX_ok (bIntE c)).2⟩
theorem raddE_of (X : K.In base) (G : base.Ns mainGlobals mg) (c : obsK K = val0) : RaddE P w K mg base (ga K "Earliest") := by
  obtain ⟨fd, F⟩ := F_Earliest___radd__ c
  exact ⟨_, fd, ok_raddE (erlF_of c) (addE_of X G c) F, mB_ok (bRaddE c), F.binds (by intro _ _ _ _ _ _ us hl; first | (match us, hl with | [_], _ => rfl) | (match us, hl with | [_, _], _ => rfl) | (match us, hl with | [_, _, _], _ => rfl) | (match us, hl with | [_, _, _, _], _ => rfl) | (match us, hl with | [_, _, _, _, _], _ => rfl) | (match us, hl with | [_, _, _, _, _, _], _ => rfl) | (match us, hl with | [_, _, _, _, _, _, _], _ => rfl) | (match us, hl with | [_, _, _, _, _, _, _, _], _ => rfl) | (match us, hl with | [_, _, _, _, _, _, _, _, _], _ => rfl))⟩
theorem subE_of (X : K.In base) (G : base.Ns mainGlobals mg) (c : obsK K = val0) : SubE P w K mg base (ga K "Earliest") := by
  obtain ⟨fd, F⟩ := F_Earliest___sub__ c
  exact ⟨⟨_, fd, ok_subE (erlF_of c) (addE_of X G c) (d_cshift X G c) F, mB_ok (bSubE c), F.binds (by intro _ _ _ _ _ _ us hl; first | (match us, hl with | [_], _ => rfl) | (match us, hl with | [_, _], _ => rfl) | (match us, hl with | [_, _, _], _ => rfl) | (match us, hl with | [_, _, _, _], _ => rfl) | (match us, hl with | [_, _, _, _, _], _ => rfl) | (match us, hl with | [_, _, _, _, _, _], _ => rfl) | (match us, hl with | [_, _, _, _, _, _, _], _ => rfl) | (match us, hl with | [_, _, _, _, _, _, _, _], _ => rfl) | (match us, hl with | [_, _, _, _, _, _, _, _, _], _ => rfl))⟩, He.eqO_ok (bRsubE c)⟩
theorem mkT_of (X : K.In base) (G : base.Ns mainGlobals mg) (c : obsK K = val0) : MkT P w K mg base (ga K "Term") := by
  obtain ⟨fd, D⟩ := F_Term___init__ c
  refine ⟨_, fd, mkB_ok (bMkT c), ok_init (termF_of c) (d_name X G c) (d_cshift X G c) D, g_Term X G c, ?_, ?_, ?_, ?_⟩
  · refine binds_full D (by simp) fun T kV doc pm an cdv ct us its l1 l2 => ?_
    match us, its, l1, l2 with
    | [_, _, _], [_], _, _ => exact ⟨_, rfl, rfl⟩
  · have h := FunD.binds1 (ps := ["self", "moment", "shift"]) D 2 0 (by simp) rfl fun T kV doc pm an cdv ct us its l1 l2 => by
      match us, its, l1, l2 with
      | [_, _], [_], _, _ => exact ⟨_, rfl, rfl⟩
    exact h
  · obtain ⟨its, h⟩ := kb_dfl (ps := ["self", "moment", "shift"]) D 1 ["shift", "moment"] (fun us _ ws => us ++ [ws.getD 1 .none, ws.getD 0 .none]) (fun vs zs => vs ++ [zs.getD 1 .non, zs.getD 0 .non]) (by simp) (fun r1 _ r3 => r1.append (.cons (vals_at 1 r3) (.cons (vals_at 0 r3) .nil)))
      fun T kV doc pm an cdv ct us its ws l1 l2 l3 => by
        match us, its, ws, l1, l2, l3 with
        | [_], [_], [_, _], _, _, _ => exact ⟨_, rfl, rfl⟩
    exact ⟨_, h⟩
  · obtain ⟨its, h⟩ := kb_dfl (ps := ["self", "moment", "shift"]) D 1 ["moment"] (fun us its ws => us ++ [ws.getD 0 .none, its.getD 0 .none]) (fun vs zs => vs ++ [zs.getD 0 .non, .int 0]) (by simp) (fun r1 r2 r3 => r1.append (.cons (vals_at 0 r3) (.cons (vals_at 0 r2) .nil)))
      fun T kV doc pm an cdv ct us its ws l1 l2 l3 => by
        match us, its, ws, l1, l2, l3 with
        | [_], [_], [_], _, _, _ => exact ⟨_, rfl, rfl⟩
    exact ⟨_, h⟩
theorem topE_of (X : K.In base) (G : base.Ns mainGlobals mg) (c : obsK K = val0) : TopE P w K mg base (ga K "Term") (ga K "Earliest") := by
  have N := nam_of X G c
  have T := erlF_of c
  refine ⟨T, mkE_of X G c, addE_of X G c, raddE_of X G c, subE_of X G c, ?_, ?_, ?_, termF_of c, mkT_of X G c, ?_⟩
  · obtain ⟨fd, F⟩ := F_Earliest___call__ c
    refine ⟨_, fd, callB_ok (bCallE c), ok_callE N T (d_ctimesD X G c) F, F.binds (by intro _ _ _ _ _ _ us hl; first | (match us, hl with | [_], _ => rfl) | (match us, hl with | [_, _], _ => rfl) | (match us, hl with | [_, _, _], _ => rfl) | (match us, hl with | [_, _, _, _], _ => rfl) | (match us, hl with | [_, _, _, _, _], _ => rfl) | (match us, hl with | [_, _, _, _, _, _], _ => rfl) | (match us, hl with | [_, _, _, _, _, _, _], _ => rfl) | (match us, hl with | [_, _, _, _, _, _, _, _], _ => rfl) | (match us, hl with | [_, _, _, _, _, _, _, _, _], _ => rfl)), fun us ws => us ++ ws, kb_one F 1 ["times"] _ _ (fun r1 r2 => r1.append r2) fun kV doc pm an cdv ct us ws l1 l2 => ?_⟩
    match us, ws, l1, l2 with
    | [_], [_], _, _ => rfl
  · obtain ⟨fd, F⟩ := F_Earliest_first c
    obtain ⟨fC, fdC, cC, FC, bC, _⟩ : ∃ (f : Addr) (fd : FuncData), StX.CallO K (ga K "Earliest") f ∧ FnOk P w K mg base CX0 5 f fd ["self", "times"] (spCallE (ga K "Earliest")) ∧ Binds K fd ["self", "times"] [] ∧ True := by
      obtain ⟨fd, F⟩ := F_Earliest___call__ c
      exact ⟨_, fd, callB_ok (bCallE c), ok_callE N T (d_ctimesD X G c) F, F.binds (by intro _ _ _ _ _ _ us hl; first | (match us, hl with | [_], _ => rfl) | (match us, hl with | [_, _], _ => rfl) | (match us, hl with | [_, _, _], _ => rfl) | (match us, hl with | [_, _, _, _], _ => rfl) | (match us, hl with | [_, _, _, _, _], _ => rfl) | (match us, hl with | [_, _, _, _, _, _], _ => rfl) | (match us, hl with | [_, _, _, _, _, _, _], _ => rfl) | (match us, hl with | [_, _, _, _, _, _, _, _], _ => rfl) | (match us, hl with | [_, _, _, _, _, _, _, _, _], _ => rfl)), True.intro⟩
    refine ⟨_, fd, metB_ok (bFirst c), ok_first N T cC FC bC F, F.binds (by intro _ _ _ _ _ _ us hl; first | (match us, hl with | [_], _ => rfl) | (match us, hl with | [_, _], _ => rfl) | (match us, hl with | [_, _, _], _ => rfl) | (match us, hl with | [_, _, _, _], _ => rfl) | (match us, hl with | [_, _, _, _, _], _ => rfl) | (match us, hl with | [_, _, _, _, _, _], _ => rfl) | (match us, hl with | [_, _, _, _, _, _, _], _ => rfl) | (match us, hl with | [_, _, _, _, _, _, _, _], _ => rfl) | (match us, hl with | [_, _, _, _, _, _, _, _, _], _ => rfl)), fun us ws => us ++ ws, kb_one F 1 ["times"] _ _ (fun r1 r2 => r1.append r2) fun kV doc pm an cdv ct us ws l1 l2 => ?_⟩
    match us, ws, l1, l2 with
    | [_], [_], _, _ => rfl
  · obtain ⟨fd, F⟩ := F_Earliest___getitem__ c
    exact ⟨_, fd, ok_itemE T (d_cmom X G c) F, mB_ok (bItem c), bItemF c, F.binds (by intro _ _ _ _ _ _ us hl; first | (match us, hl with | [_], _ => rfl) | (match us, hl with | [_, _], _ => rfl) | (match us, hl with | [_, _, _], _ => rfl) | (match us, hl with | [_, _, _, _], _ => rfl) | (match us, hl with | [_, _, _, _, _], _ => rfl) | (match us, hl with | [_, _, _, _, _, _], _ => rfl) | (match us, hl with | [_, _, _, _, _, _, _], _ => rfl) | (match us, hl with | [_, _, _, _, _, _, _, _], _ => rfl) | (match us, hl with | [_, _, _, _, _, _, _, _, _], _ => rfl))⟩
  · obtain ⟨fd, F⟩ := F_Term___call__ c
    exact ⟨_, fd, callB_ok (bCallT c), ok_call (termF_of c) (d_ctimes X G c) F, F.binds (by intro _ _ _ _ _ _ us hl; first | (match us, hl with | [_], _ => rfl) | (match us, hl with | [_, _], _ => rfl) | (match us, hl with | [_, _, _], _ => rfl) | (match us, hl with | [_, _, _, _], _ => rfl) | (match us, hl with | [_, _, _, _, _], _ => rfl) | (match us, hl with | [_, _, _, _, _, _], _ => rfl) | (match us, hl with | [_, _, _, _, _, _, _], _ => rfl) | (match us, hl with | [_, _, _, _, _, _, _, _], _ => rfl) | (match us, hl with | [_, _, _, _, _, _, _, _, _], _ => rfl))⟩
theorem law_of (X : K.In base) (G : base.Ns mainGlobals mg) (c : obsK K = val0) : ∃ fd, Fun K "law" "law" s_law (ga K "law") fd ∧ FnG P w K mg base lawLevel (ga K "law") fd ["_law_script"] (spLaw K) := by
  have N := nam_of X G c
  have U := topE_of (P := P) (w := w) X G c
  obtain ⟨_, F1⟩ := F__law_pot c
  obtain ⟨_, F2⟩ := F__law_draw c
  obtain ⟨_, F3⟩ := F__law_choice c
  obtain ⟨_, F4⟩ := F__law_names c
  obtain ⟨_, F5⟩ := F__law_number c
  obtain ⟨_, F6⟩ := F__law_value c
  obtain ⟨_, F7⟩ := F__law_told_right c
  obtain ⟨_, F8⟩ := F__law_moved_right c
  obtain ⟨_, F9⟩ := F__law_planted_right c
  obtain ⟨_, F10⟩ := F__law_right c
  obtain ⟨fd, F11⟩ := F_law c
  have D1 := def_mk (w := w) (base := base) F1 (g__law_pot X G c) (ok_pot (P := P) N F1) (by intro _ _ _ _ _ _ us hl; first | (match us, hl with | [_], _ => rfl) | (match us, hl with | [_, _], _ => rfl) | (match us, hl with | [_, _, _], _ => rfl) | (match us, hl with | [_, _, _, _], _ => rfl) | (match us, hl with | [_, _, _, _, _], _ => rfl) | (match us, hl with | [_, _, _, _, _, _], _ => rfl) | (match us, hl with | [_, _, _, _, _, _, _], _ => rfl) | (match us, hl with | [_, _, _, _, _, _, _, _], _ => rfl) | (match us, hl with | [_, _, _, _, _, _, _, _, _], _ => rfl))
  have D2 := def_mk (w := w) (base := base) F2 (g__law_draw X G c) (ok_draw (P := P) N F2) (by intro _ _ _ _ _ _ us hl; first | (match us, hl with | [_], _ => rfl) | (match us, hl with | [_, _], _ => rfl) | (match us, hl with | [_, _, _], _ => rfl) | (match us, hl with | [_, _, _, _], _ => rfl) | (match us, hl with | [_, _, _, _, _], _ => rfl) | (match us, hl with | [_, _, _, _, _, _], _ => rfl) | (match us, hl with | [_, _, _, _, _, _, _], _ => rfl) | (match us, hl with | [_, _, _, _, _, _, _, _], _ => rfl) | (match us, hl with | [_, _, _, _, _, _, _, _, _], _ => rfl))
  have D3 := def_mk (w := w) (base := base) F3 (g__law_choice X G c) (ok_choice (P := P) N D2 F3) (by intro _ _ _ _ _ _ us hl; first | (match us, hl with | [_], _ => rfl) | (match us, hl with | [_, _], _ => rfl) | (match us, hl with | [_, _, _], _ => rfl) | (match us, hl with | [_, _, _, _], _ => rfl) | (match us, hl with | [_, _, _, _, _], _ => rfl) | (match us, hl with | [_, _, _, _, _, _], _ => rfl) | (match us, hl with | [_, _, _, _, _, _, _], _ => rfl) | (match us, hl with | [_, _, _, _, _, _, _, _], _ => rfl) | (match us, hl with | [_, _, _, _, _, _, _, _, _], _ => rfl))
  have D4 := def_mk (w := w) (base := base) F4 (g__law_names X G c) (ok_names (P := P) N D3 F4) (by intro _ _ _ _ _ _ us hl; first | (match us, hl with | [_], _ => rfl) | (match us, hl with | [_, _], _ => rfl) | (match us, hl with | [_, _, _], _ => rfl) | (match us, hl with | [_, _, _, _], _ => rfl) | (match us, hl with | [_, _, _, _, _], _ => rfl) | (match us, hl with | [_, _, _, _, _, _], _ => rfl) | (match us, hl with | [_, _, _, _, _, _, _], _ => rfl) | (match us, hl with | [_, _, _, _, _, _, _, _], _ => rfl) | (match us, hl with | [_, _, _, _, _, _, _, _, _], _ => rfl))
  have D5 := def_mk (w := w) (base := base) F5 (g__law_number X G c) (ok_number (P := P) D2 F5) (by intro _ _ _ _ _ _ us hl; first | (match us, hl with | [_], _ => rfl) | (match us, hl with | [_, _], _ => rfl) | (match us, hl with | [_, _, _], _ => rfl) | (match us, hl with | [_, _, _, _], _ => rfl) | (match us, hl with | [_, _, _, _, _], _ => rfl) | (match us, hl with | [_, _, _, _, _, _], _ => rfl) | (match us, hl with | [_, _, _, _, _, _, _], _ => rfl) | (match us, hl with | [_, _, _, _, _, _, _, _], _ => rfl) | (match us, hl with | [_, _, _, _, _, _, _, _, _], _ => rfl))
  have D6 := def_mk (w := w) (base := base) F6 (g__law_value X G c) (ok_value (P := P) N F6) (by intro _ _ _ _ _ _ us hl; first | (match us, hl with | [_], _ => rfl) | (match us, hl with | [_, _], _ => rfl) | (match us, hl with | [_, _, _], _ => rfl) | (match us, hl with | [_, _, _, _], _ => rfl) | (match us, hl with | [_, _, _, _, _], _ => rfl) | (match us, hl with | [_, _, _, _, _, _], _ => rfl) | (match us, hl with | [_, _, _, _, _, _, _], _ => rfl) | (match us, hl with | [_, _, _, _, _, _, _, _], _ => rfl) | (match us, hl with | [_, _, _, _, _, _, _, _, _], _ => rfl))
  have D7 := defG_mk (w := w) (base := base) F7 (g__law_told_right X G c) (ok_told (P := P) N U D6 F7) (by intro _ _ _ _ _ _ us hl; first | (match us, hl with | [_], _ => rfl) | (match us, hl with | [_, _], _ => rfl) | (match us, hl with | [_, _, _], _ => rfl) | (match us, hl with | [_, _, _, _], _ => rfl) | (match us, hl with | [_, _, _, _, _], _ => rfl) | (match us, hl with | [_, _, _, _, _, _], _ => rfl) | (match us, hl with | [_, _, _, _, _, _, _], _ => rfl) | (match us, hl with | [_, _, _, _, _, _, _, _], _ => rfl) | (match us, hl with | [_, _, _, _, _, _, _, _, _], _ => rfl))
  have D8 := defG_mk (w := w) (base := base) F8 (g__law_moved_right X G c) (ok_movR (P := P) N U D6 F8) (by intro _ _ _ _ _ _ us hl; first | (match us, hl with | [_], _ => rfl) | (match us, hl with | [_, _], _ => rfl) | (match us, hl with | [_, _, _], _ => rfl) | (match us, hl with | [_, _, _, _], _ => rfl) | (match us, hl with | [_, _, _, _, _], _ => rfl) | (match us, hl with | [_, _, _, _, _, _], _ => rfl) | (match us, hl with | [_, _, _, _, _, _, _], _ => rfl) | (match us, hl with | [_, _, _, _, _, _, _, _], _ => rfl) | (match us, hl with | [_, _, _, _, _, _, _, _, _], _ => rfl))
  have D9 := defG_mk (w := w) (base := base) F9 (g__law_planted_right X G c) (ok_plan (P := P) N U D2 D3 F9) (by intro _ _ _ _ _ _ us hl; first | (match us, hl with | [_], _ => rfl) | (match us, hl with | [_, _], _ => rfl) | (match us, hl with | [_, _, _], _ => rfl) | (match us, hl with | [_, _, _, _], _ => rfl) | (match us, hl with | [_, _, _, _, _], _ => rfl) | (match us, hl with | [_, _, _, _, _, _], _ => rfl) | (match us, hl with | [_, _, _, _, _, _, _], _ => rfl) | (match us, hl with | [_, _, _, _, _, _, _, _], _ => rfl) | (match us, hl with | [_, _, _, _, _, _, _, _, _], _ => rfl))
  have D10 := defG_mk (w := w) (base := base) F10 (g__law_right X G c) (ok_right (P := P) N U D2 D4 D5 D7 D8 D9 F10) (by intro _ _ _ _ _ _ us hl; first | (match us, hl with | [_], _ => rfl) | (match us, hl with | [_, _], _ => rfl) | (match us, hl with | [_, _, _], _ => rfl) | (match us, hl with | [_, _, _, _], _ => rfl) | (match us, hl with | [_, _, _, _, _], _ => rfl) | (match us, hl with | [_, _, _, _, _, _], _ => rfl) | (match us, hl with | [_, _, _, _, _, _, _], _ => rfl) | (match us, hl with | [_, _, _, _, _, _, _, _], _ => rfl) | (match us, hl with | [_, _, _, _, _, _, _, _, _], _ => rfl))
  exact ⟨fd, F11, ok_law N D1 D10 F11⟩
theorem binds_law {f : Addr} {fd : FuncData} (F : Fun K "law" "law" s_law f fd) (s : Shared) (u : Value) : BindsTo s fd ⟨[u], []⟩ [("_law_script", u)] := by
  obtain ⟨oc, od, kV, doc, pm, an, cdv, ct, osl, rfl, _⟩ := F.ex
  exact BindsTo.of_eq rfl
end
end E10

set_option Elab.async false
set_option linter.all false
set_option maxRecDepth 100000
set_option maxHeartbeats 4000000
open PySem PySem.W PySem.Calls PyProof.Rows
theorem PySem.Challenge.cw_anyofthese_k14_whole_values_and_first_holds : PySem.Challenge.rw_anyofthese_k14_whole_values_and_first.Holds := by
  w_on; o_law
  refine HandSHeadRun.head_any (r := E10.R) (q := E10.qv) (H := E10.hook) (ob := E10.ob) (M := 60000) (loose := E10.names) (d := HandSHeadRun.topDef E10.R.prog E10.iLaw) (kwd := []) E10.ob_eq
    (by kernel_rfl) (fun s => by kernel_rfl) E10.run (by kernel_rfl) (by kernel_rfl) (by kernel_rfl) (by rfl) (by first | assumption | decide +kernel) (by decide +kernel) ⟨rfl, rfl, rfl, rfl, rfl, by decide +kernel⟩ ?hw ?hc
  case hw => w_witness2
  case hc =>
    refine E10.walkG (l := PySem.Challenge.rw_anyofthese_k14_whole_values_and_first) (n := 63) (k := E10.lawLevel) (y := "_law_script") rfl (by decide) (by kernel_rfl) ⟨rfl, by decide, by decide⟩ ?F
    intro w mg f h Y G g
    obtain ⟨K, X, c⟩ := Y
    have g2 : mg ("law" : PySem.Str) = some (.ref f) := by
      have e : (HandSHeadRun.topDef E10.R.prog E10.iLaw).name = ("law" : PySem.Str) := by kernel_rfl
      rw [← e]
      exact g
    have g3 : mg ("law" : PySem.Str) = some (.ref (He.ga K "law")) := E10.g_law X G c
    have ef : f = He.ga K "law" := by
      have z := g2.symm.trans g3
      simpa using z
    subst ef
    obtain ⟨fd, F, _⟩ := E10.law_of (P := (PySem.Challenge.rw_anyofthese_k14_whole_values_and_first).prog) (w := w) X G c
    refine ⟨K, fd, E10.spLaw K, X, E10.binds_law F, fun H a ns hl hS => ⟨a, ns, rfl, hS, hl, fun _ => rfl⟩, fun base X2 G2 => ?_⟩
    obtain ⟨fd2, F2, L⟩ := E10.law_of (P := (PySem.Challenge.rw_anyofthese_k14_whole_values_and_first).prog) (w := w) X2 G2 c
    rw [E10.one_fd F F2] at L
    exact L

