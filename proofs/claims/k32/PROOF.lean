import PyProof.Rows.All
import Wide.All
import OpenK.AllK
import Wide.FinOn
import PyProof.InstEq
import KE.KOpsOwn
import HandS.Base
import HandS.Call
import HandS.List
import HandS.Words
import HandS.IsInst
import HandS.Defaults
import HandS.MakeKw
import HandS.Star
import HandS.FStr
import PyProof.Rows.StrIntSpec
import HandS.Dict
import HandS.DeepEq
import KE.KSortTup
import KE.KSortTupAny
import HandS.SortRule
import HandS.DictComp
import PyProof.TupleCall
import PyProof.Rows.Range3
import KE.KDictSum
import KE.KDictList
import OpenK.KOps
import HandS.ClsMeth
import PyProof.DictKinds
import PyProof.DictUpdate
import HandS.Iter
import HandS.Walk
import KE.KExcInit
import KE.KExcIs
import KE.KIsAll
import HandS.ForMost
import HandS.Exc
import HandS.ExcInit
import HandS.ExcIs
import HandS.WordsExc
import HandS.ExcField
import HandS.ExcOwn
import HandS.Comp
import HandS.Flow
import HandS.Ends
import HandS.Text
import HandS.WordsDict
import PyProof.Rows.SortStr
import PyProof.Rows.StrMeet
import HandS.Property
import HandS.RaiseMore
import HandS.Style
import PyProof.P3Eq
import HandS.NoneIn
import HandS.HeadHook2
import HandS.HeadNt
import KE.KStateDown
import HandS.Head0
import HandS.Head1
import HandS.Head2
import PySem.Challenge.RW_anyofthese_k32_whole_earlier_and_later
set_option Elab.async false
set_option linter.all false
set_option maxRecDepth 100000
set_option maxHeartbeats 4000000
/-! Defs and methods called where no text of a container is being made; own operators. -/
namespace E10
open L2 PySem PySem.Spec PyProof.Rows
structure FnG (P : Program) (w : World) (K : PySem.W.Frag) (mg : Str → Option Value) (base : Heap) (k : Nat) (f : Addr) (fd : FuncData) (ps : List Str) (sp : Sp) : Prop where
  few : ∀ {vs H Q E}, sp vs H Q E → vs.length = ps.length
  goes : ∀ {A : Around} {fr : List Env} {s : Shared} {H : Hp} {ar : Args} {us : List Value} {vs : List V} {Q : VK} {E : XK}, A.guards = some [] → Room k A → Env0 P w K mg base A fr s H → BindsTo s fd ar (ps.zip us) → Vals vs us → sp vs H Q E →
    codeAny (model P w) A (.call (.ref f) ar) (CR CX0 fr P w H s Q E) s
section
variable {P : Program} {w : World} {K : PySem.W.Frag} {mg : Str → Option Value} {base : Heap} {k : Nat} {f : Addr} {fd : FuncData} {ps N : List Str} {sp : Sp}
theorem FnG.of (F : FnOk P w K mg base CX0 k f fd ps sp) : FnG P w K mg base k f fd ps sp :=
  ⟨fun {vs H Q E} h => F.len vs H Q E h, fun {A fr s H ar us vs Q E} _ room env b v h => F.run A fr s H ar us vs Q E room env b v h⟩
theorem FnG.mono {j : Nat} (F : FnG P w K mg base j f fd ps sp) (h : j ≤ k) : FnG P w K mg base k f fd ps sp :=
  ⟨F.few, fun {A fr s H ar us vs Q E} g room env b v q => F.goes g (room.mono h) env b v q⟩
theorem Fun.okG {x qual : Str} {st : Stmt} (F : Fun K x qual st f fd) (S : FnScope N ps (defScope st)) (few : ∀ {vs H Q E}, sp vs H Q E → vs.length = ps.length)
    (body : ∀ (cdv : Value) (A : Around) (fr : List Env) (s : Shared) (H : Hp) (vs : List V) (Q : VK) (E : XK), A.guards = some [] → Room k (A.deeper (envOfC qual (defScope st) s.heap.objs.size f cdv)) → sp vs H Q E →
      ∃ t, PSs (cxOf CX0 P w K mg base N qual (defScope st) f cdv A fr s H E).nox (defBody st) t ∧ t { nx := fun _ H' => Q .non H', rt := Q } (start N vs) H) : FnG P w K mg base (k + 1) f fd ps sp := by
  obtain ⟨oc, od, kV, doc, pm, an, cdv, ct, osl, rfl, lk, code⟩ := F.ex
  refine ⟨few, fun {A fr s H ar us vs Q E} hG room env bind val want => ?_⟩
  have inK : K.In s.heap := env.mod.kin.keeps fun c o e => (env.bs c o e).1
  refine codeAny_call_function room.depth (inK _ _ lk) rfl S.co S.gen rfl (PySem.W.codeRec_of inK code) (bind _ _ _ _ ?_)
  refine wpAny_newFunctionEnv_cells S.kind (fun ⟨n, v⟩ hy => (S.par n (List.of_mem_zip hy).1).elim .inl fun q => .inr ⟨q, PySem.W.cellsFrom_some _ _ _ (.inl q)⟩) fun own same s1 x => ?_
  subst same
  obtain ⟨t, T, wish⟩ := body cdv A fr s H vs Q E hG (room.deeper _) want
  have begun : Inv (cxOf CX0 P w K mg base N qual (defScope st) f cdv A fr s H E) [] (start N vs) H s1 := inv_start S room.hd env (few want) val x
  refine ⟨(env.mod.nolimit.keeps fun c o e => (env.bs c o e).1).keeps x.toInCall.keep, codeAny_func (wpAny_mono (T.nox.run [] s1 _ H _ begun wish) (fun fl s2 ends => ?_) fun _ _ z => z)⟩
  match fl, ends with
  | .ret _, ⟨v, _, H2, J, rv, q⟩ => exact ⟨v, H2, J.os, J.bare, J.base, J.hok, rv, q⟩
  | .next, ⟨_, H2, J, q⟩ => exact ⟨V.non, H2, J.os, J.bare, J.base, J.hok, rfl, q⟩
  | .brk, ⟨_, _, _, q⟩ => exact q.elim
  | .cont, ⟨_, _, _, q⟩ => exact q.elim
end
/-- the own class C has the def f under the name n -/
structure Has (K : PySem.W.Frag) (C f : Addr) (n : Str) : Prop where
  at_ : PySem.W.findIn K (.ref C) n = some (some (.ref f))
  fn : PySem.W.isFn K (.ref f) = true
section
variable {X : Cx} {A : Around} {E' : Value → Shared → Prop} {pins : List (Addr × Obj)} {σ : L2.St} {H : Hp} {s : Shared} {Q : VK} {us : List Value} {vs : List V} {k : Nat} {f C : Addr} {fd : FuncData} {ps : List Str} {sp : Sp}
theorem run_at (F : FnG X.prog X.w X.K X.mg X.base k f fd ps sp) (fr : A.frames = X.A.frames) (hG : A.guards = some []) (room : Room k A) (bi : Binds X.K fd ps []) (I : Inv X pins σ H s) (r : Vals vs us) (q : sp vs H Q E0) :
    wpAny (model X.prog X.w) A (call (.ref f) us) (EP X pins σ Q) E' s := by
  have n1 : us.length = ps.length := r.length.symm.trans (F.few q)
  have e0 : Env0 X.prog X.w X.K X.mg X.base A X.stack s H := by
    have e := I.env0
    exact ⟨by rw [fr]; exact e.frames, e.mod, e.bs, e.bsz, e.funs, e.frf, e.hok, e.bare⟩
  refine wpAny_call (codeAny_mono (F.goes (ar := ⟨us, []⟩) hG room e0 (by
    have := bi s us I.kIn (by simpa using n1)
    simpa using this) r q) fun res s2 ends => ?_)
  match res, ends with
  | .error _, z => exact z.elim
  | .ok (.ret _), z => exact I.after z
  | .ok .next, z => exact z.elim
  | .ok .brk, z => exact z.elim
  | .ok .cont, z => exact z.elim
theorem cmpBack {u : Value} {s' : Shared} (h : EP X pins σ Q u s') : PySem.W.CmpBack (EP X pins σ Q) u s' := by
  obtain ⟨v, H', I, r, q⟩ := h
  cases u <;> first | exact ⟨v, H', I, r, q⟩ | (cases v <;> first | (obtain ⟨_, e⟩ := r; cases e) | cases r)
/-- a op n: an own object and an int -/
def rOwnI (C : Addr) (sp : Sp) : R2 := fun x y H Q => ∃ (a dx : Addr) (fs : List (Str × V)) (i : Int), x = .ref a ∧ y = .int i ∧ H a = some (.ins C dx fs) ∧ sp [.ref a, .int i] H Q E0
theorem op_ownI {op : Operator} {fo ro rc : Option Value} (F : FnG X.prog X.w X.K X.mg X.base k f fd ps sp) (hG : X.A.guards = some []) (room : Room k X.A) (bi : Binds X.K fd ps []) (hc : PySem.W.selfFirst X.K C = true) (h : Has X.K C f (PySem.dunder op.info.2))
    (hr : PySem.W.findIn X.K (.ref C) (dunderR op.info.2) = some rc) (hp : rc = none ∨ ∃ g : Addr, rc = some (.ref g)) (h1 : PySem.W.findIn X.K (.type "int") (PySem.dunder op.info.2) = some fo) (h2 : PySem.W.findIn X.K (.type "int") (dunderR op.info.2) = some ro)
    (hsub : PySem.W.subIn X.K (.type "int") (.ref C) = some false) : OpR X (binaryOp op) (rOwnI C sp) := by
  intro pins s σ H x y v u Q I rx ry h0
  obtain ⟨a, dx, fs, i, rfl, rfl, ha, q⟩ := h0
  cases (show v = Value.ref a from rx)
  obtain ⟨t, rfl⟩ := (show ∃ t, u = Value.int i t from ry)
  obtain ⟨mA, O, _⟩ := ins_get I.hok ha
  obtain ⟨od, J, _⟩ := O.look
  obtain ⟨m, hF⟩ := I.fr
  refine PySem.W.ksp_binT (T := "int") hF I.ok.mod.kin J rfl hc h.at_ h.fn hr hp h1 h2 hsub ?_
  exact wpAny_mono (run_at (vs := [.ref a, .int i]) F rfl hG room bi I (.cons rfl (.cons ⟨t, rfl⟩ .nil)) q) (fun _ _ z => cmpBack z) fun _ _ z => z
end
end E10

set_option Elab.async false
set_option linter.all false
set_option maxRecDepth 100000
set_option maxHeartbeats 4000000
namespace E10
open L2 PySem PySem.Spec PyProof.Rows
open AutoSeq1 (wpAny_loadPart')
section
variable {prog : Program} {w : World} {A : Around} {E : Value → Shared → Prop} {s : Shared}
theorem try_int_add {i : Int} {t : Tok} {a : Addr} {ox : Obj} {Q : Option Value → Shared → Prop} (hx : s.heap.get? a = some ox) (pl : ox.data = .plain) (q : Q none s) : wpAny (model prog w) A (tryMethod (.int i t) (PySem.dunder "add") (.ref a)) Q E s := by
  unfold tryMethod
  refine wpAny_bind (wpAny_callSpecial?_slot (typeIs_int s i t) F.slot_int_add (wpAny_call (codeAny_call_builtin F.slot_int_add.plain F.entry_int_add (F.slot_int_add.check _ _ _ _ _ _ _ _ (typeIs_int s i t) (F.args_int_add_2 _ _) ?_))))
  obtain ⟨c, d, dt, sl⟩ := ox
  obtain rfl : dt = .plain := pl
  obtain ⟨hp, g, dr, tk, os⟩ := s
  have hx' : hp.get? a = some ⟨c, d, .plain, sl⟩ := hx
  wp_walk using wpAny_loadPart' hx'
  all_goals first | exact wpAny_pure q | exact q | skip
end
end E10

set_option Elab.async false
set_option linter.all false
set_option maxRecDepth 100000
set_option maxHeartbeats 4000000
namespace E10
open L2 PySem PySem.Spec PyProof.Rows
section
variable {X : Cx} {k : Nat} {f fr C : Addr} {fd : FuncData} {ps : List Str} {sp : Sp}
/-- n + a: an int and an own object -/
def rIOwn (C : Addr) (sp : Sp) : R2 := fun x y H Q => ∃ (a dx : Addr) (fs : List (Str × V)) (i : Int), x = .int i ∧ y = .ref a ∧ H a = some (.ins C dx fs) ∧ sp [.ref a, .int i] H Q E0
theorem op_iown {fo ro : Option Value} (F : FnG X.prog X.w X.K X.mg X.base k f fd ps sp) (hG : X.A.guards = some []) (room : Room k X.A) (bi : Binds X.K fd ps []) (hc : PySem.W.selfFirst X.K C = true) (ha : PySem.W.findIn X.K (.ref C) (PySem.dunder "add") = some (some (.ref fr))) (h : Has X.K C f (dunderR "add"))
    (h1 : PySem.W.findIn X.K (.type "int") (PySem.dunder "add") = some fo) (h2 : PySem.W.findIn X.K (.type "int") (dunderR "add") = some ro) (h3 : ((fo.isSome && !isSeqSlot fo) || (ro.isSome && !isSeqSlot ro)) = true)
    (hsub : PySem.W.subIn X.K (.ref C) (.type "int") = some false) : OpR X (binaryOp .Add) (rIOwn C sp) := by
  intro pins s σ H x y v u Q I rx ry h0
  obtain ⟨a, dx, fs, i, rfl, rfl, ea, q⟩ := h0
  cases (show u = Value.ref a from ry)
  obtain ⟨t, rfl⟩ := (show ∃ t, v = Value.int i t from rx)
  obtain ⟨mA, O, _⟩ := ins_get I.hok ea
  obtain ⟨od, J, _⟩ := O.look
  obtain ⟨m, hF⟩ := I.fr
  have KX := I.ok.mod.kin.keeps hF.keep
  obtain ⟨cd, rest, hcd, hm⟩ := PySem.W.ksp_first hc
  have two := PySem.W.ksp_try (E := X.xe) (b := .int i t) KX J h.at_ h.fn (wpAny_mono (run_at (vs := [.ref a, .int i]) F rfl hG room bi I (.cons rfl (.cons ⟨t, rfl⟩ .nil)) q) (fun _ _ z => cmpBack z) fun _ _ z => z)
  have J0 := J
  obtain ⟨hx, hcl, hdt, _⟩ := J0
  obtain ⟨hh, g, d, tt, os⟩ := s
  have one : ∀ {Q : Option Value → Shared → Prop}, Q none ⟨hh, g, d, tt, os⟩ → wpAny (model X.prog X.w) X.A (tryMethod (.int i t) (PySem.dunder "add") (.ref a)) Q X.xe ⟨hh, g, d, tt, os⟩ := fun q => try_int_add hx rfl q
  have L1 : PySem.W.Looks (model X.prog X.w) hh (typeOf (.int i t)) (.type "int") := PySem.W.Looks.of_pure rfl
  have L2 : PySem.W.Looks (model X.prog X.w) hh (typeOf (.ref a)) (.ref C) := J.type
  have L3 : PySem.W.Looks (model X.prog X.w) hh (fillsNumberSlot (.type "int") "add") true := by
    have z := PySem.W.ksp_fillsT (M := model X.prog X.w) (nm := "add") KX h1 h2
    rw [h3] at z
    exact z
  have L4 : PySem.W.Looks (model X.prog X.w) hh (fillsNumberSlot (.ref C) "add") true := PySem.W.fills_K KX hcd hm ha
  have L5 : PySem.W.Looks (model X.prog X.w) hh (isSubtype (.ref C) (.type "int")) false := PySem.W.looks_subIn KX hsub
  have L6 : PySem.W.Looks (model X.prog X.w) hh (numberSlotInPython (.type "int") "add") false := PySem.W.Looks.of_pure rfl
  have hne : (Value.type "int" == Value.ref C) = false := Bool.eq_false_iff.mpr fun q => by cases beq_iff_eq.mp q
  have hi : Operator.info .Add = ("+", "add") := rfl
  simp only [binaryOp, hi]
  refine wpAny_holding (wpAny_bind ?_)
  unfold binaryOp1
  refine wpAny_bind (L1.at (wpAny_bind (L2.at (wpAny_bind (L3.at ?_)))))
  simp only [hne, Bool.false_eq_true, if_false]
  repeat ((fail_if_success (with_reducible show wpAny _ _ (tryMethod _ _ _) _ _ _)); lk)
  refine one ?_
  repeat ((fail_if_success (with_reducible show wpAny _ _ (tryMethod _ _ _) _ _ _)); lk)
  refine wpAny_mono two (fun r s' hr' => ?_) fun _ _ e => e
  obtain ⟨v, rfl, hq⟩ := hr'
  repeat ((fail_if_success (with_reducible show wpAny _ _ (tryMethod _ _ _) _ _ _)); lk)
  exact hq
end
end E10

set_option Elab.async false
set_option linter.all false
set_option maxRecDepth 100000
set_option maxHeartbeats 4000000
namespace E10
open L2 PySem PySem.Spec PyProof.Rows
section
variable {X : Cx} {A : Around} {k : Nat} {f C : Addr} {fd : FuncData} {ps : List Str} {sp : Sp}
theorem cmp_at {op : CmpOp} {pins : List (Addr × Obj)} {σ : L2.St} {H : Hp} {s : Shared} {Q : VK} {E' : Value → Shared → Prop} {a dx : Addr} {fs : List (Str × V)} {y : V} {u tb : Value} (F : FnG X.prog X.w X.K X.mg X.base k f fd ps sp) (fr : A.frames = X.A.frames) (hG : A.guards = some []) (room : Room k A) (hu : A.units < cLine)
    (bi : Binds X.K fd ps []) (h : Has X.K C f (cmpInfo op).2.1) (I : Inv X pins σ H s) (ry : RelV y u) (ha : H a = some (.ins C dx fs)) (ty : TyX X.K H y tb) (nf : PySem.W.notFirst X.K C tb = true) (q : sp [.ref a, y] H Q E0) :
    wpAny (model X.prog X.w) A (richCompare op (.ref a) u) (EP X pins σ Q) E' s := by
  obtain ⟨mA, O, _⟩ := ins_get I.hok ha
  obtain ⟨od, J, _⟩ := O.look
  obtain ⟨m, hF⟩ := I.fr
  obtain ⟨P, Z, p, _⟩ := kit_of I ry ty
  refine PySem.W.cmp_K (op := op) (tb := tb) hu hF I.ok.mod.kin J (Z.ty _ _ I.kIn p) nf h.at_ h.fn ?_
  exact wpAny_mono (run_at (vs := [.ref a, y]) F fr hG room bi I (.cons rfl (.cons ry .nil)) q) (fun _ _ z => cmpBack z) fun _ _ z => z
/-- a == y: an own object with an own __eq__, and anything -/
def rEqO (K : PySem.W.Frag) (C : Addr) (sp : Sp) : R2 := fun x y H Q => ∃ (a dx : Addr) (fs : List (Str × V)) (tb : Value), x = .ref a ∧ H a = some (.ins C dx fs) ∧ TyX K H y tb ∧ PySem.W.notFirst K C tb = true ∧ sp [.ref a, y] H Q E0
theorem op_eqO (F : FnG X.prog X.w X.K X.mg X.base k f fd ps sp) (hG : X.A.guards = some []) (room : Room k X.A) (hu : X.A.units < cLine) (bi : Binds X.K fd ps []) (h : Has X.K C f "__eq__") : OpR X (compareOp .Eq) (rEqO X.K C sp) := by
  intro pins s σ H x y v u Q I rx ry h0
  obtain ⟨a, dx, fs, tb, rfl, ha, ty, nf, q⟩ := h0
  cases (show v = Value.ref a from rx)
  exact cmp_at (op := .Eq) F rfl hG room hu bi h I ry ha ty nf q
/-- what an own class has that != goes by its own __eq__ -/
structure NeBy (K : PySem.W.Frag) (C : Addr) : Prop where
  at_ : PySem.W.findIn K (.ref C) "__ne__" = some (some (.builtin "object.__ne__"))
  mro : PySem.W.mroIn K C (.type "object") = some true
  sub : PySem.W.subIn K (.ref C) (.type "object") = some true
/-- a != y -/
def rNeO (K : PySem.W.Frag) (C : Addr) (sp : Sp) : R2 := fun x y H Q => ∃ (a dx : Addr) (fs : List (Str × V)) (tb : Value), x = .ref a ∧ H a = some (.ins C dx fs) ∧ TyX K H y tb ∧ PySem.W.notFirst K C tb = true ∧ sp [.ref a, y] H (fun v H' => ∃ b, v = .bl b ∧ Q (.bl (!b)) H') E0
theorem bind_one : bindSpecial (.builtin "object.__ne__") = fun self => pure (.builtin "object.__ne__", [self]) := funext fun self => PySem.F.cmp_object.ne.bind self
theorem op_neO (F : FnG X.prog X.w X.K X.mg X.base k f fd ps sp) (hG : X.A.guards = some []) (room : Room (k + 1) X.A) (hu : X.A.units + 1 < cLine) (bi : Binds X.K fd ps []) (h : Has X.K C f "__eq__") (n : NeBy X.K C) : OpR X (compareOp .NotEq) (rNeO X.K C sp) := by
  intro pins s σ H x y v u Q I rx ry h0
  obtain ⟨a, dx, fs, tb, rfl, ha, ty, nf, q⟩ := h0
  cases (show v = Value.ref a from rx)
  obtain ⟨mA, O, _⟩ := ins_get I.hok ha
  obtain ⟨od, J, _⟩ := O.look
  have KX := I.kIn
  obtain ⟨P, Z, p, _⟩ := kit_of I ry ty
  have hb := Z.ty (model X.prog X.w) _ I.kIn p
  have inner : wpAny (model X.prog X.w) X.A.in1 (call (.ref f) [.ref a, u]) (EP X pins σ fun v H' => ∃ b, v = .bl b ∧ Q (.bl (!b)) H') X.xe s :=
    run_at (vs := [.ref a, y]) F rfl hG room.in1 bi I (.cons rfl (.cons ry .nil)) q
  have body : ∀ {R : Result → Shared → Prop}, (∀ r s', EP X pins σ Q r s' → R (.ok (.ret r)) s') → (∀ e s', X.xe e s' → R (.error e) s') →
      wpAny (model X.prog X.w) X.A.in1 (Builtin.«object.__ne__» ⟨[.ref a, u], []⟩) (fun fin s' => match fin with | .done f => R (.ok f) s' | .again c' => c'.quiet = true ∧ codeAny (model X.prog X.w) X.A c' R s') (fun e s' => R (.error e) s') s := fun {R} hR hE => by
    unfold Builtin.«object.__ne__»
    repeat (first
      | with_reducible refine wpAny_cRoomFor (show X.A.in1.units < cLine from hu) ?_
      | (refine wpAny_bind (m := callSpecialIfBound? (.ref a) (Str.ofString "__eq__") [u]) (PySem.W.ifBound_K KX J h.at_ h.fn (wpAny_mono inner (fun r s' hr => by
          obtain ⟨v', H', I', rv, b, rfl, q'⟩ := hr
          cases (show r = Value.bool b from rv)
          repeat (first | exact hR _ _ ⟨.bl (!b), H', I', rfl, q'⟩ | exact wpAny_pure (hR _ _ ⟨.bl (!b), H', I', rfl, q'⟩) | (refine wpAny_bind (m := truthy (.bool _)) (wpAny_truthy_bool ?_)) | wp_step)) hE)))
      | wp_step)
  have chk : ∀ {Q' : Unit → Shared → Prop} {E' : Value → Shared → Prop}, Q' () s → wpAny (model X.prog X.w) X.A.in1 (checkBuiltinCall "object.__ne__" ⟨[.ref a, u], []⟩) Q' E' s := fun {Q' E'} q' => by
    simp only [checkBuiltinCall, PySem.F.cmpKind_ne, PySem.F.cmpSplit_ne]
    refine wpAny_bind ?_
    unfold isInstance
    refine wpAny_bind (J.type.here ((PySem.W.looks_subIn KX n.sub).here ?_))
    have ha := PySem.F.cmpArgs_ne (.ref a) u
    cases hsig : Manifest.signature? "object.__ne__" with
    | none => exact wpAny_pure q'
    | some sig =>
      simp only [argsOk, hsig] at ha
      have h2 : Bind.checkArgs "object.__ne__" sig ⟨[.ref a, u], []⟩ = pure () := ha
      show wpAny _ _ (Bind.checkArgs "object.__ne__" sig ⟨[.ref a, u], []⟩) Q' _ _
      rw [h2]
      exact wpAny_pure q'
  have called : wpAny (model X.prog X.w) X.A (call (.builtin "object.__ne__") [.ref a, u]) (EP X pins σ Q) X.xe s :=
    wpAny_call (codeAny_call_builtin PySem.F.cmp_object.ne.plain PySem.F.cmpEntry_ne (chk (body (R := fun r s' => match r with | .ok (.ret v) => EP X pins σ Q v s' | .ok _ => False | .error e => X.xe e s') (fun _ _ z => z) fun _ _ z => z)))
  have once : wpAny (model X.prog X.w) X.A (callSpecialIfBound? (.ref a) "__ne__" [u]) (fun r s' => ∃ v, r = some v ∧ EP X pins σ Q v s') X.xe s := by
    simp only [callSpecialIfBound?, bindSpecialIfBound?]
    refine wpAny_holding (wpAny_bind (wpAny_bind (wpAny_bind (J.type.here ((PySem.W.looks_findIn KX n.at_).here ?_)))))
    refine wpAny_bind (wpAny_askSetting (wpAny_ite ?_))
    simp only [PySem.F.cmp_object.ne.bind]
    have fin : wpAny (model X.prog X.w) X.A (call (.builtin "object.__ne__") ([.ref a] ++ [u]) >>= fun v => pure (some v)) (fun r s' => ∃ v, r = some v ∧ EP X pins σ Q v s') X.xe s :=
      wpAny_bind (wpAny_mono called (fun v s' h' => wpAny_pure ⟨v, rfl, h'⟩) fun _ _ h' => h')
    split
    · exact wpAny_bind (wpAny_pure (wpAny_pure fin))
    · exact wpAny_tryCatch (wpAny_bind (wpAny_pure (wpAny_pure fin)))
  have one : wpAny (model X.prog X.w) X.A (tryCompare (.ref a) "__ne__" u) (fun r s' => ∃ v, r = some v ∧ EP X pins σ Q v s') X.xe s := by
    unfold tryCompare
    refine wpAny_bind (wpAny_mono once (fun r s' z => ?_) fun _ _ e => e)
    obtain ⟨v, rfl, z⟩ := z
    have z' := cmpBack z
    cases v <;> first | exact z'.elim | exact wpAny_pure ⟨_, rfl, z⟩
  show wpAny _ _ (richCompare .NotEq (.ref a) u) _ _ _
  unfold richCompare
  simp only [oneThing_ref]
  refine wpAny_holding (wpAny_bind (wpAny_cRoomFor (Nat.lt_of_succ_lt hu) ?_))
  rw [cmpInfo_NotEq]
  dsimp only
  refine wpAny_bind (J.type.here (wpAny_bind (hb.here ?_)))
  split
  · rename_i z
    have e : PySem.W.subIn X.K tb (.ref C) = some false := by
      rcases Bool.or_eq_true_iff.mp nf with e | e
      · rw [beq_iff_eq.mp e] at z; simp at z
      · exact beq_iff_eq.mp e
    refine wpAny_bind ((PySem.W.looks_subIn KX e).here ?_)
    simp only [Bool.false_eq_true, if_false]
    refine wpAny_bind (wpAny_mono one (fun r s' z => ?_) fun _ _ e => e)
    obtain ⟨v, rfl, hq⟩ := z
    exact wpAny_pure hq
  · refine wpAny_bind (wpAny_pure ?_)
    simp only [Bool.false_eq_true, if_false]
    refine wpAny_bind (wpAny_mono one (fun r s' z => ?_) fun _ _ e => e)
    obtain ⟨v, rfl, hq⟩ := z
    exact wpAny_pure hq
end
end E10

set_option Elab.async false
set_option linter.all false
set_option maxRecDepth 100000
set_option maxHeartbeats 4000000
namespace E10
open L2 PySem PySem.Spec PyProof.Rows
section
variable {X : Cx} {k n : Nat} {f C : Addr} {fd : FuncData} {ps : List Str} {sp : Sp}
/-- repr(a), str(a): an own object by its own def -/
def rTextO (C : Addr) (sp : Sp) : List V → Hp → VK → Prop := fun xs H Q => ∃ (a dx : Addr) (fs : List (Str × V)), xs = [.ref a] ∧ H a = some (.ins C dx fs) ∧ sp [.ref a] H (fun v H' => ∃ z, v = .str z ∧ Q (.str z) H') E0
theorem strBack {pins : List (Addr × Obj)} {σ : L2.St} {Q : VK} {u : Value} {s' : Shared} (h : EP X pins σ (fun v H' => ∃ z, v = .str z ∧ Q (.str z) H') u s') : PySem.W.StrBack (EP X pins σ Q) u s' := by
  obtain ⟨v, H', I, r, z, rfl, q⟩ := h
  obtain ⟨t, rfl⟩ := (show ∃ t, u = Value.str z t from r)
  exact ⟨.str z, H', I, ⟨t, rfl⟩, q⟩
theorem call_reprO (F : FnG X.prog X.w X.K X.mg X.base k f fd ps sp) (hG : X.A.guards = some []) (room : Room (k + 1) X.A) (hu : X.A.units + 1 < cLine) (bi : Binds X.K fd ps []) (h : Has X.K C f "__repr__") : CallR X (.builtin "repr") (rTextO C sp) := by
  intro pins s σ H xs us Q I r h0
  obtain ⟨a, dx, fs, rfl, ha, q⟩ := h0
  obtain ⟨u, rfl, ru⟩ := vals1 r
  cases (show u = Value.ref a from ru)
  obtain ⟨mA, O, _⟩ := ins_get I.hok ha
  obtain ⟨od, J, _⟩ := O.look
  obtain ⟨m, hF⟩ := I.fr
  refine PySem.W.repr_K (show X.A.in1.units < cLine from hu) hF I.ok.mod.kin J h.at_ h.fn ?_
  exact wpAny_mono (run_at (vs := [.ref a]) F rfl hG room.in1 bi I (.cons rfl .nil) q) (fun _ _ z => strBack z) fun _ _ z => z
theorem call_strO (F : FnG X.prog X.w X.K X.mg X.base k f fd ps sp) (hG : X.A.guards = some []) (room : Room (k + 2) X.A) (hu : X.A.units + 2 < cLine) (bi : Binds X.K fd ps []) (h : Has X.K C f "__str__") : CallR X (.type "str") (rTextO C sp) := by
  intro pins s σ H xs us Q I r h0
  obtain ⟨a, dx, fs, rfl, ha, q⟩ := h0
  obtain ⟨u, rfl, ru⟩ := vals1 r
  cases (show u = Value.ref a from ru)
  obtain ⟨mA, O, _⟩ := ins_get I.hok ha
  obtain ⟨od, J, _⟩ := O.look
  refine PySem.W.kso_call (show X.A.in1.in1.units < cLine from hu) I.kIn J h.at_ h.fn ?_
  exact wpAny_mono (run_at (vs := [.ref a]) F rfl hG (Room.in1 (Room.in1 room)) bi I (.cons rfl .nil) q) (fun _ _ z => strBack z) fun _ _ z => z
/-- f(e, ..) of a def that is called where no text of a container is being made -/
theorem pe_callG {x : Str} {e : Expr} {es : List Expr} {t : TA} {p pos : Pos} (F : FnG X.prog X.w X.K X.mg X.base k f fd ps sp) (hG : X.A.guards = some []) (room : Room k X.A) (g : Gl X x) (m : X.mg x = some (.ref f)) (kp : PySem.W.keepIn X.K (.ref f) = true)
    (bi : Binds X.K fd ps []) (ha : PA X (e :: es) t) (hdb : (x == ("__debug__" : Str)) = false := by decide) (he : starEach (e :: es) X.env = (false, eval e X.env) :: starEach es X.env := by rfl) (hpl : (backTo pos (starEach es X.env)).any (·.1) = false := by rfl) :
    PE X (.Call (.Name x p) (e :: es) [] pos) (tCall sp [] E0 t) := by
  refine ⟨fun pins s σ H Q I h => wpAny_Call_Name_kw (ld_glob I g m (PySem.W.callWith_K (h₀ := X.base) I.ok.mod.kin kp (thn (ha.run pos pins s σ H _ I h) fun us s1 ⟨vs, H1, I1, r, q⟩ => ⟨I1.kIn, ?_⟩) he hpl) hdb)⟩
  have q' : sp (vs ++ []) H1 Q E0 := q
  rw [List.append_nil] at q'
  exact run_at F rfl hG room bi I1 r q'
/-! ### an own object, called -/
theorem callO_any {M : Model} {A : Around} {E : Value → Shared → Prop} {s : Shared} {a : Addr} {pos : Pos} {Q : Value → Shared → Prop} {args : List (Bool × Sem Value)} {kws : List (Option Str × Sem Value)} (hplain : (args.any (·.1) || kws.any (·.1.isNone)) = false)
    (h : wpAny M A (evalArgs (.ref a) true args kws) (fun z s₁ => (∃ C ox od, PySem.W.InstAt s₁.heap a ox C od ∧ ox.data = .plain) ∧ wpAny M A (call (.ref a) ([] ++ z.pos) z.kw) Q E s₁) E s) : wpAny M A (callWith pos (.ref a) [] args kws) Q E s := by
  unfold callWith
  refine wpAny_bind (wpAny_holding (wpAny_mono h (fun z s₁ h₁ => wpAny_bind (wpAny_standAt ?_)) fun _ _ y => y))
  obtain ⟨⟨C, ox, od, J, hd⟩, h₁⟩ := h₁
  have L := PySem.W.kco_keeper (M := M) J hd
  simp only [hplain]
  refine wpAny_bind (L.here ?_)
  have tail : ∀ {t : Sem Value}, wpAny M A t Q E s₁ → wpAny M A (t >>= fun r => holding [r] point >>= fun _ => pure r) Q E s₁ :=
    fun ht => wpAny_bind (wpAny_mono ht (fun r s₂ hr => wpAny_bind (wpAny_holding (wpAny_point (wpAny_pure hr)))) fun _ _ y => y)
  exact tail (wpAny_operateT h₁)
theorem run_ofOk (F : FnOk X.prog X.w X.K X.mg X.base CX0 k f fd ps sp) (b : Binds X.K fd ps []) : StX.CallO X.K C f → StX.CallO X.K C f ∧ FnR X.prog X.w X.K X.mg X.base CX0 k f sp := fun c => ⟨c, fun A outer s H us vs Q E hr e0 r q => by
  have n1 : us.length = ps.length := r.length.symm.trans (F.len _ _ _ _ q)
  have inK : X.K.In s.heap := e0.mod.kin.keeps fun c o e => (e0.bs c o e).1
  have bb := b s us inK (by simpa using n1)
  rw [List.append_nil] at bb
  exact F.run A outer s H ⟨us, []⟩ us vs Q E hr e0 bb r q⟩
theorem insC_of {H : Hp} {a dx : Addr} {fs : List (Str × V)} (h : H a = some (.ins C dx fs)) : StX.InsC X H a C := .inr ⟨dx, fs, h⟩
/-- e(e1, ..), e an own object of C whose __call__ is f -/
theorem pe_callOb {fe e : Expr} {es : List Expr} {tf : TE} {t : TA} {pos : Pos} (hf : PE X fe tf) (c : StX.CallO X.K C f) (F : FnOk X.prog X.w X.K X.mg X.base CX0 k f fd ps sp) (b : Binds X.K fd ps []) (hr : Room k X.A) (ha : PA X (e :: es) t)
    (ht : eval (.Call fe (e :: es) [] pos) X.env = (do callWith pos (← eval fe X.env) [] (backTo pos (starEach (e :: es) X.env)) (backToKw pos (keywordEach [] X.env))) := by rfl)
    (he : starEach (e :: es) X.env = (false, eval e X.env) :: starEach es X.env := by rfl) (hpl : (backTo pos (starEach es X.env)).any (·.1) = false := by rfl) : PE X (.Call fe (e :: es) [] pos) (StX.tCallO X C sp E0 tf t) :=
  StX.pe_callO hf c (run_ofOk F b c).2 hr pass0 ha ht he hpl
/-- e(k = e1, ..) -/
def tCallOK (C : Addr) (m : Nat) (sp : Sp) (gV : List V → List V → List V) (tf : TE) (tk : TA) : TE := fun σ H Q => tf σ H fun y H1 => ∃ a, y = V.ref a ∧ tk σ H1 fun zs H2 => (∃ dx fs, H2 a = some (.ins C dx fs)) ∧ zs.length = m ∧ sp (gV [.ref a] zs) H2 Q E0
theorem pe_callObK {fe : Expr} {kws : List Keyword} {ks : List Str} {tf : TE} {tk : TA} {pos : Pos} {g : List Value → List Value → List Value} {gV : List V → List V → List V} (hf : PE X fe tf) (c : StX.CallO X.K C f) (F : FnOk X.prog X.w X.K X.mg X.base CX0 k f fd ps sp) (hb : KBn X.K fd ps 1 ks g gV) (hr : Room k X.A) (hkw : PK X kws tk)
    (ht : eval (.Call fe [] kws pos) X.env = (do callWith pos (← eval fe X.env) [] (backTo pos (starEach [] X.env)) (backToKw pos (keywordEach kws X.env))) := by rfl)
    (hall : (backToKw pos (keywordEach kws X.env)).all (·.1.isSome) = true := by rfl) (hks : (backToKw pos (keywordEach kws X.env)).filterMap (·.1) = ks := by rfl)
    (hpl : ((backTo pos (starEach [] X.env)).any (·.1) || (backToKw pos (keywordEach kws X.env)).any (·.1.isNone)) = false := by rfl) : PE X (.Call fe [] kws pos) (tCallOK C ks.length sp gV tf tk) := by
  refine ⟨fun pins s σ H Q I h => ?_⟩
  rw [ht]
  refine wpAny_bind (thn (hf.run pins s σ H _ I h) fun u s1 ⟨y, H1, I1, ry, a, ey, q⟩ => ?_)
  subst ey
  obtain rfl : u = Value.ref a := ry
  refine callO_any hpl (PyProof.Rows.evalArgs_kw2_nil hall (thn (hkw.run pos pins s1 σ H1 _ I1 q) fun ws s2 ⟨zs, H2, I2, rz, ⟨dx, fs, ha⟩, l2, q2⟩ => ?_))
  rw [hks]
  obtain ⟨ox, od, J, hd⟩ := StX.insC_at I2 (insC_of (X := X) ha)
  refine ⟨⟨C, ox, od, J, hd⟩, wpAny_call (PySem.W.kco_code I2.kIn J hd c.at_ c.fn c.fi ?_)⟩
  refine codeAny_mono (F.run X.A X.stack s2 H2 ⟨[.ref a], ks.zip ws⟩ (g [.ref a] ws) _ Q E0 hr I2.env0 (hb.to s2 [.ref a] ws I2.kIn rfl (rz.length.symm.trans l2)) (hb.rel (vs := [V.ref a]) (.cons rfl .nil) rz) q2) fun res s' hq => ?_
  match res, hq with
  | .error _, z => exact z.elim
  | .ok (.ret _), z => exact I2.after z
  | .ok .next, z => exact z.elim
  | .ok .brk, z => exact z.elim
  | .ok .cont, z => exact z.elim
/-- C(k = e, ..): keywords alone -/
def tMakeK (C : Addr) (m : Nat) (sp : Sp) (gV : List V → List V → List V) (tk : TA) : TE := fun σ H Q => tk σ H fun zs H2 => zs.length = m ∧ ∀ x dx, H2 x = none → H2 dx = none → dx ≠ x → sp (gV [.ref x] zs) (upd (upd H2 dx (.own x)) x (.ins C dx [])) (fun v H3 => v = .non ∧ Q (.ref x) H3) E0
theorem pe_makeK {x : Str} {p pos : Pos} {kws : List Keyword} {ks : List Str} {tk : TA} {g : List Value → List Value → List Value} {gV : List V → List V → List V} (M : Mk X.K C f) (F : FnOk X.prog X.w X.K X.mg X.base CX0 k f fd ps sp) (hr : Room (k + 1) X.A) (hg : Gl X x) (hm : X.mg x = some (.ref C)) (hb : KBn X.K fd ps 1 ks g gV)
    (hkw : PK X kws tk) (hall : (backToKw pos (keywordEach kws X.env)).all (·.1.isSome) = true := by rfl) (hks : (backToKw pos (keywordEach kws X.env)).filterMap (·.1) = ks := by rfl)
    (hdb : (x == ("__debug__" : Str)) = false := by decide) (hpl : ((backTo pos (starEach [] X.env)).any (·.1) || (backToKw pos (keywordEach kws X.env)).any (·.1.isNone)) = false := by rfl) :
    PE X (.Call (.Name x p) [] kws pos) (tMakeK C ks.length sp gV tk) := by
  refine ⟨fun pins s σ H Q I h => ?_⟩
  refine wpAny_Call_Name_kw (ld_glob I hg hm ?_ hdb)
  refine PySem.W.callWith_KW0 (h₀ := X.base) I.ok.mod.kin M.kp hall (thn (hkw.run pos pins s σ H _ I h) fun ws s2 ⟨zs, H2, I2, rz, l2, q2⟩ => ⟨I2.kIn, ?_⟩) hpl
  rw [hks]
  exact run_makeN (n := 0) (us := []) (vs := []) M F hr hb pass0 I2 .nil rz rfl l2 q2
end
end E10

set_option Elab.async false
set_option linter.all false
set_option maxRecDepth 100000
set_option maxHeartbeats 4000000
namespace E10
open L2 PySem PySem.Spec PyProof.Rows Builtin Float
def okF (r : Except String FormatSpec) : FormatSpec := match r with
  | .ok f => f
  | .error _ => { fill := 32, align := 62 }
def plusF : FormatSpec := okF (parseFormatSpec ("+d" : Str).cps.toList "int" 62)
theorem plusF_ok : parseFormatSpec ("+d" : Str).cps.toList "int" 62 = .ok plusF := by
  first | rfl | decide +kernel
theorem plusF_facts : plusF.sign = some 43 ∧ plusF.width = none ∧ plusF.grouping = none ∧ plusF.precision = none ∧ plusF.noNeg0 = false ∧ plusF.alt = false ∧ plusF.fill = 32 ∧ plusF.align = 62 ∧ plusF.type.getD (if ("+d" : Str).cps.back? == some 0 then 0 else 100) = 100 := by
  refine ⟨?_, ?_, ?_, ?_, ?_, ?_, ?_, ?_, ?_⟩ <;> first | rfl | decide +kernel
/-- an int with its sign -/
def plusText (a : Int) : Str := if a < 0 then Str.ofString (toString a) else ("+" : Str) ++ Str.ofString (toString a)
theorem pad_none (n m : Nat) : (-1 - (n : Int) - (m : Int)).toNat = 0 := Int.toNat_eq_zero.mpr (by omega)
theorem plus_text (a : Int) : intSpecText plusF a = plusText a := by
  obtain ⟨hs, hw, hg, _, _, _, hf, ha, _⟩ := plusF_facts
  have hd : ((Nat.toDigits 10 a.natAbs).map fun c => (if (100 : Nat) == 88 then c.toUpper else c).toNat) = (Nat.toDigits 10 a.natAbs).map Char.toNat := by
    refine List.map_congr_left fun c _ => ?_
    rfl
  have hne : ((Nat.toDigits 10 a.natAbs).map Char.toNat).isEmpty = false := by
    have := tDigits_len_ge 10 a.natAbs
    cases h : Nat.toDigits 10 a.natAbs with
    | nil => rw [h] at this; simp at this
    | cons _ _ => rfl
  unfold intSpecText intField'
  rw [hd]
  simp only [hs, hw, hg, hf, ha, hne, show ((32 : Nat) == 48) = false by decide, show ((62 : Nat) == 61) = false by decide, show ((62 : Nat) == 60) = false by decide, show ((62 : Nat) == 94) = false by decide, Bool.false_and, Bool.and_false,
    Bool.false_eq_true, if_false, List.length_nil, List.append_nil, Int.toNat_zero, Nat.zero_sub, List.replicate_zero, List.nil_append]
  have zero : ∀ (l : List Nat) (x : Nat), List.replicate (-1 - ((l.length : Int) + ((0 : Nat) : Int) + ((0 : Nat) : Int)) - (((List.map Char.toNat (Nat.toDigits 10 a.natAbs)).length : Nat) : Int)).toNat x = [] := fun l x => by
    rw [Int.toNat_eq_zero.mpr (by omega)]
    rfl
  by_cases h : a < 0
  · have e : plusText a = ⟨(45 :: (Nat.toDigits 10 a.natAbs).map Char.toNat).toArray⟩ := by
      unfold plusText
      rw [if_pos h]
      obtain ⟨n, rfl⟩ : ∃ n : Nat, a = Int.negSucc n := ⟨a.natAbs - 1, by omega⟩
      have t : Str.ofString (Nat.repr (n + 1)) = ⟨((Nat.toDigits 10 (n + 1)).map Char.toNat).toArray⟩ := text_ofNat (n + 1)
      have s : toString (Int.negSucc n) = "-" ++ Nat.repr (n + 1) := rfl
      rw [Str.ofString_eq_toList] at t
      rw [s, Str.ofString_eq_toList]
      refine Str.ext' ?_
      have t2 := congrArg Str.cps t
      simp only [String.toList_append, Int.natAbs_negSucc, List.map_append] at t2 ⊢
      have t3 := congrArg Array.toList t2
      simp only [List.toList_toArray] at t3
      rw [t3]
      rfl
    rw [e]
    simp only [decide_eq_true h, if_true]
    refine Str.ext' ?_
    rw [zero [45] 32]
    simp
  · have e : plusText a = ⟨(43 :: (Nat.toDigits 10 a.natAbs).map Char.toNat).toArray⟩ := by
      unfold plusText
      rw [if_neg h]
      obtain ⟨n, rfl⟩ := Int.eq_ofNat_of_zero_le (Int.not_lt.mp h)
      have t : Str.ofString (toString (n : Int)) = ⟨((Nat.toDigits 10 n).map Char.toNat).toArray⟩ := text_ofNat n
      rw [t]
      refine Str.ext' ?_
      rw [Str.cps_append]
      simp
      rfl
    rw [e]
    simp only [decide_eq_false h, Bool.false_eq_true, if_false]
    refine Str.ext' ?_
    rw [zero [43] 32]
    simp
section
variable {prog : Program} {w : World} {A : Around} {E : Value → Shared → Prop} {s : Shared}
theorem plus_len {a : Int} (h : a.natAbs.log2 < 1920) : (plusText a).length ≤ sizeLine := by
  have e := int_text_fits h
  unfold plusText
  split
  · exact e
  · rw [strLen_append]
    have e1 : (("+" : String) : Str).length = 1 := rfl
    have e2 := int_text_length_le (k := 1920) (by decide) h
    rw [e1, PySem.ofString_length, sizeLine_eq]
    omega
theorem field_signed {a : Int} {t : Tok} {f : FormatSpec} {Q : Value → Shared → Prop} (hd : a.natAbs.log2 < 1920) (hp : parseFormatSpec ("+d" : Str).cps.toList "int" 62 = .ok f) (hs : f.sign = some 43) (hw : f.width = none) (hgr : f.grouping = none) (hpr : f.precision = none) (hz : f.noNeg0 = false) (hal : f.alt = false)
    (hty : f.type.getD (if ("+d" : Str).cps.back? == some 0 then 0 else 100) = 100) (hlen : (intSpecText f a).length ≤ sizeLine) (h : Q (.str (intSpecText f a) (s.toks + 1)) { s with toks := s.toks + 1 + 1 }) : wpAny (model prog w) A (formatField (.int a t) "+d") Q E s := by
  have hne : ((("+d" : String) : Str).length == 0) = false := by decide
  have hasc : ((("+d" : Str).cps.toList.drop 1).any (· ≥ 128) || (("+d" : Str).cps.getD 0 0 ≥ 128 && !([60, 62, 61, 94] : List Nat).contains (("+d" : Str).cps.getD 1 0))) = false := by decide +kernel
  show wpAny _ _ (holding [.int a t] (pyFormat (.int a t) "+d")) Q E s
  refine wpAny_holding ?_
  unfold pyFormat
  refine wpAny_bind (wpAny_mkStr ?_ (by decide))
  refine wpAny_bind (m := callSpecial? (.int a t) (Str.ofString "__format__") [.str "+d" s.toks]) (wpAny_callSpecial?_slot (name := Str.ofString "__format__") (typeIs_int _ a t) slot_int_format ?_)
  refine wpAny_call (codeAny_call_builtin slot_int_format.plain entry_int_format (slot_int_format.check _ _ _ _ _ _ _ _ (typeIs_int _ a t) (args_int_format _ _) ?_))
  unfold Builtin.«int.__format__»
  simp only [selfAndOne, noKeywords, Int.intOfSelf, asInt?, asStr?, List.isEmpty_nil, if_true, pure_bind, bind_pure, bind_assoc, hne, hasc, Bool.false_eq_true, if_false,
    show (Value.str "+d" s.toks == Value.none) = false from rfl]
  refine wpAny_bind (wpAny_typeNameOf (T := "str") (typeIs_str _ _ _) (by decide) fun _ => ?_)
  first | refine wpAny_bind (wpAny_typeNameOfCut_int ?_) | refine wpAny_bind (wpAny_typeNameOf_int ?_)
  simp only [hp, hty]
  rw [if_pos (by decide)]
  show wpAny _ _ (if _ then _ else _) _ _ _
  rw [if_neg (by simp [hpr])]
  show wpAny _ _ (if _ then _ else _) _ _ _
  rw [if_neg (by simp [hz])]
  show wpAny _ _ (if _ then _ else _) _ _ _
  rw [if_neg (by decide)]
  show wpAny _ _ (do let r ← Builtin.overDigitLimit? a; _) _ _ _
  rw [PySem.overDigitLimit_small hd]
  refine wpAny_bind (wpAny_pure ?_)
  show wpAny _ _ (if _ then _ else _) _ _ _
  rw [if_neg (by simp [hw])]
  show wpAny _ _ (retStr _) _ _ _
  unfold retStr
  refine wpAny_bind (wpAny_mkStr (wpAny_pure ?_) ?hs2)
  case hs2 =>
    simp only [hal, Bool.false_eq_true, if_false, show ((10 : Nat) == 10) = true by decide, if_true]
    conv => lhs; arg 1; whnf
    simp only [intSpecText, intField', hgr, hs, hal, Bool.false_eq_true, if_false, show ((10 : Nat) == 10) = true by decide, if_true] at hlen ⊢
    exact hlen
  dsimp only
  refine wpAny_bind (wpAny_isInstance (typeIs_str _ _ _) isSubtype_str_str (wpAny_pure ?_))
  simp only [hal, Bool.false_eq_true, if_false, show ((10 : Nat) == 10) = true by decide, if_true]
  conv => arg 1; arg 1; whnf
  simp only [intSpecText, intField', hgr, hs, hal, Bool.false_eq_true, if_false, show ((10 : Nat) == 10) = true by decide, if_true] at h ⊢
  exact h
theorem formatField_plus {a : Int} {t : Tok} {Q : Value → Shared → Prop} (hd : a.natAbs.log2 < 1920) (h : Q (.str (plusText a) (s.toks + 1)) { s with toks := s.toks + 1 + 1 }) : wpAny (model prog w) A (formatField (.int a t) "+d") Q E s := by
  obtain ⟨hs, hw, hgr, hpr, hz, hal, hf, hli, hty⟩ := plusF_facts
  rw [← plus_text] at h
  exact field_signed hd plusF_ok hs hw hgr hpr hz hal hty (by rw [plus_text]; exact plus_len hd) h
end
section
variable {X : Cx}
/-- {n:+d} -/
def tFmtP (te : TE) : TE := fun σ H Q => te σ H fun x H1 => ∃ i : Int, x = .int i ∧ i.natAbs.log2 < 1920 ∧ Q (.str (plusText i)) H1
theorem pe_fmtP {e : Expr} {te : TE} {p1 p2 pos : Pos} {j : Nat} (he : PE X e te) : PE X (.FormattedValue e (-1) (some (.JoinedStr [.Constant (.str "+d") j p1] p2)) pos) (tFmtP te) := by
  refine ⟨fun pins s σ H Q I h => ?_⟩
  refine wpAny_FormattedValue_spec (thn (he.run pins s σ H _ I h) fun v s1 hv => ?_)
  obtain ⟨x, H1, I1, r1, i, rfl, hz, q⟩ := hv
  obtain ⟨t, rfl⟩ := (show ∃ t, v = Value.int i t from r1)
  refine wpAny_JoinedStr_one (thn ((pe_str (x := "+d") (j := j) (pos := p1)).run pins s1 σ H1 (fun y H2 => y = .str "+d" ∧ H2 = H1) I1 ⟨rfl, rfl⟩) fun u s2 hu => ?_)
  obtain ⟨y, H2, I2, r2, rfl, rfl⟩ := hu
  obtain ⟨t2, rfl⟩ := (show ∃ t, u = Value.str "+d" t from r2)
  exact ⟨_, t2, rfl, formatField_plus hz ⟨.str (plusText i), _, I2.tok _, ⟨_, rfl⟩, q⟩⟩
end
end E10

set_option Elab.async false
set_option linter.all false
set_option maxRecDepth 100000
set_option maxHeartbeats 4000000
namespace E10
open L2 PySem PySem.Spec PyProof.Rows
/-! ### repr of a list, a dict of small things -/
def tiny : V → Option PyData
  | .non => some .none
  | .bl b => some (.bool b)
  | .int i => if i.natAbs < 10 ^ 70 then some (.int i) else none
  | .str z => if (reprText z).length ≤ 100 then some (.str z) else none
  | _ => none
theorem log_small {i : Int} (h : i.natAbs < 10 ^ 70) : i.natAbs.log2 < 1920 := by
  by_cases z : i.natAbs = 0
  · rw [z]
    decide
  · exact (Nat.log2_lt z).mpr (Nat.lt_of_lt_of_le h (by decide +kernel))
theorem tiny_int {i : Int} {d : PyData} (h : tiny (.int i) = some d) : i.natAbs < 10 ^ 70 ∧ d = .int i := by
  have h' : (if i.natAbs < 10 ^ 70 then some (PyData.int i) else none) = some d := h
  by_cases c : i.natAbs < 10 ^ 70
  · rw [if_pos c] at h'
    exact ⟨c, (Option.some.inj h').symm⟩
  · rw [if_neg c] at h'
    cases h'
theorem tiny_str {z : Str} {d : PyData} (h : tiny (.str z) = some d) : (reprText z).length ≤ 100 ∧ d = .str z := by
  have h' : (if (reprText z).length ≤ 100 then some (PyData.str z) else none) = some d := h
  by_cases c : (reprText z).length ≤ 100
  · rw [if_pos c] at h'
    exact ⟨c, (Option.some.inj h').symm⟩
  · rw [if_neg c] at h'
    cases h'
theorem tiny_ok {x : V} {d : PyData} (h : tiny x = some d) : d.showable = true ∧ d.depth = 0 ∧ d.shown.length ≤ 100 ∧ d.hasDict = false := by
  cases x with
  | non =>
    cases h
    exact ⟨rfl, rfl, by decide, rfl⟩
  | bl b =>
    cases h
    cases b <;> exact ⟨rfl, rfl, by decide, rfl⟩
  | int i =>
    obtain ⟨hi, rfl⟩ := tiny_int h
    refine ⟨decide_eq_true (log_small hi), rfl, ?_, rfl⟩
    show (Str.ofString (toString i)).length ≤ 100
    have e := int_text_length_le10 (k := 70) (by decide) hi
    rw [PyProof.Rows.ofString_len]
    omega
  | str z =>
    obtain ⟨hz, rfl⟩ := tiny_str h
    exact ⟨rfl, rfl, hz, rfl⟩
  | _ => simp [tiny] at h
theorem tiny_reads {h : Heap} {x : V} {d : PyData} {u : Value} (t : tiny x = some d) (r : RelV x u) : Reads h u d [] := by
  cases x with
  | non =>
    cases t
    cases (show u = Value.none from r)
    exact .none
  | bl b =>
    cases t
    cases (show u = Value.bool b from r)
    exact .bool b
  | int i =>
    obtain ⟨_, rfl⟩ := tiny_int t
    obtain ⟨k, rfl⟩ := (show ∃ t, u = Value.int i t from r)
    exact .int i k
  | str z =>
    obtain ⟨_, rfl⟩ := tiny_str t
    obtain ⟨k, rfl⟩ := (show ∃ t, u = Value.str z t from r)
    exact .str z k
  | _ => simp [tiny] at t
abbrev Tiny (x : V) (d : PyData) : Prop := tiny x = some d
abbrev TinyP (p : Key × V) (q : PyData × PyData) : Prop := tiny (kV p.1) = some q.1 ∧ tiny p.2 = some q.2
theorem list_reads {h : Heap} : ∀ {xs : List V} {ds : List PyData} {us : List Value}, Paired Tiny xs ds → Vals xs us → ReadsAll h us ds []
  | _, _, _, .nil, .nil => .nil
  | _, _, _, .cons r t, .cons q k => .cons (as := []) (bs := []) (tiny_reads r q) (list_reads t k)
theorem listLen (ts : List Str) : (listText ts).length ≤ piled ts + 2 := by
  have e1 : ((("[" : String) : Str)).length = 1 := rfl
  have e2 : ((("]" : String) : Str)).length = 1 := rfl
  have e3 : ((("" : String) : Str)).length = 0 := rfl
  cases ts with
  | nil =>
    unfold listText
    rw [strLen_append, e2]
    show (("[" : String) : Str).length + 1 ≤ 0 + 2
    rw [e1]
    decide
  | cons t r =>
    unfold listText
    rw [strLen_append, e2]
    show (textFrom 1 (((("[" : String) : Str) ++ (("" : String) : Str)) ++ t) r).length + 1 ≤ _
    rw [textFrom_length_pos _ _ _ (by decide), strLen_append, strLen_append, e1, e3, piled_cons]
    omega
theorem dictLen (ts : List Str) : (dictText ts).length ≤ piled ts + 2 := by
  have e1 : ((("{" : String) : Str)).length = 1 := rfl
  have e2 : ((("}" : String) : Str)).length = 1 := rfl
  unfold dictText
  rw [strLen_append, strLen_append, e1, e2]
  by_cases h : ts = []
  · subst h
    have : (Str.join ", " []).length = 0 := rfl
    rw [this, piled_nil]
    omega
  · have := join_length_add ts h
    omega
theorem list_ok : ∀ {xs : List V} {ds : List PyData}, Paired Tiny xs ds → PyData.showableAll ds = true ∧ PyData.depthAll ds = 0 ∧ piled (PyData.shownAll ds) ≤ 102 * xs.length ∧ PyData.hasDictAll ds = false
  | _, _, .nil => ⟨rfl, rfl, Nat.zero_le _, rfl⟩
  | _, _, .cons r t => by
    obtain ⟨a1, b1, c1, e1⟩ := tiny_ok r
    obtain ⟨a2, b2, c2, e2⟩ := list_ok t
    refine ⟨?_, ?_, ?_, ?_⟩
    · show (_ && _) = true
      rw [a1, a2]
      rfl
    · show max _ _ = 0
      rw [b1, b2]
      rfl
    · show piled (_ :: _) ≤ _
      rw [piled_cons, List.length_cons]
      omega
    · show (_ || _) = false
      rw [e1, e2]
      rfl
theorem dict_ok : ∀ {ps : List (Key × V)} {qs : List (PyData × PyData)}, Paired TinyP ps qs → PyData.showableKv qs = true ∧ PyData.depthKv qs = 0 ∧ piled (PyData.shownKv qs) ≤ 204 * ps.length
  | _, _, .nil => ⟨rfl, rfl, Nat.zero_le _⟩
  | _, _, @Paired.cons _ _ _ p (kd, vd) l m r t => by
    obtain ⟨a1, b1, c1, _⟩ := tiny_ok r.1
    obtain ⟨a3, b3, c3, _⟩ := tiny_ok r.2
    obtain ⟨a2, b2, c2⟩ := dict_ok t
    refine ⟨?_, ?_, ?_⟩
    · show (_ && _ && _) = true
      rw [a1, a2, a3]
      rfl
    · show max (max _ _) _ = 0
      rw [b1, b2, b3]
      rfl
    · show piled (_ :: _) ≤ _
      have e : ((": " : String) : Str).length = 2 := rfl
      rw [piled_cons, List.length_cons, strLen_append, strLen_append, e]
      have : (kd, vd).1 = kd := rfl
      simp only at c1 c3
      omega
theorem dict_reads {P : Program} {w : World} {h : Heap} : ∀ {ps : List (Key × V)} {qs : List (PyData × PyData)} {vs : List (Key × Value)} {es : List DictEntry}, Paired TinyP ps qs → KV ps vs → Pairs (mixKind P w) es vs →
    ReadsAll h (es.map (·.key)) (qs.map (·.1)) [] ∧ ReadsAll h (es.map (·.val)) (qs.map (·.2)) []
  | _, _, _, _, .nil, .nil, .nil => ⟨.nil, .nil⟩
  | (k, v) :: _, (kd, vd) :: _, (k2, u) :: _, p :: _, .cons r t, .cons e n, .cons i1 i2 i3 => by
    obtain ⟨e1, e2⟩ := e
    simp only at e1 e2
    subst e1
    obtain ⟨a, b⟩ := dict_reads (h := h) t n i3
    have kr : Reads h p.key kd [] := by
      rcases keyIs_shape (show keyIs k p.key = true from i1) with ⟨i, t, e, e'⟩ | ⟨z, t, e, e'⟩
      · subst e
        exact tiny_reads r.1 ⟨t, e'⟩
      · subst e
        exact tiny_reads r.1 ⟨t, e'⟩
    exact ⟨.cons (as := []) (bs := []) kr a, .cons (as := []) (bs := []) (tiny_reads r.2 (show RelV v p.val by rw [i2]; exact e2)) b⟩
section
variable {X : Cx}
/-- repr of a list of small things -/
def rReprL (K : PySem.W.Frag) : List V → Hp → VK → Prop := fun xs H Q => ∃ a ys ds, xs = [.ref a] ∧ H a = some (.lst ys) ∧ ys.length ≤ 40 ∧ Paired Tiny ys ds ∧ Q (.str (PyData.list ds).shown) H
theorem call_reprL (hg : X.A.guards = some []) (hu : X.A.units + 64 < cLine) : CallR X (.builtin "repr") (rReprL X.K) := by
  intro pins s σ H xs us Q I r h
  obtain ⟨a, ys, ds, rfl, ha, hl, hp, q⟩ := h
  obtain ⟨u, rfl, ru⟩ := vals1 r
  cases (show u = Value.ref a from ru)
  obtain ⟨_, its, m, rv, e⟩ := (show ObjOk X.prog X.w H s.heap a (.lst ys) from I.hok a _ ha)
  obtain ⟨o1, o2, o3, o4⟩ := list_ok hp
  have rd : Reads s.heap (.ref a) (.list ds) [a] := .list e rfl rfl (by simpa using list_reads hp rv)
  have hd : (PyData.list ds).depth = 1 := by
    show PyData.depthAll ds + 1 = 1
    rw [o2]
  have lid : (PyData.list ds).shown.length ≤ sizeLine := by
    have l1 := listLen (PyData.shownAll ds)
    show (listText (PyData.shownAll ds)).length ≤ _
    have : (5000 : Nat) ≤ sizeLine := by decide
    omega
  exact repr_of_reads' rd o1 (fun z => absurd (show PyData.hasDictAll ds = true from z) (by rw [o4]; exact Bool.false_ne_true)) hg (by omega) (fun _ _ e => e) (fun h' u tk hk => ⟨.str (PyData.list ds).shown, H, I.kept (t' := tk) hk, ⟨u, rfl⟩, q⟩) lid
/-- repr of a dict of small things -/
def rReprD : List V → Hp → VK → Prop := fun xs H Q => ∃ a ys ds, xs = [.ref a] ∧ H a = some (.dK ys) ∧ ys.length ≤ 40 ∧ Paired TinyP ys ds ∧ Q (.str (PyData.dict ds).shown) H
theorem call_reprD (hg : X.A.guards = some []) (hu : X.A.units + 64 < cLine) : CallR X (.builtin "repr") rReprD := by
  intro pins s σ H xs us Q I r h
  obtain ⟨a, ys, ds, rfl, ha, hl, hp, q⟩ := h
  obtain ⟨u, rfl, ru⟩ := vals1 r
  cases (show u = Value.ref a from ru)
  obtain ⟨_, ns, vs, rel, o, es, ep, h1, ex, h3, _, prs, _⟩ := (show ObjOk X.prog X.w H s.heap a (.dK ys) from I.hok a _ ha)
  have na : sysModules ≠ a := fun z => by rw [z] at ns; simp at ns
  obtain ⟨o1, o2, o3⟩ := dict_ok hp
  obtain ⟨r1, r2⟩ := dict_reads (h := s.heap) hp rel prs
  have rd : Reads s.heap (.ref a) (.dict ds) (a :: [] ++ []) := .dict h1 ex.1 h3 r1 r2
  have hd : (PyData.dict ds).depth = 1 := by
    show PyData.depthKv ds + 1 = 1
    rw [o2]
  have lid : (PyData.dict ds).shown.length ≤ sizeLine := by
    have l1 := dictLen (PyData.shownKv ds)
    show (dictText (PyData.shownKv ds)).length ≤ _
    have : (9000 : Nat) ≤ sizeLine := by decide
    omega
  exact repr_of_reads' rd o1 (fun _ => by simp [na]) hg (by omega) (fun _ _ e => e) (fun h' u tk hk => ⟨.str (PyData.dict ds).shown, H, I.kept (t' := tk) hk, ⟨u, rfl⟩, q⟩) lid
end
end E10

set_option Elab.async false
set_option linter.all false
set_option maxRecDepth 100000
set_option maxHeartbeats 4000000
/-! ### sorted of pairs of an int and a text -/
namespace E10
open L2 PySem PySem.Spec PyProof.Rows SrtO Srt
/-- by the ints, then by the texts -/
def ltIS (p q : Int × Str) : Bool := if p.1 = q.1 then decide (p.2.cps.toList < q.2.cps.toList) else decide (p.1 < q.1)
theorem ltIS_iff {p q : Int × Str} : ltIS p q = true ↔ p.1 < q.1 ∨ (p.1 = q.1 ∧ p.2.cps.toList < q.2.cps.toList) := by
  unfold ltIS
  by_cases e : p.1 = q.1
  · rw [if_pos e, decide_eq_true_eq]
    exact ⟨fun h => .inr ⟨e, h⟩, fun h => h.elim (fun z => absurd z (by omega)) (·.2)⟩
  · rw [if_neg e, decide_eq_true_eq]
    exact ⟨fun h => .inl h, fun h => h.elim id fun z => absurd z.1 e⟩
theorem ltIS_no {p q : Int × Str} : ltIS p q = false ↔ ¬ (p.1 < q.1 ∨ (p.1 = q.1 ∧ p.2.cps.toList < q.2.cps.toList)) := by
  rw [← ltIS_iff]
  cases ltIS p q <;> simp
theorem codes_asym {a b : List Nat} (h : a < b) : ¬ b < a := fun z => List.lt_irrefl a (List.lt_trans h z)
theorem codes_tr {a b c : List Nat} (h1 : ¬ b < a) (h2 : ¬ c < b) : ¬ c < a := List.not_lt.mpr (List.le_trans (List.not_lt.mp h1) (List.not_lt.mp h2))
theorem swoIS {α : Type} (k : α → Int × Str) : Swo fun v u => ltIS (k v) (k u) := by
  refine ⟨fun x y h => ltIS_no.mpr fun z => ?_, fun x y z h1 h2 => ltIS_no.mpr fun q => ?_⟩
  · rcases ltIS_iff.mp h with a | ⟨a, b⟩ <;> rcases z with c | ⟨c, d⟩
    · omega
    · omega
    · omega
    · exact codes_asym b d
  · have a := ltIS_no.mp h1
    have b := ltIS_no.mp h2
    have n1 : ¬ (k y).1 < (k x).1 := fun t => a (.inl t)
    have n2 : ¬ (k z).1 < (k y).1 := fun t => b (.inl t)
    rcases q with q | ⟨q, r⟩
    · omega
    · have e1 : (k y).1 = (k x).1 := by omega
      have e2 : (k z).1 = (k y).1 := by omega
      exact codes_tr (fun t => a (.inr ⟨e1, t⟩)) (fun t => b (.inr ⟨e2, t⟩)) r
/-- v is a tuple of this int and this text -/
def IsIS (h : Heap) (v : Value) (x : Int) (y : Str) : Prop := ∃ a o t u n, v = .ref a ∧ h.get? a = some o ∧ o.cls = .type "tuple" ∧ o.data = .seq #[.int x t, .str y u] n
theorem IsIS.keeps {h h' : Heap} {v : Value} {x : Int} {y : Str} (p : IsIS h v x y) (k : ∀ b o, h.get? b = some o → o.cls = .type "tuple" → h'.get? b = some o) : IsIS h' v x y :=
  let ⟨a, o, t, u, n, e, ho, hc, hd⟩ := p
  ⟨a, o, t, u, n, e, k _ _ ho hc, hc, hd⟩
section
variable {prog : Program} {w : World} {A : Around} {E : Value → Shared → Prop} {s : Shared}
theorem cmpIS {vs : List Value} {k : Value → Int × Str} (hp : ∀ v ∈ vs, IsIS s.heap v (k v).1 (k v).2) : Cmp prog w A s (tuples' true) (fun p => p.1 ∈ vs) (lt2 fun v u => ltIS (k v) (k u)) := by
  intro p q hm hm'
  have i1 := hp _ hm
  have i2 := hp _ hm'
  show wpAny (model prog w) A (keyLt' (tuples' true) p.1 q.1) (fun r s' => s' = s ∧ r = ltIS (k p.1) (k q.1)) (fun _ _ => False) s
  unfold ltIS
  generalize (k p.1).1 = x at i1 ⊢
  generalize (k p.1).2 = y at i1 ⊢
  generalize (k q.1).1 = x2 at i2 ⊢
  generalize (k q.1).2 = y2 at i2 ⊢
  obtain ⟨a, o, t, u, n, ea, ho, _, hd⟩ := i1
  obtain ⟨a2, o2, t2, u2, n2, ea2, ho2, _, hd2⟩ := i2
  rw [ea, ea2]
  refine PySem.W.kat_lt ho hd ho2 hd2 (show PySem.W.KatLex prog w A true (decide (2 < 2)) _ [(.int x t, .int x2 t2), (.str y u, .str y2 u2)] 0 s from ?_)
  refine PySem.W.kat_cons (SeqAt.EqAt.int_int x t x2 t2 prog w _ _ (PySem.W.kat_go (fun e1 => ?_) fun e1 => ?_))
  · have ex : x = x2 := by simpa using e1
    refine PySem.W.kat_yes (PySem.W.kat_cons (SeqAt.EqAt.str_str y u y2 u2 prog w _ _ (PySem.W.kat_go (fun e2 => ?_) fun e2 => ?_)))
    · have ey : y = y2 := by simpa using e2
      refine PySem.W.kat_yes (PySem.W.kat_nil ⟨rfl, ?_⟩)
      rw [if_pos ex, ey]
      exact (decide_eq_false (List.lt_irrefl _)).symm
    · refine PySem.W.kat_no (PySem.W.kat_one _ _ (PyProof.Rows.lt_str (show s = s ∧ decide (y.cps.toList < y2.cps.toList) = _ from ⟨rfl, ?_⟩)))
      rw [if_pos ex]
  · have ex : ¬ x = x2 := by simpa using e1
    refine PySem.W.kat_no (oneLt_int ⟨rfl, ?_⟩)
    rw [if_neg ex]
theorem headsIS {h : Heap} : ∀ {vs : List Value}, (∀ v ∈ vs, ∃ x y, IsIS h v x y) → ∃ fs : List Value, PySem.W.KatTups h vs fs ∧ fs.length = vs.length ∧ ∀ f ∈ fs, ∃ x t, f = Value.int x t
  | [], _ => ⟨[], .nil, rfl, nofun⟩
  | v :: r, hp => by
    obtain ⟨fs, f1, f2, f3⟩ := headsIS (vs := r) fun z hm => hp z (.tail _ hm)
    obtain ⟨x, y, a, o, t, u, n, rfl, ho, hc, hd⟩ := hp v (.head _)
    refine ⟨.int x t :: fs, .cons ho hc hd rfl f1, congrArg (· + 1) f2, fun f hm => ?_⟩
    cases hm with
    | head => exact ⟨x, t, rfl⟩
    | tail _ hm => exact f3 f hm
theorem sortableIS {a : Addr} {vs : List Value} {k : Value → Int × Str} (h0 : 0 < vs.length) (hp : ∀ v ∈ vs, IsIS s.heap v (k v).1 (k v).2) (ha : ∀ o, s.heap.get? a = some o → o.cls ≠ .type "tuple") : SortableO prog w A s a vs fun v u => ltIS (k v) (k u) := by
  intro h2 keep
  have hp2 : ∀ v ∈ vs, IsIS h2 v (k v).1 (k v).2 := fun v hm => (hp v hm).keeps fun b o e c => keep b o (fun z => ha o (z ▸ e) c) e
  obtain ⟨fs, f1, f2, f3⟩ := headsIS fun v hm => ⟨_, _, hp2 v hm⟩
  refine ⟨tuples' true, fun Q E hq => PySem.W.kat_kind (T := .type "int") f1 (by omega) (fun f hm => ?_) (by rfl) ?_, cmpIS hp2⟩
  · obtain ⟨x, t, rfl⟩ := f3 f hm
    exact .now
  · rw [show (Value.type "int" != Value.type "tuple") = true by first | decide +kernel | rfl]
    exact hq
end
/-- sorted(xs), xs a list of tuples of an int and a text (k says which) -/
def rSortIS (K : PySem.W.Frag) : List V → Hp → VK → Prop := fun vs H Q => ∃ (a : Addr) (xs : List V) (k : V → Int × Str), vs = [V.ref a] ∧ SqL K H a xs ∧ (∀ x ∈ xs, ∃ t, x = V.ref t ∧ H t = some (.tup [.int (k x).1, .str (k x).2])) ∧
  ∀ ys p, ys.Perm xs → ys.Pairwise (fun x y => ltIS (k y) (k x) = false) → H p = none → Q (.ref p) (upd H p (.lst ys))
theorem call_sortIS {X : Cx} : CallR X (.builtin "sorted") (rSortIS X.K) := by
  intro pins s σ H vs us Q I r h
  obtain ⟨a, xs, k, rfl, hs, hx, q⟩ := h
  obtain ⟨its, rv, hl, hz⟩ := I.list hs
  obtain ⟨u, rfl, ru⟩ := vals1 r
  cases (show u = Value.ref a from ru)
  obtain ⟨e1, e2⟩ := refs_back rv fun x m => let ⟨t, e, _⟩ := hx x m; ⟨t, e⟩
  have hz2 : its.length ≤ sizeLine := rv.length ▸ hz
  have hp : ∀ v ∈ its, IsIS s.heap v (k (backV v)).1 (k (backV v)).2 := fun v hv => by
    obtain ⟨t, rfl⟩ := e2 v hv
    obtain ⟨t2, e, ht⟩ := hx (V.ref t) (e1 ▸ List.mem_map.mpr ⟨_, hv, rfl⟩)
    cases e
    obtain ⟨_, its2, r2, o, ho, hc, n, hd⟩ := I.hok _ _ ht
    obtain ⟨u1, u2, rfl, ⟨t1, rfl⟩, ⟨t2, rfl⟩⟩ := vals2 r2
    exact ⟨t, o, t1, t2, n, rfl, ho, hc, hd⟩
  refine sorted_ord (ltv := fun v u => ltIS (k (backV v)) (k (backV u))) (swoIS fun v => k (backV v)) hl.isList hz2 (fun h2 h₁ d hd kk => ?_) fun out o1 o2 => ?_
  · refine sortableIS (k := fun v => k (backV v)) (s := { s with heap := h₁ }) (by omega) (fun v hm => (hp v hm).keeps fun b o e _ => (kk b o e).2) fun o e c => ?_
    cases (show some o = some (seqObj "list" its.toArray 0) from e.symm.trans hd)
    exact absurd (Value.type.inj c) (by decide)
  · have h3 : ∀ u ∈ out, ∃ a, u = Value.ref a := fun u hu => e2 u (o2.perm.mem_iff.mp hu)
    obtain ⟨n, hn⟩ := sortedAll_at s.heap its out.toArray
    have hb : (out.map backV).Perm xs := e1 ▸ o2.perm.map backV
    refine ⟨.ref _, upd H (s.heap.objs.size + 1) (.lst (out.map backV)), I.laid (t' := s.toks) (fun b o e => sortedAll_old e) (Nat.le_succ _) ⟨?_, out, n, vals_back h3, by simpa using hn⟩, rfl, q _ _ hb (List.pairwise_map.mpr o1) (I.hok.fresh (Nat.le_succ _))⟩
    rw [hb.length_eq]
    exact hz
end E10

set_option Elab.async false
set_option linter.all false
set_option maxRecDepth 100000
set_option maxHeartbeats 4000000
namespace E10
open L2 PySem PySem.Spec PyProof.Rows
/-! ### repr of lists and tuples of small things, one in another -/
def Rdr (K : PySem.W.Frag) (H : Hp) : Nat → V → PyData → Prop
  | 0, x, d => tiny x = some d
  | n + 1, x, d => Rdr K H n x d ∨ (∃ a xs ds, x = .ref a ∧ d = .tuple ds ∧ SqT K H a xs ∧ xs.length ≤ 40 ∧ Paired (Rdr K H n) xs ds) ∨ (∃ a xs ds, x = .ref a ∧ d = .list ds ∧ SqL K H a xs ∧ xs.length ≤ 40 ∧ Paired (Rdr K H n) xs ds)
def bnd : Nat → Nat
  | 0 => 100
  | n + 1 => 40 * (bnd n + 2) + 10
theorem bnd_le (n : Nat) : bnd n ≤ bnd (n + 1) := by
  show _ ≤ 40 * (bnd n + 2) + 10
  omega
theorem bnd_mono {n m : Nat} (h : n ≤ m) : bnd n ≤ bnd m := by
  induction h with
  | refl => exact Nat.le_refl _
  | step _ ih => exact Nat.le_trans ih (bnd_le _)
theorem piled_le {B : Nat} : ∀ {ts : List Str}, (∀ t ∈ ts, t.length ≤ B) → piled ts ≤ ts.length * (B + 2)
  | [], _ => by rw [piled_nil]; exact Nat.zero_le _
  | t :: r, h => by
    have a := h t (.head _)
    have b := piled_le (ts := r) fun z hz => h z (.tail _ hz)
    rw [piled_cons, List.length_cons, Nat.succ_mul]
    omega
theorem tupLen (ts : List Str) : (tupleText ts).length ≤ piled ts + 3 := by
  have e1 : ((("(" : String) : Str)).length = 1 := rfl
  have e2 : ((",)" : String) : Str).length = 2 := rfl
  have e3 : ((")" : String) : Str).length = 1 := rfl
  unfold tupleText
  rw [strLen_append, strLen_append, e1]
  have hj : (Str.join ", " ts).length ≤ piled ts := by
    by_cases h : ts = []
    · subst h
      exact Nat.le_refl 0
    · have := join_length_add ts h
      omega
  split
  · rw [e2]
    omega
  · rw [e3]
    omega
structure RdOk (n : Nat) (d : PyData) : Prop where
  sh : d.showable = true
  dp : d.depth ≤ n
  le : d.shown.length ≤ bnd n
  nd : d.hasDict = false
theorem RdOk.all {K : PySem.W.Frag} {H : Hp} {n : Nat} : ∀ {xs : List V} {ds : List PyData}, Paired (Rdr K H n) xs ds → (∀ x d, Rdr K H n x d → RdOk n d) →
    PyData.showableAll ds = true ∧ PyData.depthAll ds ≤ n ∧ (∀ t ∈ PyData.shownAll ds, t.length ≤ bnd n) ∧ (PyData.shownAll ds).length = xs.length ∧ PyData.hasDictAll ds = false
  | _, _, .nil, _ => ⟨rfl, Nat.zero_le _, nofun, rfl, rfl⟩
  | _, _, .cons r t, h => by
    obtain ⟨a1, a2, a3, a4⟩ := h _ _ r
    obtain ⟨b1, b2, b3, b4, b5⟩ := RdOk.all t h
    refine ⟨?_, ?_, fun z hz => ?_, ?_, ?_⟩
    · show (_ && _) = true
      rw [a1, b1]
      rfl
    · show max _ _ ≤ n
      omega
    · cases hz with
      | head => exact a3
      | tail _ hz => exact b3 z hz
    · show _ + 1 = _ + 1
      rw [b4]
    · show (_ || _) = false
      rw [a4, b5]
      rfl
theorem Rdr.ok {K : PySem.W.Frag} {H : Hp} : ∀ (n : Nat) {x : V} {d : PyData}, Rdr K H n x d → RdOk n d
  | 0, _, _, h => by
    obtain ⟨a, b, c, e⟩ := tiny_ok h
    exact ⟨a, by omega, c, e⟩
  | n + 1, _, _, h => by
    rcases h with h | ⟨a, xs, ds, rfl, rfl, _, l, p⟩ | ⟨a, xs, ds, rfl, rfl, _, l, p⟩
    · obtain ⟨a, b, c, e⟩ := Rdr.ok n h
      exact ⟨a, by omega, Nat.le_trans c (bnd_le n), e⟩
    · obtain ⟨b1, b2, b3, b4, b5⟩ := RdOk.all p fun _ _ => Rdr.ok n
      have pl := piled_le b3
      have tl := tupLen (PyData.shownAll ds)
      have m : (PyData.shownAll ds).length * (bnd n + 2) ≤ 40 * (bnd n + 2) := Nat.mul_le_mul_right _ (by omega)
      refine ⟨b1, show PyData.depthAll ds + 1 ≤ n + 1 by omega, ?_, b5⟩
      show (tupleText (PyData.shownAll ds)).length ≤ 40 * (bnd n + 2) + 10
      omega
    · obtain ⟨b1, b2, b3, b4, b5⟩ := RdOk.all p fun _ _ => Rdr.ok n
      have pl := piled_le b3
      have tl := listLen (PyData.shownAll ds)
      have m : (PyData.shownAll ds).length * (bnd n + 2) ≤ 40 * (bnd n + 2) := Nat.mul_le_mul_right _ (by omega)
      refine ⟨b1, show PyData.depthAll ds + 1 ≤ n + 1 by omega, ?_, b5⟩
      show (listText (PyData.shownAll ds)).length ≤ 40 * (bnd n + 2) + 10
      omega
section
variable {X : Cx} {pins : List (Addr × Obj)} {σ : L2.St} {H : Hp} {s : Shared}
theorem reads_all {n : Nat} (ih : ∀ {x : V} {d : PyData} {u : Value}, Rdr X.K H n x d → RelV x u → ∃ as, Reads s.heap u d as) : ∀ {xs : List V} {ds : List PyData} {us : List Value}, Paired (Rdr X.K H n) xs ds → Vals xs us → ∃ as, ReadsAll s.heap us ds as
  | _, _, _, .nil, .nil => ⟨_, .nil⟩
  | _, _, _, .cons r t, .cons q k => by
    obtain ⟨_, a⟩ := ih r q
    obtain ⟨_, b⟩ := reads_all ih t k
    exact ⟨_, .cons a b⟩
theorem Rdr.reads (I : Inv X pins σ H s) : ∀ (n : Nat) {x : V} {d : PyData} {u : Value}, Rdr X.K H n x d → RelV x u → ∃ as, Reads s.heap u d as
  | 0, _, _, _, h, r => ⟨_, tiny_reads h r⟩
  | n + 1, _, _, u, h, r => by
    rcases h with h | ⟨a, xs, ds, rfl, rfl, ht, _, p⟩ | ⟨a, xs, ds, rfl, rfl, hl, _, p⟩
    · exact Rdr.reads I n h r
    · cases (show u = Value.ref a from r)
      obtain ⟨its, rv, ⟨o, ho, hc, k, hd⟩, _⟩ := I.tuple ht
      obtain ⟨as, q⟩ := reads_all (fun h r => Rdr.reads I n h r) p rv
      exact ⟨_, .tuple ho hc hd (by simpa using q)⟩
    · cases (show u = Value.ref a from r)
      obtain ⟨its, rv, pl, _⟩ := I.list hl
      obtain ⟨o, ho, hc, k, hd⟩ := pl.isList
      obtain ⟨as, q⟩ := reads_all (fun h r => Rdr.reads I n h r) p rv
      exact ⟨_, .list ho hc hd (by simpa using q)⟩
end
/-- repr of such a list, such a tuple -/
def rReprX (K : PySem.W.Frag) : List V → Hp → VK → Prop := fun xs H Q => ∃ (n : Nat) (a : Addr) (d : PyData), xs = [.ref a] ∧ n ≤ 3 ∧ Rdr K H n (.ref a) d ∧ Q (.str d.shown) H
theorem call_reprX {X : Cx} (hg : X.A.guards = some []) (hu : X.A.units + 64 < cLine) : CallR X (.builtin "repr") (rReprX X.K) := by
  intro pins s σ H xs us Q I r h
  obtain ⟨n, a, d, rfl, hn, hr, q⟩ := h
  obtain ⟨u, rfl, ru⟩ := vals1 r
  cases (show u = Value.ref a from ru)
  obtain ⟨as, rd⟩ := Rdr.reads I n hr (show RelV (.ref a) (.ref a) from rfl)
  obtain ⟨b1, b2, b3, b4⟩ := Rdr.ok n hr
  have lid : d.shown.length ≤ sizeLine := Nat.le_trans b3 (Nat.le_trans (bnd_mono hn) (by decide))
  exact repr_of_reads' rd b1 (fun z => absurd (b4.symm.trans z) Bool.false_ne_true) hg (by omega) (fun _ _ e => e) (fun h' u tk hk => ⟨.str d.shown, H, I.kept (t' := tk) hk, ⟨u, rfl⟩, q⟩) lid
theorem Rdr.up {K : PySem.W.Frag} {H : Hp} {n : Nat} {x : V} {d : PyData} (h : Rdr K H n x d) : Rdr K H (n + 1) x d := .inl h
theorem Rdr.tiny {K : PySem.W.Frag} {H : Hp} {x : V} {d : PyData} (h : tiny x = some d) : ∀ n, Rdr K H n x d
  | 0 => h
  | n + 1 => .inl (Rdr.tiny h n)
theorem Rdr.tup {K : PySem.W.Frag} {H : Hp} {n : Nat} {a : Addr} {xs : List V} {ds : List PyData} (h : SqT K H a xs) (l : xs.length ≤ 40) (p : Paired (Rdr K H n) xs ds) : Rdr K H (n + 1) (.ref a) (.tuple ds) := .inr (.inl ⟨a, xs, ds, rfl, rfl, h, l, p⟩)
theorem Rdr.lst {K : PySem.W.Frag} {H : Hp} {n : Nat} {a : Addr} {xs : List V} {ds : List PyData} (h : SqL K H a xs) (l : xs.length ≤ 40) (p : Paired (Rdr K H n) xs ds) : Rdr K H (n + 1) (.ref a) (.list ds) := .inr (.inr ⟨a, xs, ds, rfl, rfl, h, l, p⟩)
theorem Rdr.sm {K : PySem.W.Frag} {H H' : Hp} (s : ∀ b o, H b = some o → H' b = some o) : ∀ (n : Nat) {x : V} {d : PyData}, Rdr K H n x d → Rdr K H' n x d
  | 0, _, _, h => h
  | n + 1, _, _, h => by
    have pm : ∀ {xs : List V} {ds : List PyData}, Paired (Rdr K H n) xs ds → Paired (Rdr K H' n) xs ds := fun {xs ds} p => by
      induction p with
      | nil => exact .nil
      | cons r _ ih => exact .cons (Rdr.sm s n r) ih
    rcases h with h | ⟨a, xs, ds, e1, e2, ht, l, p⟩ | ⟨a, xs, ds, e1, e2, hl, l, p⟩
    · exact .inl (Rdr.sm s n h)
    · refine .inr (.inl ⟨a, xs, ds, e1, e2, ?_, l, pm p⟩)
      rcases ht with (e | ⟨o, e⟩) | z
      · exact .inl (.inl (s _ _ e))
      · exact .inl (.inr ⟨o, s _ _ e⟩)
      · exact .inr z
    · refine .inr (.inr ⟨a, xs, ds, e1, e2, ?_, l, pm p⟩)
      rcases hl with (e | ⟨o, e⟩) | z
      · exact .inl (.inl (s _ _ e))
      · exact .inl (.inr ⟨o, s _ _ e⟩)
      · exact .inr z
end E10

set_option Elab.async false
set_option linter.all false
set_option maxRecDepth 100000
set_option maxHeartbeats 4000000
namespace E10
open L2 PySem PySem.Spec PyProof.Rows
section
variable {X : Cx} {k n : Nat} {f C : Addr} {fd : FuncData} {ps ks : List Str} {sp : Sp}
/-! ### a method called with keywords alone -/
def tMethKw (C : Addr) (m : Str) (many : Nat) (sp : Sp) (gV : List V → List V → List V) (ta : TE) (tk : TA) : TE := fun σ H Q => ta σ H fun x H1 => ∃ a dx fs, x = .ref a ∧ H1 a = some (.ins C dx fs) ∧ fs.lookup m = none ∧ tk σ H1 fun zs H2 => zs.length = many ∧ sp (gV [x] zs) H2 Q E0
theorem pe_methKw {o : Expr} {m : Str} {kws : List Keyword} {apos pos : Pos} {ta : TE} {tk : TA} {g : List Value → List Value → List Value} {gV : List V → List V → List V} {pl : Sem Bool} (he : PE X o ta) (c : Cls X.K C) (hm : Meth X.K C m f) (F : FnOk X.prog X.w X.K X.mg X.base CX0 k f fd ps sp) (hr : Room k X.A)
    (hb : KBn X.K fd ps 1 ks g gV) (hkw : PK X kws tk) (hall : (backToKw pos (keywordEach kws X.env)).all (·.1.isSome) = true := by rfl) (hks : (backToKw pos (keywordEach kws X.env)).filterMap (·.1) = ks := by rfl)
    (hpl : ((backTo pos (starEach [] X.env)).any (·.1) || (backToKw pos (keywordEach kws X.env)).any (·.1.isNone)) = false := by rfl)
    (ht : eval (.Call (.Attribute o m apos) [] kws pos) X.env = (do
      let ov ← eval o X.env
      standAt apos.atName
      let (f, first) ← holding [ov] (getMethod ov m pl)
      callWith pos f first (backTo pos (starEach [] X.env)) (backToKw pos (keywordEach kws X.env))) := by rfl) : PE X (.Call (.Attribute o m apos) [] kws pos) (tMethKw C m ks.length sp gV ta tk) := by
  refine ⟨fun pins s σ H Q I h => ?_⟩
  refine PySem.W.methodCall_KW (pl := pl) (thn (he.run pins s σ H _ I h) fun u s1 ⟨x, H1, I1, rx, a, dx, fs, ex, ea, l, q⟩ => ?_) ht
  subst ex
  obtain rfl : u = Value.ref a := rx
  refine getmeth_ok I1 ea c hm l ?_
  refine PySem.W.callWith_KW0 (first := [.ref a]) (h₀ := X.base) I.ok.mod.kin hm.kp hall (thn (hkw.run pos pins s1 σ H1 _ I1 q) fun ws s2 ⟨zs, H2, I2, rz, l2, q2⟩ => ⟨I2.kIn, ?_⟩) hpl
  rw [hks]
  exact run_fnN (n := 1) (us := [.ref a]) (vs := [.ref a]) F hr hb pass0 I2 (.cons rfl .nil) rz rfl l2 q2
/-! ### o[i], x in o of an own object -/
def tSubO (C : Addr) (sp : Sp) (ta ti : TE) : TE := fun σ H Q => ta σ H fun x H1 => ti σ H1 fun y H2 => ∃ a dx fs, x = .ref a ∧ H2 a = some (.ins C dx fs) ∧ sp [x, y] H2 Q E0
def rInO (C : Addr) (sp : Sp) (neg : Bool) : R2 := fun x y H Q => ∃ a dx fs, y = .ref a ∧ H a = some (.ins C dx fs) ∧ sp [y, x] H (fun v H' => ∃ b, v = .bl b ∧ Q (.bl (if neg then !b else b)) H') E0
theorem op_inO (F : FnG X.prog X.w X.K X.mg X.base k f fd ps sp) (hG : X.A.guards = some []) (room : Room k X.A) (bi : Binds X.K fd ps []) (h : Has X.K C f "__contains__") : OpR X (compareOp .In) (rInO C sp false) := by
  intro pins s σ H x y v u Q I rx ry h0
  obtain ⟨a, dx, fs, rfl, ha, q⟩ := h0
  cases (show u = Value.ref a from ry)
  obtain ⟨mA, O, _⟩ := ins_get I.hok ha
  obtain ⟨od, J, _⟩ := O.look
  obtain ⟨m, hF⟩ := I.fr
  refine PySem.W.in_K hF I.ok.mod.kin J h.at_ h.fn (wpAny_mono (run_at (vs := [.ref a, x]) F rfl hG room bi I (.cons rfl (.cons rx .nil)) q) (fun r s' hr => ?_) fun _ _ z => z)
  obtain ⟨v', H', I', rv, b, rfl, q'⟩ := hr
  cases (show r = Value.bool b from rv)
  exact wpAny_truthy_bool ⟨.bl b, H', I', rfl, q'⟩
theorem op_notInO (F : FnG X.prog X.w X.K X.mg X.base k f fd ps sp) (hG : X.A.guards = some []) (room : Room k X.A) (bi : Binds X.K fd ps []) (h : Has X.K C f "__contains__") : OpR X (compareOp .NotIn) (rInO C sp true) := by
  intro pins s σ H x y v u Q I rx ry h0
  obtain ⟨a, dx, fs, rfl, ha, q⟩ := h0
  cases (show u = Value.ref a from ry)
  obtain ⟨mA, O, _⟩ := ins_get I.hok ha
  obtain ⟨od, J, _⟩ := O.look
  obtain ⟨m, hF⟩ := I.fr
  refine PySem.W.notIn_K hF I.ok.mod.kin J h.at_ h.fn (wpAny_mono (run_at (vs := [.ref a, x]) F rfl hG room bi I (.cons rfl (.cons rx .nil)) q) (fun r s' hr => ?_) fun _ _ z => z)
  obtain ⟨v', H', I', rv, b, rfl, q'⟩ := hr
  cases (show r = Value.bool b from rv)
  exact wpAny_truthy_bool ⟨.bl (!b), H', I', rfl, q'⟩
theorem pe_ixO {a b : Expr} {ta tb : TE} {pos : Pos} (F : FnG X.prog X.w X.K X.mg X.base k f fd ps sp) (hG : X.A.guards = some []) (room : Room (k + 1) X.A) (bi : Binds X.K fd ps []) (h : Has X.K C f "__getitem__") (fi : PySem.W.fnIn X.K f = true) (ha : PE X a ta) (hb : PE X b tb)
    (hs : ∀ (x : Addr) (i : Value), subscripted b true (.ref x) i = runValue (.builtin "lifetime.subscript" ⟨[.ref x, i], []⟩) := by intro x i; with_unfolding_all rfl) :
    PE X (.Subscript a b pos) (tOp (fun x y H Q => ∃ a dx fs, x = .ref a ∧ H a = some (.ins C dx fs) ∧ sp [x, y] H Q E0) ta tb) := by
  refine ⟨fun pins s σ H Q I h => ?_⟩
  refine Subscript_ (binT ha hb I h fun v u s2 x y H2 I2 rx ry q => ?_)
  obtain ⟨a, dx, fs, rfl, ha, q⟩ := q
  cases (show v = Value.ref a from rx)
  obtain ⟨mA, O, _⟩ := ins_get I2.hok ha
  obtain ⟨od, J, _⟩ := O.look
  obtain ⟨m, hF⟩ := I2.fr
  exact PySem.W.sub_K hF I2.ok.mod.kin J ‹Has X.K C f "__getitem__"›.at_ fi ‹Has X.K C f "__getitem__"›.fn (run_at (vs := [.ref a, y]) F rfl hG room.in1 bi I2 (.cons rfl (.cons ry .nil)) q) (hs a u)
end
end E10

set_option Elab.async false
set_option linter.all false
set_option maxRecDepth 100000
set_option maxHeartbeats 4000000
/-! ### tuple(d): the keys of a dict -/
namespace E10
open L2 PySem PySem.Spec PyProof.Rows
section
variable {prog : Program} {w : World} {A : Around} {E : Value → Shared → Prop} {s : Shared}
theorem meets_tuple_src {d : Addr} {n : Nat} {Pv : Nat → Value → Prop} {OK : Heap → Prop} (KS : PySem.W.KdlSrc prog w "dict" d d n Pv OK) (hn : n ≤ sizeLine) :
    MeetsIn prog w (Builtin.«tuple.__new__» ⟨[.type "tuple", .ref d], []⟩)
      (fun A R s => A.handled = none ∧ OK s.heap ∧ ∀ (h' : Heap) (tk : Nat) (acc : Array Value), (∀ b o, s.heap.get? b = some o → h'.get? b = some o) → ItemsOf Pv acc n →
        R (.ok (.ret (.ref h'.objs.size))) { s with heap := h'.push { cls := .type "tuple", data := .seq acc }, toks := tk }) :=
  .of_wp fun A R s h => by
    obtain ⟨hh, ok, h⟩ := h
    have hsub := PySem.sub_tuple_self
    have hinit := PySem.init_tuple_lookup
    have hmh := PySem.madeHere_tuple
    have hT : s.TypeIs (.ref d) "dict" := KS.type _ ok
    have hh1 : A.in1.handled = none := hh
    have hcol : ∀ {R' : List Value → Shared → Prop} {E' : Value → Shared → Prop}, (∀ (h' : Heap) (tk : Nat) (acc : Array Value), (∀ b o, s.heap.get? b = some o → h'.get? b = some o) → ItemsOf Pv acc n → R' acc.toList { s with heap := h', toks := tk }) → wpAny (model prog w) A.in1 (collect (.ref d)) R' E' s :=
      fun h => PySem.W.kdu_collect KS hh1 ok hn h
    wp_walk using wpAny_typeOf hT, hcol
    intro h' tk acc hk hacc
    show wpAny _ _ (Builtin.Tuple.tupleExact acc.toList.toArray >>= fun v => ret v) _ _ _
    unfold Builtin.Tuple.tupleExact
    refine wpAny_bind (wpAny_newObj_type ?_ (show acc.toList.toArray.size ≤ sizeLine by simp only [Array.toArray_toList]; rw [hacc.1]; exact hn))
    refine wpAny_pure ⟨_, rfl, ?_⟩
    have e : acc.toList.toArray = acc := by simp
    rw [e]
    exact h h' tk acc hk hacc
theorem call_tuple_src {d : Addr} {n : Nat} {Pv : Nat → Value → Prop} {OK : Heap → Prop} {Q : Value → Shared → Prop} (KS : PySem.W.KdlSrc prog w "dict" d d n Pv OK) (hn : n ≤ sizeLine) (hh : A.handled = none) (ok : OK s.heap)
    (h : ∀ (h' : Heap) (tk : Nat) (acc : Array Value), (∀ b o, s.heap.get? b = some o → h'.get? b = some o) → ItemsOf Pv acc n → Q (.ref h'.objs.size) { s with heap := h'.push { cls := .type "tuple", data := .seq acc }, toks := tk }) :
    wpAny (model prog w) A (call (.type "tuple") [.ref d]) Q E s := by
  refine callType_newIn PySem.F.called_tuple (by decide) (PySem.F.typeCall_tuple_1 _) (PySem.F.newCall_tuple_1 _) (fun obj => PySem.F.args_object_init_2 obj _) PySem.F.entry_tuple_new (meets_tuple_src KS hn) ⟨hh, ok, fun h' tk acc hk hacc => ⟨⟨_, Heap.get?_push_size _ rfl, rfl⟩, h h' tk acc hk hacc⟩⟩
end
theorem new_same0 {H : Hp} {p : Addr} {o : HO} (np : H p = none) : Same H (upd H p o) := fun c u e => (upd_ne (ne_of_none e np)).trans e
/-- tuple(d): its keys -/
theorem call_tupleD {X : Cx} (hcalm : X.calm = true) : CallR X (.type "tuple") (fun xs H Q => ∃ (a : Addr) (kvs : List (Key × V)), xs = [.ref a] ∧ Rd H a (.dK kvs) ∧ ∀ p H', H p = none → Same H H' → H' p = some (.tup (kvs.map fun kv => kV kv.1)) → Q (.ref p) H') := by
  intro pins s σ H xs us Q I r q
  obtain ⟨a, kvs, ex, hd, q⟩ := q
  subst ex
  obtain ⟨u, eu, rx⟩ := vals1 r
  subst eu
  cases rx
  obtain ⟨z, lo, vs, rel, dd⟩ := dk_rd I.hok hd
  obtain ⟨ep, hat⟩ := dd.dictAt
  have ek : (kvs.map fun kv => kV kv.1) = vs.map fun p => kV p.1 := by
    have e := congrArg (List.map kV) rel.keys
    rw [List.map_map, List.map_map] at e
    exact e
  refine call_tuple_src (PySem.W.kdl_dict (knd := mixKind X.prog X.w) (kvs := vs) (ep := ep) lo) (by rw [← rel.length]; exact z) (I.ok.hd hcalm) hat fun h' tk acc hk hacc => ?_
  have hv : Vals (vs.map fun p => kV p.1) acc.toList := keys_at (by rw [Array.length_toList]; exact hacc.1) fun j v e => hacc.2 j v (by rw [← Array.getElem?_toList]; exact e)
  have I1 : Inv X pins σ H { s with heap := h', toks := tk } := I.kept (t' := tk) hk
  have I2 : Inv X pins σ (upd H h'.objs.size (.tup (kvs.map fun kv => kV kv.1))) { s with heap := h'.push { cls := .type "tuple", data := .seq acc }, toks := tk } :=
    I1.laid (t' := tk) (fun b o e => Heap.get?_push_of_some _ e) (Nat.le_refl _) (show ObjOk X.prog X.w _ _ _ (.tup (kvs.map fun kv => kV kv.1)) from ⟨by rw [List.length_map]; exact z, acc.toList, by rw [ek]; exact hv, by rw [Array.toArray_toList]; exact IsTup.new _ _⟩)
  have np := I1.hok.fresh (Nat.le_refl _)
  exact ⟨.ref h'.objs.size, _, I2, rfl, q _ _ np (new_same0 np) upd_same⟩
end E10

set_option Elab.async false
set_option linter.all false
set_option maxRecDepth 100000
set_option maxHeartbeats 4000000
/-! ### {d!r} of a dict of small things -/
namespace E10
open L2 PySem PySem.Spec PyProof.Rows
section
variable {X : Cx}
def tFmtRD (te : TE) : TE := fun σ H Q => te σ H fun x H1 => ∃ a ys ds, x = .ref a ∧ H1 a = some (.dK ys) ∧ ys.length ≤ 40 ∧ Paired TinyP ys ds ∧ Q (.str (PyData.dict ds).shown) H1
theorem pe_fmtRD {e : Expr} {te : TE} {pos : Pos} (hg : X.A.guards = some []) (hu : X.A.units + 64 < cLine) (he : PE X e te) : PE X (.FormattedValue e 114 none pos) (tFmtRD te) := by
  refine ⟨fun pins s σ H Q I h => ?_⟩
  refine wpAny_FormattedValue_repr (thn (he.run pins s σ H _ I h) fun v s1 hv => ?_)
  obtain ⟨x, H1, I1, r1, a, ys, ds, rfl, ha, hl, hp, q⟩ := hv
  cases (show v = Value.ref a from r1)
  obtain ⟨_, ns, vs, rel, o, es, ep, h1, ex, h3, _, prs, _⟩ := (show ObjOk X.prog X.w H1 s1.heap a (.dK ys) from I1.hok a _ ha)
  have na : sysModules ≠ a := fun z => by rw [z] at ns; simp at ns
  obtain ⟨o1, o2, o3⟩ := dict_ok hp
  obtain ⟨r1, r2⟩ := dict_reads (h := s1.heap) hp rel prs
  have rd : Reads s1.heap (.ref a) (.dict ds) (a :: [] ++ []) := .dict h1 ex.1 h3 r1 r2
  have hd : (PyData.dict ds).depth = 1 := by
    show PyData.depthKv ds + 1 = 1
    rw [o2]
  have lid : (PyData.dict ds).shown.length ≤ sizeLine := by
    have l1 := dictLen (PyData.shownKv ds)
    show (dictText (PyData.shownKv ds)).length ≤ _
    have : (9000 : Nat) ≤ sizeLine := by decide
    omega
  refine pyReprObj_of_reads rd o1 (fun _ => by simp [na]) hg (by omega) (fun _ _ e => e) (fun h' u tk hk => ?_) lid
  have I2 : Inv X pins σ H1 { s1 with heap := h', toks := tk } := I1.kept (t' := tk) hk
  exact wpAny_formatField_str ⟨.str (PyData.dict ds).shown, H1, I2.tok _, ⟨_, rfl⟩, q⟩ ⟨.str (PyData.dict ds).shown, H1, I2.tok _, ⟨_, rfl⟩, q⟩ lid
end
end E10

set_option Elab.async false
set_option linter.all false
set_option maxRecDepth 100000
set_option maxHeartbeats 4000000
/-! ### len(a), x in a: own objects -/
namespace E10
open L2 PySem PySem.Spec PyProof.Rows
section
variable {X : Cx} {k : Nat} {f C : Addr} {fd : FuncData} {ps : List Str} {sp : Sp}
theorem lenBack {pins : List (Addr × Obj)} {σ : L2.St} {Q : VK} {u : Value} {s' : Shared} (h : EP X pins σ (fun v H' => ∃ n : Nat, v = .int n ∧ n < 2 ^ 62 ∧ Q (.int n) H') u s') : PySem.W.LenBack (EP X pins σ Q) u s' := by
  obtain ⟨v, H', I, r, n, rfl, hn, q⟩ := h
  obtain ⟨t, rfl⟩ := (show ∃ t, u = Value.int n t from r)
  exact ⟨⟨by omega, by omega⟩, .int n, H', I.tok _, ⟨_, rfl⟩, q⟩
def rLenO (C : Addr) (sp : Sp) : List V → Hp → VK → Prop := fun xs H Q => ∃ (a dx : Addr) (fs : List (Str × V)), xs = [.ref a] ∧ H a = some (.ins C dx fs) ∧ sp [.ref a] H (fun v H' => ∃ n : Nat, v = .int n ∧ n < 2 ^ 62 ∧ Q (.int n) H') E0
theorem call_lenO (F : FnG X.prog X.w X.K X.mg X.base k f fd ps sp) (hG : X.A.guards = some []) (room : Room (k + 1) X.A) (bi : Binds X.K fd ps []) (h : Has X.K C f "__len__") : CallR X (.builtin "len") (rLenO C sp) := by
  intro pins s σ H xs us Q I r h0
  obtain ⟨a, dx, fs, rfl, ha, q⟩ := h0
  obtain ⟨u, rfl, ru⟩ := vals1 r
  cases (show u = Value.ref a from ru)
  obtain ⟨mA, O, _⟩ := ins_get I.hok ha
  obtain ⟨od, J, _⟩ := O.look
  obtain ⟨m, hF⟩ := I.fr
  refine PySem.W.len_K hF I.ok.mod.kin J h.at_ h.fn ?_
  exact wpAny_mono (run_at (vs := [.ref a]) F rfl hG room.in1 bi I (.cons rfl .nil) q) (fun _ _ z => lenBack z) fun _ _ z => z
end
end E10

set_option Elab.async false
set_option linter.all false
set_option maxRecDepth 100000
set_option maxHeartbeats 4000000
/-! ### methods where no text of a container is being made; a staticmethod with keywords alone -/
namespace E10
open L2 PySem PySem.Spec PyProof.Rows
section
variable {X : Cx} {k n : Nat} {f C : Addr} {fd : FuncData} {ps ks : List Str} {sp : Sp}
theorem pe_methG {o e : Expr} {es : List Expr} {m : Str} {apos pos : Pos} {ta : TE} {t : TA} {pl : Sem Bool} (he : PE X o ta) (c : Cls X.K C) (hm : Meth X.K C m f) (F : FnG X.prog X.w X.K X.mg X.base k f fd ps sp) (hG : X.A.guards = some []) (hr : Room k X.A) (hb : Binds X.K fd ps []) (ha : PA X (e :: es) t)
    (hst : starEach (e :: es) X.env = (false, eval e X.env) :: starEach es X.env := by rfl) (hpl : (backTo pos (starEach es X.env)).any (·.1) = false := by rfl)
    (ht : eval (.Call (.Attribute o m apos) (e :: es) [] pos) X.env = (do
      let ov ← eval o X.env
      standAt apos.atName
      let (f, first) ← holding [ov] (getMethod ov m pl)
      callWith pos f first (backTo pos (starEach (e :: es) X.env)) (backToKw pos (keywordEach [] X.env))) := by rfl) :
    PE X (.Call (.Attribute o m apos) (e :: es) [] pos) (tMeth C m sp [] E0 ta t) := by
  refine ⟨fun pins s σ H Q I h => ?_⟩
  refine PySem.W.methodCall_KW (pl := pl) (thn (he.run pins s σ H _ I h) fun u s1 ⟨x, H1, I1, rx, a, dx, fs, ex, ea, l, q⟩ => ?_) ht
  subst ex
  obtain rfl : u = Value.ref a := rx
  refine getmeth_ok I1 ea c hm l ?_
  refine PySem.W.callWith_K (first := [.ref a]) (h₀ := X.base) I.ok.mod.kin hm.kp (thn (ha.run pos pins s1 σ H1 _ I1 q) fun us s2 ⟨vs, H2, I2, r, q2⟩ => ⟨I2.kIn, ?_⟩) hst hpl
  have q2' : sp (.ref a :: (vs ++ [])) H2 Q E0 := q2
  rw [List.append_nil] at q2'
  exact run_at (vs := .ref a :: vs) F rfl hG hr hb I2 (.cons rfl r) q2'
theorem pe_meth0G {o : Expr} {m : Str} {apos pos : Pos} {ta : TE} {pl : Sem Bool} (he : PE X o ta) (c : Cls X.K C) (hm : Meth X.K C m f) (F : FnG X.prog X.w X.K X.mg X.base k f fd ps sp) (hG : X.A.guards = some []) (hr : Room k X.A) (hb : Binds X.K fd ps [])
    (ht : eval (.Call (.Attribute o m apos) [] [] pos) X.env = (do
      let ov ← eval o X.env
      standAt apos.atName
      let (f, first) ← holding [ov] (getMethod ov m pl)
      callWith pos f first (backTo pos (starEach [] X.env)) (backToKw pos (keywordEach [] X.env))) := by rfl) :
    PE X (.Call (.Attribute o m apos) [] [] pos) (tMeth C m sp [] E0 ta tNil) := by
  refine ⟨fun pins s σ H Q I h => ?_⟩
  refine PySem.W.methodCall_KW (pl := pl) (thn (he.run pins s σ H _ I h) fun u s1 ⟨x, H1, I1, rx, a, dx, fs, ex, ea, l, q⟩ => ?_) ht
  subst ex
  obtain rfl : u = Value.ref a := rx
  refine getmeth_ok I1 ea c hm l ?_
  exact PySem.W.callWith_K0 (first := [.ref a]) I1.kIn hm.kp (run_at (vs := [.ref a]) F rfl hG hr hb I1 (.cons rfl .nil) q)
theorem run_atN {pins : List (Addr × Obj)} {σ : L2.St} {H : Hp} {s : Shared} {Q : VK} {us ws : List Value} {vs zs : List V} {g : List Value → List Value → List Value} {gV : List V → List V → List V} (F : FnG X.prog X.w X.K X.mg X.base k f fd ps sp) (hG : X.A.guards = some []) (hr : Room k X.A) (hb : KBn X.K fd ps n ks g gV)
    (I : Inv X pins σ H s) (r : Vals vs us) (rz : Vals zs ws) (l1 : vs.length = n) (l2 : zs.length = ks.length) (h : sp (gV vs zs) H Q E0) : wpAny (model X.prog X.w) X.A (call (.ref f) us (ks.zip ws)) (EP X pins σ Q) X.xe s := by
  have r2 := hb.rel r rz
  refine wpAny_call (codeAny_mono (F.goes (ar := ⟨us, ks.zip ws⟩) hG hr I.env0 (hb.to s us ws I.kIn (r.length.symm.trans l1) (rz.length.symm.trans l2)) r2 h) fun r s' hq => ?_)
  match r, hq with
  | .error _, z => exact z.elim
  | .ok (.ret _), z => exact I.after z
  | .ok .next, z => exact z.elim
  | .ok .brk, z => exact z.elim
  | .ok .cont, z => exact z.elim
theorem pe_methKwG {o : Expr} {m : Str} {kws : List Keyword} {apos pos : Pos} {ta : TE} {tk : TA} {g : List Value → List Value → List Value} {gV : List V → List V → List V} {pl : Sem Bool} (he : PE X o ta) (c : Cls X.K C) (hm : Meth X.K C m f) (F : FnG X.prog X.w X.K X.mg X.base k f fd ps sp) (hG : X.A.guards = some []) (hr : Room k X.A)
    (hb : KBn X.K fd ps 1 ks g gV) (hkw : PK X kws tk) (hall : (backToKw pos (keywordEach kws X.env)).all (·.1.isSome) = true := by rfl) (hks : (backToKw pos (keywordEach kws X.env)).filterMap (·.1) = ks := by rfl)
    (hpl : ((backTo pos (starEach [] X.env)).any (·.1) || (backToKw pos (keywordEach kws X.env)).any (·.1.isNone)) = false := by rfl)
    (ht : eval (.Call (.Attribute o m apos) [] kws pos) X.env = (do
      let ov ← eval o X.env
      standAt apos.atName
      let (f, first) ← holding [ov] (getMethod ov m pl)
      callWith pos f first (backTo pos (starEach [] X.env)) (backToKw pos (keywordEach kws X.env))) := by rfl) : PE X (.Call (.Attribute o m apos) [] kws pos) (tMethKw C m ks.length sp gV ta tk) := by
  refine ⟨fun pins s σ H Q I h => ?_⟩
  refine PySem.W.methodCall_KW (pl := pl) (thn (he.run pins s σ H _ I h) fun u s1 ⟨x, H1, I1, rx, a, dx, fs, ex, ea, l, q⟩ => ?_) ht
  subst ex
  obtain rfl : u = Value.ref a := rx
  refine getmeth_ok I1 ea c hm l ?_
  refine PySem.W.callWith_KW0 (first := [.ref a]) (h₀ := X.base) I.ok.mod.kin hm.kp hall (thn (hkw.run pos pins s1 σ H1 _ I1 q) fun ws s2 ⟨zs, H2, I2, rz, l2, q2⟩ => ⟨I2.kIn, ?_⟩) hpl
  rw [hks]
  exact run_atN (n := 1) (us := [.ref a]) (vs := [.ref a]) F hG hr hb I2 (.cons rfl .nil) rz rfl l2 q2
/-- C.m, m a staticmethod -/
structure SMet (K : PySem.W.Frag) (C : Addr) (mc : Value) (m : Str) (p g : Addr) : Prop where
  at_ : PySem.W.findCls K (.ref C) mc m = some (.get (.builtin "staticmethod.__get__") (.ref p) .none (.ref C))
  rc : ∃ rest, PySem.W.recIn K p "staticmethod" = some (.ref g :: rest)
  kp : PySem.W.keepIn K (.ref g) = true
theorem getmethsm_ok {pins : List (Addr × Obj)} {σ : L2.St} {H : Hp} {s : Shared} {p g : Addr} {mc : Value} {m : Str} {A : Around} {E : Value → Shared → Prop} {pl : Sem Bool} {Q : Value × List Value → Shared → Prop} (I : Inv X pins σ H s) (r : ClX.CRead X.K C mc) (k : SMet X.K C mc m p g)
    (h : ∀ s', Inv X pins σ H s' → Q (.ref g, []) s') : wpAny (model X.prog X.w) A (getMethod (.ref C) m pl) Q E s := by
  refine PySem.W.method_cls I.kIn r.ga ?_
  obtain ⟨rest, hp⟩ := k.rc
  refine PySem.W.cls_bind I.kIn r.rd k.at_ ?_
  refine wpAny_call (PySem.W.sm_get (s := { s with toks := s.toks + 1 }) I.kIn hp (PySem.W.handed_on rfl ?_))
  exact h _ (I.tok _)
end
/-! ### keywords into a dict -/
def kwLay (d : Addr) : List (Str × Value) → Sem Unit
  | [] => pure ()
  | (k, v) :: r => nsSet d k v >>= fun _ => kwLay d r
def kwBind (y : Str) (kvs : List (Str × Value)) : Sem (List (Str × Value)) := alloc { cls := .type "dict", data := .dict #[] } >>= fun d => kwLay d kvs >>= fun _ => pure [(y, .ref d)]
section
variable {P : Program} {w : World} {A : Around} {E : Value → Shared → Prop} {s : Shared}
theorem nsSet_dict {d : Addr} {name : Str} {v : Value} {kvs : List (Key × Value)} {Q : Unit → Shared → Prop} (dd : s.heap.DictOf (mixKind P w) d kvs) (new : ∀ p ∈ kvs, p.1 ≠ Sum.inr name)
    (hQ : ∀ h', h'.DictOf (mixKind P w) d (kvs ++ [(Sum.inr name, v)]) → Heap.SameBut d s.heap h' → Q () { s with heap := h', toks := s.toks + 1 }) : wpAny (model P w) A (nsSet d name v) Q E s := fun Γ p r => by
  obtain ⟨o, es, ep, ho, hex, hd, hk, hp, hnd⟩ := dd
  simp only [nsSet, strHash, Sem.wp_bind', Sem.wp_cmd_ask, Sem.wp_pure', Sem.wp_cmd_mkText]
  rw [Sem.wp_loadPart_of (model P w) Γ _ p { s with toks := s.toks + 1 } (o := o) _ ho]
  have shp : ∀ e ∈ es, ∃ k, keyIs k e.key = true ∧ e.hash = (mixKind P w).hash k := hk
  have hany : es.any (·.refKey) = false := by
    rw [Array.any_eq_false']
    intro e he
    obtain ⟨k, h, _⟩ := shp e he
    rcases keyIs_shape h with ⟨i, t, _, e2⟩ | ⟨z, t, _, e2⟩ <;> simp [DictEntry.refKey, e2]
  have hin : ∀ {es' : List DictEntry} {kvs' : List (Key × Value)}, Pairs (mixKind P w) es' kvs' → ∀ e ∈ es', ∃ q ∈ kvs', keyIs q.1 e.key = true := by
    intro es' kvs' h
    induction h with
    | nil => intro e he; cases he
    | cons h1 h2 h3 ih =>
      intro e he
      rcases List.mem_cons.mp he with rfl | he
      · exact ⟨_, .head _, h1⟩
      · obtain ⟨q, hq, z⟩ := ih e he
        exact ⟨q, .tail _ hq, z⟩
  have hno : es.findIdx? (·.key.isStr name) = none := by
    rw [Array.findIdx?_eq_none_iff]
    intro e he
    obtain ⟨q, hq, z⟩ := hin hp e (by simpa using he)
    have ne := new q hq
    rcases keyIs_shape z with ⟨i, t, _, e2⟩ | ⟨y, t, e1, e2⟩
    · simp [e2, Value.isStr]
    · rw [e2]
      have : ¬ y = name := fun c => ne (by rw [e1, c])
      simp [Value.isStr, this]
  simp only [hd, aRefKeyMayBeTheName_eq, aRefKeyMayBeTheNameByArray, hany, Bool.and_false, Bool.false_eq_true, if_false, Sem.wp_cmd_updatePart]
  refine ⟨by rw [ho]; rfl, hQ _ ?_ (Heap.SameBut.update ..)⟩
  obtain ⟨c, dd, dt, sl⟩ := o
  subst hd
  have hh : (if name.cps.isEmpty = true then 0 else reduceHash ((model P w).w.params.strHash name.cps)) = (mixKind P w).hash (Sum.inr name) := rfl
  rw [hh]
  have he : Obj.putName name ((mixKind P w).hash (Sum.inr name)) (Value.str name s.toks) v ⟨c, dd, .dict es ep, sl⟩ = ⟨c, dd, .dict (es.push ⟨(mixKind P w).hash (Sum.inr name), .str name s.toks, v⟩) (ep + 1), sl⟩ := by
    rw [Obj.putName_eq]
    simp only [Obj.putNameByArray, hno]
  refine ⟨_, _, _, Heap.get?_update_self _ ho (by rw [he]; rfl), by rw [he]; exact hex, by rw [he], ?_, ?_, ?_⟩
  · intro e hm
    rcases Array.mem_push.mp hm with hm | rfl
    · exact hk e hm
    · exact ⟨Sum.inr name, by show keyIs (Sum.inr name) (.str name s.toks) = true; simp [keyIs, Value.isStrOf], rfl⟩
  · have app : ∀ {es' : List DictEntry} {kvs' : List (Key × Value)} {e : DictEntry} {q : Key × Value}, Pairs (mixKind P w) es' kvs' → (mixKind P w).is q.1 e.key = true → e.val = q.2 → Pairs (mixKind P w) (es' ++ [e]) (kvs' ++ [q]) := by
      intro es' kvs' e q h h1 h2
      induction h with
      | nil => exact .cons h1 h2 .nil
      | cons a b c ih => exact .cons a b ih
    rw [Array.toList_push]
    exact app hp (by show keyIs (Sum.inr name) (.str name s.toks) = true; simp [keyIs, Value.isStrOf]) rfl
  · rw [List.map_append, List.nodup_append]
    refine ⟨hnd, by simp, fun a ha b hb c => ?_⟩
    have hb' : b = Sum.inr name := by simpa using hb
    obtain ⟨q, hq, rfl⟩ := List.mem_map.mp ha
    exact new q hq (c.trans hb')
theorem kwLay_dict {d : Addr} : ∀ {rows : List (Str × Value)} {kvs : List (Key × Value)} {s : Shared} {Q : Unit → Shared → Prop}, s.heap.DictOf (mixKind P w) d kvs → (kvs.map (fun q : Key × Value => q.1) ++ rows.map (fun r : Str × Value => (Sum.inr r.1 : Key))).Nodup →
    (∀ h' tk, h'.DictOf (mixKind P w) d (kvs ++ rows.map (fun r : Str × Value => ((Sum.inr r.1 : Key), r.2))) → Heap.SameBut d s.heap h' → Q () { s with heap := h', toks := tk }) → wpAny (model P w) A (kwLay d rows) Q E s
  | [], kvs, s, Q, dd, _, hQ => by
    have e : kvs ++ ([] : List (Str × Value)).map (fun r => ((Sum.inr r.1 : Key), r.2)) = kvs := List.append_nil _
    have := hQ s.heap s.toks (by rw [e]; exact dd) ⟨rfl, fun _ _ => rfl⟩
    exact wpAny_pure this
  | (k, v) :: r, kvs, s, Q, dd, nd, hQ => by
    refine wpAny_bind (nsSet_dict dd (fun p hp c => ?_) fun h' dd' sb => ?_)
    · rw [List.map_cons, List.nodup_append] at nd
      exact nd.2.2 _ (List.mem_map.mpr ⟨p, hp, rfl⟩) _ (.head _) c
    · refine kwLay_dict (rows := r) (s := { s with heap := h', toks := s.toks + 1 }) dd' ?_ fun h2 tk dd2 sb2 => ?_
      · rw [List.map_append, List.append_assoc]
        exact nd
      · rw [List.append_assoc] at dd2
        exact hQ h2 tk dd2 ⟨sb2.1.trans sb.1, fun b n => (sb2.2 b n).trans (sb.2 b n)⟩
end
/-- the rows as a dict -/
def kz (ks : List Str) (zs : List V) : List (Key × V) := (ks.zip zs).map fun p => (Sum.inr p.1, p.2)
theorem kz_kv {zs : List V} {ws : List Value} (r : Vals zs ws) : ∀ (ks : List Str), KV (kz ks zs) ((ks.zip ws).map fun r => ((Sum.inr r.1 : Key), r.2)) := by
  induction r with
  | nil => intro ks; cases ks <;> exact .nil
  | cons h _ ih =>
    intro ks
    cases ks with
    | nil => exact .nil
    | cons k ks => exact .cons ⟨rfl, h⟩ (ih ks)
/-- a def of keywords alone -/
structure KwDef (P : Program) (w : World) (K : PySem.W.Frag) (mg : Str → Option Value) (base : Heap) (k : Nat) (f : Addr) (y : Str) (sp : Sp) : Prop where
  ex : ∃ (x qual : Str) (st : Stmt) (N : List Str) (fd : FuncData), Fun K x qual st f fd ∧ FnScope N [y] (defScope st) ∧
    (∀ (ks : List Str), ks.length ≤ 3 → ∀ (kV doc pm : Value) (an : Option Addr) (cdv ct : Value) (ws : List Value), ws.length = ks.length → bindArgs (PySem.W.fnOf x qual (defArgs st) (defBody st) (defScope st) .none kV doc pm an cdv ct) ⟨[], ks.zip ws⟩ = kwBind y (ks.zip ws)) ∧
    (∀ {vs H Q E}, sp vs H Q E → vs.length = 1) ∧
    ∀ (cdv : Value) (A : Around) (fr : List Env) (s : Shared) (H : Hp) (vs : List V) (Q : VK) (E : XK), A.guards = some [] → Room k (A.deeper (envOfC qual (defScope st) s.heap.objs.size f cdv)) → sp vs H Q E →
      ∃ t, PSs (cxOf CX0 P w K mg base N qual (defScope st) f cdv A fr s H E).nox (defBody st) t ∧ t { nx := fun _ H' => Q .non H', rt := Q } (start N vs) H
section
variable {X : Cx} {k : Nat} {f C : Addr} {sp : Sp} {ks : List Str}
theorem kz_len {ks : List Str} {zs : List V} (h : ks.length ≤ 3) : (kz ks zs).length ≤ 3 := by
  unfold kz
  rw [List.length_map, List.length_zip]
  omega
theorem run_kw {pins : List (Addr × Obj)} {σ : L2.St} {H : Hp} {s : Shared} {Q : VK} {y : Str} {zs : List V} {ws : List Value} (D : KwDef X.prog X.w X.K X.mg X.base k f y sp) (hG : X.A.guards = some []) (room : Room (k + 1) X.A) (few : ks.length ≤ 3) (nd : ks.Nodup) (I : Inv X pins σ H s) (r : Vals zs ws) (l : ws.length = ks.length)
    (q : ∀ d H', H d = none → Same H H' → H' d = some (.dK (kz ks zs)) → sp [.ref d] H' Q E0) : wpAny (model X.prog X.w) X.A (call (.ref f) [] (ks.zip ws)) (EP X pins σ Q) X.xe s := by
  obtain ⟨x, qual, st, N, fd, F, S, hbind, len, body⟩ := D.ex
  obtain ⟨oc, od, kV, doc, pm, an, cdv, ct, osl, rfl, lk, code⟩ := F.ex
  have inK := I.kIn
  refine wpAny_call (codeAny_call_function room.depth (inK _ _ lk) rfl S.co S.gen rfl (PySem.W.codeRec_of inK code) ?_)
  rw [hbind ks few kV doc pm an cdv ct ws l]
  unfold kwBind
  have hn := I.hok.fresh (Nat.le_refl s.heap.objs.size)
  have I1 := I.laid (a := s.heap.objs.size) (o := .dK []) (h' := s.heap.push { cls := .type "dict", data := .dict #[] }) (t' := s.toks) (fun _ _ q => Heap.get?_push_of_some _ q) (Nat.le_refl _) (dk_empty s.heap I.big)
  refine wpAny_bind (wpAny_alloc ?_)
  have hm : (s.heap.objs.size == sysModules) = false := beq_eq_false_iff_ne.mpr (Nat.ne_of_gt I.big)
  have dd0 : (s.heap.push { cls := .type "dict", data := .dict #[] }).DictOf (mixKind X.prog X.w) s.heap.objs.size [] := Heap.DictOf.new s.heap
  have ndz : ((([] : List (Key × Value)).map fun q : Key × Value => q.1) ++ (ks.zip ws).map (fun r : Str × Value => (Sum.inr r.1 : Key))).Nodup := by
    have e : (ks.zip ws).map (fun r : Str × Value => (Sum.inr r.1 : Key)) = ks.map Sum.inr := by
      have e2 : (fun r : Str × Value => (Sum.inr r.1 : Key)) = (Sum.inr ∘ Prod.fst) := rfl
      rw [e2, ← List.map_map, List.map_fst_zip (by omega)]
    rw [List.map_nil, List.nil_append, e]
    exact List.pairwise_map.mpr (nd.imp fun h c => h (Sum.inr.inj c))
  refine wpAny_bind (kwLay_dict (s := { s with heap := s.heap.push { cls := .type "dict", data := .dict #[] } }) dd0 ndz fun h' tk dd sb => ?_)
  rw [List.nil_append] at dd
  have he : ∃ q, h'.get? s.heap.objs.size = some q := let ⟨q, _, _, hq, _⟩ := dd; ⟨q, hq⟩
  have I3 : Inv X pins σ (upd (upd H s.heap.objs.size (.dK [])) s.heap.objs.size (.dK (kz ks zs))) { s with heap := h', toks := tk } :=
    d_write (s := { s with heap := s.heap.push { cls := .type "dict", data := .dict #[] } }) I1 (by rw [upd_same]; exact True.intro) sb he (dk_new (Nat.le_trans (kz_len few) (by decide)) hm (kz_kv r ks) dd)
  have want := q s.heap.objs.size (upd (upd H s.heap.objs.size (.dK [])) s.heap.objs.size (.dK (kz ks zs))) hn (fun b o e => by
    have nb := ne_of_none e hn
    rw [upd_ne nb, upd_ne nb]
    exact e) upd_same
  generalize upd (upd H s.heap.objs.size (.dK [])) s.heap.objs.size (.dK (kz ks zs)) = H3 at I3 want
  refine wpAny_pure ?_
  refine wpAny_newFunctionEnv_cells S.kind (fun ⟨n, v⟩ hy => (S.par n (by
    have : n = y := by
      have := List.mem_singleton.mp hy
      exact congrArg Prod.fst this
    rw [this]
    exact .head _)).elim .inl fun q => .inr ⟨q, PySem.W.cellsFrom_some _ _ _ (.inl q)⟩) fun own same s1 x => ?_
  subst same
  have env := I3.env0
  obtain ⟨t, T, wish⟩ := body cdv X.A X.stack { s with heap := h', toks := tk } H3 [.ref s.heap.objs.size] Q E0 hG (room.deeper _) want
  have begun : Inv (cxOf CX0 X.prog X.w X.K X.mg X.base N qual (defScope st) f cdv X.A X.stack { s with heap := h', toks := tk } H3 E0) [] (start N [.ref s.heap.objs.size]) H3 s1 := inv_start (us := [.ref s.heap.objs.size]) S room.hd env rfl (.cons rfl .nil) x
  refine ⟨(env.mod.nolimit.keeps fun c o e => (env.bs c o e).1).keeps x.toInCall.keep, codeAny_func (wpAny_mono (T.nox.run [] s1 _ H3 _ begun wish) (fun fl s2 ends => ?_) fun _ _ z => wpAny_mono z (fun _ _ q => False.elim q) fun _ _ q => False.elim q)⟩
  match fl, ends with
  | .ret _, ⟨v, _, H2, J, rv, q⟩ => exact I3.after ⟨v, H2, J.os, J.bare, J.base, J.hok, rv, q⟩
  | .next, ⟨_, H2, J, q⟩ => exact I3.after ⟨V.non, H2, J.os, J.bare, J.base, J.hok, rfl, q⟩
  | .brk, ⟨_, _, _, q⟩ => exact q.elim
  | .cont, ⟨_, _, _, q⟩ => exact q.elim
/-- C.m(k = v, ..), m a staticmethod of keywords alone -/
def tSKw (m : Nat) (ks : List Str) (sp : Sp) (tk : TA) : TE := fun σ H Q => tk σ H fun zs H1 => zs.length = m ∧ ∀ d H', H1 d = none → Same H1 H' → H' d = some (.dK (kz ks zs)) → sp [.ref d] H' Q E0
theorem pe_skw {o : Expr} {m y : Str} {kws : List Keyword} {apos pos : Pos} {tk : TA} {p : Addr} {mc : Value} {pl : Sem Bool} (he : PE X o (tC (.ref C))) (r : ClX.CRead X.K C mc) (c : SMet X.K C mc m p f) (D : KwDef X.prog X.w X.K X.mg X.base k f y sp) (hG : X.A.guards = some []) (room : Room (k + 1) X.A) (few : ks.length ≤ 3) (nd : ks.Nodup)
    (hkw : PK X kws tk) (hall : (backToKw pos (keywordEach kws X.env)).all (·.1.isSome) = true := by rfl) (hks : (backToKw pos (keywordEach kws X.env)).filterMap (·.1) = ks := by rfl)
    (hpl : ((backTo pos (starEach [] X.env)).any (·.1) || (backToKw pos (keywordEach kws X.env)).any (·.1.isNone)) = false := by rfl)
    (ht : eval (.Call (.Attribute o m apos) [] kws pos) X.env = (do
      let ov ← eval o X.env
      standAt apos.atName
      let (f, first) ← holding [ov] (getMethod ov m pl)
      callWith pos f first (backTo pos (starEach [] X.env)) (backToKw pos (keywordEach kws X.env))) := by rfl) : PE X (.Call (.Attribute o m apos) [] kws pos) (tSKw ks.length ks sp tk) := by
  refine ⟨fun pins s σ H Q I h => ?_⟩
  refine PySem.W.methodCall_KW (pl := pl) (thn (he.run pins s σ H (fun y H1 => y = .ref C ∧ H1 = H) I ⟨rfl, rfl⟩) fun u s1 ⟨x, H1, I1, rx, ex, eh⟩ => ?_) ht
  subst ex eh
  obtain rfl : u = Value.ref C := rx
  refine getmethsm_ok I1 r c fun s2 I2 => ?_
  refine PySem.W.callWith_KW0 (first := []) (h₀ := X.base) I.ok.mod.kin c.kp hall (thn (hkw.run pos pins s2 σ H1 _ I2 h) fun ws s3 ⟨zs, H2, I3, rz, l2, q2⟩ => ⟨I3.kIn, ?_⟩) hpl
  rw [hks]
  exact run_kw D hG room few nd I3 rz (rz.length.symm.trans l2) q2
end
end E10

set_option Elab.async false
set_option linter.all false
set_option maxRecDepth 100000
set_option maxHeartbeats 4000000
/-! ### {**d, k: v} -/
namespace E10
open L2 PySem PySem.Spec PyProof.Rows
section
variable {P : Program} {w : World} {A : Around} {E : Value → Shared → Prop} {s : Shared}
abbrev mk (P : Program) (w : World) := mixKind P w
theorem dictPut_pairs {d : Addr} {kvs : List (Key × Value)} {k : Key} {key v : Value} {Q : Unit → Shared → Prop} (hkey : (mk P w).is k key = true) (hm : s.heap.DictOf (mk P w) d kvs)
    (hQ : ∀ h', h'.DictOf (mk P w) d (stored kvs k v) → Heap.SameBut d s.heap h' → Q () { s with heap := h' })
    (hsz : kvs.length ≤ sizeLine) :
    wpAny (model P w) A (dictPut d ((mk P w).hash k) key v) Q E s := by
  obtain ⟨o, es, ep, ho, hc, hd, hk, hp, hn⟩ := hm
  have hes : es.size ≤ sizeLine := by
    have e1 := hp.length
    have e2 : es.toList.length = es.size := by simp
    omega
  unfold dictPut
  refine wpAny_bind (wpAny_dictFind_of hkey ho hd hk ?_)
  have hidx : (es.findIdx? fun e => (mk P w).is k e.key) = kvs.findIdx? fun kv => decide (kv.1 = k) := by
    rw [← hp.findIdx k]; obtain ⟨l⟩ := es; simp
  cases hi : es.findIdx? fun e => (mk P w).is k e.key with
  | some i =>
    refine wpAny_updateDict ho hd (hQ _ ⟨_, _, ep, Heap.get?_update_self _ ho (Obj.isFreed_of_dict (Obj.data_mapDict hd _)),
      hc.mapDict _, Obj.data_mapDict hd _, hk.modify _ _, ?_, ?_⟩ (Heap.SameBut.update ..))
    · rw [stored, if_pos (any_of_findIdx_some (hidx ▸ hi))]
      have hl : (es.toList.findIdx? fun e => (mk P w).is k e.key) = some i := by rw [← hi]; obtain ⟨l⟩ := es; simp
      have := hp.modify hn hl v
      obtain ⟨l⟩ := es
      simpa using this
    · rw [stored, if_pos (any_of_findIdx_some (hidx ▸ hi)), keys_map_store]; exact hn
  | none =>
    have hnot : k ∉ kvs.map (·.1) := not_mem_of_findIdx_none (hidx ▸ hi)
    have hany : ¬ (kvs.any fun kv => decide (kv.1 = k)) = true := by
      rw [List.any_eq_true]; rintro ⟨kv, hkv, he⟩
      exact hnot (List.mem_map.mpr ⟨kv, hkv, of_decide_eq_true he⟩)
    refine wpAny_updateDictKeys (hz := hes) ho hd (hQ _ ⟨_, _, ep + 1, Heap.get?_update_self _ ho (Obj.isFreed_of_dict (Obj.data_mapDictKeys hd _)),
      hc.mapDictKeys _, Obj.data_mapDictKeys hd _, hk.push hkey _, ?_, ?_⟩ (Heap.SameBut.update ..))
    · rw [stored, if_neg hany]
      have := hp.append hkey ((mk P w).hash k) v
      obtain ⟨l⟩ := es
      simpa using this
    · rw [stored, if_neg hany, List.map_append, List.nodup_append]
      refine ⟨hn, by simp, ?_⟩
      intro a ha b hb
      simp only [List.map_cons, List.map_nil, List.mem_singleton] at hb
      subst hb
      exact fun e => hnot (e ▸ ha)
theorem mergeMapping_plain {d o : Addr} {kvs more : List (Key × Value)} {Q : Unit → Shared → Prop} (hdo : d ≠ o) (hoS : (o == sysModules) = false)
    (hd : s.heap.DictOf (mk P w) d kvs) (ho : s.heap.DictOf (mk P w) o more)
    (hQ : ∀ h', h'.DictOf (mk P w) d (merged kvs more) → h'.DictOf (mk P w) o more → Heap.SameBut d s.heap h' → Q () { s with heap := h' })
    (hsz : kvs.length + more.length ≤ sizeLine) :
    wpAny (model P w) A (mergeMapping d (.ref o) false) Q E s := by
  obtain ⟨od, esd, epd, hod, hcd, hdd, hkd, hpd, hnd⟩ := id hd
  obtain ⟨oo, eso, epo, hoo, hco, hdo', hko, hpo, hno⟩ := id ho
  unfold mergeMapping
  have hlen : more.length = eso.size := by rw [← hpo.length]; simp
  refine wpAny_bind (wpAny_isInstance ho.typeIs isSubtype_dict_dict ?_)
  simp only [if_true]
  refine wpAny_bind (wpAny_specialOf ho.typeIs PySem.F.slot_dict_iter.lookup ?_)
  refine wpAny_bind (wpAny_pure ?_)
  simp only [beq_self_eq_true]
  rw [if_neg (by rw [hoS]; exact Bool.false_ne_true)]
  have e0 : ∀ e ∈ eso.toList, ∀ a, e.key ≠ .ref a := fun e he a z => by
    obtain ⟨k, hk, _⟩ := hko e (by simpa using he)
    rcases keyIs_shape hk with ⟨_, _, _, e2⟩ | ⟨_, _, _, e2⟩ <;> (rw [e2] at z; cases z)
  have none_ : ∀ {Q' : PUnit → Shared → Prop} {F : Value → DictEntry → Sem (ForInStep PUnit)}, Q' PUnit.unit s → wpAny (model P w) A (forIn eso PUnit.unit fun e (_ : PUnit) => (match e.key with
      | .ref a => F (.ref a) e
      | _ => pure (ForInStep.yield PUnit.unit) : Sem (ForInStep PUnit))) Q' E s := fun {Q' F} q => by
    rw [← Array.forIn_toList]
    refine wpAny_forIn_list _ (fun rest _ s' => s' = s ∧ ∀ e ∈ rest, e ∈ eso.toList) _ ?_ ?_ _ _ ⟨rfl, fun e h => h⟩
    · rintro x rest b s' ⟨rfl, hr⟩
      have hx := e0 x (hr x (.head _))
      split
      · rename_i a z
        exact absurd z (hx a)
      · exact wpAny_pure ⟨rfl, fun e h => hr e (.tail _ h)⟩
    · rintro b s' ⟨rfl, _⟩
      exact q
  refine wpAny_bind (wpAny_dictEntries hod hdd ?_)
  split
  refine wpAny_bind (wpAny_dictEntries hoo hdo' ?_)
  refine wpAny_bind (none_ (F := fun v e => do
      let __do_lift ← specialOf e.key (Str.ofString "__eq__")
      if (__do_lift != some (Value.builtin "object.__eq__")) = true then
          if (Array.filter (fun x => x.hash == e.hash) eso).size > 1 then do
            (unsupported "dict.merge-into-an-empty-dict:keys-of-equal-hash" : Sem PUnit)
            pure (ForInStep.yield PUnit.unit)
          else pure (ForInStep.yield PUnit.unit)
        else pure (ForInStep.yield PUnit.unit)) ?_)
  all_goals
    refine wpAny_bind (wpAny_dictEntries hoo hdo' ?_)
    refine wpAny_bind (wpAny_dictEpoch hoo hdo' ?_)
    refine wpAny_bind ?_
    rw [List.range_eq_range']
    refine wpAny_forIn_list _
      (fun rest _ s' => ∃ h' i, s' = { s with heap := h' } ∧ rest = List.range' i (eso.size - i) ∧ i ≤ eso.size ∧ h'.DictOf (mk P w) d (merged kvs (more.take i)) ∧ h'.get? o = some oo ∧ Heap.SameBut d s.heap h')
      _ ?_ ?_ _ _ ⟨s.heap, 0, rfl, by simp, Nat.zero_le _, by simpa [merged] using hd, hoo, Heap.SameBut.refl _ _⟩
    · rintro x rest b s' ⟨h', i, rfl, hr, hi, hd', hoo', hs'⟩
      have hlt : i < eso.size := by
        rcases Nat.lt_or_ge i eso.size with h | h
        · exact h
        · rw [Nat.sub_eq_zero_of_le h] at hr; simp at hr
      obtain ⟨rfl, hrest⟩ : x = i ∧ rest = List.range' (i + 1) (eso.size - (i + 1)) := by
        have e : eso.size - i = (eso.size - (i + 1)) + 1 := by omega
        rw [e, List.range'_succ] at hr
        injection hr with h1 h2
        exact ⟨h1, h2⟩
      refine wpAny_bind (wpAny_dictEntries hoo' hdo' ?_)
      rw [Array.getElem?_eq_getElem hlt]
      obtain ⟨kv, hkv⟩ : ∃ kv, more[x]? = some kv := ⟨more[x]'(by rw [hlen]; exact hlt), List.getElem?_eq_getElem _⟩
      obtain ⟨k, v⟩ := kv
      obtain ⟨hkey, hval⟩ := hpo.get? (e := eso[x]) (by simp [hlt]) hkv
      obtain ⟨k', hkey', hhash⟩ := hko eso[x] (Array.getElem_mem hlt)
      obtain rfl : k' = k := (mk P w).inj _ _ _ hkey' hkey
      show wpAny _ _ (holding [eso[x].key, eso[x].val] (dictPut d eso[x].hash eso[x].key eso[x].val) >>= _) _ _ _
      rw [hhash, hval]
      have hmx : (merged kvs (more.take x)).length ≤ sizeLine := by
        have e1 := merged_length_le kvs (more.take x)
        have e2 : (more.take x).length ≤ more.length := by rw [List.length_take]; omega
        omega
      refine wpAny_bind (wpAny_holding (dictPut_pairs (hsz := hmx) hkey hd' fun h'' hd'' hs'' => ?_))
      have hoo'' : h''.get? o = some oo := (hs''.2 o (Ne.symm hdo)).trans hoo'
      refine wpAny_bind (wpAny_dictEpoch hoo'' hdo' ?_)
      rw [if_neg (by simp)]
      exact wpAny_pure ⟨h'', x + 1, rfl, hrest, hlt, by rw [merged_take_succ kvs more x (k', v) hkv]; exact hd'', hoo'', hs'.trans hs''⟩
    · rintro b s' ⟨h', i, rfl, hr, hi, hd', hoo', hs'⟩
      have hin : i = eso.size := by
        rcases Nat.lt_or_ge i eso.size with h | h
        · have e : eso.size - i = (eso.size - (i + 1)) + 1 := by omega
          rw [e, List.range'_succ] at hr; exact nomatch hr
        · exact Nat.le_antisymm hi h
      refine wpAny_pure (hQ h' ?_ ⟨oo, eso, epo, hoo', hco, hdo', hko, hpo, hno⟩ hs')
      rw [hin, ← hlen, List.take_length] at hd'; exact hd'
theorem merged_nil_kv {kvs : List (Key × V)} {vs : List (Key × Value)} (r : KV kvs vs) : KV (mergeK [] kvs) (merged [] vs) := r.merge .nil
end
section
variable {X : Cx}
/-- {**e, k: v}: the new dict, then another one with the pair, which is merged into the first -/
def tDStar (te tk tv : TE) : TE := fun σ H Q => ∀ d, H d = none → te σ (upd H d (.dK [])) fun x H1 => ∃ (a : Addr) (kvs : List (Key × V)), x = .ref a ∧ Rd H1 a (.dK kvs) ∧ a ≠ d ∧ H1 d = some (.dK []) ∧ kvs.length ≤ 1000 ∧
  ∀ b, upd H1 d (.dK (mergeK [] kvs)) b = none → tk σ (upd (upd H1 d (.dK (mergeK [] kvs))) b (.dK [])) fun y H2 => tv σ H2 fun z H3 => ∃ k, y = kV k ∧ H3 b = some (.dK []) ∧ H3 d = some (.dK (mergeK [] kvs)) ∧ b ≠ d ∧
    Q (.ref d) (upd (upd H3 b (.dK (mergeK [] [(k, z)]))) d (.dK (mergeK (mergeK [] kvs) (mergeK [] [(k, z)]))))
theorem pe_dstar {e k v : Expr} {te tk tv : TE} {pos : Pos} (he : PE X e te) (hk : PE X k tk) (hv : PE X v tv) : PE X (.Dict [none, some k] [e, v] pos) (tDStar te tk tv) := by
  refine ⟨fun pins s σ H Q I q => ?_⟩
  rw [arm_eval_Dict]
  show wpAny _ _ (standAt pos >>= fun _ => dictDisplay [(none, do let x ← eval e X.env; standAt pos; pure x), (some (eval k X.env), do let x ← eval v X.env; standAt pos; pure x)]) _ _ _
  refine wpAny_bind (wpAny_standAt ?_)
  unfold dictDisplay
  simp only [List.forIn_cons, List.forIn_nil, List.isEmpty_nil, if_true, pure_bind, bind_assoc, List.nil_append, List.length_cons, List.length_nil]
  have hn := I.hok.fresh (Nat.le_refl s.heap.objs.size)
  have I1 := I.laid (a := s.heap.objs.size) (o := .dK []) (h' := s.heap.push { cls := .type "dict", data := .dict #[] }) (t' := s.toks) (fun _ _ q => Heap.get?_push_of_some _ q) (Nat.le_refl _) (dk_empty s.heap I.big)
  have q1 := q _ hn
  generalize hd : s.heap.objs.size = d at *
  refine wpAny_bind (wpAny_alloc ?_)
  rw [hd]
  refine wpAny_bind (wpAny_holding ?_)
  refine wpAny_bind (thn (he.run pins _ σ _ _ I1 q1) fun u s2 ⟨x, H2, I2, rx, q2⟩ => ?_)
  obtain ⟨a, kvs, rfl, ra, ad, h2, l2, q2⟩ := q2
  obtain rfl : u = Value.ref a := rx
  refine wpAny_bind (wpAny_standAt (wpAny_pure ?_))
  obtain ⟨z1, sd, vs0, r0, dd⟩ := dk_of I2.hok h2
  cases r0
  obtain ⟨z2, sa, vs, r, da⟩ := dk_rd I2.hok ra
  have lv : vs.length = kvs.length := r.length.symm
  have big : (2000 : Nat) ≤ sizeLine := by decide
  refine wpAny_bind (wpAny_onRaise (wpAny_tryCatch (wpAny_onRaise (wpAny_holding (mergeMapping_plain (Ne.symm ad) sa dd da (fun h3 dd3 da3 sb3 => ?_) (by rw [List.length_nil]; omega))))))
  have lm : (mergeK [] kvs).length ≤ 1000 := by
    have h1 := length_mergeK kvs []
    rw [List.length_nil] at h1
    omega
  have e3 : ∃ o, h3.get? d = some o := let ⟨o, _, _, ho, _⟩ := dd3; ⟨o, ho⟩
  have I3 := d_write (t' := s2.toks) I2 (by rw [h2]; exact True.intro) sb3 e3 (dk_new (H' := upd H2 d (.dK (mergeK [] kvs))) (by omega) sd (r.merge .nil) dd3)
  have c1 : ((0 + 1 : Nat) == 17) = false := by decide
  simp only [c1, Bool.false_eq_true, if_false, List.isEmpty_cons]
  have hb := I3.hok.fresh (Nat.le_refl _)
  have I4 := I3.laid (a := h3.objs.size) (o := .dK []) (h' := h3.push { cls := .type "dict", data := .dict #[] }) (t' := s2.toks) (fun _ _ q => Heap.get?_push_of_some _ q) (Nat.le_refl _) (dk_empty h3 I3.big)
  have q4 := q2 _ hb
  refine wpAny_bind (wpAny_pure ?_)
  refine wpAny_bind (wpAny_pure ?_)
  simp only [Bool.false_eq_true, if_false, List.isEmpty_cons]
  refine wpAny_bind ?_
  refine wpAny_bind (wpAny_holding (wpAny_subDict (knd := mixKind X.prog X.w) (by simp) ?_))
  refine thn ((pps_cons (pos := pos) hk hv pps_nil).run pins _ σ _ (fun ps H4 => match ps with
    | [(y, z)] => ∃ kk, y = kV kk ∧ H4 h3.objs.size = some (.dK []) ∧ H4 d = some (.dK (mergeK [] kvs)) ∧ h3.objs.size ≠ d ∧
      Q (.ref d) (upd (upd H4 h3.objs.size (.dK (mergeK [] [(kk, z)]))) d (.dK (mergeK (mergeK [] kvs) (mergeK [] [(kk, z)]))))
    | _ => False) I4 q4) fun ws s5 ⟨ps, H5, I5, rel, post⟩ => ?_
  match ps, rel, post with
  | [(y, z)], rel, ⟨kk, ey, hB, hD, bd, q5⟩ =>
    subst ey
    obtain ⟨rs, c, rk⟩ := carries_of (P := X.prog) (w := X.w) (kvs := [(kk, z)]) rel
    obtain ⟨zb, sb, vsb, rb, db⟩ := dk_of I5.hok hB
    cases rb
    refine ⟨rs, c, db, fun h6 d6 sb6 => ?_⟩
    have e6 : ∃ o, h6.get? h3.objs.size = some o := let ⟨o, _, _, ho, _⟩ := d6; ⟨o, ho⟩
    have l1 : (mergeK [] [(kk, z)]).length ≤ 1 := by
      have h1 := length_mergeK [(kk, z)] []
      simpa using h1
    have I6 := d_write (t' := s5.toks + ws.length) I5 (by rw [hB]; exact True.intro) sb6 e6 (dk_new (H' := upd H5 h3.objs.size (.dK (mergeK [] [(kk, z)]))) (by omega) sb (rk.merge .nil) d6)
    have hD6 : upd H5 h3.objs.size (.dK (mergeK [] [(kk, z)])) d = some (.dK (mergeK [] kvs)) := (upd_ne (Ne.symm bd)).trans hD
    obtain ⟨zd, sd6, vsd, rd, dd6⟩ := dk_of I6.hok hD6
    obtain ⟨_, _, vse, re, de6⟩ := dk_of I6.hok (show upd H5 h3.objs.size (.dK (mergeK [] [(kk, z)])) h3.objs.size = _ from upd_same)
    have ld : vsd.length = (mergeK [] kvs).length := rd.length.symm
    have le : vse.length = (mergeK [] [(kk, z)]).length := re.length.symm
    refine wpAny_bind (wpAny_onRaise (wpAny_holding (mergeMapping_plain (s := { s5 with heap := h6, toks := s5.toks + ws.length }) (Ne.symm bd) sb dd6 de6 (fun h7 d7 d7b sb7 => ?_) (by omega))))
    refine wpAny_pure (wpAny_pure ?_)
    have e7 : ∃ o, h7.get? d = some o := let ⟨o, _, _, ho, _⟩ := d7; ⟨o, ho⟩
    have l2' := length_mergeK (mergeK [] [(kk, z)]) (mergeK [] kvs)
    exact ⟨.ref d, _, d_write (t' := s5.toks + ws.length) I6 (by rw [hD6]; exact True.intro) sb7 e7 (dk_new (H' := upd (upd H5 h3.objs.size (.dK (mergeK [] [(kk, z)]))) d (.dK (mergeK (mergeK [] kvs) (mergeK [] [(kk, z)])))) (by omega) sd6 (re.merge rd) d7), rfl, q5⟩
end
end E10

set_option Elab.async false
set_option linter.all false
set_option maxRecDepth 100000
set_option maxHeartbeats 4000000
/-! ### enumerate(tuple) -/
namespace PySem
open Sem (wp)
open AutoSeq1 (wpAny_loadPart')
theorem meets_enumerate_newT (l : Addr) (items : Array Value) (n : Nat) (dct : Option Addr) (sl : Array (Option Value)) :
    Meets (Builtin.«enumerate.__new__» ⟨[.type "enumerate", .ref l], []⟩) (fun _ R s => s.heap.get? l = some { cls := .type "tuple", dict := dct, data := .seq items n, slots := sl } ∧
      R (.ok (.ret (.ref (s.heap.push { cls := .type "tuple_iterator", data := .fields #[.ref l, .int 0 0] }).objs.size)))
        { s with heap := (s.heap.push { cls := .type "tuple_iterator", data := .fields #[.ref l, .int 0 0] }).push { cls := .type "enumerate", data := .fields #[.none, .bool false, .ref s.heap.objs.size, rawInt 0, .none, .none] } }) :=
  .of_wp fun prog w A R s h => by
    obtain ⟨hp, g, d, tk, os⟩ := s; obtain ⟨hl, h⟩ := h
    have hsub := sub_enumerate
    have hL : Heap.IsTuple (Shared.heap ⟨hp, g, d, tk, os⟩) l items := ⟨_, hl, rfl, n, rfl⟩
    wp_walk using wpAny_loadPart' hl
    refine wpAny_stack_any fun st => wpAny_pure ?_
    split
    · rename_i c _ _ _ _ _
      cases (c == Value.type "enumerate")
      · wp_walk using wpAny_loadPart' hl, wpAny_pyIter_tuple hL
        exact ⟨_, rfl, h⟩
      · wp_walk using wpAny_loadPart' hl, wpAny_pyIter_tuple hL
        exact ⟨_, rfl, h⟩
    · wp_walk using wpAny_loadPart' hl, wpAny_pyIter_tuple hL
      exact ⟨_, rfl, h⟩
section
variable {prog : Program} {w : World} {A : Around} {E : Value → Shared → Prop} {s : Shared}
theorem call_enumerate_tuple {l : Addr} {items : Array Value} {Q : Value → Shared → Prop} (hL : s.heap.IsTuple l items)
    (h : ∀ h', IsEnum h' (s.heap.objs.size + 1) s.heap.objs.size 0 .none → h'.IsTupleIter s.heap.objs.size l 0 → h'.objs.size = s.heap.objs.size + 2 →
      (∀ b o, s.heap.get? b = some o → h'.get? b = some o) → Q (.ref (s.heap.objs.size + 1)) { s with heap := h' }) :
    wpAny (model prog w) A (call (.type "enumerate") [.ref l]) Q E s := by
  obtain ⟨⟨c, dct, dt, sl⟩, hl, hc, n, hd⟩ := hL
  replace hc : c = .type "tuple" := hc
  replace hd : dt = .seq items n := hd
  subst hc hd
  refine callType_new F.called_enumerate (by decide) (F.typeCall_enumerate_1 _) (F.newCall_enumerate_1 _) (fun obj => F.args_object_init_2 obj _) F.entry_enumerate_new
    (meets_enumerate_newT l items n dct sl) ⟨hl, ?_⟩
  have hz : (s.heap.push { cls := .type "tuple_iterator", data := .fields #[.ref l, .int 0 0] }).objs.size = s.heap.objs.size + 1 := Heap.size_push ..
  show _ ∧ _
  rw [hz]
  have he : IsEnum ((s.heap.push { cls := .type "tuple_iterator", data := .fields #[.ref l, .int 0 0] }).push
      { cls := .type "enumerate", data := .fields #[.none, .bool false, .ref s.heap.objs.size, rawInt 0, .none, .none] }) (s.heap.objs.size + 1) s.heap.objs.size 0 .none := by
    have := Heap.get?_push_size (s.heap.push { cls := .type "tuple_iterator", data := .fields #[.ref l, .int 0 0] })
      (o := { cls := .type "enumerate", data := .fields #[.none, .bool false, .ref s.heap.objs.size, rawInt 0, .none, .none] }) rfl
    rw [hz] at this; exact this
  refine ⟨⟨_, he, rfl⟩, h _ he ⟨_, Heap.get?_push_of_some _ (Heap.get?_push_size _ rfl), rfl, rfl⟩ (by rw [Heap.size_push, hz]) fun b o x => Heap.get?_push_of_some _ (Heap.get?_push_of_some _ x)⟩
theorem wpAny_nextOf_tuple_item {it t : Addr} {i : Nat} {items} {x : Value} {Q : Value → Shared → Prop} (hit : s.heap.IsTupleIter it t i)
    (ht : s.heap.IsTuple t items) (hx : items[i]? = some x)
    (hQ : ∀ h', h'.IsTupleIter it t (i + 1) → Heap.SameBut it s.heap h' → Q x { s with heap := h' }) :
    wpAny (model prog w) A (Builtin.SmallTypes.nextOf (.ref it)) Q E s := by
  obtain ⟨o, ho, hc, hd⟩ := id hit
  obtain ⟨ol, hol, _, nl, hdl⟩ := ht
  unfold Builtin.SmallTypes.nextOf
  refine wpAny_bind (wpAny_callSpecial?_slot (name := Str.ofString "__next__") hit.typeIs F.slot_tuple_iterator_next
    (wpAny_call_entry F.slot_tuple_iterator_next hit.typeIs F.entry_tuple_iterator_next ?_ (F.args_tuple_iterator_next_1 _)))
  show wpAny _ _ (field (.ref it) 0 >>= _) _ _ s
  refine wpAny_bind (wpAny_field ho hd (x := .ref t) rfl ?_)
  show wpAny _ _ (if (Value.ref t == Value.none) = true then _ else _) _ _ s
  rw [if_neg (show ¬ ((Value.ref t == Value.none) = true) from Bool.false_ne_true)]
  show wpAny _ _ (field (.ref it) 1 >>= _) _ _ s
  refine wpAny_bind (wpAny_field ho hd (x := .int i 0) rfl ?_)
  show wpAny _ _ (seqItems? (.ref t) >>= _) _ _ s
  refine wpAny_bind (wpAny_seqItems hol hdl ?_)
  simp only [Int.toNat_natCast, hx]
  refine wpAny_bind (wpAny_setField ho hd (by simp) (wpAny_pure ⟨x, rfl, wpAny_pure (hQ _ ?_ (Heap.SameBut.update ..))⟩))
  exact ⟨_, Heap.get?_update_self _ ho (Obj.isFreed_of_fields (Obj.data_mapFields hd _)), (Obj.cls_mapFields ..).trans hc, by
    rw [Obj.data_mapFields hd]; simp [rawInt]⟩
theorem wpAny_nextOf_tuple_end {it t : Addr} {i : Nat} {items} {Q : Value → Shared → Prop} (hh : A.handled = none)
    (hit : s.heap.IsTupleIter it t i) (ht : s.heap.IsTuple t items) (hx : items[i]? = none)
    (hE : ∀ h' e, Heap.ExtBut it s.heap h' → (∃ o, h'.get? e = some o ∧ o.cls = .type "StopIteration") → E (.ref e) { s with heap := h' }) :
    wpAny (model prog w) A (Builtin.SmallTypes.nextOf (.ref it)) Q E s := by
  obtain ⟨o, ho, hc, hd⟩ := id hit
  obtain ⟨ol, hol, _, nl, hdl⟩ := ht
  unfold Builtin.SmallTypes.nextOf
  refine wpAny_bind (wpAny_callSpecial?_slot (name := Str.ofString "__next__") hit.typeIs F.slot_tuple_iterator_next
    (wpAny_call_entry F.slot_tuple_iterator_next hit.typeIs F.entry_tuple_iterator_next ?_ (F.args_tuple_iterator_next_1 _)))
  show wpAny _ _ (field (.ref it) 0 >>= _) _ _ s
  refine wpAny_bind (wpAny_field ho hd (x := .ref t) rfl ?_)
  show wpAny _ _ (if (Value.ref t == Value.none) = true then _ else _) _ _ s
  rw [if_neg (show ¬ ((Value.ref t == Value.none) = true) from Bool.false_ne_true)]
  show wpAny _ _ (field (.ref it) 1 >>= _) _ _ s
  refine wpAny_bind (wpAny_field ho hd (x := .int i 0) rfl ?_)
  show wpAny _ _ (seqItems? (.ref t) >>= _) _ _ s
  refine wpAny_bind (wpAny_seqItems hol hdl ?_)
  simp only [Int.toNat_natCast, hx]
  refine wpAny_bind (wpAny_rule (wpAny_bind (wpAny_setField ho hd (by simp) ?_)))
  show wpAny _ _ (newExc (.type "StopIteration") [] >>= _) _ _ _
  refine wpAny_bind ?_
  simp only [newExc, newTuple]
  refine wpAny_bind (wpAny_newObj_type ?_ (by size_fits))
  refine wpAny_bind (m := firstArgMember _ _) (wpAny_of_eq (a := Value.none) (by first | rfl | (simp only [firstArgMember]; rfl)) ?_)
  refine wpAny_newObj_type ?_ (by size_fits)
  simp only [raiseNew]
  refine wpAny_bind (wpAny_handled ?_)
  first | rw [show A.in1.handled = none from hh] | rw [hh]
  refine wpAny_bind (wpAny_pure (wpAny_throw ?_))
  exact hE _ _ (((Heap.SameBut.update ..).extBut.push _).push _) ⟨_, Heap.get?_push_size _ rfl, rfl⟩
end
section
variable {prog : Program} {w : World} {A : Around} {E : Value → Shared → Prop} {s : Shared}
theorem wpAny_pyNext_enum_endT {e it l : Addr} {i : Nat} {items : Array Value} {old : Value} {Q : Option Value → Shared → Prop} (hh : A.handled = none)
    (he : IsEnum s.heap e it i old) (hit : s.heap.IsTupleIter it l i) (hl : s.heap.IsTuple l items) (hx : items[i]? = none)
    (hQ : ∀ h', Heap.ExtBut it s.heap h' → Q none { s with heap := h' }) : wpAny (model prog w) A (pyNext (.ref e)) Q E s := by
  have hT : s.TypeIs (.ref e) "enumerate" := ⟨_, he, rfl⟩
  unfold pyNext
  refine wpAny_bind (wpAny_attempt (wpAny_callSpecial?_slot (name := Str.ofString "__next__") hT F.slot_enumerate_next
    (wpAny_call_entry F.slot_enumerate_next hT F.entry_enumerate_next ?_ (F.args_enumerate_next_1 _))))
  show wpAny _ _ (field (.ref e) 2 >>= _) _ _ _
  refine wpAny_bind (wpAny_field he rfl (x := .ref it) rfl ?_)
  refine wpAny_bind (wpAny_nextOf_tuple_end hh hit hl hx fun h' x he' hx' => ?_)
  obtain ⟨o, ho, hc⟩ := hx'
  refine wpAny_bind (wpAny_isInstance (T := "StopIteration") (b := true) ⟨o, ho, hc⟩ isSubtype_stop ?_)
  exact wpAny_pure (hQ _ he')
end
theorem Draws.tuple {prog : Program} {w : World} {A : Around} (hh : A.handled = none) (it l : Addr) (hne : l ≠ it) (items : Array Value) :
    Draws prog w A it [it, l] items.size (fun i v => items[i]? = some v) (fun i h => h.IsTupleIter it l i ∧ h.IsTuple l items) where
  live := fun _ _ st => let ⟨o, ho, _⟩ := st.1; ⟨o, ho⟩
  frame := fun _ _ _ st hk => ⟨let ⟨o, ho, r⟩ := st.1; ⟨o, hk it (by simp) o ho, r⟩, let ⟨o, ho, r⟩ := st.2; ⟨o, hk l (by simp) o ho, r⟩⟩
  item := fun i s Q E hi st hQ => by
    refine wpAny_nextOf_tuple_item st.1 st.2 (x := items[i]) (by simp [hi]) fun h' hit' hs' => ?_
    exact hQ _ h' s.toks (by simp [hi]) ⟨hit', st.2.extBut hs'.extBut hne⟩ hs'
  done := fun s Q E st hE => wpAny_nextOf_tuple_end hh st.1 st.2 (by simp) hE
end PySem
namespace L2
open PySem PySem.Spec PyProof.Rows
/-- the tuple at a, each item in a new pair -/
def IteT (K : PySem.W.Frag) (a : Addr) : It :=
  ⟨fun i H => ∃ (xs : List V) (x : V), SqT K H a xs ∧ xs[i]? = some x, fun i H v H' => ∃ T x, v = .ref T ∧ H T = none ∧ H' = upd H T (.tup [.int (i : Nat), x]) ∧ ∀ xs, SqT K H a xs → xs[i]? = some x, fun i H => ∃ xs : List V, SqT K H a xs ∧ xs.length ≤ i⟩
theorem turn_enumT {P : Program} {w : World} {K : PySem.W.Frag} {elts : List Expr} {kk : Nat} {tpos : Pos} (a e it : Addr) :
    Turn P w K (.Tuple elts kk tpos) (IteT K a) [e, it] e (fun i h => (∃ old, IsEnum h e it ((i : Nat) : Int) old) ∧ h.IsTupleIter it a i ∧ e ≠ it) where
  mem := by simp
  obj := fun i h st b hb => by
    obtain ⟨⟨old, he⟩, ⟨o, ho, hc, hd⟩, _⟩ := st
    have e' : b = e ∨ b = it := by simpa using hb
    rcases e' with z | z
    · rw [z]; exact ⟨_, he, fun v q => nomatch q⟩
    · rw [z]; exact ⟨o, ho, fun v q => by rw [hd] at q; cases q⟩
  keep := fun i h h' st k => let ⟨⟨old, he⟩, ⟨o, ho, r⟩, hne⟩ := st; ⟨⟨old, k e (by simp) _ he⟩, ⟨o, k it (by simp) _ ho, r⟩, hne⟩
  item := by
    intro X hP hw hK hc i pins s σ H E I hf st hg
    subst hP hw hK
    obtain ⟨⟨old, he⟩, hit, hne⟩ := st
    obtain ⟨xs, x, hq, hx⟩ := hg
    obtain ⟨its, rv, p, hz⟩ := I.tuple hq
    obtain ⟨u, hu, ru⟩ := rv.get hx
    have hel : e < s.heap.objs.size := Heap.lt_size he
    have hil : it < s.heap.objs.size := by obtain ⟨_, q, _⟩ := hit; exact Heap.lt_size q
    have ai : a ≠ it := by
      rintro rfl
      obtain ⟨o1, h1, c1, _⟩ := p
      obtain ⟨o2, h2, c2, _⟩ := hit
      rw [h1] at h2
      cases h2
      rw [c1] at c2
      exact absurd (Value.type.inj c2) (by decide)
    have ae : e ≠ a := by
      rintro rfl
      obtain ⟨o1, h1, c1, _⟩ := p
      have h2 := he
      unfold IsEnum at h2
      rw [h1] at h2
      cases h2
      exact absurd (Value.type.inj c1) (by decide)
    have hlt : i < its.toArray.size := by
      have := (List.getElem?_eq_some_iff.mp hu).1
      simpa using this
    refine wpAny_pyNext_enum_itemD (Draws.tuple (show X.A.in1.handled = none from I.ok.hd hc) it a ai its.toArray) he ⟨hit, p⟩ hlt hne (by simp [hne, ae]) fun x' h' tk px ho st' hT hsz hk => ?_
    obtain rfl : x' = u := by
      have e1 : its.toArray[i]? = some u := by simpa using hu
      exact Option.some.inj (px.symm.trans e1)
    refine ⟨_, rfl, wpAny_letOwnedTupleGo_enum (s := { s with heap := h', toks := tk + 1 }) ho fun h'' he' sb => ?_⟩
    have hT2 : h''.get? s.heap.objs.size = some { cls := .type "tuple", data := .seq #[.int i tk, x'] } := (sb.2 _ (Nat.ne_of_gt hel)).trans hT
    have new : ObjOk X.prog X.w (upd H s.heap.objs.size (.tup [.int (i : Nat), x])) h'' s.heap.objs.size (.tup [.int (i : Nat), x]) :=
      ⟨by show 2 ≤ sizeLine; decide, [.int i tk, x'], .cons ⟨_, rfl⟩ (.cons ru .nil), ⟨_, hT2, rfl, _, rfl⟩⟩
    have I1 : Inv X pins σ (upd H s.heap.objs.size (.tup [.int (i : Nat), x])) { s with heap := h'', toks := tk + 1 } :=
      I.turnedNew (ch := [e, it]) (fun b ob hb q => (sb.2 b (fun z => hb (by simp [z]))).trans (hk b ob (fun z => hb (by simp [z])) (fun z => hb (by simp [z])) q)) hf (Nat.le_refl _) new
    refine ⟨.ref s.heap.objs.size, _, I1, rfl, ⟨_, x, rfl, I.hok.fresh (Nat.le_refl _), rfl, fun ys hy => by rw [I.tuple_inj hy hq]; exact hx⟩, ⟨⟨x', ?_⟩, ?_, hne⟩, fun b hb => ?_⟩
    · have e1 : ((i + 1 : Nat) : Int) = (i : Int) + 1 := by omega
      rw [e1]; exact he'
    · obtain ⟨o, ho2, r⟩ := st'.1
      exact ⟨o, (sb.2 it (Ne.symm hne)).trans ho2, r⟩
    · have hb' : b < s.heap.objs.size := by
        have e' : b = e ∨ b = it := by simpa using hb
        rcases e' with z | z
        · rw [z]; exact hel
        · rw [z]; exact hil
      rw [upd_ne (Nat.ne_of_lt hb')]
      exact (hf b hb).1
  done := by
    intro X hP hw hK hc i pins s σ H E I hf st hg
    subst hP hw hK
    obtain ⟨⟨old, he⟩, hit, hne⟩ := st
    obtain ⟨xs, hq, hx⟩ := hg
    obtain ⟨its, rv, p, hz⟩ := I.tuple hq
    obtain ⟨f0, f1, f2, f3, f4, f5⟩ := hf it (by simp)
    have hl := rv.length
    exact wpAny_pyNext_enum_endT (I.ok.hd hc) he hit p (by simp; omega) fun h' eb => ⟨rfl, I.turned (t' := s.toks) (fun b o hb q => eb b o hb q) f0 f1 f3 f4 f5⟩
  self := fun A i s Q E st h => let ⟨⟨_, he⟩, _⟩ := st; wpAny_pyIter_enum he h
def iEnumT (K : PySem.W.Frag) (ta : TA) : TI := fun σ H R => ta σ H fun vs H1 => ∃ a xs, vs = [.ref a] ∧ SqT K H1 a xs ∧ R (IteT K a) H1
theorem pi_enumT {X : Cx} {e : Expr} {ta : TA} {p pos tpos : Pos} {elts : List Expr} {kk : Nat} (hg : Gl X "enumerate") (hm : X.mg "enumerate" = none) (ha : PA X [e] ta) (hs : starEach [e] X.env = [(false, eval e X.env)] := by rfl) :
    PI X (.Tuple elts kk tpos) (.Call (.Name "enumerate" p) [e] [] pos) (iEnumT X.K ta) := by
  refine ⟨fun pins s σ H R I h => ?_⟩
  refine Call_ (ld_blt I hg hm boot_enumerate (PyProof.Rows.callWith_type1 (thn (ha.run pos pins s σ H _ I h) fun us s1 ⟨vs, H1, I1, r1, q1⟩ => ?_) hs rfl))
  obtain ⟨a, xs, ex, hq, q⟩ := q1
  subst ex
  cases r1 with
  | cons r rr =>
    cases rr
    cases r
    obtain ⟨its, rv, p', hz⟩ := I1.tuple hq
    refine call_enumerate_tuple (show s1.heap.IsTuple a its.toArray from p') fun h' he hit hsz hk => wpAny_pyIter_enum he ?_
    have I2 : Inv X pins σ H1 { s1 with heap := h' } := I1.kept (t' := s1.toks) hk
    refine ⟨s1.heap.objs.size + 1, [s1.heap.objs.size + 1, s1.heap.objs.size], _, _, H1, rfl, I2, turn_enumT a (s1.heap.objs.size + 1) s1.heap.objs.size, ⟨⟨.none, he⟩, hit, Nat.succ_ne_self _⟩, fun b hb => ?_, q⟩
    have e' : b = s1.heap.objs.size + 1 ∨ b = s1.heap.objs.size := by simpa using hb
    have hle : s1.heap.objs.size ≤ b := by
      rcases e' with z | z
      · rw [z]; exact Nat.le_add_right _ _
      · rw [z]; exact Nat.le_refl _
    exact I1.fpOk hle (I1.hok.fresh hle)
theorem walk_enumT {K : PySem.W.Frag} {a : Addr} {xs : List V} : Walk (IteT K a) xs.length (fun H => SqT K H a xs) (YPair (fun i => some (.int (i : Nat))) (fun i => xs[i]?)) := by
  refine ⟨fun i _ hi q => ⟨xs, xs[i], q, by simp [hi]⟩, fun _ q => ⟨xs, q, Nat.le_refl _⟩, fun i H v H' _ q y => ?_⟩
  obtain ⟨T, x, h1, h2, h3, h4⟩ := y
  exact ⟨T, .int (i : Nat), x, h1, h2, h3, rfl, h4 xs q⟩
end L2

set_option Elab.async false
set_option linter.all false
set_option maxRecDepth 100000
set_option maxHeartbeats 4000000
/-! ### an operator of two own objects of one class -/
namespace E10
open L2 PySem PySem.Spec PyProof.Rows
section
variable {X : Cx} {A : Around} {pins : List (Addr × Obj)} {σ : L2.St} {H : Hp} {s : Shared} {Q : VK} {k : Nat} {f C : Addr} {fd : FuncData} {ps : List Str} {sp : Sp}
def rOwnO (C : Addr) (sp : Sp) : R2 := fun x y H Q => ∃ (a b dx dy : Addr) (fs gs : List (Str × V)), x = .ref a ∧ y = .ref b ∧ H a = some (.ins C dx fs) ∧ H b = some (.ins C dy gs) ∧ sp [.ref a, .ref b] H Q E0
theorem op_ownO {op : Operator} (F : FnG X.prog X.w X.K X.mg X.base k f fd ps sp) (hG : X.A.guards = some []) (room : Room k X.A) (bi : Binds X.K fd ps []) (hc : PySem.W.selfFirst X.K C = true) (h : Has X.K C f (PySem.dunder op.info.2)) : OpR X (binaryOp op) (rOwnO C sp) := by
  intro pins s σ H x y v u Q I rx ry h0
  obtain ⟨a, b, dx, dy, fs, gs, rfl, rfl, ha, hb, q⟩ := h0
  cases (show v = Value.ref a from rx)
  cases (show u = Value.ref b from ry)
  obtain ⟨mA, O, _⟩ := ins_get I.hok ha
  obtain ⟨od, J, _⟩ := O.look
  obtain ⟨mB, O2, _⟩ := ins_get I.hok hb
  obtain ⟨od2, J2, _⟩ := O2.look
  obtain ⟨m, hF⟩ := I.fr
  refine PySem.W.binop_K (op := op) hF I.ok.mod.kin J J2.type hc h.at_ h.fn ?_
  exact wpAny_mono (run_at (vs := [.ref a, .ref b]) F rfl hG room bi I (.cons rfl (.cons rfl .nil)) q) (fun _ _ z => cmpBack z) fun _ _ z => z
end
end E10

set_option Elab.async false
set_option linter.all false
set_option maxRecDepth 100000
set_option maxHeartbeats 4000000
/-! Errors as values: made by position and by keyword, their attributes, isinstance. -/
namespace E18
open PySem PySem.Spec PyProof.Rows L2 Builtin.ObjectAttr

/-- what the text says of an own class of errors, over whichever built-in -/
structure ExC (K : PySem.W.Frag) (C : Addr) : Prop where
  fam : ∃ (B nI iI : String) (mB : List Value), ExcBaseFacts B nI iI mB ∧ StoreFacts B mB "object.__setattr__" "object" ∧
    PySem.W.excInitIn K C mB nI = true ∧ PySem.W.excOver K C mB = true
  dct : PySem.W.hasDictIn K C = true
  sa : PySem.W.findIn K (.ref C) "__setattr__" = some (some (.builtin "object.__setattr__"))
  kp : PySem.W.keepIn K (.ref C) = true
  ga : PySem.W.findIn K (.ref C) "__getattribute__" = some (some (.builtin "BaseException.__getattribute__"))
  gn : PySem.W.findIn K (.ref C) "__getattr__" = some none
  sub : PySem.W.subIn K (.ref C) (.type "BaseException") = some true
  ca : PySem.W.findIn K (.ref C) "__class__" = some (some (.builtin "object.__class__"))
  mo : PySem.W.mroIn K C (.type "object") = some true
  sp : PySem.W.specialIn K (.builtin "object.__class__") "__get__" = some (some (.builtin "getset_descriptor.__get__"))
  tk : PySem.W.takesIn K (.builtin "object.__class__") = some true

theorem noTaker {K : PySem.W.Frag} {C : Addr} {f : Str} (n : PySem.W.findIn K (.ref C) f = some none) : PySem.W.takerIn K C f = some none :=
  NoAttr.taker n

section
variable {prog : Program} {w : World} {A : Around} {E : Value → Shared → Prop} {R : Result → Shared → Prop} {hp : Heap} {gs : Array GenState} {dr : Drawn} {n : Nat} {os : OsState}
variable {K : PySem.W.Frag} {C x tp : Addr} {f : Str} {tk : Tok} {v : Value}
/-- the first attribute -/
theorem put0 (T : ExC K C) (X : K.In hp) (hx : hp.get? x = some (PySem.W.excObj C tp none .none)) (nf : PySem.W.findIn K (.ref C) f = some none)
    (go : ∀ h' tk' dx, (∀ b o, b ≠ x → hp.get? b = some o → h'.get? b = some o) → hp.objs.size ≤ dx → dx ≠ x →
      h'.get? x = some (PySem.W.excObj C tp (some dx) .none) → h'.Ns1 dx (fun y => if y = f then some v else none) → R (.ok (.ret .none)) ⟨h', gs, dr, tk', os⟩) :
    codeAny (model prog w) A (.call (.builtin "object.__setattr__") ⟨[.ref x, .str f tk, v], []⟩) R ⟨hp, gs, dr, n, os⟩ := by
  obtain ⟨B, nI, iI, mB, _, sf, _, ov⟩ := T.fam
  refine PySem.W.osa_openX (od := none) sf X ⟨hx, rfl, rfl, trivial⟩ ov (noTaker nf) fun b => ?_
  obtain ⟨cd, hcd, hd⟩ := PySem.W.any_some T.dct
  have hxs : x ≠ hp.objs.size := Nat.ne_of_lt (Heap.lt_size hx)
  refine wpAny_bind ?_
  refine wpAny_pure ?_
  refine wpAny_bind ?_
  refine PySem.W.instanceDict_exc hx (PySem.W.looks_clsIn X hcd) hd ?_
  show wpAny _ _ (storeInDict hp.objs.size (.str f tk) f v) _ _ _
  have hpush : (hp.push (PySem.W.dictOf [] 0)).get? x = some (PySem.W.excObj C tp none .none) := Heap.get?_push_of_some _ hx
  refine PySem.HandSPX.store_in_new ?_ ?_
  · exact ⟨_, #[], _, (Heap.get?_update_ne _ _ _ _ hxs.symm).trans (Heap.get?_push_at rfl rfl), rfl, fun e he => absurd he (by simp), fun _ => rfl⟩
  · intro h' tk' hn sb
    refine go h' tk' hp.objs.size (fun b o hb ho => ?_) (Nat.le_refl _) hxs.symm ?_ hn
    · refine (sb.2 b (Nat.ne_of_lt (Heap.lt_size ho))).trans ?_
      exact (Heap.get?_update_ne _ _ _ _ hb).trans (Heap.get?_push_of_some _ ho)
    · exact (sb.2 x hxs).trans (Heap.get?_update_self _ hpush rfl)
end
end E18

set_option Elab.async false
set_option linter.all false
set_option maxRecDepth 100000
set_option maxHeartbeats 4000000
namespace E18
open PySem PySem.Spec PyProof.Rows L2 Builtin.ObjectAttr Builtin
section
variable {prog : Program} {w : World} {M : Model} {A : Around} {E : Value → Shared → Prop} {R : Result → Shared → Prop} {h : Heap} {g : Array GenState} {d : Drawn} {t : Nat} {os : OsState}
variable {nm q : Str} {C N : Addr} {bs bm bmB : List Value} {hdct : Bool} {sn : List Str} {sub : List Value} {ab : Bool} {col : Option Bool} {dd : Option Addr} {k0 k1 k2 k3 k5 : Option Value} {B newId initId : String}

theorem chkNew (F : ExcBaseFacts B newId initId bmB) (hT : ∀ X : String, bm.contains (.type X) = bmB.contains (.type X)) {us : List Value} {kw : List (Str × Value)} {Q : Unit → Shared → Prop}
    (hC : h.get? C = some (excClassObj nm q C N bs bm hdct sn sub ab col dd k0 k1 k2 k3 k5 newId)) (hq : Q () ⟨h, g, d, t, os⟩) : wpAny M A (checkBuiltinCall newId ⟨.ref C :: us, kw⟩) Q E ⟨h, g, d, t, os⟩ := by
  have hc : (Value.ref C :: bm).contains (.type B) = true := by
    rw [List.contains_cons, hT, F.hasB]
    exact Bool.or_true _
  have hs := F.noStar
  simp only [checkBuiltinCall, F.newKind, F.newSplit, F.newRow]
  repeat (first
    | refine wpAny_loadPart_at hC ?_
    | (refine wpAny_isSubtype_exc hC ?_; rw [hc])
    | refine wpAny_staticBase_exc hC ?_
    | refine wpAny_madeBy_exc hC ?_
    | simp only [bne_self_eq_false, Bool.false_eq_true, if_false]
    | wp_step)
  all_goals exact hq

theorem newKw (F : ExcBaseFacts B newId initId bmB) (hT : ∀ X : String, bm.contains (.type X) = bmB.contains (.type X)) {us : List Value} {kw : List (Str × Value)}
    (hC : h.get? C = some (excClassObj nm q C N bs bm hdct sn sub ab col dd k0 k1 k2 k3 k5 newId)) (room : us.length ≤ sizeLine)
    (hq : R (.ok (.ret (.ref (h.objs.size + 1)))) ⟨(h.push (PySem.W.kdv_tup us)).push (PySem.HandSPX.excO C h.objs.size), g, d, t, os⟩) :
    codeAny (model prog w) A (.builtin newId ⟨.ref C :: us, kw⟩) R ⟨h, g, d, t, os⟩ := by
  have ends := F.ends
  have inB : (Value.ref C :: bm).contains (.type B) = true := by
    rw [List.contains_cons, hT, F.hasB]
    exact Bool.or_true _
  have noA : (Value.ref C :: bm).contains (.type "AttributeError") = false := by
    rw [List.contains_cons, hT, F.noAttr]
    rfl
  have noN : (Value.ref C :: bm).contains (.type "NameError") = false := by
    rw [List.contains_cons, hT, F.noName]
    rfl
  refine codeAny_builtinAt F.entry ?_
  unfold Builtin.«BaseException.__new__»
  refine PySem.wpAt_bind ?_
  show PySem.wpAt _ _ _ (stack >>= _) _ _ _
  refine PySem.wpAt_bind (PySem.wpAt_stack fun pp bl => PySem.wpAt_of_wpAny ?_)
  wp_walk
  refine PySem.wpAt_of_wpAny ?_
  rw [F.owner]
  repeat (first
    | with_reducible refine wpAny_madeHere_exc F.canon hC ?_
    | with_reducible refine wpAny_loadPart_at hC ?_
    | (with_reducible refine wpAny_isSubtype_exc hC ?_; first | rw [inB] | rw [noA] | rw [noN])
    | wp_step)
  show R _ _
  rw [Heap.size_push]
  exact hq

theorem typeCallKw (F : ExcBaseFacts B newId initId bmB) (hT : ∀ X : String, bm.contains (.type X) = bmB.contains (.type X)) {us : List Value} {kw : List (Str × Value)} {fI : Addr} {Q : Fin → Shared → Prop}
    (hC : h.get? C = some (excClassObj nm q C N bs bm hdct sn sub ab col dd k0 k1 k2 k3 k5 newId))
    (li : PySem.W.Looks (model prog w) h (typeLookup (.ref C) "__init__") (some (.ref fI)))
    (lb : ∀ self, PySem.W.Looks (model prog w) h (bindSpecial (.ref fI) self) (.ref fI, [self])) (room : us.length ≤ sizeLine)
    (hq : codeAny (model prog w) A (.call (.ref fI) ⟨.ref (h.objs.size + 1) :: us, kw⟩)
      (fun r s' => match r with
        | .ok (.ret v) => v = .none ∧ Q (.done (.ret (.ref (h.objs.size + 1)))) s'
        | .ok _ => False
        | .error e => E e s')
      ⟨(h.push (PySem.W.kdv_tup us)).push (PySem.HandSPX.excO C h.objs.size), g, d, t, os⟩) :
    wpAny (model prog w) A (Builtin.«type.__call__» ⟨.ref C :: us, kw⟩) Q E ⟨h, g, d, t, os⟩ := by
  repeat (first
    | with_reducible refine wpAny_loadPart_at hC ?_
    | with_reducible refine wpAny_madeBy_exc hC ?_
    | wp_step)
  refine codeAny_call_builtin_code (Code.quiet_builtin _ F.quiet) (chkNew F hT hC ?_)
  refine newKw F hT hC room ?_
  show wpAny _ _ _ _ _ _
  have kp : ∀ b o, h.get? b = some o → ((h.push (PySem.W.kdv_tup us)).push (PySem.HandSPX.excO C h.objs.size)).get? b = some o := fun b o e =>
    Heap.get?_push_of_some _ (Heap.get?_push_of_some _ e)
  have hC1 := kp _ _ hC
  have at1 : ((h.push (PySem.W.kdv_tup us)).push (PySem.HandSPX.excO C h.objs.size)).get? (h.objs.size + 1) = some (PySem.HandSPX.excO C h.objs.size) := by
    heap_get
  have inC : (Value.ref C :: bm).contains (.ref C) = true := by simp
  have l1 := li.keeps kp
  have l2 := (lb (.ref (h.objs.size + 1))).keeps kp
  unfold isInstance
  repeat (first
    | with_reducible refine wpAny_loadPart_at at1 ?_
    | (with_reducible refine wpAny_isSubtype_exc hC1 ?_; rw [inC])
    | wp_step)
  show wpAny _ _ (typeLookup (.ref C) _) _ _ _
  refine l1.at ?_
  refine wpAny_holding (wpAny_bind (l2.at ?_))
  refine wpAny_bind (wpAny_call (codeAny_mono hq fun r s' z => ?_))
  rcases r with e | (v | _ | _ | _) <;> first | exact z | exact z.elim | skip
  obtain ⟨rfl, z⟩ := z
  first
    | exact wpAny_pure (wpAny_pure z)
    | (wp_walk; exact z)

theorem callKw (F : ExcBaseFacts B newId initId bmB) (hT : ∀ X : String, bm.contains (.type X) = bmB.contains (.type X)) {us : List Value} {kw : List (Str × Value)} {fI : Addr}
    (hC : h.get? C = some (excClassObj nm q C N bs bm hdct sn sub ab col dd k0 k1 k2 k3 k5 newId))
    (li : PySem.W.Looks (model prog w) h (typeLookup (.ref C) "__init__") (some (.ref fI)))
    (lb : ∀ self, PySem.W.Looks (model prog w) h (bindSpecial (.ref fI) self) (.ref fI, [self])) (room : us.length ≤ sizeLine)
    (hq : codeAny (model prog w) (A.under (.builtin "type.__call__" ⟨.ref C :: us, kw⟩)) (.call (.ref fI) ⟨.ref (h.objs.size + 1) :: us, kw⟩) (PySem.W.InitBack (h.objs.size + 1) R)
      ⟨(h.push (PySem.W.kdv_tup us)).push (PySem.HandSPX.excO C h.objs.size), g, d, t, os⟩) :
    codeAny (model prog w) A (.call (.ref C) ⟨us, kw⟩) R ⟨h, g, d, t, os⟩ := by
  have f1 := tc_lookup
  have f2 := tc_bind (.ref C)
  have ty : (⟨h, g, d, t, os⟩ : Shared).TypeIs (.ref C) "type" := ⟨_, hC, rfl⟩
  refine codeAny_of_tree ?_
  show wpAny _ _ (callAny (.ref C) _) _ _ _
  repeat (any_goals (first
    | assumption
    | with_reducible refine wpAny_loadPart_at hC ?_
    | wp_step))
  refine ⟨rfl, ?_⟩
  refine codeAny_call_builtin_at (Code.quiet_builtin _ (by decide +kernel)) entry_typeCall ?_
  have chk : ∀ {Q : Unit → Shared → Prop} {E : Value → Shared → Prop}, Q () ⟨h, g, d, t, os⟩ → wpAny (model prog w) A.in1 (checkBuiltinCall "type.__call__" ⟨.ref C :: us, kw⟩) Q E ⟨h, g, d, t, os⟩ := by
    intro Q E z
    have f3 := tc_sub
    simp only [checkBuiltinCall, tc_kind, tc_split]
    repeat (any_goals (first
      | assumption
      | with_reducible refine wpAny_loadPart_at hC ?_
      | with_reducible refine wpAny_onRaise ?_
      | with_reducible refine wpAny_map ?_
      | wp_step))
  refine chk (typeCallKw F hT hC li lb room ?_)
  refine codeAny_mono hq fun r s' z => ?_
  rcases r with e | (v | _ | _ | _) <;> exact z
end
end E18

set_option Elab.async false
set_option linter.all false
set_option maxRecDepth 100000
set_option maxHeartbeats 4000000
namespace E18
open PySem PySem.Spec PyProof.Rows L2
/-- an error with its attributes -/
def Err (H : Hp) (e C : Addr) (fs : List (Str × V)) : Prop := ∃ d, H e = some (exo e C (some d)) ∧ H d = some (exd d fs)

section
variable {X : Cx} {pins : List (Addr × Obj)} {σ : L2.St} {H : Hp} {s : Shared} {a C dx : Addr} {f : Str} {y : V} {u : Value} {fs : List (Str × V)} {Q : Unit → Shared → Prop} {E : Value → Shared → Prop} {A : Around}
theorem rel_one {mA : Str → Option Value} (ry : RelV y u) (r : ∀ g, RelO (fs.lookup g) (mA g)) : ∀ g, RelO (((f, y) :: fs).lookup g) (if g = f then some u else mA g) :=
  fun g => relO_put ry r g
/-- self.f = y, where no attribute stands -/
theorem set_new (T : ExC X.K C) (I : Inv X pins σ H s) (e : H a = some (exo a C none)) (nf : PySem.W.findIn X.K (.ref C) f = some none) (ry : RelV y u)
    (go : ∀ dx s', H dx = none → dx ≠ a → Inv X pins σ (upd (upd H dx (exd dx [(f, y)])) a (exo a C (some dx))) s' → Q () s') :
    wpAny (model X.prog X.w) A (setAttr (.ref a) f u) Q E s := by
  obtain ⟨t1, ho⟩ := exo_at I.hok e
  obtain ⟨hp, g, d, t, os⟩ := s
  refine PySem.W.set_plain I.kIn (ox := PySem.W.excObj C t1 none .none) (od := none) ⟨ho, rfl, rfl, trivial⟩ T.sa ?_
  refine put0 T I.kIn ho nf fun h' tk' dx kp hsz dne hx hn => ?_
  have hnd : H dx = none := I.hok.fresh hsz
  -- the heap between: the dict is laid, the object is as it was
  let h1 : Heap := h'.update a fun _ => PySem.W.excObj C t1 none .none
  have e1 : h1.get? a = some (PySem.W.excObj C t1 none .none) := Heap.get?_update_self _ hx rfl
  have e2 : ∀ b, b ≠ a → h1.get? b = h'.get? b := fun b hb => Heap.get?_update_ne _ _ _ _ hb
  have k1 : ∀ b o, hp.get? b = some o → h1.get? b = some o := fun b o q => by
    by_cases hb : b = a
    · rw [hb] at q ⊢
      rw [e1]
      exact ho.symm.trans q
    · rw [e2 b hb]
      exact kp b o hb q
  have n1 : h1.Ns1 dx (fun z => if z = f then some u else none) := hn.at fun o q => by rw [e2 dx dne]; exact q
  have I1 : Inv X pins σ (upd H dx (exd dx [(f, y)])) ⟨h1, g, d, tk', os⟩ :=
    I.laid (t' := tk') k1 hsz (exd_ok n1 (rel_one (fs := []) (mA := fun _ => none) ry fun _ => True.intro))
  have ea : upd H dx (exd dx [(f, y)]) a = some (exo a C none) := by rw [upd_ne dne.symm]; exact e
  have I2 := I1.write (t' := tk') (h' := h') (x := a) (e := a) (o := exo a C (some dx)) (by rw [ea]; exact True.intro) (.inl rfl) (fun b o hb q => by rw [← e2 b hb]; exact q) ⟨_, hx⟩ (exo_ok hx)
  exact go dx _ hnd dne I2
/-- self.f = y, a further attribute -/
theorem set_more (T : ExC X.K C) (I : Inv X pins σ H s) (e : H a = some (exo a C (some dx))) (ed : H dx = some (exd dx fs)) (room : fs.length ≤ 900) (nf : PySem.W.findIn X.K (.ref C) f = some none) (ry : RelV y u)
    (go : ∀ s', Inv X pins σ (upd H dx (exd dx ((f, y) :: fs))) s' → Q () s') :
    wpAny (model X.prog X.w) A (setAttr (.ref a) f u) Q E s := by
  obtain ⟨t1, ho⟩ := exo_at I.hok e
  obtain ⟨mA, hns, rel⟩ := exd_at I.hok ed
  have hw := within_of rel
  obtain ⟨hp, g, d, t, os⟩ := s
  obtain ⟨oD, _, _, hoD, _, _⟩ := hns.count hw
  obtain ⟨B, nI, iI, mB, _, sf, _, ov⟩ := T.fam
  refine PySem.W.set_plain I.kIn (ox := PySem.W.excObj C t1 (some dx) .none) (od := some oD) ⟨ho, rfl, rfl, hoD⟩ T.sa ?_
  refine PySem.W.osa_openX (od := some oD) sf I.kIn ⟨ho, rfl, rfl, hoD⟩ ov (noTaker nf) fun b => ?_
  obtain ⟨cd, hcd, hd⟩ := PySem.W.any_some T.dct
  refine wpAny_bind (wpAny_pure (wpAny_bind (wpAny_bind ?_)))
  refine wpAny_loadPart ho ?_
  refine wpAny_bind ((PySem.W.looks_clsIn I.kIn hcd).at ?_)
  rw [hd]
  refine wpAny_pure (a := some dx) ?_
  refine PySem.OEX.store_in_old hns hw (by rw [List.length_map]; omega) fun h' tk' hn sb => ?_
  have there : ∃ o, h'.get? dx = some o := by
    obtain ⟨o, _, _, e', _⟩ := hn
    exact ⟨o, e'⟩
  exact go _ (I.write (t' := tk') (x := dx) (e := dx) (o := exd dx ((f, y) :: fs)) (by rw [ed]; exact True.intro) (.inl rfl) (fun b o hb q => (sb.2 b hb).trans q) there (exd_ok hn (rel_one ry rel)))
end

/-- self.f = e in an error's __init__ -/
def sExf (K : PySem.W.Frag) (f : Str) (to te : TE) : TS := fun D σ H => te σ H fun y H1 => to σ H1 fun x H2 => ∃ a C : Addr, x = .ref a ∧ ExC K C ∧ PySem.W.findIn K (.ref C) f = some none ∧
  ((H2 a = some (exo a C none) ∧ ∀ dx, H2 dx = none → dx ≠ a → D.nx σ (upd (upd H2 dx (exd dx [(f, y)])) a (exo a C (some dx)))) ∨
    ∃ (dx : Addr) (fs : List (Str × V)), H2 a = some (exo a C (some dx)) ∧ H2 dx = some (exd dx fs) ∧ fs.length ≤ 900 ∧ D.nx σ (upd H2 dx (exd dx ((f, y) :: fs))))
/-- e.f of an error -/
def tExf (K : PySem.W.Frag) (f : Str) (te : TE) : TE := fun σ H Q => te σ H fun x H1 => ∃ a C fs v, x = .ref a ∧ ExC K C ∧ PySem.W.findIn K (.ref C) f = some none ∧ Err H1 a C fs ∧ fs.lookup f = some v ∧ Q v H1
/-- isinstance(e, D) of an error -/
def rIsx (K : PySem.W.Frag) : List V → Hp → VK → Prop := fun xs H Q => ∃ (a C : Addr) (fs : List (Str × V)) (D : V) (u : Value) (b : Bool), xs = [.ref a, D] ∧ ClsV D u ∧ ExC K C ∧ (Err H a C fs ∨ H a = some (exo a C none)) ∧ PySem.W.kitOne K (.ref C) u = some b ∧ Q (.bl b) H
section
variable {X : Cx} {o e : Expr} {to te : TE} {f : Str} {p' pos : Pos}
theorem ps_exf (ho : PE X o to) (he : PE X e te) (hs : swapsWith e (some (.Attribute o f p')) pos.line X.env = pure false := by rfl) : PS X (.Assign [.Attribute o f p'] e pos) (sExf X.K f to te) := by
  refine ⟨fun pins s σ H D I h => ?_⟩
  refine plainObj_wpAny_Assign_Attribute (thn (he.run pins s σ H _ I h) fun v s1 hv => ?_) hs
  obtain ⟨y, H1, I1, r1, q1⟩ := hv
  refine thn (ho.run pins s1 σ H1 _ I1 q1) fun u s2 hu => ?_
  obtain ⟨x, H2, I2, r2, a, C, ex, T, nf, q⟩ := hu
  subst ex
  obtain rfl : u = Value.ref a := r2
  rcases q with ⟨ea, q⟩ | ⟨dx, fs, ea, ed, hl, q⟩
  · exact set_new T I2 ea nf r1 fun dx s' n ne J => ⟨σ, _, J, q dx n ne⟩
  · exact set_more T I2 ea ed hl nf r1 fun s' J => ⟨σ, _, J, q⟩
theorem pe_exf (he : PE X e te) (hb : attributeBase e f X.env (eval e X.env) = eval e X.env := by rfl) : PE X (.Attribute e f pos) (tExf X.K f te) := by
  refine ⟨fun pins s σ H Q I h => ?_⟩
  refine attr_of hb (thn (he.run pins s σ H _ I h) fun u s1 hu => ?_)
  obtain ⟨x, H1, I1, rx, a, C, fs, v, ex, T, nf, ⟨dd, ea, ed⟩, l, q⟩ := hu
  subst ex
  obtain rfl : u = Value.ref a := rx
  obtain ⟨t1, ho⟩ := exo_at I1.hok ea
  obtain ⟨mA, hns, rel⟩ := exd_at I1.hok ed
  obtain ⟨od, hod, hl⟩ := lookIn_ns hns
  obtain ⟨w, hw, rw'⟩ := RelO.some_of (v := v) (o := mA f) (by rw [← l]; exact rel f)
  have J : PySem.W.InstAt s1.heap a _ C (some od) := ⟨ho, rfl, rfl, hod⟩
  exact HandSPX.exc_get I1.kIn J T.ga T.gn T.sub (PySem.W.findObj_own T.dct nf rfl (by rw [hl, hw])) (handed_of rw') ⟨v, H1, I1.tok _, rw', q⟩
theorem call_isx : CallR X (.builtin "isinstance") (rIsx X.K) := by
  intro pins s σ H xs us Q I r h
  obtain ⟨a, C, fs, D, u, b, rfl, k, T, ha, e, q⟩ := h
  obtain ⟨u1, u2, rfl, r1, r2⟩ := vals2 r
  have e2 := k.eq r2
  subst e2
  obtain rfl : u1 = Value.ref a := r1
  obtain ⟨cd, hcd, _⟩ := PySem.W.any_some T.dct
  have hcl : (PySem.W.clsIn X.K C).isSome = true := by rw [hcd]; rfl
  rcases ha with ⟨d, ea, ed⟩ | ea
  · obtain ⟨t1, ho⟩ := exo_at I.hok ea
    obtain ⟨mA, hns, rel⟩ := exd_at I.hok ed
    obtain ⟨od, hod, _⟩ := lookIn_ns hns
    exact PySem.W.kia_one (PySem.W.kitx_exc (od := some od) hcl T.ga T.gn T.sub T.ca T.sp T.tk T.mo) I.kIn ⟨ho, rfl, rfl, hod⟩ e (fun z => nomatch z) fun tk => ⟨.bl b, H, I.tok tk, rfl, q⟩
  · obtain ⟨t1, ho⟩ := exo_at I.hok ea
    exact PySem.W.kia_one (PySem.W.kitx_exc (od := none) hcl T.ga T.gn T.sub T.ca T.sp T.tk T.mo) I.kIn ⟨ho, rfl, rfl, trivial⟩ e (fun z => nomatch z) fun tk => ⟨.bl b, H, I.tok tk, rfl, q⟩
end
end E18

set_option Elab.async false
set_option linter.all false
set_option maxRecDepth 100000
set_option maxHeartbeats 4000000
/-! ### own errors raised out of defs and operators, caught with their attributes -/
namespace E10
open L2 PySem PySem.Spec PyProof.Rows
/-- C(e, ..), the __init__ of C keeps sp: for raise -/
def tMkErr (C : Addr) (sp : Sp) (ta : TA) : L2.St → Hp → XK → Prop := fun σ H Q => ta σ H fun vs H1 => vs.length ≤ 1000 ∧ ∀ a, H1 a = none → sp (.ref a :: vs) (upd H1 a (exo a C none))
  (fun v H2 => v = .non ∧ ∃ (d : Addr) (fs : List (Str × V)), H2 a = some (exo a C (some d)) ∧ H2 d = some (exd d fs) ∧ H1 d = none ∧ Q (.ref C) (some d) (upd (del H2 a) d (.xd fs))) L2.E0
section
variable {X : Cx} {x : Str} {C fI : Addr} {k : Nat} {fd : FuncData} {ps : List Str} {sp : Sp} {e : Expr} {es : List Expr} {ta : TA} {p pos : Pos}
theorem pmk_mkErr (T : E18.ExC X.K C) (R : Raises X (.ref C)) (iC : PySem.W.findIn X.K (.ref C) "__init__" = some (some (.ref fI))) (tI : PySem.W.typeIn X.K (.ref fI) = some (.type "function"))
    (F1 : FnOk X.prog X.w X.K X.mg X.base L2.CX0 k fI fd ps sp) (hr : Room (k + 1) X.A) (hb : Binds X.K fd ps []) (hg : Gl X x) (hm : X.mg x = some (.ref C)) (ha : PA X (e :: es) ta)
    (hdb : (x == ("__debug__" : Str)) = false := by decide) (he : starEach (e :: es) X.env = (false, eval e X.env) :: starEach es X.env := by rfl) (hpl : (backTo pos (starEach es X.env)).any (·.1) = false := by rfl) :
    PMk X (.Call (.Name x p) (e :: es) [] pos) (tMkErr C sp ta) := by
  intro pins s σ H Q I h
  refine wpAny_Call_Name_kw (ld_glob I hg hm ?_ hdb)
  refine PySem.W.callWith_K (h₀ := X.base) I.ok.mod.kin T.kp (thn (ha.run pos pins s σ H _ I h) fun us s1 ⟨vs, H1, I1, r1, hz, q1⟩ => ⟨I1.kIn, ?_⟩) he hpl
  show wpAny _ _ (call (.ref C) us) _ _ _
  obtain ⟨B, nI, iI, mB, fb, _, qi, _⟩ := T.fam
  obtain ⟨nm, N, qn, bs, bm, hdct, sn, sub, ab, col, dd, k0, k1, k2, k3, k5, hC, hT⟩ := PySem.W.excInit_of I1.kIn qi
  obtain ⟨hp, g, dr, tk, os⟩ := s1
  have hsz : hp.objs.size ≤ hp.objs.size + 1 := Nat.le_succ _
  have hn : H1 (hp.objs.size + 1) = none := I1.hok.fresh hsz
  have hq := q1 (hp.objs.size + 1) hn
  have kk : ∀ b o, hp.get? b = some o → ((hp.push (PySem.W.kdv_tup us)).push (PySem.HandSPX.excO C hp.objs.size)).get? b = some o := fun b o e => Heap.get?_push_of_some _ (Heap.get?_push_of_some _ e)
  have hget : ((hp.push (PySem.W.kdv_tup us)).push (PySem.HandSPX.excO C hp.objs.size)).get? (hp.objs.size + 1) = some (PySem.HandSPX.excO C hp.objs.size) := by heap_get
  have I2 : Inv X pins σ (upd H1 (hp.objs.size + 1) (exo (hp.objs.size + 1) C none)) ⟨(hp.push (PySem.W.kdv_tup us)).push (PySem.HandSPX.excO C hp.objs.size), g, dr, tk, os⟩ :=
    I1.laid (t' := tk) (a := hp.objs.size + 1) (o := exo (hp.objs.size + 1) C none) (h' := (hp.push (PySem.W.kdv_tup us)).push (PySem.HandSPX.excO C hp.objs.size)) kk hsz (exo_ok hget)
  have r2 : Vals (V.ref (hp.objs.size + 1) :: vs) (Value.ref (hp.objs.size + 1) :: us) := .cons rfl r1
  have hl : (Value.ref (hp.objs.size + 1) :: us).length = ps.length := by
    have e := r2.length
    rw [F1.len _ _ _ _ hq] at e
    exact e.symm
  have hus : us.length ≤ sizeLine := by
    rw [← Paired.length r1, sizeLine_eq]
    omega
  have bb := hb ⟨(hp.push (PySem.W.kdv_tup us)).push (PySem.HandSPX.excO C hp.objs.size), g, dr, tk, os⟩ (Value.ref (hp.objs.size + 1) :: us) I2.kIn (by rw [List.append_nil]; exact hl)
  rw [List.append_nil] at bb
  refine wpAny_call (E18.callKw (kw := []) fb hT hC (PySem.W.looks_findIn I1.kIn iC) (fun self => PySem.W.bind_fn I1.kIn self tI) hus
    (codeAny_mono (F1.run _ X.stack _ _ ⟨Value.ref (hp.objs.size + 1) :: us, []⟩ (Value.ref (hp.objs.size + 1) :: us) _ _ L2.E0 (hr.make C us []) (I2.env0.make C us []) bb r2 hq) fun r s' hq' => ?_))
  cases r with
  | error er => exact (show False from hq').elim
  | ok fl =>
    cases fl with
    | ret u =>
      obtain ⟨v, H2, os2, bare2, un2, hok2, rv, ev, d, fs, ea, ed, hd1, q2⟩ := hq'
      subst ev
      obtain ⟨h2, g2, d2, t2, os'⟩ := s'
      exact ⟨rv, mk_end R I1 hsz kk un2 hok2 os2 bare2 ea ed hd1 q2⟩
    | next => exact False.elim hq'
    | brk => exact False.elim hq'
    | cont => exact False.elim hq'
end
/-! ### operators and methods that may raise -/
section
variable {X : Cx} {W : WX} {k : Nat} {f C : Addr} {fd : FuncData} {ps : List Str} {sp : Sp} {a b o e : Expr} {es : List Expr} {ta tb : TE} {t : TA} {m : Str} {p apos pos : Pos}
/-- a op b, both own objects of one class; at the slots σ -/
def tOwnX (C : Addr) (sp : Sp) (W : WX) (ta tb : TE) : TE := fun σ H Q => ta σ H fun x H1 => tb σ H1 fun y H2 => ∃ (a b dx dy : Addr) (fs gs : List (Str × V)), x = .ref a ∧ y = .ref b ∧ H2 a = some (.ins C dx fs) ∧ H2 b = some (.ins C dy gs) ∧ sp [.ref a, .ref b] H2 Q (WE W σ)
theorem pe_ownX {op : Operator} (tk : Takes X W) (F : FnOk X.prog X.w X.K X.mg X.base (L2.CX X.prog X.w) k f fd ps sp) (hr : Room k X.A) (bi : Binds X.K fd ps []) (hc : PySem.W.selfFirst X.K C = true) (h : Has X.K C f (PySem.dunder op.info.2)) (ha : PE X a ta) (hb : PE X b tb) :
    PE X (.BinOp a op b pos) (tOwnX C sp W ta tb) := by
  refine ⟨fun pins s σ H Q I hw => ?_⟩
  refine wpAny_BinOp (binT ha hb I (R := fun x y H2 => ∃ (a b dx dy : Addr) (fs gs : List (Str × V)), x = .ref a ∧ y = .ref b ∧ H2 a = some (.ins C dx fs) ∧ H2 b = some (.ins C dy gs) ∧ sp [.ref a, .ref b] H2 Q (WE W σ)) hw fun v u s2 x y H2 I2 rx ry q => ?_)
  obtain ⟨a1, b1, dx, dy, fs, gs, rfl, rfl, h1, h2, q⟩ := q
  cases (show v = Value.ref a1 from rx)
  cases (show u = Value.ref b1 from ry)
  obtain ⟨mA, O, _⟩ := ins_get I2.hok h1
  obtain ⟨od, J, _⟩ := O.look
  obtain ⟨mB, O2, _⟩ := ins_get I2.hok h2
  obtain ⟨od2, J2, _⟩ := O2.look
  obtain ⟨m, hF⟩ := I2.fr
  refine PySem.W.binop_K (op := op) hF I2.ok.mod.kin J J2.type hc h.at_ h.fn ?_
  exact wpAny_mono (run_fnS (E := WE W) F hr bi (passAt tk σ) I2 (vs := [.ref a1, .ref b1]) (.cons rfl (.cons rfl .nil)) q) (fun _ _ z => cmpBack z) fun _ _ z => z
/-- o.m(e, ..) -/
def tMethX (C : Addr) (m : Str) (sp : Sp) (W : WX) (ta : TE) (t : TA) : TE := fun σ H Q => ta σ H fun x H1 => ∃ a dx fs, x = .ref a ∧ H1 a = some (.ins C dx fs) ∧ fs.lookup m = none ∧ t σ H1 fun vs H2 => sp (.ref a :: vs) H2 Q (WE W σ)
theorem pe_methX {pl : Sem Bool} (tk : Takes X W) (he : PE X o ta) (c : Cls X.K C) (hm : Meth X.K C m f) (F : FnOk X.prog X.w X.K X.mg X.base (L2.CX X.prog X.w) k f fd ps sp) (hr : Room k X.A) (hb : Binds X.K fd ps []) (ha : PA X (e :: es) t)
    (hst : starEach (e :: es) X.env = (false, eval e X.env) :: starEach es X.env := by rfl) (hpl : (backTo pos (starEach es X.env)).any (·.1) = false := by rfl)
    (ht : eval (.Call (.Attribute o m apos) (e :: es) [] pos) X.env = (do
      let ov ← eval o X.env
      standAt apos.atName
      let (f, first) ← holding [ov] (getMethod ov m pl)
      callWith pos f first (backTo pos (starEach (e :: es) X.env)) (backToKw pos (keywordEach [] X.env))) := by rfl) :
    PE X (.Call (.Attribute o m apos) (e :: es) [] pos) (tMethX C m sp W ta t) := by
  refine ⟨fun pins s σ H Q I h => ?_⟩
  refine PySem.W.methodCall_KW (pl := pl) (thn (he.run pins s σ H _ I h) fun u s1 ⟨x, H1, I1, rx, a, dx, fs, ex, ea, l, q⟩ => ?_) ht
  subst ex
  obtain rfl : u = Value.ref a := rx
  refine getmeth_ok I1 ea c hm l ?_
  refine PySem.W.callWith_K (first := [.ref a]) (h₀ := X.base) I.ok.mod.kin hm.kp (thn (ha.run pos pins s1 σ H1 _ I1 q) fun us s2 ⟨vs, H2, I2, r, q2⟩ => ⟨I2.kIn, ?_⟩) hst hpl
  exact run_fnS (E := WE W) F hr hb (passAt tk σ) I2 (vs := .ref a :: vs) (.cons rfl r) q2
end
end E10

set_option Elab.async false
set_option linter.all false
set_option maxRecDepth 100000
set_option maxHeartbeats 4000000
namespace E10
open L2 PySem PySem.Spec PyProof.Rows
/-! ### the text by places -/
abbrev top (i : Nat) : Stmt := PySem.Challenge.pw_anyofthese_k32_whole_earlier_and_later.main.body.getD i (.Pass ⟨0, 0, 0, 0⟩)
abbrev inC (i j : Nat) : Stmt := match top i with
  | .ClassDef (body := b) .. => b.getD j (.Pass ⟨0, 0, 0, 0⟩)
  | _ => .Pass ⟨0, 0, 0, 0⟩
abbrev s_is_name : Stmt := top 18
abbrev s_is_integer : Stmt := top 19
abbrev s_is_list : Stmt := top 20
abbrev s_is_position : Stmt := top 21
abbrev s_is_moment_of : Stmt := top 22
abbrev s_are_among : Stmt := top 23
abbrev s_has_names : Stmt := top 24
abbrev s_is_times : Stmt := top 25
abbrev s_check_shift : Stmt := top 27
abbrev s_check_times : Stmt := top 28
abbrev s_check_moment : Stmt := top 29
abbrev s_check_position : Stmt := top 30
abbrev s_check_same_moments : Stmt := top 31
abbrev s_in_order : Stmt := top 33
abbrev s_moved : Stmt := top 34
abbrev s_least_of : Stmt := top 35
abbrev s_term_text : Stmt := top 37
abbrev s_check_shifts : Stmt := top 40
abbrev s_check_names : Stmt := top 45
abbrev s_check_each : Stmt := top 46
abbrev s_check_rules : Stmt := top 47
abbrev s__law_pot : Stmt := top 52
abbrev s__law_draw : Stmt := top 53
abbrev s__law_among : Stmt := top 54
abbrev s__law_names : Stmt := top 55
abbrev s__law_run : Stmt := top 56
abbrev s__law_both : Stmt := top 57
abbrev s__law_done : Stmt := top 58
abbrev s__law_is_pair_right : Stmt := top 59
abbrev s__law_is_triple_right : Stmt := top 60
abbrev s__law_refused : Stmt := top 61
abbrev s__law_strange : Stmt := top 62
abbrev s__law_right : Stmt := top 63
abbrev s_law : Stmt := top 64
abbrev m_InvalidName___init__ : Stmt := inC 3 0
abbrev m_InvalidShift___init__ : Stmt := inC 4 0
abbrev m_InvalidShifts___init__ : Stmt := inC 5 0
abbrev m_InvalidTimes___init__ : Stmt := inC 6 0
abbrev m_InvalidMoments___init__ : Stmt := inC 7 0
abbrev m_InvalidRules___init__ : Stmt := inC 8 0
abbrev m_InvalidPosition___init__ : Stmt := inC 9 0
abbrev m_UnknownMoment___init__ : Stmt := inC 11 0
abbrev m_OtherMoments___init__ : Stmt := inC 13 0
abbrev m_TooMany___init__ : Stmt := inC 15 0
abbrev m_Earliest___init__ : Stmt := inC 41 0
abbrev m_Earliest_of : Stmt := inC 41 1
abbrev m_Earliest_moments : Stmt := inC 41 2
abbrev m_Earliest_shifts : Stmt := inC 41 3
abbrev m_Earliest___getitem__ : Stmt := inC 41 4
abbrev m_Earliest___contains__ : Stmt := inC 41 5
abbrev m_Earliest___len__ : Stmt := inC 41 6
abbrev m_Earliest___iter__ : Stmt := inC 41 7
abbrev m_Earliest___call__ : Stmt := inC 41 8
abbrev m_Earliest_first : Stmt := inC 41 9
abbrev m_Earliest___add__ : Stmt := inC 41 10
abbrev m_Earliest___radd__ : Stmt := inC 41 11
abbrev m_Earliest___sub__ : Stmt := inC 41 12
abbrev m_Earliest___or__ : Stmt := inC 41 13
abbrev m_Earliest_is_never_later : Stmt := inC 41 14
abbrev m_Earliest_without : Stmt := inC 41 15
abbrev m_Earliest_put_in : Stmt := inC 41 16
abbrev m_Earliest___eq__ : Stmt := inC 41 17
abbrev m_Earliest___str__ : Stmt := inC 41 18
abbrev m_Earliest___repr__ : Stmt := inC 41 19
abbrev m_Rule___init__ : Stmt := inC 43 0
abbrev m_Rule_moment : Stmt := inC 43 1
abbrev m_Rule_earliest : Stmt := inC 43 2
abbrev m_Rule_moments : Stmt := inC 43 3
abbrev m_Rule_is_always : Stmt := inC 43 4
abbrev m_Rule_is_never : Stmt := inC 43 5
abbrev m_Rule_kept_by : Stmt := inC 43 6
abbrev m_Rule_slack : Stmt := inC 43 7
abbrev m_Rule_contrary : Stmt := inC 43 8
abbrev m_Rule___add__ : Stmt := inC 43 9
abbrev m_Rule___radd__ : Stmt := inC 43 10
abbrev m_Rule___sub__ : Stmt := inC 43 11
abbrev m_Rule___eq__ : Stmt := inC 43 12
abbrev m_Rule___str__ : Stmt := inC 43 13
abbrev m_Rule___repr__ : Stmt := inC 43 14
abbrev m_Book___init__ : Stmt := inC 48 2
abbrev m_Book_moments : Stmt := inC 48 3
abbrev m_Book_rules : Stmt := inC 48 4
abbrev m_Book___getitem__ : Stmt := inC 48 5
abbrev m_Book___len__ : Stmt := inC 48 6
abbrev m_Book___contains__ : Stmt := inC 48 7
abbrev m_Book___iter__ : Stmt := inC 48 8
abbrev m_Book_rules_of : Stmt := inC 48 9
abbrev m_Book___and__ : Stmt := inC 48 10
abbrev m_Book_with_rules : Stmt := inC 48 11
abbrev m_Book_without : Stmt := inC 48 12
abbrev m_Book_renamed : Stmt := inC 48 13
abbrev m_Book___eq__ : Stmt := inC 48 14
abbrev m_Book___repr__ : Stmt := inC 48 15
abbrev m_Run___init__ : Stmt := inC 50 0
abbrev m_Run_of : Stmt := inC 50 1
abbrev m_Run_moments : Stmt := inC 50 2
abbrev m_Run_times : Stmt := inC 50 3
abbrev m_Run___getitem__ : Stmt := inC 50 4
abbrev m_Run___contains__ : Stmt := inC 50 5
abbrev m_Run___len__ : Stmt := inC 50 6
abbrev m_Run___iter__ : Stmt := inC 50 7
abbrev m_Run___and__ : Stmt := inC 50 8
abbrev m_Run___or__ : Stmt := inC 50 9
abbrev m_Run_is_at_most : Stmt := inC 50 10
abbrev m_Run___add__ : Stmt := inC 50 11
abbrev m_Run___radd__ : Stmt := inC 50 12
abbrev m_Run___sub__ : Stmt := inC 50 13
abbrev m_Run_with_time : Stmt := inC 50 14
abbrev m_Run_only : Stmt := inC 50 15
abbrev m_Run_gap : Stmt := inC 50 16
abbrev m_Run___eq__ : Stmt := inC 50 17
abbrev m_Run___repr__ : Stmt := inC 50 18
end E10

set_option Elab.async false
set_option linter.all false
set_option maxRecDepth 100000
set_option maxHeartbeats 8000000
namespace E10
open L2 PySem PySem.Spec PyProof.Rows
/-! ### the text by places; the pot that is drawn from -/
/-- the names that the law leans on -/
structure Nam (mg : Str → Option Value) : Prop where
  isi : mg "isinstance" = none
  all_ : mg "all" = none
  any_ : mg "any" = none
  len : mg "len" = none
  rng : mg "range" = none
  int_ : mg "int" = none
  mx : mg "max" = none
  mn : mg "min" = none
  ab : mg "abs" = none
  dm : mg "divmod" = none
  rep : mg "repr" = none
  str_ : mg "str" = none
  dct : mg "dict" = none
  zip_ : mg "zip" = none
  bool_ : mg "bool" = none
  tup_ : mg "tuple" = none
  srt : mg "sorted" = none
  lst_ : mg "list" = none
  sum_ : mg "sum" = none
  enm : mg "enumerate" = none
  ml : ∃ t, mg "MOST_LETTERS" = some (.int 8 t)
  mt : ∃ t, mg "MOST_TERMS" = some (.int 8 t)
theorem new_same {H : Hp} {p : Addr} {o : HO} (np : H p = none) : Same H (upd H p o) := fun c u e => (upd_ne (ne_of_none e np)).trans e
theorem SqL.sm {K : PySem.W.Frag} {H H' : Hp} {a : Addr} {xs : List V} (s : Same H H') (h : SqL K H a xs) : SqL K H' a xs := by
  rcases h with (e | ⟨o, e⟩) | h
  · exact .inl (.inl (s _ _ e))
  · exact .inl (.inr ⟨o, s _ _ e⟩)
  · exact .inr h
def PotAt (H : Hp) (a : Addr) : Prop := ∃ x y : Int, H a = some (.lst [.int x, .int y]) ∧ 0 ≤ x ∧ 0 ≤ y ∧ y < 2147483648
/-- all but what stands at a is as it was -/
def SameB (a : Addr) (H H' : Hp) : Prop := ∀ b o, H b = some o → b ≠ a → H' b = some o
theorem SameB.of {a : Addr} {H H' : Hp} (s : Same H H') : SameB a H H' := fun b o e _ => s b o e
theorem SameB.trans {a : Addr} {H H1 H2 : Hp} (s : SameB a H H1) (t : SameB a H1 H2) : SameB a H H2 := fun b o e n => t b o (s b o e n) n
theorem SameB.new {a : Addr} {H H' : Hp} (n : H a = none) (s : SameB a H H') : Same H H' := fun b o e => s b o e (ne_of_none e n)
theorem PotAt.sm {H H' : Hp} {a : Addr} (s : Same H H') (h : PotAt H a) : PotAt H' a := by
  obtain ⟨x, y, e, r⟩ := h
  exact ⟨x, y, s _ _ e, r⟩
def spPot (K : PySem.W.Frag) : Sp := fun vs H Q _ => ∃ (a : Addr) (ns : List Int) (k : Nat), vs = [.ref a, .int k] ∧ SqL K H a (ns.map V.int) ∧ k < 4 ∧ ns.length ≤ 63 ∧ ∀ p H', H p = none → Same H H' → PotAt H' p → Q (.ref p) H'
def spDraw : Sp := fun vs H Q _ => ∃ (a : Addr) (m : Int), vs = [.ref a, .int m] ∧ PotAt H a ∧ 0 < m ∧ m < 1073741824 ∧ ∀ (d : Int) H', 0 ≤ d → d < m → PotAt H' a → SameB a H H' → Q (.int d) H'
/-- one of a list, by its place -/
def spAmong : Sp := fun vs H Q _ => ∃ (a l : Addr) (xs : List V), vs = [.ref a, .ref l] ∧ PotAt H a ∧ H l = some (.lst xs) ∧ l ≠ a ∧ 0 < xs.length ∧ xs.length ≤ 1000 ∧ ∀ x ∈ xs, ∀ H', PotAt H' a → SameB a H H' → Q x H'
theorem mod_in (i : Int) {m : Int} (h : 0 < m) : 0 ≤ i % m ∧ i % m < m := ⟨Int.emod_nonneg _ (by omega), Int.emod_lt_of_pos _ h⟩
/-- a def of the text: where it stands and what it promises -/
structure Def (P : Program) (w : World) (K : PySem.W.Frag) (mg : Str → Option Value) (base : Heap) (x : Str) (ps : List Str) (k : Nat) (sp : Sp) : Prop where
  ex : ∃ (f : Addr) (fd : FuncData), FnOk P w K mg base CX0 k f fd ps sp ∧ mg x = some (.ref f) ∧ PySem.W.keepIn K (.ref f) = true ∧ Binds K fd ps []
structure DefG (P : Program) (w : World) (K : PySem.W.Frag) (mg : Str → Option Value) (base : Heap) (x : Str) (ps : List Str) (k : Nat) (sp : Sp) : Prop where
  ex : ∃ (f : Addr) (fd : FuncData), FnG P w K mg base k f fd ps sp ∧ mg x = some (.ref f) ∧ PySem.W.keepIn K (.ref f) = true ∧ Binds K fd ps []
theorem callD {X : Cx} {x : Str} {k : Nat} {ps : List Str} {sp : Sp} {e : Expr} {es : List Expr} {t : TA} {p pos : Pos} (D : Def X.prog X.w X.K X.mg X.base x ps k sp) (hr : Room k X.A) (hg : Gl X x) (ha : PA X (e :: es) t) (hdb : (x == ("__debug__" : Str)) = false := by decide)
    (he : starEach (e :: es) X.env = (false, eval e X.env) :: starEach es X.env := by rfl) (hpl : (backTo pos (starEach es X.env)).any (·.1) = false := by rfl) : PE X (.Call (.Name x p) (e :: es) [] pos) (tCall sp [] E0 t) := by
  obtain ⟨f, fd, h1, h2, h3, h4⟩ := D.ex
  exact pe_call h1 hr hg h2 h3 h4 .nil pass0 ha hdb he hpl
theorem callDG {X : Cx} {x : Str} {k : Nat} {ps : List Str} {sp : Sp} {e : Expr} {es : List Expr} {t : TA} {p pos : Pos} (D : DefG X.prog X.w X.K X.mg X.base x ps k sp) (hG : X.A.guards = some []) (hr : Room k X.A) (hg : Gl X x) (ha : PA X (e :: es) t) (hdb : (x == ("__debug__" : Str)) = false := by decide)
    (he : starEach (e :: es) X.env = (false, eval e X.env) :: starEach es X.env := by rfl) (hpl : (backTo pos (starEach es X.env)).any (·.1) = false := by rfl) : PE X (.Call (.Name x p) (e :: es) [] pos) (tCall sp [] E0 t) := by
  obtain ⟨f, fd, h1, h2, h3, h4⟩ := D.ex
  exact pe_callG h1 hG hr hg h2 h3 h4 ha hdb he hpl
theorem CallR.or {X : Cx} {f : Value} {r r' : List V → Hp → VK → Prop} (h : CallR X f r) (h' : CallR X f r') : CallR X f (fun xs H Q => r xs H Q ∨ r' xs H Q) := fun pins s σ H xs us Q I rv q => q.elim (h pins s σ H xs us Q I rv) (h' pins s σ H xs us Q I rv)
section
variable {P : Program} {w : World} {K : PySem.W.Frag} {mg : Str → Option Value} {base : Heap} {f : Addr} {fd : FuncData}
abbrev nPot : List Str := ["_law_script", "_law_k", "_law_cell"]
theorem scPot : FnScope nPot ["_law_script", "_law_k"] (defScope s__law_pot) := ⟨rfl, rfl, rfl, by decide +kernel, rfl, by decide +kernel, by decide +kernel⟩
theorem ok_pot (N : Nam mg) (F : Fun K "_law_pot" "_law_pot" s__law_pot f fd) : FnOk P w K mg base CX0 1 f fd ["_law_script", "_law_k"] (spPot K) := by
  refine F.ok scPot (fun vs H Q E h => ?_) (fun cdv A outer s H vs Q E hr h => ?_)
  · obtain ⟨a, ns, k, rfl, _⟩ := h
    rfl
  · obtain ⟨a, ns, k, rfl, hS, hk, hl, go⟩ := h
    refine ⟨_, (pss_cons (ps_set (i := 2) scPot.nd rfl (Or.inl rfl) (pe_op op_add (pe_op op_mul pe_int (pv 1)) pe_int))
      (pss_cons (ps_if (pt_cmpR op_lt (pv 1) (pe_callB call_len_seq rfl N.len PySem.boot_len (pa_cons (pv 0) pa_nil)) (nomark _)) (pss_one (ps_set (i := 2) scPot.nd rfl (Or.inl rfl) (pe_callB call_abs rfl N.ab PyProof.Rows.boot_abs (pa_cons (pe_ix ix_list (pv 0) (pv 1) (fun _ _ => rfl)) pa_nil)))) pss_nil)
      (pss_one (ps_ret (pe_lst (pa_cons (pe_callB (call_max2 rfl) rfl N.mx PyProof.Rows.boot_max (pa_cons pe_int (pa_cons (pe_op op_sub (pv 2) (pe_op op_pow pe_int pe_int)) pa_nil))) (pa_cons (pe_op op_add (pe_op op_mod (pe_op op_mul (pe_op op_add (pe_op op_mod (pv 2) pe_int) pe_int) (pe_op op_pow (pe_op op_add (pe_op op_mul pe_int (pv 1)) pe_int) pe_int)) pe_int) pe_int) pa_nil))))))), ?_⟩
    have tail : ∀ (c : Int) (H' : Hp), Same H H' → (∀ p, H' p = none → ∀ u v : Int, 0 ≤ u → 0 ≤ v → v < 2147483648 → Q (.ref p) (upd H' p (.lst [.int u, .int v]))) := fun c H' sm p np u v hu hv hv2 =>
      go p _ (sm.free np) (sm.trans (new_same np)) ⟨u, v, upd_same, hu, hv, hv2⟩
    refine ⟨_, rfl, 23, k, rfl, rfl, .inl ⟨by decide, by decide⟩, _, _, rfl, rfl, ?_⟩
    refine ⟨_, rfl, _, rfl, a, _, rfl, .inl hS, _, _, rfl, rfl, _, rfl, ?_⟩
    refine ite2 (fun lt => ?_) (fun _ => ?_)
    · have lt' : (k : Int) < ((ns.map V.int).length : Int) := of_decide_eq_true lt
      rw [List.length_map] at lt'
      have ltn : k < ns.length := by omega
      have hat : atI (ns.map V.int) (k : Int) = some (.int ns[k]) := atI_nat (by rw [List.getElem?_map, List.getElem?_eq_getElem ltn]; rfl)
      refine ⟨_, rfl, _, rfl, a, _, k, _, rfl, rfl, hS, hat, _, rfl, ?_⟩
      generalize (if ns[k] < 0 then -ns[k] else ns[k]) = c
      have m1 := mod_in c (m := 2147483489) (by decide)
      refine ⟨_, rfl, 10, 18, rfl, rfl, ⟨by decide, by decide, by decide⟩, _, _, rfl, rfl, 0, _, rfl, ?_⟩
      refine ⟨_, rfl, _, 2147483489, rfl, rfl, by show (0:Int) < 2147483489; decide, _, 1, rfl, rfl, _, rfl, 4, k, rfl, rfl, .inl ⟨by decide, by decide⟩, _, 5, rfl, rfl, _, 3, rfl, rfl, ⟨by decide, by decide, by show (_ : Int).natAbs < 2 ^ 64; omega⟩, _, _, rfl, rfl, .inl ⟨by omega, by omega⟩,
        _, 2147483323, rfl, rfl, by show (0:Int) < 2147483323; decide, _, 1, rfl, rfl, by show 2 ≤ sizeLine; decide, fun p np => ?_⟩
      have m2 := mod_in ((c % 2147483489 + 1) * (4 * (k : Int) + 5) ^ (3 : Int).toNat) (m := 2147483323) (by decide)
      exact tail c H (Same.refl _) p np _ _ (by split <;> omega) (by omega) (by omega)
    · generalize 23 * (k : Int) + 5 = c
      have m1 := mod_in c (m := 2147483489) (by decide)
      refine ⟨_, rfl, 10, 18, rfl, rfl, ⟨by decide, by decide, by decide⟩, _, _, rfl, rfl, 0, _, rfl, ?_⟩
      refine ⟨_, rfl, _, 2147483489, rfl, rfl, by show (0:Int) < 2147483489; decide, _, 1, rfl, rfl, _, rfl, 4, k, rfl, rfl, .inl ⟨by decide, by decide⟩, _, 5, rfl, rfl, _, 3, rfl, rfl, ⟨by decide, by decide, by show (_ : Int).natAbs < 2 ^ 64; omega⟩, _, _, rfl, rfl, .inl ⟨by omega, by omega⟩,
        _, 2147483323, rfl, rfl, by show (0:Int) < 2147483323; decide, _, 1, rfl, rfl, by show 2 ≤ sizeLine; decide, fun p np => ?_⟩
      have m2 := mod_in ((c % 2147483489 + 1) * (4 * (k : Int) + 5) ^ (3 : Int).toNat) (m := 2147483323) (by decide)
      exact tail c H (Same.refl _) p np _ _ (by split <;> omega) (by omega) (by omega)
abbrev nDraw : List Str := ["_law_pot_here", "_law_many", "_law_digit"]
theorem scDraw : FnScope nDraw ["_law_pot_here", "_law_many"] (defScope s__law_draw) := ⟨rfl, rfl, rfl, by decide +kernel, rfl, by decide +kernel, by decide +kernel⟩
theorem ok_draw (N : Nam mg) (F : Fun K "_law_draw" "_law_draw" s__law_draw f fd) : FnOk P w K mg base CX0 1 f fd ["_law_pot_here", "_law_many"] spDraw := by
  refine F.ok scDraw (fun vs H Q E h => ?_) (fun cdv A outer s H vs Q E hr h => ?_)
  · obtain ⟨a, m, rfl, _⟩ := h
    rfl
  · obtain ⟨a, m, rfl, ⟨x, y, ha, hx, hy, hz⟩, h0, hm, go⟩ := h
    refine ⟨_, (pss_cons (ps_if (pt_cmpR op_gt (pe_ix ix_list (pv 0) pe_int (fun _ _ => rfl)) pe_int (nomark _)) (pss_cons (ps_asg (pe_callB call_divmod rfl N.dm PyProof.Rows.boot_divmod (pa_cons (pe_ix ix_list (pv 0) pe_int (fun _ _ => rfl)) (pa_cons (pv 1) pa_nil))) (pg_tup (by rfl) (pgs_cons (pg_sub (pv 0) pe_int set_list) (pgs_cons (pg_name (i := 2) scDraw.nd rfl (Or.inl rfl)) pgs_nil))))
        (pss_one (ps_ret (pv 2)))) pss_nil)
      (pss_cons (ps_asg (pe_op op_mod (pe_op op_add (pe_op op_mul (pe_ix ix_list (pv 0) pe_int (fun _ _ => rfl)) pe_int) pe_int) pe_int) (pg_sub (pv 0) pe_int set_list))
      (pss_one (ps_ret (pe_op op_mod (pe_op op_fdiv (pe_op op_mod (pe_op op_mul (pe_ix ix_list (pv 0) pe_int (fun _ _ => rfl)) (pe_ix ix_list (pv 0) pe_int (fun _ _ => rfl))) pe_int) pe_int) (pv 1)))))), ?_⟩
    refine ⟨_, rfl, a, _, 0, _, rfl, rfl, .inl (.inl ha), rfl, _, _, rfl, rfl, _, rfl, ?_⟩
    refine ite2 (fun gt => ?_) (fun _ => ?_)
    · have gt' : (0 : Int) < x := of_decide_eq_true gt
      refine ⟨_, rfl, a, _, 0, _, rfl, rfl, .inl (.inl ha), rfl, _, rfl, _, _, rfl, ⟨h0, hm⟩, fun t nt => ?_⟩
      have at1 : upd H t (.tup [.int (x / m), .int (x % m)]) a = some (.lst [.int x, .int y]) := (upd_ne (ne_of_none ha nt)).trans ha
      refine ⟨t, _, rfl, .inl (.inl upd_same), rfl, _, _, rfl, ?_⟩
      refine ⟨_, rfl, a, _, 0, 0, rfl, rfl, at1, rfl, _, _, rfl, rfl, ?_⟩
      refine ⟨_, rfl, go (x % m) _ (Int.emod_nonneg _ (by omega)) (Int.emod_lt_of_pos _ h0) ⟨x / m, y, upd_same, Int.ediv_nonneg hx (by omega), hy, hz⟩ fun c o e n => ?_⟩
      rw [upd_ne n]
      exact (upd_ne (ne_of_none e nt)).trans e
    · refine ⟨_, rfl, a, _, 1, _, rfl, rfl, .inl (.inl ha), rfl, _, 40692, rfl, rfl, .inr ⟨by decide, by decide⟩, _, 20021, rfl, rfl, _, 2147483323, rfl, rfl, by show (0:Int) < 2147483323; decide, ?_⟩
      have sm := mod_in (y * 40692 + 20021) (m := 2147483323) (by decide)
      refine ⟨_, rfl, a, _, 1, 1, rfl, rfl, ha, rfl, ?_⟩
      have at2 : upd H a (.lst ([V.int x, V.int y].set 1 (.int ((y * 40692 + 20021) % 2147483323)))) a = some (.lst [.int x, .int ((y * 40692 + 20021) % 2147483323)]) := upd_same
      refine ⟨_, rfl, a, _, 1, _, rfl, rfl, .inl (.inl at2), rfl, _, rfl, a, _, 1, _, rfl, rfl, .inl (.inl at2), rfl, _, _, rfl, rfl, .inl ⟨by omega, by omega⟩, _, 2147483237, rfl, rfl, by show (0:Int) < 2147483237; decide, _, 23, rfl, rfl, ⟨by decide, by decide⟩, _, rfl, _, _, rfl, rfl, h0, ?_⟩
      exact go _ _ (Int.emod_nonneg _ (by omega)) (Int.emod_lt_of_pos _ h0) ⟨x, ((y * 40692 + 20021) % 2147483323), at2, hx, by omega, by omega⟩ fun c o e n => (upd_ne n).trans e
end
end E10

set_option Elab.async false
set_option linter.all false
set_option maxRecDepth 100000
set_option maxHeartbeats 8000000
namespace E10
open L2 PySem PySem.Spec PyProof.Rows
/-- [.. for .. in ..] whose items are told ahead, nothing tracked changed -/
theorem lc_map {J : It} {n : Nat} {G : Hp → Prop} {Y : Nat → Hp → V → Hp → Prop} (w : Walk J n G Y) (fz : Nat → V) {g : TG} {te : TE} {vs : List Nat} {σ : L2.St} {H1 : Hp} {D : Addr} {Qd : Hp → Prop} (nD : H1 D = none) (small : n ≤ 1000)
    (hG : ∀ H', Same H1 H' → G H') (hY : ∀ i H x H', Y i H x H' → Same H H')
    (turn : ∀ i x H' H'' (R : V → Hp → Prop), i < n → Same H1 H' → Same H1 H'' → Y i H' x H'' → (∀ H3, Same H'' H3 → R (fz i) H3) → g x (wipe σ vs) H'' fun σ2 H2 => wipe σ2 vs = wipe σ vs ∧ te σ2 H2 R)
    (done : ∀ H3, Same H1 H3 → H3 D = some (.lst ((List.range n).map fz)) → Qd H3) :
    ∃ W : Nat → Nat → Hp → Prop, (∃ m, W 0 m (upd H1 D (.lst []))) ∧ ∀ i m H, W i m H →
      (J.stop i H ∧ Qd H) ∨ (J.go i H ∧ ∃ Nx : Hp → Prop, (∀ H', Nx H' → ∃ m', m' < m ∧ W (i + 1) m' H') ∧ ∀ x H', J.yld i H x H' → g x (wipe σ vs) H' fun σ2 H2 => wipe σ2 vs = wipe σ vs ∧ tYes σ2 H2 fun b H3 =>
        if b = true then te σ2 H3 fun y H4 => ∃ acc, H4 D = some (.lst acc) ∧ acc.length < sizeLine ∧ Nx (upd H4 D (.lst (acc ++ [y]))) else Nx H3) := by
  refine lc_it w (fun i H' => Same H1 H' ∧ H' D = some (.lst ((List.range i).map fz))) ⟨new_same nD, upd_same⟩ (fun i H _ h => hG H h.1) ?_ (fun H' h => done H' h.1 h.2)
  rintro i x H' H'' lt ⟨sm, hD⟩ y
  have s2 := hY i H' x H'' y
  exact turn i x H' H'' (fun y H4 => ∃ acc, H4 D = some (.lst acc) ∧ acc.length < sizeLine ∧ (Same H1 (upd H4 D (.lst (acc ++ [y]))) ∧ upd H4 D (.lst (acc ++ [y])) D = some (.lst ((List.range (i + 1)).map fz)))) lt sm (sm.trans s2) y fun H3 s3 => by
    refine ⟨_, s3 _ _ (s2 _ _ hD), by rw [List.length_map, List.length_range]; exact Nat.lt_of_lt_of_le (Nat.lt_of_lt_of_le lt small) (by decide), fun c u e => ?_, ?_⟩
    · rw [upd_ne (ne_of_none e nD)]
      exact s3 _ _ (s2 _ _ (sm c u e))
    · rw [upd_same, List.range_succ, List.map_append]
      rfl
theorem all_range (n : Nat) : ((List.range n).map fun _ => V.bl true) = (List.replicate n true).map V.bl := by
  induction n with
  | zero => rfl
  | succ n ih => rw [List.range_succ, List.map_append, ih, List.replicate_succ', List.map_append]; rfl
theorem all_true (n : Nat) : (List.replicate n true).all id = true := by
  rw [List.all_eq_true]
  intro x h
  rw [(List.mem_replicate.mp h).2]
  rfl
theorem any_false (n : Nat) : (List.replicate n false).any id = false := by
  rw [List.any_eq_false]
  intro x h
  rw [(List.mem_replicate.mp h).2]
  exact Bool.false_ne_true
theorem none_range (n : Nat) : ((List.range n).map fun _ => V.bl false) = (List.replicate n false).map V.bl := by
  induction n with
  | zero => rfl
  | succ n ih => rw [List.range_succ, List.map_append, ih, List.replicate_succ', List.map_append]; rfl
theorem boot_all' : bootBuiltins "all" = some (.builtin "all") := by decide +kernel
theorem boot_any' : bootBuiltins "any" = some (.builtin "any") := by decide +kernel
theorem boot_isi : bootBuiltins "isinstance" = some (.builtin "isinstance") := by decide +kernel
theorem boot_str' : bootBuiltins "str" = some (.type "str") := by decide +kernel
theorem boot_int' : bootBuiltins "int" = some (.type "int") := by decide +kernel
theorem boot_bool' : bootBuiltins "bool" = some (.type "bool") := by decide +kernel
theorem boot_dict' : bootBuiltins "dict" = some (.type "dict") := by decide +kernel
theorem pbT {X : Cx} {x : Str} {n : String} {pos : Pos} (hg : Gl X x) (hm : X.mg x = none) (hv : bootBuiltins x = some (.type n)) (hn : x ≠ "__name__" := by decide) (hd : (x == ("__debug__" : Str)) = false := by decide) : PE X (.Name x pos) (tC (.ty n)) :=
  pe_bltn hg hm hv rfl hn hd
theorem pgI {X : Cx} {x : Str} {i : Int} {pos : Pos} (hg : Gl X x) (hm : ∃ t, X.mg x = some (.int i t)) (hd : (x == ("__debug__" : Str)) = false := by decide) : PE X (.Name x pos) (tC (.int i)) := by
  obtain ⟨t, h⟩ := hm
  exact pe_glob hg h ⟨t, rfl⟩ hd
theorem pgC {X : Cx} {x : Str} {a : Addr} {pos : Pos} (hg : Gl X x) (hm : X.mg x = some (.ref a)) (hd : (x == ("__debug__" : Str)) = false := by decide) : PE X (.Name x pos) (tC (.ref a)) := pe_glob hg hm rfl hd
/-- a name -/
structure Nm (z : Str) : Prop where
  pos : 0 < z.length
  le : z.length ≤ 8
  abc : ∀ c ∈ z.cps.toList, 97 ≤ c ∧ c ≤ 122
theorem lt_one {a b : Nat} (h : b ≤ a) : decide ([a] < [b]) = false := by
  refine decide_eq_false fun q => ?_
  rcases List.cons_lt_cons_iff.mp q with q | ⟨_, q⟩
  · omega
  · exact absurd q (by simp)
section
variable {P : Program} {w : World} {K : PySem.W.Frag} {mg : Str → Option Value} {base : Heap} {f : Addr} {fd : FuncData}
def spName : Sp := fun vs H Q _ => ∃ z : Str, vs = [.str z] ∧ Nm z ∧ ∀ H', Same H H' → Q (.bl true) H'
theorem scName : FnScope ["value", "letter"] ["value"] (defScope s_is_name) := ⟨rfl, rfl, rfl, by decide +kernel, rfl, by decide +kernel, by decide +kernel⟩
theorem ok_name (N : Nam mg) (F : Fun K "is_name" "is_name" s_is_name f fd) : FnOk P w K mg base CX0 1 f fd ["value"] spName := by
  refine F.ok scName (fun vs H Q E h => ?_) (fun cdv A outer s H vs Q E hr h => ?_)
  · obtain ⟨z, rfl, _⟩ := h
    rfl
  · obtain ⟨z, rfl, nm, go⟩ := h
    refine ⟨_, pss_cons (ps_if (PW.pt (pw_or (pt_not (pt_val (pe_callB call_isi rfl N.isi boot_isi (pa_cons (pv 0) (pa_cons (pbT rfl N.str_ boot_str') pa_nil)))))
          (pw_or1 (pt_not (pt_chain op_le op_le pe_int (pe_callB call_len_str rfl N.len PySem.boot_len (pa_cons (pv 0) pa_nil)) (pgI rfl N.ml)))))) (pss_one (ps_ret pe_bl)) pss_nil)
      (pss_one (ps_ret (pe_callB (cr_all rfl) rfl N.all_ boot_all' (pa_cons (pe_lc (own := [("letter", 1)]) (g := gName 1) (tt := tYes) rfl scName.nd (pi_str (pv 0))
        (blkOk_by (own := [("letter", 1)]) (N := ["value", "letter"]) (sc := defScope s_is_name) (by decide +kernel)) (fun _ _ _ _ _ => pg_name (i := 1) scName.nd rfl (Or.inl rfl)) (fun _ _ _ _ _ => pts_nil)
        (fun _ _ _ _ _ => pe_chain op_le_str op_le_str pe_str (pv 1) pe_str)) pa_nil)))), ?_⟩
    refine ⟨_, rfl, _, _, _, _, _, rfl, .ty _, .base (.str _), kit_ty (b := "str") (r := true) (by decide +kernel), true, rfl, ?_⟩
    refine ⟨_, rfl, _, rfl, Nat.le_trans nm.le (by decide), _, _, rfl, rfl, _, rfl, ?_⟩
    rw [decide_eq_true (show (1 : Int) ≤ (z.length : Int) by have := nm.pos; omega)]
    refine ⟨_, _, rfl, rfl, _, rfl, ?_⟩
    rw [decide_eq_true (show (z.length : Int) ≤ 8 by have := nm.le; omega)]
    refine ⟨_, rfl, _, rfl, fun D nD => ?_⟩
    refine lc_map walk_str (fun _ => .bl true) nD (Nat.le_trans nm.le (by decide)) (fun _ _ => True.intro) (fun _ _ _ _ y => by rw [y.1]; exact Same.refl _) ?_ ?_
    · rintro i x H' H'' R lt sm _ ⟨rfl, c, hc, rfl⟩ go2
      refine ⟨rfl, ?_⟩
      have hm : c ∈ z.cps.toList := by
        rw [← Array.getElem?_toList] at hc
        exact List.mem_of_getElem? hc
      obtain ⟨c1, c2⟩ := nm.abc c hm
      refine ⟨_, rfl, _, _, rfl, rfl, _, rfl, ?_⟩
      rw [show (!decide ((⟨#[c]⟩ : Str).cps.toList < ("a" : Str).cps.toList)) = true by
        rw [show decide ((⟨#[c]⟩ : Str).cps.toList < ("a" : Str).cps.toList) = false from lt_one c1]; rfl]
      refine ⟨_, _, rfl, rfl, ?_⟩
      rw [show (!decide (("z" : Str).cps.toList < (⟨#[c]⟩ : Str).cps.toList)) = true by
        rw [show decide (("z" : Str).cps.toList < (⟨#[c]⟩ : Str).cps.toList) = false from lt_one c2]; rfl]
      exact go2 _ (Same.refl _)
    · intro H3 s3 hD
      refine ⟨D, List.replicate z.cps.size true, rfl, ?_, ?_⟩
      · rw [← all_range]
        exact .inl (.inl hD)
      · rw [all_true]
        exact go H3 s3
end
end E10

set_option Elab.async false
set_option linter.all false
set_option maxRecDepth 100000
set_option maxHeartbeats 8000000
namespace E10
open L2 PySem PySem.Spec PyProof.Rows
theorem locked {H H' : Hp} {d : Addr} {od : Obj} {u : HO} (h : H d = some u) (s : Same (upd H d (.frz od u)) H') : Same H (upd H' d u) := fun b o e => by
  by_cases q : b = d
  · rw [q] at e ⊢
    rw [upd_same]
    exact h.symm.trans e
  · rw [upd_ne q]
    exact s b o ((upd_ne q).trans e)
/-- at d stands a dict from names to ints -/
def NamesAt (H : Hp) (d : Addr) (kvs : List (Key × V)) : Prop := H d = some (.dK kvs) ∧ 0 < kvs.length ∧ kvs.length ≤ 40 ∧ ∀ p ∈ kvs, ∃ (z : Str) (i : Int), p = (.inr z, .int i) ∧ Nm z
section
variable {P : Program} {w : World} {K : PySem.W.Frag} {mg : Str → Option Value} {base : Heap} {f : Addr} {fd : FuncData}
def spInteger : Sp := fun vs H Q _ => ∃ i : Int, vs = [.int i] ∧ Q (.bl true) H
theorem scInteger : FnScope ["value"] ["value"] (defScope s_is_integer) := ⟨rfl, rfl, rfl, by decide +kernel, rfl, by decide +kernel, by decide +kernel⟩
theorem ok_integer (N : Nam mg) (F : Fun K "is_integer" "is_integer" s_is_integer f fd) : FnOk P w K mg base CX0 1 f fd ["value"] spInteger := by
  refine F.ok scInteger (fun vs H Q E h => ?_) (fun cdv A outer s H vs Q E hr h => ?_)
  · obtain ⟨z, rfl, _⟩ := h
    rfl
  · obtain ⟨i, rfl, go⟩ := h
    refine ⟨_, pss_one (ps_ret (pe_and (pe_callB call_isi rfl N.isi boot_isi (pa_cons (pv 0) (pa_cons (pbT rfl N.int_ boot_int') pa_nil)))
      (pe_one (pe_not (pe_callB call_isi rfl N.isi boot_isi (pa_cons (pv 0) (pa_cons (pbT rfl N.bool_ boot_bool') pa_nil))))))), ?_⟩
    refine ⟨_, rfl, _, _, _, _, _, rfl, .ty _, .base (.int _), kit_ty (b := "int") (r := true) (by decide +kernel), true, rfl, ?_⟩
    refine ⟨_, rfl, _, _, _, _, _, rfl, .ty _, .base (.int _), kit_ty (b := "bool") (r := false) (by decide +kernel), false, rfl, go⟩
def spHas : Sp := fun vs H Q _ => ∃ (d : Addr) (kvs : List (Key × V)), vs = [.ref d] ∧ NamesAt H d kvs ∧ ∀ H', Same H H' → Q (.bl true) H'
theorem scHas : FnScope ["value", "key"] ["value"] (defScope s_has_names) := ⟨rfl, rfl, rfl, by decide +kernel, rfl, by decide +kernel, by decide +kernel⟩
theorem ok_has (N : Nam mg) (DN : Def P w K mg base "is_name" ["value"] 1 spName) (F : Fun K "has_names" "has_names" s_has_names f fd) : FnOk P w K mg base CX0 2 f fd ["value"] spHas := by
  refine F.ok scHas (fun vs H Q E h => ?_) (fun cdv A outer s H vs Q E hr h => ?_)
  · obtain ⟨d, kvs, rfl, _⟩ := h
    rfl
  · obtain ⟨d, kvs, rfl, ⟨hd, pos, le, all⟩, go⟩ := h
    refine ⟨_, pss_one (ps_ret (pe_and (pe_callB call_isi rfl N.isi boot_isi (pa_cons (pv 0) (pa_cons (pbT rfl N.dct boot_dict') pa_nil)))
      (pe_and (pe_cmpR op_gt (pe_callB call_lenD rfl N.len PySem.boot_len (pa_cons (pv 0) pa_nil)) pe_int (nomark _))
      (pe_one (pe_lock (pe_callB (cr_all rfl) rfl N.all_ boot_all' (pa_cons (pe_lc (own := [("key", 1)]) (g := gName 1) (tt := tYes) rfl scHas.nd (pi_keys (pv 0))
        (blkOk_by (own := [("key", 1)]) (N := ["value", "key"]) (sc := defScope s_has_names) (by decide +kernel)) (fun _ _ _ _ _ => pg_name (i := 1) scHas.nd rfl (Or.inl rfl)) (fun _ _ _ _ _ => pts_nil)
        (fun _ _ _ _ _ => callD DN hr rfl (pa_cons (pv 1) pa_nil))) pa_nil))))))), ?_⟩
    refine ⟨_, rfl, _, _, _, _, _, rfl, .ty _, .base (.dK hd), kit_ty (b := "dict") (r := true) (by decide +kernel), true, rfl, ?_⟩
    refine ⟨_, rfl, d, kvs, rfl, hd, _, _, rfl, rfl, _, rfl, ?_⟩
    rw [decide_eq_true (show ((kvs.length : Nat) : Int) > 0 by omega)]
    refine ⟨d, _, hd, True.intro, fun od => ?_⟩
    have hF : upd H d (.frz od (.dK kvs)) d = some (.frz od (.dK kvs)) := upd_same
    refine ⟨_, rfl, d, od, rfl, .inl ⟨kvs, hF, fun D nD => ?_⟩⟩
    refine lc_map walk_keys (fun _ => .bl true) nD (by omega) (fun H' s => s _ _ hF) (fun _ _ _ _ y => by rw [y.1]; exact Same.refl _) ?_ ?_
    · rintro i x H' H'' R lt sm _ ⟨rfl, k, v, hk, rfl⟩ go2
      refine ⟨rfl, ?_⟩
      obtain ⟨z, n, e, nm⟩ := all _ (List.mem_of_getElem? hk)
      cases e
      exact ⟨_, rfl, z, rfl, nm, fun H3 s3 => go2 H3 s3⟩
    · intro H3 s3 hD
      refine ⟨D, List.replicate kvs.length true, rfl, ?_, s3 _ _ hF, ?_⟩
      · rw [← all_range]
        exact .inl (.inl hD)
      · rw [all_true]
        exact go _ (locked hd s3)
theorem scTimes : FnScope ["value", "time"] ["value"] (defScope s_is_times) := ⟨rfl, rfl, rfl, by decide +kernel, rfl, by decide +kernel, by decide +kernel⟩
theorem ok_times (N : Nam mg) (DI : Def P w K mg base "is_integer" ["value"] 1 spInteger) (DH : Def P w K mg base "has_names" ["value"] 2 spHas) (F : Fun K "is_times" "is_times" s_is_times f fd) : FnOk P w K mg base CX0 3 f fd ["value"] spHas := by
  refine F.ok scTimes (fun vs H Q E h => ?_) (fun cdv A outer s H vs Q E hr h => ?_)
  · obtain ⟨d, kvs, rfl, _⟩ := h
    rfl
  · obtain ⟨d, kvs, rfl, ⟨hd, pos, le, all⟩, go⟩ := h
    refine ⟨_, pss_one (ps_ret (pe_and (callD DH hr rfl (pa_cons (pv 0) pa_nil))
      (pe_one (pe_lock (pe_callB (cr_all rfl) rfl N.all_ boot_all' (pa_cons (pe_lc (own := [("time", 1)]) (g := gName 1) (tt := tYes) rfl scTimes.nd (pi_values (pv 0))
        (blkOk_by (own := [("time", 1)]) (N := ["value", "time"]) (sc := defScope s_is_times) (by decide +kernel)) (fun _ _ _ _ _ => pg_name (i := 1) scTimes.nd rfl (Or.inl rfl)) (fun _ _ _ _ _ => pts_nil)
        (fun _ _ _ _ _ => callD DI (hr.mono (by decide)) rfl (pa_cons (pv 1) pa_nil))) pa_nil)))))), ?_⟩
    refine ⟨_, rfl, d, kvs, rfl, ⟨hd, pos, le, all⟩, fun H1 s1 => ⟨true, rfl, ?_⟩⟩
    have hd1 := s1 _ _ hd
    refine ⟨d, _, hd1, True.intro, fun od => ?_⟩
    have hF : upd H1 d (.frz od (.dK kvs)) d = some (.frz od (.dK kvs)) := upd_same
    refine ⟨_, rfl, d, od, kvs, rfl, hF, fun D nD => ?_⟩
    refine lc_map walk_values (fun _ => .bl true) nD (by omega) (fun H' s => s _ _ hF) (fun _ _ _ _ y => by rw [y.1]; exact Same.refl _) ?_ ?_
    · rintro i x H' H'' R lt sm _ ⟨rfl, k, hk⟩ go2
      refine ⟨rfl, ?_⟩
      obtain ⟨z, n, e, nm⟩ := all _ (List.mem_of_getElem? hk)
      cases e
      exact ⟨_, rfl, n, rfl, go2 _ (Same.refl _)⟩
    · intro H3 s3 hD
      refine ⟨D, List.replicate kvs.length true, rfl, ?_, s3 _ _ hF, ?_⟩
      · rw [← all_range]
        exact .inl (.inl hD)
      · rw [all_true]
        exact go _ (s1.trans (locked hd1 s3))
def spShift : Sp := fun vs H Q _ => ∃ i : Int, vs = [.int i] ∧ Q .non H
theorem scShift : FnScope ["value"] ["value"] (defScope s_check_shift) := ⟨rfl, rfl, rfl, by decide +kernel, rfl, by decide +kernel, by decide +kernel⟩
theorem ok_shift (DI : Def P w K mg base "is_integer" ["value"] 1 spInteger) (F : Fun K "check_shift" "check_shift" s_check_shift f fd) : FnOk P w K mg base CX0 2 f fd ["value"] spShift := by
  refine F.ok scShift (fun vs H Q E h => ?_) (fun cdv A outer s H vs Q E hr h => ?_)
  · obtain ⟨z, rfl, _⟩ := h
    rfl
  · obtain ⟨i, rfl, go⟩ := h
    refine ⟨_, pss_one (ps_if (pt_not (pt_val (callD DI hr rfl (pa_cons (pv 0) pa_nil)))) (pss_one ps_never) pss_nil), ?_⟩
    exact ⟨_, rfl, i, rfl, true, rfl, go⟩
/-- the value, a dict from names to ints, has all of the moments -/
def spCheck (K : PySem.W.Frag) : Sp := fun vs H Q _ => ∃ (d t : Addr) (kvs : List (Key × V)) (zs : List Str), vs = [.ref d, .ref t] ∧ NamesAt H d kvs ∧ SqT K H t (zs.map V.str) ∧ zs.length ≤ 40 ∧ (∀ z ∈ zs, (valV kvs (.inr z)).isSome = true) ∧ ∀ H', Same H H' → Q .non H'
theorem SqT.sm {H H' : Hp} {a : Addr} {xs : List V} (s : Same H H') (h : SqT K H a xs) : SqT K H' a xs := by
  rcases h with (e | ⟨o, e⟩) | h
  · exact .inl (.inl (s _ _ e))
  · exact .inl (.inr ⟨o, s _ _ e⟩)
  · exact .inr h
theorem scCheck : FnScope ["value", "moments", "moment"] ["value", "moments"] (defScope s_check_times) := ⟨rfl, rfl, rfl, by decide +kernel, rfl, by decide +kernel, by decide +kernel⟩
theorem ok_check (N : Nam mg) (DT : Def P w K mg base "is_times" ["value"] 3 spHas) (F : Fun K "check_times" "check_times" s_check_times f fd) : FnOk P w K mg base CX0 4 f fd ["value", "moments"] (spCheck K) := by
  refine F.ok scCheck (fun vs H Q E h => ?_) (fun cdv A outer s H vs Q E hr h => ?_)
  · obtain ⟨_, _, _, _, rfl, _⟩ := h
    rfl
  · obtain ⟨d, t, kvs, zs, rfl, na, ht, small, has, go⟩ := h
    have hu := hu_of hr
    refine ⟨_, pss_one (ps_if (PW.pt (pw_or (pt_not (pt_val (callD DT hr rfl (pa_cons (pv 0) pa_nil)))) (pw_or1 (pt_not (pt_val (pe_callB (cr_all rfl) rfl N.all_ boot_all' (pa_cons (pe_lc (own := [("moment", 2)]) (g := gName 2) (tt := tYes) rfl scCheck.nd (pi_tup (pv 1))
        (blkOk_by (own := [("moment", 2)]) (N := ["value", "moments", "moment"]) (sc := defScope s_check_times) (by decide +kernel)) (fun _ _ _ _ _ => pg_name (i := 2) scCheck.nd rfl (Or.inl rfl)) (fun _ _ _ _ _ => pts_nil)
        (fun _ _ _ _ _ => pe_cmp (pc_din hu (pv 2) (pv 0)) rfl)) pa_nil))))))) (pss_one ps_never) pss_nil), ?_⟩
    refine ⟨_, rfl, d, kvs, rfl, na, fun H1 s1 => ⟨true, rfl, ?_⟩⟩
    have hd1 := s1 _ _ na.1
    have ht1 := SqT.sm s1 ht
    refine ⟨_, rfl, t, rfl, ⟨_, ht1⟩, fun D nD => ?_⟩
    refine lc_map (walk_tup (xs := zs.map V.str)) (fun _ => .bl true) nD (by rw [List.length_map]; omega) (fun H' s => SqT.sm s ht1) (fun _ _ _ _ y => by rw [y.1]; exact Same.refl _) ?_ ?_
    · rintro i x H' H'' R lt sm _ ⟨rfl, hx⟩ go2
      refine ⟨rfl, ?_⟩
      obtain ⟨z, hz, rfl⟩ := List.mem_map.mp (List.mem_of_getElem? hx)
      refine ⟨_, rfl, _, rfl, d, _, rfl, DGet.k (k := Sum.inr z) (sm _ _ hd1), ?_⟩
      rw [has z hz]
      exact go2 _ (Same.refl _)
    · intro H3 s3 hD
      refine ⟨D, List.replicate (zs.map V.str).length true, rfl, ?_, ?_⟩
      · rw [← all_range]
        exact .inl (.inl hD)
      · rw [all_true]
        exact ⟨true, rfl, go _ (s1.trans s3)⟩
end
end E10

set_option Elab.async false
set_option linter.all false
set_option maxRecDepth 100000
set_option maxHeartbeats 4000000
namespace E10
open L2 PySem PySem.Spec PyProof.Rows
/-! ### tables of names and ints, mathematically -/
abbrev Tb := List (Str × Int)
def kv (m : Tb) : List (Key × V) := m.map fun p => (Sum.inr p.1, V.int p.2)
def keys (m : Tb) : List Str := m.map (·.1)
def gv (m : Tb) (z : Str) : Option Int := (m.find? fun p => decide (p.1 = z)).map (·.2)
theorem kv_len (m : Tb) : (kv m).length = m.length := List.length_map ..
theorem keys_len (m : Tb) : (keys m).length = m.length := List.length_map ..
theorem kv_keys (m : Tb) : (kv m).map (·.1) = (keys m).map Sum.inr := by
  unfold kv keys
  rw [List.map_map, List.map_map]
  rfl
theorem valV_kv (m : Tb) (z : Str) : valV (kv m) (.inr z) = (gv m z).map V.int := by
  induction m with
  | nil => rfl
  | cons p r ih =>
    unfold gv kv at *
    by_cases e : p.1 = z
    · subst e
      simp [valV]
    · have e2 : ¬ (Sum.inr p.1 : Key) = Sum.inr z := fun q => e (Sum.inr.inj q)
      simp only [valV, List.map_cons, List.find?_cons] at ih ⊢
      rw [decide_eq_false e, decide_eq_false e2]
      exact ih
theorem gv_mem {m : Tb} {z : Str} {i : Int} (h : gv m z = some i) : (z, i) ∈ m := by
  unfold gv at h
  cases q : m.find? fun p => decide (p.1 = z) with
  | none => rw [q] at h; cases h
  | some p =>
    rw [q] at h
    have e1 : p.2 = i := Option.some.inj h
    have e2 : p.1 = z := of_decide_eq_true (List.find?_some (p := fun p : Str × Int => decide (p.1 = z)) q)
    rw [← e1, ← e2]
    exact List.mem_of_find?_eq_some q
theorem gv_some {m : Tb} {z : Str} (h : z ∈ keys m) : ∃ i, gv m z = some i := by
  obtain ⟨p, hp, rfl⟩ := List.mem_map.mp h
  unfold gv
  cases q : m.find? fun r => decide (r.1 = p.1) with
  | none => exact absurd (List.find?_eq_none.mp q p hp) (by simp)
  | some r => exact ⟨r.2, rfl⟩
theorem gv_of {m : Tb} (nd : (keys m).Nodup) {z : Str} {i : Int} (h : (z, i) ∈ m) : gv m z = some i := by
  induction m with
  | nil => cases h
  | cons p r ih =>
    unfold keys at nd
    rw [List.map_cons, List.nodup_cons] at nd
    unfold gv
    rw [List.find?_cons]
    rcases List.mem_cons.mp h with rfl | h
    · simp
    · have ne : ¬ p.1 = z := fun q => nd.1 (q ▸ List.mem_map.mpr ⟨_, h, rfl⟩)
      rw [decide_eq_false ne]
      exact ih nd.2 h
theorem gv_none {m : Tb} {z : Str} (h : z ∉ keys m) : gv m z = none := by
  cases q : gv m z with
  | none => rfl
  | some i => exact absurd (List.mem_map.mpr ⟨_, gv_mem q, rfl⟩) h
/-- the value, 0 if there is none -/
def g0 (m : Tb) (z : Str) : Int := (gv m z).getD 0
theorem gv_g0 {m : Tb} {z : Str} (h : z ∈ keys m) : gv m z = some (g0 m z) := by
  obtain ⟨i, e⟩ := gv_some h
  unfold g0
  rw [e]
  rfl
/-- d[z] = i -/
def put (m : Tb) (z : Str) (i : Int) : Tb := if (m.any fun p => decide (p.1 = z)) = true then m.map (fun p => if p.1 = z then (p.1, i) else p) else m ++ [(z, i)]
theorem putK_kv (m : Tb) (z : Str) (i : Int) : putK (kv m) (.inr z) (.int i) = kv (put m z i) := by
  have ea : ((kv m).any fun p => decide (p.1 = Sum.inr z)) = m.any fun p => decide (p.1 = z) := by
    unfold kv
    rw [List.any_map]
    congr 1
    funext p
    simp [Function.comp]
  unfold putK put
  rw [ea]
  split
  · unfold kv
    rw [List.map_map, List.map_map]
    refine List.map_congr_left fun p _ => ?_
    by_cases e : p.1 = z
    · simp [Function.comp, e]
    · simp [Function.comp, e]
  · unfold kv
    rw [List.map_append]
    rfl
theorem any_keys {m : Tb} {z : Str} : (m.any fun p => decide (p.1 = z)) = true ↔ z ∈ keys m := by
  unfold keys
  rw [List.any_eq_true, List.mem_map]
  constructor
  · rintro ⟨p, hp, e⟩
    exact ⟨p, hp, of_decide_eq_true e⟩
  · rintro ⟨p, hp, e⟩
    exact ⟨p, hp, decide_eq_true e⟩
theorem keys_put {m : Tb} {z : Str} {i : Int} : keys (put m z i) = if z ∈ keys m then keys m else keys m ++ [z] := by
  unfold put
  by_cases h : z ∈ keys m
  · rw [if_pos (any_keys.mpr h), if_pos h]
    unfold keys
    rw [List.map_map]
    refine List.map_congr_left fun p _ => ?_
    by_cases e : p.1 = z
    · simp [Function.comp, e]
    · simp [Function.comp, e]
  · rw [if_neg (fun q => h (any_keys.mp q)), if_neg h]
    unfold keys
    rw [List.map_append]
    rfl
theorem put_new {m : Tb} {z : Str} {i : Int} (h : z ∉ keys m) : put m z i = m ++ [(z, i)] := if_neg fun q => h (any_keys.mp q)
theorem gv_put {m : Tb} {z y : Str} {i : Int} : gv (put m z i) y = if y = z then some i else gv m y := by
  have e := valV_put (kv m) (Sum.inr z) (Sum.inr y) (.int i)
  rw [putK_kv, valV_kv, valV_kv] at e
  have e2 : ((Sum.inr y : Key) = Sum.inr z) = (y = z) := by simp
  by_cases q : y = z
  · rw [if_pos (by rw [q])] at e
    rw [if_pos q]
    cases h : gv (put m z i) y with
    | none => rw [h] at e; cases e
    | some j => rw [h] at e; cases e; rfl
  · rw [if_neg (fun t => q (Sum.inr.inj t))] at e
    rw [if_neg q]
    cases h : gv (put m z i) y with
    | none =>
      rw [h] at e
      cases h2 : gv m y with
      | none => rfl
      | some j => rw [h2] at e; cases e
    | some j =>
      rw [h] at e
      cases h2 : gv m y with
      | none => rw [h2] at e; cases e
      | some k => rw [h2] at e; cases e; rfl
theorem g0_put {m : Tb} {z y : Str} {i : Int} : g0 (put m z i) y = if y = z then i else g0 m y := by
  unfold g0
  rw [gv_put]
  split <;> rfl
theorem nodup_snoc {l : List Str} {z : Str} (nd : l.Nodup) (h : z ∉ l) : (l ++ [z]).Nodup := by
  rw [List.nodup_append]
  refine ⟨nd, by simp, fun a ha b hb e => h ?_⟩
  rw [List.mem_singleton] at hb
  exact hb ▸ e ▸ ha
theorem nodup_put {m : Tb} {z : Str} {i : Int} (nd : (keys m).Nodup) : (keys (put m z i)).Nodup := by
  rw [keys_put]
  split
  · exact nd
  · exact nodup_snoc nd ‹_›
/-- dict(rows) -/
def ofRows (acc rows : Tb) : Tb := rows.foldl (fun m p => put m p.1 p.2) acc
theorem mergeK_kv : ∀ (rows acc : Tb), mergeK (kv acc) (kv rows) = kv (ofRows acc rows)
  | [], _ => rfl
  | p :: r, acc => by
    show mergeK (putK (kv acc) (.inr p.1) (.int p.2)) (kv r) = _
    rw [putK_kv]
    exact mergeK_kv r (put acc p.1 p.2)
theorem ofRows_nodup : ∀ {rows acc : Tb}, (keys acc).Nodup → (keys (ofRows acc rows)).Nodup
  | [], _, h => h
  | p :: r, acc, h => ofRows_nodup (rows := r) (nodup_put h)
theorem ofRows_keys : ∀ {rows acc : Tb} {z : Str}, z ∈ keys (ofRows acc rows) ↔ z ∈ keys acc ∨ z ∈ keys rows
  | [], acc, z => by simp [ofRows, keys]
  | p :: r, acc, z => by
    show z ∈ keys (ofRows (put acc p.1 p.2) r) ↔ _
    rw [ofRows_keys (rows := r), keys_put]
    have e : keys (p :: r) = p.1 :: keys r := rfl
    rw [e, List.mem_cons]
    split
    · rename_i q
      constructor
      · rintro (h | h)
        · exact .inl h
        · exact .inr (.inr h)
      · rintro (h | h | h)
        · exact .inl h
        · exact .inl (h ▸ q)
        · exact .inr h
    · rw [List.mem_append, List.mem_singleton]
      constructor
      · rintro ((h | h) | h)
        · exact .inl h
        · exact .inr (.inl h)
        · exact .inr (.inr h)
      · rintro (h | h | h)
        · exact .inl (.inl h)
        · exact .inl (.inr h)
        · exact .inr h
theorem ofRows_len : ∀ {rows acc : Tb}, (ofRows acc rows).length ≤ acc.length + rows.length
  | [], _ => Nat.le_refl _
  | p :: r, acc => by
    have a := ofRows_len (rows := r) (acc := put acc p.1 p.2)
    have b := length_putK (kv acc) (.inr p.1) (.int p.2)
    rw [putK_kv, kv_len, kv_len] at b
    show (ofRows (put acc p.1 p.2) r).length ≤ _
    rw [List.length_cons]
    omega
/-- rows of names that differ: as they stand -/
theorem ofRows_append : ∀ {rows acc : Tb}, (keys acc ++ keys rows).Nodup → ofRows acc rows = acc ++ rows
  | [], acc, _ => (List.append_nil _).symm
  | p :: r, acc, nd => by
    have e : keys (p :: r) = p.1 :: keys r := rfl
    rw [e] at nd
    have n1 : p.1 ∉ keys acc := fun h => by
      rw [List.nodup_append] at nd
      exact nd.2.2 _ h _ (.head _) rfl
    show ofRows (put acc p.1 p.2) r = _
    rw [put_new n1, ofRows_append (rows := r) ?_, List.append_assoc]
    · rfl
    · unfold keys at nd ⊢
      rw [List.map_append, List.append_assoc]
      exact nd
theorem ofRows_id {rows : Tb} (nd : (keys rows).Nodup) : ofRows [] rows = rows := ofRows_append (acc := []) nd
/-- of several rows of one name the last one stands -/
theorem ofRows_gv : ∀ {rows acc : Tb} {z : Str}, gv (ofRows acc rows) z = ((rows.reverse.find? fun p => decide (p.1 = z)).map (·.2)).or (gv acc z)
  | [], acc, z => rfl
  | p :: r, acc, z => by
    show gv (ofRows (put acc p.1 p.2) r) z = _
    rw [ofRows_gv (rows := r), gv_put, List.reverse_cons, List.find?_append]
    cases (r.reverse.find? fun p => decide (p.1 = z)) with
    | some q => rfl
    | none =>
      by_cases e : p.1 = z
      · simp [e]
      · have : ¬ z = p.1 := fun t => e t.symm
        simp [e, this]
/-! ### names, sorted -/
def leS (a b : Str) : Bool := !decide (b.cps.toList < a.cps.toList)
theorem leS_tr (a b c : Str) (h1 : leS a b = true) (h2 : leS b c = true) : leS a c = true := by
  unfold leS at *
  simp only [Bool.not_eq_true', decide_eq_false_iff_not] at *
  exact codes_tr h1 h2
theorem leS_tot (a b : Str) : (leS a b || leS b a) = true := by
  unfold leS
  by_cases h : a.cps.toList < b.cps.toList
  · simp [codes_asym h]
  · simp [h]
theorem leS_anti {a b : Str} (h1 : leS a b = true) (h2 : leS b a = true) : a = b := by
  unfold leS at *
  simp only [Bool.not_eq_true', decide_eq_false_iff_not] at *
  have e : a.cps.toList = b.cps.toList := List.le_antisymm (List.not_lt.mp h1) (List.not_lt.mp h2)
  exact Str.ext' (Array.toList_inj.mp e)
def srt (l : List Str) : List Str := l.mergeSort leS
theorem srt_perm (l : List Str) : (srt l).Perm l := List.mergeSort_perm ..
theorem srt_pw (l : List Str) : (srt l).Pairwise fun a b => leS a b = true := List.pairwise_mergeSort leS_tr leS_tot l
theorem uniq_sorted : ∀ {l m : List Str}, l.Pairwise (fun a b => leS a b = true) → m.Pairwise (fun a b => leS a b = true) → l.Perm m → l = m
  | [], m, _, _, p => (List.Perm.eq_nil p.symm).symm
  | x :: l, [], _, _, p => absurd p.length_eq (by simp)
  | x :: l, y :: m, hl, hm, p => by
    rw [List.pairwise_cons] at hl hm
    have e : x = y := by
      rcases List.mem_cons.mp (p.mem_iff.mp (List.mem_cons_self (a := x) (l := l))) with e | hx
      · exact e
      · rcases List.mem_cons.mp (p.mem_iff.mpr (List.mem_cons_self (a := y) (l := m))) with e | hy
        · exact e.symm
        · exact leS_anti (hl.1 _ hy) (hm.1 _ hx)
    subst e
    rw [uniq_sorted hl.2 hm.2 p.cons_inv]
theorem pw_of_rising : ∀ {l : List Str} {p : Str}, risingS p l = true → (p :: l).Pairwise fun a b => leS a b = true
  | [], p, _ => List.pairwise_singleton ..
  | x :: r, p, h => by
    have h2 : (!ltCps x.cps.toList p.cps.toList && risingS x r) = true := h
    obtain ⟨a, b⟩ := Bool.and_eq_true_iff.mp h2
    have pw := pw_of_rising b
    have le : leS p x = true := by
      unfold leS
      rw [ltCps_eq] at a
      exact a
    rw [List.pairwise_cons]
    refine ⟨fun z hz => ?_, pw⟩
    rcases List.mem_cons.mp hz with rfl | hz
    · exact le
    · exact leS_tr _ _ _ le ((List.pairwise_cons.mp pw).1 z hz)
theorem pw_of_sortedS {l : List Str} (h : sortedS l = true) : l.Pairwise fun a b => leS a b = true := by
  cases l with
  | nil => exact .nil
  | cons x r => exact pw_of_rising h
theorem srt_uniq {ys l : List Str} (p : ys.Perm l) (h : sortedS ys = true) : ys = srt l := uniq_sorted (pw_of_sortedS h) (srt_pw l) (p.trans (srt_perm l).symm)
theorem srt_nodup {l : List Str} (h : l.Nodup) : (srt l).Nodup := (srt_perm l).nodup_iff.mpr h
theorem srt_mem {l : List Str} {z : Str} : z ∈ srt l ↔ z ∈ l := (srt_perm l).mem_iff
theorem srt_len (l : List Str) : (srt l).length = l.length := (srt_perm l).length_eq
/-- a table in the order of its names -/
def ord (m : Tb) : Tb := (srt (keys m)).map fun z => (z, g0 m z)
theorem keys_ord (m : Tb) : keys (ord m) = srt (keys m) := by
  unfold ord keys
  rw [List.map_map]
  exact List.map_id _
theorem ord_len (m : Tb) : (ord m).length = m.length := by
  unfold ord
  rw [List.length_map, srt_len, keys_len]
theorem gv_ord {m : Tb} (nd : (keys m).Nodup) (z : Str) : gv (ord m) z = gv m z := by
  by_cases h : z ∈ keys m
  · rw [gv_g0 h]
    refine gv_of (by rw [keys_ord]; exact srt_nodup nd) ?_
    exact List.mem_map.mpr ⟨z, srt_mem.mpr h, rfl⟩
  · rw [gv_none h, gv_none]
    rw [keys_ord, srt_mem]
    exact h
theorem g0_ord {m : Tb} (nd : (keys m).Nodup) (z : Str) : g0 (ord m) z = g0 m z := by
  unfold g0
  rw [gv_ord nd]
theorem ord_id {m : Tb} (nd : (keys m).Nodup) (so : (keys m).Pairwise fun a b => leS a b = true) : ord m = m := by
  unfold ord
  rw [← uniq_sorted so (srt_pw _) (srt_perm _).symm]
  unfold keys
  rw [List.map_map]
  conv => rhs; rw [← List.map_id m]
  refine List.map_congr_left fun p hp => ?_
  show (p.1, g0 m p.1) = p
  unfold g0
  rw [gv_of nd hp]
  rfl
/-- what a table must be: names, none twice -/
structure Okt (m : Tb) : Prop where
  nm : ∀ p ∈ m, Nm p.1
  nd : (keys m).Nodup
theorem Okt.key {m : Tb} (h : Okt m) {z : Str} (k : z ∈ keys m) : Nm z := by
  obtain ⟨p, hp, rfl⟩ := List.mem_map.mp k
  exact h.nm p hp
theorem Okt.ord {m : Tb} (h : Okt m) : Okt (ord m) := by
  refine ⟨fun p hp => ?_, by rw [keys_ord]; exact srt_nodup h.nd⟩
  have : p.1 ∈ keys (E10.ord m) := List.mem_map.mpr ⟨p, hp, rfl⟩
  rw [keys_ord, srt_mem] at this
  exact h.key this
theorem NamesAt.of {H : Hp} {d : Addr} {m : Tb} (o : Okt m) (e : H d = some (.dK (kv m))) (pos : 0 < m.length) (le : m.length ≤ 40) : NamesAt H d (kv m) := by
  refine ⟨e, by rw [kv_len]; exact pos, by rw [kv_len]; exact le, fun p hp => ?_⟩
  obtain ⟨q, hq, rfl⟩ := List.mem_map.mp hp
  exact ⟨q.1, q.2, rfl, o.nm q hq⟩
end E10

set_option Elab.async false
set_option linter.all false
set_option maxRecDepth 100000
set_option maxHeartbeats 8000000
namespace E10
open L2 PySem PySem.Spec PyProof.Rows
/-- a dict comprehension over anything that is walked -/
theorem dc_it {J : It} {n : Nat} {G : Hp → Prop} {Y : Nat → Hp → V → Hp → Prop} (w : Walk J n G Y) {g : TG} {tt : TT} {tk tv : TE} {vs : List Nat} {σ : L2.St} {H1 : Hp} {D : Addr} {Qd : Hp → Prop} (Pv : Nat → Hp → Prop) (h0 : Pv 0 (upd H1 D (.dK []))) (hG : ∀ i H, i ≤ n → Pv i H → G H)
    (hs : ∀ i x H H', i < n → Pv i H → Y i H x H' → g x (wipe σ vs) H' fun σ2 H2 => wipe σ2 vs = wipe σ vs ∧ tt σ2 H2 fun b H3 =>
      if b = true then tk σ2 H3 fun y H4 => tv σ2 H4 fun z H5 => ∃ kvs k, y = kV k ∧ H5 D = some (.dK kvs) ∧ kvs.length < sizeLine ∧ Pv (i + 1) (upd H5 D (.dK (putK kvs k z))) else Pv (i + 1) H3) (hd : ∀ H, Pv n H → Qd H) :
    ∃ W : Nat → Nat → Hp → Prop, (∃ m, W 0 m (upd H1 D (.dK []))) ∧ ∀ i m H, W i m H →
      (J.stop i H ∧ Qd H) ∨ (J.go i H ∧ ∃ Nx : Hp → Prop, (∀ H', Nx H' → ∃ m', m' < m ∧ W (i + 1) m' H') ∧ ∀ x H', J.yld i H x H' → g x (wipe σ vs) H' fun σ2 H2 => wipe σ2 vs = wipe σ vs ∧ tt σ2 H2 fun b H3 =>
        if b = true then tk σ2 H3 fun y H4 => tv σ2 H4 fun z H5 => ∃ kvs k, y = kV k ∧ H5 D = some (.dK kvs) ∧ kvs.length < sizeLine ∧ Nx (upd H5 D (.dK (putK kvs k z))) else Nx H3) := by
  refine ⟨fun i m H => m = n - i ∧ i ≤ n ∧ Pv i H, ⟨n, by simp, Nat.zero_le _, h0⟩, ?_⟩
  rintro i m H ⟨rfl, hi, p⟩
  have q := hG i H hi p
  by_cases hlt : i < n
  · refine .inr ⟨w.goes i H hlt q, Pv (i + 1), fun H' p' => ⟨n - (i + 1), by omega, rfl, hlt, p'⟩, fun x H' y => hs i x H H' hlt p (w.yields i H x H' hlt q y)⟩
  · have e : i = n := by omega
    subst e
    exact .inl ⟨w.stops H q, hd H p⟩
theorem boot_sorted' : bootBuiltins "sorted" = some (.builtin "sorted") := by decide +kernel
theorem boot_tuple' : bootBuiltins "tuple" = some (.type "tuple") := by decide +kernel
theorem boot_list' : bootBuiltins "list" = some (.type "list") := by decide +kernel
theorem boot_min' : bootBuiltins "min" = some (.builtin "min") := by decide +kernel
theorem boot_repr : bootBuiltins "repr" = some (.builtin "repr") := by decide +kernel
/-- at d a dict, this table -/
abbrev Tab (H : Hp) (d : Addr) (m : Tb) : Prop := H d = some (.dK (kv m))
theorem DGet.tab {H : Hp} {d : Addr} {m : Tb} {z : Str} (h : Rd H d (.dK (kv m))) (k : z ∈ keys m) : DGet H d (.str z) (some (.int (g0 m z))) := by
  refine .inl ⟨kv m, Sum.inr z, h, rfl, ?_⟩
  rw [valV_kv, gv_g0 k]
  rfl
theorem kv_at {m : Tb} {i : Nat} {k : Key} {v : V} (h : (kv m)[i]? = some (k, v)) : ∃ z n, m[i]? = some (z, n) ∧ k = .inr z ∧ v = .int n := by
  unfold kv at h
  rw [List.getElem?_map] at h
  cases e : m[i]? with
  | none => rw [e] at h; cases h
  | some p =>
    rw [e] at h
    cases h
    exact ⟨p.1, p.2, rfl, rfl, rfl⟩
theorem at_key {m : Tb} {i : Nat} {z : Str} {n : Int} (h : m[i]? = some (z, n)) : z ∈ keys m := List.mem_map.mpr ⟨_, List.mem_of_getElem? h, rfl⟩
/-- a table moved by a number -/
def shf (m : Tb) (n : Int) : Tb := m.map fun p => (p.1, p.2 + n)
theorem keys_shf (m : Tb) (n : Int) : keys (shf m n) = keys m := by
  unfold shf keys
  rw [List.map_map]
  rfl
theorem shf_len (m : Tb) (n : Int) : (shf m n).length = m.length := List.length_map ..
/-- a table as an Earliest has it -/
structure EOk (m : Tb) : Prop where
  ok : Okt m
  so : (keys m).Pairwise fun a b => leS a b = true
  pos : 0 < m.length
  le : m.length ≤ 8
theorem EOk.of {m : Tb} (o : Okt m) (pos : 0 < m.length) (le : m.length ≤ 8) : EOk (ord m) :=
  ⟨o.ord, by rw [keys_ord]; exact srt_pw _, by rw [ord_len]; exact pos, by rw [ord_len]; exact le⟩
theorem EOk.shf {m : Tb} (h : EOk m) (n : Int) : EOk (shf m n) := by
  refine ⟨⟨fun p hp => ?_, by rw [keys_shf]; exact h.ok.nd⟩, by rw [keys_shf]; exact h.so, by rw [shf_len]; exact h.pos, by rw [shf_len]; exact h.le⟩
  obtain ⟨q, hq, rfl⟩ := List.mem_map.mp hp
  exact h.ok.nm q hq
theorem EOk.ord {m : Tb} (h : EOk m) : ord m = m := ord_id h.ok.nd h.so
section
variable {P : Program} {w : World} {K : PySem.W.Frag} {mg : Str → Option Value} {base : Heap} {f cE : Addr} {fd : FuncData}
def spOrder : Sp := fun vs H Q _ => ∃ (d : Addr) (m : Tb), vs = [.ref d] ∧ Tab H d m ∧ (keys m).Nodup ∧ m.length ≤ 40 ∧ ∀ p H', H p = none → Same H H' → Tab H' p (ord m) → Q (.ref p) H'
theorem scOrder : FnScope ["table", "moment"] ["table"] (defScope s_in_order) := ⟨rfl, rfl, rfl, by decide +kernel, rfl, by decide +kernel, by decide +kernel⟩
theorem take_keys {l : List Str} {F : Str → Int} {i : Nat} {z : Str} (nd : l.Nodup) (h : l[i]? = some z) : z ∉ keys ((l.take i).map fun y => (y, F y)) := by
  unfold keys
  rw [List.map_map]
  intro q
  obtain ⟨y, hy, e⟩ := List.mem_map.mp q
  have e : y = z := e
  subst e
  obtain ⟨lt, g⟩ := List.getElem?_eq_some_iff.mp h
  obtain ⟨j, hj, e⟩ := List.getElem_of_mem hy
  rw [List.length_take] at hj
  rw [List.getElem_take] at e
  have := (List.nodup_iff_pairwise_ne.mp nd)
  have ij : j < i := by omega
  exact (List.pairwise_iff_getElem.mp this) j i (by omega) lt ij (e.trans g.symm)
theorem take_put {l : List Str} {F : Str → Int} {i : Nat} {z : Str} (nd : l.Nodup) (h : l[i]? = some z) : putK (kv ((l.take i).map fun y => (y, F y))) (.inr z) (.int (F z)) = kv ((l.take (i + 1)).map fun y => (y, F y)) := by
  rw [putK_kv, put_new (take_keys nd h), List.take_add_one, h, List.map_append]
  rfl
theorem ok_order (N : Nam mg) (F : Fun K "in_order" "in_order" s_in_order f fd) : FnOk P w K mg base CX0 1 f fd ["table"] spOrder := by
  refine F.ok scOrder (fun vs H Q E h => ?_) (fun cdv A outer s H vs Q E hr h => ?_)
  · obtain ⟨_, _, rfl, _⟩ := h
    rfl
  · obtain ⟨d, m, rfl, hd, nd, lm, go⟩ := h
    have hu := hu_of hr
    refine ⟨_, pss_one (ps_ret (pe_dc (own := [("moment", 1)]) (g := gName 1) (tt := tYes) rfl scOrder.nd (pi_list (pe_callB (call_sortedD rfl) rfl N.srt boot_sorted' (pa_cons (pv 0) pa_nil)))
        (blkOk_by (own := [("moment", 1)]) (N := ["table", "moment"]) (sc := defScope s_in_order) (by decide +kernel)) (fun _ _ _ _ _ => pg_name (i := 1) scOrder.nd rfl (Or.inl rfl)) (fun _ _ _ _ _ => pts_nil)
        (fun _ _ _ _ _ => pv 1) (fun _ _ _ _ _ => pe_dget hu (pv 0) (pv 1) (fun _ _ => rfl)))), ?_⟩
    refine ⟨_, rfl, d, kv m, keys m, rfl, .inl hd, kv_keys m, by rw [keys_len]; omega, fun ys p perm so np => ?_⟩
    obtain rfl := srt_uniq perm so
    have s1 := new_same (o := .lst ((srt (keys m)).map V.str)) np
    refine ⟨p, rfl, ⟨_, .inl (.inl upd_same)⟩, fun D nD => ?_⟩
    refine dc_it (walk_list (xs := (srt (keys m)).map V.str)) (fun i H' => Same (upd H p (.lst ((srt (keys m)).map V.str))) H' ∧ H' D = some (.dK (kv (((srt (keys m)).take i).map fun z => (z, g0 m z))))) ⟨new_same nD, upd_same⟩ (fun i H' _ h => .inl (.inl (h.1 _ _ upd_same))) ?_ ?_
    · rintro i x H' H'' lt ⟨sm, hD⟩ ⟨rfl, hx⟩
      refine ⟨rfl, ?_⟩
      obtain ⟨z, hz, rfl⟩ : ∃ z, (srt (keys m))[i]? = some z ∧ x = .str z := by
        rw [List.getElem?_map] at hx
        cases e : (srt (keys m))[i]? with
        | none => rw [e] at hx; cases hx
        | some z => rw [e] at hx; exact ⟨z, rfl, (Option.some.inj hx).symm⟩
      have s2 := s1.trans sm
      refine ⟨_, rfl, _, rfl, _, rfl, d, _, rfl, DGet.tab (.inl (s2 _ _ hd)) (srt_mem.mp (List.mem_of_getElem? hz)), _, .inr z, rfl, hD, ?_, fun c u e => ?_, ?_⟩
      · rw [kv_len, List.length_map, List.length_take]
        refine Nat.lt_of_le_of_lt (Nat.min_le_right _ _) ?_
        rw [srt_len, keys_len]
        exact Nat.lt_of_le_of_lt lm (by decide)
      · rw [upd_ne (ne_of_none e nD)]
        exact sm c u e
      · rw [upd_same, take_put (srt_nodup nd) hz]
    · rintro H3 ⟨sm, hD⟩
      rw [List.length_map, List.take_length] at hD
      exact go D H3 (s1.free nD) (s1.trans sm) hD
/-- at most eight of them -/
def spShifts : Sp := fun vs H Q _ => ∃ (d : Addr) (m : Tb), vs = [.ref d] ∧ Tab H d m ∧ Okt m ∧ 0 < m.length ∧ m.length ≤ 8 ∧ ∀ H', Same H H' → Q .non H'
theorem scShifts : FnScope ["shifts", "moment"] ["shifts"] (defScope s_check_shifts) := ⟨rfl, rfl, rfl, by decide +kernel, rfl, by decide +kernel, by decide +kernel⟩
theorem ok_shifts (N : Nam mg) (DH : Def P w K mg base "has_names" ["value"] 2 spHas) (DI : Def P w K mg base "is_integer" ["value"] 1 spInteger) (F : Fun K "check_shifts" "check_shifts" s_check_shifts f fd) : FnOk P w K mg base CX0 3 f fd ["shifts"] spShifts := by
  refine F.ok scShifts (fun vs H Q E h => ?_) (fun cdv A outer s H vs Q E hr h => ?_)
  · obtain ⟨_, _, rfl, _⟩ := h
    rfl
  · obtain ⟨d, m, rfl, hd, o, pos, le, go⟩ := h
    have hu := hu_of hr
    refine ⟨_, pss_cons (ps_if (pt_not (pt_val (callD DH hr rfl (pa_cons (pv 0) pa_nil)))) (pss_one ps_never) pss_nil)
      (pss_cons (ps_for PassesOwn.never rfl (pi_list (pe_callB (call_sortedD rfl) rfl N.srt boot_sorted' (pa_cons (pv 0) pa_nil))) (pg_name (i := 1) scShifts.nd rfl (Or.inl rfl))
        (pss_one (ps_if (pt_not (pt_val (callD DI (hr.mono (by decide)) rfl (pa_cons (pe_dget hu (pv 0) (pv 1) (fun _ _ => rfl)) pa_nil)))) (pss_one ps_never) pss_nil)))
      (pss_one (ps_if (pt_cmpR op_gt (pe_callB call_lenD rfl N.len PySem.boot_len (pa_cons (pv 0) pa_nil)) (pgI rfl N.mt) (nomark _)) (pss_one ps_never) pss_nil))), ?_⟩
    refine ⟨_, rfl, d, kv m, rfl, NamesAt.of o hd pos (by omega), fun H1 s1 => ⟨true, rfl, ?_⟩⟩
    have hd1 := s1 _ _ hd
    refine ⟨_, rfl, d, kv m, keys m, rfl, .inl hd1, kv_keys m, by rw [keys_len]; omega, fun ys p perm _ np => ?_⟩
    have s2 := new_same (o := .lst (ys.map V.str)) np
    refine ⟨p, rfl, ⟨_, .inl (.inl upd_same)⟩, ?_⟩
    refine for_it (walk_list (xs := ys.map V.str)) (fun i σ H' => Same (upd H1 p (.lst (ys.map V.str))) H' ∧ ∃ u, σ = [some (.ref d), u]) ⟨Same.refl _, none, rfl⟩ (fun i σ H' _ h => .inl (.inl (h.1 _ _ upd_same))) ?_ ?_
    · rintro i x σ H' H'' lt ⟨sm, u, rfl⟩ ⟨rfl, hx⟩
      obtain ⟨z, hz, rfl⟩ := List.mem_map.mp (List.mem_of_getElem? hx)
      have s3 := s2.trans sm
      refine ⟨_, rfl, _, rfl, d, _, rfl, DGet.tab (.inl (s3 _ _ hd1)) (perm.mem_iff.mp hz), _, rfl, true, rfl, ?_⟩
      exact ⟨sm, _, rfl⟩
    · rintro σ H3 ⟨sm, u, rfl⟩
      have s3 := s2.trans sm
      refine ⟨_, rfl, d, kv m, rfl, s3 _ _ hd1, _, _, rfl, rfl, _, rfl, ?_⟩
      rw [decide_eq_false (show ¬ (((kv m).length : Nat) : Int) > 8 by rw [kv_len]; omega)]
      exact go H3 (s1.trans s3)
/-! ### Earliest -/
structure Own (K : PySem.W.Frag) (C : Addr) : Prop where
  cl : Cls K C
  ca : PySem.W.findIn K (.ref C) "__class__" = some (some (.builtin "object.__class__"))
  sp : PySem.W.specialIn K (.builtin "object.__class__") "__get__" = some (some (.builtin "getset_descriptor.__get__"))
  tk : PySem.W.takesIn K (.builtin "object.__class__") = some true
  mo : PySem.W.mroIn K C (.type "object") = some true
  su : PySem.W.subIn K (.ref C) (.type "object") = some true
  me : PySem.W.kitOne K (.ref C) (.ref C) = some true
  first : PySem.W.selfFirst K C = true
theorem Own.ty {K : PySem.W.Frag} {C a dx : Addr} {H : Hp} {fs : List (Str × V)} (O : Own K C) (e : H a = some (.ins C dx fs)) : TyX K H (.ref a) (.ref C) := .base (.ins e O.cl O.ca O.sp O.tk O.mo)
/-- at a an Earliest, its table at d -/
structure EAt (cE : Addr) (H : Hp) (a d : Addr) (m : Tb) : Prop where
  ins : ∃ dx, H a = some (.ins cE dx [("_shifts", .ref d)])
  tab : Tab H d m
theorem EAt.sm {cE a d : Addr} {H H' : Hp} {m : Tb} (s : Same H H') (h : EAt cE H a d m) : EAt cE H' a d m := ⟨h.ins.imp fun _ e => s _ _ e, s _ _ h.tab⟩
/-- what Earliest has of its own -/
structure ErlF (K : PySem.W.Frag) (cE : Addr) : Prop where
  own : Own K cE
  nS : NoAttr K cE "_shifts"
def spInitE (cE : Addr) : Sp := fun vs H Q _ => ∃ (x dx d : Addr) (m : Tb), vs = [.ref x, .ref d] ∧ Tab H d m ∧ Okt m ∧ 0 < m.length ∧ m.length ≤ 8 ∧ H x = some (.ins cE dx []) ∧ ∀ H' e, SameB x H H' → H e = none → EAt cE H' x e (ord m) → Q .non H'
theorem scInitE : FnScope ["self", "shifts"] ["self", "shifts"] (defScope m_Earliest___init__) := ⟨rfl, rfl, rfl, by decide +kernel, rfl, by decide +kernel, by decide +kernel⟩
theorem ok_initE (T : ErlF K cE) (DS : Def P w K mg base "check_shifts" ["shifts"] 3 spShifts) (DO : Def P w K mg base "in_order" ["table"] 1 spOrder) (F : Fun K "__init__" "Earliest.__init__" m_Earliest___init__ f fd) :
    FnOk P w K mg base CX0 4 f fd ["self", "shifts"] (spInitE cE) := by
  refine F.ok scInitE (fun vs H Q E h => ?_) (fun cdv A outer s H vs Q E hr h => ?_)
  · obtain ⟨_, _, _, _, rfl, _⟩ := h
    rfl
  · obtain ⟨x, dx, d, m, rfl, hd, o, pos, le, hx, go⟩ := h
    refine ⟨_, pss_cons (ps_expr (callD DS hr rfl (pa_cons (pv 1) pa_nil))) (pss_one (ps_fld (pv 0) (callD DO (hr.mono (by decide)) rfl (pa_cons (pv 1) pa_nil)) rfl)), ?_⟩
    refine ⟨_, rfl, d, m, rfl, hd, o, pos, le, fun H1 s1 => ?_⟩
    refine ⟨_, rfl, d, m, rfl, s1 _ _ hd, o.nd, by omega, fun p H2 np s2 hp => ?_⟩
    have s3 := s1.trans s2
    have px : p ≠ x := (ne_of_none (s1 _ _ hx) np).symm
    refine ⟨_, rfl, x, cE, dx, _, rfl, s3 _ _ hx, T.own.cl, T.nS, by decide, ?_⟩
    refine go _ p (fun b o e nb => ?_) (s1.free np) ⟨⟨dx, upd_same⟩, (upd_ne px).trans hp⟩
    rw [upd_ne nb]
    exact s3 _ _ e
/-- what Earliest(..) asks of its argument, and gives -/
def WE (cE : Addr) (d : Addr) (m : Tb) (H : Hp) (Q : VK) : Prop := Tab H d m ∧ Okt m ∧ 0 < m.length ∧ m.length ≤ 8 ∧ ∀ x e H', H x = none → H e = none → Same H H' → EAt cE H' x e (ord m) → Q (.ref x) H'
structure MkE (P : Program) (w : World) (K : PySem.W.Frag) (mg : Str → Option Value) (base : Heap) (cE : Addr) : Prop where
  ex : ∃ (f : Addr) (fd : FuncData), Mk K cE f ∧ FnOk P w K mg base CX0 4 f fd ["self", "shifts"] (spInitE cE) ∧ mg "Earliest" = some (.ref cE) ∧ Binds K fd ["self", "shifts"] []
end
section
variable {X : Cx} {cE : Addr}
def tMkE (cE : Addr) (t : TA) : TE := fun σ H Q => t σ H fun vs H1 => ∃ d m, vs = [.ref d] ∧ WE cE d m H1 Q
theorem mkE {e : Expr} {es : List Expr} {t : TA} {p pos : Pos} (M : MkE X.prog X.w X.K X.mg X.base cE) (hr : Room 5 X.A) (hg : Gl X "Earliest") (ha : PA X (e :: es) t)
    (he : starEach (e :: es) X.env = (false, eval e X.env) :: starEach es X.env := by rfl) (hpl : (backTo pos (starEach es X.env)).any (·.1) = false := by rfl) : PE X (.Call (.Name "Earliest" p) (e :: es) [] pos) (tMkE cE t) := by
  obtain ⟨f, fd, m, F, hm, b⟩ := M.ex
  refine ⟨fun pins s σ H Q I h => ?_⟩
  refine wpAny_Call_Name_kw (ld_glob I hg hm ?_ (by decide))
  refine PySem.W.callWith_K (h₀ := X.base) I.ok.mod.kin m.kp (thn (ha.run pos pins s σ H _ I h) fun us s1 ⟨vs, H1, I1, r, d, tb, e, ht, o, pos, le, q⟩ => ⟨I1.kIn, ?_⟩) he hpl
  subst e
  refine run_make m F hr b .nil pass0 I1 r fun x dx nx ndx ne => ?_
  have up : Same H1 (upd (upd H1 dx (.own x)) x (.ins cE dx [])) := fun b o e => by
    rw [upd_ne (ne_of_none e nx), upd_ne (ne_of_none e ndx)]
    exact e
  refine ⟨x, dx, d, tb, rfl, up _ _ ht, o, pos, le, upd_same, fun H' e s ne2 t => ⟨rfl, q x e H' nx (up.free ne2) (fun b o e => ?_) t⟩⟩
  exact s b o (up _ _ e) (ne_of_none e nx)
end
end E10

set_option Elab.async false
set_option linter.all false
set_option maxRecDepth 100000
set_option maxHeartbeats 8000000
namespace E10
open L2 PySem PySem.Spec PyProof.Rows
/-- the least value of the terms at these times -/
structure IsLv (m c : Tb) (v : Int) : Prop where
  at_ : ∃ p ∈ m, g0 c p.1 + p.2 = v
  le : ∀ p ∈ m, v ≤ g0 c p.1 + p.2
theorem IsLv.uniq {m c : Tb} {v u : Int} (h : IsLv m c v) (h' : IsLv m c u) : v = u := by
  obtain ⟨p, hp, e⟩ := h.at_
  obtain ⟨q, hq, e'⟩ := h'.at_
  have a := h.le q hq
  have b := h'.le p hp
  omega
/-- the names whose terms have this value -/
def fs (m c : Tb) (v : Int) : List Str := (keys m).filter fun z => decide (g0 c z + g0 m z = v)
theorem at_g0 {m : Tb} (nd : (keys m).Nodup) {i : Nat} {z : Str} {n : Int} (h : m[i]? = some (z, n)) : g0 m z = n := by
  unfold g0
  rw [gv_of nd (List.mem_of_getElem? h)]
  rfl
theorem keys_at {m : Tb} {i : Nat} {z : Str} {n : Int} (h : m[i]? = some (z, n)) : (keys m)[i]? = some z := by
  unfold keys
  rw [List.getElem?_map, h]
  rfl
theorem take_succ_filter {m c : Tb} {v : Int} {i : Nat} {z : Str} (h : (keys m)[i]? = some z) :
    ((keys m).take (i + 1)).filter (fun z => decide (g0 c z + g0 m z = v)) = ((keys m).take i).filter (fun z => decide (g0 c z + g0 m z = v)) ++ if g0 c z + g0 m z = v then [z] else [] := by
  rw [List.take_add_one, h, List.filter_append]
  congr 1
  by_cases q : g0 c z + g0 m z = v <;> simp [q]
section
variable {P : Program} {w : World} {K : PySem.W.Frag} {mg : Str → Option Value} {base : Heap} {f cE : Addr} {fd : FuncData}
/-- the value, a dict from names to ints, has all the names of the dict at t -/
def spCheckD : Sp := fun vs H Q _ => ∃ (d t : Addr) (kvs : List (Key × V)) (m : Tb), vs = [.ref d, .ref t] ∧ NamesAt H d kvs ∧ Tab H t m ∧ m.length ≤ 40 ∧ d ≠ t ∧ (∀ z ∈ keys m, (valV kvs (.inr z)).isSome = true) ∧ ∀ H', Same H H' → Q .non H'
theorem ok_checkD (N : Nam mg) (DT : Def P w K mg base "is_times" ["value"] 3 spHas) (F : Fun K "check_times" "check_times" s_check_times f fd) : FnOk P w K mg base CX0 4 f fd ["value", "moments"] spCheckD := by
  refine F.ok scCheck (fun vs H Q E h => ?_) (fun cdv A outer s H vs Q E hr h => ?_)
  · obtain ⟨_, _, _, _, rfl, _⟩ := h
    rfl
  · obtain ⟨d, t, kvs, m, rfl, na, ht, small, dt, has, go⟩ := h
    have hu := hu_of hr
    refine ⟨_, pss_one (ps_if (PW.pt (pw_or (pt_not (pt_val (callD DT hr rfl (pa_cons (pv 0) pa_nil)))) (pw_or1 (pt_not (pt_val (pe_lock (pe_callB (cr_all rfl) rfl N.all_ boot_all' (pa_cons (pe_lc (own := [("moment", 2)]) (g := gName 2) (tt := tYes) rfl scCheck.nd (pi_keys (pv 1))
        (blkOk_by (own := [("moment", 2)]) (N := ["value", "moments", "moment"]) (sc := defScope s_check_times) (by decide +kernel)) (fun _ _ _ _ _ => pg_name (i := 2) scCheck.nd rfl (Or.inl rfl)) (fun _ _ _ _ _ => pts_nil)
        (fun _ _ _ _ _ => pe_cmp (pc_din hu (pv 2) (pv 0)) rfl)) pa_nil)))))))) (pss_one ps_never) pss_nil), ?_⟩
    refine ⟨_, rfl, d, kvs, rfl, na, fun H1 s1 => ⟨true, rfl, ?_⟩⟩
    have hd1 := s1 _ _ na.1
    have ht1 := s1 _ _ ht
    refine ⟨t, _, ht1, True.intro, fun od => ?_⟩
    have hF : upd H1 t (.frz od (.dK (kv m))) t = some (.frz od (.dK (kv m))) := upd_same
    have hdF : upd H1 t (.frz od (.dK (kv m))) d = some (.dK kvs) := (upd_ne dt).trans hd1
    refine ⟨_, rfl, t, od, rfl, .inl ⟨kv m, hF, fun D nD => ?_⟩⟩
    refine lc_map walk_keys (fun _ => .bl true) nD (by rw [kv_len]; omega) (fun H' s => s _ _ hF) (fun _ _ _ _ y => by rw [y.1]; exact Same.refl _) ?_ ?_
    · rintro i x H' H'' R lt sm _ ⟨rfl, k, v, hk, rfl⟩ go2
      refine ⟨rfl, ?_⟩
      obtain ⟨z, n, hm, rfl, rfl⟩ := kv_at hk
      refine ⟨_, rfl, _, rfl, d, _, rfl, DGet.k (k := Sum.inr z) (sm _ _ hdF), ?_⟩
      rw [has z (at_key hm)]
      exact go2 _ (Same.refl _)
    · intro H3 s3 hD
      refine ⟨D, List.replicate (kv m).length true, rfl, ?_, s3 _ _ hF, ?_⟩
      · rw [← all_range]
        exact .inl (.inl hD)
      · rw [all_true]
        exact ⟨true, rfl, go _ (s1.trans (locked ht1 s3))⟩
/-- an Earliest, called with times -/
structure Clock (H : Hp) (c : Addr) (t : Tb) : Prop where
  tab : Tab H c t
  ok : Okt t
  pos : 0 < t.length
  le : t.length ≤ 40
theorem Clock.sm {H H' : Hp} {c : Addr} {t : Tb} (s : Same H H') (h : Clock H c t) : Clock H' c t := ⟨s _ _ h.tab, h.ok, h.pos, h.le⟩
def spCallE (cE : Addr) : Sp := fun vs H Q _ => ∃ (a e c : Addr) (m t : Tb), vs = [.ref a, .ref c] ∧ EAt cE H a e m ∧ EOk m ∧ Clock H c t ∧ c ≠ e ∧ (∀ z ∈ keys m, z ∈ keys t) ∧ ∀ v H', IsLv m t v → Same H H' → Q (.int v) H'
theorem scCallE : FnScope ["self", "times", "moment"] ["self", "times"] (defScope m_Earliest___call__) := ⟨rfl, rfl, rfl, by decide +kernel, rfl, by decide +kernel, by decide +kernel⟩
theorem has_of {m t : Tb} (h : ∀ z ∈ keys m, z ∈ keys t) : ∀ z ∈ keys m, (valV (kv t) (.inr z)).isSome = true := fun z hz => by
  rw [valV_kv, gv_g0 (h z hz)]
  rfl
theorem ok_callE (N : Nam mg) (T : ErlF K cE) (DC : Def P w K mg base "check_times" ["value", "moments"] 4 spCheckD) (F : Fun K "__call__" "Earliest.__call__" m_Earliest___call__ f fd) : FnOk P w K mg base CX0 5 f fd ["self", "times"] (spCallE cE) := by
  refine F.ok scCallE (fun vs H Q E h => ?_) (fun cdv A outer s H vs Q E hr h => ?_)
  · obtain ⟨_, _, _, _, _, rfl, _⟩ := h
    rfl
  · obtain ⟨a, e, c, m, t, rfl, ea, eo, ck, ce, sub, go⟩ := h
    have hu := hu_of hr
    refine ⟨_, pss_cons (ps_expr (callD DC hr rfl (pa_cons (pv 1) (pa_cons (pe_fld (pv 0) rfl) pa_nil))))
      (pss_one (ps_ret (pe_lock (pe_callB (cr_min rfl) rfl N.mn boot_min' (pa_cons (pe_lc (own := [("moment", 2)]) (g := gName 2) (tt := tYes) (te := tOp (rI0 fun i j => .int (i + j)) (tDGet (tVar 1) (tVar 2)) (tDGet (tFld K (tVar 0) "_shifts") (tVar 2))) rfl scCallE.nd (pi_keys (pe_fld (pv 0) rfl))
        (blkOk_by (own := [("moment", 2)]) (N := ["self", "times", "moment"]) (sc := defScope m_Earliest___call__) (by decide +kernel)) (fun _ _ _ _ _ => pg_name (i := 2) scCallE.nd rfl (Or.inl rfl)) (fun _ _ _ _ _ => pts_nil)
        (fun _ _ _ _ _ => pe_op op_add (pe_dget hu (pv 1) (pv 2) (fun _ _ => rfl)) (pe_dget hu (pe_fld (pv 0) rfl) (pv 2) (fun _ _ => rfl)))) pa_nil))))), ?_⟩
    obtain ⟨dx, hi⟩ := ea.ins
    refine ⟨_, rfl, _, rfl, a, cE, dx, _, _, rfl, hi, T.own.cl, T.nS, rfl, ?_⟩
    refine ⟨c, e, kv t, m, rfl, NamesAt.of ck.ok ck.tab ck.pos ck.le, ea.tab, by have := eo.le; omega, ce, has_of sub, fun H1 s1 => ?_⟩
    have hi1 := s1 _ _ hi
    have ht1 := s1 _ _ ea.tab
    have hc1 := s1 _ _ ck.tab
    refine ⟨e, _, ht1, True.intro, fun od => ?_⟩
    have ae : a ≠ e := by
      rintro rfl
      rw [hi1] at ht1
      cases ht1
    have hF : upd H1 e (.frz od (.dK (kv m))) e = some (.frz od (.dK (kv m))) := upd_same
    have hiF : upd H1 e (.frz od (.dK (kv m))) a = some (.ins cE dx [("_shifts", .ref e)]) := (upd_ne ae).trans hi1
    have hcF : upd H1 e (.frz od (.dK (kv m))) c = some (.dK (kv t)) := (upd_ne ce).trans hc1
    refine ⟨_, rfl, a, cE, dx, _, _, rfl, hiF, T.own.cl, T.nS, rfl, e, od, rfl, .inl ⟨kv m, hF, fun D nD => ?_⟩⟩
    refine lc_map walk_keys (fun i => .int ((m.map fun p => g0 t p.1 + p.2).getD i 0)) nD (by rw [kv_len]; have := eo.le; omega) (fun H' s => s _ _ hF) (fun _ _ _ _ y => by rw [y.1]; exact Same.refl _) ?_ ?_
    · rintro i x H' H'' R lt sm _ ⟨rfl, k, v, hk, rfl⟩ go2
      refine ⟨rfl, ?_⟩
      obtain ⟨z, n, hm, rfl, rfl⟩ := kv_at hk
      have k1 := at_key hm
      refine ⟨_, rfl, _, rfl, c, _, rfl, DGet.tab (.inl (sm _ _ hcF)) (sub z k1), ?_⟩
      refine ⟨_, rfl, a, cE, dx, _, _, rfl, sm _ _ hiF, T.own.cl, T.nS, rfl, _, rfl, e, _, rfl, DGet.tab (.inr ⟨od, sm _ _ hF⟩) k1, _, _, rfl, rfl, ?_⟩
      rw [at_g0 eo.ok.nd hm]
      have e1 : (m.map fun p => g0 t p.1 + p.2).getD i 0 = g0 t z + n := by
        rw [List.getD_eq_getElem?_getD, List.getElem?_map, hm]
        rfl
      show R (.int (g0 t z + n)) H''
      rw [← e1]
      exact go2 _ (Same.refl _)
    · intro H3 s3 hD
      have el : ((List.range (kv m).length).map fun i => V.int ((m.map fun p => g0 t p.1 + p.2).getD i 0)) = (m.map fun p => g0 t p.1 + p.2).map V.int := by
        rw [kv_len]
        apply List.ext_getElem
        · simp
        · intro i h1 h2
          simp at h1 h2 ⊢
          simp [h1]
      rw [el] at hD
      refine ⟨D, _, rfl, .inl (.inl hD), by rw [List.length_map]; exact eo.pos, fun v hv le => ⟨s3 _ _ hF, ?_⟩⟩
      refine go v _ ⟨?_, fun p hp => le _ (List.mem_map.mpr ⟨p, hp, rfl⟩)⟩ (s1.trans (locked ht1 s3))
      obtain ⟨p, hp, e⟩ := List.mem_map.mp hv
      exact ⟨p, hp, e⟩
def spFirst (cE : Addr) : Sp := fun vs H Q _ => ∃ (a e c : Addr) (m t : Tb), vs = [.ref a, .ref c] ∧ EAt cE H a e m ∧ EOk m ∧ Clock H c t ∧ c ≠ e ∧ (∀ z ∈ keys m, z ∈ keys t) ∧ ∀ v p H', IsLv m t v → H p = none → Same H H' → H' p = some (.tup ((fs m t v).map V.str)) → Q (.ref p) H'
theorem scFirst : FnScope ["self", "times", "least", "moment"] ["self", "times"] (defScope m_Earliest_first) := ⟨rfl, rfl, rfl, by decide +kernel, rfl, by decide +kernel, by decide +kernel⟩
theorem ok_first (N : Nam mg) (T : ErlF K cE) {g : Addr} {gd : FuncData} (cC : StX.CallO K cE g) (FC : FnOk P w K mg base CX0 5 g gd ["self", "times"] (spCallE cE)) (bC : Binds K gd ["self", "times"] []) (F : Fun K "first" "Earliest.first" m_Earliest_first f fd) : FnOk P w K mg base CX0 6 f fd ["self", "times"] (spFirst cE) := by
  refine F.ok scFirst (fun vs H Q E h => ?_) (fun cdv A outer s H vs Q E hr h => ?_)
  · obtain ⟨_, _, _, _, _, rfl, _⟩ := h
    rfl
  · obtain ⟨a, e, c, m, t, rfl, ea, eo, ck, ce, sub, go⟩ := h
    have hu := hu_of hr
    refine ⟨_, pss_cons (ps_set (i := 2) scFirst.nd rfl (Or.inr rfl) (pe_callOb (pv 0) cC FC bC hr (pa_cons (pv 1) pa_nil) (PySem.arm_eval_Call_Name' _ _ _ _ _ _)))
      (pss_one (ps_ret (pe_lock (pe_callTy call_tuple_of rfl N.tup_ boot_tuple' (pa_cons (pe_lc (own := [("moment", 3)]) (g := gName 3) (tt := tTest (tOp rEq (tOp (rI0 fun i j => .int (i + j)) (tDGet (tVar 1) (tVar 3)) (tDGet (tFld K (tVar 0) "_shifts") (tVar 3))) (tVar 2))) rfl scFirst.nd (pi_keys (pe_fld (pv 0) rfl))
        (blkOk_by (own := [("moment", 3)]) (N := ["self", "times", "least", "moment"]) (sc := defScope m_Earliest_first) (by decide +kernel)) (fun _ _ _ _ _ => pg_name (i := 3) scFirst.nd rfl (Or.inl rfl))
        (fun _ _ _ _ _ => pts_one (pt_cmpR op_eq (pe_op op_add (pe_dget hu (pv 1) (pv 3) (fun _ _ => rfl)) (pe_dget hu (pe_fld (pv 0) rfl) (pv 3) (fun _ _ => rfl))) (pv 2) (nomark _)))
        (fun _ _ _ _ _ => pv 3)) pa_nil))))), ?_⟩
    obtain ⟨dx, hi⟩ := ea.ins
    refine ⟨_, rfl, a, rfl, _, rfl, insC_of hi, a, e, c, m, t, rfl, ea, eo, ck, ce, sub, fun v H1 lv s1 => ?_⟩
    have hi1 := s1 _ _ hi
    have ht1 := s1 _ _ ea.tab
    have hc1 := s1 _ _ ck.tab
    refine ⟨e, _, ht1, True.intro, fun od => ?_⟩
    have ae : a ≠ e := by
      rintro rfl
      rw [hi1] at ht1
      cases ht1
    have hF : upd H1 e (.frz od (.dK (kv m))) e = some (.frz od (.dK (kv m))) := upd_same
    have hiF : upd H1 e (.frz od (.dK (kv m))) a = some (.ins cE dx [("_shifts", .ref e)]) := (upd_ne ae).trans hi1
    have hcF : upd H1 e (.frz od (.dK (kv m))) c = some (.dK (kv t)) := (upd_ne ce).trans hc1
    refine ⟨_, rfl, a, cE, dx, _, _, rfl, hiF, T.own.cl, T.nS, rfl, e, od, rfl, .inl ⟨kv m, hF, fun D nD => ?_⟩⟩
    refine lc_it (walk_keys (kvs := kv m)) (fun i H' => Same (upd H1 e (.frz od (.dK (kv m)))) H' ∧ H' D = some (.lst ((((keys m).take i).filter fun z => decide (g0 t z + g0 m z = v)).map V.str))) ⟨new_same nD, upd_same⟩ (fun i H' _ h => h.1 _ _ hF) ?_ ?_
    · rintro i x H' H'' lt ⟨sm, hD⟩ ⟨rfl, k, u, hk, rfl⟩
      refine ⟨rfl, ?_⟩
      obtain ⟨z, n, hm, rfl, rfl⟩ := kv_at hk
      have k1 := at_key hm
      refine ⟨_, rfl, _, rfl, c, _, rfl, DGet.tab (.inl (sm _ _ hcF)) (sub z k1), ?_⟩
      refine ⟨_, rfl, a, cE, dx, _, _, rfl, sm _ _ hiF, T.own.cl, T.nS, rfl, _, rfl, e, _, rfl, DGet.tab (.inr ⟨od, sm _ _ hF⟩) k1, _, _, rfl, rfl, ?_⟩
      refine ⟨_, rfl, rfl, _, rfl, ?_⟩
      have ed : decide (V.int (g0 t z + g0 m z) = V.int v) = decide (g0 t z + g0 m z = v) := by simp
      rw [ed]
      have ts := take_succ_filter (c := t) (v := v) (keys_at hm)
      by_cases q : g0 t z + g0 m z = v
      · rw [decide_eq_true q]
        rw [if_pos q] at ts
        refine ⟨_, rfl, _, hD, ?_, fun b o e => ?_, ?_⟩
        · rw [List.length_map]
          refine Nat.lt_of_le_of_lt (List.length_filter_le _ _) ?_
          rw [List.length_take, keys_len]
          exact Nat.lt_of_le_of_lt (Nat.le_trans (Nat.min_le_right _ _) eo.le) (by decide)
        · rw [upd_ne (ne_of_none e nD)]
          exact sm _ _ e
        · rw [upd_same, ts, List.map_append]
          rfl
      · rw [decide_eq_false q]
        rw [if_neg q, List.append_nil] at ts
        refine ⟨sm, ?_⟩
        rw [ts]
        exact hD
    · rintro H3 ⟨sm, hD⟩
      rw [kv_len, ← keys_len, List.take_length] at hD
      refine ⟨D, _, rfl, .inl ⟨.inl (.inl hD), fun p np => ?_⟩⟩
      have s4 := sm.trans (new_same (o := .tup ((fs m t v).map V.str)) np)
      refine ⟨s4 _ _ hF, ?_⟩
      have s5 := s1.trans (locked ht1 s4)
      refine go v p _ lv ?_ s5 ?_
      · have n3 : H3 p = none := np
        cases hp : H p with
        | none => rfl
        | some o =>
          have e1 := s1 _ _ hp
          by_cases pe : p = e
          · rw [pe] at n3
            rw [sm _ _ hF] at n3
            cases n3
          · rw [sm _ _ ((upd_ne pe).trans e1)] at n3
            cases n3
      · have pe : p ≠ e := (ne_of_none (sm _ _ hF) np).symm
        rw [upd_ne pe]
        exact upd_same
/-! ### its terms, and another number added -/
def spMomD : Sp := fun vs H Q _ => ∃ (z : Str) (d : Addr) (m : Tb), vs = [.str z, .ref d] ∧ Tab H d m ∧ z ∈ keys m ∧ Q (.bl true) H
theorem scMom : FnScope ["value", "moments"] ["value", "moments"] (defScope s_is_moment_of) := ⟨rfl, rfl, rfl, by decide +kernel, rfl, by decide +kernel, by decide +kernel⟩
theorem ok_mom (N : Nam mg) (F : Fun K "is_moment_of" "is_moment_of" s_is_moment_of f fd) : FnOk P w K mg base CX0 1 f fd ["value", "moments"] spMomD := by
  refine F.ok scMom (fun vs H Q E h => ?_) (fun cdv A outer s H vs Q E hr h => ?_)
  · obtain ⟨_, _, _, rfl, _⟩ := h
    rfl
  · obtain ⟨z, d, m, rfl, hd, hz, go⟩ := h
    have hu := hu_of hr
    refine ⟨_, pss_one (ps_ret (pe_and (pe_callB call_isi rfl N.isi boot_isi (pa_cons (pv 0) (pa_cons (pbT rfl N.str_ boot_str') pa_nil))) (pe_one (pe_cmp (pc_din hu (pv 0) (pv 1)) rfl)))), ?_⟩
    refine ⟨_, rfl, _, _, _, _, _, rfl, .ty _, .base (.str _), kit_ty (b := "str") (r := true) (by decide +kernel), true, rfl, ?_⟩
    exact ⟨_, rfl, _, rfl, d, _, rfl, DGet.tab (.inl hd) hz, go⟩
def spCMomD : Sp := fun vs H Q _ => ∃ (z : Str) (d : Addr) (m : Tb), vs = [.str z, .ref d] ∧ Tab H d m ∧ z ∈ keys m ∧ Q .non H
theorem scCMom : FnScope ["value", "moments"] ["value", "moments"] (defScope s_check_moment) := ⟨rfl, rfl, rfl, by decide +kernel, rfl, by decide +kernel, by decide +kernel⟩
theorem ok_cmom (DM : Def P w K mg base "is_moment_of" ["value", "moments"] 1 spMomD) (F : Fun K "check_moment" "check_moment" s_check_moment f fd) : FnOk P w K mg base CX0 2 f fd ["value", "moments"] spCMomD := by
  refine F.ok scCMom (fun vs H Q E h => ?_) (fun cdv A outer s H vs Q E hr h => ?_)
  · obtain ⟨_, _, _, rfl, _⟩ := h
    rfl
  · obtain ⟨z, d, m, rfl, hd, hz, go⟩ := h
    refine ⟨_, pss_one (ps_if (pt_not (pt_val (callD DM hr rfl (pa_cons (pv 0) (pa_cons (pv 1) pa_nil))))) (pss_one ps_never) pss_nil), ?_⟩
    exact ⟨_, rfl, _, rfl, z, d, m, rfl, hd, hz, true, rfl, go⟩
def spItemE (cE : Addr) : Sp := fun vs H Q _ => ∃ (a e : Addr) (z : Str) (m : Tb), vs = [.ref a, .str z] ∧ EAt cE H a e m ∧ z ∈ keys m ∧ Q (.int (g0 m z)) H
theorem scItemE : FnScope ["self", "at"] ["self", "at"] (defScope m_Earliest___getitem__) := ⟨rfl, rfl, rfl, by decide +kernel, rfl, by decide +kernel, by decide +kernel⟩
theorem ok_itemE (T : ErlF K cE) (DM : Def P w K mg base "check_moment" ["value", "moments"] 2 spCMomD) (F : Fun K "__getitem__" "Earliest.__getitem__" m_Earliest___getitem__ f fd) : FnOk P w K mg base CX0 3 f fd ["self", "at"] (spItemE cE) := by
  refine F.ok scItemE (fun vs H Q E h => ?_) (fun cdv A outer s H vs Q E hr h => ?_)
  · obtain ⟨_, _, _, _, rfl, _⟩ := h
    rfl
  · obtain ⟨a, e, z, m, rfl, ea, hz, go⟩ := h
    have hu := hu_of hr
    obtain ⟨dx, hi⟩ := ea.ins
    refine ⟨_, pss_cons (ps_expr (callD DM hr rfl (pa_cons (pv 1) (pa_cons (pe_fld (pv 0) rfl) pa_nil)))) (pss_one (ps_ret (pe_dget hu (pe_fld (pv 0) rfl) (pv 1) (fun _ _ => rfl)))), ?_⟩
    refine ⟨_, rfl, _, rfl, a, cE, dx, _, _, rfl, hi, T.own.cl, T.nS, rfl, z, e, m, rfl, ea.tab, hz, ?_⟩
    exact ⟨_, rfl, a, cE, dx, _, _, rfl, hi, T.own.cl, T.nS, rfl, _, rfl, e, _, rfl, DGet.tab (.inl ea.tab) hz, go⟩
def spMoved : Sp := fun vs H Q _ => ∃ (d : Addr) (m : Tb) (n : Int), vs = [.ref d, .int n] ∧ Tab H d m ∧ (keys m).Nodup ∧ m.length ≤ 40 ∧ ∀ p H', H p = none → Same H H' → Tab H' p (shf m n) → Q (.ref p) H'
theorem scMoved : FnScope ["table", "number", "moment"] ["table", "number"] (defScope s_moved) := ⟨rfl, rfl, rfl, by decide +kernel, rfl, by decide +kernel, by decide +kernel⟩
theorem shf_eq {m : Tb} (nd : (keys m).Nodup) (n : Int) : shf m n = (keys m).map fun z => (z, g0 m z + n) := by
  unfold shf keys
  rw [List.map_map]
  refine List.map_congr_left fun p hp => ?_
  show (p.1, p.2 + n) = (p.1, g0 m p.1 + n)
  unfold g0
  rw [gv_of nd hp]
  rfl
theorem ok_moved (F : Fun K "moved" "moved" s_moved f fd) : FnOk P w K mg base CX0 1 f fd ["table", "number"] spMoved := by
  refine F.ok scMoved (fun vs H Q E h => ?_) (fun cdv A outer s H vs Q E hr h => ?_)
  · obtain ⟨_, _, _, rfl, _⟩ := h
    rfl
  · obtain ⟨d, m, n, rfl, hd, nd, lm, go⟩ := h
    have hu := hu_of hr
    refine ⟨_, pss_one (ps_ret (pe_lock (pe_dc (own := [("moment", 2)]) (g := gName 2) (tt := tYes) (tk := tVar 2) (tv := tOp (rI0 fun i j => .int (i + j)) (tDGet (tVar 0) (tVar 2)) (tVar 1)) rfl scMoved.nd (pi_keys (pv 0))
        (blkOk_by (own := [("moment", 2)]) (N := ["table", "number", "moment"]) (sc := defScope s_moved) (by decide +kernel)) (fun _ _ _ _ _ => pg_name (i := 2) scMoved.nd rfl (Or.inl rfl)) (fun _ _ _ _ _ => pts_nil)
        (fun _ _ _ _ _ => pv 2) (fun _ _ _ _ _ => pe_op op_add (pe_dget hu (pv 0) (pv 2) (fun _ _ => rfl)) (pv 1))))), ?_⟩
    refine ⟨d, _, hd, True.intro, fun od => ?_⟩
    have hF : upd H d (.frz od (.dK (kv m))) d = some (.frz od (.dK (kv m))) := upd_same
    refine ⟨_, rfl, d, od, rfl, .inl ⟨kv m, hF, fun D nD => ?_⟩⟩
    refine dc_it (walk_keys (kvs := kv m)) (fun i H' => Same (upd H d (.frz od (.dK (kv m)))) H' ∧ H' D = some (.dK (kv (((keys m).take i).map fun z => (z, g0 m z + n))))) ⟨new_same nD, upd_same⟩ (fun i H' _ h => h.1 _ _ hF) ?_ ?_
    · rintro i x H' H'' lt ⟨sm, hD⟩ ⟨rfl, k, u, hk, rfl⟩
      refine ⟨rfl, ?_⟩
      obtain ⟨z, v, hm, rfl, rfl⟩ := kv_at hk
      have k1 := at_key hm
      refine ⟨_, rfl, _, rfl, _, rfl, d, _, rfl, DGet.tab (.inr ⟨od, sm _ _ hF⟩) k1, _, rfl, _, _, rfl, rfl, _, .inr z, rfl, hD, ?_, fun c u e => ?_, ?_⟩
      · rw [kv_len, List.length_map, List.length_take, keys_len]
        exact Nat.lt_of_le_of_lt (Nat.le_trans (Nat.min_le_right _ _) lm) (by decide)
      · rw [upd_ne (ne_of_none e nD)]
        exact sm c u e
      · rw [upd_same]
        exact congrArg (fun q => some (HO.dK q)) (take_put (F := fun z => g0 m z + n) nd (keys_at hm))
    · rintro H3 ⟨sm, hD⟩
      rw [kv_len, ← keys_len, List.take_length, ← shf_eq nd] at hD
      refine ⟨sm _ _ hF, ?_⟩
      have Dd : D ≠ d := (ne_of_none hF nD).symm
      exact go D _ ((upd_ne Dd).symm.trans nD) (locked hd sm) ((upd_ne Dd).trans hD)
def spPlusE (cE : Addr) (op : Int → Int) : Sp := fun vs H Q _ => ∃ (a e : Addr) (m : Tb) (n : Int), vs = [.ref a, .int n] ∧ EAt cE H a e m ∧ EOk m ∧ ∀ x e' H', H x = none → H e' = none → Same H H' → EAt cE H' x e' (shf m (op n)) → Q (.ref x) H'
theorem scAddE : FnScope ["self", "other"] ["self", "other"] (defScope m_Earliest___add__) := ⟨rfl, rfl, rfl, by decide +kernel, rfl, by decide +kernel, by decide +kernel⟩
theorem ok_addE (T : ErlF K cE) (M : MkE P w K mg base cE) (DS : Def P w K mg base "check_shift" ["value"] 2 spShift) (DM : Def P w K mg base "moved" ["table", "number"] 1 spMoved) (F : Fun K "__add__" "Earliest.__add__" m_Earliest___add__ f fd) : FnOk P w K mg base CX0 6 f fd ["self", "other"] (spPlusE cE id) := by
  refine F.ok scAddE (fun vs H Q E h => ?_) (fun cdv A outer s H vs Q E hr h => ?_)
  · obtain ⟨_, _, _, _, rfl, _⟩ := h
    rfl
  · obtain ⟨a, e, m, n, rfl, ea, eo, go⟩ := h
    obtain ⟨dx, hi⟩ := ea.ins
    refine ⟨_, pss_cons (ps_expr (callD DS (hr.mono (by decide)) rfl (pa_cons (pv 1) pa_nil)))
      (pss_one (ps_ret (mkE M hr rfl (pa_cons (callD DM (hr.mono (by decide)) rfl (pa_cons (pe_fld (pv 0) rfl) (pa_cons (pv 1) pa_nil))) pa_nil)))), ?_⟩
    refine ⟨_, rfl, n, rfl, ?_⟩
    refine ⟨_, rfl, a, cE, dx, _, _, rfl, hi, T.own.cl, T.nS, rfl, _, rfl, e, m, n, rfl, ea.tab, eo.ok.nd, by have := eo.le; omega, fun p H1 np s1 hp => ?_⟩
    have eo2 := eo.shf n
    refine ⟨p, shf m n, rfl, hp, eo2.ok, eo2.pos, eo2.le, fun x e2 H2 nx ne2 s2 ea2 => ?_⟩
    rw [eo2.ord] at ea2
    exact go x e2 H2 (s1.free nx) (s1.free ne2) (s1.trans s2) ea2
theorem int_add {K : PySem.W.Frag} : PySem.W.findIn K (.type "int") (PySem.dunder "add") = some (some (.builtin "int.__add__")) := by
  show PySem.fastLookup "int" (PySem.dunder "add") = _
  decide +kernel
theorem int_radd {K : PySem.W.Frag} : PySem.W.findIn K (.type "int") (dunderR "add") = some (some (.builtin "int.__radd__")) := by
  show PySem.fastLookup "int" (dunderR "add") = _
  decide +kernel
theorem int_sub {K : PySem.W.Frag} : PySem.W.findIn K (.type "int") (PySem.dunder "sub") = some (some (.builtin "int.__sub__")) := by
  show PySem.fastLookup "int" (PySem.dunder "sub") = _
  decide +kernel
theorem int_rsub {K : PySem.W.Frag} : PySem.W.findIn K (.type "int") (dunderR "sub") = some (some (.builtin "int.__rsub__")) := by
  show PySem.fastLookup "int" (dunderR "sub") = _
  decide +kernel
structure AddE (P : Program) (w : World) (K : PySem.W.Frag) (mg : Str → Option Value) (base : Heap) (cE : Addr) : Prop where
  ex : ∃ (f : Addr) (fd : FuncData), FnG P w K mg base 6 f fd ["self", "other"] (spPlusE cE id) ∧ Has K cE f (PySem.dunder "add") ∧ Binds K fd ["self", "other"] []
  r : ∃ g : Addr, PySem.W.findIn K (.ref cE) (dunderR "add") = some (some (.ref g))
  sub : PySem.W.subIn K (.type "int") (.ref cE) = some false
  sub' : PySem.W.subIn K (.ref cE) (.type "int") = some false
theorem op_plusE {X : Cx} {cE : Addr} (T : ErlF X.K cE) (A : AddE X.prog X.w X.K X.mg X.base cE) (hG : X.A.guards = some []) (room : Room 6 X.A) : OpR X (binaryOp .Add) (rOwnI cE (spPlusE cE id)) := by
  obtain ⟨f, fd, F, h, b⟩ := A.ex
  obtain ⟨g, hr⟩ := A.r
  exact op_ownI (op := .Add) F hG room b T.own.first h hr (.inr ⟨g, rfl⟩) int_add int_radd A.sub
structure RaddE (P : Program) (w : World) (K : PySem.W.Frag) (mg : Str → Option Value) (base : Heap) (cE : Addr) : Prop where
  ex : ∃ (f : Addr) (fd : FuncData), FnG P w K mg base 7 f fd ["self", "other"] (spPlusE cE id) ∧ Has K cE f (dunderR "add") ∧ Binds K fd ["self", "other"] []
theorem op_raddE {X : Cx} {cE : Addr} (T : ErlF X.K cE) (A : AddE X.prog X.w X.K X.mg X.base cE) (R : RaddE X.prog X.w X.K X.mg X.base cE) (hG : X.A.guards = some []) (room : Room 7 X.A) : OpR X (binaryOp .Add) (rIOwn cE (spPlusE cE id)) := by
  obtain ⟨_, _, _, h, _⟩ := A.ex
  obtain ⟨f, fd, F, hh, b⟩ := R.ex
  exact op_iown F hG room b T.own.first h.at_ hh int_add int_radd rfl A.sub'
structure SubE (P : Program) (w : World) (K : PySem.W.Frag) (mg : Str → Option Value) (base : Heap) (cE : Addr) : Prop where
  ex : ∃ (f : Addr) (fd : FuncData), FnG P w K mg base 7 f fd ["self", "other"] (spPlusE cE (- ·)) ∧ Has K cE f (PySem.dunder "sub") ∧ Binds K fd ["self", "other"] []
  r : PySem.W.findIn K (.ref cE) (dunderR "sub") = some none
theorem op_minusE {X : Cx} {cE : Addr} (T : ErlF X.K cE) (A : AddE X.prog X.w X.K X.mg X.base cE) (S : SubE X.prog X.w X.K X.mg X.base cE) (hG : X.A.guards = some []) (room : Room 7 X.A) : OpR X (binaryOp .Sub) (rOwnI cE (spPlusE cE (- ·))) := by
  obtain ⟨f, fd, F, h, b⟩ := S.ex
  exact op_ownI (op := .Sub) F hG room b T.own.first h S.r (.inl rfl) int_sub int_rsub A.sub
theorem scRaddE : FnScope ["self", "other"] ["self", "other"] (defScope m_Earliest___radd__) := ⟨rfl, rfl, rfl, by decide +kernel, rfl, by decide +kernel, by decide +kernel⟩
theorem ok_raddE (T : ErlF K cE) (A : AddE P w K mg base cE) (F : Fun K "__radd__" "Earliest.__radd__" m_Earliest___radd__ f fd) : FnG P w K mg base 7 f fd ["self", "other"] (spPlusE cE id) := by
  refine Fun.okG F scRaddE (fun {vs H Q E} h => ?_) (fun cdv Ar outer s H vs Q E hG hr h => ?_)
  · obtain ⟨_, _, _, _, rfl, _⟩ := h
    rfl
  · obtain ⟨a, e, m, n, rfl, ea, eo, go⟩ := h
    have ⟨dx, hi⟩ := ea.ins
    exact ⟨_, pss_one (ps_ret (pe_op (op_plusE T A hG hr) (pv 0) (pv 1))), ⟨_, rfl, _, rfl, a, dx, _, n, rfl, rfl, hi, a, e, m, n, rfl, ea, eo, go⟩⟩
theorem scSubE : FnScope ["self", "other"] ["self", "other"] (defScope m_Earliest___sub__) := ⟨rfl, rfl, rfl, by decide +kernel, rfl, by decide +kernel, by decide +kernel⟩
theorem ok_subE (T : ErlF K cE) (A : AddE P w K mg base cE) (DS : Def P w K mg base "check_shift" ["value"] 2 spShift) (F : Fun K "__sub__" "Earliest.__sub__" m_Earliest___sub__ f fd) : FnG P w K mg base 7 f fd ["self", "other"] (spPlusE cE (- ·)) := by
  refine Fun.okG F scSubE (fun {vs H Q E} h => ?_) (fun cdv Ar outer s H vs Q E hG hr h => ?_)
  · obtain ⟨_, _, _, _, rfl, _⟩ := h
    rfl
  · obtain ⟨a, e, m, n, rfl, ea, eo, go⟩ := h
    have ⟨dx, hi⟩ := ea.ins
    refine ⟨_, pss_cons (ps_expr (callD DS (hr.mono (by decide)) rfl (pa_cons (pv 1) pa_nil))) (pss_one (ps_ret (pe_op (op_plusE T A hG hr) (pv 0) (pe_un un_neg (pv 1))))), ?_⟩
    refine ⟨_, rfl, n, rfl, ?_⟩
    exact ⟨_, rfl, _, rfl, n, rfl, a, dx, _, -n, rfl, rfl, hi, a, e, m, -n, rfl, ea, eo, go⟩
end
end E10

set_option Elab.async false
set_option linter.all false
set_option maxRecDepth 100000
set_option maxHeartbeats 8000000
namespace E10
open L2 PySem PySem.Spec PyProof.Rows
/-! ### tables compared; what the law draws -/
theorem SameB.tab {a d : Addr} {H H' : Hp} {m : Tb} (s : SameB a H H') (h : Tab H d m) (n : d ≠ a) : Tab H' d m := s _ _ h n
theorem PotAt.at_ {H : Hp} {a : Addr} (p : PotAt H a) : ∃ o, H a = some o := by
  obtain ⟨_, _, e, _⟩ := p
  exact ⟨_, e⟩
theorem PotAt.ne {H : Hp} {a b : Addr} {o : HO} (p : PotAt H a) (h : H b = some o) (k : ∀ xs, o ≠ .lst xs) : b ≠ a := by
  rintro rfl
  obtain ⟨_, _, e, _⟩ := p
  rw [h] at e
  exact k _ (Option.some.inj e)
theorem PotAt.new {H : Hp} {a b : Addr} (p : PotAt H a) (h : H b = none) : b ≠ a := by
  obtain ⟨o, e⟩ := p.at_
  exact (ne_of_none e h).symm
theorem PotAt.upd {H : Hp} {a D : Addr} {o : HO} (h : PotAt H a) (n : D ≠ a) : PotAt (L2.upd H D o) a := by
  obtain ⟨x, y, e, r⟩ := h
  exact ⟨x, y, (upd_ne n.symm).trans e, r⟩
/-- equal as tables -/
def eqT (m t : Tb) : Bool := m.length == t.length && m.all fun p => decide (gv t p.1 = some p.2)
theorem eqT_same (m : Tb) (nd : (keys m).Nodup) : eqT m m = true := by
  unfold eqT
  rw [Bool.and_eq_true_iff]
  refine ⟨by simp, List.all_eq_true.mpr fun p hp => decide_eq_true (gv_of nd (show (p.1, p.2) ∈ m from hp))⟩
theorem eqT_of {m t : Tb} (l : m.length = t.length) (h : ∀ z ∈ keys m, gv t z = some (g0 m z)) (nd : (keys m).Nodup) : eqT m t = true := by
  unfold eqT
  rw [Bool.and_eq_true_iff]
  refine ⟨by simp [l], List.all_eq_true.mpr fun p hp => decide_eq_true ?_⟩
  rw [h _ (List.mem_map.mpr ⟨p, hp, rfl⟩)]
  unfold g0
  rw [gv_of nd (show (p.1, p.2) ∈ m from hp)]
  rfl
theorem eqT_ord {m : Tb} (nd : (keys m).Nodup) : eqT (ord m) m = true := by
  refine eqT_of (ord_len m) (fun z hz => ?_) (by rw [keys_ord]; exact srt_nodup nd)
  rw [keys_ord, srt_mem] at hz
  rw [gv_g0 hz, g0_ord nd]
theorem eqT_ord' {m : Tb} (nd : (keys m).Nodup) : eqT m (ord m) = true := by
  refine eqT_of (ord_len m).symm (fun z hz => ?_) nd
  rw [gv_ord nd, gv_g0 hz]
theorem hitsT {P : Program} {w : World} {A : Around} {s : Shared} {t : Tb} {vb : List (Key × Value)} (rb : KV (kv t) vb) : ∀ {m : Tb} {va : List (Key × Value)}, KV (kv m) va → PySem.W.KeqHits A s vb va (m.all fun p => decide (gv t p.1 = some p.2))
  | [], _, .nil => .nil
  | (z, n) :: m, (k, v) :: va, .cons h tl => by
    obtain ⟨h1, h2⟩ := h
    have h1' : (Sum.inr z : Key) = k := h1
    subst h1'
    obtain ⟨tk, rfl⟩ := (show ∃ tk, v = Value.int n tk from h2)
    have ih := hitsT (P := P) (w := w) (A := A) (s := s) rb tl
    have ro : RelO (valV (kv t) (Sum.inr z)) (valueAt vb (Sum.inr z)) := rb.val _
    rw [valV_kv] at ro
    show PySem.W.KeqHits A s vb ((Sum.inr z, .int n tk) :: va) (decide (gv t z = some n) && _)
    cases e : gv t z with
    | none =>
      rw [e] at ro
      have : valueAt vb (Sum.inr z) = none := by
        cases q : valueAt vb (Sum.inr z) with
        | none => rfl
        | some y => rw [q] at ro; exact ro.elim
      rw [decide_eq_false (fun q => by cases q), Bool.false_and]
      exact .miss this
    | some j =>
      rw [e] at ro
      cases q : valueAt vb (Sum.inr z) with
      | none => rw [q] at ro; exact ro.elim
      | some y =>
        rw [q] at ro
        obtain ⟨tj, rfl⟩ := (show ∃ tj, y = Value.int j tj from ro)
        have ed : decide (some j = some n) = (n == j) := by
          by_cases c : n = j
          · simp [c]
          · have c2 : ¬ j = n := fun x => c x.symm
            simp [c, c2]
        rw [ed]
        exact .hit q (SeqAt.EqAt.int_int n tk j tj) ih
section
variable {X : Cx}
def rEqT : R2 := fun x y H Q => ∃ a b m t, x = .ref a ∧ y = .ref b ∧ Tab H a m ∧ Tab H b t ∧ Q (.bl (eqT m t)) H
def rNeT : R2 := fun x y H Q => ∃ a b m t, x = .ref a ∧ y = .ref b ∧ Tab H a m ∧ Tab H b t ∧ Q (.bl (!eqT m t)) H
theorem op_eqT (hu : X.A.units < cLine) : OpR X (compareOp .Eq) rEqT := by
  intro pins s σ H x y v u Q I rx ry h
  obtain ⟨a, b, m, t, rfl, rfl, ea, eb, q⟩ := h
  obtain rfl : v = Value.ref a := rx
  obtain rfl : u = Value.ref b := ry
  obtain ⟨_, ya, va, ra, da⟩ := (show ObjOk X.prog X.w H s.heap a (.dK (kv m)) from I.hok a _ ea)
  obtain ⟨_, yb, vb, rb, db⟩ := (show ObjOk X.prog X.w H s.heap b (.dK (kv t)) from I.hok b _ eb)
  have la : va.length = m.length := by rw [← ra.length, kv_len]
  have lb : vb.length = t.length := by rw [← rb.length, kv_len]
  refine PySem.W.keq_eq (knd := mixKind X.prog X.w) ya yb da db hu (fun _ => hitsT (P := X.prog) (w := X.w) rb ra) ⟨.bl (eqT m t), H, I, ?_, q⟩
  show Value.bool _ = Value.bool _
  rw [la, lb]
  rfl
theorem op_neT (hu : X.A.units < cLine) : OpR X (compareOp .NotEq) rNeT := by
  intro pins s σ H x y v u Q I rx ry h
  obtain ⟨a, b, m, t, rfl, rfl, ea, eb, q⟩ := h
  obtain rfl : v = Value.ref a := rx
  obtain rfl : u = Value.ref b := ry
  obtain ⟨_, ya, va, ra, da⟩ := (show ObjOk X.prog X.w H s.heap a (.dK (kv m)) from I.hok a _ ea)
  obtain ⟨_, yb, vb, rb, db⟩ := (show ObjOk X.prog X.w H s.heap b (.dK (kv t)) from I.hok b _ eb)
  have la : va.length = m.length := by rw [← ra.length, kv_len]
  have lb : vb.length = t.length := by rw [← rb.length, kv_len]
  refine PySem.W.keq_ne (knd := mixKind X.prog X.w) ya yb da db hu (fun _ => hitsT (P := X.prog) (w := X.w) rb ra) ⟨.bl (!eqT m t), H, I, ?_, q⟩
  show Value.bool _ = Value.bool _
  rw [la, lb]
  rfl
end
end E10

set_option Elab.async false
set_option linter.all false
set_option maxRecDepth 100000
set_option maxHeartbeats 8000000
namespace E10
open L2 PySem PySem.Spec PyProof.Rows
theorem u0 {n : Nat} (h : n + 64 < cLine) : n < cLine := by omega
theorem u1 {n : Nat} (h : n + 64 < cLine) : n + 1 < cLine := by omega
/-! ### lists and tuples of texts, compared -/
theorem strs_lay : ∀ l : List Str, (∀ z ∈ l, PyData.strOk z = true) → PyData.canLay0 (.list (l.map PyData.str)) = true ∧ PyData.depthAll (l.map PyData.str) = 0
  | [], _ => ⟨rfl, rfl⟩
  | z :: r, h => by
    obtain ⟨a, b⟩ := strs_lay r fun y m => h y (.tail _ m)
    have hz : PyData.strOk z = true := h z (.head _)
    refine ⟨?_, ?_⟩
    · have e : PyData.canLayAll0 (PyData.str z :: r.map PyData.str) = (PyData.canLay0 (.str z) && PyData.canLayAll0 (r.map PyData.str)) := by simp only [PyData.canLayAll0]
      have a2 : PyData.canLayAll0 (r.map PyData.str) = true := by simpa only [PyData.canLay0] using a
      show PyData.canLay0 (.list (PyData.str z :: r.map PyData.str)) = true
      simp only [PyData.canLay0]
      rw [e, a2]
      simp only [PyData.canLay0, hz, Bool.and_self]
    · show max _ _ = 0
      rw [b]
      rfl
theorem strs_shaped (l : List Str) (h : ∀ z ∈ l, PyData.strOk z = true) : SeqAt.shaped (.list (l.map PyData.str)) = true := by
  obtain ⟨a, b⟩ := strs_lay l h
  unfold SeqAt.shaped
  rw [a]
  show decide (PyData.depthAll (l.map PyData.str) + 1 ≤ 64) = true
  rw [b]
  rfl
theorem strs_shapedT (l : List Str) (h : ∀ z ∈ l, PyData.strOk z = true) : SeqAt.shaped (.tuple (l.map PyData.str)) = true := by
  obtain ⟨a, b⟩ := strs_lay l h
  have a2 : PyData.canLay0 (.tuple (l.map PyData.str)) = true := by
    simp only [PyData.canLay0] at a ⊢
    exact a
  unfold SeqAt.shaped
  rw [a2]
  show decide (PyData.depthAll (l.map PyData.str) + 1 ≤ 64) = true
  rw [b]
  rfl
theorem strs_eqv (l : List Str) (h : ∀ z ∈ l, PyData.strOk z = true) : PyData.eqv (.list (l.map PyData.str)) (.list (l.map PyData.str)) = true := PySem.SeqAt.eqv_refl _ (strs_lay l h).1
theorem strs_eqvT (l : List Str) (h : ∀ z ∈ l, PyData.strOk z = true) : PyData.eqv (.tuple (l.map PyData.str)) (.tuple (l.map PyData.str)) = true := by
  have e := strs_eqv l h
  simp only [PyData.eqv] at e ⊢
  exact e
theorem Nm.strOk {z : Str} (h : Nm z) : PyData.strOk z = true := by
  unfold PyData.strOk
  rw [← Array.all_toList]
  refine List.all_eq_true.mpr fun c m => decide_eq_true ?_
  have := h.abc c m
  omega
theorem dps {K : PySem.W.Frag} {H : Hp} : ∀ l : List Str, DpAll K H (l.map V.str) (l.map PyData.str)
  | [] => .nil
  | z :: r => .cons (.str z) (dps r)
theorem strs_dp {K : PySem.W.Frag} {H : Hp} {a : Addr} {l : List Str} (h : SqL K H a (l.map V.str)) : Dp K H (.ref a) (.list (l.map PyData.str)) := .lst h (dps l)
theorem strs_dpT {K : PySem.W.Frag} {H : Hp} {a : Addr} {l : List Str} (h : SqT K H a (l.map V.str)) : Dp K H (.ref a) (.tuple (l.map PyData.str)) := .tup h (dps l)
/-! ### Run -/
/-- at a a Run, its table at d -/
structure RAt (cR : Addr) (H : Hp) (a d : Addr) (m : Tb) : Prop where
  ins : ∃ dx, H a = some (.ins cR dx [("_times", .ref d)])
  tab : Tab H d m
theorem RAt.sm {cR a d : Addr} {H H' : Hp} {m : Tb} (s : Same H H') (h : RAt cR H a d m) : RAt cR H' a d m := ⟨h.ins.imp fun _ e => s _ _ e, s _ _ h.tab⟩
theorem RAt.ne {cR a d : Addr} {H : Hp} {m : Tb} (h : RAt cR H a d m) : a ≠ d := by
  rintro rfl
  obtain ⟨dx, e⟩ := h.ins
  have := h.tab
  unfold Tab at this
  rw [e] at this
  cases this
/-- what Run has of its own, and Book's limit -/
structure RunF (K : PySem.W.Frag) (cR cB : Addr) : Prop where
  own : Own K cR
  nT : NoAttr K cR "_times"
  rd : ClX.CRead K cB (.type "type")
  mm : ∃ t, PySem.W.findCls K (.ref cB) (.type "type") "MOST_MOMENTS" = some (.val (.int 8 t))
section
variable {P : Program} {w : World} {K : PySem.W.Frag} {mg : Str → Option Value} {base : Heap} {f cR cB : Addr} {fd : FuncData}
def spInitR (cR : Addr) : Sp := fun vs H Q _ => ∃ (x dx d : Addr) (m : Tb), vs = [.ref x, .ref d] ∧ Tab H d m ∧ Okt m ∧ 0 < m.length ∧ m.length ≤ 8 ∧ H x = some (.ins cR dx []) ∧ ∀ H' e, SameB x H H' → H e = none → RAt cR H' x e (ord m) → Q .non H'
theorem scInitR : FnScope ["self", "times"] ["self", "times"] (defScope m_Run___init__) := ⟨rfl, rfl, rfl, by decide +kernel, rfl, by decide +kernel, by decide +kernel⟩
theorem ok_initR (N : Nam mg) (T : RunF K cR cB) (gB : mg "Book" = some (.ref cB)) (DT : Def P w K mg base "is_times" ["value"] 3 spHas) (DO : Def P w K mg base "in_order" ["table"] 1 spOrder) (F : Fun K "__init__" "Run.__init__" m_Run___init__ f fd) :
    FnOk P w K mg base CX0 4 f fd ["self", "times"] (spInitR cR) := by
  refine F.ok scInitR (fun vs H Q E h => ?_) (fun cdv A outer s H vs Q E hr h => ?_)
  · obtain ⟨_, _, _, _, rfl, _⟩ := h
    rfl
  · obtain ⟨x, dx, d, m, rfl, hd, o, pos, le, hx, go⟩ := h
    refine ⟨_, (pss_cons (ps_if (pt_not (pt_val (callD DT (hr.mono (by decide)) rfl (pa_cons (pv 1) pa_nil)))) (pss_one ps_never) pss_nil)
      (pss_cons (ps_if (pt_cmpR op_gt (pe_callB call_lenD rfl N.len PySem.boot_len (pa_cons (pv 1) pa_nil)) (ClX.pe_cval (pgC rfl gB)) (nomark _)) (pss_one ps_never) pss_nil)
      (pss_one (ps_fld (pv 0) (callD DO (hr.mono (by decide)) rfl (pa_cons (pv 1) pa_nil)) rfl)))), ?_⟩
    refine ⟨_, rfl, d, kv m, rfl, NamesAt.of o hd pos (by omega), fun H1 s1 => ⟨true, rfl, ?_⟩⟩
    obtain ⟨t8, e8⟩ := T.mm
    have hd1 := s1 _ _ hd
    refine ⟨_, rfl, d, kv m, rfl, hd1, cB, _, .int 8, _, rfl, T.rd, ⟨e8, ⟨t8, rfl⟩⟩, _, _, rfl, rfl, _, rfl, ?_⟩
    rw [decide_eq_false (show ¬ (((kv m).length : Nat) : Int) > 8 by rw [kv_len]; omega)]
    refine ⟨_, rfl, d, m, rfl, hd1, o.nd, by omega, fun p H2 np s2 hp => ?_⟩
    have s3 := s1.trans s2
    have px : p ≠ x := (ne_of_none (s1 _ _ hx) np).symm
    refine ⟨_, rfl, x, cR, dx, _, rfl, s3 _ _ hx, T.own.cl, T.nT, by decide, ?_⟩
    refine go _ p (fun b o e nb => ?_) (s1.free np) ⟨⟨dx, upd_same⟩, (upd_ne px).trans hp⟩
    rw [upd_ne nb]
    exact s3 _ _ e
/-- what Run(..) asks of its argument, and gives -/
def WR (cR : Addr) (d : Addr) (m : Tb) (H : Hp) (Q : VK) : Prop := Tab H d m ∧ Okt m ∧ 0 < m.length ∧ m.length ≤ 8 ∧ ∀ x e H', H x = none → H e = none → Same H H' → RAt cR H' x e (ord m) → Q (.ref x) H'
structure MkR (P : Program) (w : World) (K : PySem.W.Frag) (mg : Str → Option Value) (base : Heap) (cR : Addr) : Prop where
  ex : ∃ (f : Addr) (fd : FuncData), Mk K cR f ∧ FnOk P w K mg base CX0 4 f fd ["self", "times"] (spInitR cR) ∧ mg "Run" = some (.ref cR) ∧ Binds K fd ["self", "times"] [] ∧ ∃ g : List Value → List Value → List Value, KBn K fd ["self", "times"] 1 ["times"] g fun vs zs => vs ++ zs
end
section
variable {X : Cx} {cR : Addr}
theorem wr_init {cR d x dx : Addr} {m : Tb} {H : Hp} {Q : VK} (h : WR cR d m H Q) (nx : H x = none) (ndx : H dx = none) (ne : dx ≠ x) : spInitR cR [.ref x, .ref d] (upd (upd H dx (.own x)) x (.ins cR dx [])) (fun v H2 => v = .non ∧ Q (.ref x) H2) E0 := by
  obtain ⟨ht, o, pos, le, q⟩ := h
  have up : Same H (upd (upd H dx (.own x)) x (.ins cR dx [])) := fun b o e => by
    rw [upd_ne (ne_of_none e nx), upd_ne (ne_of_none e ndx)]
    exact e
  refine ⟨x, dx, d, m, rfl, up _ _ ht, o, pos, le, upd_same, fun H' e s ne2 t => ⟨rfl, q x e H' nx (up.free ne2) (fun b o e => ?_) t⟩⟩
  exact s b o (up _ _ e) (ne_of_none e nx)
def tMkR (cR : Addr) (t : TA) : TE := fun σ H Q => t σ H fun vs H1 => ∃ d m, vs = [.ref d] ∧ WR cR d m H1 Q
theorem mkR {e : Expr} {es : List Expr} {t : TA} {p pos : Pos} (M : MkR X.prog X.w X.K X.mg X.base cR) (hr : Room 5 X.A) (hg : Gl X "Run") (ha : PA X (e :: es) t)
    (he : starEach (e :: es) X.env = (false, eval e X.env) :: starEach es X.env := by rfl) (hpl : (backTo pos (starEach es X.env)).any (·.1) = false := by rfl) : PE X (.Call (.Name "Run" p) (e :: es) [] pos) (tMkR cR t) := by
  obtain ⟨f, fd, m, F, hm, b, _⟩ := M.ex
  refine ⟨fun pins s σ H Q I h => ?_⟩
  refine wpAny_Call_Name_kw (ld_glob I hg hm ?_ (by decide))
  refine PySem.W.callWith_K (h₀ := X.base) I.ok.mod.kin m.kp (thn (ha.run pos pins s σ H _ I h) fun us s1 ⟨vs, H1, I1, r, d, tb, e, wr⟩ => ⟨I1.kIn, ?_⟩) he hpl
  subst e
  exact run_make m F hr b .nil pass0 I1 r fun x dx nx ndx ne => wr_init wr nx ndx ne
/-- Run(times=..) -/
theorem mkRK {kws : List Keyword} {tk : TA} {p pos : Pos} (M : MkR X.prog X.w X.K X.mg X.base cR) (hr : Room 5 X.A) (hg : Gl X "Run") (hkw : PK X kws tk)
    (hall : (backToKw pos (keywordEach kws X.env)).all (·.1.isSome) = true := by rfl) (hks : (backToKw pos (keywordEach kws X.env)).filterMap (·.1) = (["times"] : List Str) := by rfl)
    (hpl : ((backTo pos (starEach [] X.env)).any (·.1) || (backToKw pos (keywordEach kws X.env)).any (·.1.isNone)) = false := by rfl) : PE X (.Call (.Name "Run" p) [] kws pos) (tMkR cR tk) := by
  obtain ⟨f, fd, m, F, hm, _, ⟨g, hb⟩⟩ := M.ex
  refine ⟨fun pins s σ H Q I h => ?_⟩
  refine wpAny_Call_Name_kw (ld_glob I hg hm ?_ (by decide))
  refine PySem.W.callWith_KW0 (h₀ := X.base) I.ok.mod.kin m.kp hall (thn (hkw.run pos pins s σ H _ I h) fun ws s2 ⟨zs, H2, I2, rz, d, tb, e, wr⟩ => ⟨I2.kIn, ?_⟩) hpl
  subst e
  rw [hks]
  exact run_makeN (n := 0) (us := []) (vs := []) m F hr hb pass0 I2 .nil rz rfl rfl fun x dx nx ndx ne => wr_init wr nx ndx ne
end
section
variable {P : Program} {w : World} {K : PySem.W.Frag} {mg : Str → Option Value} {base : Heap} {f cR cB : Addr} {fd : FuncData}
/-- run.times(): a new dict -/
def spTimesR (cR : Addr) : Sp := fun vs H Q _ => ∃ (a e : Addr) (m : Tb), vs = [.ref a] ∧ RAt cR H a e m ∧ ∀ p H', H p = none → Same H H' → Tab H' p m → Q (.ref p) H'
theorem scRunTimes : FnScope ["self"] ["self"] (defScope m_Run_times) := ⟨rfl, rfl, rfl, by decide +kernel, rfl, by decide +kernel, by decide +kernel⟩
theorem ok_timesR (N : Nam mg) (T : RunF K cR cB) (F : Fun K "times" "Run.times" m_Run_times f fd) : FnOk P w K mg base CX0 1 f fd ["self"] (spTimesR cR) := by
  refine F.ok scRunTimes (fun vs H Q E h => ?_) (fun cdv A outer s H vs Q E hr h => ?_)
  · obtain ⟨_, _, _, rfl, _⟩ := h
    rfl
  · obtain ⟨a, e, m, rfl, ra, go⟩ := h
    obtain ⟨dx, hi⟩ := ra.ins
    refine ⟨_, (pss_one (ps_ret (pe_callTy call_dictD rfl N.dct boot_dict' (pa_cons (pe_fld (pv 0) rfl) pa_nil)))), ?_⟩
    exact ⟨_, rfl, a, cR, dx, _, _, rfl, hi, T.own.cl, T.nT, rfl, e, kv m, rfl, .inl ra.tab, fun p np => go p _ np (new_same np) upd_same⟩
/-- run.moments: a new tuple of the names -/
def spMomsR (cR : Addr) : Sp := fun vs H Q _ => ∃ (a e : Addr) (m : Tb), vs = [.ref a] ∧ RAt cR H a e m ∧ ∀ p H', H p = none → Same H H' → H' p = some (.tup ((keys m).map V.str)) → Q (.ref p) H'
theorem scRunMoments : FnScope ["self"] ["self"] (defScope m_Run_moments) := ⟨rfl, rfl, rfl, by decide +kernel, rfl, by decide +kernel, by decide +kernel⟩
theorem kvs_keys (m : Tb) : ((kv m).map fun q => kV q.1) = (keys m).map V.str := by
  unfold kv keys
  rw [List.map_map, List.map_map]
  rfl
theorem ok_momentsR (N : Nam mg) (T : RunF K cR cB) (F : Fun K "moments" "Run.moments" m_Run_moments f fd) : FnOk P w K mg base CX0 1 f fd ["self"] (spMomsR cR) := by
  refine F.ok scRunMoments (fun vs H Q E h => ?_) (fun cdv A outer s H vs Q E hr h => ?_)
  · obtain ⟨_, _, _, rfl, _⟩ := h
    rfl
  · obtain ⟨a, e, m, rfl, ra, go⟩ := h
    obtain ⟨dx, hi⟩ := ra.ins
    refine ⟨_, (pss_one (ps_ret (pe_callTy (call_tupleD rfl) rfl N.tup_ boot_tuple' (pa_cons (pe_fld (pv 0) rfl) pa_nil)))), ?_⟩
    refine ⟨_, rfl, a, cR, dx, _, _, rfl, hi, T.own.cl, T.nT, rfl, e, kv m, rfl, .inl ra.tab, fun p H' np s hp => ?_⟩
    rw [kvs_keys] at hp
    exact go p H' np s hp
/-- len(run) -/
def spLenR (cR : Addr) : Sp := fun vs H Q _ => ∃ (a e : Addr) (m : Tb), vs = [.ref a] ∧ RAt cR H a e m ∧ Q (.int m.length) H
theorem scRunLen : FnScope ["self"] ["self"] (defScope m_Run___len__) := ⟨rfl, rfl, rfl, by decide +kernel, rfl, by decide +kernel, by decide +kernel⟩
theorem ok_lenR (N : Nam mg) (T : RunF K cR cB) (F : Fun K "__len__" "Run.__len__" m_Run___len__ f fd) : FnOk P w K mg base CX0 1 f fd ["self"] (spLenR cR) := by
  refine F.ok scRunLen (fun vs H Q E h => ?_) (fun cdv A outer s H vs Q E hr h => ?_)
  · obtain ⟨_, _, _, rfl, _⟩ := h
    rfl
  · obtain ⟨a, e, m, rfl, ra, go⟩ := h
    obtain ⟨dx, hi⟩ := ra.ins
    refine ⟨_, (pss_one (ps_ret (pe_callB call_lenD rfl N.len PySem.boot_len (pa_cons (pe_fld (pv 0) rfl) pa_nil)))), ?_⟩
    refine ⟨_, rfl, a, cR, dx, _, _, rfl, hi, T.own.cl, T.nT, rfl, e, kv m, rfl, ra.tab, ?_⟩
    rw [kv_len]
    exact go
/-- run[z], its table walked or not -/
def spMomR : Sp := fun vs H Q _ => ∃ (z : Str) (d : Addr) (m : Tb), vs = [.str z, .ref d] ∧ Rd H d (.dK (kv m)) ∧ z ∈ keys m ∧ Q (.bl true) H
theorem scMomR : FnScope ["value", "moments"] ["value", "moments"] (defScope s_is_moment_of) := ⟨rfl, rfl, rfl, by decide +kernel, rfl, by decide +kernel, by decide +kernel⟩
theorem ok_momR (N : Nam mg) (F : Fun K "is_moment_of" "is_moment_of" s_is_moment_of f fd) : FnOk P w K mg base CX0 1 f fd ["value", "moments"] spMomR := by
  refine F.ok scMomR (fun vs H Q E h => ?_) (fun cdv A outer s H vs Q E hr h => ?_)
  · obtain ⟨_, _, _, rfl, _⟩ := h
    rfl
  · obtain ⟨z, d, m, rfl, hd, hz, go⟩ := h
    have hu := hu_of hr
    refine ⟨_, pss_one (ps_ret (pe_and (pe_callB call_isi rfl N.isi boot_isi (pa_cons (pv 0) (pa_cons (pbT rfl N.str_ boot_str') pa_nil))) (pe_one (pe_cmp (pc_din hu (pv 0) (pv 1)) rfl)))), ?_⟩
    refine ⟨_, rfl, _, _, _, _, _, rfl, .ty _, .base (.str _), kit_ty (b := "str") (r := true) (by decide +kernel), true, rfl, ?_⟩
    exact ⟨_, rfl, _, rfl, d, _, rfl, DGet.tab hd hz, go⟩
def spCMomR : Sp := fun vs H Q _ => ∃ (z : Str) (d : Addr) (m : Tb), vs = [.str z, .ref d] ∧ Rd H d (.dK (kv m)) ∧ z ∈ keys m ∧ Q .non H
theorem scCMomR : FnScope ["value", "moments"] ["value", "moments"] (defScope s_check_moment) := ⟨rfl, rfl, rfl, by decide +kernel, rfl, by decide +kernel, by decide +kernel⟩
theorem ok_cmomR (DM : Def P w K mg base "is_moment_of" ["value", "moments"] 1 spMomR) (F : Fun K "check_moment" "check_moment" s_check_moment f fd) : FnOk P w K mg base CX0 2 f fd ["value", "moments"] spCMomR := by
  refine F.ok scCMomR (fun vs H Q E h => ?_) (fun cdv A outer s H vs Q E hr h => ?_)
  · obtain ⟨_, _, _, rfl, _⟩ := h
    rfl
  · obtain ⟨z, d, m, rfl, hd, hz, go⟩ := h
    refine ⟨_, pss_one (ps_if (pt_not (pt_val (callD DM hr rfl (pa_cons (pv 0) (pa_cons (pv 1) pa_nil))))) (pss_one ps_never) pss_nil), ?_⟩
    exact ⟨_, rfl, _, rfl, z, d, m, rfl, hd, hz, true, rfl, go⟩
def spItemR (cR : Addr) : Sp := fun vs H Q _ => ∃ (a dx e : Addr) (z : Str) (m : Tb), vs = [.ref a, .str z] ∧ H a = some (.ins cR dx [("_times", .ref e)]) ∧ Rd H e (.dK (kv m)) ∧ z ∈ keys m ∧ Q (.int (g0 m z)) H
theorem scRunItem : FnScope ["self", "at"] ["self", "at"] (defScope m_Run___getitem__) := ⟨rfl, rfl, rfl, by decide +kernel, rfl, by decide +kernel, by decide +kernel⟩
theorem ok_itemR (T : RunF K cR cB) (DM : Def P w K mg base "check_moment" ["value", "moments"] 2 spCMomR) (F : Fun K "__getitem__" "Run.__getitem__" m_Run___getitem__ f fd) : FnOk P w K mg base CX0 3 f fd ["self", "at"] (spItemR cR) := by
  refine F.ok scRunItem (fun vs H Q E h => ?_) (fun cdv A outer s H vs Q E hr h => ?_)
  · obtain ⟨_, _, _, _, _, rfl, _⟩ := h
    rfl
  · obtain ⟨a, dx, e, z, m, rfl, hi, he, hz, go⟩ := h
    have hu := hu_of hr
    refine ⟨_, pss_cons (ps_expr (callD DM hr rfl (pa_cons (pv 1) (pa_cons (pe_fld (pv 0) rfl) pa_nil)))) (pss_one (ps_ret (pe_dget hu (pe_fld (pv 0) rfl) (pv 1) (fun _ _ => rfl)))), ?_⟩
    refine ⟨_, rfl, _, rfl, a, cR, dx, _, _, rfl, hi, T.own.cl, T.nT, rfl, z, e, m, rfl, he, hz, ?_⟩
    exact ⟨_, rfl, a, cR, dx, _, _, rfl, hi, T.own.cl, T.nT, rfl, _, rfl, e, _, rfl, DGet.tab he hz, go⟩
/-- whether any value is one of the moments -/
def AnyMom (K : PySem.W.Frag) (H : Hp) (m : Tb) (x : V) (b : Bool) : Prop := (∃ z, x = .str z ∧ b = decide (z ∈ keys m)) ∨ (∃ t, TyX K H x t ∧ PySem.W.kitOne K t (.type "str") = some false ∧ b = false)
def spMomA (K : PySem.W.Frag) : Sp := fun vs H Q _ => ∃ (x : V) (d : Addr) (m : Tb) (b : Bool), vs = [x, .ref d] ∧ Tab H d m ∧ AnyMom K H m x b ∧ Q (.bl b) H
theorem gv_isSome (m : Tb) (z : Str) : (gv m z).isSome = decide (z ∈ keys m) := by
  by_cases h : z ∈ keys m
  · rw [gv_g0 h, decide_eq_true h]
    rfl
  · rw [gv_none h, decide_eq_false h]
    rfl
theorem ok_momA (N : Nam mg) (F : Fun K "is_moment_of" "is_moment_of" s_is_moment_of f fd) : FnOk P w K mg base CX0 1 f fd ["value", "moments"] (spMomA K) := by
  refine F.ok scMom (fun vs H Q E h => ?_) (fun cdv A outer s H vs Q E hr h => ?_)
  · obtain ⟨_, _, _, _, rfl, _⟩ := h
    rfl
  · obtain ⟨x, d, m, b, rfl, hd, h, go⟩ := h
    have hu := hu_of hr
    refine ⟨_, pss_one (ps_ret (pe_and (pe_callB call_isi rfl N.isi boot_isi (pa_cons (pv 0) (pa_cons (pbT rfl N.str_ boot_str') pa_nil))) (pe_one (pe_cmp (pc_din hu (pv 0) (pv 1)) rfl)))), ?_⟩
    rcases h with ⟨z, rfl, rfl⟩ | ⟨t, ty, no, rfl⟩
    · refine ⟨_, rfl, _, _, _, _, _, rfl, .ty _, .base (.str _), kit_ty (b := "str") (r := true) (by decide +kernel), true, rfl, ?_⟩
      refine ⟨_, rfl, _, rfl, d, _, rfl, DGet.k (k := .inr z) hd, ?_⟩
      rw [valV_kv]
      have e : ((gv m z).map V.int).isSome = decide (z ∈ keys m) := by
        rw [← gv_isSome]
        cases gv m z <;> rfl
      rw [e]
      exact go
    · exact ⟨_, rfl, x, _, t, _, _, rfl, .ty _, ty, no, false, rfl, go⟩
def spInR (K : PySem.W.Frag) (cR : Addr) : Sp := fun vs H Q _ => ∃ (a e : Addr) (x : V) (m : Tb) (b : Bool), vs = [.ref a, x] ∧ RAt cR H a e m ∧ AnyMom K H m x b ∧ Q (.bl b) H
theorem scRunIn : FnScope ["self", "x"] ["self", "x"] (defScope m_Run___contains__) := ⟨rfl, rfl, rfl, by decide +kernel, rfl, by decide +kernel, by decide +kernel⟩
theorem ok_inR (T : RunF K cR cB) (DM : Def P w K mg base "is_moment_of" ["value", "moments"] 1 (spMomA K)) (F : Fun K "__contains__" "Run.__contains__" m_Run___contains__ f fd) : FnOk P w K mg base CX0 2 f fd ["self", "x"] (spInR K cR) := by
  refine F.ok scRunIn (fun vs H Q E h => ?_) (fun cdv A outer s H vs Q E hr h => ?_)
  · obtain ⟨_, _, _, _, _, rfl, _⟩ := h
    rfl
  · obtain ⟨a, e, x, m, b, rfl, ra, h, go⟩ := h
    obtain ⟨dx, hi⟩ := ra.ins
    refine ⟨_, (pss_one (ps_ret (callD DM (hr.mono (by decide)) rfl (pa_cons (pv 1) (pa_cons (pe_fld (pv 0) rfl) pa_nil))))), ?_⟩
    exact ⟨_, rfl, _, rfl, a, cR, dx, _, _, rfl, hi, T.own.cl, T.nT, rfl, x, e, m, b, rfl, ra.tab, h, go⟩
/-- one == other: another Run, or a value of another kind -/
def spEqR (K : PySem.W.Frag) (cR : Addr) : Sp := fun vs H Q _ => ∃ (a e : Addr) (m : Tb) (y : V), vs = [.ref a, y] ∧ RAt cR H a e m ∧ ((∃ b c t, y = .ref b ∧ RAt cR H b c t ∧ Q (.bl (eqT m t)) H) ∨ ∃ t, TyX K H y t ∧ PySem.W.kitOne K t (.ref cR) = some false ∧ Q (.bl false) H)
theorem scRunEq : FnScope ["self", "other"] ["self", "other"] (defScope m_Run___eq__) := ⟨rfl, rfl, rfl, by decide +kernel, rfl, by decide +kernel, by decide +kernel⟩
theorem ok_eqR (N : Nam mg) (T : RunF K cR cB) (gR : mg "Run" = some (.ref cR)) (F : Fun K "__eq__" "Run.__eq__" m_Run___eq__ f fd) : FnOk P w K mg base CX0 1 f fd ["self", "other"] (spEqR K cR) := by
  refine F.ok scRunEq (fun vs H Q E h => ?_) (fun cdv A outer s H vs Q E hr h => ?_)
  · obtain ⟨_, _, _, _, rfl, _⟩ := h
    rfl
  · obtain ⟨a, e, m, y, rfl, ra, h⟩ := h
    have hu := hr.units
    obtain ⟨dx, hi⟩ := ra.ins
    refine ⟨_, pss_one (ps_ret (pe_and (pe_callB call_isi rfl N.isi boot_isi (pa_cons (pv 1) (pa_cons (pgC rfl gR) pa_nil))) (pe_one (pe_cmpR (op_eqT (u0 hu)) (pe_fld (pv 0) rfl) (pe_fld (pv 1) rfl) (nomark _))))), ?_⟩
    rcases h with ⟨b, c, t, rfl, rb, go⟩ | ⟨t, ty, no, go⟩
    · obtain ⟨dy, hb⟩ := rb.ins
      refine ⟨_, rfl, _, _, _, _, _, rfl, .own _, T.own.ty hb, T.own.me, true, rfl, ?_⟩
      exact ⟨_, rfl, a, cR, dx, _, _, rfl, hi, T.own.cl, T.nT, rfl, _, rfl, b, cR, dy, _, _, rfl, hb, T.own.cl, T.nT, rfl, e, c, m, t, rfl, rfl, ra.tab, rb.tab, go⟩
    · exact ⟨_, rfl, y, _, t, _, _, rfl, .own _, ty, no, false, rfl, go⟩
end
end E10

set_option Elab.async false
set_option linter.all false
set_option maxRecDepth 100000
set_option maxHeartbeats 8000000
namespace E10
open L2 PySem PySem.Spec PyProof.Rows
theorem inV_str (z : Str) (zs : List Str) : inV (.str z) (zs.map V.str) = decide (z ∈ zs) := by
  unfold inV
  rw [List.any_map]
  rw [Bool.eq_iff_iff]
  simp only [List.any_eq_true, decide_eq_true_eq, Function.comp]
  constructor
  · rintro ⟨y, hy, e⟩
    have : y = z := by simpa [eqV] using e
    exact this ▸ hy
  · intro h
    exact ⟨z, h, by simp [eqV]⟩
theorem cut_take {xs : List V} {i : Nat} (h : i ≤ xs.length) : cutV xs none (some (i : Int)) = xs.take i := by
  unfold cutV
  rw [HT.sIx_none, HT.sIx_nat, List.drop_zero]
  congr 1
  omega
theorem not_seen {zs : List Str} (nd : zs.Nodup) {i : Nat} {z : Str} (h : zs[i]? = some z) : inV (.str z) ((zs.map V.str).take i) = false := by
  rw [← List.map_take, inV_str]
  refine decide_eq_false fun m => ?_
  obtain ⟨lt, g⟩ := List.getElem?_eq_some_iff.mp h
  obtain ⟨j, hj, e⟩ := List.getElem_of_mem m
  rw [List.length_take] at hj
  rw [List.getElem_take] at e
  have := List.nodup_iff_pairwise_ne.mp nd
  exact (List.pairwise_iff_getElem.mp this) j i (by omega) lt (by omega) (e.trans g.symm)
section
variable {P : Program} {w : World} {K : PySem.W.Frag} {mg : Str → Option Value} {base : Heap} {f cR cB : Addr} {fd : FuncData}
/-- a list, or a tuple -/
def spIsList (K : PySem.W.Frag) : Sp := fun vs H Q _ => ∃ (l : Addr) (xs : List V), vs = [.ref l] ∧ (H l = some (.lst xs) ∨ H l = some (.tup xs)) ∧ ∀ H', Same H H' → Q (.bl true) H'
theorem scIsList : FnScope ["value"] ["value"] (defScope s_is_list) := ⟨rfl, rfl, rfl, by decide +kernel, rfl, by decide +kernel, by decide +kernel⟩
theorem ok_isList (N : Nam mg) (F : Fun K "is_list" "is_list" s_is_list f fd) : FnOk P w K mg base CX0 1 f fd ["value"] (spIsList K) := by
  refine F.ok scIsList (fun vs H Q E h => ?_) (fun cdv A outer s H vs Q E hr h => ?_)
  · obtain ⟨_, _, rfl, _⟩ := h
    rfl
  · obtain ⟨l, xs, rfl, hl, go⟩ := h
    refine ⟨_, (pss_one (ps_ret (pe_callB call_isiT rfl N.isi boot_isi (pa_cons (pv 0) (pa_cons (pe_tup (pa_cons (pbT rfl N.lst_ boot_list') (pa_cons (pbT rfl N.tup_ boot_tuple') pa_nil))) pa_nil))))), ?_⟩
    refine ⟨_, rfl, by show 2 ≤ sizeLine; decide, fun T nT => ?_⟩
    have sT := new_same (o := .tup [.ty "list", .ty "tuple"]) nT
    rcases hl with hl | hl
    · exact ⟨_, T, _, _, _, true, rfl, upd_same, .cons (.ty _) (.cons (.ty _) .nil), .base (.lst (sT _ _ hl)), kitAny_cons (b := true) (kit_ty (a := "list") (b := "list") (by decide +kernel)) (by intro h; cases h) (fun _ => rfl), go _ sT⟩
    · exact ⟨_, T, _, _, _, true, rfl, upd_same, .cons (.ty _) (.cons (.ty _) .nil), .base (.tup (sT _ _ hl)), kitAny_cons (b := false) (kit_ty (a := "tuple") (b := "list") (by decide +kernel)) (fun _ => kitAny_cons (b := true) (kit_ty (a := "tuple") (b := "tuple") (by decide +kernel)) (by intro h; cases h) (fun _ => rfl)) (by intro h; cases h), go _ sT⟩
/-- the same names -/
def spSameM : Sp := fun vs H Q _ => ∃ (p q : Addr) (zs : List Str), vs = [.ref p, .ref q] ∧ H p = some (.tup (zs.map V.str)) ∧ H q = some (.tup (zs.map V.str)) ∧ (∀ z ∈ zs, PyData.strOk z = true) ∧ Q .non H
theorem scSameM : FnScope ["one", "other"] ["one", "other"] (defScope s_check_same_moments) := ⟨rfl, rfl, rfl, by decide +kernel, rfl, by decide +kernel, by decide +kernel⟩
theorem ok_sameM (F : Fun K "check_same_moments" "check_same_moments" s_check_same_moments f fd) : FnOk P w K mg base CX0 1 f fd ["one", "other"] spSameM := by
  refine F.ok scSameM (fun vs H Q E h => ?_) (fun cdv A outer s H vs Q E hr h => ?_)
  · obtain ⟨_, _, _, rfl, _⟩ := h
    rfl
  · obtain ⟨p, q, zs, rfl, hp, hq, ok, go⟩ := h
    have hu := hr.units
    refine ⟨_, pss_one (ps_if (pt_cmpR (op_neD hu) (pv 0) (pv 1) (nomark _)) (pss_one ps_never) pss_nil), ?_⟩
    refine ⟨_, rfl, _, rfl, _, _, strs_dpT (.inl (.inl hp)), strs_dpT (.inl (.inl hq)), strs_shapedT zs ok, strs_shapedT zs ok, _, rfl, ?_⟩
    rw [strs_eqvT zs ok]
    exact go
/-- run.is_at_most(other), other with the same moments -/
def leT (m t : Tb) : Bool := (keys m).all fun z => decide (g0 m z ≤ g0 t z)
def spAtMost (cR : Addr) : Sp := fun vs H Q _ => ∃ (a e b c : Addr) (m t : Tb), vs = [.ref a, .ref b] ∧ RAt cR H a e m ∧ RAt cR H b c t ∧ keys m = keys t ∧ Okt m ∧ m.length ≤ 8 ∧ ∀ H', Same H H' → Q (.bl (leT m t)) H'
abbrev nAtMost : List Str := ["self", "other", "moment"]
theorem scAtMost : FnScope nAtMost ["self", "other"] (defScope m_Run_is_at_most) := ⟨rfl, rfl, rfl, by decide +kernel, rfl, by decide +kernel, by decide +kernel⟩
structure PropR (P : Program) (w : World) (K : PySem.W.Frag) (mg : Str → Option Value) (base : Heap) (cR : Addr) : Prop where
  ex : ∃ (p f : Addr) (fd : FuncData), PropOf K cR "moments" p f ∧ FnOk P w K mg base CX0 1 f fd ["self"] (spMomsR cR) ∧ Binds K fd ["self"] []
structure ItemR (P : Program) (w : World) (K : PySem.W.Frag) (mg : Str → Option Value) (base : Heap) (cR : Addr) : Prop where
  ex : ∃ (f : Addr) (fd : FuncData), FnOk P w K mg base CX0 3 f fd ["self", "at"] (spItemR cR) ∧ Has K cR f "__getitem__" ∧ PySem.W.fnIn K f = true ∧ Binds K fd ["self", "at"] []
theorem ok_atMost (N : Nam mg) (T : RunF K cR cB) (PM : PropR P w K mg base cR) (IX : ItemR P w K mg base cR) (DS : Def P w K mg base "check_same_moments" ["one", "other"] 1 spSameM) (F : Fun K "is_at_most" "Run.is_at_most" m_Run_is_at_most f fd) : FnG P w K mg base 5 f fd ["self", "other"] (spAtMost cR) := by
  refine Fun.okG F scAtMost (fun {vs H Q E} h => ?_) (fun cdv A outer s H vs Q E hG hr h => ?_)
  · obtain ⟨_, _, _, _, _, _, rfl, _⟩ := h
    rfl
  · obtain ⟨a, e, b, c, m, t, rfl, ra, rb, ke, o, le, go⟩ := h
    have hu := hr.units
    obtain ⟨pM, fM, fdM, hM, FM, bM⟩ := PM.ex
    obtain ⟨fX, fdX, FX, hX, nX, bX⟩ := IX.ex
    refine ⟨_, pss_cons (ps_expr (callD DS (hr.mono (by decide)) rfl (pa_cons (pe_prop (pv 0) T.own.cl hM FM (hr.mono (by decide)) bM .nil pass0 rfl) (pa_cons (pe_prop (pv 1) T.own.cl hM FM (hr.mono (by decide)) bM .nil pass0 rfl) pa_nil))))
      (pss_one (ps_ret (pe_lock (pe_callB (cr_all rfl) rfl N.all_ boot_all' (pa_cons (pe_lc (own := [("moment", 2)]) (g := gName 2) (tt := tYes) rfl scAtMost.nd (pi_keys (pe_fld (pv 0) rfl))
        (blkOk_by (own := [("moment", 2)]) (N := nAtMost) (sc := defScope m_Run_is_at_most) (by decide +kernel)) (fun _ _ _ _ _ => pg_name (i := 2) scAtMost.nd rfl (Or.inl rfl)) (fun _ _ _ _ _ => pts_nil)
        (te := tOp (rI0 fun i j => .bl (decide (i ≤ j))) (tDGet (tFld K (tVar 0) "_times") (tVar 2)) (tOp (fun x y H Q => ∃ a dx fs, x = .ref a ∧ H a = some (.ins cR dx fs) ∧ spItemR cR [x, y] H Q E0) (tVar 1) (tVar 2)))
        (fun _ _ _ _ _ => pe_cmpR op_le (pe_dget (u1 hu) (pe_fld (pv 0) rfl) (pv 2) (fun _ _ => rfl)) (pe_ixO (.of FX) hG (hr.mono (by decide)) bX hX nX (pv 1) (pv 2)) (nomark _))) pa_nil))))), ?_⟩
    obtain ⟨dx, hi⟩ := ra.ins
    obtain ⟨dy, hb⟩ := rb.ins
    refine ⟨_, rfl, a, dx, _, rfl, hi, a, e, m, rfl, ra, fun p H1 np s1 hp => ?_⟩
    refine ⟨_, rfl, b, dy, _, rfl, s1 _ _ hb, b, c, t, rfl, rb.sm s1, fun q H2 nq s2 hq => ?_⟩
    rw [← ke] at hq
    refine ⟨p, q, keys m, rfl, s2 _ _ hp, hq, fun z hz => (o.key hz).strOk, ?_⟩
    have s02 := s1.trans s2
    have ra2 := ra.sm s02
    have rb2 := rb.sm s02
    have hi2 := s02 _ _ hi
    have hb2 := s02 _ _ hb
    refine ⟨e, _, ra2.tab, True.intro, fun od => ?_⟩
    have hF : upd H2 e (.frz od (.dK (kv m))) e = some (.frz od (.dK (kv m))) := upd_same
    have hiF : upd H2 e (.frz od (.dK (kv m))) a = some (.ins cR dx [("_times", .ref e)]) := (upd_ne ra2.ne).trans hi2
    have be : b ≠ e := by
      rintro rfl
      have := ra2.tab
      unfold Tab at this
      rw [hb2] at this
      cases this
    have hbF : upd H2 e (.frz od (.dK (kv m))) b = some (.ins cR dy [("_times", .ref c)]) := (upd_ne be).trans hb2
    have rdT : ∀ H', Same (upd H2 e (.frz od (.dK (kv m)))) H' → Rd H' c (.dK (kv t)) := fun H' sm => by
      by_cases ce : c = e
      · subst ce
        have q1 : kv m = kv t := by
          exact HO.dK.inj (Option.some.inj ((show H2 c = _ from ra2.tab).symm.trans (show H2 c = _ from rb2.tab)))
        rw [← q1]
        exact .inr ⟨od, sm _ _ hF⟩
      · exact .inl (sm _ _ ((upd_ne ce).trans rb2.tab))
    have lm : (kv m).length ≤ 1000 := by rw [kv_len]; omega
    refine ⟨_, rfl, a, cR, dx, _, _, rfl, hiF, T.own.cl, T.nT, rfl, e, od, rfl, .inl ⟨kv m, hF, fun D nD => ?_⟩⟩
    refine lc_map walk_keys (fun i => .bl ((m.map fun p => decide (g0 m p.1 ≤ g0 t p.1)).getD i true)) nD lm (fun H' s => s _ _ hF) (fun _ _ _ _ y => by rw [y.1]; exact Same.refl _) ?_ ?_
    · rintro i x H' H'' R lt sm _ ⟨rfl, k, v, hk, rfl⟩ go2
      refine ⟨rfl, ?_⟩
      obtain ⟨z, n, hm, rfl, rfl⟩ := kv_at hk
      have k1 := at_key hm
      refine ⟨_, rfl, a, cR, dx, _, _, rfl, sm _ _ hiF, T.own.cl, T.nT, rfl, _, rfl, e, _, rfl, DGet.tab (.inr ⟨od, sm _ _ hF⟩) k1, ?_⟩
      refine ⟨_, rfl, _, rfl, b, dy, _, rfl, sm _ _ hbF, b, dy, c, z, t, rfl, sm _ _ hbF, rdT _ sm, ke ▸ k1, _, _, rfl, rfl, ?_⟩
      have e1 : (m.map fun p => decide (g0 m p.1 ≤ g0 t p.1)).getD i true = decide (g0 m z ≤ g0 t z) := by
        rw [List.getD_eq_getElem?_getD, List.getElem?_map, hm]
        rfl
      show R (.bl (decide (g0 m z ≤ g0 t z))) H''
      rw [← e1]
      exact go2 _ (Same.refl _)
    · intro H3 s3 hD
      have el : ((List.range (kv m).length).map fun i => V.bl ((m.map fun p => decide (g0 m p.1 ≤ g0 t p.1)).getD i true)) = (m.map fun p => decide (g0 m p.1 ≤ g0 t p.1)).map V.bl := by
        rw [kv_len]
        apply List.ext_getElem
        · simp
        · intro i h1 h2
          simp at h1 h2 ⊢
          simp [h1]
      rw [el] at hD
      refine ⟨D, _, rfl, .inl (.inl hD), s3 _ _ hF, ?_⟩
      have ea : (m.map fun p => decide (g0 m p.1 ≤ g0 t p.1)).all id = leT m t := by
        unfold leT keys
        rw [List.all_map, List.all_map]
        rfl
      rw [ea]
      exact go _ (s02.trans (locked ra2.tab s3))
end
end E10

set_option Elab.async false
set_option linter.all false
set_option maxRecDepth 100000
set_option maxHeartbeats 8000000
namespace E10
open L2 PySem PySem.Spec PyProof.Rows
theorem wipe_two (σ : L2.St) (u v : Nat) (a b : Option V) : wipe (List.set (List.set (wipe σ [u, v]) u a) v b) [u, v] = wipe σ [u, v] := by
  simp only [wipe]
  apply List.ext_getElem?
  intro k
  simp only [List.getElem?_set, List.length_set]
  split <;> split <;> simp_all
theorem mem_put {m : Tb} {z : Str} {i : Int} {p : Str × Int} (h : p ∈ put m z i) : p ∈ m ∨ p = (z, i) := by
  unfold put at h
  split at h
  · obtain ⟨q, hq, e⟩ := List.mem_map.mp h
    by_cases c : q.1 = z
    · rw [if_pos c] at e
      exact .inr (by rw [← e, c])
    · rw [if_neg c] at e
      exact .inl (e ▸ hq)
  · rcases List.mem_append.mp h with h | h
    · exact .inl h
    · exact .inr (List.mem_singleton.mp h)
theorem mem_ofRows : ∀ {rows acc : Tb} {p : Str × Int}, p ∈ ofRows acc rows → p ∈ acc ∨ p ∈ rows
  | [], _, _, h => .inl h
  | q :: r, acc, p, h => by
    rcases mem_ofRows (rows := r) (acc := put acc q.1 q.2) h with h | h
    · rcases mem_put h with h | rfl
      · exact .inl h
      · exact .inr (.head _)
    · exact .inr (.tail _ h)
/-- a table of names with numbers that are not too great -/
structure Tbl (B : Int → Prop) (n : Nat) (m : Tb) : Prop where
  ok : Okt m
  pos : 0 < m.length
  le : m.length ≤ n
  sn : ∀ p ∈ m, B p.2
theorem Tbl.of {B : Int → Prop} {n : Nat} {rows : Tb} (nm : ∀ p ∈ rows, Nm p.1) (pos : 0 < rows.length) (le : rows.length ≤ n) (sn : ∀ p ∈ rows, B p.2) : Tbl B n (ofRows [] rows) := by
  refine ⟨⟨fun p hp => ?_, ofRows_nodup List.nodup_nil⟩, ?_, ?_, fun p hp => ?_⟩
  · rcases mem_ofRows hp with h | h
    · cases h
    · exact nm p h
  · cases rows with
    | nil => exact pos
    | cons p r =>
      have : p.1 ∈ keys (ofRows [] (p :: r)) := ofRows_keys.mpr (.inr (.head _))
      rw [← keys_len]
      exact List.length_pos_of_mem this
  · have := ofRows_len (rows := rows) (acc := [])
    simp at this
    omega
  · rcases mem_ofRows hp with h | h
    · cases h
    · exact sn p h
theorem Tbl.g0 {B : Int → Prop} {n : Nat} {m : Tb} (h : Tbl B n m) {z : Str} (k : z ∈ keys m) : B (g0 m z) := h.sn _ (gv_mem (gv_g0 k))
/-- tuples of the rows at these places -/
def RowsAt (H : Hp) (ps : List Addr) (rows : Tb) : Prop := Paired (fun p r => H p = some (.tup [.str r.1, .int r.2])) ps rows
theorem RowsAt.mono {H H' : Hp} : ∀ {ps : List Addr} {rows : Tb}, (∀ p xs, H p = some (.tup xs) → H' p = some (.tup xs)) → RowsAt H ps rows → RowsAt H' ps rows
  | _, _, _, .nil => .nil
  | _, _, s, .cons e t => .cons (s _ _ e) (RowsAt.mono s t)
theorem RowsAt.sq {K : PySem.W.Frag} {H : Hp} : ∀ {ps : List Addr} {rows : Tb}, RowsAt H ps rows → Paired (fun p kv => SqT K H p [kV kv.1, kv.2]) ps (kv rows)
  | _, _, .nil => .nil
  | _, _, .cons e t => .cons (.inl (.inl e)) (RowsAt.sq t)
theorem paired_snoc {α β : Type} {R : α → β → Prop} {x : α} {y : β} : ∀ {xs : List α} {ys : List β}, Paired R xs ys → R x y → Paired R (xs ++ [x]) (ys ++ [y])
  | _, _, .nil, r => .cons r .nil
  | _, _, .cons e t, r => .cons e (paired_snoc t r)
theorem paired_len {α β : Type} {R : α → β → Prop} : ∀ {xs : List α} {ys : List β}, Paired R xs ys → xs.length = ys.length
  | _, _, .nil => rfl
  | _, _, .cons _ t => congrArg (· + 1) (paired_len t)
theorem paired_at {α β : Type} {R : α → β → Prop} : ∀ {xs : List α} {ys : List β} {i : Nat} {x : α}, Paired R xs ys → xs[i]? = some x → ∃ y, ys[i]? = some y ∧ R x y
  | _, _, _, _, .nil, h => by simp at h
  | _, _, 0, _, .cons r _, h => ⟨_, rfl, by simp at h; exact h ▸ r⟩
  | _, _, i + 1, _, .cons _ t, h => paired_at (i := i) t (by simpa using h)
theorem char_abc {c : Nat} (h : 97 ≤ c ∧ c ≤ 122) : Builtin.Str.reprChar 39 c = [c] := by
  have all : ∀ k : Fin 26, Builtin.Str.reprChar 39 (97 + k.val) = [97 + k.val] := by decide +kernel
  have := all ⟨c - 97, by omega⟩
  have e : 97 + (c - 97) = c := by omega
  simp only [e] at this
  exact this
theorem fold_abc : ∀ (l : List Nat) (acc : Array Nat), (∀ c ∈ l, 97 ≤ c ∧ c ≤ 122) → l.foldl (fun out c => out ++ (Builtin.Str.reprChar 39 c).toArray) acc = acc ++ l.toArray
  | [], acc, _ => by simp
  | c :: l, acc, h => by
    rw [List.foldl_cons, char_abc (h c List.mem_cons_self), fold_abc l _ fun d hd => h d (List.mem_cons_of_mem _ hd)]
    simp
theorem quote_abc {z : Str} (h : Nm z) : reprQuote z = 39 := by
  have n : z.cps.contains 39 = false := by
    rw [Bool.eq_false_iff]
    intro q
    have m : 39 ∈ z.cps.toList := by
      rw [Array.contains_iff_mem] at q
      exact Array.mem_toList_iff.mpr q
    have := h.abc 39 m
    omega
  unfold reprQuote
  rw [n]
  rfl
theorem repr_abc {z : Str} (h : Nm z) : reprText z = (("'" : String) : Str) ++ z ++ (("'" : String) : Str) := by
  unfold reprText
  rw [quote_abc h, ← Array.foldl_toList, fold_abc _ _ h.abc]
  refine Str.ext' ?_
  rw [Str.cps_append, Str.cps_append]
  show ((#[39] ++ z.cps.toList.toArray).push 39) = #[39] ++ z.cps ++ #[39]
  simp
theorem repr_abc_len {z : Str} (h : Nm z) : (reprText z).length ≤ 10 := by
  rw [repr_abc h, strLen_append, strLen_append]
  have e1 : (("'" : String) : Str).length = 1 := rfl
  have := h.le
  omega
theorem t_nm {z : Str} (h : Nm z) : tiny (.str z) = some (.str z) := if_pos (Nat.le_trans (repr_abc_len h) (by decide))
theorem t_big {i : Int} (h : i.natAbs < 10 ^ 70) : tiny (.int i) = some (.int i) := if_pos h
/-- a number of not too many digits -/
def Bg (i : Int) : Prop := i.natAbs < 10 ^ 64
theorem Bg.add {i j : Int} (h : Bg i) (k : Bg j) : (i + j).natAbs < 10 ^ 70 := by
  unfold Bg at *
  have e : (10 ^ 70 : Nat) = 1000000 * 10 ^ 64 := by decide +kernel
  generalize (10 ^ 64 : Nat) = W at *
  generalize (10 ^ 70 : Nat) = Z at *
  omega
theorem Bg.small {i : Int} (h : Bg i) : i.natAbs < 10 ^ 70 := by
  have := Bg.add h (show Bg 0 by unfold Bg; decide +kernel)
  rw [Int.add_zero] at this
  exact this
theorem tbl_data {n : Nat} {m : Tb} (h : Tbl Bg n m) : ∃ ds, Paired TinyP (kv m) ds := by
  have : ∀ l : Tb, (∀ p ∈ l, Nm p.1) → (∀ p ∈ l, Bg p.2) → ∃ ds, Paired TinyP (kv l) ds := by
    intro l
    induction l with
    | nil => exact fun _ _ => ⟨[], .nil⟩
    | cons p r ih =>
      intro h1 h2
      obtain ⟨ds, hd⟩ := ih (fun q hq => h1 q (.tail _ hq)) fun q hq => h2 q (.tail _ hq)
      exact ⟨(.str p.1, .int p.2) :: ds, .cons ⟨t_nm (h1 p (.head _)), t_big (h2 p (.head _)).small⟩ hd⟩
  exact this m h.ok.nm h.sn
theorem tup_data {K : PySem.W.Frag} {H : Hp} {a : Addr} {zs : List Str} (h : H a = some (.tup (zs.map V.str))) (nm : ∀ z ∈ zs, Nm z) (le : zs.length ≤ 40) : Rdr K H 1 (.ref a) (.tuple (zs.map PyData.str)) := by
  refine Rdr.tup (.inl (.inl h)) (by rw [List.length_map]; exact le) ?_
  have : ∀ l : List Str, (∀ z ∈ l, Nm z) → Paired (Rdr K H 0) (l.map V.str) (l.map PyData.str) := by
    intro l
    induction l with
    | nil => exact fun _ => .nil
    | cons z r ih => exact fun h1 => .cons (t_nm (h1 z (.head _))) (ih fun y hy => h1 y (.tail _ hy))
  exact this zs nm

/-! ### the text of a table -/
def pd (m : Tb) : List (PyData × PyData) := m.map fun p => (PyData.str p.1, PyData.int p.2)
theorem pd_data : ∀ {m : Tb}, (∀ p ∈ m, Nm p.1) → (∀ p ∈ m, Bg p.2) → Paired TinyP (kv m) (pd m)
  | [], _, _ => .nil
  | p :: r, h1, h2 => .cons ⟨t_nm (h1 p (.head _)), t_big (h2 p (.head _)).small⟩ (pd_data (fun q m => h1 q (.tail _ m)) fun q m => h2 q (.tail _ m))
/-- how a Run is told -/
def rTx (m : Tb) : Str := ("Run(" : Str) ++ (PyData.dict (pd m)).shown ++ (")" : Str)
def row1 (p : Str × Int) : Str := reprText p.1 ++ ((": " : String) : Str) ++ Str.ofString (toString p.2)
theorem shown_pd : ∀ m : Tb, PyData.shownKv (pd m) = m.map row1
  | [] => rfl
  | p :: r => by
    show (_ :: PyData.shownKv (pd r)) = _
    rw [shown_pd r]
    rfl
theorem pd_len {m : Tb} (nm : ∀ p ∈ m, Nm p.1) (bg : ∀ p ∈ m, Bg p.2) (le : m.length ≤ 40) : (PyData.dict (pd m)).shown.length ≤ 9000 := by
  obtain ⟨_, _, o3⟩ := dict_ok (pd_data nm bg)
  have l1 := dictLen (PyData.shownKv (pd m))
  show (dictText (PyData.shownKv (pd m))).length ≤ _
  rw [kv_len] at o3
  omega
section
variable {P : Program} {w : World} {K : PySem.W.Frag} {mg : Str → Option Value} {base : Heap} {f cR cB : Addr} {fd : FuncData}
def spReprR (cR : Addr) : Sp := fun vs H Q _ => ∃ (a e : Addr) (m : Tb), vs = [.ref a] ∧ RAt cR H a e m ∧ (∀ p ∈ m, Nm p.1) ∧ (∀ p ∈ m, Bg p.2) ∧ m.length ≤ 8 ∧ Q (.str (rTx m)) H
theorem scReprR : FnScope ["self"] ["self"] (defScope m_Run___repr__) := ⟨rfl, rfl, rfl, by decide +kernel, rfl, by decide +kernel, by decide +kernel⟩
theorem ok_reprR (T : RunF K cR cB) (F : Fun K "__repr__" "Run.__repr__" m_Run___repr__ f fd) : FnG P w K mg base 2 f fd ["self"] (spReprR cR) := by
  refine Fun.okG F scReprR (fun {vs H Q E} h => ?_) (fun cdv A outer s H vs Q E hG hr h => ?_)
  · obtain ⟨_, _, _, rfl, _⟩ := h
    rfl
  · obtain ⟨a, e, m, rfl, ra, nm, bg, le, go⟩ := h
    have hu := hr.units
    obtain ⟨dx, hi⟩ := ra.ins
    refine ⟨_, pss_one (ps_ret (pe_joined (.cons pe_str (.cons (pe_fmtRD hG hu (pe_fld (pv 0) rfl)) (.cons pe_str .nil))))), ?_⟩
    have ln := pd_len nm bg (by omega)
    have e1 : (Str.empty ++ ("Run(" : Str)).length = 4 := rfl
    have e2 : ((")" : String) : Str).length = 1 := rfl
    have sz : (9999 : Nat) ≤ sizeLine := by decide
    refine ⟨_, rfl, by rw [e1]; omega, _, rfl, a, cR, dx, _, _, rfl, hi, T.own.cl, T.nT, rfl, e, kv m, pd m, rfl, ra.tab, by rw [kv_len]; omega, pd_data nm bg, _, rfl, ?_, _, rfl, ?_, ?_⟩
    · rw [strLen_append, e1]
      omega
    · rw [strLen_append, strLen_append, e1, e2]
      omega
    · exact go
end
end E10

set_option Elab.async false
set_option linter.all false
set_option maxRecDepth 100000
set_option maxHeartbeats 8000000
namespace E10
open L2 PySem PySem.Spec PyProof.Rows
theorem srt_eq {a b : List Str} (p : a.Perm b) : srt a = srt b := uniq_sorted (srt_pw a) (srt_pw b) ((srt_perm a).trans (p.trans (srt_perm b).symm))
/-- tables of the same names and numbers, in order -/
theorem ord_ext {u v : Tb} (p : (keys u).Perm (keys v)) (h : ∀ z ∈ keys v, g0 u z = g0 v z) : ord u = ord v := by
  unfold ord
  rw [srt_eq p]
  exact List.map_congr_left fun z hz => by rw [h z (srt_mem.mp hz)]
theorem keys_putIn {m : Tb} {z : Str} {i : Int} (h : z ∈ keys m) : keys (put m z i) = keys m := by rw [keys_put, if_pos h]
theorem Okt.putIn {m : Tb} (h : Okt m) {z : Str} (hz : z ∈ keys m) (i : Int) : Okt (put m z i) := ⟨fun p hp => by
  have : p.1 ∈ keys (E10.put m z i) := List.mem_map.mpr ⟨p, hp, rfl⟩
  rw [keys_putIn hz] at this
  exact h.key this, by rw [keys_putIn hz]; exact h.nd⟩
theorem Okt.shf' {m : Tb} (h : Okt m) (n : Int) : Okt (shf m n) := by
  refine ⟨fun p hp => ?_, by rw [keys_shf]; exact h.nd⟩
  obtain ⟨q, hq, rfl⟩ := List.mem_map.mp hp
  exact h.nm q hq
theorem star_kv {m : Tb} (nd : (keys m).Nodup) (z : Str) (n : Int) : mergeK (mergeK [] (kv m)) (mergeK [] [(.inr z, .int n)]) = kv (put m z n) := by
  rw [show mergeK [] (kv m) = kv (ofRows [] m) from mergeK_kv m [], ofRows_id nd]
  show mergeK (kv m) (kv (ofRows [] [(z, n)])) = _
  rw [mergeK_kv]
  rfl
section
variable {P : Program} {w : World} {K : PySem.W.Frag} {mg : Str → Option Value} {base : Heap} {f cR cB : Addr} {fd : FuncData}
/-- run + n -/
def spPlusR (cR : Addr) (op : Int → Int) : Sp := fun vs H Q _ => ∃ (a e : Addr) (m : Tb) (n : Int), vs = [.ref a, .int n] ∧ RAt cR H a e m ∧ Okt m ∧ 0 < m.length ∧ m.length ≤ 8 ∧ ∀ x e' H', H x = none → H e' = none → Same H H' → RAt cR H' x e' (ord (shf m (op n))) → Q (.ref x) H'
theorem scAddR : FnScope ["self", "other"] ["self", "other"] (defScope m_Run___add__) := ⟨rfl, rfl, rfl, by decide +kernel, rfl, by decide +kernel, by decide +kernel⟩
theorem ok_addR (T : RunF K cR cB) (M : MkR P w K mg base cR) (DS : Def P w K mg base "check_shift" ["value"] 2 spShift) (DM : Def P w K mg base "moved" ["table", "number"] 1 spMoved) (F : Fun K "__add__" "Run.__add__" m_Run___add__ f fd) : FnOk P w K mg base CX0 6 f fd ["self", "other"] (spPlusR cR id) := by
  refine F.ok scAddR (fun vs H Q E h => ?_) (fun cdv A outer s H vs Q E hr h => ?_)
  · obtain ⟨_, _, _, _, rfl, _⟩ := h
    rfl
  · obtain ⟨a, e, m, n, rfl, ea, o, pos, le, go⟩ := h
    obtain ⟨dx, hi⟩ := ea.ins
    refine ⟨_, pss_cons (ps_expr (callD DS (hr.mono (by decide)) rfl (pa_cons (pv 1) pa_nil)))
      (pss_one (ps_ret (mkR M hr rfl (pa_cons (callD DM (hr.mono (by decide)) rfl (pa_cons (pe_fld (pv 0) rfl) (pa_cons (pv 1) pa_nil))) pa_nil)))), ?_⟩
    refine ⟨_, rfl, n, rfl, ?_⟩
    refine ⟨_, rfl, a, cR, dx, _, _, rfl, hi, T.own.cl, T.nT, rfl, _, rfl, e, m, n, rfl, ea.tab, o.nd, by omega, fun p H1 np s1 hp => ?_⟩
    refine ⟨p, shf m n, rfl, hp, o.shf' n, by rw [shf_len]; exact pos, by rw [shf_len]; exact le, fun x e2 H2 nx ne2 s2 ea2 => ?_⟩
    exact go x e2 H2 (s1.free nx) (s1.free ne2) (s1.trans s2) ea2
structure AddR (P : Program) (w : World) (K : PySem.W.Frag) (mg : Str → Option Value) (base : Heap) (cR : Addr) : Prop where
  ex : ∃ (f : Addr) (fd : FuncData), FnG P w K mg base 6 f fd ["self", "other"] (spPlusR cR id) ∧ Has K cR f (PySem.dunder "add") ∧ Binds K fd ["self", "other"] []
  r : ∃ g : Addr, PySem.W.findIn K (.ref cR) (dunderR "add") = some (some (.ref g))
  sub : PySem.W.subIn K (.type "int") (.ref cR) = some false
  sub' : PySem.W.subIn K (.ref cR) (.type "int") = some false
theorem op_plusR {X : Cx} {cR cB : Addr} (T : RunF X.K cR cB) (A : AddR X.prog X.w X.K X.mg X.base cR) (hG : X.A.guards = some []) (room : Room 6 X.A) : OpR X (binaryOp .Add) (rOwnI cR (spPlusR cR id)) := by
  obtain ⟨f, fd, F, h, b⟩ := A.ex
  obtain ⟨g, hr⟩ := A.r
  exact op_ownI (op := .Add) F hG room b T.own.first h hr (.inr ⟨g, rfl⟩) int_add int_radd A.sub
structure RaddR (P : Program) (w : World) (K : PySem.W.Frag) (mg : Str → Option Value) (base : Heap) (cR : Addr) : Prop where
  ex : ∃ (f : Addr) (fd : FuncData), FnG P w K mg base 7 f fd ["self", "other"] (spPlusR cR id) ∧ Has K cR f (dunderR "add") ∧ Binds K fd ["self", "other"] []
theorem op_raddR {X : Cx} {cR cB : Addr} (T : RunF X.K cR cB) (A : AddR X.prog X.w X.K X.mg X.base cR) (R : RaddR X.prog X.w X.K X.mg X.base cR) (hG : X.A.guards = some []) (room : Room 7 X.A) : OpR X (binaryOp .Add) (rIOwn cR (spPlusR cR id)) := by
  obtain ⟨_, _, _, h, _⟩ := A.ex
  obtain ⟨f, fd, F, hh, b⟩ := R.ex
  exact op_iown F hG room b T.own.first h.at_ hh int_add int_radd rfl A.sub'
structure SubR (P : Program) (w : World) (K : PySem.W.Frag) (mg : Str → Option Value) (base : Heap) (cR : Addr) : Prop where
  ex : ∃ (f : Addr) (fd : FuncData), FnG P w K mg base 7 f fd ["self", "other"] (spPlusR cR (- ·)) ∧ Has K cR f (PySem.dunder "sub") ∧ Binds K fd ["self", "other"] []
  r : PySem.W.findIn K (.ref cR) (dunderR "sub") = some none
theorem op_minusR {X : Cx} {cR cB : Addr} (T : RunF X.K cR cB) (A : AddR X.prog X.w X.K X.mg X.base cR) (S : SubR X.prog X.w X.K X.mg X.base cR) (hG : X.A.guards = some []) (room : Room 7 X.A) : OpR X (binaryOp .Sub) (rOwnI cR (spPlusR cR (- ·))) := by
  obtain ⟨f, fd, F, h, b⟩ := S.ex
  exact op_ownI (op := .Sub) F hG room b T.own.first h S.r (.inl rfl) int_sub int_rsub A.sub
theorem scRaddR : FnScope ["self", "other"] ["self", "other"] (defScope m_Run___radd__) := ⟨rfl, rfl, rfl, by decide +kernel, rfl, by decide +kernel, by decide +kernel⟩
theorem ok_raddR (T : RunF K cR cB) (A : AddR P w K mg base cR) (F : Fun K "__radd__" "Run.__radd__" m_Run___radd__ f fd) : FnG P w K mg base 7 f fd ["self", "other"] (spPlusR cR id) := by
  refine Fun.okG F scRaddR (fun {vs H Q E} h => ?_) (fun cdv Ar outer s H vs Q E hG hr h => ?_)
  · obtain ⟨_, _, _, _, rfl, _⟩ := h
    rfl
  · obtain ⟨a, e, m, n, rfl, ea, r⟩ := h
    have ⟨dx, hi⟩ := ea.ins
    exact ⟨_, pss_one (ps_ret (pe_op (op_plusR T A hG hr) (pv 0) (pv 1))), ⟨_, rfl, _, rfl, a, dx, _, n, rfl, rfl, hi, a, e, m, n, rfl, ea, r⟩⟩
theorem scSubR : FnScope ["self", "other"] ["self", "other"] (defScope m_Run___sub__) := ⟨rfl, rfl, rfl, by decide +kernel, rfl, by decide +kernel, by decide +kernel⟩
theorem ok_subR (T : RunF K cR cB) (A : AddR P w K mg base cR) (DS : Def P w K mg base "check_shift" ["value"] 2 spShift) (F : Fun K "__sub__" "Run.__sub__" m_Run___sub__ f fd) : FnG P w K mg base 7 f fd ["self", "other"] (spPlusR cR (- ·)) := by
  refine Fun.okG F scSubR (fun {vs H Q E} h => ?_) (fun cdv Ar outer s H vs Q E hG hr h => ?_)
  · obtain ⟨_, _, _, _, rfl, _⟩ := h
    rfl
  · obtain ⟨a, e, m, n, rfl, ea, r⟩ := h
    have ⟨dx, hi⟩ := ea.ins
    refine ⟨_, pss_cons (ps_expr (callD DS (hr.mono (by decide)) rfl (pa_cons (pv 1) pa_nil))) (pss_one (ps_ret (pe_op (op_plusR T A hG hr) (pv 0) (pe_un un_neg (pv 1))))), ?_⟩
    refine ⟨_, rfl, n, rfl, ?_⟩
    exact ⟨_, rfl, _, rfl, n, rfl, a, dx, _, -n, rfl, rfl, hi, a, e, m, -n, rfl, ea, r⟩
end
end E10

set_option Elab.async false
set_option linter.all false
set_option maxRecDepth 100000
set_option maxHeartbeats 8000000
namespace E10
open L2 PySem PySem.Spec PyProof.Rows
/-- both tables, name by name -/
def both (op : Int → Int → Int) (m t : Tb) : Tb := (keys m).map fun z => (z, op (g0 m z) (g0 t z))
theorem keys_both (op : Int → Int → Int) (m t : Tb) : keys (both op m t) = keys m := by
  unfold both keys
  rw [List.map_map]
  exact List.map_id' _
theorem both_len (op : Int → Int → Int) (m t : Tb) : (both op m t).length = m.length := by
  unfold both
  rw [List.length_map, keys_len]
theorem Okt.both {m : Tb} (h : Okt m) (op : Int → Int → Int) (t : Tb) : Okt (both op m t) := ⟨fun p hp => by
  obtain ⟨z, mz, rfl⟩ := List.mem_map.mp hp
  exact h.key mz, by rw [keys_both]; exact h.nd⟩
def mn2 (i j : Int) : Int := if j < i then j else i
def mx2 (i j : Int) : Int := if j > i then j else i
def rMin2 : List V → Hp → VK → Prop := fun xs H Q => ∃ i j, xs = [.int i, .int j] ∧ Q (.int (if j < i then j else i)) H
def rMax2 : List V → Hp → VK → Prop := fun xs H Q => ∃ i j, xs = [.int i, .int j] ∧ Q (.int (if j > i then j else i)) H
section
variable {P : Program} {w : World} {K : PySem.W.Frag} {mg : Str → Option Value} {base : Heap} {f cR cB : Addr} {fd : FuncData}
def spBothR (cR : Addr) (op : Int → Int → Int) : Sp := fun vs H Q _ => ∃ (a e b c : Addr) (m t : Tb), vs = [.ref a, .ref b] ∧ RAt cR H a e m ∧ RAt cR H b c t ∧ keys m = keys t ∧ Okt m ∧ 0 < m.length ∧ m.length ≤ 8 ∧ ∀ x e' H', H x = none → H e' = none → Same H H' → RAt cR H' x e' (ord (both op m t)) → Q (.ref x) H'

abbrev nand : List Str := ["self", "other", "moment"]
theorem scand : FnScope nand ["self", "other"] (defScope m_Run___and__) := ⟨rfl, rfl, rfl, by decide +kernel, rfl, by decide +kernel, by decide +kernel⟩
theorem ok_and (N : Nam mg) (T : RunF K cR cB) (M : MkR P w K mg base cR) (PM : PropR P w K mg base cR) (gR : mg "Run" = some (.ref cR)) (DS : Def P w K mg base "check_same_moments" ["one", "other"] 1 spSameM) (F : Fun K "__and__" "Run.__and__" m_Run___and__ f fd) : FnOk P w K mg base CX0 6 f fd ["self", "other"] (spBothR cR mn2) := by
  refine F.ok scand (fun vs H Q E h => ?_) (fun cdv A outer s H vs Q E hr h => ?_)
  · obtain ⟨_, _, _, _, _, _, rfl, _⟩ := h
    rfl
  · obtain ⟨a, e, b, c, m, t, rfl, ra, rb, ke, o, pos, le, go⟩ := h
    have hu := hr.units
    obtain ⟨pM, fM, fdM, hM, FM, bM⟩ := PM.ex
    refine ⟨_, pss_cons (ps_if (pt_not (pt_val (pe_callB call_isi rfl N.isi boot_isi (pa_cons (pv 1) (pa_cons (pgC rfl gR) pa_nil))))) (pss_one ps_never) pss_nil)
      (pss_cons (ps_expr (callD DS (hr.mono (by decide)) rfl (pa_cons (pe_prop (pv 0) T.own.cl hM FM (hr.mono (by decide)) bM .nil pass0 rfl) (pa_cons (pe_prop (pv 1) T.own.cl hM FM (hr.mono (by decide)) bM .nil pass0 rfl) pa_nil))))
      (pss_one (ps_ret (mkR M hr rfl (pa_cons (pe_lock (pe_dc (own := [("moment", 2)]) (g := gName 2) (tt := tYes) (tk := tVar 2) (tv := tCB rMin2 (tCons (tDGet (tFld K (tVar 0) "_times") (tVar 2)) (tCons (tDGet (tFld K (tVar 1) "_times") (tVar 2)) tNil))) rfl scand.nd (pi_keys (pe_fld (pv 0) rfl))
        (blkOk_by (own := [("moment", 2)]) (N := nand) (sc := defScope m_Run___and__) (by decide +kernel)) (fun _ _ _ _ _ => pg_name (i := 2) scand.nd rfl (Or.inl rfl)) (fun _ _ _ _ _ => pts_nil)
        (fun _ _ _ _ _ => pv 2) (fun _ _ _ _ _ => pe_callB (call_min2 rfl) rfl N.mn PyProof.Rows.boot_min (pa_cons (pe_dget (u1 hu) (pe_fld (pv 0) rfl) (pv 2) (fun _ _ => rfl)) (pa_cons (pe_dget (u1 hu) (pe_fld (pv 1) rfl) (pv 2) (fun _ _ => rfl)) pa_nil))))) pa_nil))))), ?_⟩
    obtain ⟨dx, hi⟩ := ra.ins
    obtain ⟨dy, hb⟩ := rb.ins
    refine ⟨_, rfl, _, _, _, _, _, rfl, .own _, T.own.ty hb, T.own.me, true, rfl, ?_⟩
    refine ⟨_, rfl, a, dx, _, rfl, hi, a, e, m, rfl, ra, fun p H1 np s1 hp => ?_⟩
    refine ⟨_, rfl, b, dy, _, rfl, s1 _ _ hb, b, c, t, rfl, rb.sm s1, fun q H2 nq s2 hq => ?_⟩
    rw [← ke] at hq
    refine ⟨p, q, keys m, rfl, s2 _ _ hp, hq, fun z hz => (o.key hz).strOk, ?_⟩
    have s02 := s1.trans s2
    have ra2 := ra.sm s02
    have rb2 := rb.sm s02
    have hi2 := s02 _ _ hi
    have hb2 := s02 _ _ hb
    refine ⟨e, _, ra2.tab, True.intro, fun od => ?_⟩
    have hF : upd H2 e (.frz od (.dK (kv m))) e = some (.frz od (.dK (kv m))) := upd_same
    have hiF : upd H2 e (.frz od (.dK (kv m))) a = some (.ins cR dx [("_times", .ref e)]) := (upd_ne ra2.ne).trans hi2
    have be : b ≠ e := by
      rintro rfl
      have := ra2.tab
      unfold Tab at this
      rw [hb2] at this
      cases this
    have hbF : upd H2 e (.frz od (.dK (kv m))) b = some (.ins cR dy [("_times", .ref c)]) := (upd_ne be).trans hb2
    have rdT : ∀ H', Same (upd H2 e (.frz od (.dK (kv m)))) H' → Rd H' c (.dK (kv t)) := fun H' sm => by
      by_cases ce : c = e
      · subst ce
        have q1 : kv m = kv t := by
          exact HO.dK.inj (Option.some.inj ((show H2 c = _ from ra2.tab).symm.trans (show H2 c = _ from rb2.tab)))
        rw [← q1]
        exact .inr ⟨od, sm _ _ hF⟩
      · exact .inl (sm _ _ ((upd_ne ce).trans rb2.tab))
    refine ⟨_, rfl, a, cR, dx, _, _, rfl, hiF, T.own.cl, T.nT, rfl, e, od, rfl, .inl ⟨kv m, hF, fun D nD => ?_⟩⟩
    refine dc_it (walk_keys (kvs := kv m)) (fun i H' => Same (upd H2 e (.frz od (.dK (kv m)))) H' ∧ H' D = some (.dK (kv (((keys m).take i).map fun z => (z, mn2 (g0 m z) (g0 t z)))))) ⟨new_same nD, upd_same⟩ (fun i H' _ h => h.1 _ _ hF) ?_ ?_
    · rintro i x H' H'' lt ⟨sm, hD⟩ ⟨rfl, k, u, hk, rfl⟩
      refine ⟨rfl, ?_⟩
      obtain ⟨z, v, hm, rfl, rfl⟩ := kv_at hk
      have k1 := at_key hm
      refine ⟨_, rfl, _, rfl, a, cR, dx, _, _, rfl, sm _ _ hiF, T.own.cl, T.nT, rfl, _, rfl, e, _, rfl, DGet.tab (.inr ⟨od, sm _ _ hF⟩) k1, ?_⟩
      refine ⟨_, rfl, b, cR, dy, _, _, rfl, sm _ _ hbF, T.own.cl, T.nT, rfl, _, rfl, c, _, rfl, DGet.tab (rdT _ sm) (ke ▸ k1), ?_⟩
      refine ⟨_, _, rfl, _, .inr z, rfl, hD, ?_, fun c' u e' => ?_, ?_⟩
      · rw [kv_len, List.length_map, List.length_take, keys_len]
        exact Nat.lt_of_le_of_lt (Nat.le_trans (Nat.min_le_right _ _) le) (by decide)
      · rw [upd_ne (ne_of_none e' nD)]
        exact sm _ _ e'
      · rw [upd_same]
        exact congrArg (fun q => some (HO.dK q)) (take_put (F := fun z => mn2 (g0 m z) (g0 t z)) o.nd (keys_at hm))
    · rintro H3 ⟨sm, hD⟩
      rw [kv_len, ← keys_len, List.take_length] at hD
      refine ⟨sm _ _ hF, ?_⟩
      have De : D ≠ e := (ne_of_none hF nD).symm
      have s3 := locked ra2.tab sm
      refine ⟨D, both mn2 m t, rfl, (upd_ne De).trans hD, o.both _ _, by rw [both_len]; exact pos, by rw [both_len]; exact le, fun x e' H4 nx ne' s4 r4 => ?_⟩
      have s03 := s02.trans s3
      exact go x e' H4 (s03.free nx) (s03.free ne') (s03.trans s4) r4
abbrev nor_ : List Str := ["self", "other", "moment"]
theorem scor_ : FnScope nor_ ["self", "other"] (defScope m_Run___or__) := ⟨rfl, rfl, rfl, by decide +kernel, rfl, by decide +kernel, by decide +kernel⟩
theorem ok_or_ (N : Nam mg) (T : RunF K cR cB) (M : MkR P w K mg base cR) (PM : PropR P w K mg base cR) (gR : mg "Run" = some (.ref cR)) (DS : Def P w K mg base "check_same_moments" ["one", "other"] 1 spSameM) (F : Fun K "__or__" "Run.__or__" m_Run___or__ f fd) : FnOk P w K mg base CX0 6 f fd ["self", "other"] (spBothR cR mx2) := by
  refine F.ok scor_ (fun vs H Q E h => ?_) (fun cdv A outer s H vs Q E hr h => ?_)
  · obtain ⟨_, _, _, _, _, _, rfl, _⟩ := h
    rfl
  · obtain ⟨a, e, b, c, m, t, rfl, ra, rb, ke, o, pos, le, go⟩ := h
    have hu := hr.units
    obtain ⟨pM, fM, fdM, hM, FM, bM⟩ := PM.ex
    refine ⟨_, pss_cons (ps_if (pt_not (pt_val (pe_callB call_isi rfl N.isi boot_isi (pa_cons (pv 1) (pa_cons (pgC rfl gR) pa_nil))))) (pss_one ps_never) pss_nil)
      (pss_cons (ps_expr (callD DS (hr.mono (by decide)) rfl (pa_cons (pe_prop (pv 0) T.own.cl hM FM (hr.mono (by decide)) bM .nil pass0 rfl) (pa_cons (pe_prop (pv 1) T.own.cl hM FM (hr.mono (by decide)) bM .nil pass0 rfl) pa_nil))))
      (pss_one (ps_ret (mkR M hr rfl (pa_cons (pe_lock (pe_dc (own := [("moment", 2)]) (g := gName 2) (tt := tYes) (tk := tVar 2) (tv := tCB rMax2 (tCons (tDGet (tFld K (tVar 0) "_times") (tVar 2)) (tCons (tDGet (tFld K (tVar 1) "_times") (tVar 2)) tNil))) rfl scor_.nd (pi_keys (pe_fld (pv 0) rfl))
        (blkOk_by (own := [("moment", 2)]) (N := nor_) (sc := defScope m_Run___or__) (by decide +kernel)) (fun _ _ _ _ _ => pg_name (i := 2) scor_.nd rfl (Or.inl rfl)) (fun _ _ _ _ _ => pts_nil)
        (fun _ _ _ _ _ => pv 2) (fun _ _ _ _ _ => pe_callB (call_max2 rfl) rfl N.mx PyProof.Rows.boot_max (pa_cons (pe_dget (u1 hu) (pe_fld (pv 0) rfl) (pv 2) (fun _ _ => rfl)) (pa_cons (pe_dget (u1 hu) (pe_fld (pv 1) rfl) (pv 2) (fun _ _ => rfl)) pa_nil))))) pa_nil))))), ?_⟩
    obtain ⟨dx, hi⟩ := ra.ins
    obtain ⟨dy, hb⟩ := rb.ins
    refine ⟨_, rfl, _, _, _, _, _, rfl, .own _, T.own.ty hb, T.own.me, true, rfl, ?_⟩
    refine ⟨_, rfl, a, dx, _, rfl, hi, a, e, m, rfl, ra, fun p H1 np s1 hp => ?_⟩
    refine ⟨_, rfl, b, dy, _, rfl, s1 _ _ hb, b, c, t, rfl, rb.sm s1, fun q H2 nq s2 hq => ?_⟩
    rw [← ke] at hq
    refine ⟨p, q, keys m, rfl, s2 _ _ hp, hq, fun z hz => (o.key hz).strOk, ?_⟩
    have s02 := s1.trans s2
    have ra2 := ra.sm s02
    have rb2 := rb.sm s02
    have hi2 := s02 _ _ hi
    have hb2 := s02 _ _ hb
    refine ⟨e, _, ra2.tab, True.intro, fun od => ?_⟩
    have hF : upd H2 e (.frz od (.dK (kv m))) e = some (.frz od (.dK (kv m))) := upd_same
    have hiF : upd H2 e (.frz od (.dK (kv m))) a = some (.ins cR dx [("_times", .ref e)]) := (upd_ne ra2.ne).trans hi2
    have be : b ≠ e := by
      rintro rfl
      have := ra2.tab
      unfold Tab at this
      rw [hb2] at this
      cases this
    have hbF : upd H2 e (.frz od (.dK (kv m))) b = some (.ins cR dy [("_times", .ref c)]) := (upd_ne be).trans hb2
    have rdT : ∀ H', Same (upd H2 e (.frz od (.dK (kv m)))) H' → Rd H' c (.dK (kv t)) := fun H' sm => by
      by_cases ce : c = e
      · subst ce
        have q1 : kv m = kv t := by
          exact HO.dK.inj (Option.some.inj ((show H2 c = _ from ra2.tab).symm.trans (show H2 c = _ from rb2.tab)))
        rw [← q1]
        exact .inr ⟨od, sm _ _ hF⟩
      · exact .inl (sm _ _ ((upd_ne ce).trans rb2.tab))
    refine ⟨_, rfl, a, cR, dx, _, _, rfl, hiF, T.own.cl, T.nT, rfl, e, od, rfl, .inl ⟨kv m, hF, fun D nD => ?_⟩⟩
    refine dc_it (walk_keys (kvs := kv m)) (fun i H' => Same (upd H2 e (.frz od (.dK (kv m)))) H' ∧ H' D = some (.dK (kv (((keys m).take i).map fun z => (z, mx2 (g0 m z) (g0 t z)))))) ⟨new_same nD, upd_same⟩ (fun i H' _ h => h.1 _ _ hF) ?_ ?_
    · rintro i x H' H'' lt ⟨sm, hD⟩ ⟨rfl, k, u, hk, rfl⟩
      refine ⟨rfl, ?_⟩
      obtain ⟨z, v, hm, rfl, rfl⟩ := kv_at hk
      have k1 := at_key hm
      refine ⟨_, rfl, _, rfl, a, cR, dx, _, _, rfl, sm _ _ hiF, T.own.cl, T.nT, rfl, _, rfl, e, _, rfl, DGet.tab (.inr ⟨od, sm _ _ hF⟩) k1, ?_⟩
      refine ⟨_, rfl, b, cR, dy, _, _, rfl, sm _ _ hbF, T.own.cl, T.nT, rfl, _, rfl, c, _, rfl, DGet.tab (rdT _ sm) (ke ▸ k1), ?_⟩
      refine ⟨_, _, rfl, _, .inr z, rfl, hD, ?_, fun c' u e' => ?_, ?_⟩
      · rw [kv_len, List.length_map, List.length_take, keys_len]
        exact Nat.lt_of_le_of_lt (Nat.le_trans (Nat.min_le_right _ _) le) (by decide)
      · rw [upd_ne (ne_of_none e' nD)]
        exact sm _ _ e'
      · rw [upd_same]
        exact congrArg (fun q => some (HO.dK q)) (take_put (F := fun z => mx2 (g0 m z) (g0 t z)) o.nd (keys_at hm))
    · rintro H3 ⟨sm, hD⟩
      rw [kv_len, ← keys_len, List.take_length] at hD
      refine ⟨sm _ _ hF, ?_⟩
      have De : D ≠ e := (ne_of_none hF nD).symm
      have s3 := locked ra2.tab sm
      refine ⟨D, both mx2 m t, rfl, (upd_ne De).trans hD, o.both _ _, by rw [both_len]; exact pos, by rw [both_len]; exact le, fun x e' H4 nx ne' s4 r4 => ?_⟩
      have s03 := s02.trans s3
      exact go x e' H4 (s03.free nx) (s03.free ne') (s03.trans s4) r4
/-- run & run, run | run -/
structure OpO (P : Program) (w : World) (K : PySem.W.Frag) (mg : Str → Option Value) (base : Heap) (cR : Addr) (nm : Str) (op : Int → Int → Int) : Prop where
  ex : ∃ (f : Addr) (fd : FuncData), FnG P w K mg base 6 f fd ["self", "other"] (spBothR cR op) ∧ Has K cR f nm ∧ Binds K fd ["self", "other"] []
theorem op_andR {X : Cx} {cR cB : Addr} (T : RunF X.K cR cB) (A : OpO X.prog X.w X.K X.mg X.base cR (PySem.dunder Operator.BitAnd.info.2) mn2) (hG : X.A.guards = some []) (room : Room 6 X.A) : OpR X (binaryOp .BitAnd) (rOwnO cR (spBothR cR mn2)) := by
  obtain ⟨f, fd, F, h, b⟩ := A.ex
  exact op_ownO (op := .BitAnd) F hG room b T.own.first h
theorem op_orR {X : Cx} {cR cB : Addr} (T : RunF X.K cR cB) (A : OpO X.prog X.w X.K X.mg X.base cR (PySem.dunder Operator.BitOr.info.2) mx2) (hG : X.A.guards = some []) (room : Room 6 X.A) : OpR X (binaryOp .BitOr) (rOwnO cR (spBothR cR mx2)) := by
  obtain ⟨f, fd, F, h, b⟩ := A.ex
  exact op_ownO (op := .BitOr) F hG room b T.own.first h
end
end E10

set_option Elab.async false
set_option linter.all false
set_option maxRecDepth 100000
set_option maxHeartbeats 8000000
namespace E10
open L2 PySem PySem.Spec PyProof.Rows
/-- the twelve names -/
def twelve : List Str := ["a", "ab", "b", "bus", "moments", "zzzzzzzz", "q", "rule", "abcdefgh", "none", "c", "ann"]
theorem nm_of {z : Str} (h : (decide (0 < z.length) && decide (z.length ≤ 8) && z.cps.toList.all fun c => decide (97 ≤ c) && decide (c ≤ 122)) = true) : Nm z := by
  rw [Bool.and_eq_true, Bool.and_eq_true, List.all_eq_true] at h
  refine ⟨of_decide_eq_true h.1.1, of_decide_eq_true h.1.2, fun c m => ?_⟩
  have := h.2 c m
  rw [Bool.and_eq_true] at this
  exact ⟨of_decide_eq_true this.1, of_decide_eq_true this.2⟩
theorem twelve_nm : ∀ z ∈ twelve, Nm z := by
  have : twelve.all (fun z => decide (0 < z.length) && decide (z.length ≤ 8) && z.cps.toList.all fun c => decide (97 ≤ c) && decide (c ≤ 122)) = true := by decide +kernel
  exact fun z m => nm_of (List.all_eq_true.mp this z m)
theorem twelve_nd : twelve.Nodup := by decide +kernel
theorem twelve_d : ("d" : Str) ∉ twelve := by decide +kernel
theorem erase_map {α β : Type} (f : α → β) : ∀ (l : List α) (k : Nat), (l.map f).eraseIdx k = (l.eraseIdx k).map f
  | [], _ => rfl
  | _ :: _, 0 => rfl
  | x :: l, k + 1 => congrArg (f x :: ·) (erase_map f l k)
theorem erase_perm {α : Type} : ∀ (l : List α) (k : Nat) (h : k < l.length), (l[k] :: l.eraseIdx k).Perm l
  | _ :: _, 0, _ => List.Perm.refl _
  | x :: l, k + 1, h => (List.Perm.swap x (l[k]'(Nat.lt_of_succ_lt_succ h)) (l.eraseIdx k)).trans ((erase_perm l k (Nat.lt_of_succ_lt_succ h)).cons x)
/-- numbers that are not too great, by how many went into them -/
def Bk (k : Nat) (i : Int) : Prop := i.natAbs ≤ k * 10 ^ 51
theorem Bk.add {k l : Nat} {i j : Int} (a : Bk k i) (b : Bk l j) : Bk (k + l) (i + j) := by
  unfold Bk at *
  rw [Nat.add_mul]
  omega
theorem Bk.neg {k : Nat} {i : Int} (a : Bk k i) : Bk k (-i) := by
  unfold Bk at *
  omega
theorem Bk.sub {k l : Nat} {i j : Int} (a : Bk k i) (b : Bk l j) : Bk (k + l) (i - j) := a.add b.neg
theorem Bk.mono {k l : Nat} {i : Int} (a : Bk k i) (h : k ≤ l) : Bk l i := Nat.le_trans a (Nat.mul_le_mul_right _ h)
theorem Bk.bg {k : Nat} {i : Int} (a : Bk k i) (h : k ≤ 1000000) : Bg i := by
  unfold Bk at a
  unfold Bg
  have e : 1000000 * 10 ^ 51 < 10 ^ 64 := by decide +kernel
  exact Nat.lt_of_le_of_lt (Nat.le_trans a (Nat.mul_le_mul_right _ h)) e
theorem bk_small {i : Int} (h : i.natAbs ≤ 10 ^ 51) : Bk 1 i := by
  unfold Bk
  omega
/-- {name: a number for name in names}, by rows -/
theorem rows_it {K : PySem.W.Frag} {H1 : Hp} {D L a : Addr} {zs : List Str} {g : TG} {te : TE} {vs : List Nat} {σ : L2.St} {Qd : Hp → Prop} (nD : H1 D = none) (hL : SqL K H1 L (zs.map V.str)) (La : L ≠ a) (p1 : PotAt H1 a) (lz : zs.length ≤ 12)
    (turn : ∀ z ∈ zs, ∀ (G : Hp) (R : V → Hp → Prop), PotAt G a → (∀ T G2 n, Bk 1 n → PotAt G2 a → SameB a G G2 → G2 T = none → R (.ref T) (upd G2 T (.tup [.str z, .int n]))) → g (.str z) (wipe σ vs) G fun σ2 H2 => wipe σ2 vs = wipe σ vs ∧ te σ2 H2 R)
    (done : ∀ G ps rows, SameB a H1 G → PotAt G a → G D = some (.lst (ps.map V.ref)) → RowsAt G ps rows → keys rows = zs → (∀ p ∈ rows, Bk 1 p.2) → Qd G) :
    ∃ W : Nat → Nat → Hp → Prop, (∃ m, W 0 m (upd H1 D (.lst []))) ∧ ∀ i m H, W i m H →
      ((Itl K L).stop i H ∧ Qd H) ∨ ((Itl K L).go i H ∧ ∃ Nx : Hp → Prop, (∀ H', Nx H' → ∃ m', m' < m ∧ W (i + 1) m' H') ∧ ∀ x H', (Itl K L).yld i H x H' → g x (wipe σ vs) H' fun σ2 H2 => wipe σ2 vs = wipe σ vs ∧ tYes σ2 H2 fun b H3 =>
        if b = true then te σ2 H3 fun y H4 => ∃ acc, H4 D = some (.lst acc) ∧ acc.length < sizeLine ∧ Nx (upd H4 D (.lst (acc ++ [y]))) else Nx H3) := by
  have Da : D ≠ a := p1.new nD
  have sqB : ∀ {G : Hp}, SameB a H1 G → SqL K G L (zs.map V.str) := fun {G} s => by
    rcases hL with (e | ⟨o, e⟩) | h
    · exact .inl (.inl (s _ _ e La))
    · exact .inl (.inr ⟨o, s _ _ e La⟩)
    · exact .inr h
  refine lc_it (walk_list (xs := zs.map V.str)) (fun i G => SameB a H1 G ∧ PotAt G a ∧ ∃ ps rows, G D = some (.lst (ps.map V.ref)) ∧ RowsAt G ps rows ∧ keys rows = zs.take i ∧ (∀ p ∈ rows, Bk 1 p.2))
    ⟨SameB.of (new_same nD), p1.sm (new_same nD), [], [], upd_same, .nil, rfl, nofun⟩ (fun i H _ h => sqB h.1) ?_ ?_
  · rintro i x G G' lt ⟨sb, pa, ps, rows, hD, tp, ek, sn⟩ ⟨rfl, hy⟩
    obtain ⟨z, hz, rfl⟩ : ∃ z, zs[i]? = some z ∧ x = .str z := by
      rw [List.getElem?_map] at hy
      cases e : zs[i]? with
      | none => rw [e] at hy; cases hy
      | some z => rw [e] at hy; exact ⟨z, rfl, (Option.some.inj hy).symm⟩
    refine turn z (List.mem_of_getElem? hz) _ _ pa fun T G2 n hn p2 s2 nT => ?_
    have hD2 := s2 _ _ hD Da
    have TD : T ≠ D := (ne_of_none hD2 nT).symm
    have Ta : T ≠ a := p2.new nT
    have li : i < 12 := by
      rw [List.length_map] at lt
      omega
    have lps : ps.length ≤ 12 := by
      rw [paired_len tp, ← keys_len, ek, List.length_take]
      omega
    refine ⟨ps.map V.ref, (upd_ne TD.symm).trans hD2, ?_, ?_, ?_, ps ++ [T], rows ++ [(z, n)], ?_, ?_, ?_, ?_⟩
    · rw [List.length_map]
      exact Nat.lt_of_le_of_lt lps (by decide)
    · intro b o e nb
      have bD : b ≠ D := ne_of_none e nD
      have e2 := s2 _ _ (sb _ _ e nb) nb
      rw [upd_ne bD, upd_ne (ne_of_none e2 nT)]
      exact e2
    · obtain ⟨u, v, e, r⟩ := p2
      exact ⟨u, v, by rw [upd_ne Da.symm, upd_ne Ta.symm]; exact e, r⟩
    · rw [upd_same, List.map_append]
      rfl
    · refine paired_snoc (RowsAt.mono (fun p xs e => ?_) tp) ?_
      · have e2 := s2 _ _ e (pa.ne e (by intro xs q; cases q))
        have pD : p ≠ D := by
          rintro rfl
          rw [hD] at e
          cases e
        rw [upd_ne pD, upd_ne (ne_of_none e2 nT)]
        exact e2
      · rw [upd_ne TD, upd_same]
    · unfold keys at ek ⊢
      rw [List.map_append, ek, List.take_add_one, hz]
      rfl
    · intro p hp
      rcases List.mem_append.mp hp with h | h
      · exact sn p h
      · rw [List.mem_singleton.mp h]
        exact hn
  · rintro G ⟨sb, pa, ps, rows, hD, tp, ek, sn⟩
    rw [List.length_map, List.take_length] at ek
    exact done G ps rows sb pa hD tp ek sn
section
variable {P : Program} {w : World} {K : PySem.W.Frag} {mg : Str → Option Value} {base : Heap} {f : Addr} {fd : FuncData}
abbrev nAmong : List Str := ["_law_pot_here", "_law_some"]
theorem scAmong : FnScope nAmong ["_law_pot_here", "_law_some"] (defScope s__law_among) := ⟨rfl, rfl, rfl, by decide +kernel, rfl, by decide +kernel, by decide +kernel⟩
theorem ok_among (N : Nam mg) (DD : Def P w K mg base "_law_draw" ["_law_pot_here", "_law_many"] 1 spDraw) (F : Fun K "_law_among" "_law_among" s__law_among f fd) : FnOk P w K mg base CX0 2 f fd ["_law_pot_here", "_law_some"] spAmong := by
  refine F.ok scAmong (fun vs H Q E h => ?_) (fun cdv A outer s H vs Q E hr h => ?_)
  · obtain ⟨_, _, _, rfl, _⟩ := h
    rfl
  · obtain ⟨a, l, xs, rfl, hp, hl, la, pos, le, go⟩ := h
    refine ⟨_, (pss_one (ps_ret (pe_ix ix_list (pv 1) (callD DD (hr.mono (by decide)) rfl (pa_cons (pv 0) (pa_cons (pe_callB call_len_seq rfl N.len PySem.boot_len (pa_cons (pv 1) pa_nil)) pa_nil))) (fun _ _ => rfl)))), ?_⟩
    refine ⟨_, rfl, _, rfl, _, rfl, l, xs, rfl, .inl (.inl (.inl hl)), a, _, rfl, hp, by omega, by omega, fun d H1 d0 d1 p1 s1 => ?_⟩
    obtain ⟨k, rfl⟩ := Int.eq_ofNat_of_zero_le d0
    have hk : k < xs.length := by omega
    exact ⟨l, xs, (k : Int), xs[k], rfl, rfl, .inl (.inl (s1 _ _ hl la)), atI_nat (List.getElem?_eq_getElem hk), go _ (List.getElem_mem hk) _ p1 s1⟩
def rLenSq (K : PySem.W.Frag) : List V → Hp → VK → Prop := fun xs H Q => ∃ p ys, xs = [.ref p] ∧ (SqL K H p ys ∨ SqT K H p ys) ∧ Q (.int ys.length) H
def spNames : Sp := fun vs H Q _ => ∃ (a : Addr) (n : Nat), vs = [.ref a, .int n] ∧ PotAt H a ∧ n ≤ 8 ∧ ∀ (D : Addr) (H' : Hp) (zs : List Str), H D = none → SameB a H H' → PotAt H' a → H' D = some (.lst (zs.map V.str)) → zs.length = n → zs.Nodup → (∀ z ∈ zs, z ∈ twelve) → Q (.ref D) H'
abbrev nNames : List Str := ["_law_pot_here", "_law_many", "_law_some", "_law_k"]
theorem scNames : FnScope nNames ["_law_pot_here", "_law_many"] (defScope s__law_names) := ⟨rfl, rfl, rfl, by decide +kernel, rfl, by decide +kernel, by decide +kernel⟩
theorem ok_names (N : Nam mg) (DD : Def P w K mg base "_law_draw" ["_law_pot_here", "_law_many"] 1 spDraw) (F : Fun K "_law_names" "_law_names" s__law_names f fd) : FnOk P w K mg base CX0 2 f fd ["_law_pot_here", "_law_many"] spNames := by
  refine F.ok scNames (fun vs H Q E h => ?_) (fun cdv A outer s H vs Q E hr h => ?_)
  · obtain ⟨_, _, rfl, _⟩ := h
    rfl
  · obtain ⟨a, n, rfl, hp, n8, go⟩ := h
    refine ⟨_, (pss_cons (ps_set (i := 2) scNames.nd rfl (Or.inr rfl) (pe_lst (pa_cons pe_str (pa_cons pe_str (pa_cons pe_str (pa_cons pe_str (pa_cons pe_str (pa_cons pe_str (pa_cons pe_str (pa_cons pe_str (pa_cons pe_str (pa_cons pe_str (pa_cons pe_str (pa_cons pe_str pa_nil))))))))))))))
      (pss_one (ps_ret (pe_lc (own := [("_law_k", 3)]) (g := (gName 3)) (tt := tYes) (te := tBM K "list" rPopAt (tVar 2) (tCons (tCall spDraw [] E0 (tCons (tVar 0) (tCons (tCB (rLenSq K) (tCons (tVar 2) tNil)) tNil))) tNil)) rfl scNames.nd (pi_range1 rfl N.rng (pa_cons (pv 1) pa_nil))
        (blkOk_by (own := [("_law_k", 3)]) (N := nNames) (sc := defScope s__law_names) (by decide +kernel)) (fun _ _ _ _ _ => (pg_name (i := 3) scNames.nd rfl (Or.inl rfl))) (fun _ _ _ _ _ => pts_nil)
        (fun _ _ _ _ _ => (pe_bm PySem.F.plainAttrs_list PySem.F.slot_list_pop PySem.F.type_list_pop mt_popAt (pv 2) (pa_cons (callD DD (hr.mono (by decide)) rfl (pa_cons (pv 0) (pa_cons (pe_callB call_len_seq rfl N.len PySem.boot_len (pa_cons (pv 2) pa_nil)) pa_nil))) pa_nil))))))), ?_⟩
    refine ⟨by show 12 ≤ sizeLine; decide, fun S nS => ?_⟩
    have s0 := new_same (o := .lst (twelve.map V.str)) nS
    have hS : upd H S (.lst (twelve.map V.str)) S = some (.lst (twelve.map V.str)) := upd_same
    have Sa : S ≠ a := hp.new nS
    refine ⟨_, rfl, (n : Int), rfl, by omega, by omega, fun D nD => ?_⟩
    have nD' : upd H S (.lst (twelve.map V.str)) D = none := nD
    have DS : D ≠ S := by
      rintro rfl
      rw [hS] at nD'
      cases nD'
    have Da : D ≠ a := (hp.sm s0).new nD'
    have nD0 := s0.free nD'
    have en : ((n : Int)).toNat = n := rfl
    refine lc_it (walk_range (lo := 0) (n := ((n : Int)).toNat)) (fun i H' => ∃ zs rest : List Str, H' D = some (.lst (zs.map V.str)) ∧ H' S = some (.lst (rest.map V.str)) ∧ zs.length = i ∧ rest.length = 12 - i ∧ (zs ++ rest).Perm twelve ∧ PotAt H' a ∧ SameB a H H')
      ⟨[], twelve, upd_same, (upd_ne DS.symm).trans hS, rfl, rfl, List.Perm.refl _, (hp.sm s0).sm (new_same nD'), (SameB.of s0).trans (SameB.of (new_same nD'))⟩ (fun _ _ _ _ => True.intro) ?_ ?_
    · rintro i x H1 H1' lt ⟨zs, rest, hD, hS1, lz, lr, pm, p1, s1⟩ ⟨rfl, rfl⟩
      rw [en] at lt
      refine ⟨rfl, ?_⟩
      refine ⟨_, rfl, .inl ⟨rfl, _, .inl (.inl hS1)⟩, _, rfl, _, rfl, S, _, rfl, .inl (.inl (.inl hS1)), a, _, rfl, p1, by rw [List.length_map]; omega, by rw [List.length_map]; omega, fun d H2 d0 d1 p2 s2 => ?_⟩
      obtain ⟨k, rfl⟩ := Int.eq_ofNat_of_zero_le d0
      rw [List.length_map] at d1
      have hk : k < rest.length := by omega
      have hS2 := s2 _ _ hS1 Sa
      have hD2 := s2 _ _ hD Da
      refine ⟨S, rest.map V.str, (k : Int), k, .str rest[k], rfl, rfl, hS2, by omega, by omega, ?_, ?_, zs.map V.str, (upd_ne DS).trans hD2, ?_, zs ++ [rest[k]], rest.eraseIdx k, ?_, ?_, ?_, ?_, ?_, ?_, ?_⟩
      · unfold seqIndex?
        have k0 : ¬ ((k : Int) < 0) := by omega
        simp only [List.length_map, if_neg k0]
        split
        · rfl
        · rename_i h
          exact (h (by simp; omega)).elim
      · rw [List.getElem?_map, List.getElem?_eq_getElem hk]
        rfl
      · rw [List.length_map, lz]
        exact Nat.lt_trans lt (Nat.lt_of_le_of_lt n8 (by decide))
      · rw [upd_same, List.map_append]
        rfl
      · rw [upd_ne DS.symm, upd_same, erase_map]
      · rw [List.length_append, lz]
        rfl
      · rw [List.length_eraseIdx_of_lt hk]
        omega
      · refine List.Perm.trans ?_ pm
        rw [List.append_assoc]
        refine List.Perm.append_left zs ?_
        exact erase_perm rest k hk
      · exact (p2.upd Sa).upd Da
      · intro c u e nc
        have cS : c ≠ S := ne_of_none e nS
        have cD : c ≠ D := ne_of_none e nD0
        rw [upd_ne cD, upd_ne cS]
        exact s2 _ _ (s1 _ _ e nc) nc
    · rintro H3 ⟨zs, rest, hD, hS1, lz, lr, pm, p1, s1⟩
      have nd := (pm.nodup_iff).mpr twelve_nd
      exact go D H3 zs nD0 s1 p1 hD lz (List.nodup_append.mp nd).1 fun z m => pm.mem_iff.mp (List.mem_append_left _ m)
/-- a table of the names -/
def spRun : Sp := fun vs H Q _ => ∃ (a l : Addr) (zs : List Str), vs = [.ref a, .ref l] ∧ PotAt H a ∧ H l = some (.lst (zs.map V.str)) ∧ l ≠ a ∧ zs.Nodup ∧ zs.length ≤ 8 ∧ ∀ (p : Addr) (H' : Hp) (t : Tb), H p = none → SameB a H H' → PotAt H' a → Tab H' p t → keys t = zs → (∀ q ∈ t, Bk 1 q.2) → Q (.ref p) H'
abbrev nRun : List Str := ["_law_pot_here", "_law_names_here", "_law_far", "_law_name"]
theorem scRun : FnScope nRun ["_law_pot_here", "_law_names_here"] (defScope s__law_run) := ⟨rfl, rfl, rfl, by decide +kernel, rfl, by decide +kernel, by decide +kernel⟩
theorem ok_run (N : Nam mg) (DD : Def P w K mg base "_law_draw" ["_law_pot_here", "_law_many"] 1 spDraw) (F : Fun K "_law_run" "_law_run" s__law_run f fd) : FnOk P w K mg base CX0 2 f fd ["_law_pot_here", "_law_names_here"] spRun := by
  refine F.ok scRun (fun vs H Q E h => ?_) (fun cdv A outer s H vs Q E hr h => ?_)
  · obtain ⟨_, _, _, rfl, _⟩ := h
    rfl
  · obtain ⟨a, l, zs, rfl, hp, hl, la, nd, le, go⟩ := h
    refine ⟨_, (pss_cons (ps_set (i := 2) scRun.nd rfl (Or.inr rfl) (pe_ix ix_list (pe_lst (pa_cons pe_int (pa_cons pe_int (pa_cons (pe_op op_pow pe_int pe_int) pa_nil)))) (callD DD (hr.mono (by decide)) rfl (pa_cons (pv 0) (pa_cons pe_int pa_nil))) (fun _ _ => rfl)))
      (pss_one (ps_ret (pe_callTy (call_dictP rfl) rfl N.dct boot_dict' (pa_cons (pe_lc (own := [("_law_name", 3)]) (g := (gName 3)) (tt := tYes) (te := (tTup (tCons (tVar 3) (tCons (tOp (rI0 fun i j => .int (i + j)) (tOp (rI0 fun i j => .int (i - j)) (tCall spDraw [] E0 (tCons (tVar 0) (tCons (tC (.int 5)) tNil))) (tC (.int 2))) (tOp (rI CMul fun i j => .int (i * j)) (tVar 2) (tCall spDraw [] E0 (tCons (tVar 0) (tCons (tC (.int 2)) tNil))))) tNil)))) rfl scRun.nd (pi_list (pv 1))
        (blkOk_by (own := [("_law_name", 3)]) (N := nRun) (sc := defScope s__law_run) (by decide +kernel)) (fun _ _ _ _ _ => (pg_name (i := 3) scRun.nd rfl (Or.inl rfl))) (fun _ _ _ _ _ => pts_nil)
        (fun _ _ _ _ _ => (pe_tup (pa_cons (pv 3) (pa_cons (pe_op op_add (pe_op op_sub (callD DD (hr.mono (by decide)) rfl (pa_cons (pv 0) (pa_cons pe_int pa_nil))) pe_int) (pe_op op_mul (pv 2) (callD DD (hr.mono (by decide)) rfl (pa_cons (pv 0) (pa_cons pe_int pa_nil))))) pa_nil))))) pa_nil))))), ?_⟩
    refine ⟨10, 49, rfl, rfl, ⟨by decide, by decide, by decide⟩, by show 3 ≤ sizeLine; decide, fun p np => ?_⟩
    have w0 := new_same (o := .lst [.int 0, .int 0, .int (10 ^ (49 : Int).toNat)]) np
    have pa' : p ≠ a := hp.new np
    refine ⟨_, rfl, a, 3, rfl, hp.sm w0, by decide, by decide, fun k H1 k0 k3 p1 s1 => ?_⟩
    have kp := s1 _ _ (show upd H p (.lst [.int 0, .int 0, .int (10 ^ (49 : Int).toNat)]) p = _ from upd_same) pa'
    obtain ⟨far, hf, ff⟩ : ∃ far : Int, atI [V.int 0, .int 0, .int (10 ^ (49 : Int).toNat)] k = some (.int far) ∧ 0 ≤ far ∧ far ≤ 10 ^ 49 := by
      have big0 : (0 : Int) ≤ 10 ^ 49 := by decide +kernel
      obtain ⟨j, rfl⟩ := Int.eq_ofNat_of_zero_le k0
      have hj : j < 3 := by omega
      match j, hj with
      | 0, _ => exact ⟨0, rfl, by decide, big0⟩
      | 1, _ => exact ⟨0, rfl, by decide, big0⟩
      | 2, _ => exact ⟨_, rfl, big0, Int.le_refl _⟩
    refine ⟨p, _, k, .int far, rfl, rfl, .inl (.inl kp), hf, ?_⟩
    have s01 := (SameB.of w0).trans s1
    have hl1 := s01 _ _ hl la
    refine ⟨_, rfl, l, rfl, ⟨_, .inl (.inl hl1)⟩, fun D nD => rows_it nD (.inl (.inl hl1)) la p1 (by omega) (fun z hz G R pG kk => ?_) (fun G ps rows sb pG hD ra ek hr3 => ?_)⟩
    · refine ⟨rfl, ?_⟩
      refine ⟨_, rfl, ?_⟩
      refine ⟨_, rfl, a, 5, rfl, pG, by decide, by decide, fun d G1 d0 d5 q1 t1 => ?_⟩
      refine ⟨d, 2, rfl, rfl, ?_⟩
      refine ⟨_, rfl, _, rfl, a, 2, rfl, q1, by decide, by decide, fun e G2 e0 e2 q2 t2 => ?_⟩
      have fe : 0 ≤ far * e ∧ far * e ≤ 10 ^ 49 := by
        obtain rfl | rfl : e = 0 ∨ e = 1 := by omega
        · omega
        · omega
      refine ⟨far, e, rfl, rfl, ?_, d - 2, far * e, rfl, rfl, ?_⟩
      · refine .inr ⟨?_, ?_⟩
        · exact Int.lt_of_lt_of_le (by decide +kernel) e0
        · exact Int.lt_of_lt_of_le e2 (by decide +kernel)
      · refine ⟨by show 2 ≤ sizeLine; decide, fun T nT => kk T G2 _ ?_ q2 (t1.trans t2) nT⟩
        unfold Bk
        omega
    · refine ⟨D, ps, kv rows, rfl, .inl (.inl hD), RowsAt.sq ra, fun c nc => ?_⟩
      rw [show mergeK [] (kv rows) = kv (ofRows [] rows) from mergeK_kv rows [], ofRows_id (by rw [ek]; exact nd)]
      have w1 := new_same (o := .dK (kv rows)) nc
      have nc0 : H c = none := by
        cases q : H c with
        | none => rfl
        | some o => exact absurd ((sb _ _ (s01 _ _ q (pG.new nc)) (pG.new nc)).symm.trans nc) (fun z => by cases z)
      exact go c _ rows nc0 ((s01.trans sb).trans (SameB.of w1)) (pG.sm w1) upd_same ek hr3
end
end E10

set_option Elab.async false
set_option linter.all false
set_option maxRecDepth 100000
set_option maxHeartbeats 16000000
namespace E10
open L2 PySem PySem.Spec PyProof.Rows
/-- the rows of a walk whose i-th item is the i-th name -/
theorem rows_wk2 {J : It} {G : Hp → Prop} {Y : Nat → Hp → V → Hp → Prop} {zs : List Str} (w : Walk J zs.length G Y) (fn : Str → Int) {H1 : Hp} {D : Addr} {g : TG} {te : TE} {vs : List Nat} {σ : L2.St} {Qd : Hp → Prop} (nD : H1 D = none) (lz : zs.length ≤ 12)
    (hG : ∀ H', Same H1 H' → G H') (hY : ∀ i H x H', Y i H x H' → H' = H ∧ ∃ z, zs[i]? = some z ∧ x = .str z)
    (turn : ∀ z ∈ zs, ∀ (G : Hp) (R : V → Hp → Prop), Same H1 G → (∀ T G2, Same G G2 → G2 T = none → R (.ref T) (upd G2 T (.tup [.str z, .int (fn z)]))) → g (.str z) (wipe σ vs) G fun σ2 H2 => wipe σ2 vs = wipe σ vs ∧ te σ2 H2 R)
    (done : ∀ G ps, Same H1 G → G D = some (.lst (ps.map V.ref)) → RowsAt G ps (zs.map fun z => (z, fn z)) → Qd G) :
    ∃ W : Nat → Nat → Hp → Prop, (∃ m, W 0 m (upd H1 D (.lst []))) ∧ ∀ i m H, W i m H →
      (J.stop i H ∧ Qd H) ∨ (J.go i H ∧ ∃ Nx : Hp → Prop, (∀ H', Nx H' → ∃ m', m' < m ∧ W (i + 1) m' H') ∧ ∀ x H', J.yld i H x H' → g x (wipe σ vs) H' fun σ2 H2 => wipe σ2 vs = wipe σ vs ∧ tYes σ2 H2 fun b H3 =>
        if b = true then te σ2 H3 fun y H4 => ∃ acc, H4 D = some (.lst acc) ∧ acc.length < sizeLine ∧ Nx (upd H4 D (.lst (acc ++ [y]))) else Nx H3) := by
  refine lc_it w (fun i H' => Same H1 H' ∧ ∃ ps rows, H' D = some (.lst (ps.map V.ref)) ∧ RowsAt H' ps rows ∧ rows = (zs.map fun z => (z, fn z)).take i)
    ⟨new_same nD, [], [], upd_same, .nil, rfl⟩ (fun i H' _ h => hG H' h.1) ?_ ?_
  · rintro i x G G' lt ⟨sm, ps, rows, hD, ra, er⟩ y
    obtain ⟨rfl, z, hz, rfl⟩ := hY _ _ _ _ y
    refine turn z (List.mem_of_getElem? hz) _ _ sm fun T G2 s2 nT => ?_
    have sT := s2.trans (new_same (o := .tup [.str z, .int (fn z)]) nT)
    have TD : T ≠ D := (ne_of_none (s2 _ _ hD) nT).symm
    have lps : ps.length ≤ 12 := by
      rw [paired_len ra, er, List.length_take, List.length_map]
      omega
    refine ⟨ps.map V.ref, sT _ _ hD, ?_, ?_, ps ++ [T], rows ++ [(z, fn z)], ?_, ?_, ?_⟩
    · rw [List.length_map]
      exact Nat.lt_of_le_of_lt lps (by decide)
    · intro b o e
      rw [upd_ne (ne_of_none e nD)]
      exact sT _ _ (sm _ _ e)
    · rw [upd_same, List.map_append]
      rfl
    · refine paired_snoc (RowsAt.mono (fun p xs e => ?_) ra) ?_
      · have pD : p ≠ D := by
          rintro rfl
          rw [hD] at e
          cases e
        rw [upd_ne pD]
        exact sT _ _ e
      · rw [upd_ne TD, upd_same]
    · have e1 : (zs.map fun z => (z, fn z))[i]? = some (z, fn z) := by
        rw [List.getElem?_map, hz]
        rfl
      rw [List.take_add_one, e1, er]
      rfl
  · rintro G ⟨sm, ps, rows, hD, ra, er⟩
    have er2 : rows = zs.map fun z => (z, fn z) := by
      rw [er]
      exact List.take_of_length_le (by simp)
    subst er2
    exact done G ps sm hD ra
theorem yl_keys {t : Tb} {i : Nat} {H H' : Hp} {x : V} (y : H' = H ∧ ∃ k v, (kv t)[i]? = some (k, v) ∧ x = kV k) : H' = H ∧ ∃ z, (keys t)[i]? = some z ∧ x = .str z := by
  obtain ⟨e, k, v, hk, rfl⟩ := y
  obtain ⟨z, n, hm, rfl, rfl⟩ := kv_at hk
  exact ⟨e, z, keys_at hm, rfl⟩
section
variable {P : Program} {w : World} {K : PySem.W.Frag} {mg : Str → Option Value} {base : Heap} {f : Addr} {fd : FuncData}
/-- the lesser, or the greater, name by name -/
def spBoth : Sp := fun vs H Q _ => ∃ (c d : Addr) (t u : Tb) (way : Str) (op : Int → Int → Int), vs = [.ref c, .ref d, .str way] ∧ ((way = "&" ∧ op = mn2) ∨ (way = "|" ∧ op = mx2)) ∧ H c = some (.dK (kv t)) ∧ H d = some (.dK (kv u)) ∧ c ≠ d ∧ keys t = keys u ∧ Okt t ∧ t.length ≤ 8 ∧
  ∀ p H', H p = none → Same H H' → H' p = some (.dK (kv (both op t u))) → Q (.ref p) H'
abbrev nBoth : List Str := ["_law_one", "_law_other", "_law_way", "_law_name"]
theorem scBoth : FnScope nBoth ["_law_one", "_law_other", "_law_way"] (defScope s__law_both) := ⟨rfl, rfl, rfl, by decide +kernel, rfl, by decide +kernel, by decide +kernel⟩
theorem ok_both (N : Nam mg) (F : Fun K "_law_both" "_law_both" s__law_both f fd) : FnOk P w K mg base CX0 1 f fd ["_law_one", "_law_other", "_law_way"] spBoth := by
  refine F.ok scBoth (fun vs H Q E h => ?_) (fun cdv A outer s H vs Q E hr h => ?_)
  · obtain ⟨_, _, _, _, _, _, rfl, _⟩ := h
    rfl
  · obtain ⟨c, d, t, u, way, op, rfl, wo, hc, hd, cd, ke, o, le, go⟩ := h
    have hu := hr.units
    refine ⟨_, (pss_cons (ps_if (pt_cmpR op_eq (pv 2) pe_str (nomark _)) (pss_one (ps_ret (pe_callTy (call_dictP rfl) rfl N.dct boot_dict' (pa_cons (pe_lock (pe_lc (own := [("_law_name", 3)]) (g := (gName 3)) (tt := tYes) (te := (tTup (tCons (tVar 3) (tCons (tCB (rMin K) (tCons (tLst (tCons (tDGet (tVar 0) (tVar 3)) (tCons (tDGet (tVar 1) (tVar 3)) tNil))) tNil)) tNil)))) rfl scBoth.nd (pi_keys (pv 0))
        (blkOk_by (own := [("_law_name", 3)]) (N := nBoth) (sc := defScope s__law_both) (by decide +kernel)) (fun _ _ _ _ _ => (pg_name (i := 3) scBoth.nd rfl (Or.inl rfl))) (fun _ _ _ _ _ => pts_nil)
        (fun _ _ _ _ _ => (pe_tup (pa_cons (pv 3) (pa_cons (pe_callB (cr_min rfl) rfl N.mn PyProof.Rows.boot_min (pa_cons (pe_lst (pa_cons (pe_dget (u1 hu) (pv 0) (pv 3) (fun _ _ => rfl)) (pa_cons (pe_dget (u1 hu) (pv 1) (pv 3) (fun _ _ => rfl)) pa_nil))) pa_nil)) pa_nil)))))) pa_nil)))) pss_nil)
      (pss_one (ps_ret (pe_callTy (call_dictP rfl) rfl N.dct boot_dict' (pa_cons (pe_lock (pe_lc (own := [("_law_name", 3)]) (g := (gName 3)) (tt := tYes) (te := (tTup (tCons (tVar 3) (tCons (tCB (rMax K) (tCons (tLst (tCons (tDGet (tVar 0) (tVar 3)) (tCons (tDGet (tVar 1) (tVar 3)) tNil))) tNil)) tNil)))) rfl scBoth.nd (pi_keys (pv 0))
        (blkOk_by (own := [("_law_name", 3)]) (N := nBoth) (sc := defScope s__law_both) (by decide +kernel)) (fun _ _ _ _ _ => (pg_name (i := 3) scBoth.nd rfl (Or.inl rfl))) (fun _ _ _ _ _ => pts_nil)
        (fun _ _ _ _ _ => (pe_tup (pa_cons (pv 3) (pa_cons (pe_callB (cr_max rfl) rfl N.mx PyProof.Rows.boot_max (pa_cons (pe_lst (pa_cons (pe_dget (u1 hu) (pv 0) (pv 3) (fun _ _ => rfl)) (pa_cons (pe_dget (u1 hu) (pv 1) (pv 3) (fun _ _ => rfl)) pa_nil))) pa_nil)) pa_nil)))))) pa_nil))))), ?_⟩
    refine ⟨_, rfl, rfl, _, rfl, ?_⟩
    rcases wo with ⟨rfl, rfl⟩ | ⟨rfl, rfl⟩
    · refine ite2 (fun _ => ?_) (fun x => (x rfl).elim)
      refine ⟨c, _, hc, True.intro, fun od => ?_⟩
      have hF : upd H c (.frz od (.dK (kv t))) c = some (.frz od (.dK (kv t))) := upd_same
      have hdF : upd H c (.frz od (.dK (kv t))) d = some (.dK (kv u)) := (upd_ne cd.symm).trans hd
      have wk : Walk (Itk c od (kv t)) (keys t).length (fun H => H c = some (.frz od (.dK (kv t)))) (fun i H x H' => H' = H ∧ ∃ k v, (kv t)[i]? = some (k, v) ∧ x = kV k) := by
        have := walk_keys (kvs := kv t) (d := c) (o := od)
        rwa [kv_len, ← keys_len] at this
      refine ⟨_, rfl, c, od, rfl, .inl ⟨kv t, hF, fun D nD => rows_wk2 wk (fun z => mn2 (g0 t z) (g0 u z)) nD (by rw [keys_len]; omega) (fun H' s => s _ _ hF) (fun i H x H' y => yl_keys y) (fun z mz G R sm kk => ?_) (fun G ps sm hD ra => ?_)⟩⟩
      · refine ⟨rfl, _, rfl, _, rfl, _, rfl, c, _, rfl, DGet.tab (.inr ⟨od, sm _ _ hF⟩) mz, ?_⟩
        refine ⟨_, rfl, _, rfl, d, _, rfl, DGet.tab (.inl (sm _ _ hdF)) (ke ▸ mz), by show 2 ≤ sizeLine; decide, fun p np => ?_⟩
        have sp := new_same (o := .lst [.int (g0 t z), .int (g0 u z)]) np
        refine ⟨p, [g0 t z, g0 u z], rfl, .inl (.inl upd_same), Nat.succ_pos _, fun m hm hle => ?_⟩
        have em : m = mn2 (g0 t z) (g0 u z) := by
          have l1 := hle (g0 t z) (by simp)
          have l2 := hle (g0 u z) (by simp)
          unfold mn2
          simp at hm
          split <;> omega
        subst em
        exact ⟨by show 2 ≤ sizeLine; decide, fun T nT => kk T _ sp nT⟩
      refine ⟨sm _ _ hF, ?_⟩
      have Dc : D ≠ c := (ne_of_none hF nD).symm
      have s4 := locked hc sm
      have hD4 := (upd_ne (H := G) (o := .dK (kv t)) Dc).trans hD
      have ra4 : RowsAt (upd G c (.dK (kv t))) ps (both mn2 t u) := by
        refine RowsAt.mono (fun q xs e5 => ?_) ra
        have qc : q ≠ c := by
          rintro rfl
          rw [sm _ _ hF] at e5
          cases e5
        exact (upd_ne qc).trans e5
      generalize upd G c (.dK (kv t)) = H4 at *
      refine ⟨D, ps, kv (both mn2 t u), rfl, .inl (.inl hD4), RowsAt.sq ra4, fun p np => ?_⟩
      rw [show mergeK [] (kv (both mn2 t u)) = kv (ofRows [] (both mn2 t u)) from mergeK_kv _ [], ofRows_id (o.both _ _).nd]
      have s5 := new_same (o := .dK (kv (both mn2 t u))) np
      exact go p _ (s4.free np) (s4.trans s5) upd_same
    · refine ite2 (fun x => absurd x (by decide +kernel)) (fun _ => ?_)
      refine ⟨c, _, hc, True.intro, fun od => ?_⟩
      have hF : upd H c (.frz od (.dK (kv t))) c = some (.frz od (.dK (kv t))) := upd_same
      have hdF : upd H c (.frz od (.dK (kv t))) d = some (.dK (kv u)) := (upd_ne cd.symm).trans hd
      have wk : Walk (Itk c od (kv t)) (keys t).length (fun H => H c = some (.frz od (.dK (kv t)))) (fun i H x H' => H' = H ∧ ∃ k v, (kv t)[i]? = some (k, v) ∧ x = kV k) := by
        have := walk_keys (kvs := kv t) (d := c) (o := od)
        rwa [kv_len, ← keys_len] at this
      refine ⟨_, rfl, c, od, rfl, .inl ⟨kv t, hF, fun D nD => rows_wk2 wk (fun z => mx2 (g0 t z) (g0 u z)) nD (by rw [keys_len]; omega) (fun H' s => s _ _ hF) (fun i H x H' y => yl_keys y) (fun z mz G R sm kk => ?_) (fun G ps sm hD ra => ?_)⟩⟩
      · refine ⟨rfl, _, rfl, _, rfl, _, rfl, c, _, rfl, DGet.tab (.inr ⟨od, sm _ _ hF⟩) mz, ?_⟩
        refine ⟨_, rfl, _, rfl, d, _, rfl, DGet.tab (.inl (sm _ _ hdF)) (ke ▸ mz), by show 2 ≤ sizeLine; decide, fun p np => ?_⟩
        have sp := new_same (o := .lst [.int (g0 t z), .int (g0 u z)]) np
        refine ⟨p, [g0 t z, g0 u z], rfl, .inl (.inl upd_same), Nat.succ_pos _, fun m hm hle => ?_⟩
        have em : m = mx2 (g0 t z) (g0 u z) := by
          have l1 := hle (g0 t z) (by simp)
          have l2 := hle (g0 u z) (by simp)
          unfold mx2
          simp at hm
          split <;> omega
        subst em
        exact ⟨by show 2 ≤ sizeLine; decide, fun T nT => kk T _ sp nT⟩
      refine ⟨sm _ _ hF, ?_⟩
      have Dc : D ≠ c := (ne_of_none hF nD).symm
      have s4 := locked hc sm
      have hD4 := (upd_ne (H := G) (o := .dK (kv t)) Dc).trans hD
      have ra4 : RowsAt (upd G c (.dK (kv t))) ps (both mx2 t u) := by
        refine RowsAt.mono (fun q xs e5 => ?_) ra
        have qc : q ≠ c := by
          rintro rfl
          rw [sm _ _ hF] at e5
          cases e5
        exact (upd_ne qc).trans e5
      generalize upd G c (.dK (kv t)) = H4 at *
      refine ⟨D, ps, kv (both mx2 t u), rfl, .inl (.inl hD4), RowsAt.sq ra4, fun p np => ?_⟩
      rw [show mergeK [] (kv (both mx2 t u)) = kv (ofRows [] (both mx2 t u)) from mergeK_kv _ [], ofRows_id (o.both _ _).nd]
      have s5 := new_same (o := .dK (kv (both mx2 t u))) np
      exact go p _ (s4.free np) (s4.trans s5) upd_same
end
end E10

set_option Elab.async false
set_option linter.all false
set_option maxRecDepth 100000
set_option maxHeartbeats 16000000
namespace E10
open L2 PySem PySem.Spec PyProof.Rows
/-- all that the law leans on of Run -/
structure TopS (P : Program) (w : World) (K : PySem.W.Frag) (mg : Str → Option Value) (base : Heap) (cR cB : Addr) : Prop where
  T : RunF K cR cB
  M : MkR P w K mg base cR
  PM : PropR P w K mg base cR
  A : AddR P w K mg base cR
  R : RaddR P w K mg base cR
  An : OpO P w K mg base cR (PySem.dunder Operator.BitAnd.info.2) mn2
  Or : OpO P w K mg base cR (PySem.dunder Operator.BitOr.info.2) mx2
  ti : ∃ (f : Addr) (fd : FuncData), Meth K cR "times" f ∧ FnOk P w K mg base CX0 1 f fd ["self"] (spTimesR cR) ∧ Binds K fd ["self"] []
  eq : ∃ (f : Addr) (fd : FuncData), Has K cR f "__eq__" ∧ FnOk P w K mg base CX0 1 f fd ["self", "other"] (spEqR K cR) ∧ Binds K fd ["self", "other"] []
  nf : PySem.W.notFirst K cR (.ref cR) = true
  am : ∃ (f : Addr) (fd : FuncData), Meth K cR "is_at_most" f ∧ FnG P w K mg base 5 f fd ["self", "other"] (spAtMost cR) ∧ Binds K fd ["self", "other"] []
section
variable {P : Program} {w : World} {K : PySem.W.Frag} {mg : Str → Option Value} {base : Heap} {f cR cB : Addr} {fd : FuncData}
/-- one & other, or one | other -/
def spDone (cR : Addr) : Sp := fun vs H Q _ => ∃ (a e b c : Addr) (m t : Tb) (way : Str) (op : Int → Int → Int), vs = [.ref a, .ref b, .str way] ∧ ((way = "&" ∧ op = mn2) ∨ (way = "|" ∧ op = mx2)) ∧ RAt cR H a e m ∧ RAt cR H b c t ∧ keys m = keys t ∧ Okt m ∧ 0 < m.length ∧ m.length ≤ 8 ∧
  ∀ x e' H', H x = none → H e' = none → Same H H' → RAt cR H' x e' (ord (both op m t)) → Q (.ref x) H'
abbrev nDone : List Str := ["_law_one", "_law_other", "_law_way"]
theorem scDone : FnScope nDone ["_law_one", "_law_other", "_law_way"] (defScope s__law_done) := ⟨rfl, rfl, rfl, by decide +kernel, rfl, by decide +kernel, by decide +kernel⟩
theorem ok_done (U : TopS P w K mg base cR cB) (F : Fun K "_law_done" "_law_done" s__law_done f fd) : FnG P w K mg base 7 f fd ["_law_one", "_law_other", "_law_way"] (spDone cR) := by
  refine Fun.okG F scDone (fun {vs H Q E} h => ?_) (fun cdv A outer s H vs Q E hG hr h => ?_)
  · obtain ⟨_, _, _, _, _, _, _, _, rfl, _⟩ := h
    rfl
  · obtain ⟨a, e, b, c, m, t, way, op, rfl, wo, ra, rb, ke, o, pos, le, go⟩ := h
    have hu := hr.units
    refine ⟨_, (pss_one (ps_ret (pe_ifExp (pt_cmpR op_eq (pv 2) pe_str (nomark _)) (pe_op (op_andR U.T U.An hG (hr.mono (by decide))) (pv 0) (pv 1)) (pe_op (op_orR U.T U.Or hG (hr.mono (by decide))) (pv 0) (pv 1))))), ?_⟩
    obtain ⟨dx, hi⟩ := ra.ins
    obtain ⟨dy, hb⟩ := rb.ins
    refine ⟨_, rfl, rfl, _, rfl, ?_⟩
    rcases wo with ⟨rfl, rfl⟩ | ⟨rfl, rfl⟩
    · refine ite2 (fun _ => ?_) (fun x => (x rfl).elim)
      exact ⟨_, rfl, _, rfl, a, b, dx, dy, _, _, rfl, rfl, hi, hb, a, e, b, c, m, t, rfl, ra, rb, ke, o, pos, le, go⟩
    · refine ite2 (fun x => absurd x (by decide +kernel)) (fun _ => ?_)
      exact ⟨_, rfl, _, rfl, a, b, dx, dy, _, _, rfl, rfl, hi, hb, a, e, b, c, m, t, rfl, ra, rb, ke, o, pos, le, go⟩
end
end E10

set_option Elab.async false
set_option linter.all false
set_option maxRecDepth 100000
set_option maxHeartbeats 16000000
namespace E10
open L2 PySem PySem.Spec PyProof.Rows
/-! ### runs of one set of names, by their times -/
structure NsOk (ns : List Str) : Prop where
  nm : ∀ z ∈ ns, Nm z
  nd : ns.Nodup
  pos : 0 < ns.length
  le : ns.length ≤ 8
def fo (ns : List Str) (f : Str → Int) : Tb := (srt ns).map fun z => (z, f z)
theorem keys_fo (ns : List Str) (f : Str → Int) : keys (fo ns f) = srt ns := by
  unfold fo keys
  rw [List.map_map]
  exact List.map_id' _
theorem fo_ord (t : Tb) : ord t = fo (keys t) (g0 t) := rfl
theorem srt_srt (ns : List Str) : srt (srt ns) = srt ns := srt_eq (srt_perm ns)
theorem fo_congr {ns : List Str} {f g : Str → Int} (h : ∀ z ∈ ns, f z = g z) : fo ns f = fo ns g := List.map_congr_left fun z hz => by rw [h z (srt_mem.mp hz)]
section
variable {ns : List Str} {f g h : Str → Int}
theorem NsOk.fo (o : NsOk ns) (f : Str → Int) : Okt (fo ns f) := ⟨fun p hp => by
  obtain ⟨z, mz, rfl⟩ := List.mem_map.mp hp
  exact o.nm z (srt_mem.mp mz), by rw [keys_fo]; exact srt_nodup o.nd⟩
theorem NsOk.of {t : Tb} (o : Okt t) (pos : 0 < t.length) (le : t.length ≤ 8) : NsOk (keys t) := ⟨fun _ hz => o.key hz, o.nd, by rw [keys_len]; exact pos, by rw [keys_len]; exact le⟩
theorem fo_len : (fo ns f).length = ns.length := by
  unfold fo
  rw [List.length_map]
  exact (srt_perm ns).length_eq
theorem gv_fo (o : NsOk ns) {z : Str} (hz : z ∈ ns) : gv (fo ns f) z = some (f z) :=
  gv_of (by rw [keys_fo]; exact srt_nodup o.nd) (List.mem_map.mpr ⟨z, srt_mem.mpr hz, rfl⟩)
theorem g0_fo (o : NsOk ns) {z : Str} (hz : z ∈ ns) : g0 (fo ns f) z = f z := by
  show (gv (fo ns f) z).getD 0 = f z
  rw [gv_fo o hz]
  rfl
theorem ord_to {u : Tb} (p : (keys u).Perm ns) (e : ∀ z ∈ ns, g0 u z = f z) : ord u = fo ns f := by
  rw [fo_ord]
  unfold fo
  rw [srt_eq p]
  exact List.map_congr_left fun z hz => by rw [e z (srt_mem.mp hz)]
theorem both_fo (o : NsOk ns) (op : Int → Int → Int) : ord (both op (fo ns f) (fo ns g)) = fo ns fun z => op (f z) (g z) := by
  refine ord_to (by rw [keys_both, keys_fo]; exact srt_perm ns) fun z hz => ?_
  have e : both op (fo ns f) (fo ns g) = fo ns fun z => op (f z) (g z) := by
    unfold both
    rw [keys_fo]
    exact List.map_congr_left fun y hy => by rw [g0_fo o (srt_mem.mp hy), g0_fo o (srt_mem.mp hy)]
  rw [e, g0_fo o hz]
theorem shf_fo (o : NsOk ns) (n : Int) : ord (shf (fo ns f) n) = fo ns fun z => f z + n := by
  refine ord_to (by rw [keys_shf, keys_fo]; exact srt_perm ns) fun z hz => ?_
  have e : shf (fo ns f) n = fo ns fun z => f z + n := by
    unfold shf fo
    rw [List.map_map]
    rfl
  rw [e, g0_fo o hz]
def eqF (ns : List Str) (f g : Str → Int) : Bool := ns.all fun z => decide (f z = g z)
def leF (ns : List Str) (f g : Str → Int) : Bool := ns.all fun z => decide (f z ≤ g z)
theorem eqT_fo (o : NsOk ns) : eqT (fo ns f) (fo ns g) = eqF ns f g := by
  rw [Bool.eq_iff_iff]
  unfold eqT eqF
  rw [Bool.and_eq_true, List.all_eq_true, List.all_eq_true, fo_len, fo_len]
  constructor
  · rintro ⟨_, h⟩ z hz
    have := of_decide_eq_true (h (z, f z) (List.mem_map.mpr ⟨z, srt_mem.mpr hz, rfl⟩))
    rw [gv_fo o hz] at this
    exact decide_eq_true (Option.some.inj this).symm
  · intro h
    refine ⟨beq_self_eq_true _, fun p hp => ?_⟩
    obtain ⟨z, mz, rfl⟩ := List.mem_map.mp hp
    have mz' := srt_mem.mp mz
    refine decide_eq_true ?_
    rw [gv_fo o mz', of_decide_eq_true (h z mz')]
theorem leT_fo (o : NsOk ns) : leT (fo ns f) (fo ns g) = leF ns f g := by
  rw [Bool.eq_iff_iff]
  unfold leT leF
  rw [List.all_eq_true, List.all_eq_true, keys_fo]
  constructor
  · intro h z hz
    have := of_decide_eq_true (h z (srt_mem.mpr hz))
    rw [g0_fo o hz, g0_fo o hz] at this
    exact decide_eq_true this
  · intro h z hz
    have hz' := srt_mem.mp hz
    refine decide_eq_true ?_
    rw [g0_fo o hz', g0_fo o hz']
    exact of_decide_eq_true (h z hz')
theorem eqF_true (e : ∀ z, f z = g z) : eqF ns f g = true := List.all_eq_true.mpr fun z _ => decide_eq_true (e z)
theorem leF_true (e : ∀ z, f z ≤ g z) : leF ns f g = true := List.all_eq_true.mpr fun z _ => decide_eq_true (e z)
theorem mn_le (i j : Int) : mn2 i j = i ↔ i ≤ j := by
  unfold mn2
  split <;> omega
theorem mx_le (i j : Int) : mx2 i j = j ↔ i ≤ j := by
  unfold mx2
  split <;> omega
theorem eqF_mn : eqF ns (fun z => mn2 (f z) (g z)) f = leF ns f g := by
  unfold eqF leF
  congr 1
  funext z
  exact decide_eq_decide.mpr (mn_le _ _)
theorem eqF_mx : eqF ns (fun z => mx2 (f z) (g z)) g = leF ns f g := by
  unfold eqF leF
  congr 1
  funext z
  exact decide_eq_decide.mpr (mx_le _ _)
/-- told times and the law's own -/
theorem eqT_both {t u : Tb} {op : Int → Int → Int} (nd : (keys t).Nodup) : eqT (fo (keys t) fun z => op (g0 t z) (g0 u z)) (both op t u) = true := by
  refine eqT_of (by rw [fo_len, both_len, keys_len]) (fun z hz => ?_) (by rw [keys_fo]; exact srt_nodup nd)
  rw [keys_fo] at hz
  have mz := srt_mem.mp hz
  have e1 : gv (both op t u) z = some (op (g0 t z) (g0 u z)) := gv_of (by rw [keys_both]; exact nd) (List.mem_map.mpr ⟨z, mz, rfl⟩)
  have e2 : gv (fo (keys t) fun z => op (g0 t z) (g0 u z)) z = some (op (g0 t z) (g0 u z)) := gv_of (by rw [keys_fo]; exact srt_nodup nd) (List.mem_map.mpr ⟨z, hz, rfl⟩)
  rw [e1]
  show _ = some ((gv _ z).getD 0)
  rw [e2]
  rfl
end
/-- x is the run of these times -/
def RF (cR : Addr) (H : Hp) (x : Addr) (ns : List Str) (f : Str → Int) : Prop := ∃ e, RAt cR H x e (fo ns f)
theorem RF.sm {cR : Addr} {H H' : Hp} {x : Addr} {ns : List Str} {f : Str → Int} (h : RF cR H x ns f) (s : Same H H') : RF cR H' x ns f := by
  obtain ⟨e, r⟩ := h
  exact ⟨e, r.sm s⟩
theorem RF.keep {cR : Addr} {H H' : Hp} {x : Addr} {ns : List Str} {f : Str → Int} (h : RF cR H x ns f) (s : ∀ q o, H q = some o → (∀ xs, o ≠ .lst xs) → H' q = some o) : RF cR H' x ns f := by
  obtain ⟨e, r⟩ := h
  obtain ⟨dx, hi⟩ := r.ins
  exact ⟨e, ⟨⟨dx, s _ _ hi (fun _ q => by cases q)⟩, s _ _ r.tab (fun _ q => by cases q)⟩⟩
theorem RF.ins {cR : Addr} {H : Hp} {x : Addr} {ns : List Str} {f : Str → Int} (h : RF cR H x ns f) : ∃ dx e, H x = some (.ins cR dx [("_times", .ref e)]) := by
  obtain ⟨e, r⟩ := h
  obtain ⟨dx, hi⟩ := r.ins
  exact ⟨dx, e, hi⟩
section
variable {P : Program} {w : World} {K : PySem.W.Frag} {mg : Str → Option Value} {base : Heap} {cR cB : Addr} {ns : List Str} {f g : Str → Int} {a b : Addr} {H : Hp} {Q : VK} {E : XK}
theorem both_go {op : Int → Int → Int} (o : NsOk ns) (ra : RF cR H a ns f) (rb : RF cR H b ns g) (go : ∀ x H', H x = none → Same H H' → RF cR H' x ns (fun z => op (f z) (g z)) → Q (.ref x) H') : rOwnO cR (spBothR cR op) (.ref a) (.ref b) H Q := by
  obtain ⟨e, ra⟩ := ra
  obtain ⟨c, rb⟩ := rb
  obtain ⟨dx, hi⟩ := ra.ins
  obtain ⟨dy, hb⟩ := rb.ins
  refine ⟨a, b, dx, dy, _, _, rfl, rfl, hi, hb, a, e, b, c, _, _, rfl, ra, rb, by rw [keys_fo, keys_fo], o.fo f, by rw [fo_len]; exact o.pos, by rw [fo_len]; exact o.le, fun x e' H' nx _ s r => ?_⟩
  rw [both_fo o] at r
  exact go x H' nx s ⟨e', r⟩
theorem done_go {way : Str} {op : Int → Int → Int} (o : NsOk ns) (wo : (way = "&" ∧ op = mn2) ∨ (way = "|" ∧ op = mx2)) (ra : RF cR H a ns f) (rb : RF cR H b ns g) (go : ∀ x H', H x = none → Same H H' → RF cR H' x ns (fun z => op (f z) (g z)) → Q (.ref x) H') : spDone cR [.ref a, .ref b, .str way] H Q E := by
  obtain ⟨e, ra⟩ := ra
  obtain ⟨c, rb⟩ := rb
  refine ⟨a, e, b, c, _, _, way, op, rfl, wo, ra, rb, by rw [keys_fo, keys_fo], o.fo f, by rw [fo_len]; exact o.pos, by rw [fo_len]; exact o.le, fun x e' H' nx _ s r => ?_⟩
  rw [both_fo o] at r
  exact go x H' nx s ⟨e', r⟩
theorem eq_go (U : TopS P w K mg base cR cB) (o : NsOk ns) (ra : RF cR H a ns f) (rb : RF cR H b ns g) (go : Q (.bl (eqF ns f g)) H) : rEqO K cR (spEqR K cR) (.ref a) (.ref b) H Q := by
  obtain ⟨e, ra⟩ := ra
  obtain ⟨c, rb⟩ := rb
  obtain ⟨dx, hi⟩ := ra.ins
  obtain ⟨dy, hb⟩ := rb.ins
  rw [← eqT_fo o] at go
  exact ⟨a, dx, _, _, rfl, hi, U.T.own.ty hb, U.nf, a, e, _, _, rfl, ra, .inl ⟨b, c, _, rfl, rb, go⟩⟩
theorem am_go (o : NsOk ns) (ra : RF cR H a ns f) (rb : RF cR H b ns g) (go : ∀ H', Same H H' → Q (.bl (leF ns f g)) H') : spAtMost cR [.ref a, .ref b] H Q E := by
  obtain ⟨e, ra⟩ := ra
  obtain ⟨c, rb⟩ := rb
  refine ⟨a, e, b, c, _, _, rfl, ra, rb, by rw [keys_fo, keys_fo], o.fo f, by rw [fo_len]; exact o.le, fun H' s => ?_⟩
  rw [leT_fo o]
  exact go H' s
theorem plus_go {n : Int} (o : NsOk ns) (ra : RF cR H a ns f) (go : ∀ x H', H x = none → Same H H' → RF cR H' x ns (fun z => f z + n) → Q (.ref x) H') : rOwnI cR (spPlusR cR id) (.ref a) (.int n) H Q := by
  obtain ⟨e, ra⟩ := ra
  obtain ⟨dx, hi⟩ := ra.ins
  refine ⟨a, dx, _, n, rfl, rfl, hi, a, e, _, n, rfl, ra, o.fo f, by rw [fo_len]; exact o.pos, by rw [fo_len]; exact o.le, fun x e' H' nx _ s r => ?_⟩
  rw [show id n = n from rfl, shf_fo o] at r
  exact go x H' nx s ⟨e', r⟩
theorem radd_go {n : Int} (o : NsOk ns) (ra : RF cR H a ns f) (go : ∀ x H', H x = none → Same H H' → RF cR H' x ns (fun z => f z + n) → Q (.ref x) H') : rIOwn cR (spPlusR cR id) (.int n) (.ref a) H Q := by
  obtain ⟨e, ra⟩ := ra
  obtain ⟨dx, hi⟩ := ra.ins
  refine ⟨a, dx, _, n, rfl, rfl, hi, a, e, _, n, rfl, ra, o.fo f, by rw [fo_len]; exact o.pos, by rw [fo_len]; exact o.le, fun x e' H' nx _ s r => ?_⟩
  rw [show id n = n from rfl, shf_fo o] at r
  exact go x H' nx s ⟨e', r⟩
theorem times_go (ra : RF cR H a ns f) (go : ∀ p H', H p = none → Same H H' → Tab H' p (fo ns f) → Q (.ref p) H') : spTimesR cR [.ref a] H Q E := by
  obtain ⟨e, ra⟩ := ra
  exact ⟨a, e, _, rfl, ra, go⟩
end
end E10

set_option Elab.async false
set_option linter.all false
set_option maxRecDepth 100000
set_option maxHeartbeats 16000000
namespace E10
open L2 PySem PySem.Spec PyProof.Rows
/-! ### the same promises, closed: a step names them and nothing looks through -/
@[irreducible] def kDone (cR : Addr) : Sp := spDone cR
@[irreducible] def kAm (cR : Addr) : Sp := spAtMost cR
@[irreducible] def kTi (cR : Addr) : Sp := spTimesR cR
@[irreducible] def kOp (cR : Addr) (op : Int → Int → Int) : R2 := rOwnO cR (spBothR cR op)
@[irreducible] def kEq (K : PySem.W.Frag) (cR : Addr) : R2 := rEqO K cR (spEqR K cR)
@[irreducible] def kPl (cR : Addr) : R2 := rOwnI cR (spPlusR cR id)
@[irreducible] def kRa (cR : Addr) : R2 := rIOwn cR (spPlusR cR id)
theorem kDone_eq (cR : Addr) : kDone cR = spDone cR := by unfold kDone; rfl
theorem kAm_eq (cR : Addr) : kAm cR = spAtMost cR := by unfold kAm; rfl
theorem kTi_eq (cR : Addr) : kTi cR = spTimesR cR := by unfold kTi; rfl
theorem kOp_eq (cR : Addr) (op : Int → Int → Int) : kOp cR op = rOwnO cR (spBothR cR op) := by unfold kOp; rfl
theorem kEq_eq (K : PySem.W.Frag) (cR : Addr) : kEq K cR = rEqO K cR (spEqR K cR) := by unfold kEq; rfl
theorem kPl_eq (cR : Addr) : kPl cR = rOwnI cR (spPlusR cR id) := by unfold kPl; rfl
theorem kRa_eq (cR : Addr) : kRa cR = rIOwn cR (spPlusR cR id) := by unfold kRa; rfl
section
variable {X : Cx} {cR cB : Addr}
theorem op_andK (U : TopS X.prog X.w X.K X.mg X.base cR cB) (hG : X.A.guards = some []) (room : Room 6 X.A) : OpR X (binaryOp .BitAnd) (kOp cR mn2) := by
  rw [kOp_eq]
  exact op_andR U.T U.An hG room
theorem op_orK (U : TopS X.prog X.w X.K X.mg X.base cR cB) (hG : X.A.guards = some []) (room : Room 6 X.A) : OpR X (binaryOp .BitOr) (kOp cR mx2) := by
  rw [kOp_eq]
  exact op_orR U.T U.Or hG room
theorem op_eqK (U : TopS X.prog X.w X.K X.mg X.base cR cB) (hG : X.A.guards = some []) (room : Room 1 X.A) (hu : X.A.units < cLine) : OpR X (compareOp .Eq) (kEq X.K cR) := by
  rw [kEq_eq]
  obtain ⟨fQ, fdQ, hQ, FQ, bQ⟩ := U.eq
  exact op_eqO (.of FQ) hG room hu bQ hQ
theorem op_plusK (U : TopS X.prog X.w X.K X.mg X.base cR cB) (hG : X.A.guards = some []) (room : Room 6 X.A) : OpR X (binaryOp .Add) (kPl cR) := by
  rw [kPl_eq]
  exact op_plusR U.T U.A hG room
theorem op_raddK (U : TopS X.prog X.w X.K X.mg X.base cR cB) (hG : X.A.guards = some []) (room : Room 7 X.A) : OpR X (binaryOp .Add) (kRa cR) := by
  rw [kRa_eq]
  exact op_raddR U.T U.A U.R hG room
end
section
variable {P : Program} {w : World} {K : PySem.W.Frag} {mg : Str → Option Value} {base : Heap} {cR cB : Addr} {ns : List Str} {f g : Str → Int} {a b : Addr} {H : Hp} {Q : VK} {E : XK}
theorem both_gk {op : Int → Int → Int} (o : NsOk ns) (ra : RF cR H a ns f) (rb : RF cR H b ns g) (go : ∀ x H', H x = none → Same H H' → RF cR H' x ns (fun z => op (f z) (g z)) → Q (.ref x) H') : kOp cR op (.ref a) (.ref b) H Q := by
  rw [kOp_eq]
  exact both_go o ra rb go
theorem done_gk {way : Str} {op : Int → Int → Int} (o : NsOk ns) (wo : (way = "&" ∧ op = mn2) ∨ (way = "|" ∧ op = mx2)) (ra : RF cR H a ns f) (rb : RF cR H b ns g) (go : ∀ x H', H x = none → Same H H' → RF cR H' x ns (fun z => op (f z) (g z)) → Q (.ref x) H') : kDone cR [.ref a, .ref b, .str way] H Q E := by
  rw [kDone_eq]
  exact done_go o wo ra rb go
theorem eq_gk (U : TopS P w K mg base cR cB) (o : NsOk ns) (ra : RF cR H a ns f) (rb : RF cR H b ns g) (go : Q (.bl (eqF ns f g)) H) : kEq K cR (.ref a) (.ref b) H Q := by
  rw [kEq_eq]
  exact eq_go U o ra rb go
theorem am_gk (o : NsOk ns) (ra : RF cR H a ns f) (rb : RF cR H b ns g) (go : ∀ H', Same H H' → Q (.bl (leF ns f g)) H') : kAm cR [.ref a, .ref b] H Q E := by
  rw [kAm_eq]
  exact am_go o ra rb go
theorem plus_gk {n : Int} (o : NsOk ns) (ra : RF cR H a ns f) (go : ∀ x H', H x = none → Same H H' → RF cR H' x ns (fun z => f z + n) → Q (.ref x) H') : kPl cR (.ref a) (.int n) H Q := by
  rw [kPl_eq]
  exact plus_go o ra go
theorem radd_gk {n : Int} (o : NsOk ns) (ra : RF cR H a ns f) (go : ∀ x H', H x = none → Same H H' → RF cR H' x ns (fun z => f z + n) → Q (.ref x) H') : kRa cR (.int n) (.ref a) H Q := by
  rw [kRa_eq]
  exact radd_go o ra go
theorem times_gk (ra : RF cR H a ns f) (go : ∀ p H', H p = none → Same H H' → Tab H' p (fo ns f) → Q (.ref p) H') : kTi cR [.ref a] H Q E := by
  rw [kTi_eq]
  exact times_go ra go
end
end E10

set_option Elab.async false
set_option linter.all false
set_option maxRecDepth 100000
set_option maxHeartbeats 16000000
namespace E10
open L2 PySem PySem.Spec PyProof.Rows
section
variable {X : Cx}
def rReprB : List V → Hp → VK → Prop := fun xs H Q => ∃ b : Bool, xs = [.bl b] ∧ Q (.str (if b then "True" else "False")) H
theorem call_repr_bl : CallR X (.builtin "repr") rReprB := by
  intro pins s σ H xs us Q I r h
  obtain ⟨b, rfl, q⟩ := h
  obtain ⟨u, rfl, ru⟩ := vals1 r
  cases (show u = Value.bool b from ru)
  exact PySem.P.repr_of_bool ⟨.str _, H, I.tok _, ⟨_, rfl⟩, q⟩
end
theorem way2 {i : Nat} {x : V} (h : [V.str "&", V.str "|"][i]? = some x) : ∃ (way : Str) (op : Int → Int → Int), x = .str way ∧ ((way = "&" ∧ op = mn2) ∨ (way = "|" ∧ op = mx2)) := by
  match i, h with
  | 0, h => exact ⟨_, mn2, (Option.some.inj h).symm, .inl ⟨rfl, rfl⟩⟩
  | 1, h => exact ⟨_, mx2, (Option.some.inj h).symm, .inr ⟨rfl, rfl⟩⟩
  | n + 2, h => cases h
theorem mn_comm (i j : Int) : mn2 i j = mn2 j i := by
  unfold mn2
  split <;> split <;> omega
theorem mx_comm (i j : Int) : mx2 i j = mx2 j i := by
  unfold mx2
  split <;> split <;> omega
theorem op_comm {way : Str} {op : Int → Int → Int} (wo : (way = "&" ∧ op = mn2) ∨ (way = "|" ∧ op = mx2)) (i j : Int) : op i j = op j i := by
  rcases wo with ⟨_, rfl⟩ | ⟨_, rfl⟩
  · exact mn_comm _ _
  · exact mx_comm _ _
theorem mn_mx (i j : Int) : mn2 i (mx2 i j) = i := by
  unfold mn2 mx2
  split <;> split at * <;> omega
theorem mx_mn (i j : Int) : mx2 i (mn2 i j) = i := by
  unfold mn2 mx2
  split <;> split at * <;> omega
theorem mn_le' (i j : Int) : mn2 i j ≤ i := by
  unfold mn2
  split <;> omega
theorem mx_ge (i j : Int) : j ≤ mx2 i j := by
  unfold mx2
  split <;> omega
section
variable {P : Program} {w : World} {K : PySem.W.Frag} {mg : Str → Option Value} {base : Heap} {f cR cB : Addr} {fd : FuncData}
def spPair (cR : Addr) : Sp := fun vs H Q _ => ∃ (a b c d : Addr) (t u : Tb), vs = [.ref a, .ref b, .ref c, .ref d] ∧ RF cR H a (keys t) (g0 t) ∧ RF cR H b (keys t) (g0 u) ∧ H c = some (.dK (kv t)) ∧ H d = some (.dK (kv u)) ∧ c ≠ d ∧ keys t = keys u ∧ Okt t ∧ 0 < t.length ∧ t.length ≤ 8 ∧
  ∀ H', Same H H' → Q (.bl true) H'
abbrev nIsPairRight : List Str := ["_law_one", "_law_other", "_law_times", "_law_more", "_law_way", "_law_told", "_law_truth", "_law_name"]
theorem scIsPairRight : FnScope nIsPairRight ["_law_one", "_law_other", "_law_times", "_law_more"] (defScope s__law_is_pair_right) := ⟨rfl, rfl, rfl, by decide +kernel, rfl, by decide +kernel, by decide +kernel⟩
theorem ok_pair (N : Nam mg) (U : TopS P w K mg base cR cB) (DO : DefG P w K mg base "_law_done" ["_law_one", "_law_other", "_law_way"] 7 (kDone cR)) (DB : Def P w K mg base "_law_both" ["_law_one", "_law_other", "_law_way"] 1 spBoth) (F : Fun K "_law_is_pair_right" "_law_is_pair_right" s__law_is_pair_right f fd) :
    FnG P w K mg base 8 f fd ["_law_one", "_law_other", "_law_times", "_law_more"] (spPair cR) := by
  refine Fun.okG F scIsPairRight (fun {vs H Q E} h => ?_) (fun cdv A outer s H vs Q E hG hr h => ?_)
  · obtain ⟨_, _, _, _, _, _, rfl, _⟩ := h
    rfl
  · obtain ⟨a, b, c, d, t, u, rfl, ra, rb, hc, hd, cd, ke, o, pos, le, go⟩ := h
    have hu := hr.units
    have T := U.T
    obtain ⟨fT, fdT, mT, FT, bT⟩ := U.ti
    rw [← kTi_eq] at FT
    obtain ⟨fA, fdA, mA, FA, bA⟩ := U.am
    rw [← kAm_eq] at FA
    have no : NsOk (keys t) := NsOk.of o pos le
    refine ⟨_, (pss_cons (ps_for PassesOwn.never rfl (pi_list (pe_lst (pa_cons pe_str (pa_cons pe_str pa_nil)))) (pg_name (i := 4) scIsPairRight.nd rfl (Or.inl rfl))
        (pss_cons (ps_set (i := 5) scIsPairRight.nd rfl (Or.inl rfl) (callDG DO hG (hr.mono (by decide)) rfl (pa_cons (pv 0) (pa_cons (pv 1) (pa_cons (pv 4) pa_nil)))))
        (pss_one (ps_if (PW.pt (pw_or (pt_cmpR (op_neT (u0 hu)) (pe_meth0 (pv 5) T.own.cl mT FT (hr.mono (by decide)) bT .nil pass0) (callD DB (hr.mono (by decide)) rfl (pa_cons (pv 2) (pa_cons (pv 3) (pa_cons (pv 4) pa_nil)))) (nomark _)) (pw_or1 (pt_not (pt_cmpR (op_eqK U hG (hr.mono (by decide)) (u0 hu)) (pv 5) (callDG DO hG (hr.mono (by decide)) rfl (pa_cons (pv 1) (pa_cons (pv 0) (pa_cons (pv 4) pa_nil)))) (nomark _)))))) (pss_one (ps_ret pe_bl)) pss_nil))))
      (pss_cons (ps_set (i := 6) scIsPairRight.nd rfl (Or.inl rfl) (pe_callB (cr_all rfl) rfl N.all_ boot_all' (pa_cons (pe_lock (pe_lc (own := [("_law_name", 7)]) (g := (gName 7)) (tt := tYes) (te := (tOp (rI0 fun i j => .bl (decide (i ≤ j))) (tDGet (tVar 2) (tVar 7)) (tDGet (tVar 3) (tVar 7)))) rfl scIsPairRight.nd (pi_keys (pv 2))
        (blkOk_by (own := [("_law_name", 7)]) (N := nIsPairRight) (sc := defScope s__law_is_pair_right) (by decide +kernel)) (fun _ _ _ _ _ => (pg_name (i := 7) scIsPairRight.nd rfl (Or.inl rfl))) (fun _ _ _ _ _ => pts_nil)
        (fun _ _ _ _ _ => (pe_cmpR op_le (pe_dget (u1 hu) (pv 2) (pv 7) (fun _ _ => rfl)) (pe_dget (u1 hu) (pv 3) (pv 7) (fun _ _ => rfl)) (nomark _))))) pa_nil)))
      (pss_cons (ps_if (pt_cmpR op_ne (pe_callB call_repr_bl rfl N.rep boot_repr (pa_cons (pe_methG (pv 0) T.own.cl mA FA hG (hr.mono (by decide)) bA (pa_cons (pv 1) pa_nil)) pa_nil)) (pe_callB call_repr_bl rfl N.rep boot_repr (pa_cons (pv 6) pa_nil)) (nomark _)) (pss_one (ps_ret pe_bl)) pss_nil)
      (pss_cons (ps_if (PW.pt (pw_or (pt_cmpR op_ne (pe_cmpR (op_eqK U hG (hr.mono (by decide)) (u0 hu)) (pe_op (op_andK U hG (hr.mono (by decide))) (pv 0) (pv 1)) (pv 0) (nomark _)) (pv 6) (nomark _)) (pw_or1 (pt_cmpR op_ne (pe_cmpR (op_eqK U hG (hr.mono (by decide)) (u0 hu)) (pe_op (op_orK U hG (hr.mono (by decide))) (pv 0) (pv 1)) (pv 1) (nomark _)) (pv 6) (nomark _))))) (pss_one (ps_ret pe_bl)) pss_nil)
      (pss_one (ps_ret (pe_and (pe_cmpR (op_eqK U hG (hr.mono (by decide)) (u0 hu)) (pe_op (op_andK U hG (hr.mono (by decide))) (pv 0) (pe_op (op_orK U hG (hr.mono (by decide))) (pv 0) (pv 1))) (pv 0) (nomark _)) (pe_and (pe_cmpR (op_eqK U hG (hr.mono (by decide)) (u0 hu)) (pe_op (op_orK U hG (hr.mono (by decide))) (pv 0) (pe_op (op_andK U hG (hr.mono (by decide))) (pv 0) (pv 1))) (pv 0) (nomark _)) (pe_one (pe_methG (pv 0) T.own.cl mA FA hG (hr.mono (by decide)) bA (pa_cons (pv 0) pa_nil))))))))))), ?_⟩
    refine ⟨by show 2 ≤ sizeLine; decide, fun S nS => ?_⟩
    have w0 := new_same (o := .lst [.str "&", .str "|"]) nS
    have hS : upd H S (.lst [.str "&", .str "|"]) S = some (.lst [.str "&", .str "|"]) := upd_same
    replace ra := ra.sm w0
    replace rb := rb.sm w0
    replace hc := w0 _ _ hc
    replace hd := w0 _ _ hd
    generalize upd H S (.lst [.str "&", .str "|"]) = H1 at *
    refine ⟨S, rfl, ⟨_, .inl (.inl hS)⟩, ?_⟩
    refine for_it (walk_list (xs := [.str "&", .str "|"])) (fun i σ H' => Same H1 H' ∧ ∃ v4 v5, σ = [some (.ref a), some (.ref b), some (.ref c), some (.ref d), v4, v5, none, none]) ⟨Same.refl _, _, _, rfl⟩ (fun i σ H' _ h => .inl (.inl (h.1 _ _ hS))) ?_ ?_
    · rintro i x σ G G' lti ⟨sm, v4, v5, rfl⟩ ⟨rfl, hx⟩
      obtain ⟨way, op, rfl, wo⟩ := way2 hx
      replace ra := ra.sm sm
      replace rb := rb.sm sm
      replace hc := sm _ _ hc
      replace hd := sm _ _ hd
      refine ⟨_, rfl, _, rfl, _, rfl, ?_⟩
      refine done_gk no wo ra rb fun x1 G1 n1 s1 r1 => ?_
      obtain ⟨dx, e1, hi1⟩ := r1.ins
      refine ⟨_, rfl, x1, dx, _, rfl, hi1, rfl, ?_⟩
      refine times_gk r1 fun p G2 np s2 hp => ?_
      have s12 := s1.trans s2
      refine ⟨_, rfl, _, rfl, _, rfl, c, d, t, u, way, op, rfl, wo, s12 _ _ hc, s12 _ _ hd, cd, ke, o, le, fun p2 G3 np2 s3 hp2 => ?_⟩
      refine ⟨p, p2, _, _, rfl, rfl, s3 _ _ hp, hp2, _, rfl, ?_⟩
      rw [eqT_both o.nd]
      have s13 := s12.trans s3
      refine ⟨_, rfl, _, rfl, _, rfl, _, rfl, ?_⟩
      refine done_gk no wo (rb.sm s13) (ra.sm s13) fun x2 G4 n4 s4 r4 => ?_
      refine eq_gk U no (r1.sm ((s2.trans s3).trans s4)) r4 ?_
      rw [eqF_true fun z => op_comm wo _ _]
      exact ⟨true, rfl, sm.trans (s13.trans s4), _, _, rfl⟩
    · rintro σ G ⟨sm, v4, v5, rfl⟩
      replace ra := ra.sm sm
      replace rb := rb.sm sm
      replace hc := sm _ _ hc
      replace hd := sm _ _ hd
      have sG := w0.trans sm
      clear hS sm
      refine ⟨c, _, hc, True.intro, fun od => ?_⟩
      have hF : upd G c (.frz od (.dK (kv t))) c = some (.frz od (.dK (kv t))) := upd_same
      have hdF : upd G c (.frz od (.dK (kv t))) d = some (.dK (kv u)) := (upd_ne cd.symm).trans hd
      have lm : (kv t).length ≤ 1000 := by rw [kv_len]; omega
      refine ⟨_, rfl, c, od, rfl, .inl ⟨kv t, hF, fun D nD => ?_⟩⟩
      refine lc_map walk_keys (fun i => .bl ((t.map fun p => decide (g0 t p.1 ≤ g0 u p.1)).getD i true)) nD lm (fun H' s => s _ _ hF) (fun _ _ _ _ y => by rw [y.1]; exact Same.refl _) ?_ ?_
      · rintro i x H' H'' R lt sm _ ⟨rfl, k, v, hk, rfl⟩ go2
        refine ⟨rfl, ?_⟩
        obtain ⟨z, n, hm, rfl, rfl⟩ := kv_at hk
        have k1 := at_key hm
        refine ⟨_, rfl, _, rfl, c, _, rfl, DGet.tab (.inr ⟨od, sm _ _ hF⟩) k1, ?_⟩
        refine ⟨_, rfl, _, rfl, d, _, rfl, DGet.tab (.inl (sm _ _ hdF)) (ke ▸ k1), ?_⟩
        have e1 : (t.map fun p => decide (g0 t p.1 ≤ g0 u p.1)).getD i true = decide (g0 t z ≤ g0 u z) := by
          rw [List.getD_eq_getElem?_getD, List.getElem?_map, hm]
          rfl
        refine ⟨_, _, rfl, rfl, ?_⟩
        show R (.bl (decide (g0 t z ≤ g0 u z))) H''
        rw [← e1]
        exact go2 _ (Same.refl _)
      · intro H3 s3 hD
        have el : ((List.range (kv t).length).map fun i => V.bl ((t.map fun p => decide (g0 t p.1 ≤ g0 u p.1)).getD i true)) = (t.map fun p => decide (g0 t p.1 ≤ g0 u p.1)).map V.bl := by
          rw [kv_len]
          apply List.ext_getElem
          · simp
          · intro i h1 h2
            simp at h1 h2 ⊢
            simp [h1]
        rw [el] at hD
        refine ⟨s3 _ _ hF, ?_⟩
        have ea : (t.map fun p => decide (g0 t p.1 ≤ g0 u p.1)).all id = leF (keys t) (g0 t) (g0 u) := by
          unfold leF keys
          rw [List.all_map, List.all_map]
          rfl
        have Dc : D ≠ c := (ne_of_none hF nD).symm
        have s4 := locked hc s3
        have hD4 := (upd_ne (H := H3) (o := .dK (kv t)) Dc).trans hD
        generalize upd H3 c (.dK (kv t)) = G4 at *
        refine ⟨D, _, rfl, .inl (.inl hD4), ?_⟩
        rw [ea]
        replace ra := ra.sm s4
        replace rb := rb.sm s4
        have sG4 := sG.trans s4
        clear hF hdF el ea nD hD s3 s4 hD4 hc hd sG
        refine ⟨_, rfl, a, ra.ins.choose, _, rfl, ra.ins.choose_spec.choose_spec, rfl, _, rfl, ?_⟩
        refine am_gk no ra rb fun G5 s5 => ?_
        replace ra := ra.sm s5
        replace rb := rb.sm s5
        have sG5 := sG4.trans s5
        clear s5 sG4
        refine ⟨_, rfl, _, rfl, _, rfl, rfl, _, rfl, ?_⟩
        refine ite2 (fun x => absurd x (by simp)) (fun _ => ?_)
        obtain ⟨dxa, ea, hia⟩ := ra.ins
        obtain ⟨dxb, eb, hib⟩ := rb.ins
        refine ⟨_, rfl, _, rfl, ?_⟩
        refine both_gk no ra rb fun x1 H6 n6 s6 r6 => ?_
        replace ra := ra.sm s6
        replace rb := rb.sm s6
        refine ⟨_, rfl, ?_⟩
        refine eq_gk U no r6 ra ?_
        rw [eqF_mn]
        refine ⟨_, rfl, rfl, _, rfl, ?_⟩
        refine ite2 (fun x => absurd x (by simp)) (fun _ => ?_)
        refine ⟨_, rfl, _, rfl, ?_⟩
        refine both_gk no ra rb fun x2 H7 n7 s7 r7 => ?_
        replace ra := ra.sm s7
        replace rb := rb.sm s7
        refine ⟨_, rfl, ?_⟩
        refine eq_gk U no r7 rb ?_
        rw [eqF_mx]
        refine ⟨_, rfl, rfl, _, rfl, ?_⟩
        refine ite2 (fun x => absurd x (by simp)) (fun _ => ?_)
        have sG7 := (sG5.trans s6).trans s7
        clear s6 s7 r6 r7 sG5
        refine ⟨_, rfl, _, rfl, _, rfl, ?_⟩
        refine both_gk no ra rb fun x3 H8 n8 s8 r8 => ?_
        replace ra := ra.sm s8
        replace rb := rb.sm s8
        refine both_gk no ra r8 fun x4 H9 n9 s9 r9 => ?_
        replace ra := ra.sm s9
        replace rb := rb.sm s9
        refine ⟨_, rfl, ?_⟩
        refine eq_gk U no r9 ra ?_
        rw [eqF_true fun z => mn_mx _ _]
        refine ⟨true, rfl, ?_⟩
        refine ⟨_, rfl, _, rfl, _, rfl, ?_⟩
        refine both_gk no ra rb fun x5 H10 n10 s10 r10 => ?_
        replace ra := ra.sm s10
        replace rb := rb.sm s10
        refine both_gk no ra r10 fun x6 H11 n11 s11 r11 => ?_
        replace ra := ra.sm s11
        refine ⟨_, rfl, ?_⟩
        refine eq_gk U no r11 ra ?_
        rw [eqF_true fun z => mx_mn _ _]
        refine ⟨true, rfl, ?_⟩
        obtain ⟨dxc, ec, hic⟩ := ra.ins
        refine ⟨_, rfl, a, dxc, _, rfl, hic, rfl, _, rfl, ?_⟩
        refine am_gk no ra ra fun G12 s12 => ?_
        rw [leF_true fun z => Int.le_refl _]
        exact go _ (sG7.trans (s8.trans (s9.trans (s10.trans (s11.trans s12)))))
end
end E10

set_option Elab.async false
set_option linter.all false
set_option maxRecDepth 100000
set_option maxHeartbeats 16000000
namespace E10
open L2 PySem PySem.Spec PyProof.Rows
theorem mn_assoc (i j k : Int) : mn2 (mn2 i j) k = mn2 i (mn2 j k) := by
  unfold mn2
  split <;> split <;> (try split) <;> omega
theorem mx_assoc (i j k : Int) : mx2 (mx2 i j) k = mx2 i (mx2 j k) := by
  unfold mx2
  split <;> split <;> (try split) <;> omega
theorem mn_dist (i j k : Int) : mn2 i (mx2 j k) = mx2 (mn2 i j) (mn2 i k) := by
  unfold mn2 mx2
  repeat' split
  all_goals omega
theorem mx_dist (i j k : Int) : mx2 i (mn2 j k) = mn2 (mx2 i j) (mx2 i k) := by
  unfold mn2 mx2
  repeat' split
  all_goals omega
theorem mn_add (i j n : Int) : mn2 i j + n = mn2 (i + n) (j + n) := by
  unfold mn2
  split <;> split <;> omega
theorem mx_add (i j n : Int) : mx2 i j + n = mx2 (i + n) (j + n) := by
  unfold mx2
  split <;> split <;> omega
/-- one of the two ways and the other one -/
structure Ways (way back : Str) (op po : Int → Int → Int) : Prop where
  o : (way = "&" ∧ op = mn2) ∨ (way = "|" ∧ op = mx2)
  p : (back = "&" ∧ po = mn2) ∨ (back = "|" ∧ po = mx2)
  as : ∀ i j k, op (op i j) k = op i (op j k)
  di : ∀ i j k, op i (po j k) = po (op i j) (op i k)
  ad : ∀ i j n : Int, op i j + n = op (i + n) (j + n)
theorem ways_mn : Ways "&" "|" mn2 mx2 := ⟨.inl ⟨rfl, rfl⟩, .inr ⟨rfl, rfl⟩, mn_assoc, mn_dist, mn_add⟩
theorem ways_mx : Ways "|" "&" mx2 mn2 := ⟨.inr ⟨rfl, rfl⟩, .inl ⟨rfl, rfl⟩, mx_assoc, mx_dist, mx_add⟩
theorem ways2 {i : Nat} {x : V} {p q : Addr} (h : [V.ref p, V.ref q][i]? = some x) : (x = .ref p ∨ x = .ref q) := by
  match i, h with
  | 0, h => exact .inl (Option.some.inj h).symm
  | 1, h => exact .inr (Option.some.inj h).symm
  | n + 2, h => cases h
section
variable {P : Program} {w : World} {K : PySem.W.Frag} {mg : Str → Option Value} {base : Heap} {f cR cB : Addr} {fd : FuncData}
def spTriple (cR : Addr) : Sp := fun vs H Q _ => ∃ (L a b c : Addr) (n : Int) (ns : List Str) (f1 f2 f3 : Str → Int), vs = [.ref L, .int n] ∧ H L = some (.lst [.ref a, .ref b, .ref c]) ∧ NsOk ns ∧ RF cR H a ns f1 ∧ RF cR H b ns f2 ∧ RF cR H c ns f3 ∧
  ∀ H', Same H H' → Q (.bl true) H'
abbrev nIsTripleRight : List Str := ["_law_runs", "_law_number", "_law_one", "_law_two", "_law_three", "_law_way", "_law_back", "_law_far", "_law_inner"]
theorem scIsTripleRight : FnScope nIsTripleRight ["_law_runs", "_law_number"] (defScope s__law_is_triple_right) := ⟨rfl, rfl, rfl, by decide +kernel, rfl, by decide +kernel, by decide +kernel⟩
theorem ok_triple (N : Nam mg) (U : TopS P w K mg base cR cB) (DO : DefG P w K mg base "_law_done" ["_law_one", "_law_other", "_law_way"] 7 (kDone cR)) (F : Fun K "_law_is_triple_right" "_law_is_triple_right" s__law_is_triple_right f fd) :
    FnG P w K mg base 8 f fd ["_law_runs", "_law_number"] (spTriple cR) := by
  refine Fun.okG F scIsTripleRight (fun {vs H Q E} h => ?_) (fun cdv A outer s H vs Q E hG hr h => ?_)
  · obtain ⟨_, _, _, _, _, _, _, _, _, rfl, _⟩ := h
    rfl
  · obtain ⟨L, a, b, c, n, ns, f1, f2, f3, rfl, hL, no, ra, rb, rc, go⟩ := h
    have hu := hr.units
    have T := U.T
    obtain ⟨fT, fdT, mT, FT, bT⟩ := U.ti
    rw [← kTi_eq] at FT
    obtain ⟨fA, fdA, mA, FA, bA⟩ := U.am
    rw [← kAm_eq] at FA
    refine ⟨_, (pss_cons (ps_asg (pv 0) (pg_unl rfl (pgs_cons (pg_name (i := 2) scIsTripleRight.nd rfl (Or.inl rfl)) (pgs_cons (pg_name (i := 3) scIsTripleRight.nd rfl (Or.inl rfl)) (pgs_cons (pg_name (i := 4) scIsTripleRight.nd rfl (Or.inl rfl)) pgs_nil)))))
      (pss_cons (ps_for PassesOwn.never rfl (pi_list (pe_lst (pa_cons (pe_tup (pa_cons pe_str (pa_cons pe_str pa_nil))) (pa_cons (pe_tup (pa_cons pe_str (pa_cons pe_str pa_nil))) pa_nil)))) (pg_tup rfl (pgs_cons (pg_name (i := 5) scIsTripleRight.nd rfl (Or.inl rfl)) (pgs_cons (pg_name (i := 6) scIsTripleRight.nd rfl (Or.inl rfl)) pgs_nil)))
        (pss_cons (ps_set (i := 7) scIsTripleRight.nd rfl (Or.inl rfl) (callDG DO hG (hr.mono (by decide)) rfl (pa_cons (callDG DO hG (hr.mono (by decide)) rfl (pa_cons (pv 2) (pa_cons (pv 3) (pa_cons (pv 5) pa_nil)))) (pa_cons (pv 4) (pa_cons (pv 5) pa_nil)))))
        (pss_cons (ps_if (pt_not (pt_cmpR (op_eqK U hG (hr.mono (by decide)) (u0 hu)) (pv 7) (callDG DO hG (hr.mono (by decide)) rfl (pa_cons (pv 2) (pa_cons (callDG DO hG (hr.mono (by decide)) rfl (pa_cons (pv 3) (pa_cons (pv 4) (pa_cons (pv 5) pa_nil)))) (pa_cons (pv 5) pa_nil)))) (nomark _))) (pss_one (ps_ret pe_bl)) pss_nil)
        (pss_cons (ps_set (i := 8) scIsTripleRight.nd rfl (Or.inl rfl) (callDG DO hG (hr.mono (by decide)) rfl (pa_cons (pv 2) (pa_cons (callDG DO hG (hr.mono (by decide)) rfl (pa_cons (pv 3) (pa_cons (pv 4) (pa_cons (pv 6) pa_nil)))) (pa_cons (pv 5) pa_nil)))))
        (pss_cons (ps_if (pt_not (pt_cmpR (op_eqK U hG (hr.mono (by decide)) (u0 hu)) (pv 8) (callDG DO hG (hr.mono (by decide)) rfl (pa_cons (callDG DO hG (hr.mono (by decide)) rfl (pa_cons (pv 2) (pa_cons (pv 3) (pa_cons (pv 5) pa_nil)))) (pa_cons (callDG DO hG (hr.mono (by decide)) rfl (pa_cons (pv 2) (pa_cons (pv 4) (pa_cons (pv 5) pa_nil)))) (pa_cons (pv 6) pa_nil)))) (nomark _))) (pss_one (ps_ret pe_bl)) pss_nil)
        (pss_one (ps_if (pt_not (pt_cmpR (op_eqK U hG (hr.mono (by decide)) (u0 hu)) (pe_op (op_plusK U hG (hr.mono (by decide))) (callDG DO hG (hr.mono (by decide)) rfl (pa_cons (pv 2) (pa_cons (pv 3) (pa_cons (pv 5) pa_nil)))) (pv 1)) (callDG DO hG (hr.mono (by decide)) rfl (pa_cons (pe_op (op_raddK U hG (hr.mono (by decide))) (pv 1) (pv 2)) (pa_cons (pe_op (op_plusK U hG (hr.mono (by decide))) (pv 3) (pv 1)) (pa_cons (pv 5) pa_nil)))) (nomark _))) (pss_one (ps_ret pe_bl)) pss_nil)))))))
      (pss_one (ps_ret (pe_and (pe_methG (pe_op (op_andK U hG (hr.mono (by decide))) (pv 2) (pv 3)) T.own.cl mA FA hG (hr.mono (by decide)) bA (pa_cons (pv 2) pa_nil)) (pe_one (pe_methG (pv 3) T.own.cl mA FA hG (hr.mono (by decide)) bA (pa_cons (pe_op (op_orK U hG (hr.mono (by decide))) (pv 2) (pv 3)) pa_nil)))))))), ?_⟩
    refine ⟨_, rfl, L, _, rfl, .inl (.inl hL), rfl, _, _, rfl, _, _, rfl, _, _, rfl, rfl, ?_⟩
    refine ⟨by show 2 ≤ sizeLine; decide, fun T1 nT1 => ⟨by show 2 ≤ sizeLine; decide, fun T2 nT2 => ⟨by show 2 ≤ sizeLine; decide, fun S nS => ?_⟩⟩⟩
    have w1 := new_same (o := .tup [.str "&", .str "|"]) nT1
    have hT1 : upd H T1 (.tup [.str "&", .str "|"]) T1 = some (.tup [.str "&", .str "|"]) := upd_same
    replace ra := ra.sm w1
    replace rb := rb.sm w1
    replace rc := rc.sm w1
    generalize upd H T1 (.tup [.str "&", .str "|"]) = H1 at *
    have w2 := new_same (o := .tup [.str "|", .str "&"]) nT2
    have hT2 : upd H1 T2 (.tup [.str "|", .str "&"]) T2 = some (.tup [.str "|", .str "&"]) := upd_same
    replace ra := ra.sm w2
    replace rb := rb.sm w2
    replace rc := rc.sm w2
    replace hT1 := w2 _ _ hT1
    generalize upd H1 T2 (.tup [.str "|", .str "&"]) = H2 at *
    have w3 := new_same (o := .lst [.ref T1, .ref T2]) nS
    have hS : upd H2 S (.lst [.ref T1, .ref T2]) S = some (.lst [.ref T1, .ref T2]) := upd_same
    replace ra := ra.sm w3
    replace rb := rb.sm w3
    replace rc := rc.sm w3
    replace hT1 := w3 _ _ hT1
    replace hT2 := w3 _ _ hT2
    generalize upd H2 S (.lst [.ref T1, .ref T2]) = H3 at *
    have sH := (w1.trans w2).trans w3
    clear w1 w2 w3 nT1 nT2 nS
    refine ⟨S, rfl, ⟨_, .inl (.inl hS)⟩, ?_⟩
    refine for_it (walk_list (xs := [.ref T1, .ref T2])) (fun i σ H' => Same H3 H' ∧ ∃ v5 v6 v7 v8, σ = [some (.ref L), some (.int n), some (.ref a), some (.ref b), some (.ref c), v5, v6, v7, v8]) ⟨Same.refl _, _, _, _, _, rfl⟩ (fun i σ H' _ h => .inl (.inl (h.1 _ _ hS))) ?_ ?_
    · rintro i x σ G G' lti ⟨sm, v5, v6, v7, v8, rfl⟩ ⟨rfl, hx⟩
      obtain ⟨T0, way, back, op, po, rfl, hT, W⟩ : ∃ (T0 : Addr) (way back : Str) (op po : Int → Int → Int), x = .ref T0 ∧ H3 T0 = some (.tup [.str way, .str back]) ∧ Ways way back op po := by
        rcases ways2 hx with rfl | rfl
        · exact ⟨_, _, _, _, _, rfl, hT1, ways_mn⟩
        · exact ⟨_, _, _, _, _, rfl, hT2, ways_mx⟩
      replace ra := ra.sm sm
      replace rb := rb.sm sm
      replace rc := rc.sm sm
      replace hT := sm _ _ hT
      clear hS hT1 hT2 hx
      refine ⟨T0, _, rfl, .inl (.inl hT), rfl, _, _, rfl, _, _, rfl, rfl, ?_⟩
      -- far
      refine ⟨_, rfl, _, rfl, _, rfl, ?_⟩
      refine done_gk no W.o ra rb fun x1 G1 n1 s1 r1 => ?_
      replace ra := ra.sm s1
      replace rb := rb.sm s1
      replace rc := rc.sm s1
      refine ⟨_, rfl, _, rfl, ?_⟩
      refine done_gk no W.o r1 rc fun x2 G2 n2 s2 r2 => ?_
      replace ra := ra.sm s2
      replace rb := rb.sm s2
      replace rc := rc.sm s2
      replace sm := (sm.trans s1).trans s2
      clear s1 s2 n1 n2 r1 hT
      refine ⟨_, rfl, _, rfl, _, rfl, _, rfl, _, rfl, ?_⟩
      refine done_gk no W.o rb rc fun x3 G3 n3 s3 r3 => ?_
      replace ra := ra.sm s3
      replace rb := rb.sm s3
      replace rc := rc.sm s3
      replace r2 := r2.sm s3
      refine ⟨_, rfl, ?_⟩
      refine done_gk no W.o ra r3 fun x4 G4 n4 s4 r4 => ?_
      replace ra := ra.sm s4
      replace rb := rb.sm s4
      replace rc := rc.sm s4
      replace r2 := r2.sm s4
      refine eq_gk U no r2 r4 ?_
      rw [eqF_true fun z => W.as _ _ _]
      refine ⟨true, rfl, ?_⟩
      replace sm := (sm.trans s3).trans s4
      clear s3 s4 n3 n4 r2 r3 r4
      -- inner
      refine ⟨_, rfl, _, rfl, _, rfl, _, rfl, ?_⟩
      refine done_gk no W.p rb rc fun x5 G5 n5 s5 r5 => ?_
      replace ra := ra.sm s5
      replace rb := rb.sm s5
      replace rc := rc.sm s5
      refine ⟨_, rfl, ?_⟩
      refine done_gk no W.o ra r5 fun x6 G6 n6 s6 r6 => ?_
      replace ra := ra.sm s6
      replace rb := rb.sm s6
      replace rc := rc.sm s6
      replace sm := (sm.trans s5).trans s6
      clear s5 s6 n5 n6 r5
      refine ⟨_, rfl, _, rfl, _, rfl, _, rfl, ?_⟩
      refine done_gk no W.o ra rb fun x7 G7 n7 s7 r7 => ?_
      replace ra := ra.sm s7
      replace rb := rb.sm s7
      replace rc := rc.sm s7
      replace r6 := r6.sm s7
      refine ⟨_, rfl, _, rfl, _, rfl, ?_⟩
      refine done_gk no W.o ra rc fun x8 G8 n8 s8 r8 => ?_
      replace ra := ra.sm s8
      replace rb := rb.sm s8
      replace rc := rc.sm s8
      replace r6 := r6.sm s8
      replace r7 := r7.sm s8
      refine ⟨_, rfl, ?_⟩
      refine done_gk no W.p r7 r8 fun x9 G9 n9 s9 r9 => ?_
      replace ra := ra.sm s9
      replace rb := rb.sm s9
      replace rc := rc.sm s9
      replace r6 := r6.sm s9
      refine eq_gk U no r6 r9 ?_
      rw [eqF_true fun z => W.di _ _ _]
      refine ⟨true, rfl, ?_⟩
      replace sm := ((sm.trans s7).trans s8).trans s9
      clear s7 s8 s9 n7 n8 n9 r6 r7 r8 r9
      -- by a number
      refine ⟨_, rfl, _, rfl, _, rfl, ?_⟩
      refine done_gk no W.o ra rb fun y1 J1 m1 t1 q1 => ?_
      replace ra := ra.sm t1
      replace rb := rb.sm t1
      refine ⟨_, rfl, ?_⟩
      refine plus_gk no q1 fun y2 J2 m2 t2 q2 => ?_
      replace ra := ra.sm t2
      replace rb := rb.sm t2
      refine ⟨_, rfl, _, rfl, ?_⟩
      refine radd_gk no ra fun y3 J3 m3 t3 q3 => ?_
      replace rb := rb.sm t3
      replace q2 := q2.sm t3
      refine ⟨_, rfl, _, rfl, ?_⟩
      refine plus_gk no rb fun y4 J4 m4 t4 q4 => ?_
      replace q2 := q2.sm t4
      replace q3 := q3.sm t4
      refine ⟨_, rfl, ?_⟩
      refine done_gk no W.o q3 q4 fun y5 J5 m5 t5 q5 => ?_
      replace q2 := q2.sm t5
      refine eq_gk U no q2 q5 ?_
      rw [eqF_true fun z => W.ad _ _ _]
      exact ⟨true, rfl, sm.trans (t1.trans (t2.trans (t3.trans (t4.trans t5)))), _, _, _, _, rfl⟩
    · rintro σ G ⟨sm, v5, v6, v7, v8, rfl⟩
      replace ra := ra.sm sm
      replace rb := rb.sm sm
      have sG := sH.trans sm
      clear hS hT1 hT2 sm sH
      refine ⟨_, rfl, _, rfl, ?_⟩
      refine both_gk no ra rb fun x1 G1 n1 s1 r1 => ?_
      replace ra := ra.sm s1
      replace rb := rb.sm s1
      obtain ⟨dx1, e1, hi1⟩ := r1.ins
      refine ⟨x1, dx1, _, rfl, hi1, rfl, _, rfl, ?_⟩
      refine am_gk no r1 ra fun G2 s2 => ?_
      replace ra := ra.sm s2
      replace rb := rb.sm s2
      rw [leF_true fun z => mn_le' _ _]
      refine ⟨true, rfl, ?_⟩
      obtain ⟨dxb, eb, hib⟩ := rb.ins
      refine ⟨_, rfl, b, dxb, _, rfl, hib, rfl, _, rfl, _, rfl, ?_⟩
      refine both_gk no ra rb fun x2 G3 n3 s3 r3 => ?_
      refine am_gk no (rb.sm s3) r3 fun G4 s4 => ?_
      rw [leF_true fun z => mx_ge _ _]
      exact go _ (sG.trans (s1.trans (s2.trans (s3.trans s4))))
end
end E10

set_option Elab.async false
set_option linter.all false
set_option maxRecDepth 100000
set_option maxHeartbeats 16000000
namespace E10
open L2 PySem PySem.Spec PyProof.Rows
/-! ### names that are not the same -/
theorem eqvAll_strs : ∀ (zs ys : List Str), PyData.eqvAll (zs.map PyData.str) (ys.map PyData.str) = true → zs = ys
  | [], [], _ => rfl
  | [], _ :: _, h => by simp [PyData.eqvAll] at h
  | _ :: _, [], h => by simp [PyData.eqvAll] at h
  | z :: r, y :: t, h => by
    simp only [List.map_cons, PyData.eqvAll, PyData.eqv, Bool.and_eq_true] at h
    rw [eq_of_beq h.1, eqvAll_strs r t h.2]
theorem ne_eqv {zs ys : List Str} (n : zs ≠ ys) : PyData.eqv (.tuple (zs.map PyData.str)) (.tuple (ys.map PyData.str)) = false := by
  cases e : PyData.eqv (.tuple (zs.map PyData.str)) (.tuple (ys.map PyData.str)) with
  | false => rfl
  | true =>
    simp only [PyData.eqv] at e
    exact (n (eqvAll_strs zs ys e)).elim
/-- a def that may raise -/
structure DefX (P : Program) (w : World) (K : PySem.W.Frag) (mg : Str → Option Value) (base : Heap) (x : Str) (ps : List Str) (k : Nat) (sp : Sp) : Prop where
  ex : ∃ (f : Addr) (fd : FuncData), FnOk P w K mg base (L2.CX P w) k f fd ps sp ∧ mg x = some (.ref f) ∧ PySem.W.keepIn K (.ref f) = true ∧ Binds K fd ps []
/-- what the law leans on of OtherMoments -/
structure ErrO (P : Program) (w : World) (K : PySem.W.Frag) (mg : Str → Option Value) (base : Heap) (cO : Addr) : Prop where
  X : E18.ExC K cO
  n1 : PySem.W.findIn K (.ref cO) "one" = some none
  n2 : PySem.W.findIn K (.ref cO) "other" = some none
  ty : PySem.W.typeIn K (.ref cO) = some (.type "type")
  g : mg "OtherMoments" = some (.ref cO)
  me : PySem.W.subIn K (.ref cO) (.ref cO) = some true
/-- OtherMoments.__init__ -/
def spOther (K : PySem.W.Frag) : Sp := fun vs H Q _ => ∃ (a C : Addr) (v u : V), vs = [.ref a, v, u] ∧ E18.ExC K C ∧ PySem.W.findIn K (.ref C) "one" = some none ∧ PySem.W.findIn K (.ref C) "other" = some none ∧ H a = some (exo a C none) ∧
  ∀ d, H d = none → d ≠ a → Q .non (upd (upd (upd H d (exd d [("one", v)])) a (exo a C (some d))) d (exd d [("other", u), ("one", v)]))
structure OInit (P : Program) (w : World) (K : PySem.W.Frag) (mg : Str → Option Value) (base : Heap) (cO : Addr) : Prop where
  ex : ∃ (f : Addr) (fd : FuncData), PySem.W.findIn K (.ref cO) "__init__" = some (some (.ref f)) ∧ PySem.W.typeIn K (.ref f) = some (.type "function") ∧ FnOk P w K mg base CX0 1 f fd ["self", "one", "other"] (spOther K) ∧ Binds K fd ["self", "one", "other"] []
section
variable {P : Program} {w : World} {K : PySem.W.Frag} {mg : Str → Option Value} {base : Heap} {f cR cB cO : Addr} {fd : FuncData}
theorem scOther : FnScope ["self", "one", "other"] ["self", "one", "other"] (defScope m_OtherMoments___init__) := ⟨rfl, rfl, rfl, by decide +kernel, rfl, by decide +kernel, by decide +kernel⟩
theorem ok_other (F : Fun K "__init__" "OtherMoments.__init__" m_OtherMoments___init__ f fd) : FnOk P w K mg base CX0 1 f fd ["self", "one", "other"] (spOther K) := by
  refine F.ok scOther (fun vs H Q E h => ?_) (fun cdv A outer s H vs Q E hr h => ?_)
  · obtain ⟨a, C, v, u, rfl, _⟩ := h
    rfl
  · obtain ⟨a, C, v, u, rfl, T, nf, ng, ha, go⟩ := h
    refine ⟨_, pss_cons (E18.ps_exf (pv 0) (pv 1)) (pss_one (E18.ps_exf (pv 0) (pv 2))), ?_⟩
    refine ⟨v, rfl, .ref a, rfl, a, C, rfl, T, nf, Or.inl ⟨ha, fun d hd ne => ?_⟩⟩
    refine ⟨u, rfl, .ref a, rfl, a, C, rfl, T, ng, Or.inr ⟨d, _, upd_same, ?_, ?_, go d hd ne⟩⟩
    · rw [upd_ne ne, upd_same]
    · show 1 ≤ 900
      decide
/-- what is raised -/
def Told (H : Hp) (d p q : Addr) : Prop := H d = some (.xd [("other", .ref q), ("one", .ref p)])
/-- check_same_moments of other names -/
def spSameX (cO : Addr) : Sp := fun vs H _ E => ∃ (p q : Addr) (zs ys : List Str), vs = [.ref p, .ref q] ∧ H p = some (.tup (zs.map V.str)) ∧ H q = some (.tup (ys.map V.str)) ∧ (∀ z ∈ zs, PyData.strOk z = true) ∧ (∀ z ∈ ys, PyData.strOk z = true) ∧ zs ≠ ys ∧
  ∀ d H', H d = none → Same H H' → Told H' d p q → E (.ref cO) (some d) H'
theorem ok_sameX (O : ErrO P w K mg base cO) (I : OInit P w K mg base cO) (F : Fun K "check_same_moments" "check_same_moments" s_check_same_moments f fd) : FnOk P w K mg base (L2.CX P w) 3 f fd ["one", "other"] (spSameX cO) := by
  refine F.okX scSameM (fun vs H Q E h => ?_) (fun cdv A outer s H vs Q E hr h => ?_)
  · obtain ⟨_, _, _, _, rfl, _⟩ := h
    rfl
  · obtain ⟨p, q, zs, ys, rfl, hp, hq, oz, oy, ne, go⟩ := h
    have hu := hr.units
    obtain ⟨fI, fdI, iC, tI, FI, bI⟩ := I.ex
    refine ⟨_, pss_one (ps_if (pt_cmpR (op_neD hu) (pv 0) (pv 1) (nomark _)) (pss_one (ps_raise rfl (takes_of rfl rfl rfl rfl) (pmk_mkErr O.X (raises_own O.X.sub O.ty) iC tI FI (hr.mono (by decide)) bI rfl O.g (pa_cons (pv 0) (pa_cons (pv 1) pa_nil))))) pss_nil), ?_⟩
    refine ⟨_, rfl, _, rfl, _, _, strs_dpT (.inl (.inl hp)), strs_dpT (.inl (.inl hq)), strs_shapedT zs oz, strs_shapedT ys oy, _, rfl, ?_⟩
    rw [ne_eqv ne]
    refine ⟨_, rfl, _, rfl, by show 2 ≤ 1000; decide, fun a na => ?_⟩
    refine ⟨a, cO, _, _, rfl, O.X, O.n1, O.n2, upd_same, fun d nd da => ⟨rfl, d, _, ?_, upd_same, ?_, ?_⟩⟩
    · rw [upd_ne da.symm, upd_same]
    · rw [upd_ne da] at nd
      exact nd
    · rw [upd_ne da] at nd
      refine go d _ nd (fun b o e => ?_) upd_same
      have bd : b ≠ d := ne_of_none e nd
      have ba : b ≠ a := ne_of_none e na
      rw [upd_ne bd, del_ne ba, upd_ne bd, upd_ne ba, upd_ne bd, upd_ne ba]
      exact e
/-- one & other, one | other of other names -/
def spAndX (cR cO : Addr) : Sp := fun vs H _ E => ∃ (a e b c : Addr) (m t : Tb), vs = [.ref a, .ref b] ∧ RAt cR H a e m ∧ RAt cR H b c t ∧ keys m ≠ keys t ∧ Okt m ∧ Okt t ∧
  ∀ d p q H', H d = none → H p = none → H q = none → Same H H' → Told H' d p q → H' p = some (.tup ((keys m).map V.str)) → H' q = some (.tup ((keys t).map V.str)) → E (.ref cO) (some d) H'
theorem ok_andX (N : Nam mg) (T : RunF K cR cB) (PM : PropR P w K mg base cR) (gR : mg "Run" = some (.ref cR)) (DS : DefX P w K mg base "check_same_moments" ["one", "other"] 3 (spSameX cO))
    (F : Fun K "__and__" "Run.__and__" m_Run___and__ f fd) : FnOk P w K mg base (L2.CX P w) 5 f fd ["self", "other"] (spAndX cR cO) := by
  refine F.okX scand (fun vs H Q E h => ?_) (fun cdv A outer s H vs Q E hr h => ?_)
  · obtain ⟨_, _, _, _, _, _, rfl, _⟩ := h
    rfl
  · obtain ⟨a, e, b, c, m, t, rfl, ra, rb, ne, o, o2, go⟩ := h
    have hu := hr.units
    obtain ⟨pM, fM, fdM, hM, FM, bM⟩ := PM.ex
    obtain ⟨fS, fdS, FS, gS, kS, bS⟩ := DS.ex
    refine ⟨_, pss_cons (ps_if (pt_not (pt_val (pe_callB call_isi rfl N.isi boot_isi (pa_cons (pv 1) (pa_cons (pgC rfl gR) pa_nil))))) (pss_one ps_never) pss_nil)
      (pss_cons (ps_expr (pe_callS (E := L2.WE fun cls d _ H => E cls d H) FS (hr.mono (by decide)) rfl gS kS bS (passAt (takes_of rfl rfl rfl rfl)) (pa_cons (pe_prop (pv 0) T.own.cl hM FM (hr.mono (by decide)) bM .nil pass0 rfl) (pa_cons (pe_prop (pv 1) T.own.cl hM FM (hr.mono (by decide)) bM .nil pass0 rfl) pa_nil))))
      (pss_one ps_never)), ?_⟩
    obtain ⟨dx, hi⟩ := ra.ins
    obtain ⟨dy, hb⟩ := rb.ins
    refine ⟨_, rfl, _, _, _, _, _, rfl, .own _, T.own.ty hb, T.own.me, true, rfl, ?_⟩
    refine ⟨_, rfl, a, dx, _, rfl, hi, a, e, m, rfl, ra, fun p H1 np s1 hp => ?_⟩
    refine ⟨_, rfl, b, dy, _, rfl, s1 _ _ hb, b, c, t, rfl, rb.sm s1, fun q H2 nq s2 hq => ?_⟩
    refine ⟨p, q, keys m, keys t, rfl, s2 _ _ hp, hq, fun z hz => (o.key hz).strOk, fun z hz => (o2.key hz).strOk, ne, fun d H3 nd s3 ht => ?_⟩
    exact go d p q H3 ((s1.trans s2).free nd) np (s1.free nq) ((s1.trans s2).trans s3) ht (s3 _ _ (s2 _ _ hp)) (s3 _ _ hq)
theorem ok_orX (N : Nam mg) (T : RunF K cR cB) (PM : PropR P w K mg base cR) (gR : mg "Run" = some (.ref cR)) (DS : DefX P w K mg base "check_same_moments" ["one", "other"] 3 (spSameX cO))
    (F : Fun K "__or__" "Run.__or__" m_Run___or__ f fd) : FnOk P w K mg base (L2.CX P w) 5 f fd ["self", "other"] (spAndX cR cO) := by
  refine F.okX scor_ (fun vs H Q E h => ?_) (fun cdv A outer s H vs Q E hr h => ?_)
  · obtain ⟨_, _, _, _, _, _, rfl, _⟩ := h
    rfl
  · obtain ⟨a, e, b, c, m, t, rfl, ra, rb, ne, o, o2, go⟩ := h
    have hu := hr.units
    obtain ⟨pM, fM, fdM, hM, FM, bM⟩ := PM.ex
    obtain ⟨fS, fdS, FS, gS, kS, bS⟩ := DS.ex
    refine ⟨_, pss_cons (ps_if (pt_not (pt_val (pe_callB call_isi rfl N.isi boot_isi (pa_cons (pv 1) (pa_cons (pgC rfl gR) pa_nil))))) (pss_one ps_never) pss_nil)
      (pss_cons (ps_expr (pe_callS (E := L2.WE fun cls d _ H => E cls d H) FS (hr.mono (by decide)) rfl gS kS bS (passAt (takes_of rfl rfl rfl rfl)) (pa_cons (pe_prop (pv 0) T.own.cl hM FM (hr.mono (by decide)) bM .nil pass0 rfl) (pa_cons (pe_prop (pv 1) T.own.cl hM FM (hr.mono (by decide)) bM .nil pass0 rfl) pa_nil))))
      (pss_one ps_never)), ?_⟩
    obtain ⟨dx, hi⟩ := ra.ins
    obtain ⟨dy, hb⟩ := rb.ins
    refine ⟨_, rfl, _, _, _, _, _, rfl, .own _, T.own.ty hb, T.own.me, true, rfl, ?_⟩
    refine ⟨_, rfl, a, dx, _, rfl, hi, a, e, m, rfl, ra, fun p H1 np s1 hp => ?_⟩
    refine ⟨_, rfl, b, dy, _, rfl, s1 _ _ hb, b, c, t, rfl, rb.sm s1, fun q H2 nq s2 hq => ?_⟩
    refine ⟨p, q, keys m, keys t, rfl, s2 _ _ hp, hq, fun z hz => (o.key hz).strOk, fun z hz => (o2.key hz).strOk, ne, fun d H3 nd s3 ht => ?_⟩
    exact go d p q H3 ((s1.trans s2).free nd) np (s1.free nq) ((s1.trans s2).trans s3) ht (s3 _ _ (s2 _ _ hp)) (s3 _ _ hq)
theorem ok_mostX (N : Nam mg) (T : RunF K cR cB) (PM : PropR P w K mg base cR) (DS : DefX P w K mg base "check_same_moments" ["one", "other"] 3 (spSameX cO))
    (F : Fun K "is_at_most" "Run.is_at_most" m_Run_is_at_most f fd) : FnOk P w K mg base (L2.CX P w) 5 f fd ["self", "other"] (spAndX cR cO) := by
  refine F.okX scAtMost (fun vs H Q E h => ?_) (fun cdv A outer s H vs Q E hr h => ?_)
  · obtain ⟨_, _, _, _, _, _, rfl, _⟩ := h
    rfl
  · obtain ⟨a, e, b, c, m, t, rfl, ra, rb, ne, o, o2, go⟩ := h
    have hu := hr.units
    obtain ⟨pM, fM, fdM, hM, FM, bM⟩ := PM.ex
    obtain ⟨fS, fdS, FS, gS, kS, bS⟩ := DS.ex
    refine ⟨_, pss_cons (ps_expr (pe_callS (E := L2.WE fun cls d _ H => E cls d H) FS (hr.mono (by decide)) rfl gS kS bS (passAt (takes_of rfl rfl rfl rfl)) (pa_cons (pe_prop (pv 0) T.own.cl hM FM (hr.mono (by decide)) bM .nil pass0 rfl) (pa_cons (pe_prop (pv 1) T.own.cl hM FM (hr.mono (by decide)) bM .nil pass0 rfl) pa_nil))))
      (pss_one ps_never), ?_⟩
    obtain ⟨dx, hi⟩ := ra.ins
    obtain ⟨dy, hb⟩ := rb.ins
    refine ⟨_, rfl, a, dx, _, rfl, hi, a, e, m, rfl, ra, fun p H1 np s1 hp => ?_⟩
    refine ⟨_, rfl, b, dy, _, rfl, s1 _ _ hb, b, c, t, rfl, rb.sm s1, fun q H2 nq s2 hq => ?_⟩
    refine ⟨p, q, keys m, keys t, rfl, s2 _ _ hp, hq, fun z hz => (o.key hz).strOk, fun z hz => (o2.key hz).strOk, ne, fun d H3 nd s3 ht => ?_⟩
    exact go d p q H3 ((s1.trans s2).free nd) np (s1.free nq) ((s1.trans s2).trans s3) ht (s3 _ _ (s2 _ _ hp)) (s3 _ _ hq)
end
end E10

set_option Elab.async false
set_option linter.all false
set_option maxRecDepth 100000
set_option maxHeartbeats 16000000
namespace E10
open L2 PySem PySem.Spec PyProof.Rows
/-! ### isinstance of a caught error that has attributes -/
def rIsX (K : PySem.W.Frag) (D a : Addr) (cls : Value) (d : Option Addr) : List V → Hp → VK → Prop := fun xs H Q => ∃ (c : V) (cv : Value) (b : Bool) (dd : Addr) (fs : List (Str × V)), xs = [.ref a, c] ∧ cls = .ref D ∧ d = some dd ∧ H dd = some (.xd fs) ∧ (∀ u, RelV c u → u = cv) ∧
  PySem.W.kitOne K (.ref D) cv = some b ∧ Q (.bl b) H
theorem call_isXe {X : Cx} {a D : Addr} {oe : Obj} {cls : Value} {d : Option Addr} {pn : List (Addr × Obj)} (C : E18.ExC X.K D) (hz : Zc cls d oe) (hf : ∃ vs, oe.data = .fields vs) : CallR (X.suite a ((a, oe) :: pn)) (.builtin "isinstance") (rIsX X.K D a cls d) := by
  intro pins s σ H xs us Q I r h
  obtain ⟨c, cv, b, dd, fs, rfl, ec, ed, ea, hcv, e, q⟩ := h
  cases r with
  | cons rx rr =>
    cases rr with
    | cons rt rr =>
      cases rr
      cases rx
      have e2 := hcv _ rt
      subst e2
      subst ec
      subst ed
      obtain ⟨hget, _⟩ := I.pin (a, oe) (List.mem_append.mpr (.inl List.mem_cons_self))
      obtain ⟨vs, hv⟩ := hf
      have hx : ObjOk X.prog X.w H s.heap dd (.xd fs) := I.hok dd _ ea
      obtain ⟨mA, hns, hr⟩ := hx
      obtain ⟨od, ho, hl⟩ := lookIn_ns hns
      obtain ⟨cd, hcd, _⟩ := PySem.W.any_some C.dct
      have hcl : (PySem.W.clsIn X.K D).isSome = true := by rw [hcd]; rfl
      have J : PySem.W.InstAt s.heap a oe D (some od) := ⟨hget, hz.1, by unfold PySem.W.notCls; rw [hv] <;> rfl, by rw [hz.2]; exact ho⟩
      exact PySem.W.kia_one (PySem.W.kitx_exc (od := some od) hcl C.ga C.gn C.sub C.ca C.sp C.tk C.mo) I.kIn J e (fun z => nomatch z) fun tk => ⟨.bl b, H, I.kept (t' := tk) fun _ _ z => z, rfl, q⟩
theorem E18x {K : PySem.W.Frag} {C : Addr} (T : E18.ExC K C) : XfC K C := ⟨T.ga, T.gn, T.sub, T.dct⟩
/-- what the law leans on of the errors -/
structure ErrF (K : PySem.W.Frag) (mg : Str → Option Value) (cO cS : Addr) : Prop where
  gS : mg "StateError" = some (.ref cS)
  gT : mg "RuntimeError" = none
  kS : PySem.W.kitOne K (.ref cO) (.ref cS) = some true
  kT : PySem.W.kitOne K (.ref cO) (.type "RuntimeError") = some true
theorem boot_runtime : bootBuiltins "RuntimeError" = some (.type "RuntimeError") := by decide +kernel
section
variable {P : Program} {w : World} {K : PySem.W.Frag} {mg : Str → Option Value} {base : Heap} {f cR cB cO cS : Addr} {fd : FuncData}
structure OpX (P : Program) (w : World) (K : PySem.W.Frag) (mg : Str → Option Value) (base : Heap) (cR cO : Addr) (nm : Str) : Prop where
  ex : ∃ (f : Addr) (fd : FuncData), FnOk P w K mg base (L2.CX P w) 5 f fd ["self", "other"] (spAndX cR cO) ∧ Has K cR f nm ∧ Binds K fd ["self", "other"] []
structure MostX (P : Program) (w : World) (K : PySem.W.Frag) (mg : Str → Option Value) (base : Heap) (cR cO : Addr) : Prop where
  ex : ∃ (f : Addr) (fd : FuncData), Meth K cR "is_at_most" f ∧ FnOk P w K mg base (L2.CX P w) 5 f fd ["self", "other"] (spAndX cR cO) ∧ Binds K fd ["self", "other"] []
def spRefused (cR : Addr) : Sp := fun vs H Q _ => ∃ (a e b c : Addr) (m t : Tb) (way : Int), vs = [.ref a, .ref b, .int way] ∧ RAt cR H a e m ∧ RAt cR H b c t ∧ keys m ≠ keys t ∧ Okt m ∧ Okt t ∧
  ∀ L p q H', H L = none → Same H H' → H' L = some (.lst [.ref p, .ref q, .bl true]) → H' p = some (.tup ((keys m).map V.str)) → H' q = some (.tup ((keys t).map V.str)) → Q (.ref L) H'
abbrev nRefused : List Str := ["_law_one", "_law_other", "_law_way", "_law_told", "e"]
theorem scRefused : FnScope nRefused ["_law_one", "_law_other", "_law_way"] (defScope s__law_refused) := ⟨rfl, rfl, rfl, by decide +kernel, rfl, by decide +kernel, by decide +kernel⟩
theorem ok_refused (N : Nam mg) (T : RunF K cR cB) (O : ErrO P w K mg base cO) (G : ErrF K mg cO cS) (A : OpX P w K mg base cR cO (PySem.dunder Operator.BitAnd.info.2)) (R : OpX P w K mg base cR cO (PySem.dunder Operator.BitOr.info.2)) (M : MostX P w K mg base cR cO)
    (F : Fun K "_law_refused" "_law_refused" s__law_refused f fd) : FnOk P w K mg base CX0 6 f fd ["_law_one", "_law_other", "_law_way"] (spRefused cR) := by
  refine F.ok scRefused (fun vs H Q E h => ?_) (fun cdv A0 outer s H vs Q E hr h => ?_)
  · obtain ⟨_, _, _, _, _, _, _, rfl, _⟩ := h
    rfl
  · obtain ⟨a, e, b, c, m, t, way, rfl, ra, rb, ne, o, o2, go⟩ := h
    have hu := hr.units
    obtain ⟨fA, fdA, FA, hA, bA⟩ := A.ex
    obtain ⟨fR, fdR, FR, hR, bR⟩ := R.ex
    obtain ⟨fM, fdM, mM, FM, bM⟩ := M.ex
    refine ⟨_, pss_cons (ps_try_as (i := 4) rfl rfl scRefused.nd rfl rfl ⟨rfl, by decide, .inl O.g⟩ takes0 (fun W pn xe tk po =>
        pss_one (ps_if (pt_cmpR op_eq (pv 2) pe_int (nomark _)) (pss_one (ps_set (i := 3) scRefused.nd rfl (Or.inl rfl) (pe_ownX tk FA hr bA T.own.first hA (pv 0) (pv 1))))
          (pss_one (ps_if (pt_cmpR op_eq (pv 2) pe_int (nomark _)) (pss_one (ps_set (i := 3) scRefused.nd rfl (Or.inl rfl) (pe_ownX tk FR hr bR T.own.first hR (pv 0) (pv 1))))
            (pss_one (ps_set (i := 3) scRefused.nd rfl (Or.inl rfl) (pe_methX tk (pv 0) T.own.cl mM FM hr bM (pa_cons (pv 1) pa_nil))))))))
        (fun a oe cls d pn hz hf => pss_one (ps_ret (pe_lst (pa_cons (pe_xf (E18x O.X) O.n1 hz hf (pv 4)) (pa_cons (pe_xf (E18x O.X) O.n2 hz hf (pv 4))
          (pa_cons (pe_and (pe_callB (call_isXe O.X hz hf) rfl N.isi boot_isi (pa_cons (pv 4) (pa_cons (pgC rfl G.gS) pa_nil))) (pe_one (pe_callB (call_isXe O.X hz hf) rfl N.isi boot_isi (pa_cons (pv 4) (pa_cons (pbT rfl G.gT boot_runtime) pa_nil))))) pa_nil)))))))
      (pss_one ps_never), ?_⟩
    obtain ⟨dx, hi⟩ := ra.ins
    obtain ⟨dy, hb⟩ := rb.ins
    have fin : ∀ {d p q : Addr} {H' : Hp}, H d = none → H p = none → H q = none → Same H H' → Told H' d p q → H' p = some (.tup ((keys m).map V.str)) → H' q = some (.tup ((keys t).map V.str)) →
        ∀ L, H' L = none → Q (.ref L) (upd H' L (.lst [.ref p, .ref q, .bl true])) := fun {d p q H'} nd np nq s' ht hp hq L nL => by
      have w := new_same (o := .lst [.ref p, .ref q, .bl true]) nL
      exact go L _ _ _ (s'.free nL) (s'.trans w) upd_same (w _ _ hp) (w _ _ hq)
    clear go
    refine ⟨_, rfl, rfl, _, rfl, ?_⟩
    refine ite2 (fun _ => ?_) (fun _ => ?_)
    · refine ⟨_, rfl, _, rfl, a, b, dx, dy, _, _, rfl, rfl, hi, hb, a, e, b, c, m, t, rfl, ra, rb, ne, o, o2, fun d p q H' nd np nq s' ht hp hq => ?_⟩
      refine ⟨true, PySem.W.exm_ref O.X.sub O.X.dct O.ty O.me, fun _ x nx => ?_, fun z => by cases z⟩
      refine ⟨_, rfl, rfl, rfl, d, _, _, rfl, ht, rfl, ?_⟩
      refine ⟨_, rfl, rfl, rfl, d, _, _, rfl, ht, rfl, ?_⟩
      refine ⟨_, rfl, _, _, _, d, _, rfl, rfl, rfl, ht, fun u h => h, G.kS, ?_⟩
      refine ⟨true, rfl, ?_⟩
      refine ⟨_, rfl, _, _, _, d, _, rfl, rfl, rfl, ht, fun u h => h, G.kT, ?_⟩
      exact ⟨by show 3 ≤ sizeLine; decide, fin nd np nq s' ht hp hq⟩
    refine ⟨_, rfl, rfl, _, rfl, ?_⟩
    refine ite2 (fun _ => ?_) (fun _ => ?_)
    · refine ⟨_, rfl, _, rfl, a, b, dx, dy, _, _, rfl, rfl, hi, hb, a, e, b, c, m, t, rfl, ra, rb, ne, o, o2, fun d p q H' nd np nq s' ht hp hq => ?_⟩
      refine ⟨true, PySem.W.exm_ref O.X.sub O.X.dct O.ty O.me, fun _ x nx => ?_, fun z => by cases z⟩
      refine ⟨_, rfl, rfl, rfl, d, _, _, rfl, ht, rfl, ?_⟩
      refine ⟨_, rfl, rfl, rfl, d, _, _, rfl, ht, rfl, ?_⟩
      refine ⟨_, rfl, _, _, _, d, _, rfl, rfl, rfl, ht, fun u h => h, G.kS, ?_⟩
      refine ⟨true, rfl, ?_⟩
      refine ⟨_, rfl, _, _, _, d, _, rfl, rfl, rfl, ht, fun u h => h, G.kT, ?_⟩
      exact ⟨by show 3 ≤ sizeLine; decide, fin nd np nq s' ht hp hq⟩
    · refine ⟨_, rfl, a, dx, _, rfl, hi, rfl, _, rfl, a, e, b, c, m, t, rfl, ra, rb, ne, o, o2, fun d p q H' nd np nq s' ht hp hq => ?_⟩
      refine ⟨true, PySem.W.exm_ref O.X.sub O.X.dct O.ty O.me, fun _ x nx => ?_, fun z => by cases z⟩
      refine ⟨_, rfl, rfl, rfl, d, _, _, rfl, ht, rfl, ?_⟩
      refine ⟨_, rfl, rfl, rfl, d, _, _, rfl, ht, rfl, ?_⟩
      refine ⟨_, rfl, _, _, _, d, _, rfl, rfl, rfl, ht, fun u h => h, G.kS, ?_⟩
      refine ⟨true, rfl, ?_⟩
      refine ⟨_, rfl, _, _, _, d, _, rfl, rfl, rfl, ht, fun u h => h, G.kT, ?_⟩
      exact ⟨by show 3 ≤ sizeLine; decide, fin nd np nq s' ht hp hq⟩
end
end E10

set_option Elab.async false
set_option linter.all false
set_option maxRecDepth 100000
set_option maxHeartbeats 16000000
namespace E10
open L2 PySem PySem.Spec PyProof.Rows
/-! ### tables with other names -/
def drp (m : Tb) (z : Str) : Tb := m.filter fun p => decide (p.1 ≠ z)
theorem dropK_kv (m : Tb) (z : Str) : dropK (kv m) (.inr z) = kv (drp m z) := by
  unfold dropK kv drp
  rw [List.filter_map]
  congr 1
  refine List.filter_congr fun p _ => ?_
  simp [Function.comp]
theorem drp_keys {m : Tb} {z y : Str} : y ∈ keys (drp m z) ↔ y ∈ keys m ∧ y ≠ z := by
  unfold drp keys
  rw [List.mem_map, List.mem_map]
  constructor
  · rintro ⟨p, hp, rfl⟩
    rw [List.mem_filter, decide_eq_true_eq] at hp
    exact ⟨⟨p, hp.1, rfl⟩, hp.2⟩
  · rintro ⟨⟨p, hp, rfl⟩, n⟩
    exact ⟨p, by rw [List.mem_filter, decide_eq_true_eq]; exact ⟨hp, n⟩, rfl⟩
theorem drp_nd {m : Tb} {z : Str} (nd : (keys m).Nodup) : (keys (drp m z)).Nodup := (List.filter_sublist.map _).nodup nd
theorem drp_lt {m : Tb} {z : Str} (h : z ∈ keys m) : (drp m z).length < m.length := by
  obtain ⟨p, hp, rfl⟩ := List.mem_map.mp h
  exact List.length_filter_lt_length_iff_exists.mpr ⟨p, hp, by simp⟩
theorem drp_one {m : Tb} {z : Str} (nd : (keys m).Nodup) (h : z ∈ keys m) : (drp m z).length + 1 = m.length := by
  have e : (keys (drp m z)) = (keys m).erase z := by
    rw [nd.erase_eq_filter]
    unfold keys drp
    rw [List.filter_map]
    congr 1
    refine List.filter_congr fun p _ => ?_
    simp [Function.comp, bne, decide_not]
    rfl
  have l := congrArg List.length e
  rw [keys_len, List.length_erase_of_mem h, keys_len] at l
  have := List.length_pos_of_mem h
  rw [keys_len] at this
  omega
theorem Okt.drp {m : Tb} (h : Okt m) (z : Str) : Okt (drp m z) := ⟨fun p hp => h.nm p (List.mem_filter.mp hp).1, drp_nd h.nd⟩
theorem Okt.put {m : Tb} (h : Okt m) {z : Str} (n : Nm z) (i : Int) : Okt (put m z i) := ⟨fun p hp => by
  rcases mem_put hp with h1 | rfl
  · exact h.nm p h1
  · exact n, nodup_put h.nd⟩
theorem put_le (m : Tb) (z : Str) (i : Int) : (put m z i).length ≤ m.length + 1 := by
  unfold E10.put
  split
  · rw [List.length_map]
    omega
  · rw [List.length_append]
    exact Nat.le_refl _
theorem put_in {m : Tb} {z : Str} {i : Int} : z ∈ keys (E10.put m z i) := by
  rw [keys_put]
  split
  · assumption
  · exact List.mem_append.mpr (.inr (List.mem_singleton.mpr rfl))
theorem put_pos {m : Tb} {z : Str} {i : Int} : 0 < (E10.put m z i).length := by
  have := List.length_pos_of_mem (put_in (m := m) (z := z) (i := i))
  rwa [keys_len] at this
theorem nm_d : Nm "d" := nm_of (by decide +kernel)
/-- some name is in one of both alone -/
def Other (zs ys : List Str) : Prop := ∃ z, (z ∈ zs ∧ z ∉ ys) ∨ (z ∉ zs ∧ z ∈ ys)
theorem Other.ne {zs ys : List Str} (h : Other zs ys) : srt zs ≠ srt ys := by
  obtain ⟨z, h⟩ := h
  intro e
  have i : z ∈ zs ↔ z ∈ ys := by rw [← srt_mem, e, srt_mem]
  rcases h with ⟨a, b⟩ | ⟨a, b⟩
  · exact b (i.mp a)
  · exact a (i.mpr b)
structure Fnd (H G : Hp) (b p c : Addr) (u t : Tb) : Prop where
  sb : SameB b H G
  pt : PotAt G b
  hp : G p = some (.dK (kv u))
  hc : G c = some (.dK (kv t))
theorem Fnd.upd {H G : Hp} {b p c : Addr} {u t : Tb} (h : Fnd H G b p c u t) (np : H p = none) (bp : p ≠ b) (cp : c ≠ p) (v : Tb) : Fnd H (upd G p (.dK (kv v))) b p c v t :=
  ⟨fun q o e n => by rw [upd_ne (ne_of_none e np)]; exact h.sb q o e n, h.pt.upd bp, upd_same, (upd_ne cp).trans h.hc⟩
section
variable {P : Program} {w : World} {K : PySem.W.Frag} {mg : Str → Option Value} {base : Heap} {f cR cB : Addr} {fd : FuncData}
def spStrange : Sp := fun vs H Q _ => ∃ (b L c : Addr) (t : Tb), vs = [.ref b, .ref L, .ref c] ∧ PotAt H b ∧ L ≠ b ∧ H L = some (.lst ((keys t).map V.str)) ∧ H c = some (.dK (kv t)) ∧ Okt t ∧ 0 < t.length ∧ t.length ≤ 8 ∧ ("d" : Str) ∉ keys t ∧
  ∀ p H' u, H p = none → SameB b H H' → PotAt H' b → H' p = some (.dK (kv u)) → Okt u → 0 < u.length → u.length ≤ 9 → Other (keys t) (keys u) → Q (.ref p) H'
abbrev nStrange : List Str := ["_law_pot_here", "_law_names_here", "_law_times", "_law_found", "_law_way"]
theorem scStrange : FnScope nStrange ["_law_pot_here", "_law_names_here", "_law_times"] (defScope s__law_strange) := ⟨rfl, rfl, rfl, by decide +kernel, rfl, by decide +kernel, by decide +kernel⟩
theorem ok_strange (N : Nam mg) (DD : Def P w K mg base "_law_draw" ["_law_pot_here", "_law_many"] 1 spDraw) (DA : Def P w K mg base "_law_among" ["_law_pot_here", "_law_some"] 2 spAmong) (F : Fun K "_law_strange" "_law_strange" s__law_strange f fd) :
    FnOk P w K mg base CX0 3 f fd ["_law_pot_here", "_law_names_here", "_law_times"] spStrange := by
  refine F.ok scStrange (fun vs H Q E h => ?_) (fun cdv A outer s H vs Q E hr h => ?_)
  · obtain ⟨_, _, _, _, rfl, _⟩ := h
    rfl
  · obtain ⟨b, L, c, t, rfl, hp, Lb, hL, hc, o, pos, le, nd, go⟩ := h
    have hu := hr.units
    refine ⟨_, (pss_cons (ps_par (i := 3) (j := 4) (by rfl) scStrange.nd rfl rfl (by decide) rfl rfl (pa_cons (pe_callTy call_dictD rfl N.dct boot_dict' (pa_cons (pv 2) pa_nil)) (pa_cons (callD DD (hr.mono (by decide)) rfl (pa_cons (pv 0) (pa_cons pe_int pa_nil))) pa_nil)) (by rfl))
      (pss_cons (ps_if (PW.pt (pw_and (pt_cmpR op_lt (pv 4) pe_int (nomark _)) (pw_and1 (PW.pt (pw_or (pt_cmpR op_gt (pe_callB call_len_seq rfl N.len PySem.boot_len (pa_cons (pv 1) pa_nil)) pe_int (nomark _)) (pw_or1 (pt_cmpR op_eq (pv 4) pe_int (nomark _)))))))) (pss_one (ps_expr (pe_dpop1 (pv 3) (callD DA (hr.mono (by decide)) rfl (pa_cons (pv 0) (pa_cons (pv 1) pa_nil))) ⟨rfl, rfl, rfl, rfl⟩))) pss_nil)
      (pss_cons (ps_if (pt_cmpR op_eq (pv 4) pe_int (nomark _)) (pss_one (ps_dput (u1 hu) (pv 3) pe_str pe_int rfl)) pss_nil)
      (pss_cons (ps_if (PW.pt (pw_and (pt_cmpR op_eq (pe_callB call_lenD rfl N.len PySem.boot_len (pa_cons (pv 3) pa_nil)) (pe_callB call_lenD rfl N.len PySem.boot_len (pa_cons (pv 2) pa_nil)) (nomark _)) (pw_and1 (pt_cmpR op_ne (pv 4) pe_int (nomark _))))) (pss_one (ps_dput (u1 hu) (pv 3) pe_str pe_int rfl)) pss_nil)
      (pss_one (ps_ret (pv 3))))))), ?_⟩
    refine ⟨_, rfl, c, kv t, rfl, .inl hc, fun p np => ?_⟩
    have w0 := new_same (o := .dK (kv t)) np
    have hc0 := hc
    have hP : upd H p (.dK (kv t)) p = some (.dK (kv t)) := upd_same
    replace hc := w0 _ _ hc
    have bp : p ≠ b := hp.new np
    have Lp : L ≠ p := ne_of_none hL np
    have hL2 := w0 _ _ hL
    have hp2 := hp.sm w0
    have zp : ∀ q o, H q = some o → q ≠ p := fun q o e => ne_of_none e np
    have zc : c ≠ p := zp _ _ hc0
    have s0 : SameB b H (upd H p (.dK (kv t))) := SameB.of w0
    generalize upd H p (.dK (kv t)) = H1 at *
    refine ⟨_, rfl, b, 3, rfl, hp2, by decide, by decide, fun way H2 w0' w3 p2 s2 => ⟨_, _, rfl, ?_⟩⟩
    replace hc := s2 _ _ hc (hp2.ne hc (fun _ q => by cases q))
    replace hP := s2 _ _ hP bp
    replace hL2 := s2 _ _ hL2 Lb
    replace s0 := s0.trans s2
    clear s2 hp2 w0
    have F0 : Fnd H H2 b p c t t := ⟨s0, p2, hP, hc⟩
    clear s0 p2 hP hc
    have vz : ∀ z ∈ keys t, valV (kv t) (.inr z) = some (.int (g0 t z)) := fun z hz => by
      rw [valV_kv, gv_g0 hz]
      rfl
    have lk : (kv t).length = t.length := kv_len t
    have okd : Okt (E10.put t "d" 1) := o.put nm_d 1
    have posd : 0 < (E10.put t "d" 1).length := put_pos
    have led : (E10.put t "d" 1).length ≤ 9 := Nat.le_trans (put_le _ _ _) (by omega)
    have othd : Other (keys t) (keys (E10.put t "d" 1)) := ⟨"d", .inr ⟨nd, put_in⟩⟩
    obtain rfl | rfl | rfl : way = 0 ∨ way = 1 ∨ way = 2 := by omega
    · refine ⟨_, rfl, _, _, rfl, rfl, _, rfl, ?_⟩
      refine ite2 (fun _ => ?_) (fun x => absurd (by decide) x)
      refine ⟨_, rfl, L, _, rfl, .inl (.inl (.inl hL2)), _, _, rfl, rfl, _, rfl, ?_⟩
      refine ite2 (fun gt => ?_) (fun gt => ?_)
      · have gt2 : 1 < t.length := by
          have := of_decide_eq_true gt
          rw [List.length_map, keys_len] at this
          omega
        refine ⟨_, rfl, p, rfl, .inl ⟨_, .inl F0.hp⟩, _, rfl, _, rfl, b, L, _, rfl, F0.pt, hL2, Lb, by rw [List.length_map, keys_len]; omega, by rw [List.length_map, keys_len]; omega, fun x mx H3 p3 s3 => ?_⟩
        obtain ⟨z, hz, rfl⟩ := List.mem_map.mp mx
        have F1 : Fnd H H3 b p c t t := ⟨F0.sb.trans s3, p3, s3 _ _ F0.hp bp, s3 _ _ F0.hc (F0.pt.ne F0.hc (fun _ q => by cases q))⟩
        refine ⟨kv t, .inr z, _, F1.hp, rfl, vz z hz, ?_⟩
        rw [dropK_kv]
        have F2 := F1.upd np bp zc (drp t z)
        generalize upd H3 p (.dK (kv (drp t z))) = H4 at *
        have l1 := drp_one o.nd hz
        refine ⟨_, rfl, rfl, _, rfl, ?_⟩
        refine ite2 (fun x => absurd x (by decide)) (fun _ => ?_)
        refine ⟨_, rfl, p, _, rfl, F2.hp, _, rfl, c, _, rfl, F2.hc, rfl, _, rfl, ?_⟩
        refine ite2 (fun x => ?_) (fun _ => ?_)
        · have := V.int.inj (of_decide_eq_true x)
          rw [kv_len, kv_len] at this
          omega
        · exact ⟨_, rfl, go p _ _ np F2.sb F2.pt F2.hp (o.drp z) (by omega) (by omega) ⟨z, .inl ⟨hz, fun m => (drp_keys.mp m).2 rfl⟩⟩⟩
      · refine ⟨_, rfl, rfl, _, rfl, ?_⟩
        refine ite2 (fun x => absurd x (by decide)) (fun _ => ?_)
        refine ⟨_, rfl, rfl, _, rfl, ?_⟩
        refine ite2 (fun x => absurd x (by decide)) (fun _ => ?_)
        refine ⟨_, rfl, p, _, rfl, F0.hp, _, rfl, c, _, rfl, F0.hc, rfl, _, rfl, ?_⟩
        refine ite2 (fun _ => ?_) (fun x => absurd (by simp) x)
        refine ⟨_, rfl, rfl, _, rfl, ?_⟩
        refine ite2 (fun _ => ?_) (fun x => absurd (by decide) x)
        refine ⟨_, rfl, p, _, rfl, DPut.k (k := .inr "d") F0.hp (by rw [kv_len]; exact Nat.lt_of_le_of_lt le (by decide)), ?_⟩
        rw [putK_kv]
        have F2 := F0.upd np bp zc (E10.put t "d" 1)
        exact ⟨_, rfl, go p _ _ np F2.sb F2.pt F2.hp okd posd led othd⟩
    · have fin : ∀ (G : Hp) (z : Str), z ∈ keys t → Fnd H G b p c (E10.put (drp t z) "d" 0) t → Q (.ref p) G := fun G z hz F2 => by
        have l1 := drp_one o.nd hz
        have l2 := put_le (drp t z) "d" 0
        refine go p _ _ np F2.sb F2.pt F2.hp ((o.drp z).put nm_d 0) put_pos (by omega) ⟨z, .inl ⟨hz, fun m => ?_⟩⟩
        rw [keys_put] at m
        have zd : z ≠ "d" := fun e => nd (e ▸ hz)
        have nz : z ∉ keys (drp t z) := fun m => (drp_keys.mp m).2 rfl
        split at m
        · exact nz m
        · rcases List.mem_append.mp m with m | m
          · exact nz m
          · exact zd (List.mem_singleton.mp m)
      refine ⟨_, rfl, _, _, rfl, rfl, _, rfl, ?_⟩
      refine ite2 (fun _ => ?_) (fun x => absurd (by decide) x)
      refine ⟨_, rfl, L, _, rfl, .inl (.inl (.inl hL2)), _, _, rfl, rfl, _, rfl, ?_⟩
      refine (fun (G : Prop) (f : G → _) (g : G) => f g) ?G (fun last => ?main) ?lastg
      case main =>
        refine ite2 (fun _ => ?_) (fun _ => ?_)
        · exact last
        · refine ⟨_, rfl, rfl, _, rfl, ?_⟩
          refine ite2 (fun _ => last) (fun x => absurd (by decide) x)
      case lastg =>
        refine ⟨_, rfl, p, rfl, .inl ⟨_, .inl F0.hp⟩, _, rfl, _, rfl, b, L, _, rfl, F0.pt, hL2, Lb, by rw [List.length_map, keys_len]; omega, by rw [List.length_map, keys_len]; omega, fun x mx H3 p3 s3 => ?_⟩
        obtain ⟨z, hz, rfl⟩ := List.mem_map.mp mx
        have F1 : Fnd H H3 b p c t t := ⟨F0.sb.trans s3, p3, s3 _ _ F0.hp bp, s3 _ _ F0.hc (F0.pt.ne F0.hc (fun _ q => by cases q))⟩
        refine ⟨kv t, .inr z, _, F1.hp, rfl, vz z hz, ?_⟩
        rw [dropK_kv]
        have F2 := F1.upd np bp zc (drp t z)
        generalize upd H3 p (.dK (kv (drp t z))) = H4 at *
        have l1 := drp_one o.nd hz
        refine ⟨_, rfl, rfl, _, rfl, ?_⟩
        refine ite2 (fun _ => ?_) (fun x => absurd (by decide) x)
        refine ⟨_, rfl, p, _, rfl, DPut.k (k := .inr "d") F2.hp (by rw [kv_len]; exact Nat.lt_of_le_of_lt (m := 8) (by omega) (by decide)), ?_⟩
        rw [putK_kv]
        have F3 := F2.upd np bp zc (E10.put (drp t z) "d" 0)
        generalize upd H4 p (.dK (kv (E10.put (drp t z) "d" 0))) = H5 at *
        refine ⟨_, rfl, p, _, rfl, F3.hp, _, rfl, c, _, rfl, F3.hc, rfl, _, rfl, ?_⟩
        refine ite2 (fun _ => ?_) (fun _ => ?_)
        · refine ⟨_, rfl, rfl, _, rfl, ?_⟩
          refine ite2 (fun x => absurd x (by decide)) (fun _ => ?_)
          exact ⟨_, rfl, fin _ z hz F3⟩
        · exact ⟨_, rfl, fin _ z hz F3⟩
    · refine ⟨_, rfl, _, _, rfl, rfl, _, rfl, ?_⟩
      refine ite2 (fun x => absurd x (by decide)) (fun _ => ?_)
      refine ⟨_, rfl, rfl, _, rfl, ?_⟩
      refine ite2 (fun x => absurd x (by decide)) (fun _ => ?_)
      refine ⟨_, rfl, p, _, rfl, F0.hp, _, rfl, c, _, rfl, F0.hc, rfl, _, rfl, ?_⟩
      refine ite2 (fun _ => ?_) (fun x => absurd (by simp) x)
      refine ⟨_, rfl, rfl, _, rfl, ?_⟩
      refine ite2 (fun _ => ?_) (fun x => absurd (by decide) x)
      refine ⟨_, rfl, p, _, rfl, DPut.k (k := .inr "d") F0.hp (by rw [kv_len]; exact Nat.lt_of_le_of_lt le (by decide)), ?_⟩
      rw [putK_kv]
      have F2 := F0.upd np bp zc (E10.put t "d" 1)
      exact ⟨_, rfl, go p _ _ np F2.sb F2.pt F2.hp okd posd led othd⟩
end
end E10

set_option Elab.async false
set_option linter.all false
set_option maxRecDepth 100000
set_option maxHeartbeats 16000000
namespace E10
open L2 PySem PySem.Spec PyProof.Rows
/-! ### three dicts, three runs -/
theorem paired_mono {α β : Type} {R R' : α → β → Prop} (h : ∀ x y, R x y → R' x y) : ∀ {xs : List α} {ys : List β}, Paired R xs ys → Paired R' xs ys
  | _, _, .nil => .nil
  | _, _, .cons e t => .cons (h _ _ e) (paired_mono h t)
theorem paired3 {α β : Type} {R : α → β → Prop} {xs : List α} {ys : List β} (h : Paired R xs ys) (l : xs.length = 3) : ∃ x0 x1 x2 y0 y1 y2, xs = [x0, x1, x2] ∧ ys = [y0, y1, y2] ∧ R x0 y0 ∧ R x1 y1 ∧ R x2 y2 := by
  match xs, ys, h, l with
  | [_, _, _], [_, _, _], .cons a (.cons b (.cons c .nil)), _ => exact ⟨_, _, _, _, _, _, rfl, rfl, a, b, c⟩
/-- a dict of these names -/
def TbN (H : Hp) (zs : List Str) (c : Addr) (t : Tb) : Prop := H c = some (.dK (kv t)) ∧ keys t = zs
theorem paired_mem {α β : Type} {R : α → β → Prop} {x : α} : ∀ {xs : List α} {ys : List β}, Paired R xs ys → x ∈ xs → ∃ y, R x y
  | _, _, .nil, h => nomatch h
  | _, _, .cons (a := a) (b := b) e t, h => by
    rcases List.mem_cons.mp h with rfl | h
    · exact ⟨b, e⟩
    · exact paired_mem t h
theorem keepU {H : Hp} {D : Addr} {xs : List V} {u : HO} (h : H D = some (.lst xs)) : ∀ q o, H q = some o → (∀ xs, o ≠ .lst xs) → upd H D u q = some o := fun q o e n => by
  have : q ≠ D := by
    rintro rfl
    rw [h] at e
    exact n xs (Option.some.inj e).symm
  rw [upd_ne this]
  exact e
theorem keepB {H H' : Hp} {b : Addr} (p : PotAt H b) (s : SameB b H H') : ∀ q o, H q = some o → (∀ xs, o ≠ .lst xs) → H' q = some o := fun q o e n => s q o e (p.ne e n)
/-- the times told and the dict -/
theorem eq_tab {K : PySem.W.Frag} {H : Hp} {p c : Addr} {t : Tb} {zs : List Str} (hp : H p = some (.dK (kv (fo zs (g0 t))))) (hc : H c = some (.dK (kv t))) (ek : keys t = zs) : EqV K H 2 (.ref p) (.ref c) := by
  refine .inr (.inr (.inr ⟨p, c, _, _, rfl, rfl, hp, hc, by rw [kv_len, kv_len, fo_len, ← ek, keys_len], fun q hq => ?_⟩))
  obtain ⟨r, hr, rfl⟩ := List.mem_map.mp hq
  obtain ⟨z, hz, rfl⟩ := List.mem_map.mp hr
  refine ⟨.int (g0 t z), ?_, .inl ⟨rfl, rfl⟩⟩
  show valV (kv t) (.inr z) = _
  rw [valV_kv, gv_g0 (ek ▸ srt_mem.mp hz)]
  rfl
/-- three numbers -/
theorem three {i : Nat} (h : i < 3) : i = 0 ∨ i = 1 ∨ i = 2 := by omega
theorem refused_shaped {zs ys : List Str} (oz : ∀ z ∈ zs, PyData.strOk z = true) (oy : ∀ z ∈ ys, PyData.strOk z = true) : PyData.canLay0 (.list [.tuple (zs.map PyData.str), .tuple (ys.map PyData.str), .bool true]) = true ∧ SeqAt.shaped (.list [.tuple (zs.map PyData.str), .tuple (ys.map PyData.str), .bool true]) = true := by
  obtain ⟨a, b⟩ := strs_lay zs oz
  obtain ⟨c, d⟩ := strs_lay ys oy
  have a2 : PyData.canLay0 (.list [.tuple (zs.map PyData.str), .tuple (ys.map PyData.str), .bool true]) = true := by
    simp only [PyData.canLay0, PyData.canLayAll0] at a c ⊢
    rw [a, c]
    rfl
  refine ⟨a2, ?_⟩
  unfold SeqAt.shaped
  rw [a2]
  have e : (PyData.list [.tuple (zs.map PyData.str), .tuple (ys.map PyData.str), .bool true]).depth = 2 := by
    simp only [PyData.depth, PyData.depthAll]
    rw [b, d]
    rfl
  rw [e]
  rfl
theorem refused_dp {K : PySem.W.Frag} {H : Hp} {L p q : Addr} {zs ys : List Str} (hL : H L = some (.lst [.ref p, .ref q, .bl true])) (hp : H p = some (.tup (zs.map V.str))) (hq : H q = some (.tup (ys.map V.str))) :
    Dp K H (.ref L) (.list [.tuple (zs.map PyData.str), .tuple (ys.map PyData.str), .bool true]) := .lst (.inl (.inl hL)) (.cons (strs_dpT (.inl (.inl hp))) (.cons (strs_dpT (.inl (.inl hq))) (.cons (.bl true) .nil)))
section
variable {P : Program} {w : World} {K : PySem.W.Frag} {mg : Str → Option Value} {base : Heap} {f cR cB : Addr} {fd : FuncData}
def spRight : Sp := fun vs H Q _ => ∃ b : Addr, vs = [.ref b] ∧ PotAt H b ∧ ∀ H', SameB b H H' → PotAt H' b → Q (.bl true) H'
abbrev nRight : List Str := ["_law_pot_here", "_law_names_here", "_law_k", "_law_dicts", "_law_times", "_law_runs", "_law_number", "_law_own", "_law_other", "_law_way", "_law_run_here"]
theorem scRight : FnScope nRight ["_law_pot_here"] (defScope s__law_right) := ⟨rfl, rfl, rfl, by decide +kernel, rfl, by decide +kernel, by decide +kernel⟩
theorem ok_right (N : Nam mg) (U : TopS P w K mg base cR cB) (DD : Def P w K mg base "_law_draw" ["_law_pot_here", "_law_many"] 1 spDraw) (DNs : Def P w K mg base "_law_names" ["_law_pot_here", "_law_many"] 2 spNames) (DRn : Def P w K mg base "_law_run" ["_law_pot_here", "_law_names_here"] 2 spRun)
    (DP2 : DefG P w K mg base "_law_is_pair_right" ["_law_one", "_law_other", "_law_times", "_law_more"] 8 (spPair cR)) (DT3 : DefG P w K mg base "_law_is_triple_right" ["_law_runs", "_law_number"] 8 (spTriple cR)) (DSt : Def P w K mg base "_law_strange" ["_law_pot_here", "_law_names_here", "_law_times"] 3 spStrange)
    (DRf : Def P w K mg base "_law_refused" ["_law_one", "_law_other", "_law_way"] 6 (spRefused cR)) (F : Fun K "_law_right" "_law_right" s__law_right f fd) :
    FnG P w K mg base 9 f fd ["_law_pot_here"] spRight := by
  refine Fun.okG F scRight (fun {vs H Q E} h => ?_) (fun cdv A outer s H vs Q E hG hr h => ?_)
  · obtain ⟨_, rfl, _⟩ := h
    rfl
  · obtain ⟨b, rfl, hp, go⟩ := h
    have hu := hr.units
    have T := U.T
    obtain ⟨fT, fdT, mT, FT, bT⟩ := U.ti
    rw [← kTi_eq] at FT
    refine ⟨_, (pss_cons (ps_set (i := 1) scRight.nd rfl (Or.inr rfl) (callD DNs (hr.mono (by decide)) rfl (pa_cons (pv 0) (pa_cons (pe_ix ix_list (pe_lst (pa_cons pe_int (pa_cons pe_int (pa_cons pe_int (pa_cons (pe_op op_add pe_int (callD DD (hr.mono (by decide)) rfl (pa_cons (pv 0) (pa_cons pe_int pa_nil)))) pa_nil))))) (callD DD (hr.mono (by decide)) rfl (pa_cons (pv 0) (pa_cons pe_int pa_nil))) (fun _ _ => rfl)) pa_nil))))
      (pss_cons (ps_setLc (i := 3) (own := [("_law_k", 2)]) (g := (gName 2)) (tt := tYes) (te := (tCall spRun [] E0 (tCons (tVar 0) (tCons (tVar 1) tNil)))) (by rfl) scRight.nd rfl rfl (sw_true rfl rfl rfl (by decide +kernel)) (pi_range1 rfl N.rng (pa_cons pe_int pa_nil))
        (blkOk_by (own := [("_law_k", 2)]) (N := nRight) (sc := defScope s__law_right) (by decide +kernel)) (fun _ _ _ _ _ => (pg_name (i := 2) scRight.nd rfl (Or.inl rfl))) (fun _ _ _ _ _ => pts_nil)
        (fun _ _ _ _ _ => (callD DRn (hr.mono (by decide)) rfl (pa_cons (pv 0) (pa_cons (pv 1) pa_nil)))))
      (pss_cons (ps_par (i := 5) (j := 6) (by rfl) scRight.nd rfl rfl (by decide) rfl rfl (pa_cons (pe_lc (own := [("_law_times", 4)]) (g := (gName 4)) (tt := tYes) (te := (tMkR cR (tCons (tVar 4) tNil))) rfl scRight.nd (pi_list (pv 3))
        (blkOk_by (own := [("_law_times", 4)]) (N := nRight) (sc := defScope s__law_right) (by decide +kernel)) (fun _ _ _ _ _ => (pg_name (i := 4) scRight.nd rfl (Or.inl rfl))) (fun _ _ _ _ _ => pts_nil)
        (fun _ _ _ _ _ => (mkR U.M (hr.mono (by decide)) rfl (pa_cons (pv 4) pa_nil)))) (pa_cons (pe_ix ix_list (pe_lst (pa_cons pe_int (pa_cons pe_int (pa_cons (pe_un un_neg pe_int) (pa_cons (pe_op op_pow pe_int pe_int) pa_nil))))) (callD DD (hr.mono (by decide)) rfl (pa_cons (pv 0) (pa_cons pe_int pa_nil))) (fun _ _ => rfl)) pa_nil)) (by rfl))
      (pss_cons (ps_for PassesOwn.never rfl (pi_range1 rfl N.rng (pa_cons pe_int pa_nil)) (pg_name (i := 2) scRight.nd rfl (Or.inl rfl))
        (pss_one (ps_if (pt_not (pt_val (callDG DP2 hG (hr.mono (by decide)) rfl (pa_cons (pe_ix ix_list (pv 5) (pv 2) (fun _ _ => rfl)) (pa_cons (pe_ix ix_list (pv 5) (pe_op op_sub (pv 2) pe_int) (fun _ _ => rfl)) (pa_cons (pe_ix ix_list (pv 3) (pv 2) (fun _ _ => rfl)) (pa_cons (pe_ix ix_list (pv 3) (pe_op op_sub (pv 2) pe_int) (fun _ _ => rfl)) pa_nil))))))) (pss_one (ps_ret pe_bl)) pss_nil)))
      (pss_cons (ps_if (pt_not (pt_val (callDG DT3 hG (hr.mono (by decide)) rfl (pa_cons (pv 5) (pa_cons (pv 6) pa_nil))))) (pss_one (ps_ret pe_bl)) pss_nil)
      (pss_cons (ps_set (i := 4) scRight.nd rfl (Or.inl rfl) (callD DSt (hr.mono (by decide)) rfl (pa_cons (pv 0) (pa_cons (pv 1) (pa_cons (pe_ix ix_list (pv 3) pe_int (fun _ _ => rfl)) pa_nil)))))
      (pss_cons (ps_if (pt_cmpR op_lt (pe_callB call_lenD rfl N.len PySem.boot_len (pa_cons (pv 4) pa_nil)) pe_int (nomark _)) (pss_cons (ps_par (i := 7) (j := 8) (by rfl) scRight.nd rfl rfl (by decide) rfl rfl (pa_cons (pe_callTy call_tuple_of rfl N.tup_ boot_tuple' (pa_cons (pe_callB cr_sortedS rfl N.srt boot_sorted' (pa_cons (pv 1) pa_nil)) pa_nil)) (pa_cons (pe_callTy call_tuple_of rfl N.tup_ boot_tuple' (pa_cons (pe_callB (call_sortedD rfl) rfl N.srt boot_sorted' (pa_cons (pv 4) pa_nil)) pa_nil)) pa_nil)) (by rfl))
        (pss_one (ps_for PassesOwn.never rfl (pi_range1 rfl N.rng (pa_cons pe_int pa_nil)) (pg_name (i := 9) scRight.nd rfl (Or.inl rfl))
          (pss_cons (ps_if (pt_cmpR (op_neD hu) (callD DRf (hr.mono (by decide)) rfl (pa_cons (pe_ix ix_list (pv 5) pe_int (fun _ _ => rfl)) (pa_cons (mkR U.M (hr.mono (by decide)) rfl (pa_cons (pv 4) pa_nil)) (pa_cons (pv 9) pa_nil)))) (pe_lst (pa_cons (pv 7) (pa_cons (pv 8) (pa_cons pe_bl pa_nil)))) (nomark _)) (pss_one (ps_ret pe_bl)) pss_nil)
          (pss_one (ps_if (pt_cmpR (op_neD hu) (callD DRf (hr.mono (by decide)) rfl (pa_cons (mkR U.M (hr.mono (by decide)) rfl (pa_cons (pv 4) pa_nil)) (pa_cons (pe_ix ix_list (pv 5) pe_int (fun _ _ => rfl)) (pa_cons (pv 9) pa_nil)))) (pe_lst (pa_cons (pv 8) (pa_cons (pv 7) (pa_cons pe_bl pa_nil)))) (nomark _)) (pss_one (ps_ret pe_bl)) pss_nil)))))) pss_nil)
      (pss_one (ps_ret (pe_cmpR (op_eqV hu) (pe_lc (own := [("_law_run_here", 10)]) (g := (gName 10)) (tt := tYes) (te := (tMeth cR "times" (kTi cR) [] E0 (tVar 10) tNil)) rfl scRight.nd (pi_list (pv 5))
        (blkOk_by (own := [("_law_run_here", 10)]) (N := nRight) (sc := defScope s__law_right) (by decide +kernel)) (fun _ _ _ _ _ => (pg_name (i := 10) scRight.nd rfl (Or.inl rfl))) (fun _ _ _ _ _ => pts_nil)
        (fun _ _ _ _ _ => (pe_meth0 (pv 10) T.own.cl mT FT (hr.mono (by decide)) bT .nil pass0))) (pv 3) (nomark _))))))))))), ?_⟩
    -- the names
    refine ⟨_, rfl, _, rfl, b, 8, rfl, hp, by decide, by decide, fun k0 H1 d0 d8 p1 s1 => ⟨_, _, rfl, rfl, by show 4 ≤ sizeLine; decide, fun S nS => ?_⟩⟩
    have w0 := new_same (o := .lst [.int 1, .int 2, .int 3, .int (1 + k0)]) nS
    have kS : upd H1 S (.lst [.int 1, .int 2, .int 3, .int (1 + k0)]) S = some (.lst [.int 1, .int 2, .int 3, .int (1 + k0)]) := upd_same
    have eS := p1.new nS
    refine ⟨_, rfl, b, 4, rfl, p1.sm w0, by decide, by decide, fun k1 H2 g0' g4 p2 s2 => ?_⟩
    obtain ⟨m, hm, m1, m8⟩ : ∃ m : Nat, atI [V.int 1, .int 2, .int 3, .int (1 + k0)] k1 = some (.int m) ∧ 1 ≤ m ∧ m ≤ 8 := by
      obtain ⟨k, rfl⟩ := Int.eq_ofNat_of_zero_le g0'
      obtain ⟨j, rfl⟩ := Int.eq_ofNat_of_zero_le d0
      have hk : k < 4 := by omega
      match k, hk with
      | 0, _ => exact ⟨1, rfl, by decide, by decide⟩
      | 1, _ => exact ⟨2, rfl, by decide, by decide⟩
      | 2, _ => exact ⟨3, rfl, by decide, by decide⟩
      | 3, _ => exact ⟨1 + j, rfl, by omega, by omega⟩
    refine ⟨S, _, k1, .int m, rfl, rfl, .inl (.inl (s2 _ _ kS eS)), hm, b, m, rfl, p2, m8, fun L H3 zs nL s3 p3 hL lz nd tw => ?_⟩
    have s03 := (s1.trans (SameB.of w0)).trans (s2.trans s3)
    have Lb : L ≠ b := p2.new nL
    clear s1 w0 kS eS nS s2 s3 p1 p2 nL hm d0 d8 g0' g4
    have lz8 : zs.length ≤ 8 := by omega
    have zpos : 0 < zs.length := by omega
    -- the dicts
    refine ⟨3, rfl, by decide, by decide, fun D nD => ?_⟩
    have Db : D ≠ b := p3.new nD
    have LD : L ≠ D := ne_of_none hL nD
    refine lc_it (walk_range (lo := 0) (n := ((3 : Int)).toNat)) (fun i G => ∃ cs ts, G D = some (.lst (cs.map V.ref)) ∧ Paired (TbN G zs) cs ts ∧ cs.Nodup ∧ cs.length = i ∧ PotAt G b ∧ SameB b H3 G ∧ G L = some (.lst (zs.map V.str)))
      ⟨[], [], upd_same, .nil, List.nodup_nil, rfl, p3.sm (new_same nD), SameB.of (new_same nD), (upd_ne LD).trans hL⟩ (fun _ _ _ _ => True.intro) ?_ ?_
    · rintro i x G G' lti ⟨cs, ts, hD, pr, ndc, lc, pG, sG, hLG⟩ ⟨rfl, rfl⟩
      refine ⟨rfl, _, rfl, _, rfl, b, L, zs, rfl, pG, hLG, Lb, nd, lz8, fun p G2 t np s2 p2 ht ek bk => ?_⟩
      have hD2 := s2 _ _ hD Db
      have pD : p ≠ D := (ne_of_none hD np).symm
      refine ⟨cs.map V.ref, hD2, ?_, cs ++ [p], ts ++ [t], ?_, ?_, ?_, ?_, p2.upd Db, ?_, (upd_ne LD).trans (s2 _ _ hLG Lb)⟩
      · rw [List.length_map, lc]
        exact Nat.lt_trans lti (by decide)
      · rw [upd_same, List.map_append]
        rfl
      · refine paired_snoc (paired_mono (fun c u h => ?_) pr) ⟨(upd_ne pD).trans ht, ek⟩
        have cD : c ≠ D := by
          rintro rfl
          have := h.1
          rw [hD] at this
          cases this
        exact ⟨(upd_ne cD).trans (s2 _ _ h.1 (pG.ne h.1 (fun _ q => by cases q))), h.2⟩
      · refine List.nodup_append.mpr ⟨ndc, by simp, fun x hx y hy e => ?_⟩
        rw [List.mem_singleton.mp hy] at e
        obtain ⟨u, hu⟩ := paired_mem pr hx
        exact ne_of_none hu.1 np e
      · rw [List.length_append, lc]
        rfl
      · intro q o e n
        rw [upd_ne (ne_of_none e nD)]
        exact s2 _ _ (sG _ _ e n) n
    · rintro G ⟨cs, ts, hD, pr, ndc, lc, pG, sG, hLG⟩
      obtain ⟨c0, c1, c2, t0, t1, t2, rfl, rfl, h0, h1, h2⟩ := paired3 pr lc
      have s0G := s03.trans sG
      clear hp s03 sG pr lc nD p3 hL
      have okt : ∀ {t : Tb}, keys t = zs → Okt t := fun {t} e => ⟨fun p hp => twelve_nm _ (tw _ (e ▸ List.mem_map.mpr ⟨p, hp, rfl⟩)), e ▸ nd⟩
      have lent : ∀ {t : Tb}, keys t = zs → t.length = zs.length := fun {t} e => by rw [← e, keys_len]
      -- the runs
      refine ⟨_, rfl, D, rfl, ⟨_, .inl (.inl hD)⟩, fun R nR => ?_⟩
      have RD : D ≠ R := ne_of_none hD nR
      refine lc_it (walk_list (xs := [.ref c0, .ref c1, .ref c2])) (fun i G' => Same G G' ∧ ∃ as, G' R = some (.lst (as.map V.ref)) ∧ as.length = i ∧ Paired (fun a t => RF cR G' a zs (g0 t)) as ([t0, t1, t2].take i))
        ⟨new_same nR, [], upd_same, rfl, .nil⟩ (fun i G' _ h => .inl (.inl (h.1 _ _ hD))) ?_ ?_
      · rintro i x G1 G1' lti ⟨sm, as, hR, la, pr⟩ ⟨rfl, hx⟩
        obtain ⟨c, t, rfl, ht, hc, ek⟩ : ∃ c t, x = .ref c ∧ [t0, t1, t2][i]? = some t ∧ G c = some (.dK (kv t)) ∧ keys t = zs := by
          match i, hx with
          | 0, hx => exact ⟨c0, t0, (Option.some.inj hx).symm, rfl, h0.1, h0.2⟩
          | 1, hx => exact ⟨c1, t1, (Option.some.inj hx).symm, rfl, h1.1, h1.2⟩
          | 2, hx => exact ⟨c2, t2, (Option.some.inj hx).symm, rfl, h2.1, h2.2⟩
          | n + 3, hx => cases hx
        refine ⟨rfl, _, rfl, c, t, rfl, sm _ _ hc, okt ek, by rw [lent ek]; exact zpos, by rw [lent ek]; exact lz8, fun a e G2 na ne s2 r2 => ?_⟩
        have hR2 := s2 _ _ hR
        refine ⟨as.map V.ref, hR2, ?_, ?_, as ++ [a], ?_, ?_, ?_⟩
        · rw [List.length_map, la]
          exact Nat.lt_trans lti (by show 3 < sizeLine; decide)
        · intro q o e
          rw [upd_ne (ne_of_none e nR)]
          exact s2 _ _ (sm _ _ e)
        · rw [upd_same, List.map_append]
          rfl
        · rw [List.length_append, la]
          rfl
        · rw [List.take_add_one, ht]
          refine paired_snoc (paired_mono (fun a u h => ((show RF cR G1' a zs (g0 u) from h).sm s2).keep (keepU hR2)) pr) ?_
          have r3 : RF cR G2 a zs (g0 t) := ⟨e, by rw [← ek, ← fo_ord]; exact r2⟩
          exact r3.keep (keepU hR2)
      · rintro G1 ⟨sm, as, hR, la, pr⟩
        obtain ⟨a0, a1, a2, _, _, _, rfl, e3, r0, r1, r2⟩ := paired3 pr la
        obtain ⟨rfl, rfl, rfl⟩ : t0 = _ ∧ t1 = _ ∧ t2 = _ := by
          simp only [List.map_cons, List.map_nil, List.length_cons, List.length_nil, List.take, List.cons.injEq] at e3
          exact ⟨e3.1, e3.2.1, e3.2.2.1⟩
        replace h0 := And.intro (sm _ _ h0.1) h0.2
        replace h1 := And.intro (sm _ _ h1.1) h1.2
        replace h2 := And.intro (sm _ _ h2.1) h2.2
        replace hD := sm _ _ hD
        replace hLG := sm _ _ hLG
        have p1 := pG.sm sm
        have s01 := s0G.trans (SameB.of sm)
        have Rb : R ≠ b := pG.new nR
        clear sm pG s0G nR la pr e3
        -- the number
        refine ⟨7, rfl, 10, 50, rfl, rfl, ⟨by decide, by decide, by decide⟩, by show 4 ≤ sizeLine; decide, fun S nS => ?_⟩
        have w1 := new_same (o := .lst [.int 0, .int 1, .int (-7), .int (10 ^ (50 : Int).toNat)]) nS
        have kS : upd G1 S (.lst [.int 0, .int 1, .int (-7), .int (10 ^ (50 : Int).toNat)]) S = some (.lst [.int 0, .int 1, .int (-7), .int (10 ^ (50 : Int).toNat)]) := upd_same
        have eS := p1.new nS
        refine ⟨_, rfl, b, 4, rfl, p1.sm w1, by decide, by decide, fun k G2 k0 k4 p2 s2 => ?_⟩
        obtain ⟨n, hn⟩ : ∃ n : Int, atI [V.int 0, .int 1, .int (-7), .int (10 ^ (50 : Int).toNat)] k = some (.int n) := by
          obtain ⟨j, rfl⟩ := Int.eq_ofNat_of_zero_le k0
          have hj : j < 4 := by omega
          match j, hj with
          | 0, _ => exact ⟨_, rfl⟩
          | 1, _ => exact ⟨_, rfl⟩
          | 2, _ => exact ⟨_, rfl⟩
          | 3, _ => exact ⟨_, rfl⟩
        refine ⟨S, _, k, .int n, rfl, rfl, .inl (.inl (s2 _ _ kS eS)), hn, _, _, rfl, ?_⟩
        have s12 : SameB b G1 G2 := (SameB.of w1).trans s2
        have k12 := keepB p1 s12
        have nl : ∀ {q : Addr} {o : HO} {G G' : Hp}, True := True.intro
        replace h0 := And.intro (k12 _ _ h0.1 (fun _ q => by cases q)) h0.2
        replace h1 := And.intro (k12 _ _ h1.1 (fun _ q => by cases q)) h1.2
        replace h2 := And.intro (k12 _ _ h2.1 (fun _ q => by cases q)) h2.2
        have f0 : RF cR G2 a0 zs (g0 t0) := RF.keep r0 k12
        have f1 : RF cR G2 a1 zs (g0 t1) := RF.keep r1 k12
        have f2 : RF cR G2 a2 zs (g0 t2) := RF.keep r2 k12
        replace hD := s12 _ _ hD Db
        replace hR := s12 _ _ hR Rb
        replace hLG := s12 _ _ hLG Lb
        have s02 := s01.trans s12
        clear k12 r0 r1 r2 w1 kS eS s2 s12 hn k0 k4 p1 s01 nS
        have no : NsOk zs := ⟨fun z m => twelve_nm _ (tw z m), nd, zpos, lz8⟩
        simp only [List.nodup_cons, List.mem_cons, List.not_mem_nil, or_false, not_or, not_false_eq_true, List.nodup_nil, and_true] at ndc
        obtain ⟨⟨n01, n02⟩, n12⟩ := ndc
        -- pair by pair
        refine ⟨3, rfl, by decide, by decide, ?_⟩
        refine for_it (walk_range (lo := 0) (n := ((3 : Int)).toNat)) (fun i σ H' => Same G2 H' ∧ ∃ v2, σ = [some (.ref b), some (.ref L), v2, some (.ref D), none, some (.ref R), some (.int n), none, none, none, none]) ⟨Same.refl _, _, rfl⟩ (fun _ _ _ _ _ => True.intro) ?_ ?_
        · rintro i x σ J J' lti ⟨sm, v2, rfl⟩ ⟨rfl, rfl⟩
          obtain ⟨a, a', c, c', t, t', e1, e2, e3, e4, fa, fb, hc, hc', ek, ek', cc⟩ : ∃ a a' c c' t t', atI [V.ref a0, .ref a1, .ref a2] (0 + (i : Int)) = some (.ref a) ∧ atI [V.ref a0, .ref a1, .ref a2] (0 + (i : Int) - 1) = some (.ref a') ∧ atI [V.ref c0, .ref c1, .ref c2] (0 + (i : Int)) = some (.ref c) ∧ atI [V.ref c0, .ref c1, .ref c2] (0 + (i : Int) - 1) = some (.ref c') ∧
              RF cR G2 a zs (g0 t) ∧ RF cR G2 a' zs (g0 t') ∧ G2 c = some (.dK (kv t)) ∧ G2 c' = some (.dK (kv t')) ∧ keys t = zs ∧ keys t' = zs ∧ c ≠ c' := by
            rcases three lti with rfl | rfl | rfl
            · exact ⟨a0, a2, c0, c2, t0, t2, rfl, rfl, rfl, rfl, f0, f2, h0.1, h2.1, h0.2, h2.2, n02⟩
            · exact ⟨a1, a0, c1, c0, t1, t0, rfl, rfl, rfl, rfl, f1, f0, h1.1, h0.1, h1.2, h0.2, Ne.symm n01⟩
            · exact ⟨a2, a1, c2, c1, t2, t1, rfl, rfl, rfl, rfl, f2, f1, h2.1, h1.1, h2.2, h1.2, Ne.symm n12⟩
          have hRJ := sm _ _ hR
          have hDJ := sm _ _ hD
          refine ⟨_, rfl, _, rfl, R, _, _, .ref a, rfl, rfl, .inl (.inl hRJ), e1, ?_⟩
          refine ⟨_, rfl, _, rfl, _, _, rfl, rfl, R, _, _, .ref a', rfl, rfl, .inl (.inl hRJ), e2, ?_⟩
          refine ⟨_, rfl, _, rfl, D, _, _, .ref c, rfl, rfl, .inl (.inl hDJ), e3, ?_⟩
          refine ⟨_, rfl, _, rfl, _, _, rfl, rfl, D, _, _, .ref c', rfl, rfl, .inl (.inl hDJ), e4, ?_⟩
          subst ek
          exact ⟨a, a', c, c', t, t', rfl, fa.sm sm, fb.sm sm, sm _ _ hc, sm _ _ hc', cc, ek'.symm, okt rfl, by rw [lent rfl]; exact zpos, by rw [lent rfl]; exact lz8, fun J2 s2 => ⟨true, rfl, sm.trans s2, _, rfl⟩⟩
        · rintro σ J ⟨sm, v2, rfl⟩
          replace f0 := f0.sm sm
          replace f1 := f1.sm sm
          replace f2 := f2.sm sm
          replace hR := sm _ _ hR
          refine ⟨_, rfl, _, rfl, R, a0, a1, a2, n, zs, _, _, _, rfl, hR, no, f0, f1, f2, fun J2 s2 => ⟨true, rfl, ?_⟩⟩
          replace sm := sm.trans s2
          replace f0 := f0.sm s2
          replace f1 := f1.sm s2
          replace f2 := f2.sm s2
          replace hR := s2 _ _ hR
          replace hD := sm _ _ hD
          replace hLG := sm _ _ hLG
          replace h0 := And.intro (sm _ _ h0.1) h0.2
          replace h1 := And.intro (sm _ _ h1.1) h1.2
          replace h2 := And.intro (sm _ _ h2.1) h2.2
          replace p2 := p2.sm sm
          replace s02 := s02.trans (SameB.of sm)
          clear sm s2
          -- a strange one
          refine ⟨_, rfl, _, rfl, _, rfl, D, _, 0, .ref c0, rfl, rfl, .inl (.inl hD), rfl, b, L, c0, t0, rfl, p2, Lb, by rw [h0.2]; exact hLG, h0.1, okt h0.2, by rw [lent h0.2]; exact zpos, by rw [lent h0.2]; exact lz8, fun m => twelve_d (tw _ (h0.2 ▸ m)), fun p J3 u np s3 p3 hpp ou upos u9 oth => ?_⟩
          have k3 := keepB p2 s3
          replace h0 := And.intro (k3 _ _ h0.1 (fun _ q => by cases q)) h0.2
          replace h1 := And.intro (k3 _ _ h1.1 (fun _ q => by cases q)) h1.2
          replace h2 := And.intro (k3 _ _ h2.1 (fun _ q => by cases q)) h2.2
          replace f0 := f0.keep k3
          replace f1 := f1.keep k3
          replace f2 := f2.keep k3
          replace hR := s3 _ _ hR Rb
          replace hD := s3 _ _ hD Db
          replace hLG := s3 _ _ hLG Lb
          replace s02 := s02.trans s3
          clear k3 s3 p2 np
          refine ⟨_, rfl, p, _, rfl, hpp, _, _, rfl, rfl, _, rfl, ?_⟩
          refine ite2 (fun lt9 => ?_) (fun _ => ?_)
          · have u8 : u.length ≤ 8 := by
              have := of_decide_eq_true lt9
              rw [kv_len] at this
              omega
            have oth2 : srt zs ≠ srt (keys u) := Other.ne (h0.2 ▸ oth)
            -- both names
            refine ⟨_, rfl, L, zs, rfl, .inl (.inl hLG), by omega, fun ys q1 perm so n1 => ?_⟩
            obtain rfl := srt_uniq perm so
            have w1 := new_same (o := .lst ((srt zs).map V.str)) n1
            have hq1 : upd J3 q1 (.lst ((srt zs).map V.str)) q1 = some (.lst ((srt zs).map V.str)) := upd_same
            generalize upd J3 q1 (.lst ((srt zs).map V.str)) = J4 at *
            refine ⟨q1, _, rfl, .inl ⟨.inl (.inl hq1), fun q2 n2 => ?_⟩⟩
            have w2 := new_same (o := .tup ((srt zs).map V.str)) n2
            have hq2 : upd J4 q2 (.tup ((srt zs).map V.str)) q2 = some (.tup ((srt zs).map V.str)) := upd_same
            generalize upd J4 q2 (.tup ((srt zs).map V.str)) = J5 at *
            have w12 := w1.trans w2
            refine ⟨_, rfl, p, kv u, keys u, rfl, .inl (w12 _ _ hpp), kv_keys u, by rw [keys_len]; omega, fun ys q3 perm so n3 => ?_⟩
            obtain rfl := srt_uniq perm so
            have w3 := new_same (o := .lst ((srt (keys u)).map V.str)) n3
            have hq3 : upd J5 q3 (.lst ((srt (keys u)).map V.str)) q3 = some (.lst ((srt (keys u)).map V.str)) := upd_same
            generalize upd J5 q3 (.lst ((srt (keys u)).map V.str)) = J6 at *
            refine ⟨q3, _, rfl, .inl ⟨.inl (.inl hq3), fun q4 n4 => ⟨_, _, rfl, ?_⟩⟩⟩
            have w4 := new_same (o := .tup ((srt (keys u)).map V.str)) n4
            have hq4 : upd J6 q4 (.tup ((srt (keys u)).map V.str)) q4 = some (.tup ((srt (keys u)).map V.str)) := upd_same
            generalize upd J6 q4 (.tup ((srt (keys u)).map V.str)) = J7 at *
            have w := w12.trans (w3.trans w4)
            replace hq2 := w4 _ _ (w3 _ _ hq2)
            replace h0 := And.intro (w _ _ h0.1) h0.2
            replace h1 := And.intro (w _ _ h1.1) h1.2
            replace h2 := And.intro (w _ _ h2.1) h2.2
            replace f0 := f0.sm w
            replace f1 := f1.sm w
            replace f2 := f2.sm w
            replace hR := w _ _ hR
            replace hD := w _ _ hD
            replace hpp := w _ _ hpp
            replace p3 := p3.sm w
            replace s02 := s02.trans (SameB.of w)
            clear w w1 w2 w12 w3 w4 n1 n2 n3 n4 hq1 hq3 hLG perm so
            have oz : ∀ z ∈ srt zs, PyData.strOk z = true := fun z m => (twelve_nm _ (tw z (srt_mem.mp m))).strOk
            have oy : ∀ z ∈ srt (keys u), PyData.strOk z = true := fun z m => (ou.key (srt_mem.mp m)).strOk
            have ko : keys (ord u) = srt (keys u) := keys_ord u
            have kf : keys (fo zs (g0 t0)) = srt zs := keys_fo _ _
            -- three ways
            refine ⟨3, rfl, by decide, by decide, ?_⟩
            refine for_it (walk_range (lo := 0) (n := ((3 : Int)).toNat)) (fun i σ H' => Same J7 H' ∧ ∃ v9, σ = [some (.ref b), some (.ref L), v2, some (.ref D), some (.ref p), some (.ref R), some (.int n), some (.ref q2), some (.ref q4), v9, none]) ⟨Same.refl _, _, rfl⟩ (fun _ _ _ _ _ => True.intro) ?_ ?_
            · rintro i x σ M M' lti ⟨sm, v9, rfl⟩ ⟨rfl, rfl⟩
              have hRM := sm _ _ hR
              obtain ⟨e0, ra0⟩ := f0.sm sm
              refine ⟨_, rfl, R, _, 0, .ref a0, rfl, rfl, .inl (.inl hRM), rfl, _, rfl, p, u, rfl, sm _ _ hpp, ou, upos, u8, fun x e M1 nx ne s1 rx => ?_⟩
              refine ⟨_, rfl, a0, e0, x, e, _, _, _, rfl, ra0.sm s1, rx, by rw [kf, ko]; exact oth2, no.fo _, ou.ord, fun L2 p' q' M2 nL s2 hL2 hp' hq' => ?_⟩
              rw [kf] at hp'
              rw [ko] at hq'
              have sm2 := sm.trans (s1.trans s2)
              refine ⟨_, rfl, _, rfl, by show 3 ≤ sizeLine; decide, fun E nE => ?_⟩
              have w1 := new_same (o := .lst [.ref q2, .ref q4, .bl true]) nE
              have hE : upd M2 E (.lst [.ref q2, .ref q4, .bl true]) E = some (.lst [.ref q2, .ref q4, .bl true]) := upd_same
              replace hL2 := w1 _ _ hL2
              replace hp' := w1 _ _ hp'
              replace hq' := w1 _ _ hq'
              replace sm2 := sm2.trans w1
              generalize upd M2 E (.lst [.ref q2, .ref q4, .bl true]) = M3 at *
              refine ⟨_, _, refused_dp hL2 hp' hq', refused_dp hE (sm2 _ _ hq2) (sm2 _ _ hq4), (refused_shaped oz oy).2, (refused_shaped oz oy).2, _, rfl, ?_⟩
              rw [PySem.SeqAt.eqv_refl _ (refused_shaped oz oy).1]
              clear nx nL nE s1 s2 w1 hL2 hp' hq' hE rx ra0 sm hRM
              have hRM := sm2 _ _ hR
              obtain ⟨e0, ra0⟩ := f0.sm sm2
              refine ⟨_, rfl, p, u, rfl, sm2 _ _ hpp, ou, upos, u8, fun x e M4 nx ne s1 rx => ?_⟩
              refine ⟨_, rfl, R, _, 0, .ref a0, rfl, rfl, .inl (.inl (s1 _ _ hRM)), rfl, ?_⟩
              refine ⟨_, rfl, x, e, a0, e0, _, _, _, rfl, rx, ra0.sm s1, by rw [kf, ko]; exact fun z => oth2 z.symm, ou.ord, no.fo _, fun L2 p' q' M5 nL s2 hL2 hp' hq' => ?_⟩
              rw [ko] at hp'
              rw [kf] at hq'
              have sm3 := sm2.trans (s1.trans s2)
              refine ⟨_, rfl, _, rfl, by show 3 ≤ sizeLine; decide, fun E nE => ?_⟩
              have w1 := new_same (o := .lst [.ref q4, .ref q2, .bl true]) nE
              have hE : upd M5 E (.lst [.ref q4, .ref q2, .bl true]) E = some (.lst [.ref q4, .ref q2, .bl true]) := upd_same
              replace hL2 := w1 _ _ hL2
              replace hp' := w1 _ _ hp'
              replace hq' := w1 _ _ hq'
              replace sm3 := sm3.trans w1
              generalize upd M5 E (.lst [.ref q4, .ref q2, .bl true]) = M6 at *
              refine ⟨_, _, refused_dp hL2 hp' hq', refused_dp hE (sm3 _ _ hq4) (sm3 _ _ hq2), (refused_shaped oy oz).2, (refused_shaped oy oz).2, _, rfl, ?_⟩
              rw [PySem.SeqAt.eqv_refl _ (refused_shaped oy oz).1]
              exact ⟨sm3, _, rfl⟩
            · rintro σ J8 ⟨sm7, v9, rfl⟩
              replace h0 := And.intro (sm7 _ _ h0.1) h0.2
              replace h1 := And.intro (sm7 _ _ h1.1) h1.2
              replace h2 := And.intro (sm7 _ _ h2.1) h2.2
              replace f0 := f0.sm sm7
              replace f1 := f1.sm sm7
              replace f2 := f2.sm sm7
              replace hR := sm7 _ _ hR
              replace hD := sm7 _ _ hD
              replace p3 := p3.sm sm7
              replace s02 := s02.trans (SameB.of sm7)
              refine ⟨_, rfl, R, rfl, ⟨_, .inl (.inl hR)⟩, fun E nE => ?_⟩
              refine lc_it (walk_list (xs := [.ref a0, .ref a1, .ref a2])) (fun i J' => Same J8 J' ∧ ∃ ps, J' E = some (.lst (ps.map V.ref)) ∧ ps.length = i ∧ Paired (fun p t => J' p = some (.dK (kv (fo zs (g0 t))))) ps ([t0, t1, t2].take i))
                ⟨new_same nE, [], upd_same, rfl, .nil⟩ (fun i J' _ h => .inl (.inl (h.1 _ _ hR))) ?_ ?_
              · rintro i x J4 J4' lti ⟨sm, ps, hE, lp, pr⟩ ⟨rfl, hx⟩
                obtain ⟨a, t, rfl, ht, fa⟩ : ∃ a t, x = .ref a ∧ [t0, t1, t2][i]? = some t ∧ RF cR J8 a zs (g0 t) := by
                  match i, hx with
                  | 0, hx => exact ⟨a0, t0, (Option.some.inj hx).symm, rfl, f0⟩
                  | 1, hx => exact ⟨a1, t1, (Option.some.inj hx).symm, rfl, f1⟩
                  | 2, hx => exact ⟨a2, t2, (Option.some.inj hx).symm, rfl, f2⟩
                  | n + 3, hx => cases hx
                replace fa := fa.sm sm
                obtain ⟨dx, ex, hi⟩ := fa.ins
                refine ⟨rfl, _, rfl, a, dx, _, rfl, hi, rfl, ?_⟩
                refine times_gk fa fun q J5 nq s5 hq => ?_
                have hE5 := s5 _ _ hE
                refine ⟨ps.map V.ref, hE5, ?_, ?_, ps ++ [q], ?_, ?_, ?_⟩
                · rw [List.length_map, lp]
                  exact Nat.lt_trans lti (by show 3 < sizeLine; decide)
                · intro z o e
                  rw [upd_ne (ne_of_none e nE)]
                  exact s5 _ _ (sm _ _ e)
                · rw [upd_same, List.map_append]
                  rfl
                · rw [List.length_append, lp]
                  rfl
                · rw [List.take_add_one, ht]
                  refine paired_snoc (paired_mono (fun q u h => keepU hE5 _ _ (s5 _ _ h) (fun _ q => by cases q)) pr) (keepU hE5 _ _ hq (fun _ q => by cases q))
              · rintro J4 ⟨sm, ps, hE, lp, pr⟩
                obtain ⟨q0, q1, q2, _, _, _, rfl, e3, y0, y1, y2⟩ := paired3 pr lp
                obtain ⟨rfl, rfl, rfl⟩ : t0 = _ ∧ t1 = _ ∧ t2 = _ := by
                  simp only [List.map_cons, List.map_nil, List.length_cons, List.length_nil, List.take, List.cons.injEq] at e3
                  exact ⟨e3.1, e3.2.1, e3.2.2.1⟩
                exact ⟨_, rfl, 2, by decide, .inl ⟨E, D, _, _, rfl, rfl, .inl (.inl hE), .inl (.inl (sm _ _ hD)), .cons (eq_tab y0 (sm _ _ h0.1) h0.2) (.cons (eq_tab y1 (sm _ _ h1.1) h1.2) (.cons (eq_tab y2 (sm _ _ h2.1) h2.2) .nil))⟩, go _ (s02.trans (SameB.of sm)) (p3.sm sm)⟩
          · refine ⟨_, rfl, R, rfl, ⟨_, .inl (.inl hR)⟩, fun E nE => ?_⟩
            refine lc_it (walk_list (xs := [.ref a0, .ref a1, .ref a2])) (fun i J' => Same J3 J' ∧ ∃ ps, J' E = some (.lst (ps.map V.ref)) ∧ ps.length = i ∧ Paired (fun p t => J' p = some (.dK (kv (fo zs (g0 t))))) ps ([t0, t1, t2].take i))
              ⟨new_same nE, [], upd_same, rfl, .nil⟩ (fun i J' _ h => .inl (.inl (h.1 _ _ hR))) ?_ ?_
            · rintro i x J4 J4' lti ⟨sm, ps, hE, lp, pr⟩ ⟨rfl, hx⟩
              obtain ⟨a, t, rfl, ht, fa⟩ : ∃ a t, x = .ref a ∧ [t0, t1, t2][i]? = some t ∧ RF cR J3 a zs (g0 t) := by
                match i, hx with
                | 0, hx => exact ⟨a0, t0, (Option.some.inj hx).symm, rfl, f0⟩
                | 1, hx => exact ⟨a1, t1, (Option.some.inj hx).symm, rfl, f1⟩
                | 2, hx => exact ⟨a2, t2, (Option.some.inj hx).symm, rfl, f2⟩
                | n + 3, hx => cases hx
              replace fa := fa.sm sm
              obtain ⟨dx, ex, hi⟩ := fa.ins
              refine ⟨rfl, _, rfl, a, dx, _, rfl, hi, rfl, ?_⟩
              refine times_gk fa fun q J5 nq s5 hq => ?_
              have hE5 := s5 _ _ hE
              refine ⟨ps.map V.ref, hE5, ?_, ?_, ps ++ [q], ?_, ?_, ?_⟩
              · rw [List.length_map, lp]
                exact Nat.lt_trans lti (by show 3 < sizeLine; decide)
              · intro z o e
                rw [upd_ne (ne_of_none e nE)]
                exact s5 _ _ (sm _ _ e)
              · rw [upd_same, List.map_append]
                rfl
              · rw [List.length_append, lp]
                rfl
              · rw [List.take_add_one, ht]
                refine paired_snoc (paired_mono (fun q u h => keepU hE5 _ _ (s5 _ _ h) (fun _ q => by cases q)) pr) (keepU hE5 _ _ hq (fun _ q => by cases q))
            · rintro J4 ⟨sm, ps, hE, lp, pr⟩
              obtain ⟨q0, q1, q2, _, _, _, rfl, e3, y0, y1, y2⟩ := paired3 pr lp
              obtain ⟨rfl, rfl, rfl⟩ : t0 = _ ∧ t1 = _ ∧ t2 = _ := by
                simp only [List.map_cons, List.map_nil, List.length_cons, List.length_nil, List.take, List.cons.injEq] at e3
                exact ⟨e3.1, e3.2.1, e3.2.2.1⟩
              exact ⟨_, rfl, 2, by decide, .inl ⟨E, D, _, _, rfl, rfl, .inl (.inl hE), .inl (.inl (sm _ _ hD)), .cons (eq_tab y0 (sm _ _ h0.1) h0.2) (.cons (eq_tab y1 (sm _ _ h1.1) h1.2) (.cons (eq_tab y2 (sm _ _ h2.1) h2.2) .nil))⟩, go _ (s02.trans (SameB.of sm)) (p3.sm sm)⟩
end
end E10

set_option Elab.async false
set_option linter.all false
set_option maxRecDepth 100000
set_option maxHeartbeats 8000000
namespace E10
open L2 PySem PySem.Spec PyProof.Rows
/-! ### the law's call, at the heap behind the top -/
/-- what is tracked there: the script, or nothing -/
structure Begins (K : PySem.W.Frag) (H : Hp) (a : Addr) (o : Obj) (xs : List V) : Prop where
  just : ∀ b u, H b = some u → b = a ∧ u = .frz o (.lst xs) ∧ K.lookup a = none
  seq : SqL K H a xs
theorem begins {K : PySem.W.Frag} {h : Heap} {a : Addr} {vs : List Value} {xs : List V} (inK : K.In h) (at_ : h.get? a = some { cls := .type "list", data := .seq vs.toArray }) (r : Vals xs vs) (few : xs.length ≤ sizeLine) :
    ∃ H, Begins K H a { cls := .type "list", data := .seq vs.toArray } xs := by
  cases z : K.lookup a with
  | none =>
    refine ⟨fun b => if b = a then some (.frz { cls := .type "list", data := .seq vs.toArray } (.lst xs)) else none, ⟨fun b u e => ?_, .inl (.inr ⟨_, if_pos rfl⟩)⟩⟩
    by_cases q : b = a
    · have e2 := (if_pos q).symm.trans e
      cases e2
      exact ⟨q, rfl, z⟩
    · have e2 := (if_neg q).symm.trans e
      cases e2
  | some o =>
    have same := inK _ _ z
    rw [at_] at same
    cases same
    refine ⟨fun _ => none, ⟨fun b u e => ?_, .inr ⟨_, vs.toArray, _, z, rfl, rfl, rfl, by rw [List.size_toArray, ← r.length]; exact few, r⟩⟩⟩
    cases (show (none : Option HO) = some u from e)
theorem goes_at {P : Program} {w : World} {K : PySem.W.Frag} {mg mb : Str → Option Value} {k : Nat} {f a : Addr} {fd : FuncData} {y : Str} {sp : Sp} {t : Shared} {vs : List Value} {xs : List V}
    (inK : K.In t.heap) (g : t.heap.Ns mainGlobals mg) (bn : t.heap.Ns builtinsNs mb) (bb : ∀ x : Str, x ≠ "__name__" → mb x = bootBuiltins x) (lim : t.heap.NoLimit) (no : t.gens = #[])
    (at_ : t.heap.get? a = some { cls := .type "list", data := .seq vs.toArray }) (r : Vals xs vs) (few : xs.length ≤ sizeLine) (room : Room k callerA)
    (F : ∀ base : Heap, K.In base → base.Ns mainGlobals mg → FnG P w K mg base k f fd [y] sp) (bi : ∀ (s : Shared) (u : Value), BindsTo s fd ⟨[u], []⟩ [(y, u)])
    (want : ∀ H : Hp, SqL K H a xs → sp [.ref a] H (fun v _ => v = .bl true) E0) :
    codeAny (model P w) callerA (.call (.ref f) ⟨[.ref a], []⟩) (fun res t' => res = .ok (.ret (.bool true)) ∧ OldK t.heap t'.heap ∧ t'.os = t.os ∧ AllBare t'.gens) t := by
  obtain ⟨H, B⟩ := begins inK at_ r few
  have ok : HOk P w H t.heap := fun b u e => by
    obtain ⟨rfl, rfl, _⟩ := B.just b u e
    exact ⟨at_, few, vs, _, r, at_⟩
  have out : ∀ {b : Addr} {m : Str → Option Value}, t.heap.Ns b m → (hidT t.heap H).Ns b m := fun {b m} ⟨o, es, ep, e, d, q⟩ => by
    refine ⟨o, es, ep, hidT_get e ?_, d, q⟩
    cases z : H b with
    | none => rfl
    | some u =>
      obtain ⟨rfl, _, _⟩ := B.just b u z
      rw [at_] at e
      cases e
      cases (show Data.seq vs.toArray _ = Data.dict es ep from d)
  have inB : K.In (hidT t.heap H) := fun b o e => by
    refine hidT_get (inK b o e) ?_
    cases z : H b with
    | none => rfl
    | some u =>
      obtain ⟨rfl, _, n⟩ := B.just b u z
      rw [n] at e
      cases e
  obtain ⟨mc, l1, l2⟩ := lim
  have env : Env0 P w K mg (hidT t.heap H) callerA [] t H := ⟨rfl, ⟨inB, out g, ⟨mb, out bn, bb⟩, ⟨mc, out l1, l2⟩⟩, fun _ _ e => of_hidT e, Nat.le_of_eq (hidT_size _ _), trivial, (fun b m => absurd (show b ∈ ([] : List Addr) from m) (List.not_mem_nil)), ok, .of_eq no⟩
  refine codeAny_mono ((F _ inB (out g)).goes (us := [.ref a]) (vs := [.ref a]) rfl room env (bi t (.ref a)) (.cons rfl .nil) (want H B.seq)) fun res t' ends => ?_
  match res, ends with
  | .error _, z => exact z.elim
  | .ok .next, z => exact z.elim
  | .ok .brk, z => exact z.elim
  | .ok .cont, z => exact z.elim
  | .ok (.ret u), ⟨v, H', os, bare, un, ok', rv, q⟩ =>
    cases (show v = V.bl true from q)
    cases (show u = Value.bool true from rv)
    refine ⟨rfl, OldK.of_keep fun b o e => ?_, os, bare⟩
    cases z : H b with
    | none => exact un.keep b o e z (fun m => by cases m) (fun m => by cases m)
    | some u =>
      obtain ⟨rfl, rfl, _⟩ := B.just b u z
      rw [at_] at e
      cases e
      exact (ok' _ _ (un.frzs _ _ _ z)).1
theorem walkG {l : PySem.W.OpenLaw} {n k : Nat} {q : Program} {loose : List Str} {XP : (Str → Option Value) → Heap → Prop} {YP : World → Heap → Prop} {d : DefRec} {y : Str} (most : l.most = some n) (line : n ≤ sizeLine) (df : d.params.defaults = []) (room : Room k callerA)
    (F : ∀ (w : World) (mg : Str → Option Value) (f : Addr) (h : Heap), YP w h → h.Ns mainGlobals mg → mg d.name = some (.ref f) → ∃ (K : PySem.W.Frag) (fd : FuncData) (sp : Sp), K.In h ∧ (∀ (s : Shared) (u : Value), BindsTo s fd ⟨[u], []⟩ [(y, u)]) ∧
      (∀ (H : Hp) (a : Addr) (ns : List Int), ns.length ≤ n → SqL K H a (ns.map V.int) → sp [.ref a] H (fun v _ => v = .bl true) E0) ∧ ∀ base : Heap, K.In base → base.Ns mainGlobals mg → FnG l.prog w K mg base k f fd [y] sp) :
    PySem.W.WalkO q loose XP YP l.row.toRowW d [] (fun f vs => PySem.call f vs) := by
  refine Att.attach_call most df fun w s0 t mg mb f o pm cd doc a vs ns G Y at_f is_f rec_f is_g at_a nums few no => ?_
  obtain ⟨K, fd, sp, inK, bi, want, G2⟩ := F w mg f _ Y G.T.g is_g
  exact goes_at inK G.T.g G.T.b G.T.builtins G.T.nolimit no at_a (vals_ints nums) (by rw [List.length_map]; exact Nat.le_trans few line) room G2 bi fun H S => want H a ns few S
end E10

set_option Elab.async false
set_option linter.all false
set_option maxRecDepth 100000
set_option maxHeartbeats 4000000
namespace E10
open L2 PySem PySem.Spec PyProof.Rows
open He (eqO eqO_ok ba ga ma)
/-! ### looks at the heap behind the top, and what follows from them -/
section
variable {K : PySem.W.Frag}
def gloB (K : PySem.W.Frag) (x : Str) : Bool := eqO (PySem.W.nsIn K mainGlobals x) (some (some (.ref (ga K x))))
def freeB (K : PySem.W.Frag) (x : Str) : Bool := eqO (PySem.W.nsIn K mainGlobals x) (some none)
def intB (K : PySem.W.Frag) (p : Str × Int) : Bool := (He.Fa.int p.1 p.2).ok K
def mB (K : PySem.W.Frag) (C : Addr) (m : Str) : Bool := eqO (PySem.W.findIn K (.ref C) m) (some (some (.ref (ma K C m)))) && PySem.W.isFn K (.ref (ma K C m))
theorem mB_ok {C : Addr} {m : Str} (h : mB K C m = true) : Has K C (ma K C m) m := ⟨eqO_ok (ba h).1, (ba h).2⟩
def clB (K : PySem.W.Frag) (C : Addr) : Bool := PySem.W.plainGet K C Str.empty && (PySem.W.hasDictIn K C && (PySem.W.plainOver K C && eqO (PySem.W.findIn K (.ref C) "__setattr__") (some (some (.builtin "object.__setattr__")))))
theorem clB_ok {C : Addr} (h : clB K C = true) : Cls K C := by
  obtain ⟨a, h⟩ := ba h
  obtain ⟨b, h⟩ := ba h
  obtain ⟨c, d⟩ := ba h
  exact ⟨a, b, c, eqO_ok d⟩
def ownB (K : PySem.W.Frag) (C : Addr) : Bool := clB K C && (eqO (PySem.W.findIn K (.ref C) "__class__") (some (some (.builtin "object.__class__"))) && (eqO (PySem.W.specialIn K (.builtin "object.__class__") "__get__") (some (some (.builtin "getset_descriptor.__get__"))) &&
  (decide (PySem.W.takesIn K (.builtin "object.__class__") = some true) && (decide (PySem.W.mroIn K C (.type "object") = some true) && (decide (PySem.W.subIn K (.ref C) (.type "object") = some true) && (decide (PySem.W.kitOne K (.ref C) (.ref C) = some true) && PySem.W.selfFirst K C))))))
theorem ownB_ok {C : Addr} (h : ownB K C = true) : Own K C := by
  obtain ⟨a, h⟩ := ba h
  obtain ⟨b, h⟩ := ba h
  obtain ⟨c, h⟩ := ba h
  obtain ⟨d, h⟩ := ba h
  obtain ⟨e, h⟩ := ba h
  obtain ⟨f, h⟩ := ba h
  obtain ⟨g, i⟩ := ba h
  exact ⟨clB_ok a, eqO_ok b, eqO_ok c, of_decide_eq_true d, of_decide_eq_true e, of_decide_eq_true f, of_decide_eq_true g, i⟩
def noB (K : PySem.W.Frag) (C : Addr) (f : Str) : Bool := eqO (PySem.W.findIn K (.ref C) f) (some none)
def propB (K : PySem.W.Frag) (C : Addr) (f : Str) : Bool := eqO (PySem.W.findIn K (.ref C) f) (some (some (.ref (ma K C f)))) && (eqO (PySem.W.specialIn K (.ref (ma K C f)) "__get__") (some (some (.builtin "property.__get__"))) && (decide (PySem.W.takesIn K (.ref (ma K C f)) = some true) &&
  match PySem.W.recIn K (ma K C f) "property" with
  | some (.ref _ :: _) => true
  | _ => false))
theorem propB_ok {C : Addr} {f : Str} (h : propB K C f = true) : PropOf K C f (ma K C f) (He5.wf K C "property" f) := by
  obtain ⟨a, h⟩ := ba h
  obtain ⟨b, h⟩ := ba h
  obtain ⟨c, h⟩ := ba h
  refine ⟨eqO_ok a, eqO_ok b, of_decide_eq_true c, ?_⟩
  unfold He5.wf
  split at h
  · rename_i g r e
    exact ⟨r, by rw [e]⟩
  · cases h
def neB (K : PySem.W.Frag) (C : Addr) : Bool := eqO (PySem.W.findIn K (.ref C) "__ne__") (some (some (.builtin "object.__ne__"))) && (decide (PySem.W.mroIn K C (.type "object") = some true) && decide (PySem.W.subIn K (.ref C) (.type "object") = some true))
theorem neB_ok {C : Addr} (h : neB K C = true) : NeBy K C := by
  obtain ⟨a, h⟩ := ba h
  obtain ⟨b, c⟩ := ba h
  exact ⟨eqO_ok a, of_decide_eq_true b, of_decide_eq_true c⟩
def callB (K : PySem.W.Frag) (C : Addr) : Bool := mB K C "__call__" && PySem.W.fnIn K (ma K C "__call__")
theorem callB_ok {C : Addr} (h : callB K C = true) : StX.CallO K C (ma K C "__call__") := by
  obtain ⟨a, b⟩ := ba h
  exact ⟨(mB_ok a).at_, (mB_ok a).fn, b⟩
def mkB (K : PySem.W.Frag) (C : Addr) : Bool := PySem.W.makesIn K C && (mB K C "__init__" && PySem.W.keepIn K (.ref C))
theorem mkB_ok {C : Addr} (h : mkB K C = true) : Mk K C (ma K C "__init__") := by
  obtain ⟨a, h⟩ := ba h
  obtain ⟨b, c⟩ := ba h
  exact ⟨a, (mB_ok b).at_, (mB_ok b).fn, c⟩
def intX (K : PySem.W.Frag) (C : Addr) : Bool := decide (PySem.W.subIn K (.type "int") (.ref C) = some false) && decide (PySem.W.subIn K (.ref C) (.type "int") = some false)
theorem intX_ok {C : Addr} (h : intX K C = true) : PySem.W.subIn K (.type "int") (.ref C) = some false ∧ PySem.W.subIn K (.ref C) (.type "int") = some false := ⟨of_decide_eq_true (ba h).1, of_decide_eq_true (ba h).2⟩
def metB (K : PySem.W.Frag) (C : Addr) (m : Str) : Bool := mB K C m && PySem.W.keepIn K (.ref (ma K C m))
theorem metB_ok {C : Addr} {m : Str} (h : metB K C m = true) : Meth K C m (ma K C m) := ⟨(mB_ok (ba h).1).at_, (mB_ok (ba h).1).fn, (ba h).2⟩
variable {x qual : Str} {params : Arguments} {body : List Stmt} {scope : Scope} {dvs : List V} {f : Addr} {fd : FuncData} {ps : List Str}
theorem vals_at : ∀ {zs : List V} {ws : List Value} (i : Nat), Vals zs ws → RelV (zs.getD i .non) (ws.getD i .none)
  | _, _, _, .nil => rfl
  | _, _, 0, .cons r _ => r
  | _, _, i + 1, .cons _ t => by
    rw [List.getD_cons_succ, List.getD_cons_succ]
    exact vals_at i t
/-- a call with keywords of a def that has defaults, but none of keywords alone -/
theorem kb_dfl (F : FunD K x qual params body scope dvs [] f fd) (n : Nat) (ks : List Str) (g : List Value → List Value → List Value → List Value) (gV : List V → List V → List V) (hd : dvs ≠ [])
    (hrel : ∀ {vs zs : List V} {us its ws : List Value}, Vals vs us → Vals dvs its → Vals zs ws → Vals (gV vs zs) (g us its ws))
    (h : ∀ (T : Addr) (kV doc pm : Value) (an : Option Addr) (cdv ct : Value) (us its ws : List Value), us.length = n → its.length = dvs.length → ws.length = ks.length →
      ∃ k, bindArgs (PySem.W.fnOf x qual params body scope (.ref T) kV doc pm an cdv ct) ⟨us, ks.zip ws⟩ = seqItems? (.ref T) >>= k ∧ k (some its.toArray) = pure (ps.zip (g us its ws))) :
    ∃ its, KBn K fd ps n ks (fun us ws => g us its ws) gV := by
  obtain ⟨oc, od, dV, kV, doc, pm, an, cdv, ct, osl, rfl, lk, hcd, hD, _⟩ := F.ex
  rcases hD with ⟨e, _⟩ | ⟨_, T, o, its, m, rfl, lT, oT, rT⟩
  · exact absurd e hd
  · refine ⟨its, ⟨fun s us ws X l1 l2 => ?_, fun r1 r2 => hrel r1 rT r2⟩⟩
    obtain ⟨k, e1, e2⟩ := h T kV doc pm an cdv ct us its ws l1 rT.length.symm l2
    refine BindsTo.of_looks fun M => ?_
    rw [e1]
    exact looks_items X lT oT (.of_pure e2)
/-- every parameter is given, by place, to a def that has defaults -/
theorem binds_full (F : FunD K x qual params body scope dvs [] f fd) (hd : dvs ≠ [])
    (h : ∀ (T : Addr) (kV doc pm : Value) (an : Option Addr) (cdv ct : Value) (us its : List Value), us.length = ps.length → its.length = dvs.length →
      ∃ k, bindArgs (PySem.W.fnOf x qual params body scope (.ref T) kV doc pm an cdv ct) ⟨us, []⟩ = seqItems? (.ref T) >>= k ∧ k (some its.toArray) = pure (ps.zip us)) : Binds K fd ps [] := by
  obtain ⟨oc, od, dV, kV, doc, pm, an, cdv, ct, osl, rfl, lk, hcd, hD, _⟩ := F.ex
  rcases hD with ⟨e, _⟩ | ⟨_, T, o, its, m, rfl, lT, oT, rT⟩
  · exact absurd e hd
  · refine fun s us X hlen => ?_
    rw [List.append_nil] at hlen ⊢
    obtain ⟨k, e1, e2⟩ := h T kV doc pm an cdv ct us its hlen rT.length.symm
    refine BindsTo.of_looks fun M => ?_
    rw [e1]
    exact looks_items X lT oT (.of_pure e2)
end
section
variable {P : Program} {w : World} {K : PySem.W.Frag} {mg : Str → Option Value} {base : Heap}
theorem glo_of (X : K.In base) (G : base.Ns mainGlobals mg) {l : List Str} (h : l.all (gloB K) = true) (i : Nat) {x : Str} (e : l[i]? = some x := by rfl) : mg x = some (.ref (ga K x)) :=
  PySem.W.mg_of X G (eqO_ok (List.all_eq_true.mp h x (List.mem_of_getElem? e)))
theorem free_of (X : K.In base) (G : base.Ns mainGlobals mg) {l : List Str} (h : l.all (freeB K) = true) (i : Nat) {x : Str} (e : l[i]? = some x := by rfl) : mg x = none :=
  PySem.W.mg_none_of X G (eqO_ok (List.all_eq_true.mp h x (List.mem_of_getElem? e)))
theorem int_of (X : K.In base) (G : base.Ns mainGlobals mg) {l : List (Str × Int)} (h : l.all (intB K) = true) (i : Nat) {x : Str} {n : Int} (e : l[i]? = some (x, n) := by rfl) : ∃ t, mg x = some (.int n t) :=
  He.int_ok X G (List.all_eq_true.mp h _ (List.mem_of_getElem? e))
theorem fun_of {x qual : Str} {st : Stmt} {f : Addr} {fd : FuncData} (F : FunD K x qual (defArgs st) (defBody st) (defScope st) [] [] f fd) : Fun K x qual st f fd := He5.fun_of F
theorem def_mk {x : Str} {ps : List Str} {k : Nat} {sp : Sp} {st : Stmt} {f : Addr} {fd : FuncData} (F : Fun K x x st f fd) (g : mg x = some (.ref f)) (ok : FnOk P w K mg base CX0 k f fd ps sp)
    (h : ∀ (kV doc pm : Value) (an : Option Addr) (cdv ct : Value) (us : List Value), us.length = ps.length → bindArgs (PySem.W.fnOf x x (defArgs st) (defBody st) (defScope st) .none kV doc pm an cdv ct) ⟨us, []⟩ = pure (ps.zip us)) : Def P w K mg base x ps k sp :=
  ⟨_, fd, ok, g, F.kp, F.binds h⟩
theorem defG_mk {x : Str} {ps : List Str} {k : Nat} {sp : Sp} {st : Stmt} {f : Addr} {fd : FuncData} (F : Fun K x x st f fd) (g : mg x = some (.ref f)) (ok : FnG P w K mg base k f fd ps sp)
    (h : ∀ (kV doc pm : Value) (an : Option Addr) (cdv ct : Value) (us : List Value), us.length = ps.length → bindArgs (PySem.W.fnOf x x (defArgs st) (defBody st) (defScope st) .none kV doc pm an cdv ct) ⟨us, []⟩ = pure (ps.zip us)) : DefG P w K mg base x ps k sp :=
  ⟨_, fd, ok, g, F.kp, F.binds h⟩
theorem one_fd {x q : Str} {st : Stmt} {f : Addr} {fd fd' : FuncData} (F : Fun K x q st f fd) (F' : Fun K x q st f fd') : fd' = fd := by
  obtain ⟨oc, od, _, _, _, _, _, _, osl, _, l, _⟩ := F.ex
  obtain ⟨oc', od', _, _, _, _, _, _, osl', _, l', _⟩ := F'.ex
  have e := l'.symm.trans l
  simp only [Option.some.injEq, Obj.mk.injEq, Data.func.injEq] at e
  exact e.2.2.1
end
/-- one parameter behind n given ones, passed by its name -/
theorem kb_one {K : PySem.W.Frag} {x qual : Str} {st : Stmt} {f : Addr} {fd : FuncData} {ps : List Str} (F : Fun K x qual st f fd) (n : Nat) (ks : List Str) (g : List Value → List Value → List Value) (gV : List V → List V → List V)
    (hrel : ∀ {vs zs : List V} {us ws : List Value}, Vals vs us → Vals zs ws → Vals (gV vs zs) (g us ws))
    (h : ∀ (kV doc pm : Value) (an : Option Addr) (cdv ct : Value) (us ws : List Value), us.length = n → ws.length = ks.length →
      bindArgs (PySem.W.fnOf x qual (defArgs st) (defBody st) (defScope st) .none kV doc pm an cdv ct) ⟨us, ks.zip ws⟩ = pure (ps.zip (g us ws))) : KBn K fd ps n ks g gV := by
  obtain ⟨oc, od, kV, doc, pm, an, cdv, ct, osl, rfl, lk, hcd⟩ := F.ex
  exact ⟨fun s us ws _ l1 l2 => BindsTo.of_eq (h kV doc pm an cdv ct us ws l1 l2), fun r1 r2 => hrel r1 r2⟩
end E10

set_option Elab.async false
set_option linter.all false
set_option maxRecDepth 100000
set_option maxHeartbeats 4000000
namespace E10
open L2 PySem PySem.Spec PyProof.Rows
open He (ga ma)
/-! ### what is looked at behind the top -/
def nfree : List Str := ["isinstance", "all", "any", "len", "range", "int", "max", "min", "abs", "divmod", "repr", "str", "dict", "zip", "bool", "tuple", "sorted", "list", "sum", "enumerate", "RuntimeError"]
def nglob : List Str := ["is_name", "is_integer", "is_moment_of", "has_names", "is_times", "check_shift", "check_moment", "check_same_moments", "in_order", "moved", "_law_pot", "_law_draw", "_law_among", "_law_names", "_law_run", "_law_both", "_law_done", "_law_is_pair_right", "_law_is_triple_right", "_law_refused", "_law_strange", "_law_right", "law", "Run", "Book", "OtherMoments", "StateError"]
def nints : List (Str × Int) := [("MOST_LETTERS", 8), ("MOST_TERMS", 8)]
def dfs : List He5.DefA := [⟨fun K => ga K "is_name", "is_name", "is_name", defArgs s_is_name, defBody s_is_name, defScope s_is_name, [], []⟩,
  ⟨fun K => ga K "is_integer", "is_integer", "is_integer", defArgs s_is_integer, defBody s_is_integer, defScope s_is_integer, [], []⟩,
  ⟨fun K => ga K "is_moment_of", "is_moment_of", "is_moment_of", defArgs s_is_moment_of, defBody s_is_moment_of, defScope s_is_moment_of, [], []⟩,
  ⟨fun K => ga K "has_names", "has_names", "has_names", defArgs s_has_names, defBody s_has_names, defScope s_has_names, [], []⟩,
  ⟨fun K => ga K "is_times", "is_times", "is_times", defArgs s_is_times, defBody s_is_times, defScope s_is_times, [], []⟩,
  ⟨fun K => ga K "check_shift", "check_shift", "check_shift", defArgs s_check_shift, defBody s_check_shift, defScope s_check_shift, [], []⟩,
  ⟨fun K => ga K "check_moment", "check_moment", "check_moment", defArgs s_check_moment, defBody s_check_moment, defScope s_check_moment, [], []⟩,
  ⟨fun K => ga K "check_same_moments", "check_same_moments", "check_same_moments", defArgs s_check_same_moments, defBody s_check_same_moments, defScope s_check_same_moments, [], []⟩,
  ⟨fun K => ga K "in_order", "in_order", "in_order", defArgs s_in_order, defBody s_in_order, defScope s_in_order, [], []⟩,
  ⟨fun K => ga K "moved", "moved", "moved", defArgs s_moved, defBody s_moved, defScope s_moved, [], []⟩,
  ⟨fun K => ga K "_law_pot", "_law_pot", "_law_pot", defArgs s__law_pot, defBody s__law_pot, defScope s__law_pot, [], []⟩,
  ⟨fun K => ga K "_law_draw", "_law_draw", "_law_draw", defArgs s__law_draw, defBody s__law_draw, defScope s__law_draw, [], []⟩,
  ⟨fun K => ga K "_law_among", "_law_among", "_law_among", defArgs s__law_among, defBody s__law_among, defScope s__law_among, [], []⟩,
  ⟨fun K => ga K "_law_names", "_law_names", "_law_names", defArgs s__law_names, defBody s__law_names, defScope s__law_names, [], []⟩,
  ⟨fun K => ga K "_law_run", "_law_run", "_law_run", defArgs s__law_run, defBody s__law_run, defScope s__law_run, [], []⟩,
  ⟨fun K => ga K "_law_both", "_law_both", "_law_both", defArgs s__law_both, defBody s__law_both, defScope s__law_both, [], []⟩,
  ⟨fun K => ga K "_law_done", "_law_done", "_law_done", defArgs s__law_done, defBody s__law_done, defScope s__law_done, [], []⟩,
  ⟨fun K => ga K "_law_is_pair_right", "_law_is_pair_right", "_law_is_pair_right", defArgs s__law_is_pair_right, defBody s__law_is_pair_right, defScope s__law_is_pair_right, [], []⟩,
  ⟨fun K => ga K "_law_is_triple_right", "_law_is_triple_right", "_law_is_triple_right", defArgs s__law_is_triple_right, defBody s__law_is_triple_right, defScope s__law_is_triple_right, [], []⟩,
  ⟨fun K => ga K "_law_refused", "_law_refused", "_law_refused", defArgs s__law_refused, defBody s__law_refused, defScope s__law_refused, [], []⟩,
  ⟨fun K => ga K "_law_strange", "_law_strange", "_law_strange", defArgs s__law_strange, defBody s__law_strange, defScope s__law_strange, [], []⟩,
  ⟨fun K => ga K "_law_right", "_law_right", "_law_right", defArgs s__law_right, defBody s__law_right, defScope s__law_right, [], []⟩,
  ⟨fun K => ga K "law", "law", "law", defArgs s_law, defBody s_law, defScope s_law, [], []⟩,
  ⟨fun K => ma K (ga K "Run") "__init__", "__init__", "Run.__init__", defArgs m_Run___init__, defBody m_Run___init__, defScope m_Run___init__, [], []⟩,
  ⟨fun K => He5.wf K (ga K "Run") "property" "moments", "moments", "Run.moments", defArgs m_Run_moments, defBody m_Run_moments, defScope m_Run_moments, [], []⟩,
  ⟨fun K => ma K (ga K "Run") "times", "times", "Run.times", defArgs m_Run_times, defBody m_Run_times, defScope m_Run_times, [], []⟩,
  ⟨fun K => ma K (ga K "Run") "__getitem__", "__getitem__", "Run.__getitem__", defArgs m_Run___getitem__, defBody m_Run___getitem__, defScope m_Run___getitem__, [], []⟩,
  ⟨fun K => ma K (ga K "Run") "__add__", "__add__", "Run.__add__", defArgs m_Run___add__, defBody m_Run___add__, defScope m_Run___add__, [], []⟩,
  ⟨fun K => ma K (ga K "Run") "__radd__", "__radd__", "Run.__radd__", defArgs m_Run___radd__, defBody m_Run___radd__, defScope m_Run___radd__, [], []⟩,
  ⟨fun K => ma K (ga K "Run") "__and__", "__and__", "Run.__and__", defArgs m_Run___and__, defBody m_Run___and__, defScope m_Run___and__, [], []⟩,
  ⟨fun K => ma K (ga K "Run") "__or__", "__or__", "Run.__or__", defArgs m_Run___or__, defBody m_Run___or__, defScope m_Run___or__, [], []⟩,
  ⟨fun K => ma K (ga K "Run") "is_at_most", "is_at_most", "Run.is_at_most", defArgs m_Run_is_at_most, defBody m_Run_is_at_most, defScope m_Run_is_at_most, [], []⟩,
  ⟨fun K => ma K (ga K "Run") "__eq__", "__eq__", "Run.__eq__", defArgs m_Run___eq__, defBody m_Run___eq__, defScope m_Run___eq__, [], []⟩,
  ⟨fun K => ma K (ga K "OtherMoments") "__init__", "__init__", "OtherMoments.__init__", defArgs m_OtherMoments___init__, defBody m_OtherMoments___init__, defScope m_OtherMoments___init__, [], []⟩]
def rtB : List Value := [.type "RuntimeError", .type "Exception", .type "BaseException", .type "object"]
def excB (K : PySem.W.Frag) (C : Addr) : Bool :=
  PySem.W.excInitIn K C rtB "RuntimeError.__new__" && (PySem.W.excOver K C rtB && (PySem.W.hasDictIn K C && (He.eqO (PySem.W.findIn K (.ref C) "__setattr__") (some (some (.builtin "object.__setattr__"))) && (PySem.W.keepIn K (.ref C) &&
    (He.eqO (PySem.W.findIn K (.ref C) "__getattribute__") (some (some (.builtin "BaseException.__getattribute__"))) && (He.eqO (PySem.W.findIn K (.ref C) "__getattr__") (some none) && (decide (PySem.W.subIn K (.ref C) (.type "BaseException") = some true) &&
    (He.eqO (PySem.W.findIn K (.ref C) "__class__") (some (some (.builtin "object.__class__"))) && (decide (PySem.W.mroIn K C (.type "object") = some true) && (He.eqO (PySem.W.specialIn K (.builtin "object.__class__") "__get__") (some (some (.builtin "getset_descriptor.__get__"))) &&
    decide (PySem.W.takesIn K (.builtin "object.__class__") = some true)))))))))))
theorem excB_ok {K : PySem.W.Frag} {C : Addr} (h : excB K C = true) : E18.ExC K C := by
  obtain ⟨h1, h⟩ := He.ba h
  obtain ⟨h2, h⟩ := He.ba h
  obtain ⟨h3, h⟩ := He.ba h
  obtain ⟨h4, h⟩ := He.ba h
  obtain ⟨h5, h⟩ := He.ba h
  obtain ⟨h6, h⟩ := He.ba h
  obtain ⟨h7, h⟩ := He.ba h
  obtain ⟨h8, h⟩ := He.ba h
  obtain ⟨h9, h⟩ := He.ba h
  obtain ⟨h10, h⟩ := He.ba h
  obtain ⟨h11, h12⟩ := He.ba h
  exact ⟨⟨_, _, _, _, PySem.F.excBase_RuntimeError, PySem.F.store_RuntimeError, h1, h2⟩, h3, He.eqO_ok h4, h5, He.eqO_ok h6, He.eqO_ok h7, of_decide_eq_true h8, He.eqO_ok h9, of_decide_eq_true h10, He.eqO_ok h11, of_decide_eq_true h12⟩
def iniB (K : PySem.W.Frag) (C : Addr) : Bool := He.eqO (PySem.W.findIn K (.ref C) "__init__") (some (some (.ref (He.ma K C "__init__")))) && decide (PySem.W.typeIn K (.ref (He.ma K C "__init__")) = some (.type "function"))
def rdB (K : PySem.W.Frag) (C : Addr) : Bool := PySem.W.readsIn K C (.type "type") && He.eqO (PySem.W.specialIn K (.ref C) "__getattribute__") (some (some (.builtin "type.__getattribute__")))
theorem rdB_ok {K : PySem.W.Frag} {C : Addr} (h : rdB K C = true) : ClX.CRead K C (.type "type") := ⟨(He.ba h).1, He.eqO_ok (He.ba h).2⟩
def cI8 (K : PySem.W.Frag) (C : Addr) (x : Str) : Bool := match PySem.W.findCls K (.ref C) (.type "type") x with
  | some (.val (.int 8 _)) => true
  | _ => false
theorem cI8_ok {K : PySem.W.Frag} {C : Addr} {x : Str} (h : cI8 K C x = true) : ∃ t, PySem.W.findCls K (.ref C) (.type "type") x = some (.val (.int 8 t)) := by
  unfold cI8 at h
  split at h
  · rename_i t e
    exact ⟨t, e⟩
  · cases h
def chks (K : PySem.W.Frag) : List Bool := [nfree.all (freeB K),
  nglob.all (gloB K),
  nints.all (intB K),
  ownB K (ga K "Run"),
  noB K (ga K "Run") "_times",
  mkB K (ga K "Run"),
  rdB K (ga K "Book"),
  cI8 K (ga K "Book") "MOST_MOMENTS",
  propB K (ga K "Run") "moments",
  mB K (ga K "Run") "__getitem__",
  PySem.W.fnIn K (ma K (ga K "Run") "__getitem__"),
  mB K (ga K "Run") "__eq__",
  mB K (ga K "Run") "__and__",
  mB K (ga K "Run") "__or__",
  metB K (ga K "Run") "times",
  metB K (ga K "Run") "is_at_most",
  PySem.W.notFirst K (ga K "Run") (.ref (ga K "Run")),
  mB K (ga K "Run") (PySem.dunder "add"),
  mB K (ga K "Run") (dunderR "add"),
  intX K (ga K "Run"),
  excB K (ga K "OtherMoments"),
  iniB K (ga K "OtherMoments"),
  noB K (ga K "OtherMoments") "one",
  noB K (ga K "OtherMoments") "other",
  decide (PySem.W.typeIn K (.ref (ga K "OtherMoments")) = some (.type "type")),
  decide (PySem.W.subIn K (.ref (ga K "OtherMoments")) (.ref (ga K "OtherMoments")) = some true),
  decide (PySem.W.kitOne K (.ref (ga K "OtherMoments")) (.ref (ga K "StateError")) = some true),
  decide (PySem.W.kitOne K (.ref (ga K "OtherMoments")) (.type "RuntimeError") = some true),
  dfs.all (He5.DefA.ok K)]
abbrev Al : Type := Bool × List He.FnW
def obsK (K : PySem.W.Frag) : Al := ((chks K).all id, dfs.map fun d => He5.fnA K (d.at_ K))
def val0 : Al := (true, dfs.map He5.DefA.val)
def ref1 (g : Addr → Option Obj) (old as : List Addr) : List Addr := ((as.flatMap fun a => match g a with
  | some o => He.refsD o
  | none => []).eraseDups).filter fun a => !old.contains a
def isFu (g : Addr → Option Obj) (a : Addr) : Bool := match g a with
  | some ⟨_, _, .func _, _⟩ => true
  | _ => false
def asR (g : Addr → Option Obj) : List Addr :=
  let a1 := He.asD g 1
  let K := He.frG g a1
  let r1 := ref1 g a1 [ga K "Run", ga K "Book", ga K "OtherMoments", ga K "StateError"]
  let r2 := ref1 g a1 r1
  let r3 := ref1 g a1 r2
  let r4 := ref1 g a1 (r3.filter (isFu g))
  He.asD g 2 ++ (r1 ++ (r2 ++ (r3 ++ r4)))
def frag (g : Addr → Option Obj) : PySem.W.Frag := He.frG g (cStatics :: asR g)
def hook : PySem.W.Hook where
  α := Al
  obs := fun s => obsK (frag s.heap.get?)
  val := fun _ => val0
  says := fun _ h => ∃ K : PySem.W.Frag, K.In h ∧ obsK K = val0
  of := fun _ _ e => ⟨_, He.frG_in, e⟩
  keeps := fun _ _ _ ⟨K, hK, c⟩ k => ⟨K, PySem.W.Frag.In.keeps hK k, c⟩
abbrev R : PySem.W.OpenRow := PySem.W.OpenLaw.row PySem.Challenge.rw_anyofthese_k32_whole_earlier_and_later
abbrev qv : Program := PySem.W.view R.prog [64]
abbrev iLaw : Nat := 64
def names0 : List Str := ["_wall", "AnyError", "InvalidName", "InvalidShift", "InvalidShifts", "InvalidTimes", "InvalidMoments", "InvalidRules", "InvalidPosition", "MissingError", "UnknownMoment", "StateError", "OtherMoments", "LimitError", "TooMany", "MOST_LETTERS", "is_name", "is_integer", "is_list", "is_position"]
def names1 : List Str := ["is_moment_of", "are_among", "has_names", "is_times", "check_shift", "check_times", "check_moment", "check_position", "check_same_moments", "in_order", "moved", "least_of", "term_text", "MOST_TERMS", "check_shifts", "Earliest", "Rule", "check_names", "check_each", "check_rules"]
def names2 : List Str := ["Book", "Run", "_law_pot", "_law_draw", "_law_among", "_law_names", "_law_run", "_law_both", "_law_done", "_law_is_pair_right", "_law_is_triple_right", "_law_refused", "_law_strange", "_law_right"]
def names : List Str := names0 ++ names1 ++ names2
def ob (s : PySem.W.SharedT) : Al := obsK (frag (HandSHeadRun.getT s))
theorem ob_eq (s : PySem.W.SharedT) : ob s = hook.obs s.abs := by
  have e : HandSHeadRun.getT s = s.abs.heap.get? := funext (HandSHeadRun.getT_eq s)
  show obsK (frag (HandSHeadRun.getT s)) = _
  rw [e]
  rfl
section
variable {K : PySem.W.Frag}
theorem bit_of (c : obsK K = val0) (i : Nat) {b : Bool} (h : (chks K)[i]? = some b := by rfl) : b = true :=
  List.all_eq_true.mp (show (chks K).all id = true from congrArg (fun t : Al => t.1) c) _ (List.mem_of_getElem? h)
theorem bFree (c : obsK K = val0) : nfree.all (freeB K) = true := bit_of c 0
theorem bGlob (c : obsK K = val0) : nglob.all (gloB K) = true := bit_of c 1
theorem bInts (c : obsK K = val0) : nints.all (intB K) = true := bit_of c 2
theorem bOwnR (c : obsK K = val0) : ownB K (ga K "Run") = true := bit_of c 3
theorem bNoT (c : obsK K = val0) : noB K (ga K "Run") "_times" = true := bit_of c 4
theorem bMkR (c : obsK K = val0) : mkB K (ga K "Run") = true := bit_of c 5
theorem bRdB (c : obsK K = val0) : rdB K (ga K "Book") = true := bit_of c 6
theorem bMM (c : obsK K = val0) : cI8 K (ga K "Book") "MOST_MOMENTS" = true := bit_of c 7
theorem bPM (c : obsK K = val0) : propB K (ga K "Run") "moments" = true := bit_of c 8
theorem bIT (c : obsK K = val0) : mB K (ga K "Run") "__getitem__" = true := bit_of c 9
theorem bITf (c : obsK K = val0) : PySem.W.fnIn K (ma K (ga K "Run") "__getitem__") = true := bit_of c 10
theorem bEQ (c : obsK K = val0) : mB K (ga K "Run") "__eq__" = true := bit_of c 11
theorem bAND (c : obsK K = val0) : mB K (ga K "Run") "__and__" = true := bit_of c 12
theorem bOR (c : obsK K = val0) : mB K (ga K "Run") "__or__" = true := bit_of c 13
theorem bTI (c : obsK K = val0) : metB K (ga K "Run") "times" = true := bit_of c 14
theorem bAM (c : obsK K = val0) : metB K (ga K "Run") "is_at_most" = true := bit_of c 15
theorem bNF (c : obsK K = val0) : PySem.W.notFirst K (ga K "Run") (.ref (ga K "Run")) = true := bit_of c 16
theorem bAdd (c : obsK K = val0) : mB K (ga K "Run") (PySem.dunder "add") = true := bit_of c 17
theorem bRadd (c : obsK K = val0) : mB K (ga K "Run") (dunderR "add") = true := bit_of c 18
theorem bInt (c : obsK K = val0) : intX K (ga K "Run") = true := bit_of c 19
theorem bExc (c : obsK K = val0) : excB K (ga K "OtherMoments") = true := bit_of c 20
theorem bIni (c : obsK K = val0) : iniB K (ga K "OtherMoments") = true := bit_of c 21
theorem bOne (c : obsK K = val0) : noB K (ga K "OtherMoments") "one" = true := bit_of c 22
theorem bOther (c : obsK K = val0) : noB K (ga K "OtherMoments") "other" = true := bit_of c 23
theorem bTyO (c : obsK K = val0) : decide (PySem.W.typeIn K (.ref (ga K "OtherMoments")) = some (.type "type")) = true := bit_of c 24
theorem bMeO (c : obsK K = val0) : decide (PySem.W.subIn K (.ref (ga K "OtherMoments")) (.ref (ga K "OtherMoments")) = some true) = true := bit_of c 25
theorem bKS (c : obsK K = val0) : decide (PySem.W.kitOne K (.ref (ga K "OtherMoments")) (.ref (ga K "StateError")) = some true) = true := bit_of c 26
theorem bKT (c : obsK K = val0) : decide (PySem.W.kitOne K (.ref (ga K "OtherMoments")) (.type "RuntimeError") = some true) = true := bit_of c 27
theorem bDefs (c : obsK K = val0) : dfs.all (He5.DefA.ok K) = true := bit_of c 28
theorem def_of (c : obsK K = val0) (i : Nat) {d : He5.DefA} (h : dfs[i]? = some d := by rfl) : ∃ fd, FunD K d.name d.qual d.params d.body d.scope (d.dvs K) (d.kws K) (d.at_ K) fd := by
  have e : dfs.map (fun d => He5.fnA K (d.at_ K)) = dfs.map He5.DefA.val := congrArg (fun t : Al => t.2) c
  have e2 : (dfs.map fun d => He5.fnA K (d.at_ K))[i]? = (dfs.map He5.DefA.val)[i]? := by rw [e]
  rw [List.getElem?_map, List.getElem?_map, h] at e2
  exact He5.DefA.funD (Option.some.inj e2) (List.all_eq_true.mp (bDefs c) d (List.mem_of_getElem? h))
theorem F_is_name (c : obsK K = val0) : ∃ fd, Fun K "is_name" "is_name" s_is_name (ga K "is_name") fd := (def_of c 0).imp fun _ d => fun_of d
theorem F_is_integer (c : obsK K = val0) : ∃ fd, Fun K "is_integer" "is_integer" s_is_integer (ga K "is_integer") fd := (def_of c 1).imp fun _ d => fun_of d
theorem F_is_moment_of (c : obsK K = val0) : ∃ fd, Fun K "is_moment_of" "is_moment_of" s_is_moment_of (ga K "is_moment_of") fd := (def_of c 2).imp fun _ d => fun_of d
theorem F_has_names (c : obsK K = val0) : ∃ fd, Fun K "has_names" "has_names" s_has_names (ga K "has_names") fd := (def_of c 3).imp fun _ d => fun_of d
theorem F_is_times (c : obsK K = val0) : ∃ fd, Fun K "is_times" "is_times" s_is_times (ga K "is_times") fd := (def_of c 4).imp fun _ d => fun_of d
theorem F_check_shift (c : obsK K = val0) : ∃ fd, Fun K "check_shift" "check_shift" s_check_shift (ga K "check_shift") fd := (def_of c 5).imp fun _ d => fun_of d
theorem F_check_moment (c : obsK K = val0) : ∃ fd, Fun K "check_moment" "check_moment" s_check_moment (ga K "check_moment") fd := (def_of c 6).imp fun _ d => fun_of d
theorem F_check_same_moments (c : obsK K = val0) : ∃ fd, Fun K "check_same_moments" "check_same_moments" s_check_same_moments (ga K "check_same_moments") fd := (def_of c 7).imp fun _ d => fun_of d
theorem F_in_order (c : obsK K = val0) : ∃ fd, Fun K "in_order" "in_order" s_in_order (ga K "in_order") fd := (def_of c 8).imp fun _ d => fun_of d
theorem F_moved (c : obsK K = val0) : ∃ fd, Fun K "moved" "moved" s_moved (ga K "moved") fd := (def_of c 9).imp fun _ d => fun_of d
theorem F__law_pot (c : obsK K = val0) : ∃ fd, Fun K "_law_pot" "_law_pot" s__law_pot (ga K "_law_pot") fd := (def_of c 10).imp fun _ d => fun_of d
theorem F__law_draw (c : obsK K = val0) : ∃ fd, Fun K "_law_draw" "_law_draw" s__law_draw (ga K "_law_draw") fd := (def_of c 11).imp fun _ d => fun_of d
theorem F__law_among (c : obsK K = val0) : ∃ fd, Fun K "_law_among" "_law_among" s__law_among (ga K "_law_among") fd := (def_of c 12).imp fun _ d => fun_of d
theorem F__law_names (c : obsK K = val0) : ∃ fd, Fun K "_law_names" "_law_names" s__law_names (ga K "_law_names") fd := (def_of c 13).imp fun _ d => fun_of d
theorem F__law_run (c : obsK K = val0) : ∃ fd, Fun K "_law_run" "_law_run" s__law_run (ga K "_law_run") fd := (def_of c 14).imp fun _ d => fun_of d
theorem F__law_both (c : obsK K = val0) : ∃ fd, Fun K "_law_both" "_law_both" s__law_both (ga K "_law_both") fd := (def_of c 15).imp fun _ d => fun_of d
theorem F__law_done (c : obsK K = val0) : ∃ fd, Fun K "_law_done" "_law_done" s__law_done (ga K "_law_done") fd := (def_of c 16).imp fun _ d => fun_of d
theorem F__law_is_pair_right (c : obsK K = val0) : ∃ fd, Fun K "_law_is_pair_right" "_law_is_pair_right" s__law_is_pair_right (ga K "_law_is_pair_right") fd := (def_of c 17).imp fun _ d => fun_of d
theorem F__law_is_triple_right (c : obsK K = val0) : ∃ fd, Fun K "_law_is_triple_right" "_law_is_triple_right" s__law_is_triple_right (ga K "_law_is_triple_right") fd := (def_of c 18).imp fun _ d => fun_of d
theorem F__law_refused (c : obsK K = val0) : ∃ fd, Fun K "_law_refused" "_law_refused" s__law_refused (ga K "_law_refused") fd := (def_of c 19).imp fun _ d => fun_of d
theorem F__law_strange (c : obsK K = val0) : ∃ fd, Fun K "_law_strange" "_law_strange" s__law_strange (ga K "_law_strange") fd := (def_of c 20).imp fun _ d => fun_of d
theorem F__law_right (c : obsK K = val0) : ∃ fd, Fun K "_law_right" "_law_right" s__law_right (ga K "_law_right") fd := (def_of c 21).imp fun _ d => fun_of d
theorem F_law (c : obsK K = val0) : ∃ fd, Fun K "law" "law" s_law (ga K "law") fd := (def_of c 22).imp fun _ d => fun_of d
theorem F_Run___init__ (c : obsK K = val0) : ∃ fd, Fun K "__init__" "Run.__init__" m_Run___init__ (ma K (ga K "Run") "__init__") fd := (def_of c 23).imp fun _ d => fun_of d
theorem F_Run_moments (c : obsK K = val0) : ∃ fd, Fun K "moments" "Run.moments" m_Run_moments (He5.wf K (ga K "Run") "property" "moments") fd := (def_of c 24).imp fun _ d => fun_of d
theorem F_Run_times (c : obsK K = val0) : ∃ fd, Fun K "times" "Run.times" m_Run_times (ma K (ga K "Run") "times") fd := (def_of c 25).imp fun _ d => fun_of d
theorem F_Run___getitem__ (c : obsK K = val0) : ∃ fd, Fun K "__getitem__" "Run.__getitem__" m_Run___getitem__ (ma K (ga K "Run") "__getitem__") fd := (def_of c 26).imp fun _ d => fun_of d
theorem F_Run___add__ (c : obsK K = val0) : ∃ fd, Fun K "__add__" "Run.__add__" m_Run___add__ (ma K (ga K "Run") "__add__") fd := (def_of c 27).imp fun _ d => fun_of d
theorem F_Run___radd__ (c : obsK K = val0) : ∃ fd, Fun K "__radd__" "Run.__radd__" m_Run___radd__ (ma K (ga K "Run") "__radd__") fd := (def_of c 28).imp fun _ d => fun_of d
theorem F_Run___and__ (c : obsK K = val0) : ∃ fd, Fun K "__and__" "Run.__and__" m_Run___and__ (ma K (ga K "Run") "__and__") fd := (def_of c 29).imp fun _ d => fun_of d
theorem F_Run___or__ (c : obsK K = val0) : ∃ fd, Fun K "__or__" "Run.__or__" m_Run___or__ (ma K (ga K "Run") "__or__") fd := (def_of c 30).imp fun _ d => fun_of d
theorem F_Run_is_at_most (c : obsK K = val0) : ∃ fd, Fun K "is_at_most" "Run.is_at_most" m_Run_is_at_most (ma K (ga K "Run") "is_at_most") fd := (def_of c 31).imp fun _ d => fun_of d
theorem F_Run___eq__ (c : obsK K = val0) : ∃ fd, Fun K "__eq__" "Run.__eq__" m_Run___eq__ (ma K (ga K "Run") "__eq__") fd := (def_of c 32).imp fun _ d => fun_of d
theorem F_OtherMoments___init__ (c : obsK K = val0) : ∃ fd, Fun K "__init__" "OtherMoments.__init__" m_OtherMoments___init__ (ma K (ga K "OtherMoments") "__init__") fd := (def_of c 33).imp fun _ d => fun_of d
end
section
variable {K : PySem.W.Frag} {mg : Str → Option Value} {base : Heap}
theorem g_is_name (X : K.In base) (G : base.Ns mainGlobals mg) (c : obsK K = val0) : mg "is_name" = some (.ref (ga K "is_name")) := glo_of X G (bGlob c) 0
theorem g_is_integer (X : K.In base) (G : base.Ns mainGlobals mg) (c : obsK K = val0) : mg "is_integer" = some (.ref (ga K "is_integer")) := glo_of X G (bGlob c) 1
theorem g_is_moment_of (X : K.In base) (G : base.Ns mainGlobals mg) (c : obsK K = val0) : mg "is_moment_of" = some (.ref (ga K "is_moment_of")) := glo_of X G (bGlob c) 2
theorem g_has_names (X : K.In base) (G : base.Ns mainGlobals mg) (c : obsK K = val0) : mg "has_names" = some (.ref (ga K "has_names")) := glo_of X G (bGlob c) 3
theorem g_is_times (X : K.In base) (G : base.Ns mainGlobals mg) (c : obsK K = val0) : mg "is_times" = some (.ref (ga K "is_times")) := glo_of X G (bGlob c) 4
theorem g_check_shift (X : K.In base) (G : base.Ns mainGlobals mg) (c : obsK K = val0) : mg "check_shift" = some (.ref (ga K "check_shift")) := glo_of X G (bGlob c) 5
theorem g_check_moment (X : K.In base) (G : base.Ns mainGlobals mg) (c : obsK K = val0) : mg "check_moment" = some (.ref (ga K "check_moment")) := glo_of X G (bGlob c) 6
theorem g_check_same_moments (X : K.In base) (G : base.Ns mainGlobals mg) (c : obsK K = val0) : mg "check_same_moments" = some (.ref (ga K "check_same_moments")) := glo_of X G (bGlob c) 7
theorem g_in_order (X : K.In base) (G : base.Ns mainGlobals mg) (c : obsK K = val0) : mg "in_order" = some (.ref (ga K "in_order")) := glo_of X G (bGlob c) 8
theorem g_moved (X : K.In base) (G : base.Ns mainGlobals mg) (c : obsK K = val0) : mg "moved" = some (.ref (ga K "moved")) := glo_of X G (bGlob c) 9
theorem g__law_pot (X : K.In base) (G : base.Ns mainGlobals mg) (c : obsK K = val0) : mg "_law_pot" = some (.ref (ga K "_law_pot")) := glo_of X G (bGlob c) 10
theorem g__law_draw (X : K.In base) (G : base.Ns mainGlobals mg) (c : obsK K = val0) : mg "_law_draw" = some (.ref (ga K "_law_draw")) := glo_of X G (bGlob c) 11
theorem g__law_among (X : K.In base) (G : base.Ns mainGlobals mg) (c : obsK K = val0) : mg "_law_among" = some (.ref (ga K "_law_among")) := glo_of X G (bGlob c) 12
theorem g__law_names (X : K.In base) (G : base.Ns mainGlobals mg) (c : obsK K = val0) : mg "_law_names" = some (.ref (ga K "_law_names")) := glo_of X G (bGlob c) 13
theorem g__law_run (X : K.In base) (G : base.Ns mainGlobals mg) (c : obsK K = val0) : mg "_law_run" = some (.ref (ga K "_law_run")) := glo_of X G (bGlob c) 14
theorem g__law_both (X : K.In base) (G : base.Ns mainGlobals mg) (c : obsK K = val0) : mg "_law_both" = some (.ref (ga K "_law_both")) := glo_of X G (bGlob c) 15
theorem g__law_done (X : K.In base) (G : base.Ns mainGlobals mg) (c : obsK K = val0) : mg "_law_done" = some (.ref (ga K "_law_done")) := glo_of X G (bGlob c) 16
theorem g__law_is_pair_right (X : K.In base) (G : base.Ns mainGlobals mg) (c : obsK K = val0) : mg "_law_is_pair_right" = some (.ref (ga K "_law_is_pair_right")) := glo_of X G (bGlob c) 17
theorem g__law_is_triple_right (X : K.In base) (G : base.Ns mainGlobals mg) (c : obsK K = val0) : mg "_law_is_triple_right" = some (.ref (ga K "_law_is_triple_right")) := glo_of X G (bGlob c) 18
theorem g__law_refused (X : K.In base) (G : base.Ns mainGlobals mg) (c : obsK K = val0) : mg "_law_refused" = some (.ref (ga K "_law_refused")) := glo_of X G (bGlob c) 19
theorem g__law_strange (X : K.In base) (G : base.Ns mainGlobals mg) (c : obsK K = val0) : mg "_law_strange" = some (.ref (ga K "_law_strange")) := glo_of X G (bGlob c) 20
theorem g__law_right (X : K.In base) (G : base.Ns mainGlobals mg) (c : obsK K = val0) : mg "_law_right" = some (.ref (ga K "_law_right")) := glo_of X G (bGlob c) 21
theorem g_law (X : K.In base) (G : base.Ns mainGlobals mg) (c : obsK K = val0) : mg "law" = some (.ref (ga K "law")) := glo_of X G (bGlob c) 22
theorem g_Run (X : K.In base) (G : base.Ns mainGlobals mg) (c : obsK K = val0) : mg "Run" = some (.ref (ga K "Run")) := glo_of X G (bGlob c) 23
theorem g_Book (X : K.In base) (G : base.Ns mainGlobals mg) (c : obsK K = val0) : mg "Book" = some (.ref (ga K "Book")) := glo_of X G (bGlob c) 24
theorem g_OtherMoments (X : K.In base) (G : base.Ns mainGlobals mg) (c : obsK K = val0) : mg "OtherMoments" = some (.ref (ga K "OtherMoments")) := glo_of X G (bGlob c) 25
theorem g_StateError (X : K.In base) (G : base.Ns mainGlobals mg) (c : obsK K = val0) : mg "StateError" = some (.ref (ga K "StateError")) := glo_of X G (bGlob c) 26
theorem f_isinstance (X : K.In base) (G : base.Ns mainGlobals mg) (c : obsK K = val0) : mg "isinstance" = none := free_of X G (bFree c) 0
theorem f_all (X : K.In base) (G : base.Ns mainGlobals mg) (c : obsK K = val0) : mg "all" = none := free_of X G (bFree c) 1
theorem f_any (X : K.In base) (G : base.Ns mainGlobals mg) (c : obsK K = val0) : mg "any" = none := free_of X G (bFree c) 2
theorem f_len (X : K.In base) (G : base.Ns mainGlobals mg) (c : obsK K = val0) : mg "len" = none := free_of X G (bFree c) 3
theorem f_range (X : K.In base) (G : base.Ns mainGlobals mg) (c : obsK K = val0) : mg "range" = none := free_of X G (bFree c) 4
theorem f_int (X : K.In base) (G : base.Ns mainGlobals mg) (c : obsK K = val0) : mg "int" = none := free_of X G (bFree c) 5
theorem f_max (X : K.In base) (G : base.Ns mainGlobals mg) (c : obsK K = val0) : mg "max" = none := free_of X G (bFree c) 6
theorem f_min (X : K.In base) (G : base.Ns mainGlobals mg) (c : obsK K = val0) : mg "min" = none := free_of X G (bFree c) 7
theorem f_abs (X : K.In base) (G : base.Ns mainGlobals mg) (c : obsK K = val0) : mg "abs" = none := free_of X G (bFree c) 8
theorem f_divmod (X : K.In base) (G : base.Ns mainGlobals mg) (c : obsK K = val0) : mg "divmod" = none := free_of X G (bFree c) 9
theorem f_repr (X : K.In base) (G : base.Ns mainGlobals mg) (c : obsK K = val0) : mg "repr" = none := free_of X G (bFree c) 10
theorem f_str (X : K.In base) (G : base.Ns mainGlobals mg) (c : obsK K = val0) : mg "str" = none := free_of X G (bFree c) 11
theorem f_dict (X : K.In base) (G : base.Ns mainGlobals mg) (c : obsK K = val0) : mg "dict" = none := free_of X G (bFree c) 12
theorem f_zip (X : K.In base) (G : base.Ns mainGlobals mg) (c : obsK K = val0) : mg "zip" = none := free_of X G (bFree c) 13
theorem f_bool (X : K.In base) (G : base.Ns mainGlobals mg) (c : obsK K = val0) : mg "bool" = none := free_of X G (bFree c) 14
theorem f_tuple (X : K.In base) (G : base.Ns mainGlobals mg) (c : obsK K = val0) : mg "tuple" = none := free_of X G (bFree c) 15
theorem f_sorted (X : K.In base) (G : base.Ns mainGlobals mg) (c : obsK K = val0) : mg "sorted" = none := free_of X G (bFree c) 16
theorem f_list (X : K.In base) (G : base.Ns mainGlobals mg) (c : obsK K = val0) : mg "list" = none := free_of X G (bFree c) 17
theorem f_sum (X : K.In base) (G : base.Ns mainGlobals mg) (c : obsK K = val0) : mg "sum" = none := free_of X G (bFree c) 18
theorem f_enumerate (X : K.In base) (G : base.Ns mainGlobals mg) (c : obsK K = val0) : mg "enumerate" = none := free_of X G (bFree c) 19
theorem f_RuntimeError (X : K.In base) (G : base.Ns mainGlobals mg) (c : obsK K = val0) : mg "RuntimeError" = none := free_of X G (bFree c) 20
theorem n_MOST_LETTERS (X : K.In base) (G : base.Ns mainGlobals mg) (c : obsK K = val0) : ∃ t, mg "MOST_LETTERS" = some (.int 8 t) := int_of X G (bInts c) 0
theorem n_MOST_TERMS (X : K.In base) (G : base.Ns mainGlobals mg) (c : obsK K = val0) : ∃ t, mg "MOST_TERMS" = some (.int 8 t) := int_of X G (bInts c) 1
end
end E10

set_option Elab.async false
set_option maxRecDepth 100000
set_option maxHeartbeats 0
namespace E10
open L2 PySem PySem.Spec PyProof.Rows
theorem run (w : World) : HandSHeadRun.RunEq R qv hook ob 60000 names w := by
  intro os
  kernel_rfl
end E10

set_option Elab.async false
set_option linter.all false
set_option maxRecDepth 100000
set_option maxHeartbeats 8000000
namespace E10
open L2 PySem PySem.Spec PyProof.Rows
open He (ga ma ba)
/-! ### the law -/
def spLaw (K : PySem.W.Frag) : Sp := fun vs H Q _ => ∃ (a : Addr) (ns : List Int), vs = [.ref a] ∧ SqL K H a (ns.map V.int) ∧ ns.length ≤ 63 ∧ ∀ H', Q (.bl true) H'
theorem four (n : Nat) : ∃ m : Nat, (if ((if (n : Int) < 4 then (n : Int) else 4) > 1) then (if (n : Int) < 4 then (n : Int) else 4) else 1) = (m : Int) ∧ m ≤ 4 := by
  by_cases h : (n : Int) < 4
  · rw [if_pos h]
    by_cases h1 : (n : Int) > 1
    · exact ⟨n, by rw [if_pos h1], by omega⟩
    · exact ⟨1, by rw [if_neg h1]; rfl, by decide⟩
  · exact ⟨4, by rw [if_neg h]; rfl, by decide⟩
abbrev lawLevel : Nat := 10
section
variable {P : Program} {w : World} {K : PySem.W.Frag} {mg : Str → Option Value} {base : Heap} {f : Addr} {fd : FuncData}
theorem scLaw : FnScope ["_law_script", "_law_k"] ["_law_script"] (defScope s_law) := ⟨rfl, rfl, rfl, by decide +kernel, rfl, by decide +kernel, by decide +kernel⟩
theorem ok_law (N : Nam mg) (DP : Def P w K mg base "_law_pot" ["_law_script", "_law_k"] 1 (spPot K)) (DR : DefG P w K mg base "_law_right" ["_law_pot_here"] 9 spRight) (F : Fun K "law" "law" s_law f fd) : FnG P w K mg base lawLevel f fd ["_law_script"] (spLaw K) := by
  refine Fun.okG F scLaw (fun {vs H Q E} h => ?_) (fun cdv A outer s H vs Q E hG hr h => ?_)
  · obtain ⟨a, ns, rfl, _⟩ := h
    rfl
  · obtain ⟨a, ns, rfl, hS, hl, go⟩ := h
    refine ⟨_, pss_one (ps_ret (pe_callB (cr_all rfl) rfl N.all_ boot_all' (pa_cons (pe_lc (own := [("_law_k", 1)]) (g := gName 1) (tt := tYes) (te := tCall spRight [] E0 (tCons (tCall (spPot K) [] E0 (tCons (tVar 0) (tCons (tVar 1) tNil))) tNil)) (by rfl) scLaw.nd
        (pi_range1 rfl N.rng (pa_cons (pe_callB (call_max2 rfl) rfl N.mx PyProof.Rows.boot_max (pa_cons pe_int (pa_cons (pe_callB (call_min2 rfl) rfl N.mn PyProof.Rows.boot_min (pa_cons pe_int (pa_cons (pe_callB call_len_seq rfl N.len PySem.boot_len (pa_cons (pv 0) pa_nil)) pa_nil))) pa_nil))) pa_nil))
        (blkOk_by (own := [("_law_k", 1)]) (N := ["_law_script", "_law_k"]) (sc := defScope s_law) (by decide +kernel)) (fun _ _ _ _ _ => pg_name (i := 1) scLaw.nd rfl (Or.inl rfl)) (fun _ _ _ _ _ => pts_nil)
        (fun _ _ _ _ _ => callDG DR hG hr rfl (pa_cons (callD DP (hr.mono (by decide)) rfl (pa_cons (pv 0) (pa_cons (pv 1) pa_nil))) pa_nil))) pa_nil))), ?_⟩
    refine ⟨_, rfl, a, _, rfl, .inl hS, _, _, rfl, _, _, rfl, ?_⟩
    rw [List.length_map]
    obtain ⟨m, em, m3⟩ := four ns.length
    refine ⟨_, rfl, ?_⟩
    rw [em]
    refine ⟨by omega, by omega, fun D nD => ?_⟩
    refine lc_it (walk_range (lo := 0) (n := ((m : Int)).toNat)) (fun i H' => Same H H' ∧ H' D = some (.lst ((List.replicate i true).map V.bl))) ⟨new_same nD, upd_same⟩ (fun _ _ _ _ => True.intro) ?_ ?_
    · rintro i x H1 H1' hi ⟨sm, hD⟩ ⟨rfl, rfl⟩
      have em : ((m : Int)).toNat = m := rfl
      refine ⟨rfl, ?_⟩
      refine ⟨_, rfl, _, rfl, a, ns, i, by show [V.ref a, V.int (0 + (i : Int))] = _; rw [Int.zero_add], SqL.sm sm hS, by omega, hl, fun p H2 np s2 hp => ⟨p, rfl, hp, fun H3 s3 _ => ?_⟩⟩
      have s4 : Same H1' H3 := fun b o e => s3 b o (s2 b o e) (ne_of_none e np)
      refine ⟨_, s4 _ _ hD, by rw [List.length_map, List.length_replicate]; exact Nat.lt_of_lt_of_le (Nat.lt_of_lt_of_le hi (by rw [em]; exact m3)) (by decide), fun c u e => ?_, ?_⟩
      · rw [upd_ne (ne_of_none e nD)]
        exact s4 _ _ (sm c u e)
      · rw [upd_same, List.replicate_succ', List.map_append]
        rfl
    · rintro H1 ⟨sm, hD⟩
      refine ⟨D, List.replicate ((m : Int)).toNat true, rfl, .inl (.inl hD), ?_⟩
      rw [all_true]
      exact go H1
end
/-! ### all together -/
section
variable {P : Program} {w : World} {K : PySem.W.Frag} {mg : Str → Option Value} {base : Heap}
abbrev aR (K : PySem.W.Frag) : Addr := ga K "Run"
abbrev aB (K : PySem.W.Frag) : Addr := ga K "Book"
theorem runF_of (c : obsK K = val0) : RunF K (aR K) (aB K) := ⟨ownB_ok (bOwnR c), He.eqO_ok (bNoT c), rdB_ok (bRdB c), cI8_ok (bMM c)⟩
theorem nam_of (X : K.In base) (G : base.Ns mainGlobals mg) (c : obsK K = val0) : Nam mg :=
  ⟨f_isinstance X G c, f_all X G c, f_any X G c, f_len X G c, f_range X G c, f_int X G c, f_max X G c, f_min X G c, f_abs X G c, f_divmod X G c, f_repr X G c, f_str X G c, f_dict X G c, f_zip X G c, f_bool X G c, f_tuple X G c, f_sorted X G c, f_list X G c, f_sum X G c, f_enumerate X G c, n_MOST_LETTERS X G c, n_MOST_TERMS X G c⟩
theorem d_name (X : K.In base) (G : base.Ns mainGlobals mg) (c : obsK K = val0) : Def P w K mg base "is_name" ["value"] 1 spName := by
  obtain ⟨fd, F⟩ := F_is_name c
  exact def_mk F (g_is_name X G c) (ok_name (nam_of X G c) F) (by intro _ _ _ _ _ _ us hl; first | (match us, hl with | [_], _ => rfl) | (match us, hl with | [_, _], _ => rfl) | (match us, hl with | [_, _, _], _ => rfl) | (match us, hl with | [_, _, _, _], _ => rfl) | (match us, hl with | [_, _, _, _, _], _ => rfl) | (match us, hl with | [_, _, _, _, _, _], _ => rfl) | (match us, hl with | [_, _, _, _, _, _, _], _ => rfl) | (match us, hl with | [_, _, _, _, _, _, _, _], _ => rfl) | (match us, hl with | [_, _, _, _, _, _, _, _, _], _ => rfl))
theorem d_integer (X : K.In base) (G : base.Ns mainGlobals mg) (c : obsK K = val0) : Def P w K mg base "is_integer" ["value"] 1 spInteger := by
  obtain ⟨fd, F⟩ := F_is_integer c
  exact def_mk F (g_is_integer X G c) (ok_integer (nam_of X G c) F) (by intro _ _ _ _ _ _ us hl; first | (match us, hl with | [_], _ => rfl) | (match us, hl with | [_, _], _ => rfl) | (match us, hl with | [_, _, _], _ => rfl) | (match us, hl with | [_, _, _, _], _ => rfl) | (match us, hl with | [_, _, _, _, _], _ => rfl) | (match us, hl with | [_, _, _, _, _, _], _ => rfl) | (match us, hl with | [_, _, _, _, _, _, _], _ => rfl) | (match us, hl with | [_, _, _, _, _, _, _, _], _ => rfl) | (match us, hl with | [_, _, _, _, _, _, _, _, _], _ => rfl))
theorem d_momR (X : K.In base) (G : base.Ns mainGlobals mg) (c : obsK K = val0) : Def P w K mg base "is_moment_of" ["value", "moments"] 1 spMomR := by
  obtain ⟨fd, F⟩ := F_is_moment_of c
  exact def_mk F (g_is_moment_of X G c) (ok_momR (nam_of X G c) F) (by intro _ _ _ _ _ _ us hl; first | (match us, hl with | [_], _ => rfl) | (match us, hl with | [_, _], _ => rfl) | (match us, hl with | [_, _, _], _ => rfl) | (match us, hl with | [_, _, _, _], _ => rfl) | (match us, hl with | [_, _, _, _, _], _ => rfl) | (match us, hl with | [_, _, _, _, _, _], _ => rfl) | (match us, hl with | [_, _, _, _, _, _, _], _ => rfl) | (match us, hl with | [_, _, _, _, _, _, _, _], _ => rfl) | (match us, hl with | [_, _, _, _, _, _, _, _, _], _ => rfl))
theorem d_has (X : K.In base) (G : base.Ns mainGlobals mg) (c : obsK K = val0) : Def P w K mg base "has_names" ["value"] 2 spHas := by
  obtain ⟨fd, F⟩ := F_has_names c
  exact def_mk F (g_has_names X G c) (ok_has (nam_of X G c) (d_name X G c) F) (by intro _ _ _ _ _ _ us hl; first | (match us, hl with | [_], _ => rfl) | (match us, hl with | [_, _], _ => rfl) | (match us, hl with | [_, _, _], _ => rfl) | (match us, hl with | [_, _, _, _], _ => rfl) | (match us, hl with | [_, _, _, _, _], _ => rfl) | (match us, hl with | [_, _, _, _, _, _], _ => rfl) | (match us, hl with | [_, _, _, _, _, _, _], _ => rfl) | (match us, hl with | [_, _, _, _, _, _, _, _], _ => rfl) | (match us, hl with | [_, _, _, _, _, _, _, _, _], _ => rfl))
theorem d_times (X : K.In base) (G : base.Ns mainGlobals mg) (c : obsK K = val0) : Def P w K mg base "is_times" ["value"] 3 spHas := by
  obtain ⟨fd, F⟩ := F_is_times c
  exact def_mk F (g_is_times X G c) (ok_times (nam_of X G c) (d_integer X G c) (d_has X G c) F) (by intro _ _ _ _ _ _ us hl; first | (match us, hl with | [_], _ => rfl) | (match us, hl with | [_, _], _ => rfl) | (match us, hl with | [_, _, _], _ => rfl) | (match us, hl with | [_, _, _, _], _ => rfl) | (match us, hl with | [_, _, _, _, _], _ => rfl) | (match us, hl with | [_, _, _, _, _, _], _ => rfl) | (match us, hl with | [_, _, _, _, _, _, _], _ => rfl) | (match us, hl with | [_, _, _, _, _, _, _, _], _ => rfl) | (match us, hl with | [_, _, _, _, _, _, _, _, _], _ => rfl))
theorem d_cmom (X : K.In base) (G : base.Ns mainGlobals mg) (c : obsK K = val0) : Def P w K mg base "check_moment" ["value", "moments"] 2 spCMomR := by
  obtain ⟨fd, F⟩ := F_check_moment c
  exact def_mk F (g_check_moment X G c) (ok_cmomR (d_momR X G c) F) (by intro _ _ _ _ _ _ us hl; first | (match us, hl with | [_], _ => rfl) | (match us, hl with | [_, _], _ => rfl) | (match us, hl with | [_, _, _], _ => rfl) | (match us, hl with | [_, _, _, _], _ => rfl) | (match us, hl with | [_, _, _, _, _], _ => rfl) | (match us, hl with | [_, _, _, _, _, _], _ => rfl) | (match us, hl with | [_, _, _, _, _, _, _], _ => rfl) | (match us, hl with | [_, _, _, _, _, _, _, _], _ => rfl) | (match us, hl with | [_, _, _, _, _, _, _, _, _], _ => rfl))
theorem d_order (X : K.In base) (G : base.Ns mainGlobals mg) (c : obsK K = val0) : Def P w K mg base "in_order" ["table"] 1 spOrder := by
  obtain ⟨fd, F⟩ := F_in_order c
  exact def_mk F (g_in_order X G c) (ok_order (nam_of X G c) F) (by intro _ _ _ _ _ _ us hl; first | (match us, hl with | [_], _ => rfl) | (match us, hl with | [_, _], _ => rfl) | (match us, hl with | [_, _, _], _ => rfl) | (match us, hl with | [_, _, _, _], _ => rfl) | (match us, hl with | [_, _, _, _, _], _ => rfl) | (match us, hl with | [_, _, _, _, _, _], _ => rfl) | (match us, hl with | [_, _, _, _, _, _, _], _ => rfl) | (match us, hl with | [_, _, _, _, _, _, _, _], _ => rfl) | (match us, hl with | [_, _, _, _, _, _, _, _, _], _ => rfl))
theorem mkR_of (X : K.In base) (G : base.Ns mainGlobals mg) (c : obsK K = val0) : MkR P w K mg base (aR K) := by
  obtain ⟨fd, F⟩ := F_Run___init__ c
  refine ⟨_, fd, mkB_ok (bMkR c), ok_initR (nam_of X G c) (runF_of c) (g_Book X G c) (d_times X G c) (d_order X G c) F, g_Run X G c, F.binds (by intro _ _ _ _ _ _ us hl; first | (match us, hl with | [_], _ => rfl) | (match us, hl with | [_, _], _ => rfl) | (match us, hl with | [_, _, _], _ => rfl) | (match us, hl with | [_, _, _, _], _ => rfl) | (match us, hl with | [_, _, _, _, _], _ => rfl) | (match us, hl with | [_, _, _, _, _, _], _ => rfl) | (match us, hl with | [_, _, _, _, _, _, _], _ => rfl) | (match us, hl with | [_, _, _, _, _, _, _, _], _ => rfl) | (match us, hl with | [_, _, _, _, _, _, _, _, _], _ => rfl)), fun us ws => us ++ ws, kb_one F 1 ["times"] _ _ (fun r1 r2 => r1.append r2) fun kV doc pm an cdv ct us ws l1 l2 => ?_⟩
  match us, ws, l1, l2 with
  | [_], [_], _, _ => rfl
theorem propR_of (X : K.In base) (G : base.Ns mainGlobals mg) (c : obsK K = val0) : PropR P w K mg base (aR K) := by
  obtain ⟨fd, F⟩ := F_Run_moments c
  exact ⟨_, _, fd, propB_ok (bPM c), ok_momentsR (nam_of X G c) (runF_of c) F, F.binds (by intro _ _ _ _ _ _ us hl; first | (match us, hl with | [_], _ => rfl) | (match us, hl with | [_, _], _ => rfl) | (match us, hl with | [_, _, _], _ => rfl) | (match us, hl with | [_, _, _, _], _ => rfl) | (match us, hl with | [_, _, _, _, _], _ => rfl) | (match us, hl with | [_, _, _, _, _, _], _ => rfl) | (match us, hl with | [_, _, _, _, _, _, _], _ => rfl) | (match us, hl with | [_, _, _, _, _, _, _, _], _ => rfl) | (match us, hl with | [_, _, _, _, _, _, _, _, _], _ => rfl))⟩
theorem itemR_of (X : K.In base) (G : base.Ns mainGlobals mg) (c : obsK K = val0) : ItemR P w K mg base (aR K) := by
  obtain ⟨fd, F⟩ := F_Run___getitem__ c
  exact ⟨_, fd, ok_itemR (runF_of c) (d_cmom X G c) F, mB_ok (bIT c), bITf c, F.binds (by intro _ _ _ _ _ _ us hl; first | (match us, hl with | [_], _ => rfl) | (match us, hl with | [_, _], _ => rfl) | (match us, hl with | [_, _, _], _ => rfl) | (match us, hl with | [_, _, _, _], _ => rfl) | (match us, hl with | [_, _, _, _, _], _ => rfl) | (match us, hl with | [_, _, _, _, _, _], _ => rfl) | (match us, hl with | [_, _, _, _, _, _, _], _ => rfl) | (match us, hl with | [_, _, _, _, _, _, _, _], _ => rfl) | (match us, hl with | [_, _, _, _, _, _, _, _, _], _ => rfl))⟩
theorem d_same (X : K.In base) (G : base.Ns mainGlobals mg) (c : obsK K = val0) : Def P w K mg base "check_same_moments" ["one", "other"] 1 spSameM := by
  obtain ⟨fd, F⟩ := F_check_same_moments c
  exact def_mk F (g_check_same_moments X G c) (ok_sameM F) (by intro _ _ _ _ _ _ us hl; first | (match us, hl with | [_], _ => rfl) | (match us, hl with | [_, _], _ => rfl) | (match us, hl with | [_, _, _], _ => rfl) | (match us, hl with | [_, _, _, _], _ => rfl) | (match us, hl with | [_, _, _, _, _], _ => rfl) | (match us, hl with | [_, _, _, _, _, _], _ => rfl) | (match us, hl with | [_, _, _, _, _, _, _], _ => rfl) | (match us, hl with | [_, _, _, _, _, _, _, _], _ => rfl) | (match us, hl with | [_, _, _, _, _, _, _, _, _], _ => rfl))
theorem d_cshift (X : K.In base) (G : base.Ns mainGlobals mg) (c : obsK K = val0) : Def P w K mg base "check_shift" ["value"] 2 spShift := by
  obtain ⟨fd, F⟩ := F_check_shift c
  exact def_mk F (g_check_shift X G c) (ok_shift (d_integer X G c) F) (by intro _ _ _ _ _ _ us hl; first | (match us, hl with | [_], _ => rfl) | (match us, hl with | [_, _], _ => rfl) | (match us, hl with | [_, _, _], _ => rfl) | (match us, hl with | [_, _, _, _], _ => rfl) | (match us, hl with | [_, _, _, _, _], _ => rfl) | (match us, hl with | [_, _, _, _, _, _], _ => rfl) | (match us, hl with | [_, _, _, _, _, _, _], _ => rfl) | (match us, hl with | [_, _, _, _, _, _, _, _], _ => rfl) | (match us, hl with | [_, _, _, _, _, _, _, _, _], _ => rfl))
theorem d_moved (X : K.In base) (G : base.Ns mainGlobals mg) (c : obsK K = val0) : Def P w K mg base "moved" ["table", "number"] 1 spMoved := by
  obtain ⟨fd, F⟩ := F_moved c
  exact def_mk F (g_moved X G c) (ok_moved F) (by intro _ _ _ _ _ _ us hl; first | (match us, hl with | [_], _ => rfl) | (match us, hl with | [_, _], _ => rfl) | (match us, hl with | [_, _, _], _ => rfl) | (match us, hl with | [_, _, _, _], _ => rfl) | (match us, hl with | [_, _, _, _, _], _ => rfl) | (match us, hl with | [_, _, _, _, _, _], _ => rfl) | (match us, hl with | [_, _, _, _, _, _, _], _ => rfl) | (match us, hl with | [_, _, _, _, _, _, _, _], _ => rfl) | (match us, hl with | [_, _, _, _, _, _, _, _, _], _ => rfl))
theorem addR_of (X : K.In base) (G : base.Ns mainGlobals mg) (c : obsK K = val0) : AddR P w K mg base (aR K) := by
  obtain ⟨fd, F⟩ := F_Run___add__ c
  exact ⟨⟨_, fd, .of (ok_addR (runF_of c) (mkR_of X G c) (d_cshift X G c) (d_moved X G c) F), mB_ok (bAdd c), F.binds (by intro _ _ _ _ _ _ us hl; first | (match us, hl with | [_], _ => rfl) | (match us, hl with | [_, _], _ => rfl) | (match us, hl with | [_, _, _], _ => rfl) | (match us, hl with | [_, _, _, _], _ => rfl) | (match us, hl with | [_, _, _, _, _], _ => rfl) | (match us, hl with | [_, _, _, _, _, _], _ => rfl) | (match us, hl with | [_, _, _, _, _, _, _], _ => rfl) | (match us, hl with | [_, _, _, _, _, _, _, _], _ => rfl) | (match us, hl with | [_, _, _, _, _, _, _, _, _], _ => rfl))⟩, ⟨_, (mB_ok (bRadd c)).at_⟩, (intX_ok (bInt c)).1, (intX_ok (bInt c)).2⟩
theorem raddR_of (X : K.In base) (G : base.Ns mainGlobals mg) (c : obsK K = val0) : RaddR P w K mg base (aR K) := by
  obtain ⟨fd, F⟩ := F_Run___radd__ c
  exact ⟨_, fd, ok_raddR (runF_of c) (addR_of X G c) F, mB_ok (bRadd c), F.binds (by intro _ _ _ _ _ _ us hl; first | (match us, hl with | [_], _ => rfl) | (match us, hl with | [_, _], _ => rfl) | (match us, hl with | [_, _, _], _ => rfl) | (match us, hl with | [_, _, _, _], _ => rfl) | (match us, hl with | [_, _, _, _, _], _ => rfl) | (match us, hl with | [_, _, _, _, _, _], _ => rfl) | (match us, hl with | [_, _, _, _, _, _, _], _ => rfl) | (match us, hl with | [_, _, _, _, _, _, _, _], _ => rfl) | (match us, hl with | [_, _, _, _, _, _, _, _, _], _ => rfl))⟩
theorem andR_of (X : K.In base) (G : base.Ns mainGlobals mg) (c : obsK K = val0) : OpO P w K mg base (aR K) (PySem.dunder Operator.BitAnd.info.2) mn2 := by
  obtain ⟨fd, F⟩ := F_Run___and__ c
  exact ⟨_, fd, .of (ok_and (nam_of X G c) (runF_of c) (mkR_of X G c) (propR_of X G c) (g_Run X G c) (d_same X G c) F), mB_ok (bAND c), F.binds (by intro _ _ _ _ _ _ us hl; first | (match us, hl with | [_], _ => rfl) | (match us, hl with | [_, _], _ => rfl) | (match us, hl with | [_, _, _], _ => rfl) | (match us, hl with | [_, _, _, _], _ => rfl) | (match us, hl with | [_, _, _, _, _], _ => rfl) | (match us, hl with | [_, _, _, _, _, _], _ => rfl) | (match us, hl with | [_, _, _, _, _, _, _], _ => rfl) | (match us, hl with | [_, _, _, _, _, _, _, _], _ => rfl) | (match us, hl with | [_, _, _, _, _, _, _, _, _], _ => rfl))⟩
theorem orR_of (X : K.In base) (G : base.Ns mainGlobals mg) (c : obsK K = val0) : OpO P w K mg base (aR K) (PySem.dunder Operator.BitOr.info.2) mx2 := by
  obtain ⟨fd, F⟩ := F_Run___or__ c
  exact ⟨_, fd, .of (ok_or_ (nam_of X G c) (runF_of c) (mkR_of X G c) (propR_of X G c) (g_Run X G c) (d_same X G c) F), mB_ok (bOR c), F.binds (by intro _ _ _ _ _ _ us hl; first | (match us, hl with | [_], _ => rfl) | (match us, hl with | [_, _], _ => rfl) | (match us, hl with | [_, _, _], _ => rfl) | (match us, hl with | [_, _, _, _], _ => rfl) | (match us, hl with | [_, _, _, _, _], _ => rfl) | (match us, hl with | [_, _, _, _, _, _], _ => rfl) | (match us, hl with | [_, _, _, _, _, _, _], _ => rfl) | (match us, hl with | [_, _, _, _, _, _, _, _], _ => rfl) | (match us, hl with | [_, _, _, _, _, _, _, _, _], _ => rfl))⟩
theorem topS_of (X : K.In base) (G : base.Ns mainGlobals mg) (c : obsK K = val0) : TopS P w K mg base (aR K) (aB K) := by
  have N := nam_of X G c
  have T := runF_of c
  refine ⟨T, mkR_of X G c, propR_of X G c, addR_of X G c, raddR_of X G c, andR_of X G c, orR_of X G c, ?_, ?_, bNF c, ?_⟩
  · obtain ⟨fd, F⟩ := F_Run_times c
    exact ⟨_, fd, metB_ok (bTI c), ok_timesR N T F, F.binds (by intro _ _ _ _ _ _ us hl; first | (match us, hl with | [_], _ => rfl) | (match us, hl with | [_, _], _ => rfl) | (match us, hl with | [_, _, _], _ => rfl) | (match us, hl with | [_, _, _, _], _ => rfl) | (match us, hl with | [_, _, _, _, _], _ => rfl) | (match us, hl with | [_, _, _, _, _, _], _ => rfl) | (match us, hl with | [_, _, _, _, _, _, _], _ => rfl) | (match us, hl with | [_, _, _, _, _, _, _, _], _ => rfl) | (match us, hl with | [_, _, _, _, _, _, _, _, _], _ => rfl))⟩
  · obtain ⟨fd, F⟩ := F_Run___eq__ c
    exact ⟨_, fd, mB_ok (bEQ c), ok_eqR N T (g_Run X G c) F, F.binds (by intro _ _ _ _ _ _ us hl; first | (match us, hl with | [_], _ => rfl) | (match us, hl with | [_, _], _ => rfl) | (match us, hl with | [_, _, _], _ => rfl) | (match us, hl with | [_, _, _, _], _ => rfl) | (match us, hl with | [_, _, _, _, _], _ => rfl) | (match us, hl with | [_, _, _, _, _, _], _ => rfl) | (match us, hl with | [_, _, _, _, _, _, _], _ => rfl) | (match us, hl with | [_, _, _, _, _, _, _, _], _ => rfl) | (match us, hl with | [_, _, _, _, _, _, _, _, _], _ => rfl))⟩
  · obtain ⟨fd, F⟩ := F_Run_is_at_most c
    exact ⟨_, fd, metB_ok (bAM c), ok_atMost N T (propR_of X G c) (itemR_of X G c) (d_same X G c) F, F.binds (by intro _ _ _ _ _ _ us hl; first | (match us, hl with | [_], _ => rfl) | (match us, hl with | [_, _], _ => rfl) | (match us, hl with | [_, _, _], _ => rfl) | (match us, hl with | [_, _, _, _], _ => rfl) | (match us, hl with | [_, _, _, _, _], _ => rfl) | (match us, hl with | [_, _, _, _, _, _], _ => rfl) | (match us, hl with | [_, _, _, _, _, _, _], _ => rfl) | (match us, hl with | [_, _, _, _, _, _, _, _], _ => rfl) | (match us, hl with | [_, _, _, _, _, _, _, _, _], _ => rfl))⟩
/-! what is raised -/
abbrev aO (K : PySem.W.Frag) : Addr := ga K "OtherMoments"
abbrev aS (K : PySem.W.Frag) : Addr := ga K "StateError"
theorem errO_of (X : K.In base) (G : base.Ns mainGlobals mg) (c : obsK K = val0) : ErrO P w K mg base (aO K) :=
  ⟨excB_ok (bExc c), He.eqO_ok (bOne c), He.eqO_ok (bOther c), of_decide_eq_true (bTyO c), g_OtherMoments X G c, of_decide_eq_true (bMeO c)⟩
theorem errF_of (X : K.In base) (G : base.Ns mainGlobals mg) (c : obsK K = val0) : ErrF K mg (aO K) (aS K) :=
  ⟨g_StateError X G c, f_RuntimeError X G c, of_decide_eq_true (bKS c), of_decide_eq_true (bKT c)⟩
theorem oinit_of (X : K.In base) (G : base.Ns mainGlobals mg) (c : obsK K = val0) : OInit P w K mg base (aO K) := by
  obtain ⟨fd, F⟩ := F_OtherMoments___init__ c
  exact ⟨_, fd, He.eqO_ok (ba (bIni c)).1, of_decide_eq_true (ba (bIni c)).2, ok_other F, F.binds (by intro _ _ _ _ _ _ us hl; first | (match us, hl with | [_], _ => rfl) | (match us, hl with | [_, _], _ => rfl) | (match us, hl with | [_, _, _], _ => rfl) | (match us, hl with | [_, _, _, _], _ => rfl) | (match us, hl with | [_, _, _, _, _], _ => rfl) | (match us, hl with | [_, _, _, _, _, _], _ => rfl) | (match us, hl with | [_, _, _, _, _, _, _], _ => rfl) | (match us, hl with | [_, _, _, _, _, _, _, _], _ => rfl) | (match us, hl with | [_, _, _, _, _, _, _, _, _], _ => rfl))⟩
theorem sameX_of (X : K.In base) (G : base.Ns mainGlobals mg) (c : obsK K = val0) : DefX P w K mg base "check_same_moments" ["one", "other"] 3 (spSameX (aO K)) := by
  obtain ⟨fd, F⟩ := F_check_same_moments c
  obtain ⟨_, _, _, _, kp, _⟩ := (d_same (P := P) (w := w) X G c).ex
  exact ⟨_, fd, ok_sameX (errO_of X G c) (oinit_of X G c) F, g_check_same_moments X G c, F.kp, F.binds (by intro _ _ _ _ _ _ us hl; first | (match us, hl with | [_], _ => rfl) | (match us, hl with | [_, _], _ => rfl) | (match us, hl with | [_, _, _], _ => rfl) | (match us, hl with | [_, _, _, _], _ => rfl) | (match us, hl with | [_, _, _, _, _], _ => rfl) | (match us, hl with | [_, _, _, _, _, _], _ => rfl) | (match us, hl with | [_, _, _, _, _, _, _], _ => rfl) | (match us, hl with | [_, _, _, _, _, _, _, _], _ => rfl) | (match us, hl with | [_, _, _, _, _, _, _, _, _], _ => rfl))⟩
theorem andX_of (X : K.In base) (G : base.Ns mainGlobals mg) (c : obsK K = val0) : OpX P w K mg base (aR K) (aO K) (PySem.dunder Operator.BitAnd.info.2) := by
  obtain ⟨fd, F⟩ := F_Run___and__ c
  exact ⟨_, fd, ok_andX (nam_of X G c) (runF_of c) (propR_of X G c) (g_Run X G c) (sameX_of X G c) F, mB_ok (bAND c), F.binds (by intro _ _ _ _ _ _ us hl; first | (match us, hl with | [_], _ => rfl) | (match us, hl with | [_, _], _ => rfl) | (match us, hl with | [_, _, _], _ => rfl) | (match us, hl with | [_, _, _, _], _ => rfl) | (match us, hl with | [_, _, _, _, _], _ => rfl) | (match us, hl with | [_, _, _, _, _, _], _ => rfl) | (match us, hl with | [_, _, _, _, _, _, _], _ => rfl) | (match us, hl with | [_, _, _, _, _, _, _, _], _ => rfl) | (match us, hl with | [_, _, _, _, _, _, _, _, _], _ => rfl))⟩
theorem orX_of (X : K.In base) (G : base.Ns mainGlobals mg) (c : obsK K = val0) : OpX P w K mg base (aR K) (aO K) (PySem.dunder Operator.BitOr.info.2) := by
  obtain ⟨fd, F⟩ := F_Run___or__ c
  exact ⟨_, fd, ok_orX (nam_of X G c) (runF_of c) (propR_of X G c) (g_Run X G c) (sameX_of X G c) F, mB_ok (bOR c), F.binds (by intro _ _ _ _ _ _ us hl; first | (match us, hl with | [_], _ => rfl) | (match us, hl with | [_, _], _ => rfl) | (match us, hl with | [_, _, _], _ => rfl) | (match us, hl with | [_, _, _, _], _ => rfl) | (match us, hl with | [_, _, _, _, _], _ => rfl) | (match us, hl with | [_, _, _, _, _, _], _ => rfl) | (match us, hl with | [_, _, _, _, _, _, _], _ => rfl) | (match us, hl with | [_, _, _, _, _, _, _, _], _ => rfl) | (match us, hl with | [_, _, _, _, _, _, _, _, _], _ => rfl))⟩
theorem mostX_of (X : K.In base) (G : base.Ns mainGlobals mg) (c : obsK K = val0) : MostX P w K mg base (aR K) (aO K) := by
  obtain ⟨fd, F⟩ := F_Run_is_at_most c
  exact ⟨_, fd, metB_ok (bAM c), ok_mostX (nam_of X G c) (runF_of c) (propR_of X G c) (sameX_of X G c) F, F.binds (by intro _ _ _ _ _ _ us hl; first | (match us, hl with | [_], _ => rfl) | (match us, hl with | [_, _], _ => rfl) | (match us, hl with | [_, _, _], _ => rfl) | (match us, hl with | [_, _, _, _], _ => rfl) | (match us, hl with | [_, _, _, _, _], _ => rfl) | (match us, hl with | [_, _, _, _, _, _], _ => rfl) | (match us, hl with | [_, _, _, _, _, _, _], _ => rfl) | (match us, hl with | [_, _, _, _, _, _, _, _], _ => rfl) | (match us, hl with | [_, _, _, _, _, _, _, _, _], _ => rfl))⟩
theorem law_of (X : K.In base) (G : base.Ns mainGlobals mg) (c : obsK K = val0) : ∃ fd, Fun K "law" "law" s_law (ga K "law") fd ∧ FnG P w K mg base lawLevel (ga K "law") fd ["_law_script"] (spLaw K) := by
  have N := nam_of X G c
  have T := runF_of c
  have U := topS_of (P := P) (w := w) X G c
  obtain ⟨_, F1⟩ := F__law_pot c
  obtain ⟨_, F2⟩ := F__law_draw c
  obtain ⟨_, F3⟩ := F__law_among c
  obtain ⟨_, F4⟩ := F__law_names c
  obtain ⟨_, F5⟩ := F__law_run c
  obtain ⟨_, F6⟩ := F__law_both c
  obtain ⟨_, F7⟩ := F__law_done c
  obtain ⟨_, F8⟩ := F__law_is_pair_right c
  obtain ⟨_, F9⟩ := F__law_is_triple_right c
  obtain ⟨_, F10⟩ := F__law_refused c
  obtain ⟨_, F11⟩ := F__law_strange c
  obtain ⟨_, F12⟩ := F__law_right c
  obtain ⟨fd, F13⟩ := F_law c
  have D1 := def_mk (w := w) (base := base) F1 (g__law_pot X G c) (ok_pot (P := P) N F1) (by intro _ _ _ _ _ _ us hl; first | (match us, hl with | [_], _ => rfl) | (match us, hl with | [_, _], _ => rfl) | (match us, hl with | [_, _, _], _ => rfl) | (match us, hl with | [_, _, _, _], _ => rfl) | (match us, hl with | [_, _, _, _, _], _ => rfl) | (match us, hl with | [_, _, _, _, _, _], _ => rfl) | (match us, hl with | [_, _, _, _, _, _, _], _ => rfl) | (match us, hl with | [_, _, _, _, _, _, _, _], _ => rfl) | (match us, hl with | [_, _, _, _, _, _, _, _, _], _ => rfl))
  have D2 := def_mk (w := w) (base := base) F2 (g__law_draw X G c) (ok_draw (P := P) N F2) (by intro _ _ _ _ _ _ us hl; first | (match us, hl with | [_], _ => rfl) | (match us, hl with | [_, _], _ => rfl) | (match us, hl with | [_, _, _], _ => rfl) | (match us, hl with | [_, _, _, _], _ => rfl) | (match us, hl with | [_, _, _, _, _], _ => rfl) | (match us, hl with | [_, _, _, _, _, _], _ => rfl) | (match us, hl with | [_, _, _, _, _, _, _], _ => rfl) | (match us, hl with | [_, _, _, _, _, _, _, _], _ => rfl) | (match us, hl with | [_, _, _, _, _, _, _, _, _], _ => rfl))
  have D3 := def_mk (w := w) (base := base) F3 (g__law_among X G c) (ok_among (P := P) N D2 F3) (by intro _ _ _ _ _ _ us hl; first | (match us, hl with | [_], _ => rfl) | (match us, hl with | [_, _], _ => rfl) | (match us, hl with | [_, _, _], _ => rfl) | (match us, hl with | [_, _, _, _], _ => rfl) | (match us, hl with | [_, _, _, _, _], _ => rfl) | (match us, hl with | [_, _, _, _, _, _], _ => rfl) | (match us, hl with | [_, _, _, _, _, _, _], _ => rfl) | (match us, hl with | [_, _, _, _, _, _, _, _], _ => rfl) | (match us, hl with | [_, _, _, _, _, _, _, _, _], _ => rfl))
  have D4 := def_mk (w := w) (base := base) F4 (g__law_names X G c) (ok_names (P := P) N D2 F4) (by intro _ _ _ _ _ _ us hl; first | (match us, hl with | [_], _ => rfl) | (match us, hl with | [_, _], _ => rfl) | (match us, hl with | [_, _, _], _ => rfl) | (match us, hl with | [_, _, _, _], _ => rfl) | (match us, hl with | [_, _, _, _, _], _ => rfl) | (match us, hl with | [_, _, _, _, _, _], _ => rfl) | (match us, hl with | [_, _, _, _, _, _, _], _ => rfl) | (match us, hl with | [_, _, _, _, _, _, _, _], _ => rfl) | (match us, hl with | [_, _, _, _, _, _, _, _, _], _ => rfl))
  have D5 := def_mk (w := w) (base := base) F5 (g__law_run X G c) (ok_run (P := P) N D2 F5) (by intro _ _ _ _ _ _ us hl; first | (match us, hl with | [_], _ => rfl) | (match us, hl with | [_, _], _ => rfl) | (match us, hl with | [_, _, _], _ => rfl) | (match us, hl with | [_, _, _, _], _ => rfl) | (match us, hl with | [_, _, _, _, _], _ => rfl) | (match us, hl with | [_, _, _, _, _, _], _ => rfl) | (match us, hl with | [_, _, _, _, _, _, _], _ => rfl) | (match us, hl with | [_, _, _, _, _, _, _, _], _ => rfl) | (match us, hl with | [_, _, _, _, _, _, _, _, _], _ => rfl))
  have D6 := def_mk (w := w) (base := base) F6 (g__law_both X G c) (ok_both (P := P) N F6) (by intro _ _ _ _ _ _ us hl; first | (match us, hl with | [_], _ => rfl) | (match us, hl with | [_, _], _ => rfl) | (match us, hl with | [_, _, _], _ => rfl) | (match us, hl with | [_, _, _, _], _ => rfl) | (match us, hl with | [_, _, _, _, _], _ => rfl) | (match us, hl with | [_, _, _, _, _, _], _ => rfl) | (match us, hl with | [_, _, _, _, _, _, _], _ => rfl) | (match us, hl with | [_, _, _, _, _, _, _, _], _ => rfl) | (match us, hl with | [_, _, _, _, _, _, _, _, _], _ => rfl))
  have D7 := defG_mk (w := w) (base := base) F7 (g__law_done X G c) (ok_done (P := P) U F7) (by intro _ _ _ _ _ _ us hl; first | (match us, hl with | [_], _ => rfl) | (match us, hl with | [_, _], _ => rfl) | (match us, hl with | [_, _, _], _ => rfl) | (match us, hl with | [_, _, _, _], _ => rfl) | (match us, hl with | [_, _, _, _, _], _ => rfl) | (match us, hl with | [_, _, _, _, _, _], _ => rfl) | (match us, hl with | [_, _, _, _, _, _, _], _ => rfl) | (match us, hl with | [_, _, _, _, _, _, _, _], _ => rfl) | (match us, hl with | [_, _, _, _, _, _, _, _, _], _ => rfl))
  rw [← kDone_eq] at D7
  have D8 := defG_mk (w := w) (base := base) F8 (g__law_is_pair_right X G c) (ok_pair (P := P) N U D7 D6 F8) (by intro _ _ _ _ _ _ us hl; first | (match us, hl with | [_], _ => rfl) | (match us, hl with | [_, _], _ => rfl) | (match us, hl with | [_, _, _], _ => rfl) | (match us, hl with | [_, _, _, _], _ => rfl) | (match us, hl with | [_, _, _, _, _], _ => rfl) | (match us, hl with | [_, _, _, _, _, _], _ => rfl) | (match us, hl with | [_, _, _, _, _, _, _], _ => rfl) | (match us, hl with | [_, _, _, _, _, _, _, _], _ => rfl) | (match us, hl with | [_, _, _, _, _, _, _, _, _], _ => rfl))
  have D9 := defG_mk (w := w) (base := base) F9 (g__law_is_triple_right X G c) (ok_triple (P := P) N U D7 F9) (by intro _ _ _ _ _ _ us hl; first | (match us, hl with | [_], _ => rfl) | (match us, hl with | [_, _], _ => rfl) | (match us, hl with | [_, _, _], _ => rfl) | (match us, hl with | [_, _, _, _], _ => rfl) | (match us, hl with | [_, _, _, _, _], _ => rfl) | (match us, hl with | [_, _, _, _, _, _], _ => rfl) | (match us, hl with | [_, _, _, _, _, _, _], _ => rfl) | (match us, hl with | [_, _, _, _, _, _, _, _], _ => rfl) | (match us, hl with | [_, _, _, _, _, _, _, _, _], _ => rfl))
  have D10 := def_mk (w := w) (base := base) F10 (g__law_refused X G c) (ok_refused (P := P) N T (errO_of X G c) (errF_of X G c) (andX_of X G c) (orX_of X G c) (mostX_of X G c) F10) (by intro _ _ _ _ _ _ us hl; first | (match us, hl with | [_], _ => rfl) | (match us, hl with | [_, _], _ => rfl) | (match us, hl with | [_, _, _], _ => rfl) | (match us, hl with | [_, _, _, _], _ => rfl) | (match us, hl with | [_, _, _, _, _], _ => rfl) | (match us, hl with | [_, _, _, _, _, _], _ => rfl) | (match us, hl with | [_, _, _, _, _, _, _], _ => rfl) | (match us, hl with | [_, _, _, _, _, _, _, _], _ => rfl) | (match us, hl with | [_, _, _, _, _, _, _, _, _], _ => rfl))
  have D11 := def_mk (w := w) (base := base) F11 (g__law_strange X G c) (ok_strange (P := P) N D2 D3 F11) (by intro _ _ _ _ _ _ us hl; first | (match us, hl with | [_], _ => rfl) | (match us, hl with | [_, _], _ => rfl) | (match us, hl with | [_, _, _], _ => rfl) | (match us, hl with | [_, _, _, _], _ => rfl) | (match us, hl with | [_, _, _, _, _], _ => rfl) | (match us, hl with | [_, _, _, _, _, _], _ => rfl) | (match us, hl with | [_, _, _, _, _, _, _], _ => rfl) | (match us, hl with | [_, _, _, _, _, _, _, _], _ => rfl) | (match us, hl with | [_, _, _, _, _, _, _, _, _], _ => rfl))
  have D12 := defG_mk (w := w) (base := base) F12 (g__law_right X G c) (ok_right (P := P) N U D2 D4 D5 D8 D9 D11 D10 F12) (by intro _ _ _ _ _ _ us hl; first | (match us, hl with | [_], _ => rfl) | (match us, hl with | [_, _], _ => rfl) | (match us, hl with | [_, _, _], _ => rfl) | (match us, hl with | [_, _, _, _], _ => rfl) | (match us, hl with | [_, _, _, _, _], _ => rfl) | (match us, hl with | [_, _, _, _, _, _], _ => rfl) | (match us, hl with | [_, _, _, _, _, _, _], _ => rfl) | (match us, hl with | [_, _, _, _, _, _, _, _], _ => rfl) | (match us, hl with | [_, _, _, _, _, _, _, _, _], _ => rfl))
  exact ⟨fd, F13, ok_law N D1 D12 F13⟩
theorem binds_law {f : Addr} {fd : FuncData} (F : Fun K "law" "law" s_law f fd) (s : Shared) (u : Value) : BindsTo s fd ⟨[u], []⟩ [("_law_script", u)] := by
  obtain ⟨oc, od, kV, doc, pm, an, cdv, ct, osl, rfl, _⟩ := F.ex
  exact BindsTo.of_eq rfl
end
end E10

set_option Elab.async false
set_option linter.all false
set_option maxRecDepth 100000
set_option maxHeartbeats 4000000
open PySem PySem.W PySem.Calls PyProof.Rows
theorem PySem.Challenge.cw_anyofthese_k32_whole_earlier_and_later_holds : PySem.Challenge.rw_anyofthese_k32_whole_earlier_and_later.Holds := by
  w_on; o_law
  refine HandSHeadRun.head_any (r := E10.R) (q := E10.qv) (H := E10.hook) (ob := E10.ob) (M := 60000) (loose := E10.names) (d := HandSHeadRun.topDef E10.R.prog E10.iLaw) (kwd := []) E10.ob_eq
    (by kernel_rfl) (fun s => by kernel_rfl) E10.run (by kernel_rfl) (by kernel_rfl) (by kernel_rfl) (by rfl) (by first | assumption | decide +kernel) (by decide +kernel) ⟨rfl, rfl, rfl, rfl, rfl, by decide +kernel⟩ ?hw ?hc
  case hw => w_witness2
  case hc =>
    refine E10.walkG (l := PySem.Challenge.rw_anyofthese_k32_whole_earlier_and_later) (n := 63) (k := E10.lawLevel) (y := "_law_script") rfl (by decide) (by kernel_rfl) ⟨rfl, by decide, by decide⟩ ?F
    intro w mg f h Y G g
    obtain ⟨K, X, c⟩ := Y
    have g2 : mg ("law" : PySem.Str) = some (.ref f) := by
      have e : (HandSHeadRun.topDef E10.R.prog E10.iLaw).name = ("law" : PySem.Str) := by kernel_rfl
      rw [← e]
      exact g
    have g3 : mg ("law" : PySem.Str) = some (.ref (He.ga K "law")) := E10.g_law X G c
    have ef : f = He.ga K "law" := by
      have z := g2.symm.trans g3
      simpa using z
    subst ef
    obtain ⟨fd, F, _⟩ := E10.law_of (P := (PySem.Challenge.rw_anyofthese_k32_whole_earlier_and_later).prog) (w := w) X G c
    refine ⟨K, fd, E10.spLaw K, X, E10.binds_law F, fun H a ns hl hS => ⟨a, ns, rfl, hS, hl, fun _ => rfl⟩, fun base X2 G2 => ?_⟩
    obtain ⟨fd2, F2, L⟩ := E10.law_of (P := (PySem.Challenge.rw_anyofthese_k32_whole_earlier_and_later).prog) (w := w) X2 G2 c
    rw [E10.one_fd F F2] at L
    exact L

