import PyProof.Rows.All
import Wide.All
import OpenK.AllK
import Wide.FinOn
import PyProof.InstEq
import KE.KOpsOwn
import HandS.Base
import HandS.Call
import HandS.List
import HandS.Words
import HandS.IsInst
import HandS.Defaults
import HandS.MakeKw
import HandS.Star
import HandS.FStr
import PyProof.Rows.StrIntSpec
import HandS.Dict
import HandS.DeepEq
import KE.KSortTup
import KE.KSortTupAny
import HandS.SortRule
import HandS.DictComp
import PyProof.TupleCall
import PyProof.Rows.Range3
import KE.KDictSum
import KE.KDictList
import OpenK.KOps
import HandS.ClsMeth
import PyProof.DictKinds
import PyProof.DictUpdate
import HandS.Iter
import HandS.Walk
import KE.KExcInit
import KE.KExcIs
import KE.KIsAll
import HandS.ForMost
import HandS.Exc
import HandS.ExcInit
import HandS.ExcIs
import HandS.WordsExc
import HandS.ExcField
import HandS.ExcOwn
import HandS.Set
import HandS.SetFor
import HandS.Strs
import PyProof.Rows.SortStr
import PyProof.Walks
import PyProof.WalksMore
import PyProof.Rows.DictTallyStr
import HandS.More
import HandS.WordsDict
import PyProof.Rows.StrMeet
import HandS.Property
import HandS.Text
import HandS.RaiseMore
import PyProof.FactsAll.set_2
import PyProof.FactsAll.subtypes_5
import HandS.OwnEq
import HandS.HeadHook2
import HandS.HeadNt
import HandS.ListItems
import HandS.Style
import KE.KStateDown
import HandS.Head0
import HandS.Head1
import HandS.Head2
import PySem.Challenge.RW_anyofthese_k16_whole_never_later
set_option Elab.async false
set_option linter.all false
set_option maxRecDepth 100000
set_option maxHeartbeats 4000000
/-! Defs and methods called where no text of a container is being made; own operators. -/
namespace E10
open L2 PySem PySem.Spec PyProof.Rows
structure FnG (P : Program) (w : World) (K : PySem.W.Frag) (mg : Str → Option Value) (base : Heap) (k : Nat) (f : Addr) (fd : FuncData) (ps : List Str) (sp : Sp) : Prop where
  few : ∀ {vs H Q E}, sp vs H Q E → vs.length = ps.length
  goes : ∀ {A : Around} {fr : List Env} {s : Shared} {H : Hp} {ar : Args} {us : List Value} {vs : List V} {Q : VK} {E : XK}, A.guards = some [] → Room k A → Env0 P w K mg base A fr s H → BindsTo s fd ar (ps.zip us) → Vals vs us → sp vs H Q E →
    codeAny (model P w) A (.call (.ref f) ar) (CR CX0 fr P w H s Q E) s
section
variable {P : Program} {w : World} {K : PySem.W.Frag} {mg : Str → Option Value} {base : Heap} {k : Nat} {f : Addr} {fd : FuncData} {ps N : List Str} {sp : Sp}
theorem FnG.of (F : FnOk P w K mg base CX0 k f fd ps sp) : FnG P w K mg base k f fd ps sp :=
  ⟨fun {vs H Q E} h => F.len vs H Q E h, fun {A fr s H ar us vs Q E} _ room env b v h => F.run A fr s H ar us vs Q E room env b v h⟩
theorem FnG.mono {j : Nat} (F : FnG P w K mg base j f fd ps sp) (h : j ≤ k) : FnG P w K mg base k f fd ps sp :=
  ⟨F.few, fun {A fr s H ar us vs Q E} g room env b v q => F.goes g (room.mono h) env b v q⟩
theorem Fun.okG {x qual : Str} {st : Stmt} (F : Fun K x qual st f fd) (S : FnScope N ps (defScope st)) (few : ∀ {vs H Q E}, sp vs H Q E → vs.length = ps.length)
    (body : ∀ (cdv : Value) (A : Around) (fr : List Env) (s : Shared) (H : Hp) (vs : List V) (Q : VK) (E : XK), A.guards = some [] → Room k (A.deeper (envOfC qual (defScope st) s.heap.objs.size f cdv)) → sp vs H Q E →
      ∃ t, PSs (cxOf CX0 P w K mg base N qual (defScope st) f cdv A fr s H E).nox (defBody st) t ∧ t { nx := fun _ H' => Q .non H', rt := Q } (start N vs) H) : FnG P w K mg base (k + 1) f fd ps sp := by
  obtain ⟨oc, od, kV, doc, pm, an, cdv, ct, osl, rfl, lk, code⟩ := F.ex
  refine ⟨few, fun {A fr s H ar us vs Q E} hG room env bind val want => ?_⟩
  have inK : K.In s.heap := env.mod.kin.keeps fun c o e => (env.bs c o e).1
  refine codeAny_call_function room.depth (inK _ _ lk) rfl S.co S.gen rfl (PySem.W.codeRec_of inK code) (bind _ _ _ _ ?_)
  refine wpAny_newFunctionEnv_cells S.kind (fun ⟨n, v⟩ hy => (S.par n (List.of_mem_zip hy).1).elim .inl fun q => .inr ⟨q, PySem.W.cellsFrom_some _ _ _ (.inl q)⟩) fun own same s1 x => ?_
  subst same
  obtain ⟨t, T, wish⟩ := body cdv A fr s H vs Q E hG (room.deeper _) want
  have begun : Inv (cxOf CX0 P w K mg base N qual (defScope st) f cdv A fr s H E) [] (start N vs) H s1 := inv_start S room.hd env (few want) val x
  refine ⟨(env.mod.nolimit.keeps fun c o e => (env.bs c o e).1).keeps x.toInCall.keep, codeAny_func (wpAny_mono (T.nox.run [] s1 _ H _ begun wish) (fun fl s2 ends => ?_) fun _ _ z => z)⟩
  match fl, ends with
  | .ret _, ⟨v, _, H2, J, rv, q⟩ => exact ⟨v, H2, J.os, J.bare, J.base, J.hok, rv, q⟩
  | .next, ⟨_, H2, J, q⟩ => exact ⟨V.non, H2, J.os, J.bare, J.base, J.hok, rfl, q⟩
  | .brk, ⟨_, _, _, q⟩ => exact q.elim
  | .cont, ⟨_, _, _, q⟩ => exact q.elim
end
/-- the own class C has the def f under the name n -/
structure Has (K : PySem.W.Frag) (C f : Addr) (n : Str) : Prop where
  at_ : PySem.W.findIn K (.ref C) n = some (some (.ref f))
  fn : PySem.W.isFn K (.ref f) = true
section
variable {X : Cx} {A : Around} {E' : Value → Shared → Prop} {pins : List (Addr × Obj)} {σ : L2.St} {H : Hp} {s : Shared} {Q : VK} {us : List Value} {vs : List V} {k : Nat} {f C : Addr} {fd : FuncData} {ps : List Str} {sp : Sp}
theorem run_at (F : FnG X.prog X.w X.K X.mg X.base k f fd ps sp) (fr : A.frames = X.A.frames) (hG : A.guards = some []) (room : Room k A) (bi : Binds X.K fd ps []) (I : Inv X pins σ H s) (r : Vals vs us) (q : sp vs H Q E0) :
    wpAny (model X.prog X.w) A (call (.ref f) us) (EP X pins σ Q) E' s := by
  have n1 : us.length = ps.length := r.length.symm.trans (F.few q)
  have e0 : Env0 X.prog X.w X.K X.mg X.base A X.stack s H := by
    have e := I.env0
    exact ⟨by rw [fr]; exact e.frames, e.mod, e.bs, e.bsz, e.funs, e.frf, e.hok, e.bare⟩
  refine wpAny_call (codeAny_mono (F.goes (ar := ⟨us, []⟩) hG room e0 (by
    have := bi s us I.kIn (by simpa using n1)
    simpa using this) r q) fun res s2 ends => ?_)
  match res, ends with
  | .error _, z => exact z.elim
  | .ok (.ret _), z => exact I.after z
  | .ok .next, z => exact z.elim
  | .ok .brk, z => exact z.elim
  | .ok .cont, z => exact z.elim
theorem cmpBack {u : Value} {s' : Shared} (h : EP X pins σ Q u s') : PySem.W.CmpBack (EP X pins σ Q) u s' := by
  obtain ⟨v, H', I, r, q⟩ := h
  cases u <;> first | exact ⟨v, H', I, r, q⟩ | (cases v <;> first | (obtain ⟨_, e⟩ := r; cases e) | cases r)
/-- a op n: an own object and an int -/
def rOwnI (C : Addr) (sp : Sp) : R2 := fun x y H Q => ∃ (a dx : Addr) (fs : List (Str × V)) (i : Int), x = .ref a ∧ y = .int i ∧ H a = some (.ins C dx fs) ∧ sp [.ref a, .int i] H Q E0
theorem op_ownI {op : Operator} {fo ro rc : Option Value} (F : FnG X.prog X.w X.K X.mg X.base k f fd ps sp) (hG : X.A.guards = some []) (room : Room k X.A) (bi : Binds X.K fd ps []) (hc : PySem.W.selfFirst X.K C = true) (h : Has X.K C f (PySem.dunder op.info.2))
    (hr : PySem.W.findIn X.K (.ref C) (dunderR op.info.2) = some rc) (hp : rc = none ∨ ∃ g : Addr, rc = some (.ref g)) (h1 : PySem.W.findIn X.K (.type "int") (PySem.dunder op.info.2) = some fo) (h2 : PySem.W.findIn X.K (.type "int") (dunderR op.info.2) = some ro)
    (hsub : PySem.W.subIn X.K (.type "int") (.ref C) = some false) : OpR X (binaryOp op) (rOwnI C sp) := by
  intro pins s σ H x y v u Q I rx ry h0
  obtain ⟨a, dx, fs, i, rfl, rfl, ha, q⟩ := h0
  cases (show v = Value.ref a from rx)
  obtain ⟨t, rfl⟩ := (show ∃ t, u = Value.int i t from ry)
  obtain ⟨mA, O, _⟩ := ins_get I.hok ha
  obtain ⟨od, J, _⟩ := O.look
  obtain ⟨m, hF⟩ := I.fr
  refine PySem.W.ksp_binT (T := "int") hF I.ok.mod.kin J rfl hc h.at_ h.fn hr hp h1 h2 hsub ?_
  exact wpAny_mono (run_at (vs := [.ref a, .int i]) F rfl hG room bi I (.cons rfl (.cons ⟨t, rfl⟩ .nil)) q) (fun _ _ z => cmpBack z) fun _ _ z => z
end
end E10

set_option Elab.async false
set_option linter.all false
set_option maxRecDepth 100000
set_option maxHeartbeats 4000000
namespace E10
open L2 PySem PySem.Spec PyProof.Rows
open AutoSeq1 (wpAny_loadPart')
section
variable {prog : Program} {w : World} {A : Around} {E : Value → Shared → Prop} {s : Shared}
theorem try_int_add {i : Int} {t : Tok} {a : Addr} {ox : Obj} {Q : Option Value → Shared → Prop} (hx : s.heap.get? a = some ox) (pl : ox.data = .plain) (q : Q none s) : wpAny (model prog w) A (tryMethod (.int i t) (PySem.dunder "add") (.ref a)) Q E s := by
  unfold tryMethod
  refine wpAny_bind (wpAny_callSpecial?_slot (typeIs_int s i t) F.slot_int_add (wpAny_call (codeAny_call_builtin F.slot_int_add.plain F.entry_int_add (F.slot_int_add.check _ _ _ _ _ _ _ _ (typeIs_int s i t) (F.args_int_add_2 _ _) ?_))))
  obtain ⟨c, d, dt, sl⟩ := ox
  obtain rfl : dt = .plain := pl
  obtain ⟨hp, g, dr, tk, os⟩ := s
  have hx' : hp.get? a = some ⟨c, d, .plain, sl⟩ := hx
  wp_walk using wpAny_loadPart' hx'
  all_goals first | exact wpAny_pure q | exact q | skip
end
end E10

set_option Elab.async false
set_option linter.all false
set_option maxRecDepth 100000
set_option maxHeartbeats 4000000
namespace E10
open L2 PySem PySem.Spec PyProof.Rows
section
variable {X : Cx} {k : Nat} {f fr C : Addr} {fd : FuncData} {ps : List Str} {sp : Sp}
/-- n + a: an int and an own object -/
def rIOwn (C : Addr) (sp : Sp) : R2 := fun x y H Q => ∃ (a dx : Addr) (fs : List (Str × V)) (i : Int), x = .int i ∧ y = .ref a ∧ H a = some (.ins C dx fs) ∧ sp [.ref a, .int i] H Q E0
theorem op_iown {fo ro : Option Value} (F : FnG X.prog X.w X.K X.mg X.base k f fd ps sp) (hG : X.A.guards = some []) (room : Room k X.A) (bi : Binds X.K fd ps []) (hc : PySem.W.selfFirst X.K C = true) (ha : PySem.W.findIn X.K (.ref C) (PySem.dunder "add") = some (some (.ref fr))) (h : Has X.K C f (dunderR "add"))
    (h1 : PySem.W.findIn X.K (.type "int") (PySem.dunder "add") = some fo) (h2 : PySem.W.findIn X.K (.type "int") (dunderR "add") = some ro) (h3 : ((fo.isSome && !isSeqSlot fo) || (ro.isSome && !isSeqSlot ro)) = true)
    (hsub : PySem.W.subIn X.K (.ref C) (.type "int") = some false) : OpR X (binaryOp .Add) (rIOwn C sp) := by
  intro pins s σ H x y v u Q I rx ry h0
  obtain ⟨a, dx, fs, i, rfl, rfl, ea, q⟩ := h0
  cases (show u = Value.ref a from ry)
  obtain ⟨t, rfl⟩ := (show ∃ t, v = Value.int i t from rx)
  obtain ⟨mA, O, _⟩ := ins_get I.hok ea
  obtain ⟨od, J, _⟩ := O.look
  obtain ⟨m, hF⟩ := I.fr
  have KX := I.ok.mod.kin.keeps hF.keep
  obtain ⟨cd, rest, hcd, hm⟩ := PySem.W.ksp_first hc
  have two := PySem.W.ksp_try (E := X.xe) (b := .int i t) KX J h.at_ h.fn (wpAny_mono (run_at (vs := [.ref a, .int i]) F rfl hG room bi I (.cons rfl (.cons ⟨t, rfl⟩ .nil)) q) (fun _ _ z => cmpBack z) fun _ _ z => z)
  have J0 := J
  obtain ⟨hx, hcl, hdt, _⟩ := J0
  obtain ⟨hh, g, d, tt, os⟩ := s
  have one : ∀ {Q : Option Value → Shared → Prop}, Q none ⟨hh, g, d, tt, os⟩ → wpAny (model X.prog X.w) X.A (tryMethod (.int i t) (PySem.dunder "add") (.ref a)) Q X.xe ⟨hh, g, d, tt, os⟩ := fun q => try_int_add hx rfl q
  have L1 : PySem.W.Looks (model X.prog X.w) hh (typeOf (.int i t)) (.type "int") := PySem.W.Looks.of_pure rfl
  have L2 : PySem.W.Looks (model X.prog X.w) hh (typeOf (.ref a)) (.ref C) := J.type
  have L3 : PySem.W.Looks (model X.prog X.w) hh (fillsNumberSlot (.type "int") "add") true := by
    have z := PySem.W.ksp_fillsT (M := model X.prog X.w) (nm := "add") KX h1 h2
    rw [h3] at z
    exact z
  have L4 : PySem.W.Looks (model X.prog X.w) hh (fillsNumberSlot (.ref C) "add") true := PySem.W.fills_K KX hcd hm ha
  have L5 : PySem.W.Looks (model X.prog X.w) hh (isSubtype (.ref C) (.type "int")) false := PySem.W.looks_subIn KX hsub
  have L6 : PySem.W.Looks (model X.prog X.w) hh (numberSlotInPython (.type "int") "add") false := PySem.W.Looks.of_pure rfl
  have hne : (Value.type "int" == Value.ref C) = false := Bool.eq_false_iff.mpr fun q => by cases beq_iff_eq.mp q
  have hi : Operator.info .Add = ("+", "add") := rfl
  simp only [binaryOp, hi]
  refine wpAny_holding (wpAny_bind ?_)
  unfold binaryOp1
  refine wpAny_bind (L1.at (wpAny_bind (L2.at (wpAny_bind (L3.at ?_)))))
  simp only [hne, Bool.false_eq_true, if_false]
  repeat ((fail_if_success (with_reducible show wpAny _ _ (tryMethod _ _ _) _ _ _)); lk)
  refine one ?_
  repeat ((fail_if_success (with_reducible show wpAny _ _ (tryMethod _ _ _) _ _ _)); lk)
  refine wpAny_mono two (fun r s' hr' => ?_) fun _ _ e => e
  obtain ⟨v, rfl, hq⟩ := hr'
  repeat ((fail_if_success (with_reducible show wpAny _ _ (tryMethod _ _ _) _ _ _)); lk)
  exact hq
end
end E10

set_option Elab.async false
set_option linter.all false
set_option maxRecDepth 100000
set_option maxHeartbeats 4000000
namespace E10
open L2 PySem PySem.Spec PyProof.Rows
section
variable {X : Cx} {A : Around} {k : Nat} {f C : Addr} {fd : FuncData} {ps : List Str} {sp : Sp}
theorem cmp_at {op : CmpOp} {pins : List (Addr × Obj)} {σ : L2.St} {H : Hp} {s : Shared} {Q : VK} {E' : Value → Shared → Prop} {a dx : Addr} {fs : List (Str × V)} {y : V} {u tb : Value} (F : FnG X.prog X.w X.K X.mg X.base k f fd ps sp) (fr : A.frames = X.A.frames) (hG : A.guards = some []) (room : Room k A) (hu : A.units < cLine)
    (bi : Binds X.K fd ps []) (h : Has X.K C f (cmpInfo op).2.1) (I : Inv X pins σ H s) (ry : RelV y u) (ha : H a = some (.ins C dx fs)) (ty : TyX X.K H y tb) (nf : PySem.W.notFirst X.K C tb = true) (q : sp [.ref a, y] H Q E0) :
    wpAny (model X.prog X.w) A (richCompare op (.ref a) u) (EP X pins σ Q) E' s := by
  obtain ⟨mA, O, _⟩ := ins_get I.hok ha
  obtain ⟨od, J, _⟩ := O.look
  obtain ⟨m, hF⟩ := I.fr
  obtain ⟨P, Z, p, _⟩ := kit_of I ry ty
  refine PySem.W.cmp_K (op := op) (tb := tb) hu hF I.ok.mod.kin J (Z.ty _ _ I.kIn p) nf h.at_ h.fn ?_
  exact wpAny_mono (run_at (vs := [.ref a, y]) F fr hG room bi I (.cons rfl (.cons ry .nil)) q) (fun _ _ z => cmpBack z) fun _ _ z => z
/-- a == y: an own object with an own __eq__, and anything -/
def rEqO (K : PySem.W.Frag) (C : Addr) (sp : Sp) : R2 := fun x y H Q => ∃ (a dx : Addr) (fs : List (Str × V)) (tb : Value), x = .ref a ∧ H a = some (.ins C dx fs) ∧ TyX K H y tb ∧ PySem.W.notFirst K C tb = true ∧ sp [.ref a, y] H Q E0
theorem op_eqO (F : FnG X.prog X.w X.K X.mg X.base k f fd ps sp) (hG : X.A.guards = some []) (room : Room k X.A) (hu : X.A.units < cLine) (bi : Binds X.K fd ps []) (h : Has X.K C f "__eq__") : OpR X (compareOp .Eq) (rEqO X.K C sp) := by
  intro pins s σ H x y v u Q I rx ry h0
  obtain ⟨a, dx, fs, tb, rfl, ha, ty, nf, q⟩ := h0
  cases (show v = Value.ref a from rx)
  exact cmp_at (op := .Eq) F rfl hG room hu bi h I ry ha ty nf q
/-- what an own class has that != goes by its own __eq__ -/
structure NeBy (K : PySem.W.Frag) (C : Addr) : Prop where
  at_ : PySem.W.findIn K (.ref C) "__ne__" = some (some (.builtin "object.__ne__"))
  mro : PySem.W.mroIn K C (.type "object") = some true
  sub : PySem.W.subIn K (.ref C) (.type "object") = some true
/-- a != y -/
def rNeO (K : PySem.W.Frag) (C : Addr) (sp : Sp) : R2 := fun x y H Q => ∃ (a dx : Addr) (fs : List (Str × V)) (tb : Value), x = .ref a ∧ H a = some (.ins C dx fs) ∧ TyX K H y tb ∧ PySem.W.notFirst K C tb = true ∧ sp [.ref a, y] H (fun v H' => ∃ b, v = .bl b ∧ Q (.bl (!b)) H') E0
theorem bind_one : bindSpecial (.builtin "object.__ne__") = fun self => pure (.builtin "object.__ne__", [self]) := funext fun self => PySem.F.cmp_object.ne.bind self
theorem op_neO (F : FnG X.prog X.w X.K X.mg X.base k f fd ps sp) (hG : X.A.guards = some []) (room : Room (k + 1) X.A) (hu : X.A.units + 1 < cLine) (bi : Binds X.K fd ps []) (h : Has X.K C f "__eq__") (n : NeBy X.K C) : OpR X (compareOp .NotEq) (rNeO X.K C sp) := by
  intro pins s σ H x y v u Q I rx ry h0
  obtain ⟨a, dx, fs, tb, rfl, ha, ty, nf, q⟩ := h0
  cases (show v = Value.ref a from rx)
  obtain ⟨mA, O, _⟩ := ins_get I.hok ha
  obtain ⟨od, J, _⟩ := O.look
  have KX := I.kIn
  obtain ⟨P, Z, p, _⟩ := kit_of I ry ty
  have hb := Z.ty (model X.prog X.w) _ I.kIn p
  have inner : wpAny (model X.prog X.w) X.A.in1 (call (.ref f) [.ref a, u]) (EP X pins σ fun v H' => ∃ b, v = .bl b ∧ Q (.bl (!b)) H') X.xe s :=
    run_at (vs := [.ref a, y]) F rfl hG room.in1 bi I (.cons rfl (.cons ry .nil)) q
  have body : ∀ {R : Result → Shared → Prop}, (∀ r s', EP X pins σ Q r s' → R (.ok (.ret r)) s') → (∀ e s', X.xe e s' → R (.error e) s') →
      wpAny (model X.prog X.w) X.A.in1 (Builtin.«object.__ne__» ⟨[.ref a, u], []⟩) (fun fin s' => match fin with | .done f => R (.ok f) s' | .again c' => c'.quiet = true ∧ codeAny (model X.prog X.w) X.A c' R s') (fun e s' => R (.error e) s') s := fun {R} hR hE => by
    unfold Builtin.«object.__ne__»
    repeat (first
      | with_reducible refine wpAny_cRoomFor (show X.A.in1.units < cLine from hu) ?_
      | (refine wpAny_bind (m := callSpecialIfBound? (.ref a) (Str.ofString "__eq__") [u]) (PySem.W.ifBound_K KX J h.at_ h.fn (wpAny_mono inner (fun r s' hr => by
          obtain ⟨v', H', I', rv, b, rfl, q'⟩ := hr
          cases (show r = Value.bool b from rv)
          repeat (first | exact hR _ _ ⟨.bl (!b), H', I', rfl, q'⟩ | exact wpAny_pure (hR _ _ ⟨.bl (!b), H', I', rfl, q'⟩) | (refine wpAny_bind (m := truthy (.bool _)) (wpAny_truthy_bool ?_)) | wp_step)) hE)))
      | wp_step)
  have chk : ∀ {Q' : Unit → Shared → Prop} {E' : Value → Shared → Prop}, Q' () s → wpAny (model X.prog X.w) X.A.in1 (checkBuiltinCall "object.__ne__" ⟨[.ref a, u], []⟩) Q' E' s := fun {Q' E'} q' => by
    simp only [checkBuiltinCall, PySem.F.cmpKind_ne, PySem.F.cmpSplit_ne]
    refine wpAny_bind ?_
    unfold isInstance
    refine wpAny_bind (J.type.here ((PySem.W.looks_subIn KX n.sub).here ?_))
    have ha := PySem.F.cmpArgs_ne (.ref a) u
    cases hsig : Manifest.signature? "object.__ne__" with
    | none => exact wpAny_pure q'
    | some sig =>
      simp only [argsOk, hsig] at ha
      have h2 : Bind.checkArgs "object.__ne__" sig ⟨[.ref a, u], []⟩ = pure () := ha
      show wpAny _ _ (Bind.checkArgs "object.__ne__" sig ⟨[.ref a, u], []⟩) Q' _ _
      rw [h2]
      exact wpAny_pure q'
  have called : wpAny (model X.prog X.w) X.A (call (.builtin "object.__ne__") [.ref a, u]) (EP X pins σ Q) X.xe s :=
    wpAny_call (codeAny_call_builtin PySem.F.cmp_object.ne.plain PySem.F.cmpEntry_ne (chk (body (R := fun r s' => match r with | .ok (.ret v) => EP X pins σ Q v s' | .ok _ => False | .error e => X.xe e s') (fun _ _ z => z) fun _ _ z => z)))
  have once : wpAny (model X.prog X.w) X.A (callSpecialIfBound? (.ref a) "__ne__" [u]) (fun r s' => ∃ v, r = some v ∧ EP X pins σ Q v s') X.xe s := by
    simp only [callSpecialIfBound?, bindSpecialIfBound?]
    refine wpAny_holding (wpAny_bind (wpAny_bind (wpAny_bind (J.type.here ((PySem.W.looks_findIn KX n.at_).here ?_)))))
    refine wpAny_bind (wpAny_askSetting (wpAny_ite ?_))
    simp only [PySem.F.cmp_object.ne.bind]
    have fin : wpAny (model X.prog X.w) X.A (call (.builtin "object.__ne__") ([.ref a] ++ [u]) >>= fun v => pure (some v)) (fun r s' => ∃ v, r = some v ∧ EP X pins σ Q v s') X.xe s :=
      wpAny_bind (wpAny_mono called (fun v s' h' => wpAny_pure ⟨v, rfl, h'⟩) fun _ _ h' => h')
    split
    · exact wpAny_bind (wpAny_pure (wpAny_pure fin))
    · exact wpAny_tryCatch (wpAny_bind (wpAny_pure (wpAny_pure fin)))
  have one : wpAny (model X.prog X.w) X.A (tryCompare (.ref a) "__ne__" u) (fun r s' => ∃ v, r = some v ∧ EP X pins σ Q v s') X.xe s := by
    unfold tryCompare
    refine wpAny_bind (wpAny_mono once (fun r s' z => ?_) fun _ _ e => e)
    obtain ⟨v, rfl, z⟩ := z
    have z' := cmpBack z
    cases v <;> first | exact z'.elim | exact wpAny_pure ⟨_, rfl, z⟩
  show wpAny _ _ (richCompare .NotEq (.ref a) u) _ _ _
  unfold richCompare
  simp only [oneThing_ref]
  refine wpAny_holding (wpAny_bind (wpAny_cRoomFor (Nat.lt_of_succ_lt hu) ?_))
  rw [cmpInfo_NotEq]
  dsimp only
  refine wpAny_bind (J.type.here (wpAny_bind (hb.here ?_)))
  split
  · rename_i z
    have e : PySem.W.subIn X.K tb (.ref C) = some false := by
      rcases Bool.or_eq_true_iff.mp nf with e | e
      · rw [beq_iff_eq.mp e] at z; simp at z
      · exact beq_iff_eq.mp e
    refine wpAny_bind ((PySem.W.looks_subIn KX e).here ?_)
    simp only [Bool.false_eq_true, if_false]
    refine wpAny_bind (wpAny_mono one (fun r s' z => ?_) fun _ _ e => e)
    obtain ⟨v, rfl, hq⟩ := z
    exact wpAny_pure hq
  · refine wpAny_bind (wpAny_pure ?_)
    simp only [Bool.false_eq_true, if_false]
    refine wpAny_bind (wpAny_mono one (fun r s' z => ?_) fun _ _ e => e)
    obtain ⟨v, rfl, hq⟩ := z
    exact wpAny_pure hq
end
end E10

set_option Elab.async false
set_option linter.all false
set_option maxRecDepth 100000
set_option maxHeartbeats 4000000
namespace E10
open L2 PySem PySem.Spec PyProof.Rows
section
variable {X : Cx} {k n : Nat} {f C : Addr} {fd : FuncData} {ps : List Str} {sp : Sp}
/-- repr(a), str(a): an own object by its own def -/
def rTextO (C : Addr) (sp : Sp) : List V → Hp → VK → Prop := fun xs H Q => ∃ (a dx : Addr) (fs : List (Str × V)), xs = [.ref a] ∧ H a = some (.ins C dx fs) ∧ sp [.ref a] H (fun v H' => ∃ z, v = .str z ∧ Q (.str z) H') E0
theorem strBack {pins : List (Addr × Obj)} {σ : L2.St} {Q : VK} {u : Value} {s' : Shared} (h : EP X pins σ (fun v H' => ∃ z, v = .str z ∧ Q (.str z) H') u s') : PySem.W.StrBack (EP X pins σ Q) u s' := by
  obtain ⟨v, H', I, r, z, rfl, q⟩ := h
  obtain ⟨t, rfl⟩ := (show ∃ t, u = Value.str z t from r)
  exact ⟨.str z, H', I, ⟨t, rfl⟩, q⟩
theorem call_reprO (F : FnG X.prog X.w X.K X.mg X.base k f fd ps sp) (hG : X.A.guards = some []) (room : Room (k + 1) X.A) (hu : X.A.units + 1 < cLine) (bi : Binds X.K fd ps []) (h : Has X.K C f "__repr__") : CallR X (.builtin "repr") (rTextO C sp) := by
  intro pins s σ H xs us Q I r h0
  obtain ⟨a, dx, fs, rfl, ha, q⟩ := h0
  obtain ⟨u, rfl, ru⟩ := vals1 r
  cases (show u = Value.ref a from ru)
  obtain ⟨mA, O, _⟩ := ins_get I.hok ha
  obtain ⟨od, J, _⟩ := O.look
  obtain ⟨m, hF⟩ := I.fr
  refine PySem.W.repr_K (show X.A.in1.units < cLine from hu) hF I.ok.mod.kin J h.at_ h.fn ?_
  exact wpAny_mono (run_at (vs := [.ref a]) F rfl hG room.in1 bi I (.cons rfl .nil) q) (fun _ _ z => strBack z) fun _ _ z => z
theorem call_strO (F : FnG X.prog X.w X.K X.mg X.base k f fd ps sp) (hG : X.A.guards = some []) (room : Room (k + 2) X.A) (hu : X.A.units + 2 < cLine) (bi : Binds X.K fd ps []) (h : Has X.K C f "__str__") : CallR X (.type "str") (rTextO C sp) := by
  intro pins s σ H xs us Q I r h0
  obtain ⟨a, dx, fs, rfl, ha, q⟩ := h0
  obtain ⟨u, rfl, ru⟩ := vals1 r
  cases (show u = Value.ref a from ru)
  obtain ⟨mA, O, _⟩ := ins_get I.hok ha
  obtain ⟨od, J, _⟩ := O.look
  refine PySem.W.kso_call (show X.A.in1.in1.units < cLine from hu) I.kIn J h.at_ h.fn ?_
  exact wpAny_mono (run_at (vs := [.ref a]) F rfl hG (Room.in1 (Room.in1 room)) bi I (.cons rfl .nil) q) (fun _ _ z => strBack z) fun _ _ z => z
/-- f(e, ..) of a def that is called where no text of a container is being made -/
theorem pe_callG {x : Str} {e : Expr} {es : List Expr} {t : TA} {p pos : Pos} (F : FnG X.prog X.w X.K X.mg X.base k f fd ps sp) (hG : X.A.guards = some []) (room : Room k X.A) (g : Gl X x) (m : X.mg x = some (.ref f)) (kp : PySem.W.keepIn X.K (.ref f) = true)
    (bi : Binds X.K fd ps []) (ha : PA X (e :: es) t) (hdb : (x == ("__debug__" : Str)) = false := by decide) (he : starEach (e :: es) X.env = (false, eval e X.env) :: starEach es X.env := by rfl) (hpl : (backTo pos (starEach es X.env)).any (·.1) = false := by rfl) :
    PE X (.Call (.Name x p) (e :: es) [] pos) (tCall sp [] E0 t) := by
  refine ⟨fun pins s σ H Q I h => wpAny_Call_Name_kw (ld_glob I g m (PySem.W.callWith_K (h₀ := X.base) I.ok.mod.kin kp (thn (ha.run pos pins s σ H _ I h) fun us s1 ⟨vs, H1, I1, r, q⟩ => ⟨I1.kIn, ?_⟩) he hpl) hdb)⟩
  have q' : sp (vs ++ []) H1 Q E0 := q
  rw [List.append_nil] at q'
  exact run_at F rfl hG room bi I1 r q'
/-! ### an own object, called -/
theorem callO_any {M : Model} {A : Around} {E : Value → Shared → Prop} {s : Shared} {a : Addr} {pos : Pos} {Q : Value → Shared → Prop} {args : List (Bool × Sem Value)} {kws : List (Option Str × Sem Value)} (hplain : (args.any (·.1) || kws.any (·.1.isNone)) = false)
    (h : wpAny M A (evalArgs (.ref a) true args kws) (fun z s₁ => (∃ C ox od, PySem.W.InstAt s₁.heap a ox C od ∧ ox.data = .plain) ∧ wpAny M A (call (.ref a) ([] ++ z.pos) z.kw) Q E s₁) E s) : wpAny M A (callWith pos (.ref a) [] args kws) Q E s := by
  unfold callWith
  refine wpAny_bind (wpAny_holding (wpAny_mono h (fun z s₁ h₁ => wpAny_bind (wpAny_standAt ?_)) fun _ _ y => y))
  obtain ⟨⟨C, ox, od, J, hd⟩, h₁⟩ := h₁
  have L := PySem.W.kco_keeper (M := M) J hd
  simp only [hplain]
  refine wpAny_bind (L.here ?_)
  have tail : ∀ {t : Sem Value}, wpAny M A t Q E s₁ → wpAny M A (t >>= fun r => holding [r] point >>= fun _ => pure r) Q E s₁ :=
    fun ht => wpAny_bind (wpAny_mono ht (fun r s₂ hr => wpAny_bind (wpAny_holding (wpAny_point (wpAny_pure hr)))) fun _ _ y => y)
  exact tail (wpAny_operateT h₁)
theorem run_ofOk (F : FnOk X.prog X.w X.K X.mg X.base CX0 k f fd ps sp) (b : Binds X.K fd ps []) : StX.CallO X.K C f → StX.CallO X.K C f ∧ FnR X.prog X.w X.K X.mg X.base CX0 k f sp := fun c => ⟨c, fun A outer s H us vs Q E hr e0 r q => by
  have n1 : us.length = ps.length := r.length.symm.trans (F.len _ _ _ _ q)
  have inK : X.K.In s.heap := e0.mod.kin.keeps fun c o e => (e0.bs c o e).1
  have bb := b s us inK (by simpa using n1)
  rw [List.append_nil] at bb
  exact F.run A outer s H ⟨us, []⟩ us vs Q E hr e0 bb r q⟩
theorem insC_of {H : Hp} {a dx : Addr} {fs : List (Str × V)} (h : H a = some (.ins C dx fs)) : StX.InsC X H a C := .inr ⟨dx, fs, h⟩
/-- e(e1, ..), e an own object of C whose __call__ is f -/
theorem pe_callOb {fe e : Expr} {es : List Expr} {tf : TE} {t : TA} {pos : Pos} (hf : PE X fe tf) (c : StX.CallO X.K C f) (F : FnOk X.prog X.w X.K X.mg X.base CX0 k f fd ps sp) (b : Binds X.K fd ps []) (hr : Room k X.A) (ha : PA X (e :: es) t)
    (ht : eval (.Call fe (e :: es) [] pos) X.env = (do callWith pos (← eval fe X.env) [] (backTo pos (starEach (e :: es) X.env)) (backToKw pos (keywordEach [] X.env))) := by rfl)
    (he : starEach (e :: es) X.env = (false, eval e X.env) :: starEach es X.env := by rfl) (hpl : (backTo pos (starEach es X.env)).any (·.1) = false := by rfl) : PE X (.Call fe (e :: es) [] pos) (StX.tCallO X C sp E0 tf t) :=
  StX.pe_callO hf c (run_ofOk F b c).2 hr pass0 ha ht he hpl
/-- e(k = e1, ..) -/
def tCallOK (C : Addr) (m : Nat) (sp : Sp) (gV : List V → List V → List V) (tf : TE) (tk : TA) : TE := fun σ H Q => tf σ H fun y H1 => ∃ a, y = V.ref a ∧ tk σ H1 fun zs H2 => (∃ dx fs, H2 a = some (.ins C dx fs)) ∧ zs.length = m ∧ sp (gV [.ref a] zs) H2 Q E0
theorem pe_callObK {fe : Expr} {kws : List Keyword} {ks : List Str} {tf : TE} {tk : TA} {pos : Pos} {g : List Value → List Value → List Value} {gV : List V → List V → List V} (hf : PE X fe tf) (c : StX.CallO X.K C f) (F : FnOk X.prog X.w X.K X.mg X.base CX0 k f fd ps sp) (hb : KBn X.K fd ps 1 ks g gV) (hr : Room k X.A) (hkw : PK X kws tk)
    (ht : eval (.Call fe [] kws pos) X.env = (do callWith pos (← eval fe X.env) [] (backTo pos (starEach [] X.env)) (backToKw pos (keywordEach kws X.env))) := by rfl)
    (hall : (backToKw pos (keywordEach kws X.env)).all (·.1.isSome) = true := by rfl) (hks : (backToKw pos (keywordEach kws X.env)).filterMap (·.1) = ks := by rfl)
    (hpl : ((backTo pos (starEach [] X.env)).any (·.1) || (backToKw pos (keywordEach kws X.env)).any (·.1.isNone)) = false := by rfl) : PE X (.Call fe [] kws pos) (tCallOK C ks.length sp gV tf tk) := by
  refine ⟨fun pins s σ H Q I h => ?_⟩
  rw [ht]
  refine wpAny_bind (thn (hf.run pins s σ H _ I h) fun u s1 ⟨y, H1, I1, ry, a, ey, q⟩ => ?_)
  subst ey
  obtain rfl : u = Value.ref a := ry
  refine callO_any hpl (PyProof.Rows.evalArgs_kw2_nil hall (thn (hkw.run pos pins s1 σ H1 _ I1 q) fun ws s2 ⟨zs, H2, I2, rz, ⟨dx, fs, ha⟩, l2, q2⟩ => ?_))
  rw [hks]
  obtain ⟨ox, od, J, hd⟩ := StX.insC_at I2 (insC_of (X := X) ha)
  refine ⟨⟨C, ox, od, J, hd⟩, wpAny_call (PySem.W.kco_code I2.kIn J hd c.at_ c.fn c.fi ?_)⟩
  refine codeAny_mono (F.run X.A X.stack s2 H2 ⟨[.ref a], ks.zip ws⟩ (g [.ref a] ws) _ Q E0 hr I2.env0 (hb.to s2 [.ref a] ws I2.kIn rfl (rz.length.symm.trans l2)) (hb.rel (vs := [V.ref a]) (.cons rfl .nil) rz) q2) fun res s' hq => ?_
  match res, hq with
  | .error _, z => exact z.elim
  | .ok (.ret _), z => exact I2.after z
  | .ok .next, z => exact z.elim
  | .ok .brk, z => exact z.elim
  | .ok .cont, z => exact z.elim
/-- C(k = e, ..): keywords alone -/
def tMakeK (C : Addr) (m : Nat) (sp : Sp) (gV : List V → List V → List V) (tk : TA) : TE := fun σ H Q => tk σ H fun zs H2 => zs.length = m ∧ ∀ x dx, H2 x = none → H2 dx = none → dx ≠ x → sp (gV [.ref x] zs) (upd (upd H2 dx (.own x)) x (.ins C dx [])) (fun v H3 => v = .non ∧ Q (.ref x) H3) E0
theorem pe_makeK {x : Str} {p pos : Pos} {kws : List Keyword} {ks : List Str} {tk : TA} {g : List Value → List Value → List Value} {gV : List V → List V → List V} (M : Mk X.K C f) (F : FnOk X.prog X.w X.K X.mg X.base CX0 k f fd ps sp) (hr : Room (k + 1) X.A) (hg : Gl X x) (hm : X.mg x = some (.ref C)) (hb : KBn X.K fd ps 1 ks g gV)
    (hkw : PK X kws tk) (hall : (backToKw pos (keywordEach kws X.env)).all (·.1.isSome) = true := by rfl) (hks : (backToKw pos (keywordEach kws X.env)).filterMap (·.1) = ks := by rfl)
    (hdb : (x == ("__debug__" : Str)) = false := by decide) (hpl : ((backTo pos (starEach [] X.env)).any (·.1) || (backToKw pos (keywordEach kws X.env)).any (·.1.isNone)) = false := by rfl) :
    PE X (.Call (.Name x p) [] kws pos) (tMakeK C ks.length sp gV tk) := by
  refine ⟨fun pins s σ H Q I h => ?_⟩
  refine wpAny_Call_Name_kw (ld_glob I hg hm ?_ hdb)
  refine PySem.W.callWith_KW0 (h₀ := X.base) I.ok.mod.kin M.kp hall (thn (hkw.run pos pins s σ H _ I h) fun ws s2 ⟨zs, H2, I2, rz, l2, q2⟩ => ⟨I2.kIn, ?_⟩) hpl
  rw [hks]
  exact run_makeN (n := 0) (us := []) (vs := []) M F hr hb pass0 I2 .nil rz rfl l2 q2
end
end E10

set_option Elab.async false
set_option linter.all false
set_option maxRecDepth 100000
set_option maxHeartbeats 4000000
namespace E10
open L2 PySem PySem.Spec PyProof.Rows Builtin Float
def okF (r : Except String FormatSpec) : FormatSpec := match r with
  | .ok f => f
  | .error _ => { fill := 32, align := 62 }
def plusF : FormatSpec := okF (parseFormatSpec ("+d" : Str).cps.toList "int" 62)
theorem plusF_ok : parseFormatSpec ("+d" : Str).cps.toList "int" 62 = .ok plusF := by
  first | rfl | decide +kernel
theorem plusF_facts : plusF.sign = some 43 ∧ plusF.width = none ∧ plusF.grouping = none ∧ plusF.precision = none ∧ plusF.noNeg0 = false ∧ plusF.alt = false ∧ plusF.fill = 32 ∧ plusF.align = 62 ∧ plusF.type.getD (if ("+d" : Str).cps.back? == some 0 then 0 else 100) = 100 := by
  refine ⟨?_, ?_, ?_, ?_, ?_, ?_, ?_, ?_, ?_⟩ <;> first | rfl | decide +kernel
/-- an int with its sign -/
def plusText (a : Int) : Str := if a < 0 then Str.ofString (toString a) else ("+" : Str) ++ Str.ofString (toString a)
theorem pad_none (n m : Nat) : (-1 - (n : Int) - (m : Int)).toNat = 0 := Int.toNat_eq_zero.mpr (by omega)
theorem plus_text (a : Int) : intSpecText plusF a = plusText a := by
  obtain ⟨hs, hw, hg, _, _, _, hf, ha, _⟩ := plusF_facts
  have hd : ((Nat.toDigits 10 a.natAbs).map fun c => (if (100 : Nat) == 88 then c.toUpper else c).toNat) = (Nat.toDigits 10 a.natAbs).map Char.toNat := by
    refine List.map_congr_left fun c _ => ?_
    rfl
  have hne : ((Nat.toDigits 10 a.natAbs).map Char.toNat).isEmpty = false := by
    have := tDigits_len_ge 10 a.natAbs
    cases h : Nat.toDigits 10 a.natAbs with
    | nil => rw [h] at this; simp at this
    | cons _ _ => rfl
  unfold intSpecText intField'
  rw [hd]
  simp only [hs, hw, hg, hf, ha, hne, show ((32 : Nat) == 48) = false by decide, show ((62 : Nat) == 61) = false by decide, show ((62 : Nat) == 60) = false by decide, show ((62 : Nat) == 94) = false by decide, Bool.false_and, Bool.and_false,
    Bool.false_eq_true, if_false, List.length_nil, List.append_nil, Int.toNat_zero, Nat.zero_sub, List.replicate_zero, List.nil_append]
  have zero : ∀ (l : List Nat) (x : Nat), List.replicate (-1 - ((l.length : Int) + ((0 : Nat) : Int) + ((0 : Nat) : Int)) - (((List.map Char.toNat (Nat.toDigits 10 a.natAbs)).length : Nat) : Int)).toNat x = [] := fun l x => by
    rw [Int.toNat_eq_zero.mpr (by omega)]
    rfl
  by_cases h : a < 0
  · have e : plusText a = ⟨(45 :: (Nat.toDigits 10 a.natAbs).map Char.toNat).toArray⟩ := by
      unfold plusText
      rw [if_pos h]
      obtain ⟨n, rfl⟩ : ∃ n : Nat, a = Int.negSucc n := ⟨a.natAbs - 1, by omega⟩
      have t : Str.ofString (Nat.repr (n + 1)) = ⟨((Nat.toDigits 10 (n + 1)).map Char.toNat).toArray⟩ := text_ofNat (n + 1)
      have s : toString (Int.negSucc n) = "-" ++ Nat.repr (n + 1) := rfl
      rw [Str.ofString_eq_toList] at t
      rw [s, Str.ofString_eq_toList]
      refine Str.ext' ?_
      have t2 := congrArg Str.cps t
      simp only [String.toList_append, Int.natAbs_negSucc, List.map_append] at t2 ⊢
      have t3 := congrArg Array.toList t2
      simp only [List.toList_toArray] at t3
      rw [t3]
      rfl
    rw [e]
    simp only [decide_eq_true h, if_true]
    refine Str.ext' ?_
    rw [zero [45] 32]
    simp
  · have e : plusText a = ⟨(43 :: (Nat.toDigits 10 a.natAbs).map Char.toNat).toArray⟩ := by
      unfold plusText
      rw [if_neg h]
      obtain ⟨n, rfl⟩ := Int.eq_ofNat_of_zero_le (Int.not_lt.mp h)
      have t : Str.ofString (toString (n : Int)) = ⟨((Nat.toDigits 10 n).map Char.toNat).toArray⟩ := text_ofNat n
      rw [t]
      refine Str.ext' ?_
      rw [Str.cps_append]
      simp
      rfl
    rw [e]
    simp only [decide_eq_false h, Bool.false_eq_true, if_false]
    refine Str.ext' ?_
    rw [zero [43] 32]
    simp
section
variable {prog : Program} {w : World} {A : Around} {E : Value → Shared → Prop} {s : Shared}
theorem plus_len {a : Int} (h : a.natAbs.log2 < 1920) : (plusText a).length ≤ sizeLine := by
  have e := int_text_fits h
  unfold plusText
  split
  · exact e
  · rw [strLen_append]
    have e1 : (("+" : String) : Str).length = 1 := rfl
    have e2 := int_text_length_le (k := 1920) (by decide) h
    rw [e1, PySem.ofString_length, sizeLine_eq]
    omega
theorem field_signed {a : Int} {t : Tok} {f : FormatSpec} {Q : Value → Shared → Prop} (hd : a.natAbs.log2 < 1920) (hp : parseFormatSpec ("+d" : Str).cps.toList "int" 62 = .ok f) (hs : f.sign = some 43) (hw : f.width = none) (hgr : f.grouping = none) (hpr : f.precision = none) (hz : f.noNeg0 = false) (hal : f.alt = false)
    (hty : f.type.getD (if ("+d" : Str).cps.back? == some 0 then 0 else 100) = 100) (hlen : (intSpecText f a).length ≤ sizeLine) (h : Q (.str (intSpecText f a) (s.toks + 1)) { s with toks := s.toks + 1 + 1 }) : wpAny (model prog w) A (formatField (.int a t) "+d") Q E s := by
  have hne : ((("+d" : String) : Str).length == 0) = false := by decide
  have hasc : ((("+d" : Str).cps.toList.drop 1).any (· ≥ 128) || (("+d" : Str).cps.getD 0 0 ≥ 128 && !([60, 62, 61, 94] : List Nat).contains (("+d" : Str).cps.getD 1 0))) = false := by decide +kernel
  show wpAny _ _ (holding [.int a t] (pyFormat (.int a t) "+d")) Q E s
  refine wpAny_holding ?_
  unfold pyFormat
  refine wpAny_bind (wpAny_mkStr ?_ (by decide))
  refine wpAny_bind (m := callSpecial? (.int a t) (Str.ofString "__format__") [.str "+d" s.toks]) (wpAny_callSpecial?_slot (name := Str.ofString "__format__") (typeIs_int _ a t) slot_int_format ?_)
  refine wpAny_call (codeAny_call_builtin slot_int_format.plain entry_int_format (slot_int_format.check _ _ _ _ _ _ _ _ (typeIs_int _ a t) (args_int_format _ _) ?_))
  unfold Builtin.«int.__format__»
  simp only [selfAndOne, noKeywords, Int.intOfSelf, asInt?, asStr?, List.isEmpty_nil, if_true, pure_bind, bind_pure, bind_assoc, hne, hasc, Bool.false_eq_true, if_false,
    show (Value.str "+d" s.toks == Value.none) = false from rfl]
  refine wpAny_bind (wpAny_typeNameOf (T := "str") (typeIs_str _ _ _) (by decide) fun _ => ?_)
  first | refine wpAny_bind (wpAny_typeNameOfCut_int ?_) | refine wpAny_bind (wpAny_typeNameOf_int ?_)
  simp only [hp, hty]
  rw [if_pos (by decide)]
  show wpAny _ _ (if _ then _ else _) _ _ _
  rw [if_neg (by simp [hpr])]
  show wpAny _ _ (if _ then _ else _) _ _ _
  rw [if_neg (by simp [hz])]
  show wpAny _ _ (if _ then _ else _) _ _ _
  rw [if_neg (by decide)]
  show wpAny _ _ (do let r ← Builtin.overDigitLimit? a; _) _ _ _
  rw [PySem.overDigitLimit_small hd]
  refine wpAny_bind (wpAny_pure ?_)
  show wpAny _ _ (if _ then _ else _) _ _ _
  rw [if_neg (by simp [hw])]
  show wpAny _ _ (retStr _) _ _ _
  unfold retStr
  refine wpAny_bind (wpAny_mkStr (wpAny_pure ?_) ?hs2)
  case hs2 =>
    simp only [hal, Bool.false_eq_true, if_false, show ((10 : Nat) == 10) = true by decide, if_true]
    conv => lhs; arg 1; whnf
    simp only [intSpecText, intField', hgr, hs, hal, Bool.false_eq_true, if_false, show ((10 : Nat) == 10) = true by decide, if_true] at hlen ⊢
    exact hlen
  dsimp only
  refine wpAny_bind (wpAny_isInstance (typeIs_str _ _ _) isSubtype_str_str (wpAny_pure ?_))
  simp only [hal, Bool.false_eq_true, if_false, show ((10 : Nat) == 10) = true by decide, if_true]
  conv => arg 1; arg 1; whnf
  simp only [intSpecText, intField', hgr, hs, hal, Bool.false_eq_true, if_false, show ((10 : Nat) == 10) = true by decide, if_true] at h ⊢
  exact h
theorem formatField_plus {a : Int} {t : Tok} {Q : Value → Shared → Prop} (hd : a.natAbs.log2 < 1920) (h : Q (.str (plusText a) (s.toks + 1)) { s with toks := s.toks + 1 + 1 }) : wpAny (model prog w) A (formatField (.int a t) "+d") Q E s := by
  obtain ⟨hs, hw, hgr, hpr, hz, hal, hf, hli, hty⟩ := plusF_facts
  rw [← plus_text] at h
  exact field_signed hd plusF_ok hs hw hgr hpr hz hal hty (by rw [plus_text]; exact plus_len hd) h
end
section
variable {X : Cx}
/-- {n:+d} -/
def tFmtP (te : TE) : TE := fun σ H Q => te σ H fun x H1 => ∃ i : Int, x = .int i ∧ i.natAbs.log2 < 1920 ∧ Q (.str (plusText i)) H1
theorem pe_fmtP {e : Expr} {te : TE} {p1 p2 pos : Pos} {j : Nat} (he : PE X e te) : PE X (.FormattedValue e (-1) (some (.JoinedStr [.Constant (.str "+d") j p1] p2)) pos) (tFmtP te) := by
  refine ⟨fun pins s σ H Q I h => ?_⟩
  refine wpAny_FormattedValue_spec (thn (he.run pins s σ H _ I h) fun v s1 hv => ?_)
  obtain ⟨x, H1, I1, r1, i, rfl, hz, q⟩ := hv
  obtain ⟨t, rfl⟩ := (show ∃ t, v = Value.int i t from r1)
  refine wpAny_JoinedStr_one (thn ((pe_str (x := "+d") (j := j) (pos := p1)).run pins s1 σ H1 (fun y H2 => y = .str "+d" ∧ H2 = H1) I1 ⟨rfl, rfl⟩) fun u s2 hu => ?_)
  obtain ⟨y, H2, I2, r2, rfl, rfl⟩ := hu
  obtain ⟨t2, rfl⟩ := (show ∃ t, u = Value.str "+d" t from r2)
  exact ⟨_, t2, rfl, formatField_plus hz ⟨.str (plusText i), _, I2.tok _, ⟨_, rfl⟩, q⟩⟩
end
end E10

set_option Elab.async false
set_option linter.all false
set_option maxRecDepth 100000
set_option maxHeartbeats 4000000
namespace E10
open L2 PySem PySem.Spec PyProof.Rows
/-! ### repr of a list, a dict of small things -/
def tiny : V → Option PyData
  | .non => some .none
  | .bl b => some (.bool b)
  | .int i => if i.natAbs < 10 ^ 70 then some (.int i) else none
  | .str z => if (reprText z).length ≤ 100 then some (.str z) else none
  | _ => none
theorem log_small {i : Int} (h : i.natAbs < 10 ^ 70) : i.natAbs.log2 < 1920 := by
  by_cases z : i.natAbs = 0
  · rw [z]
    decide
  · exact (Nat.log2_lt z).mpr (Nat.lt_of_lt_of_le h (by decide +kernel))
theorem tiny_int {i : Int} {d : PyData} (h : tiny (.int i) = some d) : i.natAbs < 10 ^ 70 ∧ d = .int i := by
  have h' : (if i.natAbs < 10 ^ 70 then some (PyData.int i) else none) = some d := h
  by_cases c : i.natAbs < 10 ^ 70
  · rw [if_pos c] at h'
    exact ⟨c, (Option.some.inj h').symm⟩
  · rw [if_neg c] at h'
    cases h'
theorem tiny_str {z : Str} {d : PyData} (h : tiny (.str z) = some d) : (reprText z).length ≤ 100 ∧ d = .str z := by
  have h' : (if (reprText z).length ≤ 100 then some (PyData.str z) else none) = some d := h
  by_cases c : (reprText z).length ≤ 100
  · rw [if_pos c] at h'
    exact ⟨c, (Option.some.inj h').symm⟩
  · rw [if_neg c] at h'
    cases h'
theorem tiny_ok {x : V} {d : PyData} (h : tiny x = some d) : d.showable = true ∧ d.depth = 0 ∧ d.shown.length ≤ 100 ∧ d.hasDict = false := by
  cases x with
  | non =>
    cases h
    exact ⟨rfl, rfl, by decide, rfl⟩
  | bl b =>
    cases h
    cases b <;> exact ⟨rfl, rfl, by decide, rfl⟩
  | int i =>
    obtain ⟨hi, rfl⟩ := tiny_int h
    refine ⟨decide_eq_true (log_small hi), rfl, ?_, rfl⟩
    show (Str.ofString (toString i)).length ≤ 100
    have e := int_text_length_le10 (k := 70) (by decide) hi
    rw [PyProof.Rows.ofString_len]
    omega
  | str z =>
    obtain ⟨hz, rfl⟩ := tiny_str h
    exact ⟨rfl, rfl, hz, rfl⟩
  | _ => simp [tiny] at h
theorem tiny_reads {h : Heap} {x : V} {d : PyData} {u : Value} (t : tiny x = some d) (r : RelV x u) : Reads h u d [] := by
  cases x with
  | non =>
    cases t
    cases (show u = Value.none from r)
    exact .none
  | bl b =>
    cases t
    cases (show u = Value.bool b from r)
    exact .bool b
  | int i =>
    obtain ⟨_, rfl⟩ := tiny_int t
    obtain ⟨k, rfl⟩ := (show ∃ t, u = Value.int i t from r)
    exact .int i k
  | str z =>
    obtain ⟨_, rfl⟩ := tiny_str t
    obtain ⟨k, rfl⟩ := (show ∃ t, u = Value.str z t from r)
    exact .str z k
  | _ => simp [tiny] at t
abbrev Tiny (x : V) (d : PyData) : Prop := tiny x = some d
abbrev TinyP (p : Key × V) (q : PyData × PyData) : Prop := tiny (kV p.1) = some q.1 ∧ tiny p.2 = some q.2
theorem list_reads {h : Heap} : ∀ {xs : List V} {ds : List PyData} {us : List Value}, Paired Tiny xs ds → Vals xs us → ReadsAll h us ds []
  | _, _, _, .nil, .nil => .nil
  | _, _, _, .cons r t, .cons q k => .cons (as := []) (bs := []) (tiny_reads r q) (list_reads t k)
theorem listLen (ts : List Str) : (listText ts).length ≤ piled ts + 2 := by
  have e1 : ((("[" : String) : Str)).length = 1 := rfl
  have e2 : ((("]" : String) : Str)).length = 1 := rfl
  have e3 : ((("" : String) : Str)).length = 0 := rfl
  cases ts with
  | nil =>
    unfold listText
    rw [strLen_append, e2]
    show (("[" : String) : Str).length + 1 ≤ 0 + 2
    rw [e1]
    decide
  | cons t r =>
    unfold listText
    rw [strLen_append, e2]
    show (textFrom 1 (((("[" : String) : Str) ++ (("" : String) : Str)) ++ t) r).length + 1 ≤ _
    rw [textFrom_length_pos _ _ _ (by decide), strLen_append, strLen_append, e1, e3, piled_cons]
    omega
theorem dictLen (ts : List Str) : (dictText ts).length ≤ piled ts + 2 := by
  have e1 : ((("{" : String) : Str)).length = 1 := rfl
  have e2 : ((("}" : String) : Str)).length = 1 := rfl
  unfold dictText
  rw [strLen_append, strLen_append, e1, e2]
  by_cases h : ts = []
  · subst h
    have : (Str.join ", " []).length = 0 := rfl
    rw [this, piled_nil]
    omega
  · have := join_length_add ts h
    omega
theorem list_ok : ∀ {xs : List V} {ds : List PyData}, Paired Tiny xs ds → PyData.showableAll ds = true ∧ PyData.depthAll ds = 0 ∧ piled (PyData.shownAll ds) ≤ 102 * xs.length ∧ PyData.hasDictAll ds = false
  | _, _, .nil => ⟨rfl, rfl, Nat.zero_le _, rfl⟩
  | _, _, .cons r t => by
    obtain ⟨a1, b1, c1, e1⟩ := tiny_ok r
    obtain ⟨a2, b2, c2, e2⟩ := list_ok t
    refine ⟨?_, ?_, ?_, ?_⟩
    · show (_ && _) = true
      rw [a1, a2]
      rfl
    · show max _ _ = 0
      rw [b1, b2]
      rfl
    · show piled (_ :: _) ≤ _
      rw [piled_cons, List.length_cons]
      omega
    · show (_ || _) = false
      rw [e1, e2]
      rfl
theorem dict_ok : ∀ {ps : List (Key × V)} {qs : List (PyData × PyData)}, Paired TinyP ps qs → PyData.showableKv qs = true ∧ PyData.depthKv qs = 0 ∧ piled (PyData.shownKv qs) ≤ 204 * ps.length
  | _, _, .nil => ⟨rfl, rfl, Nat.zero_le _⟩
  | _, _, @Paired.cons _ _ _ p (kd, vd) l m r t => by
    obtain ⟨a1, b1, c1, _⟩ := tiny_ok r.1
    obtain ⟨a3, b3, c3, _⟩ := tiny_ok r.2
    obtain ⟨a2, b2, c2⟩ := dict_ok t
    refine ⟨?_, ?_, ?_⟩
    · show (_ && _ && _) = true
      rw [a1, a2, a3]
      rfl
    · show max (max _ _) _ = 0
      rw [b1, b2, b3]
      rfl
    · show piled (_ :: _) ≤ _
      have e : ((": " : String) : Str).length = 2 := rfl
      rw [piled_cons, List.length_cons, strLen_append, strLen_append, e]
      have : (kd, vd).1 = kd := rfl
      simp only at c1 c3
      omega
theorem dict_reads {P : Program} {w : World} {h : Heap} : ∀ {ps : List (Key × V)} {qs : List (PyData × PyData)} {vs : List (Key × Value)} {es : List DictEntry}, Paired TinyP ps qs → KV ps vs → Pairs (mixKind P w) es vs →
    ReadsAll h (es.map (·.key)) (qs.map (·.1)) [] ∧ ReadsAll h (es.map (·.val)) (qs.map (·.2)) []
  | _, _, _, _, .nil, .nil, .nil => ⟨.nil, .nil⟩
  | (k, v) :: _, (kd, vd) :: _, (k2, u) :: _, p :: _, .cons r t, .cons e n, .cons i1 i2 i3 => by
    obtain ⟨e1, e2⟩ := e
    simp only at e1 e2
    subst e1
    obtain ⟨a, b⟩ := dict_reads (h := h) t n i3
    have kr : Reads h p.key kd [] := by
      rcases keyIs_shape (show keyIs k p.key = true from i1) with ⟨i, t, e, e'⟩ | ⟨z, t, e, e'⟩
      · subst e
        exact tiny_reads r.1 ⟨t, e'⟩
      · subst e
        exact tiny_reads r.1 ⟨t, e'⟩
    exact ⟨.cons (as := []) (bs := []) kr a, .cons (as := []) (bs := []) (tiny_reads r.2 (show RelV v p.val by rw [i2]; exact e2)) b⟩
section
variable {X : Cx}
/-- repr of a list of small things -/
def rReprL (K : PySem.W.Frag) : List V → Hp → VK → Prop := fun xs H Q => ∃ a ys ds, xs = [.ref a] ∧ H a = some (.lst ys) ∧ ys.length ≤ 40 ∧ Paired Tiny ys ds ∧ Q (.str (PyData.list ds).shown) H
theorem call_reprL (hg : X.A.guards = some []) (hu : X.A.units + 64 < cLine) : CallR X (.builtin "repr") (rReprL X.K) := by
  intro pins s σ H xs us Q I r h
  obtain ⟨a, ys, ds, rfl, ha, hl, hp, q⟩ := h
  obtain ⟨u, rfl, ru⟩ := vals1 r
  cases (show u = Value.ref a from ru)
  obtain ⟨_, its, m, rv, e⟩ := (show ObjOk X.prog X.w H s.heap a (.lst ys) from I.hok a _ ha)
  obtain ⟨o1, o2, o3, o4⟩ := list_ok hp
  have rd : Reads s.heap (.ref a) (.list ds) [a] := .list e rfl rfl (by simpa using list_reads hp rv)
  have hd : (PyData.list ds).depth = 1 := by
    show PyData.depthAll ds + 1 = 1
    rw [o2]
  have lid : (PyData.list ds).shown.length ≤ sizeLine := by
    have l1 := listLen (PyData.shownAll ds)
    show (listText (PyData.shownAll ds)).length ≤ _
    have : (5000 : Nat) ≤ sizeLine := by decide
    omega
  exact repr_of_reads' rd o1 (fun z => absurd (show PyData.hasDictAll ds = true from z) (by rw [o4]; exact Bool.false_ne_true)) hg (by omega) (fun _ _ e => e) (fun h' u tk hk => ⟨.str (PyData.list ds).shown, H, I.kept (t' := tk) hk, ⟨u, rfl⟩, q⟩) lid
/-- repr of a dict of small things -/
def rReprD : List V → Hp → VK → Prop := fun xs H Q => ∃ a ys ds, xs = [.ref a] ∧ H a = some (.dK ys) ∧ ys.length ≤ 40 ∧ Paired TinyP ys ds ∧ Q (.str (PyData.dict ds).shown) H
theorem call_reprD (hg : X.A.guards = some []) (hu : X.A.units + 64 < cLine) : CallR X (.builtin "repr") rReprD := by
  intro pins s σ H xs us Q I r h
  obtain ⟨a, ys, ds, rfl, ha, hl, hp, q⟩ := h
  obtain ⟨u, rfl, ru⟩ := vals1 r
  cases (show u = Value.ref a from ru)
  obtain ⟨_, ns, vs, rel, o, es, ep, h1, ex, h3, _, prs, _⟩ := (show ObjOk X.prog X.w H s.heap a (.dK ys) from I.hok a _ ha)
  have na : sysModules ≠ a := fun z => by rw [z] at ns; simp at ns
  obtain ⟨o1, o2, o3⟩ := dict_ok hp
  obtain ⟨r1, r2⟩ := dict_reads (h := s.heap) hp rel prs
  have rd : Reads s.heap (.ref a) (.dict ds) (a :: [] ++ []) := .dict h1 ex.1 h3 r1 r2
  have hd : (PyData.dict ds).depth = 1 := by
    show PyData.depthKv ds + 1 = 1
    rw [o2]
  have lid : (PyData.dict ds).shown.length ≤ sizeLine := by
    have l1 := dictLen (PyData.shownKv ds)
    show (dictText (PyData.shownKv ds)).length ≤ _
    have : (9000 : Nat) ≤ sizeLine := by decide
    omega
  exact repr_of_reads' rd o1 (fun _ => by simp [na]) hg (by omega) (fun _ _ e => e) (fun h' u tk hk => ⟨.str (PyData.dict ds).shown, H, I.kept (t' := tk) hk, ⟨u, rfl⟩, q⟩) lid
end
end E10

set_option Elab.async false
set_option linter.all false
set_option maxRecDepth 100000
set_option maxHeartbeats 4000000
/-! ### sorted of pairs of an int and a text -/
namespace E10
open L2 PySem PySem.Spec PyProof.Rows SrtO Srt
/-- by the ints, then by the texts -/
def ltIS (p q : Int × Str) : Bool := if p.1 = q.1 then decide (p.2.cps.toList < q.2.cps.toList) else decide (p.1 < q.1)
theorem ltIS_iff {p q : Int × Str} : ltIS p q = true ↔ p.1 < q.1 ∨ (p.1 = q.1 ∧ p.2.cps.toList < q.2.cps.toList) := by
  unfold ltIS
  by_cases e : p.1 = q.1
  · rw [if_pos e, decide_eq_true_eq]
    exact ⟨fun h => .inr ⟨e, h⟩, fun h => h.elim (fun z => absurd z (by omega)) (·.2)⟩
  · rw [if_neg e, decide_eq_true_eq]
    exact ⟨fun h => .inl h, fun h => h.elim id fun z => absurd z.1 e⟩
theorem ltIS_no {p q : Int × Str} : ltIS p q = false ↔ ¬ (p.1 < q.1 ∨ (p.1 = q.1 ∧ p.2.cps.toList < q.2.cps.toList)) := by
  rw [← ltIS_iff]
  cases ltIS p q <;> simp
theorem codes_asym {a b : List Nat} (h : a < b) : ¬ b < a := fun z => List.lt_irrefl a (List.lt_trans h z)
theorem codes_tr {a b c : List Nat} (h1 : ¬ b < a) (h2 : ¬ c < b) : ¬ c < a := List.not_lt.mpr (List.le_trans (List.not_lt.mp h1) (List.not_lt.mp h2))
theorem swoIS {α : Type} (k : α → Int × Str) : Swo fun v u => ltIS (k v) (k u) := by
  refine ⟨fun x y h => ltIS_no.mpr fun z => ?_, fun x y z h1 h2 => ltIS_no.mpr fun q => ?_⟩
  · rcases ltIS_iff.mp h with a | ⟨a, b⟩ <;> rcases z with c | ⟨c, d⟩
    · omega
    · omega
    · omega
    · exact codes_asym b d
  · have a := ltIS_no.mp h1
    have b := ltIS_no.mp h2
    have n1 : ¬ (k y).1 < (k x).1 := fun t => a (.inl t)
    have n2 : ¬ (k z).1 < (k y).1 := fun t => b (.inl t)
    rcases q with q | ⟨q, r⟩
    · omega
    · have e1 : (k y).1 = (k x).1 := by omega
      have e2 : (k z).1 = (k y).1 := by omega
      exact codes_tr (fun t => a (.inr ⟨e1, t⟩)) (fun t => b (.inr ⟨e2, t⟩)) r
/-- v is a tuple of this int and this text -/
def IsIS (h : Heap) (v : Value) (x : Int) (y : Str) : Prop := ∃ a o t u n, v = .ref a ∧ h.get? a = some o ∧ o.cls = .type "tuple" ∧ o.data = .seq #[.int x t, .str y u] n
theorem IsIS.keeps {h h' : Heap} {v : Value} {x : Int} {y : Str} (p : IsIS h v x y) (k : ∀ b o, h.get? b = some o → o.cls = .type "tuple" → h'.get? b = some o) : IsIS h' v x y :=
  let ⟨a, o, t, u, n, e, ho, hc, hd⟩ := p
  ⟨a, o, t, u, n, e, k _ _ ho hc, hc, hd⟩
section
variable {prog : Program} {w : World} {A : Around} {E : Value → Shared → Prop} {s : Shared}
theorem cmpIS {vs : List Value} {k : Value → Int × Str} (hp : ∀ v ∈ vs, IsIS s.heap v (k v).1 (k v).2) : Cmp prog w A s (tuples' true) (fun p => p.1 ∈ vs) (lt2 fun v u => ltIS (k v) (k u)) := by
  intro p q hm hm'
  have i1 := hp _ hm
  have i2 := hp _ hm'
  show wpAny (model prog w) A (keyLt' (tuples' true) p.1 q.1) (fun r s' => s' = s ∧ r = ltIS (k p.1) (k q.1)) (fun _ _ => False) s
  unfold ltIS
  generalize (k p.1).1 = x at i1 ⊢
  generalize (k p.1).2 = y at i1 ⊢
  generalize (k q.1).1 = x2 at i2 ⊢
  generalize (k q.1).2 = y2 at i2 ⊢
  obtain ⟨a, o, t, u, n, ea, ho, _, hd⟩ := i1
  obtain ⟨a2, o2, t2, u2, n2, ea2, ho2, _, hd2⟩ := i2
  rw [ea, ea2]
  refine PySem.W.kat_lt ho hd ho2 hd2 (show PySem.W.KatLex prog w A true (decide (2 < 2)) _ [(.int x t, .int x2 t2), (.str y u, .str y2 u2)] 0 s from ?_)
  refine PySem.W.kat_cons (SeqAt.EqAt.int_int x t x2 t2 prog w _ _ (PySem.W.kat_go (fun e1 => ?_) fun e1 => ?_))
  · have ex : x = x2 := by simpa using e1
    refine PySem.W.kat_yes (PySem.W.kat_cons (SeqAt.EqAt.str_str y u y2 u2 prog w _ _ (PySem.W.kat_go (fun e2 => ?_) fun e2 => ?_)))
    · have ey : y = y2 := by simpa using e2
      refine PySem.W.kat_yes (PySem.W.kat_nil ⟨rfl, ?_⟩)
      rw [if_pos ex, ey]
      exact (decide_eq_false (List.lt_irrefl _)).symm
    · refine PySem.W.kat_no (PySem.W.kat_one _ _ (PyProof.Rows.lt_str (show s = s ∧ decide (y.cps.toList < y2.cps.toList) = _ from ⟨rfl, ?_⟩)))
      rw [if_pos ex]
  · have ex : ¬ x = x2 := by simpa using e1
    refine PySem.W.kat_no (oneLt_int ⟨rfl, ?_⟩)
    rw [if_neg ex]
theorem headsIS {h : Heap} : ∀ {vs : List Value}, (∀ v ∈ vs, ∃ x y, IsIS h v x y) → ∃ fs : List Value, PySem.W.KatTups h vs fs ∧ fs.length = vs.length ∧ ∀ f ∈ fs, ∃ x t, f = Value.int x t
  | [], _ => ⟨[], .nil, rfl, nofun⟩
  | v :: r, hp => by
    obtain ⟨fs, f1, f2, f3⟩ := headsIS (vs := r) fun z hm => hp z (.tail _ hm)
    obtain ⟨x, y, a, o, t, u, n, rfl, ho, hc, hd⟩ := hp v (.head _)
    refine ⟨.int x t :: fs, .cons ho hc hd rfl f1, congrArg (· + 1) f2, fun f hm => ?_⟩
    cases hm with
    | head => exact ⟨x, t, rfl⟩
    | tail _ hm => exact f3 f hm
theorem sortableIS {a : Addr} {vs : List Value} {k : Value → Int × Str} (h0 : 0 < vs.length) (hp : ∀ v ∈ vs, IsIS s.heap v (k v).1 (k v).2) (ha : ∀ o, s.heap.get? a = some o → o.cls ≠ .type "tuple") : SortableO prog w A s a vs fun v u => ltIS (k v) (k u) := by
  intro h2 keep
  have hp2 : ∀ v ∈ vs, IsIS h2 v (k v).1 (k v).2 := fun v hm => (hp v hm).keeps fun b o e c => keep b o (fun z => ha o (z ▸ e) c) e
  obtain ⟨fs, f1, f2, f3⟩ := headsIS fun v hm => ⟨_, _, hp2 v hm⟩
  refine ⟨tuples' true, fun Q E hq => PySem.W.kat_kind (T := .type "int") f1 (by omega) (fun f hm => ?_) (by rfl) ?_, cmpIS hp2⟩
  · obtain ⟨x, t, rfl⟩ := f3 f hm
    exact .now
  · rw [show (Value.type "int" != Value.type "tuple") = true by first | decide +kernel | rfl]
    exact hq
end
/-- sorted(xs), xs a list of tuples of an int and a text (k says which) -/
def rSortIS (K : PySem.W.Frag) : List V → Hp → VK → Prop := fun vs H Q => ∃ (a : Addr) (xs : List V) (k : V → Int × Str), vs = [V.ref a] ∧ SqL K H a xs ∧ (∀ x ∈ xs, ∃ t, x = V.ref t ∧ H t = some (.tup [.int (k x).1, .str (k x).2])) ∧
  ∀ ys p, ys.Perm xs → ys.Pairwise (fun x y => ltIS (k y) (k x) = false) → H p = none → Q (.ref p) (upd H p (.lst ys))
theorem call_sortIS {X : Cx} : CallR X (.builtin "sorted") (rSortIS X.K) := by
  intro pins s σ H vs us Q I r h
  obtain ⟨a, xs, k, rfl, hs, hx, q⟩ := h
  obtain ⟨its, rv, hl, hz⟩ := I.list hs
  obtain ⟨u, rfl, ru⟩ := vals1 r
  cases (show u = Value.ref a from ru)
  obtain ⟨e1, e2⟩ := refs_back rv fun x m => let ⟨t, e, _⟩ := hx x m; ⟨t, e⟩
  have hz2 : its.length ≤ sizeLine := rv.length ▸ hz
  have hp : ∀ v ∈ its, IsIS s.heap v (k (backV v)).1 (k (backV v)).2 := fun v hv => by
    obtain ⟨t, rfl⟩ := e2 v hv
    obtain ⟨t2, e, ht⟩ := hx (V.ref t) (e1 ▸ List.mem_map.mpr ⟨_, hv, rfl⟩)
    cases e
    obtain ⟨_, its2, r2, o, ho, hc, n, hd⟩ := I.hok _ _ ht
    obtain ⟨u1, u2, rfl, ⟨t1, rfl⟩, ⟨t2, rfl⟩⟩ := vals2 r2
    exact ⟨t, o, t1, t2, n, rfl, ho, hc, hd⟩
  refine sorted_ord (ltv := fun v u => ltIS (k (backV v)) (k (backV u))) (swoIS fun v => k (backV v)) hl.isList hz2 (fun h2 h₁ d hd kk => ?_) fun out o1 o2 => ?_
  · refine sortableIS (k := fun v => k (backV v)) (s := { s with heap := h₁ }) (by omega) (fun v hm => (hp v hm).keeps fun b o e _ => (kk b o e).2) fun o e c => ?_
    cases (show some o = some (seqObj "list" its.toArray 0) from e.symm.trans hd)
    exact absurd (Value.type.inj c) (by decide)
  · have h3 : ∀ u ∈ out, ∃ a, u = Value.ref a := fun u hu => e2 u (o2.perm.mem_iff.mp hu)
    obtain ⟨n, hn⟩ := sortedAll_at s.heap its out.toArray
    have hb : (out.map backV).Perm xs := e1 ▸ o2.perm.map backV
    refine ⟨.ref _, upd H (s.heap.objs.size + 1) (.lst (out.map backV)), I.laid (t' := s.toks) (fun b o e => sortedAll_old e) (Nat.le_succ _) ⟨?_, out, n, vals_back h3, by simpa using hn⟩, rfl, q _ _ hb (List.pairwise_map.mpr o1) (I.hok.fresh (Nat.le_succ _))⟩
    rw [hb.length_eq]
    exact hz
end E10

set_option Elab.async false
set_option linter.all false
set_option maxRecDepth 100000
set_option maxHeartbeats 4000000
namespace E10
open L2 PySem PySem.Spec PyProof.Rows
/-! ### repr of lists and tuples of small things, one in another -/
def Rdr (K : PySem.W.Frag) (H : Hp) : Nat → V → PyData → Prop
  | 0, x, d => tiny x = some d
  | n + 1, x, d => Rdr K H n x d ∨ (∃ a xs ds, x = .ref a ∧ d = .tuple ds ∧ SqT K H a xs ∧ xs.length ≤ 40 ∧ Paired (Rdr K H n) xs ds) ∨ (∃ a xs ds, x = .ref a ∧ d = .list ds ∧ SqL K H a xs ∧ xs.length ≤ 40 ∧ Paired (Rdr K H n) xs ds)
def bnd : Nat → Nat
  | 0 => 100
  | n + 1 => 40 * (bnd n + 2) + 10
theorem bnd_le (n : Nat) : bnd n ≤ bnd (n + 1) := by
  show _ ≤ 40 * (bnd n + 2) + 10
  omega
theorem bnd_mono {n m : Nat} (h : n ≤ m) : bnd n ≤ bnd m := by
  induction h with
  | refl => exact Nat.le_refl _
  | step _ ih => exact Nat.le_trans ih (bnd_le _)
theorem piled_le {B : Nat} : ∀ {ts : List Str}, (∀ t ∈ ts, t.length ≤ B) → piled ts ≤ ts.length * (B + 2)
  | [], _ => by rw [piled_nil]; exact Nat.zero_le _
  | t :: r, h => by
    have a := h t (.head _)
    have b := piled_le (ts := r) fun z hz => h z (.tail _ hz)
    rw [piled_cons, List.length_cons, Nat.succ_mul]
    omega
theorem tupLen (ts : List Str) : (tupleText ts).length ≤ piled ts + 3 := by
  have e1 : ((("(" : String) : Str)).length = 1 := rfl
  have e2 : ((",)" : String) : Str).length = 2 := rfl
  have e3 : ((")" : String) : Str).length = 1 := rfl
  unfold tupleText
  rw [strLen_append, strLen_append, e1]
  have hj : (Str.join ", " ts).length ≤ piled ts := by
    by_cases h : ts = []
    · subst h
      exact Nat.le_refl 0
    · have := join_length_add ts h
      omega
  split
  · rw [e2]
    omega
  · rw [e3]
    omega
structure RdOk (n : Nat) (d : PyData) : Prop where
  sh : d.showable = true
  dp : d.depth ≤ n
  le : d.shown.length ≤ bnd n
  nd : d.hasDict = false
theorem RdOk.all {K : PySem.W.Frag} {H : Hp} {n : Nat} : ∀ {xs : List V} {ds : List PyData}, Paired (Rdr K H n) xs ds → (∀ x d, Rdr K H n x d → RdOk n d) →
    PyData.showableAll ds = true ∧ PyData.depthAll ds ≤ n ∧ (∀ t ∈ PyData.shownAll ds, t.length ≤ bnd n) ∧ (PyData.shownAll ds).length = xs.length ∧ PyData.hasDictAll ds = false
  | _, _, .nil, _ => ⟨rfl, Nat.zero_le _, nofun, rfl, rfl⟩
  | _, _, .cons r t, h => by
    obtain ⟨a1, a2, a3, a4⟩ := h _ _ r
    obtain ⟨b1, b2, b3, b4, b5⟩ := RdOk.all t h
    refine ⟨?_, ?_, fun z hz => ?_, ?_, ?_⟩
    · show (_ && _) = true
      rw [a1, b1]
      rfl
    · show max _ _ ≤ n
      omega
    · cases hz with
      | head => exact a3
      | tail _ hz => exact b3 z hz
    · show _ + 1 = _ + 1
      rw [b4]
    · show (_ || _) = false
      rw [a4, b5]
      rfl
theorem Rdr.ok {K : PySem.W.Frag} {H : Hp} : ∀ (n : Nat) {x : V} {d : PyData}, Rdr K H n x d → RdOk n d
  | 0, _, _, h => by
    obtain ⟨a, b, c, e⟩ := tiny_ok h
    exact ⟨a, by omega, c, e⟩
  | n + 1, _, _, h => by
    rcases h with h | ⟨a, xs, ds, rfl, rfl, _, l, p⟩ | ⟨a, xs, ds, rfl, rfl, _, l, p⟩
    · obtain ⟨a, b, c, e⟩ := Rdr.ok n h
      exact ⟨a, by omega, Nat.le_trans c (bnd_le n), e⟩
    · obtain ⟨b1, b2, b3, b4, b5⟩ := RdOk.all p fun _ _ => Rdr.ok n
      have pl := piled_le b3
      have tl := tupLen (PyData.shownAll ds)
      have m : (PyData.shownAll ds).length * (bnd n + 2) ≤ 40 * (bnd n + 2) := Nat.mul_le_mul_right _ (by omega)
      refine ⟨b1, show PyData.depthAll ds + 1 ≤ n + 1 by omega, ?_, b5⟩
      show (tupleText (PyData.shownAll ds)).length ≤ 40 * (bnd n + 2) + 10
      omega
    · obtain ⟨b1, b2, b3, b4, b5⟩ := RdOk.all p fun _ _ => Rdr.ok n
      have pl := piled_le b3
      have tl := listLen (PyData.shownAll ds)
      have m : (PyData.shownAll ds).length * (bnd n + 2) ≤ 40 * (bnd n + 2) := Nat.mul_le_mul_right _ (by omega)
      refine ⟨b1, show PyData.depthAll ds + 1 ≤ n + 1 by omega, ?_, b5⟩
      show (listText (PyData.shownAll ds)).length ≤ 40 * (bnd n + 2) + 10
      omega
section
variable {X : Cx} {pins : List (Addr × Obj)} {σ : L2.St} {H : Hp} {s : Shared}
theorem reads_all {n : Nat} (ih : ∀ {x : V} {d : PyData} {u : Value}, Rdr X.K H n x d → RelV x u → ∃ as, Reads s.heap u d as) : ∀ {xs : List V} {ds : List PyData} {us : List Value}, Paired (Rdr X.K H n) xs ds → Vals xs us → ∃ as, ReadsAll s.heap us ds as
  | _, _, _, .nil, .nil => ⟨_, .nil⟩
  | _, _, _, .cons r t, .cons q k => by
    obtain ⟨_, a⟩ := ih r q
    obtain ⟨_, b⟩ := reads_all ih t k
    exact ⟨_, .cons a b⟩
theorem Rdr.reads (I : Inv X pins σ H s) : ∀ (n : Nat) {x : V} {d : PyData} {u : Value}, Rdr X.K H n x d → RelV x u → ∃ as, Reads s.heap u d as
  | 0, _, _, _, h, r => ⟨_, tiny_reads h r⟩
  | n + 1, _, _, u, h, r => by
    rcases h with h | ⟨a, xs, ds, rfl, rfl, ht, _, p⟩ | ⟨a, xs, ds, rfl, rfl, hl, _, p⟩
    · exact Rdr.reads I n h r
    · cases (show u = Value.ref a from r)
      obtain ⟨its, rv, ⟨o, ho, hc, k, hd⟩, _⟩ := I.tuple ht
      obtain ⟨as, q⟩ := reads_all (fun h r => Rdr.reads I n h r) p rv
      exact ⟨_, .tuple ho hc hd (by simpa using q)⟩
    · cases (show u = Value.ref a from r)
      obtain ⟨its, rv, pl, _⟩ := I.list hl
      obtain ⟨o, ho, hc, k, hd⟩ := pl.isList
      obtain ⟨as, q⟩ := reads_all (fun h r => Rdr.reads I n h r) p rv
      exact ⟨_, .list ho hc hd (by simpa using q)⟩
end
/-- repr of such a list, such a tuple -/
def rReprX (K : PySem.W.Frag) : List V → Hp → VK → Prop := fun xs H Q => ∃ (n : Nat) (a : Addr) (d : PyData), xs = [.ref a] ∧ n ≤ 3 ∧ Rdr K H n (.ref a) d ∧ Q (.str d.shown) H
theorem call_reprX {X : Cx} (hg : X.A.guards = some []) (hu : X.A.units + 64 < cLine) : CallR X (.builtin "repr") (rReprX X.K) := by
  intro pins s σ H xs us Q I r h
  obtain ⟨n, a, d, rfl, hn, hr, q⟩ := h
  obtain ⟨u, rfl, ru⟩ := vals1 r
  cases (show u = Value.ref a from ru)
  obtain ⟨as, rd⟩ := Rdr.reads I n hr (show RelV (.ref a) (.ref a) from rfl)
  obtain ⟨b1, b2, b3, b4⟩ := Rdr.ok n hr
  have lid : d.shown.length ≤ sizeLine := Nat.le_trans b3 (Nat.le_trans (bnd_mono hn) (by decide))
  exact repr_of_reads' rd b1 (fun z => absurd (b4.symm.trans z) Bool.false_ne_true) hg (by omega) (fun _ _ e => e) (fun h' u tk hk => ⟨.str d.shown, H, I.kept (t' := tk) hk, ⟨u, rfl⟩, q⟩) lid
theorem Rdr.up {K : PySem.W.Frag} {H : Hp} {n : Nat} {x : V} {d : PyData} (h : Rdr K H n x d) : Rdr K H (n + 1) x d := .inl h
theorem Rdr.tiny {K : PySem.W.Frag} {H : Hp} {x : V} {d : PyData} (h : tiny x = some d) : ∀ n, Rdr K H n x d
  | 0 => h
  | n + 1 => .inl (Rdr.tiny h n)
theorem Rdr.tup {K : PySem.W.Frag} {H : Hp} {n : Nat} {a : Addr} {xs : List V} {ds : List PyData} (h : SqT K H a xs) (l : xs.length ≤ 40) (p : Paired (Rdr K H n) xs ds) : Rdr K H (n + 1) (.ref a) (.tuple ds) := .inr (.inl ⟨a, xs, ds, rfl, rfl, h, l, p⟩)
theorem Rdr.lst {K : PySem.W.Frag} {H : Hp} {n : Nat} {a : Addr} {xs : List V} {ds : List PyData} (h : SqL K H a xs) (l : xs.length ≤ 40) (p : Paired (Rdr K H n) xs ds) : Rdr K H (n + 1) (.ref a) (.list ds) := .inr (.inr ⟨a, xs, ds, rfl, rfl, h, l, p⟩)
theorem Rdr.sm {K : PySem.W.Frag} {H H' : Hp} (s : ∀ b o, H b = some o → H' b = some o) : ∀ (n : Nat) {x : V} {d : PyData}, Rdr K H n x d → Rdr K H' n x d
  | 0, _, _, h => h
  | n + 1, _, _, h => by
    have pm : ∀ {xs : List V} {ds : List PyData}, Paired (Rdr K H n) xs ds → Paired (Rdr K H' n) xs ds := fun {xs ds} p => by
      induction p with
      | nil => exact .nil
      | cons r _ ih => exact .cons (Rdr.sm s n r) ih
    rcases h with h | ⟨a, xs, ds, e1, e2, ht, l, p⟩ | ⟨a, xs, ds, e1, e2, hl, l, p⟩
    · exact .inl (Rdr.sm s n h)
    · refine .inr (.inl ⟨a, xs, ds, e1, e2, ?_, l, pm p⟩)
      rcases ht with (e | ⟨o, e⟩) | z
      · exact .inl (.inl (s _ _ e))
      · exact .inl (.inr ⟨o, s _ _ e⟩)
      · exact .inr z
    · refine .inr (.inr ⟨a, xs, ds, e1, e2, ?_, l, pm p⟩)
      rcases hl with (e | ⟨o, e⟩) | z
      · exact .inl (.inl (s _ _ e))
      · exact .inl (.inr ⟨o, s _ _ e⟩)
      · exact .inr z
end E10

set_option Elab.async false
set_option linter.all false
set_option maxRecDepth 100000
set_option maxHeartbeats 4000000
namespace E10
open L2 PySem PySem.Spec PyProof.Rows
section
variable {X : Cx} {k n : Nat} {f C : Addr} {fd : FuncData} {ps ks : List Str} {sp : Sp}
/-! ### a method called with keywords alone -/
def tMethKw (C : Addr) (m : Str) (many : Nat) (sp : Sp) (gV : List V → List V → List V) (ta : TE) (tk : TA) : TE := fun σ H Q => ta σ H fun x H1 => ∃ a dx fs, x = .ref a ∧ H1 a = some (.ins C dx fs) ∧ fs.lookup m = none ∧ tk σ H1 fun zs H2 => zs.length = many ∧ sp (gV [x] zs) H2 Q E0
theorem pe_methKw {o : Expr} {m : Str} {kws : List Keyword} {apos pos : Pos} {ta : TE} {tk : TA} {g : List Value → List Value → List Value} {gV : List V → List V → List V} {pl : Sem Bool} (he : PE X o ta) (c : Cls X.K C) (hm : Meth X.K C m f) (F : FnOk X.prog X.w X.K X.mg X.base CX0 k f fd ps sp) (hr : Room k X.A)
    (hb : KBn X.K fd ps 1 ks g gV) (hkw : PK X kws tk) (hall : (backToKw pos (keywordEach kws X.env)).all (·.1.isSome) = true := by rfl) (hks : (backToKw pos (keywordEach kws X.env)).filterMap (·.1) = ks := by rfl)
    (hpl : ((backTo pos (starEach [] X.env)).any (·.1) || (backToKw pos (keywordEach kws X.env)).any (·.1.isNone)) = false := by rfl)
    (ht : eval (.Call (.Attribute o m apos) [] kws pos) X.env = (do
      let ov ← eval o X.env
      standAt apos.atName
      let (f, first) ← holding [ov] (getMethod ov m pl)
      callWith pos f first (backTo pos (starEach [] X.env)) (backToKw pos (keywordEach kws X.env))) := by rfl) : PE X (.Call (.Attribute o m apos) [] kws pos) (tMethKw C m ks.length sp gV ta tk) := by
  refine ⟨fun pins s σ H Q I h => ?_⟩
  refine PySem.W.methodCall_KW (pl := pl) (thn (he.run pins s σ H _ I h) fun u s1 ⟨x, H1, I1, rx, a, dx, fs, ex, ea, l, q⟩ => ?_) ht
  subst ex
  obtain rfl : u = Value.ref a := rx
  refine getmeth_ok I1 ea c hm l ?_
  refine PySem.W.callWith_KW0 (first := [.ref a]) (h₀ := X.base) I.ok.mod.kin hm.kp hall (thn (hkw.run pos pins s1 σ H1 _ I1 q) fun ws s2 ⟨zs, H2, I2, rz, l2, q2⟩ => ⟨I2.kIn, ?_⟩) hpl
  rw [hks]
  exact run_fnN (n := 1) (us := [.ref a]) (vs := [.ref a]) F hr hb pass0 I2 (.cons rfl .nil) rz rfl l2 q2
/-! ### o[i], x in o of an own object -/
def tSubO (C : Addr) (sp : Sp) (ta ti : TE) : TE := fun σ H Q => ta σ H fun x H1 => ti σ H1 fun y H2 => ∃ a dx fs, x = .ref a ∧ H2 a = some (.ins C dx fs) ∧ sp [x, y] H2 Q E0
def rInO (C : Addr) (sp : Sp) (neg : Bool) : R2 := fun x y H Q => ∃ a dx fs, y = .ref a ∧ H a = some (.ins C dx fs) ∧ sp [y, x] H (fun v H' => ∃ b, v = .bl b ∧ Q (.bl (if neg then !b else b)) H') E0
theorem op_inO (F : FnG X.prog X.w X.K X.mg X.base k f fd ps sp) (hG : X.A.guards = some []) (room : Room k X.A) (bi : Binds X.K fd ps []) (h : Has X.K C f "__contains__") : OpR X (compareOp .In) (rInO C sp false) := by
  intro pins s σ H x y v u Q I rx ry h0
  obtain ⟨a, dx, fs, rfl, ha, q⟩ := h0
  cases (show u = Value.ref a from ry)
  obtain ⟨mA, O, _⟩ := ins_get I.hok ha
  obtain ⟨od, J, _⟩ := O.look
  obtain ⟨m, hF⟩ := I.fr
  refine PySem.W.in_K hF I.ok.mod.kin J h.at_ h.fn (wpAny_mono (run_at (vs := [.ref a, x]) F rfl hG room bi I (.cons rfl (.cons rx .nil)) q) (fun r s' hr => ?_) fun _ _ z => z)
  obtain ⟨v', H', I', rv, b, rfl, q'⟩ := hr
  cases (show r = Value.bool b from rv)
  exact wpAny_truthy_bool ⟨.bl b, H', I', rfl, q'⟩
theorem op_notInO (F : FnG X.prog X.w X.K X.mg X.base k f fd ps sp) (hG : X.A.guards = some []) (room : Room k X.A) (bi : Binds X.K fd ps []) (h : Has X.K C f "__contains__") : OpR X (compareOp .NotIn) (rInO C sp true) := by
  intro pins s σ H x y v u Q I rx ry h0
  obtain ⟨a, dx, fs, rfl, ha, q⟩ := h0
  cases (show u = Value.ref a from ry)
  obtain ⟨mA, O, _⟩ := ins_get I.hok ha
  obtain ⟨od, J, _⟩ := O.look
  obtain ⟨m, hF⟩ := I.fr
  refine PySem.W.notIn_K hF I.ok.mod.kin J h.at_ h.fn (wpAny_mono (run_at (vs := [.ref a, x]) F rfl hG room bi I (.cons rfl (.cons rx .nil)) q) (fun r s' hr => ?_) fun _ _ z => z)
  obtain ⟨v', H', I', rv, b, rfl, q'⟩ := hr
  cases (show r = Value.bool b from rv)
  exact wpAny_truthy_bool ⟨.bl (!b), H', I', rfl, q'⟩
theorem pe_ixO {a b : Expr} {ta tb : TE} {pos : Pos} (F : FnG X.prog X.w X.K X.mg X.base k f fd ps sp) (hG : X.A.guards = some []) (room : Room (k + 1) X.A) (bi : Binds X.K fd ps []) (h : Has X.K C f "__getitem__") (fi : PySem.W.fnIn X.K f = true) (ha : PE X a ta) (hb : PE X b tb)
    (hs : ∀ (x : Addr) (i : Value), subscripted b true (.ref x) i = runValue (.builtin "lifetime.subscript" ⟨[.ref x, i], []⟩) := by intro x i; with_unfolding_all rfl) :
    PE X (.Subscript a b pos) (tOp (fun x y H Q => ∃ a dx fs, x = .ref a ∧ H a = some (.ins C dx fs) ∧ sp [x, y] H Q E0) ta tb) := by
  refine ⟨fun pins s σ H Q I h => ?_⟩
  refine Subscript_ (binT ha hb I h fun v u s2 x y H2 I2 rx ry q => ?_)
  obtain ⟨a, dx, fs, rfl, ha, q⟩ := q
  cases (show v = Value.ref a from rx)
  obtain ⟨mA, O, _⟩ := ins_get I2.hok ha
  obtain ⟨od, J, _⟩ := O.look
  obtain ⟨m, hF⟩ := I2.fr
  exact PySem.W.sub_K hF I2.ok.mod.kin J ‹Has X.K C f "__getitem__"›.at_ fi ‹Has X.K C f "__getitem__"›.fn (run_at (vs := [.ref a, y]) F rfl hG room.in1 bi I2 (.cons rfl (.cons ry .nil)) q) (hs a u)
end
end E10

set_option Elab.async false
set_option linter.all false
set_option maxRecDepth 100000
set_option maxHeartbeats 4000000
/-! ### tuple(d): the keys of a dict -/
namespace E10
open L2 PySem PySem.Spec PyProof.Rows
section
variable {prog : Program} {w : World} {A : Around} {E : Value → Shared → Prop} {s : Shared}
theorem meets_tuple_src {d : Addr} {n : Nat} {Pv : Nat → Value → Prop} {OK : Heap → Prop} (KS : PySem.W.KdlSrc prog w "dict" d d n Pv OK) (hn : n ≤ sizeLine) :
    MeetsIn prog w (Builtin.«tuple.__new__» ⟨[.type "tuple", .ref d], []⟩)
      (fun A R s => A.handled = none ∧ OK s.heap ∧ ∀ (h' : Heap) (tk : Nat) (acc : Array Value), (∀ b o, s.heap.get? b = some o → h'.get? b = some o) → ItemsOf Pv acc n →
        R (.ok (.ret (.ref h'.objs.size))) { s with heap := h'.push { cls := .type "tuple", data := .seq acc }, toks := tk }) :=
  .of_wp fun A R s h => by
    obtain ⟨hh, ok, h⟩ := h
    have hsub := PySem.sub_tuple_self
    have hinit := PySem.init_tuple_lookup
    have hmh := PySem.madeHere_tuple
    have hT : s.TypeIs (.ref d) "dict" := KS.type _ ok
    have hh1 : A.in1.handled = none := hh
    have hcol : ∀ {R' : List Value → Shared → Prop} {E' : Value → Shared → Prop}, (∀ (h' : Heap) (tk : Nat) (acc : Array Value), (∀ b o, s.heap.get? b = some o → h'.get? b = some o) → ItemsOf Pv acc n → R' acc.toList { s with heap := h', toks := tk }) → wpAny (model prog w) A.in1 (collect (.ref d)) R' E' s :=
      fun h => PySem.W.kdu_collect KS hh1 ok hn h
    wp_walk using wpAny_typeOf hT, hcol
    intro h' tk acc hk hacc
    show wpAny _ _ (Builtin.Tuple.tupleExact acc.toList.toArray >>= fun v => ret v) _ _ _
    unfold Builtin.Tuple.tupleExact
    refine wpAny_bind (wpAny_newObj_type ?_ (show acc.toList.toArray.size ≤ sizeLine by simp only [Array.toArray_toList]; rw [hacc.1]; exact hn))
    refine wpAny_pure ⟨_, rfl, ?_⟩
    have e : acc.toList.toArray = acc := by simp
    rw [e]
    exact h h' tk acc hk hacc
theorem call_tuple_src {d : Addr} {n : Nat} {Pv : Nat → Value → Prop} {OK : Heap → Prop} {Q : Value → Shared → Prop} (KS : PySem.W.KdlSrc prog w "dict" d d n Pv OK) (hn : n ≤ sizeLine) (hh : A.handled = none) (ok : OK s.heap)
    (h : ∀ (h' : Heap) (tk : Nat) (acc : Array Value), (∀ b o, s.heap.get? b = some o → h'.get? b = some o) → ItemsOf Pv acc n → Q (.ref h'.objs.size) { s with heap := h'.push { cls := .type "tuple", data := .seq acc }, toks := tk }) :
    wpAny (model prog w) A (call (.type "tuple") [.ref d]) Q E s := by
  refine callType_newIn PySem.F.called_tuple (by decide) (PySem.F.typeCall_tuple_1 _) (PySem.F.newCall_tuple_1 _) (fun obj => PySem.F.args_object_init_2 obj _) PySem.F.entry_tuple_new (meets_tuple_src KS hn) ⟨hh, ok, fun h' tk acc hk hacc => ⟨⟨_, Heap.get?_push_size _ rfl, rfl⟩, h h' tk acc hk hacc⟩⟩
end
theorem new_same0 {H : Hp} {p : Addr} {o : HO} (np : H p = none) : Same H (upd H p o) := fun c u e => (upd_ne (ne_of_none e np)).trans e
/-- tuple(d): its keys -/
theorem call_tupleD {X : Cx} (hcalm : X.calm = true) : CallR X (.type "tuple") (fun xs H Q => ∃ (a : Addr) (kvs : List (Key × V)), xs = [.ref a] ∧ Rd H a (.dK kvs) ∧ ∀ p H', H p = none → Same H H' → H' p = some (.tup (kvs.map fun kv => kV kv.1)) → Q (.ref p) H') := by
  intro pins s σ H xs us Q I r q
  obtain ⟨a, kvs, ex, hd, q⟩ := q
  subst ex
  obtain ⟨u, eu, rx⟩ := vals1 r
  subst eu
  cases rx
  obtain ⟨z, lo, vs, rel, dd⟩ := dk_rd I.hok hd
  obtain ⟨ep, hat⟩ := dd.dictAt
  have ek : (kvs.map fun kv => kV kv.1) = vs.map fun p => kV p.1 := by
    have e := congrArg (List.map kV) rel.keys
    rw [List.map_map, List.map_map] at e
    exact e
  refine call_tuple_src (PySem.W.kdl_dict (knd := mixKind X.prog X.w) (kvs := vs) (ep := ep) lo) (by rw [← rel.length]; exact z) (I.ok.hd hcalm) hat fun h' tk acc hk hacc => ?_
  have hv : Vals (vs.map fun p => kV p.1) acc.toList := keys_at (by rw [Array.length_toList]; exact hacc.1) fun j v e => hacc.2 j v (by rw [← Array.getElem?_toList]; exact e)
  have I1 : Inv X pins σ H { s with heap := h', toks := tk } := I.kept (t' := tk) hk
  have I2 : Inv X pins σ (upd H h'.objs.size (.tup (kvs.map fun kv => kV kv.1))) { s with heap := h'.push { cls := .type "tuple", data := .seq acc }, toks := tk } :=
    I1.laid (t' := tk) (fun b o e => Heap.get?_push_of_some _ e) (Nat.le_refl _) (show ObjOk X.prog X.w _ _ _ (.tup (kvs.map fun kv => kV kv.1)) from ⟨by rw [List.length_map]; exact z, acc.toList, by rw [ek]; exact hv, by rw [Array.toArray_toList]; exact IsTup.new _ _⟩)
  have np := I1.hok.fresh (Nat.le_refl _)
  exact ⟨.ref h'.objs.size, _, I2, rfl, q _ _ np (new_same0 np) upd_same⟩
end E10

set_option Elab.async false
set_option linter.all false
set_option maxRecDepth 100000
set_option maxHeartbeats 4000000
/-! ### {d!r} of a dict of small things -/
namespace E10
open L2 PySem PySem.Spec PyProof.Rows
section
variable {X : Cx}
def tFmtRD (te : TE) : TE := fun σ H Q => te σ H fun x H1 => ∃ a ys ds, x = .ref a ∧ H1 a = some (.dK ys) ∧ ys.length ≤ 40 ∧ Paired TinyP ys ds ∧ Q (.str (PyData.dict ds).shown) H1
theorem pe_fmtRD {e : Expr} {te : TE} {pos : Pos} (hg : X.A.guards = some []) (hu : X.A.units + 64 < cLine) (he : PE X e te) : PE X (.FormattedValue e 114 none pos) (tFmtRD te) := by
  refine ⟨fun pins s σ H Q I h => ?_⟩
  refine wpAny_FormattedValue_repr (thn (he.run pins s σ H _ I h) fun v s1 hv => ?_)
  obtain ⟨x, H1, I1, r1, a, ys, ds, rfl, ha, hl, hp, q⟩ := hv
  cases (show v = Value.ref a from r1)
  obtain ⟨_, ns, vs, rel, o, es, ep, h1, ex, h3, _, prs, _⟩ := (show ObjOk X.prog X.w H1 s1.heap a (.dK ys) from I1.hok a _ ha)
  have na : sysModules ≠ a := fun z => by rw [z] at ns; simp at ns
  obtain ⟨o1, o2, o3⟩ := dict_ok hp
  obtain ⟨r1, r2⟩ := dict_reads (h := s1.heap) hp rel prs
  have rd : Reads s1.heap (.ref a) (.dict ds) (a :: [] ++ []) := .dict h1 ex.1 h3 r1 r2
  have hd : (PyData.dict ds).depth = 1 := by
    show PyData.depthKv ds + 1 = 1
    rw [o2]
  have lid : (PyData.dict ds).shown.length ≤ sizeLine := by
    have l1 := dictLen (PyData.shownKv ds)
    show (dictText (PyData.shownKv ds)).length ≤ _
    have : (9000 : Nat) ≤ sizeLine := by decide
    omega
  refine pyReprObj_of_reads rd o1 (fun _ => by simp [na]) hg (by omega) (fun _ _ e => e) (fun h' u tk hk => ?_) lid
  have I2 : Inv X pins σ H1 { s1 with heap := h', toks := tk } := I1.kept (t' := tk) hk
  exact wpAny_formatField_str ⟨.str (PyData.dict ds).shown, H1, I2.tok _, ⟨_, rfl⟩, q⟩ ⟨.str (PyData.dict ds).shown, H1, I2.tok _, ⟨_, rfl⟩, q⟩ lid
end
end E10

set_option Elab.async false
set_option linter.all false
set_option maxRecDepth 100000
set_option maxHeartbeats 4000000
/-! ### len(a), x in a: own objects -/
namespace E10
open L2 PySem PySem.Spec PyProof.Rows
section
variable {X : Cx} {k : Nat} {f C : Addr} {fd : FuncData} {ps : List Str} {sp : Sp}
theorem lenBack {pins : List (Addr × Obj)} {σ : L2.St} {Q : VK} {u : Value} {s' : Shared} (h : EP X pins σ (fun v H' => ∃ n : Nat, v = .int n ∧ n < 2 ^ 62 ∧ Q (.int n) H') u s') : PySem.W.LenBack (EP X pins σ Q) u s' := by
  obtain ⟨v, H', I, r, n, rfl, hn, q⟩ := h
  obtain ⟨t, rfl⟩ := (show ∃ t, u = Value.int n t from r)
  exact ⟨⟨by omega, by omega⟩, .int n, H', I.tok _, ⟨_, rfl⟩, q⟩
def rLenO (C : Addr) (sp : Sp) : List V → Hp → VK → Prop := fun xs H Q => ∃ (a dx : Addr) (fs : List (Str × V)), xs = [.ref a] ∧ H a = some (.ins C dx fs) ∧ sp [.ref a] H (fun v H' => ∃ n : Nat, v = .int n ∧ n < 2 ^ 62 ∧ Q (.int n) H') E0
theorem call_lenO (F : FnG X.prog X.w X.K X.mg X.base k f fd ps sp) (hG : X.A.guards = some []) (room : Room (k + 1) X.A) (bi : Binds X.K fd ps []) (h : Has X.K C f "__len__") : CallR X (.builtin "len") (rLenO C sp) := by
  intro pins s σ H xs us Q I r h0
  obtain ⟨a, dx, fs, rfl, ha, q⟩ := h0
  obtain ⟨u, rfl, ru⟩ := vals1 r
  cases (show u = Value.ref a from ru)
  obtain ⟨mA, O, _⟩ := ins_get I.hok ha
  obtain ⟨od, J, _⟩ := O.look
  obtain ⟨m, hF⟩ := I.fr
  refine PySem.W.len_K hF I.ok.mod.kin J h.at_ h.fn ?_
  exact wpAny_mono (run_at (vs := [.ref a]) F rfl hG room.in1 bi I (.cons rfl .nil) q) (fun _ _ z => lenBack z) fun _ _ z => z
end
end E10

set_option Elab.async false
set_option linter.all false
set_option maxRecDepth 100000
set_option maxHeartbeats 4000000
/-! ### methods where no text of a container is being made; a staticmethod with keywords alone -/
namespace E10
open L2 PySem PySem.Spec PyProof.Rows
section
variable {X : Cx} {k n : Nat} {f C : Addr} {fd : FuncData} {ps ks : List Str} {sp : Sp}
theorem pe_methG {o e : Expr} {es : List Expr} {m : Str} {apos pos : Pos} {ta : TE} {t : TA} {pl : Sem Bool} (he : PE X o ta) (c : Cls X.K C) (hm : Meth X.K C m f) (F : FnG X.prog X.w X.K X.mg X.base k f fd ps sp) (hG : X.A.guards = some []) (hr : Room k X.A) (hb : Binds X.K fd ps []) (ha : PA X (e :: es) t)
    (hst : starEach (e :: es) X.env = (false, eval e X.env) :: starEach es X.env := by rfl) (hpl : (backTo pos (starEach es X.env)).any (·.1) = false := by rfl)
    (ht : eval (.Call (.Attribute o m apos) (e :: es) [] pos) X.env = (do
      let ov ← eval o X.env
      standAt apos.atName
      let (f, first) ← holding [ov] (getMethod ov m pl)
      callWith pos f first (backTo pos (starEach (e :: es) X.env)) (backToKw pos (keywordEach [] X.env))) := by rfl) :
    PE X (.Call (.Attribute o m apos) (e :: es) [] pos) (tMeth C m sp [] E0 ta t) := by
  refine ⟨fun pins s σ H Q I h => ?_⟩
  refine PySem.W.methodCall_KW (pl := pl) (thn (he.run pins s σ H _ I h) fun u s1 ⟨x, H1, I1, rx, a, dx, fs, ex, ea, l, q⟩ => ?_) ht
  subst ex
  obtain rfl : u = Value.ref a := rx
  refine getmeth_ok I1 ea c hm l ?_
  refine PySem.W.callWith_K (first := [.ref a]) (h₀ := X.base) I.ok.mod.kin hm.kp (thn (ha.run pos pins s1 σ H1 _ I1 q) fun us s2 ⟨vs, H2, I2, r, q2⟩ => ⟨I2.kIn, ?_⟩) hst hpl
  have q2' : sp (.ref a :: (vs ++ [])) H2 Q E0 := q2
  rw [List.append_nil] at q2'
  exact run_at (vs := .ref a :: vs) F rfl hG hr hb I2 (.cons rfl r) q2'
theorem pe_meth0G {o : Expr} {m : Str} {apos pos : Pos} {ta : TE} {pl : Sem Bool} (he : PE X o ta) (c : Cls X.K C) (hm : Meth X.K C m f) (F : FnG X.prog X.w X.K X.mg X.base k f fd ps sp) (hG : X.A.guards = some []) (hr : Room k X.A) (hb : Binds X.K fd ps [])
    (ht : eval (.Call (.Attribute o m apos) [] [] pos) X.env = (do
      let ov ← eval o X.env
      standAt apos.atName
      let (f, first) ← holding [ov] (getMethod ov m pl)
      callWith pos f first (backTo pos (starEach [] X.env)) (backToKw pos (keywordEach [] X.env))) := by rfl) :
    PE X (.Call (.Attribute o m apos) [] [] pos) (tMeth C m sp [] E0 ta tNil) := by
  refine ⟨fun pins s σ H Q I h => ?_⟩
  refine PySem.W.methodCall_KW (pl := pl) (thn (he.run pins s σ H _ I h) fun u s1 ⟨x, H1, I1, rx, a, dx, fs, ex, ea, l, q⟩ => ?_) ht
  subst ex
  obtain rfl : u = Value.ref a := rx
  refine getmeth_ok I1 ea c hm l ?_
  exact PySem.W.callWith_K0 (first := [.ref a]) I1.kIn hm.kp (run_at (vs := [.ref a]) F rfl hG hr hb I1 (.cons rfl .nil) q)
theorem run_atN {pins : List (Addr × Obj)} {σ : L2.St} {H : Hp} {s : Shared} {Q : VK} {us ws : List Value} {vs zs : List V} {g : List Value → List Value → List Value} {gV : List V → List V → List V} (F : FnG X.prog X.w X.K X.mg X.base k f fd ps sp) (hG : X.A.guards = some []) (hr : Room k X.A) (hb : KBn X.K fd ps n ks g gV)
    (I : Inv X pins σ H s) (r : Vals vs us) (rz : Vals zs ws) (l1 : vs.length = n) (l2 : zs.length = ks.length) (h : sp (gV vs zs) H Q E0) : wpAny (model X.prog X.w) X.A (call (.ref f) us (ks.zip ws)) (EP X pins σ Q) X.xe s := by
  have r2 := hb.rel r rz
  refine wpAny_call (codeAny_mono (F.goes (ar := ⟨us, ks.zip ws⟩) hG hr I.env0 (hb.to s us ws I.kIn (r.length.symm.trans l1) (rz.length.symm.trans l2)) r2 h) fun r s' hq => ?_)
  match r, hq with
  | .error _, z => exact z.elim
  | .ok (.ret _), z => exact I.after z
  | .ok .next, z => exact z.elim
  | .ok .brk, z => exact z.elim
  | .ok .cont, z => exact z.elim
theorem pe_methKwG {o : Expr} {m : Str} {kws : List Keyword} {apos pos : Pos} {ta : TE} {tk : TA} {g : List Value → List Value → List Value} {gV : List V → List V → List V} {pl : Sem Bool} (he : PE X o ta) (c : Cls X.K C) (hm : Meth X.K C m f) (F : FnG X.prog X.w X.K X.mg X.base k f fd ps sp) (hG : X.A.guards = some []) (hr : Room k X.A)
    (hb : KBn X.K fd ps 1 ks g gV) (hkw : PK X kws tk) (hall : (backToKw pos (keywordEach kws X.env)).all (·.1.isSome) = true := by rfl) (hks : (backToKw pos (keywordEach kws X.env)).filterMap (·.1) = ks := by rfl)
    (hpl : ((backTo pos (starEach [] X.env)).any (·.1) || (backToKw pos (keywordEach kws X.env)).any (·.1.isNone)) = false := by rfl)
    (ht : eval (.Call (.Attribute o m apos) [] kws pos) X.env = (do
      let ov ← eval o X.env
      standAt apos.atName
      let (f, first) ← holding [ov] (getMethod ov m pl)
      callWith pos f first (backTo pos (starEach [] X.env)) (backToKw pos (keywordEach kws X.env))) := by rfl) : PE X (.Call (.Attribute o m apos) [] kws pos) (tMethKw C m ks.length sp gV ta tk) := by
  refine ⟨fun pins s σ H Q I h => ?_⟩
  refine PySem.W.methodCall_KW (pl := pl) (thn (he.run pins s σ H _ I h) fun u s1 ⟨x, H1, I1, rx, a, dx, fs, ex, ea, l, q⟩ => ?_) ht
  subst ex
  obtain rfl : u = Value.ref a := rx
  refine getmeth_ok I1 ea c hm l ?_
  refine PySem.W.callWith_KW0 (first := [.ref a]) (h₀ := X.base) I.ok.mod.kin hm.kp hall (thn (hkw.run pos pins s1 σ H1 _ I1 q) fun ws s2 ⟨zs, H2, I2, rz, l2, q2⟩ => ⟨I2.kIn, ?_⟩) hpl
  rw [hks]
  exact run_atN (n := 1) (us := [.ref a]) (vs := [.ref a]) F hG hr hb I2 (.cons rfl .nil) rz rfl l2 q2
/-- C.m, m a staticmethod -/
structure SMet (K : PySem.W.Frag) (C : Addr) (mc : Value) (m : Str) (p g : Addr) : Prop where
  at_ : PySem.W.findCls K (.ref C) mc m = some (.get (.builtin "staticmethod.__get__") (.ref p) .none (.ref C))
  rc : ∃ rest, PySem.W.recIn K p "staticmethod" = some (.ref g :: rest)
  kp : PySem.W.keepIn K (.ref g) = true
theorem getmethsm_ok {pins : List (Addr × Obj)} {σ : L2.St} {H : Hp} {s : Shared} {p g : Addr} {mc : Value} {m : Str} {A : Around} {E : Value → Shared → Prop} {pl : Sem Bool} {Q : Value × List Value → Shared → Prop} (I : Inv X pins σ H s) (r : ClX.CRead X.K C mc) (k : SMet X.K C mc m p g)
    (h : ∀ s', Inv X pins σ H s' → Q (.ref g, []) s') : wpAny (model X.prog X.w) A (getMethod (.ref C) m pl) Q E s := by
  refine PySem.W.method_cls I.kIn r.ga ?_
  obtain ⟨rest, hp⟩ := k.rc
  refine PySem.W.cls_bind I.kIn r.rd k.at_ ?_
  refine wpAny_call (PySem.W.sm_get (s := { s with toks := s.toks + 1 }) I.kIn hp (PySem.W.handed_on rfl ?_))
  exact h _ (I.tok _)
end
/-! ### keywords into a dict -/
def kwLay (d : Addr) : List (Str × Value) → Sem Unit
  | [] => pure ()
  | (k, v) :: r => nsSet d k v >>= fun _ => kwLay d r
def kwBind (y : Str) (kvs : List (Str × Value)) : Sem (List (Str × Value)) := alloc { cls := .type "dict", data := .dict #[] } >>= fun d => kwLay d kvs >>= fun _ => pure [(y, .ref d)]
section
variable {P : Program} {w : World} {A : Around} {E : Value → Shared → Prop} {s : Shared}
theorem nsSet_dict {d : Addr} {name : Str} {v : Value} {kvs : List (Key × Value)} {Q : Unit → Shared → Prop} (dd : s.heap.DictOf (mixKind P w) d kvs) (new : ∀ p ∈ kvs, p.1 ≠ Sum.inr name)
    (hQ : ∀ h', h'.DictOf (mixKind P w) d (kvs ++ [(Sum.inr name, v)]) → Heap.SameBut d s.heap h' → Q () { s with heap := h', toks := s.toks + 1 }) : wpAny (model P w) A (nsSet d name v) Q E s := fun Γ p r => by
  obtain ⟨o, es, ep, ho, hex, hd, hk, hp, hnd⟩ := dd
  simp only [nsSet, strHash, Sem.wp_bind', Sem.wp_cmd_ask, Sem.wp_pure', Sem.wp_cmd_mkText]
  rw [Sem.wp_loadPart_of (model P w) Γ _ p { s with toks := s.toks + 1 } (o := o) _ ho]
  have shp : ∀ e ∈ es, ∃ k, keyIs k e.key = true ∧ e.hash = (mixKind P w).hash k := hk
  have hany : es.any (·.refKey) = false := by
    rw [Array.any_eq_false']
    intro e he
    obtain ⟨k, h, _⟩ := shp e he
    rcases keyIs_shape h with ⟨i, t, _, e2⟩ | ⟨z, t, _, e2⟩ <;> simp [DictEntry.refKey, e2]
  have hin : ∀ {es' : List DictEntry} {kvs' : List (Key × Value)}, Pairs (mixKind P w) es' kvs' → ∀ e ∈ es', ∃ q ∈ kvs', keyIs q.1 e.key = true := by
    intro es' kvs' h
    induction h with
    | nil => intro e he; cases he
    | cons h1 h2 h3 ih =>
      intro e he
      rcases List.mem_cons.mp he with rfl | he
      · exact ⟨_, .head _, h1⟩
      · obtain ⟨q, hq, z⟩ := ih e he
        exact ⟨q, .tail _ hq, z⟩
  have hno : es.findIdx? (·.key.isStr name) = none := by
    rw [Array.findIdx?_eq_none_iff]
    intro e he
    obtain ⟨q, hq, z⟩ := hin hp e (by simpa using he)
    have ne := new q hq
    rcases keyIs_shape z with ⟨i, t, _, e2⟩ | ⟨y, t, e1, e2⟩
    · simp [e2, Value.isStr]
    · rw [e2]
      have : ¬ y = name := fun c => ne (by rw [e1, c])
      simp [Value.isStr, this]
  simp only [hd, aRefKeyMayBeTheName_eq, aRefKeyMayBeTheNameByArray, hany, Bool.and_false, Bool.false_eq_true, if_false, Sem.wp_cmd_updatePart]
  refine ⟨by rw [ho]; rfl, hQ _ ?_ (Heap.SameBut.update ..)⟩
  obtain ⟨c, dd, dt, sl⟩ := o
  subst hd
  have hh : (if name.cps.isEmpty = true then 0 else reduceHash ((model P w).w.params.strHash name.cps)) = (mixKind P w).hash (Sum.inr name) := rfl
  rw [hh]
  have he : Obj.putName name ((mixKind P w).hash (Sum.inr name)) (Value.str name s.toks) v ⟨c, dd, .dict es ep, sl⟩ = ⟨c, dd, .dict (es.push ⟨(mixKind P w).hash (Sum.inr name), .str name s.toks, v⟩) (ep + 1), sl⟩ := by
    rw [Obj.putName_eq]
    simp only [Obj.putNameByArray, hno]
  refine ⟨_, _, _, Heap.get?_update_self _ ho (by rw [he]; rfl), by rw [he]; exact hex, by rw [he], ?_, ?_, ?_⟩
  · intro e hm
    rcases Array.mem_push.mp hm with hm | rfl
    · exact hk e hm
    · exact ⟨Sum.inr name, by show keyIs (Sum.inr name) (.str name s.toks) = true; simp [keyIs, Value.isStrOf], rfl⟩
  · have app : ∀ {es' : List DictEntry} {kvs' : List (Key × Value)} {e : DictEntry} {q : Key × Value}, Pairs (mixKind P w) es' kvs' → (mixKind P w).is q.1 e.key = true → e.val = q.2 → Pairs (mixKind P w) (es' ++ [e]) (kvs' ++ [q]) := by
      intro es' kvs' e q h h1 h2
      induction h with
      | nil => exact .cons h1 h2 .nil
      | cons a b c ih => exact .cons a b ih
    rw [Array.toList_push]
    exact app hp (by show keyIs (Sum.inr name) (.str name s.toks) = true; simp [keyIs, Value.isStrOf]) rfl
  · rw [List.map_append, List.nodup_append]
    refine ⟨hnd, by simp, fun a ha b hb c => ?_⟩
    have hb' : b = Sum.inr name := by simpa using hb
    obtain ⟨q, hq, rfl⟩ := List.mem_map.mp ha
    exact new q hq (c.trans hb')
theorem kwLay_dict {d : Addr} : ∀ {rows : List (Str × Value)} {kvs : List (Key × Value)} {s : Shared} {Q : Unit → Shared → Prop}, s.heap.DictOf (mixKind P w) d kvs → (kvs.map (fun q : Key × Value => q.1) ++ rows.map (fun r : Str × Value => (Sum.inr r.1 : Key))).Nodup →
    (∀ h' tk, h'.DictOf (mixKind P w) d (kvs ++ rows.map (fun r : Str × Value => ((Sum.inr r.1 : Key), r.2))) → Heap.SameBut d s.heap h' → Q () { s with heap := h', toks := tk }) → wpAny (model P w) A (kwLay d rows) Q E s
  | [], kvs, s, Q, dd, _, hQ => by
    have e : kvs ++ ([] : List (Str × Value)).map (fun r => ((Sum.inr r.1 : Key), r.2)) = kvs := List.append_nil _
    have := hQ s.heap s.toks (by rw [e]; exact dd) ⟨rfl, fun _ _ => rfl⟩
    exact wpAny_pure this
  | (k, v) :: r, kvs, s, Q, dd, nd, hQ => by
    refine wpAny_bind (nsSet_dict dd (fun p hp c => ?_) fun h' dd' sb => ?_)
    · rw [List.map_cons, List.nodup_append] at nd
      exact nd.2.2 _ (List.mem_map.mpr ⟨p, hp, rfl⟩) _ (.head _) c
    · refine kwLay_dict (rows := r) (s := { s with heap := h', toks := s.toks + 1 }) dd' ?_ fun h2 tk dd2 sb2 => ?_
      · rw [List.map_append, List.append_assoc]
        exact nd
      · rw [List.append_assoc] at dd2
        exact hQ h2 tk dd2 ⟨sb2.1.trans sb.1, fun b n => (sb2.2 b n).trans (sb.2 b n)⟩
end
/-- the rows as a dict -/
def kz (ks : List Str) (zs : List V) : List (Key × V) := (ks.zip zs).map fun p => (Sum.inr p.1, p.2)
theorem kz_kv {zs : List V} {ws : List Value} (r : Vals zs ws) : ∀ (ks : List Str), KV (kz ks zs) ((ks.zip ws).map fun r => ((Sum.inr r.1 : Key), r.2)) := by
  induction r with
  | nil => intro ks; cases ks <;> exact .nil
  | cons h _ ih =>
    intro ks
    cases ks with
    | nil => exact .nil
    | cons k ks => exact .cons ⟨rfl, h⟩ (ih ks)
/-- a def of keywords alone -/
structure KwDef (P : Program) (w : World) (K : PySem.W.Frag) (mg : Str → Option Value) (base : Heap) (k : Nat) (f : Addr) (y : Str) (sp : Sp) : Prop where
  ex : ∃ (x qual : Str) (st : Stmt) (N : List Str) (fd : FuncData), Fun K x qual st f fd ∧ FnScope N [y] (defScope st) ∧
    (∀ (ks : List Str), ks.length ≤ 3 → ∀ (kV doc pm : Value) (an : Option Addr) (cdv ct : Value) (ws : List Value), ws.length = ks.length → bindArgs (PySem.W.fnOf x qual (defArgs st) (defBody st) (defScope st) .none kV doc pm an cdv ct) ⟨[], ks.zip ws⟩ = kwBind y (ks.zip ws)) ∧
    (∀ {vs H Q E}, sp vs H Q E → vs.length = 1) ∧
    ∀ (cdv : Value) (A : Around) (fr : List Env) (s : Shared) (H : Hp) (vs : List V) (Q : VK) (E : XK), A.guards = some [] → Room k (A.deeper (envOfC qual (defScope st) s.heap.objs.size f cdv)) → sp vs H Q E →
      ∃ t, PSs (cxOf CX0 P w K mg base N qual (defScope st) f cdv A fr s H E).nox (defBody st) t ∧ t { nx := fun _ H' => Q .non H', rt := Q } (start N vs) H
section
variable {X : Cx} {k : Nat} {f C : Addr} {sp : Sp} {ks : List Str}
theorem kz_len {ks : List Str} {zs : List V} (h : ks.length ≤ 3) : (kz ks zs).length ≤ 3 := by
  unfold kz
  rw [List.length_map, List.length_zip]
  omega
theorem run_kw {pins : List (Addr × Obj)} {σ : L2.St} {H : Hp} {s : Shared} {Q : VK} {y : Str} {zs : List V} {ws : List Value} (D : KwDef X.prog X.w X.K X.mg X.base k f y sp) (hG : X.A.guards = some []) (room : Room (k + 1) X.A) (few : ks.length ≤ 3) (nd : ks.Nodup) (I : Inv X pins σ H s) (r : Vals zs ws) (l : ws.length = ks.length)
    (q : ∀ d H', H d = none → Same H H' → H' d = some (.dK (kz ks zs)) → sp [.ref d] H' Q E0) : wpAny (model X.prog X.w) X.A (call (.ref f) [] (ks.zip ws)) (EP X pins σ Q) X.xe s := by
  obtain ⟨x, qual, st, N, fd, F, S, hbind, len, body⟩ := D.ex
  obtain ⟨oc, od, kV, doc, pm, an, cdv, ct, osl, rfl, lk, code⟩ := F.ex
  have inK := I.kIn
  refine wpAny_call (codeAny_call_function room.depth (inK _ _ lk) rfl S.co S.gen rfl (PySem.W.codeRec_of inK code) ?_)
  rw [hbind ks few kV doc pm an cdv ct ws l]
  unfold kwBind
  have hn := I.hok.fresh (Nat.le_refl s.heap.objs.size)
  have I1 := I.laid (a := s.heap.objs.size) (o := .dK []) (h' := s.heap.push { cls := .type "dict", data := .dict #[] }) (t' := s.toks) (fun _ _ q => Heap.get?_push_of_some _ q) (Nat.le_refl _) (dk_empty s.heap I.big)
  refine wpAny_bind (wpAny_alloc ?_)
  have hm : (s.heap.objs.size == sysModules) = false := beq_eq_false_iff_ne.mpr (Nat.ne_of_gt I.big)
  have dd0 : (s.heap.push { cls := .type "dict", data := .dict #[] }).DictOf (mixKind X.prog X.w) s.heap.objs.size [] := Heap.DictOf.new s.heap
  have ndz : ((([] : List (Key × Value)).map fun q : Key × Value => q.1) ++ (ks.zip ws).map (fun r : Str × Value => (Sum.inr r.1 : Key))).Nodup := by
    have e : (ks.zip ws).map (fun r : Str × Value => (Sum.inr r.1 : Key)) = ks.map Sum.inr := by
      have e2 : (fun r : Str × Value => (Sum.inr r.1 : Key)) = (Sum.inr ∘ Prod.fst) := rfl
      rw [e2, ← List.map_map, List.map_fst_zip (by omega)]
    rw [List.map_nil, List.nil_append, e]
    exact List.pairwise_map.mpr (nd.imp fun h c => h (Sum.inr.inj c))
  refine wpAny_bind (kwLay_dict (s := { s with heap := s.heap.push { cls := .type "dict", data := .dict #[] } }) dd0 ndz fun h' tk dd sb => ?_)
  rw [List.nil_append] at dd
  have he : ∃ q, h'.get? s.heap.objs.size = some q := let ⟨q, _, _, hq, _⟩ := dd; ⟨q, hq⟩
  have I3 : Inv X pins σ (upd (upd H s.heap.objs.size (.dK [])) s.heap.objs.size (.dK (kz ks zs))) { s with heap := h', toks := tk } :=
    d_write (s := { s with heap := s.heap.push { cls := .type "dict", data := .dict #[] } }) I1 (by rw [upd_same]; exact True.intro) sb he (dk_new (Nat.le_trans (kz_len few) (by decide)) hm (kz_kv r ks) dd)
  have want := q s.heap.objs.size (upd (upd H s.heap.objs.size (.dK [])) s.heap.objs.size (.dK (kz ks zs))) hn (fun b o e => by
    have nb := ne_of_none e hn
    rw [upd_ne nb, upd_ne nb]
    exact e) upd_same
  generalize upd (upd H s.heap.objs.size (.dK [])) s.heap.objs.size (.dK (kz ks zs)) = H3 at I3 want
  refine wpAny_pure ?_
  refine wpAny_newFunctionEnv_cells S.kind (fun ⟨n, v⟩ hy => (S.par n (by
    have : n = y := by
      have := List.mem_singleton.mp hy
      exact congrArg Prod.fst this
    rw [this]
    exact .head _)).elim .inl fun q => .inr ⟨q, PySem.W.cellsFrom_some _ _ _ (.inl q)⟩) fun own same s1 x => ?_
  subst same
  have env := I3.env0
  obtain ⟨t, T, wish⟩ := body cdv X.A X.stack { s with heap := h', toks := tk } H3 [.ref s.heap.objs.size] Q E0 hG (room.deeper _) want
  have begun : Inv (cxOf CX0 X.prog X.w X.K X.mg X.base N qual (defScope st) f cdv X.A X.stack { s with heap := h', toks := tk } H3 E0) [] (start N [.ref s.heap.objs.size]) H3 s1 := inv_start (us := [.ref s.heap.objs.size]) S room.hd env rfl (.cons rfl .nil) x
  refine ⟨(env.mod.nolimit.keeps fun c o e => (env.bs c o e).1).keeps x.toInCall.keep, codeAny_func (wpAny_mono (T.nox.run [] s1 _ H3 _ begun wish) (fun fl s2 ends => ?_) fun _ _ z => wpAny_mono z (fun _ _ q => False.elim q) fun _ _ q => False.elim q)⟩
  match fl, ends with
  | .ret _, ⟨v, _, H2, J, rv, q⟩ => exact I3.after ⟨v, H2, J.os, J.bare, J.base, J.hok, rv, q⟩
  | .next, ⟨_, H2, J, q⟩ => exact I3.after ⟨V.non, H2, J.os, J.bare, J.base, J.hok, rfl, q⟩
  | .brk, ⟨_, _, _, q⟩ => exact q.elim
  | .cont, ⟨_, _, _, q⟩ => exact q.elim
/-- C.m(k = v, ..), m a staticmethod of keywords alone -/
def tSKw (m : Nat) (ks : List Str) (sp : Sp) (tk : TA) : TE := fun σ H Q => tk σ H fun zs H1 => zs.length = m ∧ ∀ d H', H1 d = none → Same H1 H' → H' d = some (.dK (kz ks zs)) → sp [.ref d] H' Q E0
theorem pe_skw {o : Expr} {m y : Str} {kws : List Keyword} {apos pos : Pos} {tk : TA} {p : Addr} {mc : Value} {pl : Sem Bool} (he : PE X o (tC (.ref C))) (r : ClX.CRead X.K C mc) (c : SMet X.K C mc m p f) (D : KwDef X.prog X.w X.K X.mg X.base k f y sp) (hG : X.A.guards = some []) (room : Room (k + 1) X.A) (few : ks.length ≤ 3) (nd : ks.Nodup)
    (hkw : PK X kws tk) (hall : (backToKw pos (keywordEach kws X.env)).all (·.1.isSome) = true := by rfl) (hks : (backToKw pos (keywordEach kws X.env)).filterMap (·.1) = ks := by rfl)
    (hpl : ((backTo pos (starEach [] X.env)).any (·.1) || (backToKw pos (keywordEach kws X.env)).any (·.1.isNone)) = false := by rfl)
    (ht : eval (.Call (.Attribute o m apos) [] kws pos) X.env = (do
      let ov ← eval o X.env
      standAt apos.atName
      let (f, first) ← holding [ov] (getMethod ov m pl)
      callWith pos f first (backTo pos (starEach [] X.env)) (backToKw pos (keywordEach kws X.env))) := by rfl) : PE X (.Call (.Attribute o m apos) [] kws pos) (tSKw ks.length ks sp tk) := by
  refine ⟨fun pins s σ H Q I h => ?_⟩
  refine PySem.W.methodCall_KW (pl := pl) (thn (he.run pins s σ H (fun y H1 => y = .ref C ∧ H1 = H) I ⟨rfl, rfl⟩) fun u s1 ⟨x, H1, I1, rx, ex, eh⟩ => ?_) ht
  subst ex eh
  obtain rfl : u = Value.ref C := rx
  refine getmethsm_ok I1 r c fun s2 I2 => ?_
  refine PySem.W.callWith_KW0 (first := []) (h₀ := X.base) I.ok.mod.kin c.kp hall (thn (hkw.run pos pins s2 σ H1 _ I2 h) fun ws s3 ⟨zs, H2, I3, rz, l2, q2⟩ => ⟨I3.kIn, ?_⟩) hpl
  rw [hks]
  exact run_kw D hG room few nd I3 rz (rz.length.symm.trans l2) q2
end
end E10

set_option Elab.async false
set_option linter.all false
set_option maxRecDepth 100000
set_option maxHeartbeats 4000000
/-! ### {**d, k: v} -/
namespace E10
open L2 PySem PySem.Spec PyProof.Rows
section
variable {P : Program} {w : World} {A : Around} {E : Value → Shared → Prop} {s : Shared}
abbrev mk (P : Program) (w : World) := mixKind P w
theorem dictPut_pairs {d : Addr} {kvs : List (Key × Value)} {k : Key} {key v : Value} {Q : Unit → Shared → Prop} (hkey : (mk P w).is k key = true) (hm : s.heap.DictOf (mk P w) d kvs)
    (hQ : ∀ h', h'.DictOf (mk P w) d (stored kvs k v) → Heap.SameBut d s.heap h' → Q () { s with heap := h' })
    (hsz : kvs.length ≤ sizeLine) :
    wpAny (model P w) A (dictPut d ((mk P w).hash k) key v) Q E s := by
  obtain ⟨o, es, ep, ho, hc, hd, hk, hp, hn⟩ := hm
  have hes : es.size ≤ sizeLine := by
    have e1 := hp.length
    have e2 : es.toList.length = es.size := by simp
    omega
  unfold dictPut
  refine wpAny_bind (wpAny_dictFind_of hkey ho hd hk ?_)
  have hidx : (es.findIdx? fun e => (mk P w).is k e.key) = kvs.findIdx? fun kv => decide (kv.1 = k) := by
    rw [← hp.findIdx k]; obtain ⟨l⟩ := es; simp
  cases hi : es.findIdx? fun e => (mk P w).is k e.key with
  | some i =>
    refine wpAny_updateDict ho hd (hQ _ ⟨_, _, ep, Heap.get?_update_self _ ho (Obj.isFreed_of_dict (Obj.data_mapDict hd _)),
      hc.mapDict _, Obj.data_mapDict hd _, hk.modify _ _, ?_, ?_⟩ (Heap.SameBut.update ..))
    · rw [stored, if_pos (any_of_findIdx_some (hidx ▸ hi))]
      have hl : (es.toList.findIdx? fun e => (mk P w).is k e.key) = some i := by rw [← hi]; obtain ⟨l⟩ := es; simp
      have := hp.modify hn hl v
      obtain ⟨l⟩ := es
      simpa using this
    · rw [stored, if_pos (any_of_findIdx_some (hidx ▸ hi)), keys_map_store]; exact hn
  | none =>
    have hnot : k ∉ kvs.map (·.1) := not_mem_of_findIdx_none (hidx ▸ hi)
    have hany : ¬ (kvs.any fun kv => decide (kv.1 = k)) = true := by
      rw [List.any_eq_true]; rintro ⟨kv, hkv, he⟩
      exact hnot (List.mem_map.mpr ⟨kv, hkv, of_decide_eq_true he⟩)
    refine wpAny_updateDictKeys (hz := hes) ho hd (hQ _ ⟨_, _, ep + 1, Heap.get?_update_self _ ho (Obj.isFreed_of_dict (Obj.data_mapDictKeys hd _)),
      hc.mapDictKeys _, Obj.data_mapDictKeys hd _, hk.push hkey _, ?_, ?_⟩ (Heap.SameBut.update ..))
    · rw [stored, if_neg hany]
      have := hp.append hkey ((mk P w).hash k) v
      obtain ⟨l⟩ := es
      simpa using this
    · rw [stored, if_neg hany, List.map_append, List.nodup_append]
      refine ⟨hn, by simp, ?_⟩
      intro a ha b hb
      simp only [List.map_cons, List.map_nil, List.mem_singleton] at hb
      subst hb
      exact fun e => hnot (e ▸ ha)
theorem mergeMapping_plain {d o : Addr} {kvs more : List (Key × Value)} {Q : Unit → Shared → Prop} (hdo : d ≠ o) (hoS : (o == sysModules) = false)
    (hd : s.heap.DictOf (mk P w) d kvs) (ho : s.heap.DictOf (mk P w) o more)
    (hQ : ∀ h', h'.DictOf (mk P w) d (merged kvs more) → h'.DictOf (mk P w) o more → Heap.SameBut d s.heap h' → Q () { s with heap := h' })
    (hsz : kvs.length + more.length ≤ sizeLine) :
    wpAny (model P w) A (mergeMapping d (.ref o) false) Q E s := by
  obtain ⟨od, esd, epd, hod, hcd, hdd, hkd, hpd, hnd⟩ := id hd
  obtain ⟨oo, eso, epo, hoo, hco, hdo', hko, hpo, hno⟩ := id ho
  unfold mergeMapping
  have hlen : more.length = eso.size := by rw [← hpo.length]; simp
  refine wpAny_bind (wpAny_isInstance ho.typeIs isSubtype_dict_dict ?_)
  simp only [if_true]
  refine wpAny_bind (wpAny_specialOf ho.typeIs PySem.F.slot_dict_iter.lookup ?_)
  refine wpAny_bind (wpAny_pure ?_)
  simp only [beq_self_eq_true]
  rw [if_neg (by rw [hoS]; exact Bool.false_ne_true)]
  have e0 : ∀ e ∈ eso.toList, ∀ a, e.key ≠ .ref a := fun e he a z => by
    obtain ⟨k, hk, _⟩ := hko e (by simpa using he)
    rcases keyIs_shape hk with ⟨_, _, _, e2⟩ | ⟨_, _, _, e2⟩ <;> (rw [e2] at z; cases z)
  have none_ : ∀ {Q' : PUnit → Shared → Prop} {F : Value → DictEntry → Sem (ForInStep PUnit)}, Q' PUnit.unit s → wpAny (model P w) A (forIn eso PUnit.unit fun e (_ : PUnit) => (match e.key with
      | .ref a => F (.ref a) e
      | _ => pure (ForInStep.yield PUnit.unit) : Sem (ForInStep PUnit))) Q' E s := fun {Q' F} q => by
    rw [← Array.forIn_toList]
    refine wpAny_forIn_list _ (fun rest _ s' => s' = s ∧ ∀ e ∈ rest, e ∈ eso.toList) _ ?_ ?_ _ _ ⟨rfl, fun e h => h⟩
    · rintro x rest b s' ⟨rfl, hr⟩
      have hx := e0 x (hr x (.head _))
      split
      · rename_i a z
        exact absurd z (hx a)
      · exact wpAny_pure ⟨rfl, fun e h => hr e (.tail _ h)⟩
    · rintro b s' ⟨rfl, _⟩
      exact q
  refine wpAny_bind (wpAny_dictEntries hod hdd ?_)
  split
  refine wpAny_bind (wpAny_dictEntries hoo hdo' ?_)
  refine wpAny_bind (none_ (F := fun v e => do
      let __do_lift ← specialOf e.key (Str.ofString "__eq__")
      if (__do_lift != some (Value.builtin "object.__eq__")) = true then
          if (Array.filter (fun x => x.hash == e.hash) eso).size > 1 then do
            (unsupported "dict.merge-into-an-empty-dict:keys-of-equal-hash" : Sem PUnit)
            pure (ForInStep.yield PUnit.unit)
          else pure (ForInStep.yield PUnit.unit)
        else pure (ForInStep.yield PUnit.unit)) ?_)
  all_goals
    refine wpAny_bind (wpAny_dictEntries hoo hdo' ?_)
    refine wpAny_bind (wpAny_dictEpoch hoo hdo' ?_)
    refine wpAny_bind ?_
    rw [List.range_eq_range']
    refine wpAny_forIn_list _
      (fun rest _ s' => ∃ h' i, s' = { s with heap := h' } ∧ rest = List.range' i (eso.size - i) ∧ i ≤ eso.size ∧ h'.DictOf (mk P w) d (merged kvs (more.take i)) ∧ h'.get? o = some oo ∧ Heap.SameBut d s.heap h')
      _ ?_ ?_ _ _ ⟨s.heap, 0, rfl, by simp, Nat.zero_le _, by simpa [merged] using hd, hoo, Heap.SameBut.refl _ _⟩
    · rintro x rest b s' ⟨h', i, rfl, hr, hi, hd', hoo', hs'⟩
      have hlt : i < eso.size := by
        rcases Nat.lt_or_ge i eso.size with h | h
        · exact h
        · rw [Nat.sub_eq_zero_of_le h] at hr; simp at hr
      obtain ⟨rfl, hrest⟩ : x = i ∧ rest = List.range' (i + 1) (eso.size - (i + 1)) := by
        have e : eso.size - i = (eso.size - (i + 1)) + 1 := by omega
        rw [e, List.range'_succ] at hr
        injection hr with h1 h2
        exact ⟨h1, h2⟩
      refine wpAny_bind (wpAny_dictEntries hoo' hdo' ?_)
      rw [Array.getElem?_eq_getElem hlt]
      obtain ⟨kv, hkv⟩ : ∃ kv, more[x]? = some kv := ⟨more[x]'(by rw [hlen]; exact hlt), List.getElem?_eq_getElem _⟩
      obtain ⟨k, v⟩ := kv
      obtain ⟨hkey, hval⟩ := hpo.get? (e := eso[x]) (by simp [hlt]) hkv
      obtain ⟨k', hkey', hhash⟩ := hko eso[x] (Array.getElem_mem hlt)
      obtain rfl : k' = k := (mk P w).inj _ _ _ hkey' hkey
      show wpAny _ _ (holding [eso[x].key, eso[x].val] (dictPut d eso[x].hash eso[x].key eso[x].val) >>= _) _ _ _
      rw [hhash, hval]
      have hmx : (merged kvs (more.take x)).length ≤ sizeLine := by
        have e1 := merged_length_le kvs (more.take x)
        have e2 : (more.take x).length ≤ more.length := by rw [List.length_take]; omega
        omega
      refine wpAny_bind (wpAny_holding (dictPut_pairs (hsz := hmx) hkey hd' fun h'' hd'' hs'' => ?_))
      have hoo'' : h''.get? o = some oo := (hs''.2 o (Ne.symm hdo)).trans hoo'
      refine wpAny_bind (wpAny_dictEpoch hoo'' hdo' ?_)
      rw [if_neg (by simp)]
      exact wpAny_pure ⟨h'', x + 1, rfl, hrest, hlt, by rw [merged_take_succ kvs more x (k', v) hkv]; exact hd'', hoo'', hs'.trans hs''⟩
    · rintro b s' ⟨h', i, rfl, hr, hi, hd', hoo', hs'⟩
      have hin : i = eso.size := by
        rcases Nat.lt_or_ge i eso.size with h | h
        · have e : eso.size - i = (eso.size - (i + 1)) + 1 := by omega
          rw [e, List.range'_succ] at hr; exact nomatch hr
        · exact Nat.le_antisymm hi h
      refine wpAny_pure (hQ h' ?_ ⟨oo, eso, epo, hoo', hco, hdo', hko, hpo, hno⟩ hs')
      rw [hin, ← hlen, List.take_length] at hd'; exact hd'
theorem merged_nil_kv {kvs : List (Key × V)} {vs : List (Key × Value)} (r : KV kvs vs) : KV (mergeK [] kvs) (merged [] vs) := r.merge .nil
end
section
variable {X : Cx}
/-- {**e, k: v}: the new dict, then another one with the pair, which is merged into the first -/
def tDStar (te tk tv : TE) : TE := fun σ H Q => ∀ d, H d = none → te σ (upd H d (.dK [])) fun x H1 => ∃ (a : Addr) (kvs : List (Key × V)), x = .ref a ∧ Rd H1 a (.dK kvs) ∧ a ≠ d ∧ H1 d = some (.dK []) ∧ kvs.length ≤ 1000 ∧
  ∀ b, upd H1 d (.dK (mergeK [] kvs)) b = none → tk σ (upd (upd H1 d (.dK (mergeK [] kvs))) b (.dK [])) fun y H2 => tv σ H2 fun z H3 => ∃ k, y = kV k ∧ H3 b = some (.dK []) ∧ H3 d = some (.dK (mergeK [] kvs)) ∧ b ≠ d ∧
    Q (.ref d) (upd (upd H3 b (.dK (mergeK [] [(k, z)]))) d (.dK (mergeK (mergeK [] kvs) (mergeK [] [(k, z)]))))
theorem pe_dstar {e k v : Expr} {te tk tv : TE} {pos : Pos} (he : PE X e te) (hk : PE X k tk) (hv : PE X v tv) : PE X (.Dict [none, some k] [e, v] pos) (tDStar te tk tv) := by
  refine ⟨fun pins s σ H Q I q => ?_⟩
  rw [arm_eval_Dict]
  show wpAny _ _ (standAt pos >>= fun _ => dictDisplay [(none, do let x ← eval e X.env; standAt pos; pure x), (some (eval k X.env), do let x ← eval v X.env; standAt pos; pure x)]) _ _ _
  refine wpAny_bind (wpAny_standAt ?_)
  unfold dictDisplay
  simp only [List.forIn_cons, List.forIn_nil, List.isEmpty_nil, if_true, pure_bind, bind_assoc, List.nil_append, List.length_cons, List.length_nil]
  have hn := I.hok.fresh (Nat.le_refl s.heap.objs.size)
  have I1 := I.laid (a := s.heap.objs.size) (o := .dK []) (h' := s.heap.push { cls := .type "dict", data := .dict #[] }) (t' := s.toks) (fun _ _ q => Heap.get?_push_of_some _ q) (Nat.le_refl _) (dk_empty s.heap I.big)
  have q1 := q _ hn
  generalize hd : s.heap.objs.size = d at *
  refine wpAny_bind (wpAny_alloc ?_)
  rw [hd]
  refine wpAny_bind (wpAny_holding ?_)
  refine wpAny_bind (thn (he.run pins _ σ _ _ I1 q1) fun u s2 ⟨x, H2, I2, rx, q2⟩ => ?_)
  obtain ⟨a, kvs, rfl, ra, ad, h2, l2, q2⟩ := q2
  obtain rfl : u = Value.ref a := rx
  refine wpAny_bind (wpAny_standAt (wpAny_pure ?_))
  obtain ⟨z1, sd, vs0, r0, dd⟩ := dk_of I2.hok h2
  cases r0
  obtain ⟨z2, sa, vs, r, da⟩ := dk_rd I2.hok ra
  have lv : vs.length = kvs.length := r.length.symm
  have big : (2000 : Nat) ≤ sizeLine := by decide
  refine wpAny_bind (wpAny_onRaise (wpAny_tryCatch (wpAny_onRaise (wpAny_holding (mergeMapping_plain (Ne.symm ad) sa dd da (fun h3 dd3 da3 sb3 => ?_) (by rw [List.length_nil]; omega))))))
  have lm : (mergeK [] kvs).length ≤ 1000 := by
    have h1 := length_mergeK kvs []
    rw [List.length_nil] at h1
    omega
  have e3 : ∃ o, h3.get? d = some o := let ⟨o, _, _, ho, _⟩ := dd3; ⟨o, ho⟩
  have I3 := d_write (t' := s2.toks) I2 (by rw [h2]; exact True.intro) sb3 e3 (dk_new (H' := upd H2 d (.dK (mergeK [] kvs))) (by omega) sd (r.merge .nil) dd3)
  have c1 : ((0 + 1 : Nat) == 17) = false := by decide
  simp only [c1, Bool.false_eq_true, if_false, List.isEmpty_cons]
  have hb := I3.hok.fresh (Nat.le_refl _)
  have I4 := I3.laid (a := h3.objs.size) (o := .dK []) (h' := h3.push { cls := .type "dict", data := .dict #[] }) (t' := s2.toks) (fun _ _ q => Heap.get?_push_of_some _ q) (Nat.le_refl _) (dk_empty h3 I3.big)
  have q4 := q2 _ hb
  refine wpAny_bind (wpAny_pure ?_)
  refine wpAny_bind (wpAny_pure ?_)
  simp only [Bool.false_eq_true, if_false, List.isEmpty_cons]
  refine wpAny_bind ?_
  refine wpAny_bind (wpAny_holding (wpAny_subDict (knd := mixKind X.prog X.w) (by simp) ?_))
  refine thn ((pps_cons (pos := pos) hk hv pps_nil).run pins _ σ _ (fun ps H4 => match ps with
    | [(y, z)] => ∃ kk, y = kV kk ∧ H4 h3.objs.size = some (.dK []) ∧ H4 d = some (.dK (mergeK [] kvs)) ∧ h3.objs.size ≠ d ∧
      Q (.ref d) (upd (upd H4 h3.objs.size (.dK (mergeK [] [(kk, z)]))) d (.dK (mergeK (mergeK [] kvs) (mergeK [] [(kk, z)]))))
    | _ => False) I4 q4) fun ws s5 ⟨ps, H5, I5, rel, post⟩ => ?_
  match ps, rel, post with
  | [(y, z)], rel, ⟨kk, ey, hB, hD, bd, q5⟩ =>
    subst ey
    obtain ⟨rs, c, rk⟩ := carries_of (P := X.prog) (w := X.w) (kvs := [(kk, z)]) rel
    obtain ⟨zb, sb, vsb, rb, db⟩ := dk_of I5.hok hB
    cases rb
    refine ⟨rs, c, db, fun h6 d6 sb6 => ?_⟩
    have e6 : ∃ o, h6.get? h3.objs.size = some o := let ⟨o, _, _, ho, _⟩ := d6; ⟨o, ho⟩
    have l1 : (mergeK [] [(kk, z)]).length ≤ 1 := by
      have h1 := length_mergeK [(kk, z)] []
      simpa using h1
    have I6 := d_write (t' := s5.toks + ws.length) I5 (by rw [hB]; exact True.intro) sb6 e6 (dk_new (H' := upd H5 h3.objs.size (.dK (mergeK [] [(kk, z)]))) (by omega) sb (rk.merge .nil) d6)
    have hD6 : upd H5 h3.objs.size (.dK (mergeK [] [(kk, z)])) d = some (.dK (mergeK [] kvs)) := (upd_ne (Ne.symm bd)).trans hD
    obtain ⟨zd, sd6, vsd, rd, dd6⟩ := dk_of I6.hok hD6
    obtain ⟨_, _, vse, re, de6⟩ := dk_of I6.hok (show upd H5 h3.objs.size (.dK (mergeK [] [(kk, z)])) h3.objs.size = _ from upd_same)
    have ld : vsd.length = (mergeK [] kvs).length := rd.length.symm
    have le : vse.length = (mergeK [] [(kk, z)]).length := re.length.symm
    refine wpAny_bind (wpAny_onRaise (wpAny_holding (mergeMapping_plain (s := { s5 with heap := h6, toks := s5.toks + ws.length }) (Ne.symm bd) sb dd6 de6 (fun h7 d7 d7b sb7 => ?_) (by omega))))
    refine wpAny_pure (wpAny_pure ?_)
    have e7 : ∃ o, h7.get? d = some o := let ⟨o, _, _, ho, _⟩ := d7; ⟨o, ho⟩
    have l2' := length_mergeK (mergeK [] [(kk, z)]) (mergeK [] kvs)
    exact ⟨.ref d, _, d_write (t' := s5.toks + ws.length) I6 (by rw [hD6]; exact True.intro) sb7 e7 (dk_new (H' := upd (upd H5 h3.objs.size (.dK (mergeK [] [(kk, z)]))) d (.dK (mergeK (mergeK [] kvs) (mergeK [] [(kk, z)])))) (by omega) sd6 (re.merge rd) d7), rfl, q5⟩
end
end E10

set_option Elab.async false
set_option linter.all false
set_option maxRecDepth 100000
set_option maxHeartbeats 4000000
/-! ### enumerate(tuple) -/
namespace PySem
open Sem (wp)
open AutoSeq1 (wpAny_loadPart')
theorem meets_enumerate_newT (l : Addr) (items : Array Value) (n : Nat) (dct : Option Addr) (sl : Array (Option Value)) :
    Meets (Builtin.«enumerate.__new__» ⟨[.type "enumerate", .ref l], []⟩) (fun _ R s => s.heap.get? l = some { cls := .type "tuple", dict := dct, data := .seq items n, slots := sl } ∧
      R (.ok (.ret (.ref (s.heap.push { cls := .type "tuple_iterator", data := .fields #[.ref l, .int 0 0] }).objs.size)))
        { s with heap := (s.heap.push { cls := .type "tuple_iterator", data := .fields #[.ref l, .int 0 0] }).push { cls := .type "enumerate", data := .fields #[.none, .bool false, .ref s.heap.objs.size, rawInt 0, .none, .none] } }) :=
  .of_wp fun prog w A R s h => by
    obtain ⟨hp, g, d, tk, os⟩ := s; obtain ⟨hl, h⟩ := h
    have hsub := sub_enumerate
    have hL : Heap.IsTuple (Shared.heap ⟨hp, g, d, tk, os⟩) l items := ⟨_, hl, rfl, n, rfl⟩
    wp_walk using wpAny_loadPart' hl
    refine wpAny_stack_any fun st => wpAny_pure ?_
    split
    · rename_i c _ _ _ _ _
      cases (c == Value.type "enumerate")
      · wp_walk using wpAny_loadPart' hl, wpAny_pyIter_tuple hL
        exact ⟨_, rfl, h⟩
      · wp_walk using wpAny_loadPart' hl, wpAny_pyIter_tuple hL
        exact ⟨_, rfl, h⟩
    · wp_walk using wpAny_loadPart' hl, wpAny_pyIter_tuple hL
      exact ⟨_, rfl, h⟩
section
variable {prog : Program} {w : World} {A : Around} {E : Value → Shared → Prop} {s : Shared}
theorem call_enumerate_tuple {l : Addr} {items : Array Value} {Q : Value → Shared → Prop} (hL : s.heap.IsTuple l items)
    (h : ∀ h', IsEnum h' (s.heap.objs.size + 1) s.heap.objs.size 0 .none → h'.IsTupleIter s.heap.objs.size l 0 → h'.objs.size = s.heap.objs.size + 2 →
      (∀ b o, s.heap.get? b = some o → h'.get? b = some o) → Q (.ref (s.heap.objs.size + 1)) { s with heap := h' }) :
    wpAny (model prog w) A (call (.type "enumerate") [.ref l]) Q E s := by
  obtain ⟨⟨c, dct, dt, sl⟩, hl, hc, n, hd⟩ := hL
  replace hc : c = .type "tuple" := hc
  replace hd : dt = .seq items n := hd
  subst hc hd
  refine callType_new F.called_enumerate (by decide) (F.typeCall_enumerate_1 _) (F.newCall_enumerate_1 _) (fun obj => F.args_object_init_2 obj _) F.entry_enumerate_new
    (meets_enumerate_newT l items n dct sl) ⟨hl, ?_⟩
  have hz : (s.heap.push { cls := .type "tuple_iterator", data := .fields #[.ref l, .int 0 0] }).objs.size = s.heap.objs.size + 1 := Heap.size_push ..
  show _ ∧ _
  rw [hz]
  have he : IsEnum ((s.heap.push { cls := .type "tuple_iterator", data := .fields #[.ref l, .int 0 0] }).push
      { cls := .type "enumerate", data := .fields #[.none, .bool false, .ref s.heap.objs.size, rawInt 0, .none, .none] }) (s.heap.objs.size + 1) s.heap.objs.size 0 .none := by
    have := Heap.get?_push_size (s.heap.push { cls := .type "tuple_iterator", data := .fields #[.ref l, .int 0 0] })
      (o := { cls := .type "enumerate", data := .fields #[.none, .bool false, .ref s.heap.objs.size, rawInt 0, .none, .none] }) rfl
    rw [hz] at this; exact this
  refine ⟨⟨_, he, rfl⟩, h _ he ⟨_, Heap.get?_push_of_some _ (Heap.get?_push_size _ rfl), rfl, rfl⟩ (by rw [Heap.size_push, hz]) fun b o x => Heap.get?_push_of_some _ (Heap.get?_push_of_some _ x)⟩
theorem wpAny_nextOf_tuple_item {it t : Addr} {i : Nat} {items} {x : Value} {Q : Value → Shared → Prop} (hit : s.heap.IsTupleIter it t i)
    (ht : s.heap.IsTuple t items) (hx : items[i]? = some x)
    (hQ : ∀ h', h'.IsTupleIter it t (i + 1) → Heap.SameBut it s.heap h' → Q x { s with heap := h' }) :
    wpAny (model prog w) A (Builtin.SmallTypes.nextOf (.ref it)) Q E s := by
  obtain ⟨o, ho, hc, hd⟩ := id hit
  obtain ⟨ol, hol, _, nl, hdl⟩ := ht
  unfold Builtin.SmallTypes.nextOf
  refine wpAny_bind (wpAny_callSpecial?_slot (name := Str.ofString "__next__") hit.typeIs F.slot_tuple_iterator_next
    (wpAny_call_entry F.slot_tuple_iterator_next hit.typeIs F.entry_tuple_iterator_next ?_ (F.args_tuple_iterator_next_1 _)))
  show wpAny _ _ (field (.ref it) 0 >>= _) _ _ s
  refine wpAny_bind (wpAny_field ho hd (x := .ref t) rfl ?_)
  show wpAny _ _ (if (Value.ref t == Value.none) = true then _ else _) _ _ s
  rw [if_neg (show ¬ ((Value.ref t == Value.none) = true) from Bool.false_ne_true)]
  show wpAny _ _ (field (.ref it) 1 >>= _) _ _ s
  refine wpAny_bind (wpAny_field ho hd (x := .int i 0) rfl ?_)
  show wpAny _ _ (seqItems? (.ref t) >>= _) _ _ s
  refine wpAny_bind (wpAny_seqItems hol hdl ?_)
  simp only [Int.toNat_natCast, hx]
  refine wpAny_bind (wpAny_setField ho hd (by simp) (wpAny_pure ⟨x, rfl, wpAny_pure (hQ _ ?_ (Heap.SameBut.update ..))⟩))
  exact ⟨_, Heap.get?_update_self _ ho (Obj.isFreed_of_fields (Obj.data_mapFields hd _)), (Obj.cls_mapFields ..).trans hc, by
    rw [Obj.data_mapFields hd]; simp [rawInt]⟩
theorem wpAny_nextOf_tuple_end {it t : Addr} {i : Nat} {items} {Q : Value → Shared → Prop} (hh : A.handled = none)
    (hit : s.heap.IsTupleIter it t i) (ht : s.heap.IsTuple t items) (hx : items[i]? = none)
    (hE : ∀ h' e, Heap.ExtBut it s.heap h' → (∃ o, h'.get? e = some o ∧ o.cls = .type "StopIteration") → E (.ref e) { s with heap := h' }) :
    wpAny (model prog w) A (Builtin.SmallTypes.nextOf (.ref it)) Q E s := by
  obtain ⟨o, ho, hc, hd⟩ := id hit
  obtain ⟨ol, hol, _, nl, hdl⟩ := ht
  unfold Builtin.SmallTypes.nextOf
  refine wpAny_bind (wpAny_callSpecial?_slot (name := Str.ofString "__next__") hit.typeIs F.slot_tuple_iterator_next
    (wpAny_call_entry F.slot_tuple_iterator_next hit.typeIs F.entry_tuple_iterator_next ?_ (F.args_tuple_iterator_next_1 _)))
  show wpAny _ _ (field (.ref it) 0 >>= _) _ _ s
  refine wpAny_bind (wpAny_field ho hd (x := .ref t) rfl ?_)
  show wpAny _ _ (if (Value.ref t == Value.none) = true then _ else _) _ _ s
  rw [if_neg (show ¬ ((Value.ref t == Value.none) = true) from Bool.false_ne_true)]
  show wpAny _ _ (field (.ref it) 1 >>= _) _ _ s
  refine wpAny_bind (wpAny_field ho hd (x := .int i 0) rfl ?_)
  show wpAny _ _ (seqItems? (.ref t) >>= _) _ _ s
  refine wpAny_bind (wpAny_seqItems hol hdl ?_)
  simp only [Int.toNat_natCast, hx]
  refine wpAny_bind (wpAny_rule (wpAny_bind (wpAny_setField ho hd (by simp) ?_)))
  show wpAny _ _ (newExc (.type "StopIteration") [] >>= _) _ _ _
  refine wpAny_bind ?_
  simp only [newExc, newTuple]
  refine wpAny_bind (wpAny_newObj_type ?_ (by size_fits))
  refine wpAny_bind (m := firstArgMember _ _) (wpAny_of_eq (a := Value.none) (by first | rfl | (simp only [firstArgMember]; rfl)) ?_)
  refine wpAny_newObj_type ?_ (by size_fits)
  simp only [raiseNew]
  refine wpAny_bind (wpAny_handled ?_)
  first | rw [show A.in1.handled = none from hh] | rw [hh]
  refine wpAny_bind (wpAny_pure (wpAny_throw ?_))
  exact hE _ _ (((Heap.SameBut.update ..).extBut.push _).push _) ⟨_, Heap.get?_push_size _ rfl, rfl⟩
end
section
variable {prog : Program} {w : World} {A : Around} {E : Value → Shared → Prop} {s : Shared}
theorem wpAny_pyNext_enum_endT {e it l : Addr} {i : Nat} {items : Array Value} {old : Value} {Q : Option Value → Shared → Prop} (hh : A.handled = none)
    (he : IsEnum s.heap e it i old) (hit : s.heap.IsTupleIter it l i) (hl : s.heap.IsTuple l items) (hx : items[i]? = none)
    (hQ : ∀ h', Heap.ExtBut it s.heap h' → Q none { s with heap := h' }) : wpAny (model prog w) A (pyNext (.ref e)) Q E s := by
  have hT : s.TypeIs (.ref e) "enumerate" := ⟨_, he, rfl⟩
  unfold pyNext
  refine wpAny_bind (wpAny_attempt (wpAny_callSpecial?_slot (name := Str.ofString "__next__") hT F.slot_enumerate_next
    (wpAny_call_entry F.slot_enumerate_next hT F.entry_enumerate_next ?_ (F.args_enumerate_next_1 _))))
  show wpAny _ _ (field (.ref e) 2 >>= _) _ _ _
  refine wpAny_bind (wpAny_field he rfl (x := .ref it) rfl ?_)
  refine wpAny_bind (wpAny_nextOf_tuple_end hh hit hl hx fun h' x he' hx' => ?_)
  obtain ⟨o, ho, hc⟩ := hx'
  refine wpAny_bind (wpAny_isInstance (T := "StopIteration") (b := true) ⟨o, ho, hc⟩ isSubtype_stop ?_)
  exact wpAny_pure (hQ _ he')
end
theorem Draws.tuple {prog : Program} {w : World} {A : Around} (hh : A.handled = none) (it l : Addr) (hne : l ≠ it) (items : Array Value) :
    Draws prog w A it [it, l] items.size (fun i v => items[i]? = some v) (fun i h => h.IsTupleIter it l i ∧ h.IsTuple l items) where
  live := fun _ _ st => let ⟨o, ho, _⟩ := st.1; ⟨o, ho⟩
  frame := fun _ _ _ st hk => ⟨let ⟨o, ho, r⟩ := st.1; ⟨o, hk it (by simp) o ho, r⟩, let ⟨o, ho, r⟩ := st.2; ⟨o, hk l (by simp) o ho, r⟩⟩
  item := fun i s Q E hi st hQ => by
    refine wpAny_nextOf_tuple_item st.1 st.2 (x := items[i]) (by simp [hi]) fun h' hit' hs' => ?_
    exact hQ _ h' s.toks (by simp [hi]) ⟨hit', st.2.extBut hs'.extBut hne⟩ hs'
  done := fun s Q E st hE => wpAny_nextOf_tuple_end hh st.1 st.2 (by simp) hE
end PySem
namespace L2
open PySem PySem.Spec PyProof.Rows
/-- the tuple at a, each item in a new pair -/
def IteT (K : PySem.W.Frag) (a : Addr) : It :=
  ⟨fun i H => ∃ (xs : List V) (x : V), SqT K H a xs ∧ xs[i]? = some x, fun i H v H' => ∃ T x, v = .ref T ∧ H T = none ∧ H' = upd H T (.tup [.int (i : Nat), x]) ∧ ∀ xs, SqT K H a xs → xs[i]? = some x, fun i H => ∃ xs : List V, SqT K H a xs ∧ xs.length ≤ i⟩
theorem turn_enumT {P : Program} {w : World} {K : PySem.W.Frag} {elts : List Expr} {kk : Nat} {tpos : Pos} (a e it : Addr) :
    Turn P w K (.Tuple elts kk tpos) (IteT K a) [e, it] e (fun i h => (∃ old, IsEnum h e it ((i : Nat) : Int) old) ∧ h.IsTupleIter it a i ∧ e ≠ it) where
  mem := by simp
  obj := fun i h st b hb => by
    obtain ⟨⟨old, he⟩, ⟨o, ho, hc, hd⟩, _⟩ := st
    have e' : b = e ∨ b = it := by simpa using hb
    rcases e' with z | z
    · rw [z]; exact ⟨_, he, fun v q => nomatch q⟩
    · rw [z]; exact ⟨o, ho, fun v q => by rw [hd] at q; cases q⟩
  keep := fun i h h' st k => let ⟨⟨old, he⟩, ⟨o, ho, r⟩, hne⟩ := st; ⟨⟨old, k e (by simp) _ he⟩, ⟨o, k it (by simp) _ ho, r⟩, hne⟩
  item := by
    intro X hP hw hK hc i pins s σ H E I hf st hg
    subst hP hw hK
    obtain ⟨⟨old, he⟩, hit, hne⟩ := st
    obtain ⟨xs, x, hq, hx⟩ := hg
    obtain ⟨its, rv, p, hz⟩ := I.tuple hq
    obtain ⟨u, hu, ru⟩ := rv.get hx
    have hel : e < s.heap.objs.size := Heap.lt_size he
    have hil : it < s.heap.objs.size := by obtain ⟨_, q, _⟩ := hit; exact Heap.lt_size q
    have ai : a ≠ it := by
      rintro rfl
      obtain ⟨o1, h1, c1, _⟩ := p
      obtain ⟨o2, h2, c2, _⟩ := hit
      rw [h1] at h2
      cases h2
      rw [c1] at c2
      exact absurd (Value.type.inj c2) (by decide)
    have ae : e ≠ a := by
      rintro rfl
      obtain ⟨o1, h1, c1, _⟩ := p
      have h2 := he
      unfold IsEnum at h2
      rw [h1] at h2
      cases h2
      exact absurd (Value.type.inj c1) (by decide)
    have hlt : i < its.toArray.size := by
      have := (List.getElem?_eq_some_iff.mp hu).1
      simpa using this
    refine wpAny_pyNext_enum_itemD (Draws.tuple (show X.A.in1.handled = none from I.ok.hd hc) it a ai its.toArray) he ⟨hit, p⟩ hlt hne (by simp [hne, ae]) fun x' h' tk px ho st' hT hsz hk => ?_
    obtain rfl : x' = u := by
      have e1 : its.toArray[i]? = some u := by simpa using hu
      exact Option.some.inj (px.symm.trans e1)
    refine ⟨_, rfl, wpAny_letOwnedTupleGo_enum (s := { s with heap := h', toks := tk + 1 }) ho fun h'' he' sb => ?_⟩
    have hT2 : h''.get? s.heap.objs.size = some { cls := .type "tuple", data := .seq #[.int i tk, x'] } := (sb.2 _ (Nat.ne_of_gt hel)).trans hT
    have new : ObjOk X.prog X.w (upd H s.heap.objs.size (.tup [.int (i : Nat), x])) h'' s.heap.objs.size (.tup [.int (i : Nat), x]) :=
      ⟨by show 2 ≤ sizeLine; decide, [.int i tk, x'], .cons ⟨_, rfl⟩ (.cons ru .nil), ⟨_, hT2, rfl, _, rfl⟩⟩
    have I1 : Inv X pins σ (upd H s.heap.objs.size (.tup [.int (i : Nat), x])) { s with heap := h'', toks := tk + 1 } :=
      I.turnedNew (ch := [e, it]) (fun b ob hb q => (sb.2 b (fun z => hb (by simp [z]))).trans (hk b ob (fun z => hb (by simp [z])) (fun z => hb (by simp [z])) q)) hf (Nat.le_refl _) new
    refine ⟨.ref s.heap.objs.size, _, I1, rfl, ⟨_, x, rfl, I.hok.fresh (Nat.le_refl _), rfl, fun ys hy => by rw [I.tuple_inj hy hq]; exact hx⟩, ⟨⟨x', ?_⟩, ?_, hne⟩, fun b hb => ?_⟩
    · have e1 : ((i + 1 : Nat) : Int) = (i : Int) + 1 := by omega
      rw [e1]; exact he'
    · obtain ⟨o, ho2, r⟩ := st'.1
      exact ⟨o, (sb.2 it (Ne.symm hne)).trans ho2, r⟩
    · have hb' : b < s.heap.objs.size := by
        have e' : b = e ∨ b = it := by simpa using hb
        rcases e' with z | z
        · rw [z]; exact hel
        · rw [z]; exact hil
      rw [upd_ne (Nat.ne_of_lt hb')]
      exact (hf b hb).1
  done := by
    intro X hP hw hK hc i pins s σ H E I hf st hg
    subst hP hw hK
    obtain ⟨⟨old, he⟩, hit, hne⟩ := st
    obtain ⟨xs, hq, hx⟩ := hg
    obtain ⟨its, rv, p, hz⟩ := I.tuple hq
    obtain ⟨f0, f1, f2, f3, f4, f5⟩ := hf it (by simp)
    have hl := rv.length
    exact wpAny_pyNext_enum_endT (I.ok.hd hc) he hit p (by simp; omega) fun h' eb => ⟨rfl, I.turned (t' := s.toks) (fun b o hb q => eb b o hb q) f0 f1 f3 f4 f5⟩
  self := fun A i s Q E st h => let ⟨⟨_, he⟩, _⟩ := st; wpAny_pyIter_enum he h
def iEnumT (K : PySem.W.Frag) (ta : TA) : TI := fun σ H R => ta σ H fun vs H1 => ∃ a xs, vs = [.ref a] ∧ SqT K H1 a xs ∧ R (IteT K a) H1
theorem pi_enumT {X : Cx} {e : Expr} {ta : TA} {p pos tpos : Pos} {elts : List Expr} {kk : Nat} (hg : Gl X "enumerate") (hm : X.mg "enumerate" = none) (ha : PA X [e] ta) (hs : starEach [e] X.env = [(false, eval e X.env)] := by rfl) :
    PI X (.Tuple elts kk tpos) (.Call (.Name "enumerate" p) [e] [] pos) (iEnumT X.K ta) := by
  refine ⟨fun pins s σ H R I h => ?_⟩
  refine Call_ (ld_blt I hg hm boot_enumerate (PyProof.Rows.callWith_type1 (thn (ha.run pos pins s σ H _ I h) fun us s1 ⟨vs, H1, I1, r1, q1⟩ => ?_) hs rfl))
  obtain ⟨a, xs, ex, hq, q⟩ := q1
  subst ex
  cases r1 with
  | cons r rr =>
    cases rr
    cases r
    obtain ⟨its, rv, p', hz⟩ := I1.tuple hq
    refine call_enumerate_tuple (show s1.heap.IsTuple a its.toArray from p') fun h' he hit hsz hk => wpAny_pyIter_enum he ?_
    have I2 : Inv X pins σ H1 { s1 with heap := h' } := I1.kept (t' := s1.toks) hk
    refine ⟨s1.heap.objs.size + 1, [s1.heap.objs.size + 1, s1.heap.objs.size], _, _, H1, rfl, I2, turn_enumT a (s1.heap.objs.size + 1) s1.heap.objs.size, ⟨⟨.none, he⟩, hit, Nat.succ_ne_self _⟩, fun b hb => ?_, q⟩
    have e' : b = s1.heap.objs.size + 1 ∨ b = s1.heap.objs.size := by simpa using hb
    have hle : s1.heap.objs.size ≤ b := by
      rcases e' with z | z
      · rw [z]; exact Nat.le_add_right _ _
      · rw [z]; exact Nat.le_refl _
    exact I1.fpOk hle (I1.hok.fresh hle)
theorem walk_enumT {K : PySem.W.Frag} {a : Addr} {xs : List V} : Walk (IteT K a) xs.length (fun H => SqT K H a xs) (YPair (fun i => some (.int (i : Nat))) (fun i => xs[i]?)) := by
  refine ⟨fun i _ hi q => ⟨xs, xs[i], q, by simp [hi]⟩, fun _ q => ⟨xs, q, Nat.le_refl _⟩, fun i H v H' _ q y => ?_⟩
  obtain ⟨T, x, h1, h2, h3, h4⟩ := y
  exact ⟨T, .int (i : Nat), x, h1, h2, h3, rfl, h4 xs q⟩
end L2

set_option Elab.async false
set_option linter.all false
set_option maxRecDepth 100000
set_option maxHeartbeats 4000000
/-! ### an operator of two own objects of one class -/
namespace E10
open L2 PySem PySem.Spec PyProof.Rows
section
variable {X : Cx} {A : Around} {pins : List (Addr × Obj)} {σ : L2.St} {H : Hp} {s : Shared} {Q : VK} {k : Nat} {f C : Addr} {fd : FuncData} {ps : List Str} {sp : Sp}
def rOwnO (C : Addr) (sp : Sp) : R2 := fun x y H Q => ∃ (a b dx dy : Addr) (fs gs : List (Str × V)), x = .ref a ∧ y = .ref b ∧ H a = some (.ins C dx fs) ∧ H b = some (.ins C dy gs) ∧ sp [.ref a, .ref b] H Q E0
theorem op_ownO {op : Operator} (F : FnG X.prog X.w X.K X.mg X.base k f fd ps sp) (hG : X.A.guards = some []) (room : Room k X.A) (bi : Binds X.K fd ps []) (hc : PySem.W.selfFirst X.K C = true) (h : Has X.K C f (PySem.dunder op.info.2)) : OpR X (binaryOp op) (rOwnO C sp) := by
  intro pins s σ H x y v u Q I rx ry h0
  obtain ⟨a, b, dx, dy, fs, gs, rfl, rfl, ha, hb, q⟩ := h0
  cases (show v = Value.ref a from rx)
  cases (show u = Value.ref b from ry)
  obtain ⟨mA, O, _⟩ := ins_get I.hok ha
  obtain ⟨od, J, _⟩ := O.look
  obtain ⟨mB, O2, _⟩ := ins_get I.hok hb
  obtain ⟨od2, J2, _⟩ := O2.look
  obtain ⟨m, hF⟩ := I.fr
  refine PySem.W.binop_K (op := op) hF I.ok.mod.kin J J2.type hc h.at_ h.fn ?_
  exact wpAny_mono (run_at (vs := [.ref a, .ref b]) F rfl hG room bi I (.cons rfl (.cons rfl .nil)) q) (fun _ _ z => cmpBack z) fun _ _ z => z
end
end E10

set_option Elab.async false
set_option linter.all false
set_option maxRecDepth 100000
set_option maxHeartbeats 4000000
/-! Errors as values: made by position and by keyword, their attributes, isinstance. -/
namespace E18
open PySem PySem.Spec PyProof.Rows L2 Builtin.ObjectAttr

/-- what the text says of an own class of errors, over whichever built-in -/
structure ExC (K : PySem.W.Frag) (C : Addr) : Prop where
  fam : ∃ (B nI iI : String) (mB : List Value), ExcBaseFacts B nI iI mB ∧ StoreFacts B mB "object.__setattr__" "object" ∧
    PySem.W.excInitIn K C mB nI = true ∧ PySem.W.excOver K C mB = true
  dct : PySem.W.hasDictIn K C = true
  sa : PySem.W.findIn K (.ref C) "__setattr__" = some (some (.builtin "object.__setattr__"))
  kp : PySem.W.keepIn K (.ref C) = true
  ga : PySem.W.findIn K (.ref C) "__getattribute__" = some (some (.builtin "BaseException.__getattribute__"))
  gn : PySem.W.findIn K (.ref C) "__getattr__" = some none
  sub : PySem.W.subIn K (.ref C) (.type "BaseException") = some true
  ca : PySem.W.findIn K (.ref C) "__class__" = some (some (.builtin "object.__class__"))
  mo : PySem.W.mroIn K C (.type "object") = some true
  sp : PySem.W.specialIn K (.builtin "object.__class__") "__get__" = some (some (.builtin "getset_descriptor.__get__"))
  tk : PySem.W.takesIn K (.builtin "object.__class__") = some true

theorem noTaker {K : PySem.W.Frag} {C : Addr} {f : Str} (n : PySem.W.findIn K (.ref C) f = some none) : PySem.W.takerIn K C f = some none :=
  NoAttr.taker n

section
variable {prog : Program} {w : World} {A : Around} {E : Value → Shared → Prop} {R : Result → Shared → Prop} {hp : Heap} {gs : Array GenState} {dr : Drawn} {n : Nat} {os : OsState}
variable {K : PySem.W.Frag} {C x tp : Addr} {f : Str} {tk : Tok} {v : Value}
/-- the first attribute -/
theorem put0 (T : ExC K C) (X : K.In hp) (hx : hp.get? x = some (PySem.W.excObj C tp none .none)) (nf : PySem.W.findIn K (.ref C) f = some none)
    (go : ∀ h' tk' dx, (∀ b o, b ≠ x → hp.get? b = some o → h'.get? b = some o) → hp.objs.size ≤ dx → dx ≠ x →
      h'.get? x = some (PySem.W.excObj C tp (some dx) .none) → h'.Ns1 dx (fun y => if y = f then some v else none) → R (.ok (.ret .none)) ⟨h', gs, dr, tk', os⟩) :
    codeAny (model prog w) A (.call (.builtin "object.__setattr__") ⟨[.ref x, .str f tk, v], []⟩) R ⟨hp, gs, dr, n, os⟩ := by
  obtain ⟨B, nI, iI, mB, _, sf, _, ov⟩ := T.fam
  refine PySem.W.osa_openX (od := none) sf X ⟨hx, rfl, rfl, trivial⟩ ov (noTaker nf) fun b => ?_
  obtain ⟨cd, hcd, hd⟩ := PySem.W.any_some T.dct
  have hxs : x ≠ hp.objs.size := Nat.ne_of_lt (Heap.lt_size hx)
  refine wpAny_bind ?_
  refine wpAny_pure ?_
  refine wpAny_bind ?_
  refine PySem.W.instanceDict_exc hx (PySem.W.looks_clsIn X hcd) hd ?_
  show wpAny _ _ (storeInDict hp.objs.size (.str f tk) f v) _ _ _
  have hpush : (hp.push (PySem.W.dictOf [] 0)).get? x = some (PySem.W.excObj C tp none .none) := Heap.get?_push_of_some _ hx
  refine PySem.HandSPX.store_in_new ?_ ?_
  · exact ⟨_, #[], _, (Heap.get?_update_ne _ _ _ _ hxs.symm).trans (Heap.get?_push_at rfl rfl), rfl, fun e he => absurd he (by simp), fun _ => rfl⟩
  · intro h' tk' hn sb
    refine go h' tk' hp.objs.size (fun b o hb ho => ?_) (Nat.le_refl _) hxs.symm ?_ hn
    · refine (sb.2 b (Nat.ne_of_lt (Heap.lt_size ho))).trans ?_
      exact (Heap.get?_update_ne _ _ _ _ hb).trans (Heap.get?_push_of_some _ ho)
    · exact (sb.2 x hxs).trans (Heap.get?_update_self _ hpush rfl)
end
end E18

set_option Elab.async false
set_option linter.all false
set_option maxRecDepth 100000
set_option maxHeartbeats 4000000
namespace E18
open PySem PySem.Spec PyProof.Rows L2 Builtin.ObjectAttr Builtin
section
variable {prog : Program} {w : World} {M : Model} {A : Around} {E : Value → Shared → Prop} {R : Result → Shared → Prop} {h : Heap} {g : Array GenState} {d : Drawn} {t : Nat} {os : OsState}
variable {nm q : Str} {C N : Addr} {bs bm bmB : List Value} {hdct : Bool} {sn : List Str} {sub : List Value} {ab : Bool} {col : Option Bool} {dd : Option Addr} {k0 k1 k2 k3 k5 : Option Value} {B newId initId : String}

theorem chkNew (F : ExcBaseFacts B newId initId bmB) (hT : ∀ X : String, bm.contains (.type X) = bmB.contains (.type X)) {us : List Value} {kw : List (Str × Value)} {Q : Unit → Shared → Prop}
    (hC : h.get? C = some (excClassObj nm q C N bs bm hdct sn sub ab col dd k0 k1 k2 k3 k5 newId)) (hq : Q () ⟨h, g, d, t, os⟩) : wpAny M A (checkBuiltinCall newId ⟨.ref C :: us, kw⟩) Q E ⟨h, g, d, t, os⟩ := by
  have hc : (Value.ref C :: bm).contains (.type B) = true := by
    rw [List.contains_cons, hT, F.hasB]
    exact Bool.or_true _
  have hs := F.noStar
  simp only [checkBuiltinCall, F.newKind, F.newSplit, F.newRow]
  repeat (first
    | refine wpAny_loadPart_at hC ?_
    | (refine wpAny_isSubtype_exc hC ?_; rw [hc])
    | refine wpAny_staticBase_exc hC ?_
    | refine wpAny_madeBy_exc hC ?_
    | simp only [bne_self_eq_false, Bool.false_eq_true, if_false]
    | wp_step)
  all_goals exact hq

theorem newKw (F : ExcBaseFacts B newId initId bmB) (hT : ∀ X : String, bm.contains (.type X) = bmB.contains (.type X)) {us : List Value} {kw : List (Str × Value)}
    (hC : h.get? C = some (excClassObj nm q C N bs bm hdct sn sub ab col dd k0 k1 k2 k3 k5 newId)) (room : us.length ≤ sizeLine)
    (hq : R (.ok (.ret (.ref (h.objs.size + 1)))) ⟨(h.push (PySem.W.kdv_tup us)).push (PySem.HandSPX.excO C h.objs.size), g, d, t, os⟩) :
    codeAny (model prog w) A (.builtin newId ⟨.ref C :: us, kw⟩) R ⟨h, g, d, t, os⟩ := by
  have ends := F.ends
  have inB : (Value.ref C :: bm).contains (.type B) = true := by
    rw [List.contains_cons, hT, F.hasB]
    exact Bool.or_true _
  have noA : (Value.ref C :: bm).contains (.type "AttributeError") = false := by
    rw [List.contains_cons, hT, F.noAttr]
    rfl
  have noN : (Value.ref C :: bm).contains (.type "NameError") = false := by
    rw [List.contains_cons, hT, F.noName]
    rfl
  refine codeAny_builtinAt F.entry ?_
  unfold Builtin.«BaseException.__new__»
  refine PySem.wpAt_bind ?_
  show PySem.wpAt _ _ _ (stack >>= _) _ _ _
  refine PySem.wpAt_bind (PySem.wpAt_stack fun pp bl => PySem.wpAt_of_wpAny ?_)
  wp_walk
  refine PySem.wpAt_of_wpAny ?_
  rw [F.owner]
  repeat (first
    | with_reducible refine wpAny_madeHere_exc F.canon hC ?_
    | with_reducible refine wpAny_loadPart_at hC ?_
    | (with_reducible refine wpAny_isSubtype_exc hC ?_; first | rw [inB] | rw [noA] | rw [noN])
    | wp_step)
  show R _ _
  rw [Heap.size_push]
  exact hq

theorem typeCallKw (F : ExcBaseFacts B newId initId bmB) (hT : ∀ X : String, bm.contains (.type X) = bmB.contains (.type X)) {us : List Value} {kw : List (Str × Value)} {fI : Addr} {Q : Fin → Shared → Prop}
    (hC : h.get? C = some (excClassObj nm q C N bs bm hdct sn sub ab col dd k0 k1 k2 k3 k5 newId))
    (li : PySem.W.Looks (model prog w) h (typeLookup (.ref C) "__init__") (some (.ref fI)))
    (lb : ∀ self, PySem.W.Looks (model prog w) h (bindSpecial (.ref fI) self) (.ref fI, [self])) (room : us.length ≤ sizeLine)
    (hq : codeAny (model prog w) A (.call (.ref fI) ⟨.ref (h.objs.size + 1) :: us, kw⟩)
      (fun r s' => match r with
        | .ok (.ret v) => v = .none ∧ Q (.done (.ret (.ref (h.objs.size + 1)))) s'
        | .ok _ => False
        | .error e => E e s')
      ⟨(h.push (PySem.W.kdv_tup us)).push (PySem.HandSPX.excO C h.objs.size), g, d, t, os⟩) :
    wpAny (model prog w) A (Builtin.«type.__call__» ⟨.ref C :: us, kw⟩) Q E ⟨h, g, d, t, os⟩ := by
  repeat (first
    | with_reducible refine wpAny_loadPart_at hC ?_
    | with_reducible refine wpAny_madeBy_exc hC ?_
    | wp_step)
  refine codeAny_call_builtin_code (Code.quiet_builtin _ F.quiet) (chkNew F hT hC ?_)
  refine newKw F hT hC room ?_
  show wpAny _ _ _ _ _ _
  have kp : ∀ b o, h.get? b = some o → ((h.push (PySem.W.kdv_tup us)).push (PySem.HandSPX.excO C h.objs.size)).get? b = some o := fun b o e =>
    Heap.get?_push_of_some _ (Heap.get?_push_of_some _ e)
  have hC1 := kp _ _ hC
  have at1 : ((h.push (PySem.W.kdv_tup us)).push (PySem.HandSPX.excO C h.objs.size)).get? (h.objs.size + 1) = some (PySem.HandSPX.excO C h.objs.size) := by
    heap_get
  have inC : (Value.ref C :: bm).contains (.ref C) = true := by simp
  have l1 := li.keeps kp
  have l2 := (lb (.ref (h.objs.size + 1))).keeps kp
  unfold isInstance
  repeat (first
    | with_reducible refine wpAny_loadPart_at at1 ?_
    | (with_reducible refine wpAny_isSubtype_exc hC1 ?_; rw [inC])
    | wp_step)
  show wpAny _ _ (typeLookup (.ref C) _) _ _ _
  refine l1.at ?_
  refine wpAny_holding (wpAny_bind (l2.at ?_))
  refine wpAny_bind (wpAny_call (codeAny_mono hq fun r s' z => ?_))
  rcases r with e | (v | _ | _ | _) <;> first | exact z | exact z.elim | skip
  obtain ⟨rfl, z⟩ := z
  first
    | exact wpAny_pure (wpAny_pure z)
    | (wp_walk; exact z)

theorem callKw (F : ExcBaseFacts B newId initId bmB) (hT : ∀ X : String, bm.contains (.type X) = bmB.contains (.type X)) {us : List Value} {kw : List (Str × Value)} {fI : Addr}
    (hC : h.get? C = some (excClassObj nm q C N bs bm hdct sn sub ab col dd k0 k1 k2 k3 k5 newId))
    (li : PySem.W.Looks (model prog w) h (typeLookup (.ref C) "__init__") (some (.ref fI)))
    (lb : ∀ self, PySem.W.Looks (model prog w) h (bindSpecial (.ref fI) self) (.ref fI, [self])) (room : us.length ≤ sizeLine)
    (hq : codeAny (model prog w) (A.under (.builtin "type.__call__" ⟨.ref C :: us, kw⟩)) (.call (.ref fI) ⟨.ref (h.objs.size + 1) :: us, kw⟩) (PySem.W.InitBack (h.objs.size + 1) R)
      ⟨(h.push (PySem.W.kdv_tup us)).push (PySem.HandSPX.excO C h.objs.size), g, d, t, os⟩) :
    codeAny (model prog w) A (.call (.ref C) ⟨us, kw⟩) R ⟨h, g, d, t, os⟩ := by
  have f1 := tc_lookup
  have f2 := tc_bind (.ref C)
  have ty : (⟨h, g, d, t, os⟩ : Shared).TypeIs (.ref C) "type" := ⟨_, hC, rfl⟩
  refine codeAny_of_tree ?_
  show wpAny _ _ (callAny (.ref C) _) _ _ _
  repeat (any_goals (first
    | assumption
    | with_reducible refine wpAny_loadPart_at hC ?_
    | wp_step))
  refine ⟨rfl, ?_⟩
  refine codeAny_call_builtin_at (Code.quiet_builtin _ (by decide +kernel)) entry_typeCall ?_
  have chk : ∀ {Q : Unit → Shared → Prop} {E : Value → Shared → Prop}, Q () ⟨h, g, d, t, os⟩ → wpAny (model prog w) A.in1 (checkBuiltinCall "type.__call__" ⟨.ref C :: us, kw⟩) Q E ⟨h, g, d, t, os⟩ := by
    intro Q E z
    have f3 := tc_sub
    simp only [checkBuiltinCall, tc_kind, tc_split]
    repeat (any_goals (first
      | assumption
      | with_reducible refine wpAny_loadPart_at hC ?_
      | with_reducible refine wpAny_onRaise ?_
      | with_reducible refine wpAny_map ?_
      | wp_step))
  refine chk (typeCallKw F hT hC li lb room ?_)
  refine codeAny_mono hq fun r s' z => ?_
  rcases r with e | (v | _ | _ | _) <;> exact z
end
end E18

set_option Elab.async false
set_option linter.all false
set_option maxRecDepth 100000
set_option maxHeartbeats 4000000
namespace E18
open PySem PySem.Spec PyProof.Rows L2
/-- an error with its attributes -/
def Err (H : Hp) (e C : Addr) (fs : List (Str × V)) : Prop := ∃ d, H e = some (exo e C (some d)) ∧ H d = some (exd d fs)

section
variable {X : Cx} {pins : List (Addr × Obj)} {σ : L2.St} {H : Hp} {s : Shared} {a C dx : Addr} {f : Str} {y : V} {u : Value} {fs : List (Str × V)} {Q : Unit → Shared → Prop} {E : Value → Shared → Prop} {A : Around}
theorem rel_one {mA : Str → Option Value} (ry : RelV y u) (r : ∀ g, RelO (fs.lookup g) (mA g)) : ∀ g, RelO (((f, y) :: fs).lookup g) (if g = f then some u else mA g) :=
  fun g => relO_put ry r g
/-- self.f = y, where no attribute stands -/
theorem set_new (T : ExC X.K C) (I : Inv X pins σ H s) (e : H a = some (exo a C none)) (nf : PySem.W.findIn X.K (.ref C) f = some none) (ry : RelV y u)
    (go : ∀ dx s', H dx = none → dx ≠ a → Inv X pins σ (upd (upd H dx (exd dx [(f, y)])) a (exo a C (some dx))) s' → Q () s') :
    wpAny (model X.prog X.w) A (setAttr (.ref a) f u) Q E s := by
  obtain ⟨t1, ho⟩ := exo_at I.hok e
  obtain ⟨hp, g, d, t, os⟩ := s
  refine PySem.W.set_plain I.kIn (ox := PySem.W.excObj C t1 none .none) (od := none) ⟨ho, rfl, rfl, trivial⟩ T.sa ?_
  refine put0 T I.kIn ho nf fun h' tk' dx kp hsz dne hx hn => ?_
  have hnd : H dx = none := I.hok.fresh hsz
  -- the heap between: the dict is laid, the object is as it was
  let h1 : Heap := h'.update a fun _ => PySem.W.excObj C t1 none .none
  have e1 : h1.get? a = some (PySem.W.excObj C t1 none .none) := Heap.get?_update_self _ hx rfl
  have e2 : ∀ b, b ≠ a → h1.get? b = h'.get? b := fun b hb => Heap.get?_update_ne _ _ _ _ hb
  have k1 : ∀ b o, hp.get? b = some o → h1.get? b = some o := fun b o q => by
    by_cases hb : b = a
    · rw [hb] at q ⊢
      rw [e1]
      exact ho.symm.trans q
    · rw [e2 b hb]
      exact kp b o hb q
  have n1 : h1.Ns1 dx (fun z => if z = f then some u else none) := hn.at fun o q => by rw [e2 dx dne]; exact q
  have I1 : Inv X pins σ (upd H dx (exd dx [(f, y)])) ⟨h1, g, d, tk', os⟩ :=
    I.laid (t' := tk') k1 hsz (exd_ok n1 (rel_one (fs := []) (mA := fun _ => none) ry fun _ => True.intro))
  have ea : upd H dx (exd dx [(f, y)]) a = some (exo a C none) := by rw [upd_ne dne.symm]; exact e
  have I2 := I1.write (t' := tk') (h' := h') (x := a) (e := a) (o := exo a C (some dx)) (by rw [ea]; exact True.intro) (.inl rfl) (fun b o hb q => by rw [← e2 b hb]; exact q) ⟨_, hx⟩ (exo_ok hx)
  exact go dx _ hnd dne I2
/-- self.f = y, a further attribute -/
theorem set_more (T : ExC X.K C) (I : Inv X pins σ H s) (e : H a = some (exo a C (some dx))) (ed : H dx = some (exd dx fs)) (room : fs.length ≤ 900) (nf : PySem.W.findIn X.K (.ref C) f = some none) (ry : RelV y u)
    (go : ∀ s', Inv X pins σ (upd H dx (exd dx ((f, y) :: fs))) s' → Q () s') :
    wpAny (model X.prog X.w) A (setAttr (.ref a) f u) Q E s := by
  obtain ⟨t1, ho⟩ := exo_at I.hok e
  obtain ⟨mA, hns, rel⟩ := exd_at I.hok ed
  have hw := within_of rel
  obtain ⟨hp, g, d, t, os⟩ := s
  obtain ⟨oD, _, _, hoD, _, _⟩ := hns.count hw
  obtain ⟨B, nI, iI, mB, _, sf, _, ov⟩ := T.fam
  refine PySem.W.set_plain I.kIn (ox := PySem.W.excObj C t1 (some dx) .none) (od := some oD) ⟨ho, rfl, rfl, hoD⟩ T.sa ?_
  refine PySem.W.osa_openX (od := some oD) sf I.kIn ⟨ho, rfl, rfl, hoD⟩ ov (noTaker nf) fun b => ?_
  obtain ⟨cd, hcd, hd⟩ := PySem.W.any_some T.dct
  refine wpAny_bind (wpAny_pure (wpAny_bind (wpAny_bind ?_)))
  refine wpAny_loadPart ho ?_
  refine wpAny_bind ((PySem.W.looks_clsIn I.kIn hcd).at ?_)
  rw [hd]
  refine wpAny_pure (a := some dx) ?_
  refine PySem.OEX.store_in_old hns hw (by rw [List.length_map]; omega) fun h' tk' hn sb => ?_
  have there : ∃ o, h'.get? dx = some o := by
    obtain ⟨o, _, _, e', _⟩ := hn
    exact ⟨o, e'⟩
  exact go _ (I.write (t' := tk') (x := dx) (e := dx) (o := exd dx ((f, y) :: fs)) (by rw [ed]; exact True.intro) (.inl rfl) (fun b o hb q => (sb.2 b hb).trans q) there (exd_ok hn (rel_one ry rel)))
end

/-- self.f = e in an error's __init__ -/
def sExf (K : PySem.W.Frag) (f : Str) (to te : TE) : TS := fun D σ H => te σ H fun y H1 => to σ H1 fun x H2 => ∃ a C : Addr, x = .ref a ∧ ExC K C ∧ PySem.W.findIn K (.ref C) f = some none ∧
  ((H2 a = some (exo a C none) ∧ ∀ dx, H2 dx = none → dx ≠ a → D.nx σ (upd (upd H2 dx (exd dx [(f, y)])) a (exo a C (some dx)))) ∨
    ∃ (dx : Addr) (fs : List (Str × V)), H2 a = some (exo a C (some dx)) ∧ H2 dx = some (exd dx fs) ∧ fs.length ≤ 900 ∧ D.nx σ (upd H2 dx (exd dx ((f, y) :: fs))))
/-- e.f of an error -/
def tExf (K : PySem.W.Frag) (f : Str) (te : TE) : TE := fun σ H Q => te σ H fun x H1 => ∃ a C fs v, x = .ref a ∧ ExC K C ∧ PySem.W.findIn K (.ref C) f = some none ∧ Err H1 a C fs ∧ fs.lookup f = some v ∧ Q v H1
/-- isinstance(e, D) of an error -/
def rIsx (K : PySem.W.Frag) : List V → Hp → VK → Prop := fun xs H Q => ∃ (a C : Addr) (fs : List (Str × V)) (D : V) (u : Value) (b : Bool), xs = [.ref a, D] ∧ ClsV D u ∧ ExC K C ∧ (Err H a C fs ∨ H a = some (exo a C none)) ∧ PySem.W.kitOne K (.ref C) u = some b ∧ Q (.bl b) H
section
variable {X : Cx} {o e : Expr} {to te : TE} {f : Str} {p' pos : Pos}
theorem ps_exf (ho : PE X o to) (he : PE X e te) (hs : swapsWith e (some (.Attribute o f p')) pos.line X.env = pure false := by rfl) : PS X (.Assign [.Attribute o f p'] e pos) (sExf X.K f to te) := by
  refine ⟨fun pins s σ H D I h => ?_⟩
  refine plainObj_wpAny_Assign_Attribute (thn (he.run pins s σ H _ I h) fun v s1 hv => ?_) hs
  obtain ⟨y, H1, I1, r1, q1⟩ := hv
  refine thn (ho.run pins s1 σ H1 _ I1 q1) fun u s2 hu => ?_
  obtain ⟨x, H2, I2, r2, a, C, ex, T, nf, q⟩ := hu
  subst ex
  obtain rfl : u = Value.ref a := r2
  rcases q with ⟨ea, q⟩ | ⟨dx, fs, ea, ed, hl, q⟩
  · exact set_new T I2 ea nf r1 fun dx s' n ne J => ⟨σ, _, J, q dx n ne⟩
  · exact set_more T I2 ea ed hl nf r1 fun s' J => ⟨σ, _, J, q⟩
theorem pe_exf (he : PE X e te) (hb : attributeBase e f X.env (eval e X.env) = eval e X.env := by rfl) : PE X (.Attribute e f pos) (tExf X.K f te) := by
  refine ⟨fun pins s σ H Q I h => ?_⟩
  refine attr_of hb (thn (he.run pins s σ H _ I h) fun u s1 hu => ?_)
  obtain ⟨x, H1, I1, rx, a, C, fs, v, ex, T, nf, ⟨dd, ea, ed⟩, l, q⟩ := hu
  subst ex
  obtain rfl : u = Value.ref a := rx
  obtain ⟨t1, ho⟩ := exo_at I1.hok ea
  obtain ⟨mA, hns, rel⟩ := exd_at I1.hok ed
  obtain ⟨od, hod, hl⟩ := lookIn_ns hns
  obtain ⟨w, hw, rw'⟩ := RelO.some_of (v := v) (o := mA f) (by rw [← l]; exact rel f)
  have J : PySem.W.InstAt s1.heap a _ C (some od) := ⟨ho, rfl, rfl, hod⟩
  exact HandSPX.exc_get I1.kIn J T.ga T.gn T.sub (PySem.W.findObj_own T.dct nf rfl (by rw [hl, hw])) (handed_of rw') ⟨v, H1, I1.tok _, rw', q⟩
theorem call_isx : CallR X (.builtin "isinstance") (rIsx X.K) := by
  intro pins s σ H xs us Q I r h
  obtain ⟨a, C, fs, D, u, b, rfl, k, T, ha, e, q⟩ := h
  obtain ⟨u1, u2, rfl, r1, r2⟩ := vals2 r
  have e2 := k.eq r2
  subst e2
  obtain rfl : u1 = Value.ref a := r1
  obtain ⟨cd, hcd, _⟩ := PySem.W.any_some T.dct
  have hcl : (PySem.W.clsIn X.K C).isSome = true := by rw [hcd]; rfl
  rcases ha with ⟨d, ea, ed⟩ | ea
  · obtain ⟨t1, ho⟩ := exo_at I.hok ea
    obtain ⟨mA, hns, rel⟩ := exd_at I.hok ed
    obtain ⟨od, hod, _⟩ := lookIn_ns hns
    exact PySem.W.kia_one (PySem.W.kitx_exc (od := some od) hcl T.ga T.gn T.sub T.ca T.sp T.tk T.mo) I.kIn ⟨ho, rfl, rfl, hod⟩ e (fun z => nomatch z) fun tk => ⟨.bl b, H, I.tok tk, rfl, q⟩
  · obtain ⟨t1, ho⟩ := exo_at I.hok ea
    exact PySem.W.kia_one (PySem.W.kitx_exc (od := none) hcl T.ga T.gn T.sub T.ca T.sp T.tk T.mo) I.kIn ⟨ho, rfl, rfl, trivial⟩ e (fun z => nomatch z) fun tk => ⟨.bl b, H, I.tok tk, rfl, q⟩
end
end E18

set_option Elab.async false
set_option linter.all false
set_option maxRecDepth 100000
set_option maxHeartbeats 4000000
/-! ### own errors raised out of defs and operators, caught with their attributes -/
namespace E10
open L2 PySem PySem.Spec PyProof.Rows
/-- C(e, ..), the __init__ of C keeps sp: for raise -/
def tMkErr (C : Addr) (sp : Sp) (ta : TA) : L2.St → Hp → XK → Prop := fun σ H Q => ta σ H fun vs H1 => vs.length ≤ 1000 ∧ ∀ a, H1 a = none → sp (.ref a :: vs) (upd H1 a (exo a C none))
  (fun v H2 => v = .non ∧ ∃ (d : Addr) (fs : List (Str × V)), H2 a = some (exo a C (some d)) ∧ H2 d = some (exd d fs) ∧ H1 d = none ∧ Q (.ref C) (some d) (upd (del H2 a) d (.xd fs))) L2.E0
section
variable {X : Cx} {x : Str} {C fI : Addr} {k : Nat} {fd : FuncData} {ps : List Str} {sp : Sp} {e : Expr} {es : List Expr} {ta : TA} {p pos : Pos}
theorem pmk_mkErr (T : E18.ExC X.K C) (R : Raises X (.ref C)) (iC : PySem.W.findIn X.K (.ref C) "__init__" = some (some (.ref fI))) (tI : PySem.W.typeIn X.K (.ref fI) = some (.type "function"))
    (F1 : FnOk X.prog X.w X.K X.mg X.base L2.CX0 k fI fd ps sp) (hr : Room (k + 1) X.A) (hb : Binds X.K fd ps []) (hg : Gl X x) (hm : X.mg x = some (.ref C)) (ha : PA X (e :: es) ta)
    (hdb : (x == ("__debug__" : Str)) = false := by decide) (he : starEach (e :: es) X.env = (false, eval e X.env) :: starEach es X.env := by rfl) (hpl : (backTo pos (starEach es X.env)).any (·.1) = false := by rfl) :
    PMk X (.Call (.Name x p) (e :: es) [] pos) (tMkErr C sp ta) := by
  intro pins s σ H Q I h
  refine wpAny_Call_Name_kw (ld_glob I hg hm ?_ hdb)
  refine PySem.W.callWith_K (h₀ := X.base) I.ok.mod.kin T.kp (thn (ha.run pos pins s σ H _ I h) fun us s1 ⟨vs, H1, I1, r1, hz, q1⟩ => ⟨I1.kIn, ?_⟩) he hpl
  show wpAny _ _ (call (.ref C) us) _ _ _
  obtain ⟨B, nI, iI, mB, fb, _, qi, _⟩ := T.fam
  obtain ⟨nm, N, qn, bs, bm, hdct, sn, sub, ab, col, dd, k0, k1, k2, k3, k5, hC, hT⟩ := PySem.W.excInit_of I1.kIn qi
  obtain ⟨hp, g, dr, tk, os⟩ := s1
  have hsz : hp.objs.size ≤ hp.objs.size + 1 := Nat.le_succ _
  have hn : H1 (hp.objs.size + 1) = none := I1.hok.fresh hsz
  have hq := q1 (hp.objs.size + 1) hn
  have kk : ∀ b o, hp.get? b = some o → ((hp.push (PySem.W.kdv_tup us)).push (PySem.HandSPX.excO C hp.objs.size)).get? b = some o := fun b o e => Heap.get?_push_of_some _ (Heap.get?_push_of_some _ e)
  have hget : ((hp.push (PySem.W.kdv_tup us)).push (PySem.HandSPX.excO C hp.objs.size)).get? (hp.objs.size + 1) = some (PySem.HandSPX.excO C hp.objs.size) := by heap_get
  have I2 : Inv X pins σ (upd H1 (hp.objs.size + 1) (exo (hp.objs.size + 1) C none)) ⟨(hp.push (PySem.W.kdv_tup us)).push (PySem.HandSPX.excO C hp.objs.size), g, dr, tk, os⟩ :=
    I1.laid (t' := tk) (a := hp.objs.size + 1) (o := exo (hp.objs.size + 1) C none) (h' := (hp.push (PySem.W.kdv_tup us)).push (PySem.HandSPX.excO C hp.objs.size)) kk hsz (exo_ok hget)
  have r2 : Vals (V.ref (hp.objs.size + 1) :: vs) (Value.ref (hp.objs.size + 1) :: us) := .cons rfl r1
  have hl : (Value.ref (hp.objs.size + 1) :: us).length = ps.length := by
    have e := r2.length
    rw [F1.len _ _ _ _ hq] at e
    exact e.symm
  have hus : us.length ≤ sizeLine := by
    rw [← Paired.length r1, sizeLine_eq]
    omega
  have bb := hb ⟨(hp.push (PySem.W.kdv_tup us)).push (PySem.HandSPX.excO C hp.objs.size), g, dr, tk, os⟩ (Value.ref (hp.objs.size + 1) :: us) I2.kIn (by rw [List.append_nil]; exact hl)
  rw [List.append_nil] at bb
  refine wpAny_call (E18.callKw (kw := []) fb hT hC (PySem.W.looks_findIn I1.kIn iC) (fun self => PySem.W.bind_fn I1.kIn self tI) hus
    (codeAny_mono (F1.run _ X.stack _ _ ⟨Value.ref (hp.objs.size + 1) :: us, []⟩ (Value.ref (hp.objs.size + 1) :: us) _ _ L2.E0 (hr.make C us []) (I2.env0.make C us []) bb r2 hq) fun r s' hq' => ?_))
  cases r with
  | error er => exact (show False from hq').elim
  | ok fl =>
    cases fl with
    | ret u =>
      obtain ⟨v, H2, os2, bare2, un2, hok2, rv, ev, d, fs, ea, ed, hd1, q2⟩ := hq'
      subst ev
      obtain ⟨h2, g2, d2, t2, os'⟩ := s'
      exact ⟨rv, mk_end R I1 hsz kk un2 hok2 os2 bare2 ea ed hd1 q2⟩
    | next => exact False.elim hq'
    | brk => exact False.elim hq'
    | cont => exact False.elim hq'
end
/-! ### operators and methods that may raise -/
section
variable {X : Cx} {W : WX} {k : Nat} {f C : Addr} {fd : FuncData} {ps : List Str} {sp : Sp} {a b o e : Expr} {es : List Expr} {ta tb : TE} {t : TA} {m : Str} {p apos pos : Pos}
/-- a op b, both own objects of one class; at the slots σ -/
def tOwnX (C : Addr) (sp : Sp) (W : WX) (ta tb : TE) : TE := fun σ H Q => ta σ H fun x H1 => tb σ H1 fun y H2 => ∃ (a b dx dy : Addr) (fs gs : List (Str × V)), x = .ref a ∧ y = .ref b ∧ H2 a = some (.ins C dx fs) ∧ H2 b = some (.ins C dy gs) ∧ sp [.ref a, .ref b] H2 Q (WE W σ)
theorem pe_ownX {op : Operator} (tk : Takes X W) (F : FnOk X.prog X.w X.K X.mg X.base (L2.CX X.prog X.w) k f fd ps sp) (hr : Room k X.A) (bi : Binds X.K fd ps []) (hc : PySem.W.selfFirst X.K C = true) (h : Has X.K C f (PySem.dunder op.info.2)) (ha : PE X a ta) (hb : PE X b tb) :
    PE X (.BinOp a op b pos) (tOwnX C sp W ta tb) := by
  refine ⟨fun pins s σ H Q I hw => ?_⟩
  refine wpAny_BinOp (binT ha hb I (R := fun x y H2 => ∃ (a b dx dy : Addr) (fs gs : List (Str × V)), x = .ref a ∧ y = .ref b ∧ H2 a = some (.ins C dx fs) ∧ H2 b = some (.ins C dy gs) ∧ sp [.ref a, .ref b] H2 Q (WE W σ)) hw fun v u s2 x y H2 I2 rx ry q => ?_)
  obtain ⟨a1, b1, dx, dy, fs, gs, rfl, rfl, h1, h2, q⟩ := q
  cases (show v = Value.ref a1 from rx)
  cases (show u = Value.ref b1 from ry)
  obtain ⟨mA, O, _⟩ := ins_get I2.hok h1
  obtain ⟨od, J, _⟩ := O.look
  obtain ⟨mB, O2, _⟩ := ins_get I2.hok h2
  obtain ⟨od2, J2, _⟩ := O2.look
  obtain ⟨m, hF⟩ := I2.fr
  refine PySem.W.binop_K (op := op) hF I2.ok.mod.kin J J2.type hc h.at_ h.fn ?_
  exact wpAny_mono (run_fnS (E := WE W) F hr bi (passAt tk σ) I2 (vs := [.ref a1, .ref b1]) (.cons rfl (.cons rfl .nil)) q) (fun _ _ z => cmpBack z) fun _ _ z => z
/-- o.m(e, ..) -/
def tMethX (C : Addr) (m : Str) (sp : Sp) (W : WX) (ta : TE) (t : TA) : TE := fun σ H Q => ta σ H fun x H1 => ∃ a dx fs, x = .ref a ∧ H1 a = some (.ins C dx fs) ∧ fs.lookup m = none ∧ t σ H1 fun vs H2 => sp (.ref a :: vs) H2 Q (WE W σ)
theorem pe_methX {pl : Sem Bool} (tk : Takes X W) (he : PE X o ta) (c : Cls X.K C) (hm : Meth X.K C m f) (F : FnOk X.prog X.w X.K X.mg X.base (L2.CX X.prog X.w) k f fd ps sp) (hr : Room k X.A) (hb : Binds X.K fd ps []) (ha : PA X (e :: es) t)
    (hst : starEach (e :: es) X.env = (false, eval e X.env) :: starEach es X.env := by rfl) (hpl : (backTo pos (starEach es X.env)).any (·.1) = false := by rfl)
    (ht : eval (.Call (.Attribute o m apos) (e :: es) [] pos) X.env = (do
      let ov ← eval o X.env
      standAt apos.atName
      let (f, first) ← holding [ov] (getMethod ov m pl)
      callWith pos f first (backTo pos (starEach (e :: es) X.env)) (backToKw pos (keywordEach [] X.env))) := by rfl) :
    PE X (.Call (.Attribute o m apos) (e :: es) [] pos) (tMethX C m sp W ta t) := by
  refine ⟨fun pins s σ H Q I h => ?_⟩
  refine PySem.W.methodCall_KW (pl := pl) (thn (he.run pins s σ H _ I h) fun u s1 ⟨x, H1, I1, rx, a, dx, fs, ex, ea, l, q⟩ => ?_) ht
  subst ex
  obtain rfl : u = Value.ref a := rx
  refine getmeth_ok I1 ea c hm l ?_
  refine PySem.W.callWith_K (first := [.ref a]) (h₀ := X.base) I.ok.mod.kin hm.kp (thn (ha.run pos pins s1 σ H1 _ I1 q) fun us s2 ⟨vs, H2, I2, r, q2⟩ => ⟨I2.kIn, ?_⟩) hst hpl
  exact run_fnS (E := WE W) F hr hb (passAt tk σ) I2 (vs := .ref a :: vs) (.cons rfl r) q2
end
end E10

set_option Elab.async false
set_option linter.all false
set_option maxRecDepth 100000
set_option maxHeartbeats 4000000
/-! ### sets of texts: made, joined, sorted -/
namespace E10
open L2 PySem PySem.Spec PyProof.Rows
def txtOf (e : Int × Value) : Str := PyProof.Rows.strOf e.2
def GoodT (P : Program) (w : World) (e : Int × Value) : Prop := ∃ z tk, e.2 = Value.str z tk ∧ e.1 = (PySem.strKind P w).hash z
/-- what stands in the object of a set of texts: zs, each once, in whatever order -/
structure SetD (P : Program) (w : World) (es : Array (Int × Value)) (t : SetTable) (zs : List Str) : Prop where
  good : ∀ e ∈ es.toList, GoodT P w e
  perm : (es.toList.map txtOf).Perm zs
  nd : zs.Nodup
  few : zs.length < scanBound
  fits : t.fits es.size = true
  ris : Ris t.place.toList
  led : w.params.followText "set-order" = true ∨ t.led = true
def SetT (P : Program) (w : World) (h : Heap) (a : Addr) (zs : List Str) : Prop := ∃ o es ep t, h.get? a = some o ∧ o.ExactSet ∧ o.data = .set es ep t ∧ SetD P w es t zs
def insT (zs : List Str) (z : Str) : List Str := if z ∈ zs then zs else z :: zs
theorem insT_mem {zs : List Str} {z y : Str} : y ∈ insT zs z ↔ y = z ∨ y ∈ zs := by
  unfold insT
  split
  · rename_i h
    exact ⟨.inr, fun e => e.elim (fun q => q ▸ h) id⟩
  · exact List.mem_cons
theorem insT_nd {zs : List Str} {z : Str} (nd : zs.Nodup) : (insT zs z).Nodup := by
  unfold insT
  split
  · exact nd
  · rename_i h
    exact List.nodup_cons.mpr ⟨h, nd⟩
theorem insT_len (zs : List Str) (z : Str) : (insT zs z).length ≤ zs.length + 1 := by
  unfold insT
  split <;> simp
section
variable {P : Program} {w : World} {h h' : Heap} {a : Addr} {zs : List Str} {es : Array (Int × Value)} {t : SetTable}
theorem SetD.size (D : SetD P w es t zs) : es.size = zs.length := by
  have q := D.perm.length_eq
  rwa [List.length_map, Array.length_toList] at q
theorem SetD.elems (D : SetD P w es t zs) : ElemsOf (PySem.strKind P w) es.toList := fun e he => by
  obtain ⟨z, tk, q1, q2⟩ := D.good e he
  refine ⟨⟨z, ?_, q2⟩, ?_⟩
  · rw [q1]
    exact strKind_is P w z tk
  · rw [q1]
    rfl
theorem good_txt {e : Int × Value} (g : GoodT P w e) (z : Str) : (PySem.strKind P w).is z e.2 = decide (z = txtOf e) := by
  obtain ⟨y, tk, q, _⟩ := g
  unfold txtOf
  rw [q]
  exact PySem.KeyKind.is_eq_decide (strKind_is P w y tk) z
theorem SetD.has (D : SetD P w es t zs) (z : Str) : z ∈ zs ↔ ∃ e ∈ es.toList, (PySem.strKind P w).is z e.2 = true := by
  rw [← D.perm.mem_iff, List.mem_map]
  constructor
  · rintro ⟨e, he, rfl⟩
    exact ⟨e, he, by rw [good_txt (D.good e he)]; exact decide_eq_true rfl⟩
  · rintro ⟨e, he, q⟩
    rw [good_txt (D.good e he)] at q
    exact ⟨e, he, (of_decide_eq_true q).symm⟩
theorem SetT.keep (R : SetT P w h a zs) (k : ∀ o, h.get? a = some o → h'.get? a = some o) : SetT P w h' a zs := by
  obtain ⟨o, es, ep, t, ho, r⟩ := R
  exact ⟨o, es, ep, t, k o ho, r⟩
theorem SetT.lt (R : SetT P w h a zs) : a < h.objs.size := by
  obtain ⟨o, es, ep, t, ho, r⟩ := R
  exact Heap.lt_size ho
end
section
variable {P : Program} {w : World} {A : Around} {E : Value → Shared → Prop} {s : Shared} {a : Addr} {zs : List Str}
theorem put_at {h : Heap} {o : Obj} {es es' : Array (Int × Value)} {ep : Nat} {t t' : SetTable} (ho : h.get? a = some o) (hd : o.data = .set es ep t) :
    (h.update a (Obj.putSet es' t')).get? a = some { o with data := .set es' (ep + 1) t' } := store_at ho hd
/-- laid, and laid anew where the table is too full -/
theorem add_tail {g : Bool → Sem Unit} (hg : ∀ (b : Bool) (s₁ : Shared) (Q' : Unit → Shared → Prop), Q' () s₁ → wpAny (model P w) A (g b) Q' E s₁)
    {o : Obj} {es es1 : Array (Int × Value)} {ep : Nat} {t t2 : SetTable} (ho : s.heap.get? a = some o) (hex : o.ExactSet) (hd : o.data = .set es ep t) (D : SetD P w es1 t2 zs)
    {dm : Bool} {R : Option Bool → Shared → Prop} (hR : ∀ h', Heap.SameBut a s.heap h' → SetT P w h' a zs → R (some true) { s with heap := h' }) :
    wpAny (model P w) A (do
        storeSet a es1 t2
        if (!dm && t2.tooFull) = true then do
            g (relayAll t2 es1 (SetTable.grown es1.size)).2.2
            storeSet a (relayAll t2 es1 (SetTable.grown es1.size)).1 (relayAll t2 es1 (SetTable.grown es1.size)).2.1
            pure (some true)
          else pure (some true)) R E s := by
  have few1 : es1.size < scanBound := by rw [D.size]; exact D.few
  refine wpAny_bind (wpAny_storeSet_of ho hd ?_ (fits_of_scanBound few1))
  have ho1 := put_at (es' := es1) (t' := t2) ho hd
  have sb1 := Heap.SameBut.update s.heap a (Obj.putSet es1 t2)
  by_cases full : (!dm && t2.tooFull) = true
  · rw [if_pos full]
    obtain ⟨pm, hf3, hr3, hl3⟩ : (relayAll t2 es1 (SetTable.grown es1.size)).1.toList.Perm es1.toList ∧ (relayAll t2 es1 (SetTable.grown es1.size)).2.1.fits (relayAll t2 es1 (SetTable.grown es1.size)).1.size = true ∧
        Ris (relayAll t2 es1 (SetTable.grown es1.size)).2.1.place.toList ∧ (relayAll t2 es1 (SetTable.grown es1.size)).2.1.led = t2.led := ⟨relayAll_perm _ _ _, relayAll_fits _ _ _, relayAll_ris _ _ _, relayAll_led _ _ _⟩
    generalize relayAll t2 es1 (SetTable.grown es1.size) = Z at *
    obtain ⟨es2, t3, gave⟩ := Z
    dsimp only at pm hf3 hr3 hl3 ⊢
    have D2 : SetD P w es2 t3 zs := ⟨fun e he => D.good e (pm.mem_iff.mp he), (pm.map txtOf).trans D.perm, D.nd, D.few, hf3, hr3, D.led.imp id fun z => by rw [hl3]; exact z⟩
    refine wpAny_bind (hg _ _ _ ?_)
    refine wpAny_bind (wpAny_storeSet_of ho1 rfl ?_ (fits_of_scanBound (by rw [D2.size]; exact D2.few)))
    have ho2 := put_at (es' := es2) (t' := t3) ho1 rfl
    exact wpAny_pure (hR _ (sb1.trans (Heap.SameBut.update _ a _)) ⟨_, es2, _, t3, ho2, hex, rfl, D2⟩)
  · rw [if_neg full]
    exact wpAny_pure (hR _ sb1 ⟨_, es1, _, t2, ho1, hex, rfl, D⟩)
theorem addT {z : Str} {tk : Tok} {Q : Bool → Shared → Prop} (R : SetT P w s.heap a zs) (room : zs.length + 1 < scanBound)
    (hQ : ∀ h' b, Heap.SameBut a s.heap h' → SetT P w h' a (insT zs z) → Q b { s with heap := h' }) :
    wpAny (model P w) A (setAddHashed a (.str z tk) ((PySem.strKind P w).hash z)) Q E s := by
  obtain ⟨o, es, ep, t, ho, hex, hd, D⟩ := R
  have few : es.size < scanBound := by rw [D.size]; exact D.few
  unfold setAddHashed setAddHashedIn
  refine wpAny_holding (wpAny_bind (wpAny_setState_of ho hd D.fits ?_))
  dsimp only
  rw [byScan_of (x := Value.str z tk) rfl few D.elems, if_pos rfl]
  unfold setAddByScan
  refine wpAny_bind (wpAny_bind (wpAny_rule (wpAny_bind (wpAny_setScan_of (strKind_is P w z tk) ho hd D.fits D.elems ?_))))
  cases hfi : List.findIdx? (fun e => (PySem.strKind P w).is z e.2) es.toList with
  | some j =>
    dsimp only
    obtain ⟨hj, pj, _⟩ := List.findIdx?_eq_some_iff_getElem.mp hfi
    have hz : z ∈ zs := (D.has z).2 ⟨es.toList[j], List.getElem_mem hj, pj⟩
    refine wpAny_pure (wpAny_pure (hQ s.heap false (Heap.SameBut.refl a s.heap) ?_))
    unfold insT
    rw [if_pos hz]
    exact ⟨o, es, ep, t, ho, hex, hd, D⟩
  | none =>
    dsimp only
    have hz : z ∉ zs := fun m => by
      obtain ⟨e, he, q⟩ := (D.has z).1 m
      exact absurd q (by rw [List.findIdx?_eq_none_iff.mp hfi e he]; exact Bool.false_ne_true)
    have e1 : insT zs z = z :: zs := if_neg hz
    rw [e1] at hQ
    have pm := layNew_perm t es ((PySem.strKind P w).hash z) (.str z tk)
    have hf1 := layNew_fits t es ((PySem.strKind P w).hash z) (.str z tk)
    have hr1 := layNew_ris t es ((PySem.strKind P w).hash z) (.str z tk) D.ris
    have hl1 := layNew_led t es ((PySem.strKind P w).hash z) (.str z tk)
    generalize layNew t es ((PySem.strKind P w).hash z) (.str z tk) = Z at *
    obtain ⟨es1, t1, dm, gave⟩ := Z
    dsimp only at pm hf1 hr1 hl1 ⊢
    rw [Array.toList_push] at pm
    have pc : es1.toList.Perm (((PySem.strKind P w).hash z, Value.str z tk) :: es.toList) := pm.trans (List.perm_append_singleton _ _)
    have D1 : SetD P w es1 t1 (z :: zs) := ⟨fun e he => by
      rcases List.mem_cons.mp (pc.mem_iff.mp he) with q | q
      · rw [q]; exact ⟨z, tk, rfl, rfl⟩
      · exact D.good e q, (pc.map txtOf).trans (List.Perm.cons z D.perm), List.nodup_cons.mpr ⟨hz, D.nd⟩, room, hf1, hr1, D.led.imp id fun q => by rw [hl1]; exact q⟩
    have hg : ∀ (b : Bool) (s₁ : Shared) (Q' : Unit → Shared → Prop), Q' () s₁ → wpAny (model P w) A (match b with | true => rule "set.scan.the-table-gave-way" | false => pure ()) Q' E s₁ :=
      fun b s₁ Q' q => by cases b <;> first | exact wpAny_pure q | exact wpAny_rule q
    refine wpAny_bind (hg _ _ _ ?_)
    by_cases pl : t1.plain = true
    · rw [if_pos pl]
      refine wpAny_bind ?_
      rw [hashByValue_scannable 8 (x := Value.str z tk) rfl]
      refine wpAny_pure ?_
      refine add_tail ?_ ho hex hd (zs := z :: zs) ?_ ?_
      · exact hg
      · split
        · exact D1
        · exact ⟨D1.good, D1.perm, D1.nd, D1.few, SetTable.fits_plain_off D1.fits, D1.ris, D1.led⟩
      · intro h' sb r
        exact wpAny_pure (hQ h' true sb r)
    · rw [if_neg pl]
      refine wpAny_bind (wpAny_pure ?_)
      rw [if_pos rfl]
      refine add_tail hg ho hex hd D1 fun h' sb r => ?_
      exact wpAny_pure (hQ h' true sb r)
/-! ### sorted -/
theorem SetD.strs {es : Array (Int × Value)} {t : SetTable} (D : SetD P w es t zs) {vs : List Value} (pm : vs.Perm (es.toList.map (·.2))) : StrsAre vs (vs.map PyProof.Rows.strOf) ∧ (vs.map PyProof.Rows.strOf).Perm zs := by
  refine ⟨strsAre_map vs fun v hv => ?_, ?_⟩
  · obtain ⟨e, he, rfl⟩ := List.mem_map.mp (pm.mem_iff.mp hv)
    obtain ⟨z, tk, q, _⟩ := D.good e he
    exact ⟨z, tk, q⟩
  · have q := pm.map PyProof.Rows.strOf
    rw [List.map_map] at q
    exact q.trans D.perm
theorem sortT {Q : Value → Shared → Prop} (R : SetT P w s.heap a zs) (hh : A.handled = none) (h64 : zs.length < 64)
    (hQ : ∀ s' p (out : Array Value) (c : Nat) (ys : List Str), (∀ b o, s.heap.get? b = some o → s'.heap.get? b = some o) → s'.gens = s.gens → s'.os = s.os → s.heap.objs.size ≤ p →
      s'.heap.get? p = some (seqObj "list" out c) → StrsAre out.toList ys → ys.Perm zs → sortedS ys = true → Q (.ref p) s') :
    wpAny (model P w) A (call (.builtin "sorted") [.ref a]) Q E s := by
  obtain ⟨o, es, ep, t, ho, hex, hd, D⟩ := R
  refine Calls.call_function_entry kind_sorted plain_sorted entry_sorted (args_sorted1 _) ?_
  unfold Builtin.«sorted»
  refine wpAny_bind (m := checkCount "sorted" 1 1 _) (wpAny_pure (wpAny_bind (collect_set (A := A.in1) hh ⟨o, ho, hex.1, hd⟩ D.fits (by rw [D.size]; exact D.few) D.ris D.led fun s1 vs k1 hz g1 o1 pm => ?_)))
  obtain ⟨hS, pz⟩ := D.strs pm
  have lv : vs.length < 64 := by
    have q := pz.length_eq
    rw [List.length_map] at q
    omega
  refine wpAny_bind (wpAny_newList ?_ (by rw [sizeLine_eq]; omega))
  have hoL : (s1.heap.push (seqObj "list" vs.toArray 0)).get? s1.heap.objs.size = some (seqObj "list" vs.toArray 0) := Heap.get?_push_size _ rfl
  refine wpAny_bind (wpAny_holding (wpAny_call_entry slot_list_sort ⟨_, hoL, rfl⟩ entry_list_sort
    (list_sort_treeK strKind_oneLt hoL hS.keysOf (fun v₁ v₂ rest e => keyKind_strs (by rw [← e]; exact hS)) lv fun st' a1 a2 => ⟨_, rfl, ?_⟩) (args_list_sort _)))
  obtain ⟨ys, h1, h2, h3⟩ := sorted_out_str hS a1 a2
  obtain ⟨c, hc⟩ := sortedHeap_at (vs := vs) (out := (arrOf st').map (·.2)) hoL
  refine wpAny_pure ⟨_, rfl, hQ _ s1.heap.objs.size _ c ys (fun b u e => ?_) g1 o1 hz hc h1 (h2.trans pz) h3⟩
  have q := k1 b u e
  have lt := Heap.lt_size q
  show (sortedHeap (s1.heap.push (seqObj "list" vs.toArray 0)) s1.heap.objs.size vs ((arrOf st').map (·.2))).get? b = some u
  rw [sortedHeap_old (Nat.ne_of_lt lt) (by rw [size_push']; exact Nat.lt_succ_of_lt lt)]
  exact Heap.get?_push_of_some _ q
end
/-- the set of the texts zs at a -/
def SetTO (P : Program) (w : World) (a : Addr) (zs : List Str) : HO := .ext fun h => SetT P w h a zs
section
variable {X : Cx}
theorem setT_ok {P : Program} {w : World} {H : Hp} {h : Heap} {a : Addr} {zs : List Str} (R : SetT P w h a zs) : ObjOk P w H h a (SetTO P w a zs) :=
  ⟨R, by obtain ⟨o, _, _, _, ho, _⟩ := R; exact ⟨o, ho⟩, fun _ _ p k => SetT.keep p k⟩
theorem setT_at {pins : List (Addr × Obj)} {σ : L2.St} {H : Hp} {s : Shared} {a : Addr} {zs : List Str} (I : Inv X pins σ H s) (ha : H a = some (SetTO X.prog X.w a zs)) : SetT X.prog X.w s.heap a zs := (I.hok a _ ha).1
/-- sorted(set), fewer than 64 texts -/
def rSortT (P : Program) (w : World) : List V → Hp → VK → Prop := fun vs H Q => ∃ (a : Addr) (zs : List Str), vs = [V.ref a] ∧ H a = some (SetTO P w a zs) ∧ zs.length < 64 ∧
  ∀ (ys : List Str) (p : Addr), ys.Perm zs → sortedS ys = true → H p = none → Q (.ref p) (upd H p (.lst (ys.map V.str)))
theorem call_sortedT (hc : X.calm = true) : CallR X (.builtin "sorted") (rSortT X.prog X.w) := by
  intro pins s σ H vs us Q I r h
  obtain ⟨a, zs, rfl, ha, h64, q⟩ := h
  rw [Vals.ref1 r]
  refine sortT (setT_at I ha) (I.ok.hd hc) h64 fun s' p out c ys k g o hp hg hi pm so => ?_
  have len : (ys.map V.str).length ≤ sizeLine := by rw [List.length_map, pm.length_eq, sizeLine_eq]; omega
  have hn : H p = none := I.hok.fresh hp
  have J : Inv X pins σ (upd H p (.lst (ys.map V.str))) { s with heap := s'.heap, gens := s'.gens, drawn := s'.drawn, toks := s'.toks } :=
    I.call (ch := []) (Un.laid k hp hn) (I.hok.laid k hp ⟨len, out.toList, c, vals_of_strs hi, hg⟩) (by rw [g]; exact I.bare) (fun _ z => nomatch z)
  have e : s' = { s with heap := s'.heap, gens := s'.gens, drawn := s'.drawn, toks := s'.toks } := by
    cases s'
    cases s
    cases o
    rfl
  rw [e]
  exact ⟨.ref p, _, J, rfl, q ys p pm so hn⟩
end
end E10

set_option Elab.async false
set_option linter.all false
set_option maxRecDepth 100000
set_option maxHeartbeats 4000000
/-! ### set(x) of texts -/
namespace E10
open L2 PySem PySem.Spec PyProof.Rows
def insAll (acc xs : List Str) : List Str := xs.foldl insT acc
theorem insAll_snoc (acc xs : List Str) (z : Str) : insAll acc (xs ++ [z]) = insT (insAll acc xs) z := by
  unfold insAll
  rw [List.foldl_append]
  rfl
theorem insAll_len (acc : List Str) : ∀ xs : List Str, (insAll acc xs).length ≤ acc.length + xs.length := by
  intro xs
  induction xs generalizing acc with
  | nil => exact Nat.le_refl _
  | cons x r ih =>
    have h1 := ih (insT acc x)
    have h2 := insT_len acc x
    show (insAll (insT acc x) r).length ≤ _
    rw [List.length_cons]
    omega
theorem insAll_mem {acc xs : List Str} {y : Str} : y ∈ insAll acc xs ↔ y ∈ acc ∨ y ∈ xs := by
  induction xs generalizing acc with
  | nil => exact ⟨.inl, fun h => h.elim id (fun q => nomatch q)⟩
  | cons x r ih =>
    show y ∈ insAll (insT acc x) r ↔ _
    rw [ih, insT_mem, List.mem_cons]
    constructor
    · rintro ((h | h) | h)
      · exact .inr (.inl h)
      · exact .inl h
      · exact .inr (.inr h)
    · rintro (h | h | h)
      · exact .inl (.inr h)
      · exact .inl (.inl h)
      · exact .inr h
theorem insAll_nd {acc xs : List Str} (nd : acc.Nodup) : (insAll acc xs).Nodup := by
  induction xs generalizing acc with
  | nil => exact nd
  | cons x r ih => exact ih (insT_nd nd)
/-- the object of set() -/
abbrev newSetO (w : World) : Obj := { cls := .type "set", dict := none, data := .set #[] 0 (.fresh 0 0 (!w.params.followText "set-order")) }
theorem setT_new {P : Program} {w : World} {h : Heap} {a : Addr} (ho : h.get? a = some (newSetO w)) : SetT P w h a [] := by
  refine ⟨_, #[], 0, _, ho, ⟨rfl, rfl, rfl⟩, rfl, ⟨fun e he => by simp at he, .nil, List.nodup_nil, by decide, by rfl, List.Pairwise.nil, ?_⟩⟩
  show _ ∨ (!w.params.followText "set-order") = true
  cases w.params.followText "set-order"
  · exact .inr rfl
  · exact .inl rfl
section
variable {P : Program} {w : World} {A : Around} {E : Value → Shared → Prop} {s : Shared}
theorem loopT {I : Addr} {fp wr : List Addr} {G : Array GenState → Array GenState → Prop} {n : Nat} {Pv : Nat → Value → Prop} {St : Nat → Shared → Prop} {R : Result → Shared → Prop}
    (W : WalksS P w A.in1 I fp wr G n Pv St) (S : Addr) (hSf : S ∉ fp) (acc xs : List Str) (hn : n = xs.length) (room : acc.length + xs.length + 1 < scanBound) (val : ∀ i v, Pv i v → ∃ z t, xs[i]? = some z ∧ v = .str z t) :
    ∀ (k i : Nat) (s : Shared), n - i = k → i ≤ n → St i s → SetT P w s.heap S (insAll acc (xs.take i)) →
      (∀ s', Moved (S :: wr) G s s' → SetT P w s'.heap S (insAll acc xs) → R (.ok (.ret .none)) s') →
      codeAny (model P w) A (.builtin "set.update.loop" ⟨[.ref S, .ref I], []⟩) R s := by
  have hSw : S ∉ wr := fun h => hSf (W.sub _ h)
  have more : ∀ b ∈ wr, b ∈ S :: wr := fun b hb => List.mem_cons_of_mem _ hb
  intro k
  induction k with
  | zero =>
    intro i s hk hi hst hS hR
    obtain rfl : i = n := by omega
    refine codeAny_builtin F.entry_set_update_loop ?_
    rw [Around.under_plainId F.plain_set_update_loop _]
    refine wpAny_bind (W.done s _ _ hst fun s' hm => ?_)
    rw [List.take_of_length_le (by omega)] at hS
    exact wpAny_pure (hR s' (hm.mono more) (hS.keep fun o e => hm.heap S o hSw e))
  | succ k ih =>
    intro i s hk hi hst hS hR
    have lt : i < n := by omega
    refine codeAny_builtin F.entry_set_update_loop ?_
    rw [Around.under_plainId F.plain_set_update_loop _]
    refine wpAny_bind (W.item i s _ _ lt hst fun v s' hP hst' hm => ?_)
    obtain ⟨z, t, hz, rfl⟩ := val i v hP
    have hS2 : SetT P w s'.heap S (insAll acc (xs.take i)) := hS.keep fun o e => hm.heap S o hSw e
    have l1 := insAll_len acc (xs.take i)
    have l2 : (xs.take i).length ≤ xs.length := by rw [List.length_take]; exact Nat.min_le_right _ _
    show wpAny _ A.in1 (holding [Value.str z t] (setAdd S (.str z t)) >>= _) _ _ s'
    refine wpAny_bind (wpAny_holding ?_)
    unfold setAdd
    refine wpAny_holding (wpAny_bind ((PySem.strKind P w).pyHash (k := z) (strKind_is _ _ _ _) ?_))
    refine addT (s := { s' with toks := s'.toks + 1 }) hS2 (by omega) fun h' b sb hS3 => ?_
    have e1 : insT (insAll acc (xs.take i)) z = insAll acc (xs.take (i + 1)) := by rw [List.take_add_one, hz]; exact (insAll_snoc _ _ _).symm
    rw [e1] at hS3
    refine wpAny_pure ⟨plainId_quiet F.plain_set_update_loop _, ih (i + 1) _ (by omega) lt (W.frame _ s' _ _ hst' (Nat.le_succ _) fun b hb o e => ?_) hS3 fun s2 hm2 hS4 => ?_⟩
    · rw [sb.2 b (fun h : b = S => hSf (h ▸ hb))]
      exact e
    · refine hR s2 (Moved.trans W.gtrans ((hm.mono more).then_heap (Nat.le_succ _) fun b o hb e => ?_) hm2) hS4
      rw [sb.2 b (fun h : b = S => hb (h ▸ List.mem_cons_self))]
      exact e
/-- set(v), by what its filling does -/
theorem call_setG {v : Value} {zs : List Str} {Q : Value → Shared → Prop} (hh : A.handled = none)
    (fill : ∀ (B : Around) (F : Value → Shared → Prop) (R : Unit → Shared → Prop), B.handled = none → (∀ (h' : Heap) (tk : Nat), SetT P w h' s.heap.objs.size zs → (∀ b o, s.heap.get? b = some o → h'.get? b = some o) → R () { s with heap := h', toks := tk }) →
      wpAny (model P w) B (Builtin.Frozenset.updateFrom "set.__init__" s.heap.objs.size v) R F { s with heap := s.heap.push (newSetO w) })
    (h : ∀ (h' : Heap) (tk : Nat), SetT P w h' s.heap.objs.size zs → (∀ b o, s.heap.get? b = some o → h'.get? b = some o) → Q (.ref s.heap.objs.size) { s with heap := h', toks := tk }) :
    wpAny (model P w) A (call (.type "set") [v]) Q E s := by
  obtain ⟨c, tl, hmro⟩ := F.called_set.mro
  have hmade := F.called_set.made
  have hsub := F.called_set.sub
  refine wpAny_call (codeAny_of_tree ?_)
  show wpAny _ _ (callAny (.type "set") _) _ _ _
  refine wpAny_pure ⟨Code.quiet_builtin _ (by decide +kernel), codeAny_builtin F.entry_type_call ?_⟩
  rw [Around.under_plain (weight_type_call_type "set" [v] []) rfl]
  have h1 := F.called_set.notType
  have h2 := F.called_set.canCreate
  have hct := F.typeCall_set_1 v
  repeat (any_goals (first | assumption | wp_step))
  refine codeAny_mono (code_set_led1 v (E := E) (Q₁ := fun obj s₁ => obj = .ref s.heap.objs.size ∧ s₁ = { s with heap := s.heap.push (newSetO w) }) ⟨rfl, rfl⟩) fun r s₁ hr => ?_
  match r, hr with
  | .error e, hr => exact hr
  | .ok .next, hr => exact hr.elim
  | .ok .brk, hr => exact hr.elim
  | .ok .cont, hr => exact hr.elim
  | .ok (.ret obj), hr =>
    obtain ⟨rfl, rfl⟩ := hr
    have hS : (s.heap.push (newSetO w)).get? s.heap.objs.size = some (newSetO w) := Heap.get?_push_size _ rfl
    have hT : Shared.TypeIs { s with heap := s.heap.push (newSetO w) } (.ref s.heap.objs.size) "set" := ⟨_, hS, rfl⟩
    have hli := F.called_set.init.lookup
    have hbi := F.called_set.init.bind (.ref s.heap.objs.size)
    repeat (any_goals (first | assumption | wp_step))
    refine codeAny_mono (codeAny_call_builtin (R := wants (fun r s₂ => r = .none ∧ ∃ h' tk, s₂ = { s with heap := h', toks := tk } ∧ SetT P w h' s.heap.objs.size zs ∧
        (∀ b o, s.heap.get? b = some o → h'.get? b = some o)) E) F.called_set.init.plain F.entry_set_init (check_set_init_1 hT ?_)) fun r₂ s₂ hr₂ => ?_
    · unfold Builtin.«set.__init__» noKeywords
      generalize hU : Builtin.Frozenset.updateFrom = U
      wp_walk
      subst hU
      refine fill _ _ _ (by simp [hh]) fun h' tk q1 q2 => ?_
      show wpAny _ _ (ret Value.none) _ _ _
      exact wpAny_pure ⟨rfl, h', tk, rfl, q1, q2⟩
    · match r₂, hr₂ with
      | .error e, hr₂ => exact hr₂
      | .ok .next, hr₂ => exact hr₂.elim
      | .ok .brk, hr₂ => exact hr₂.elim
      | .ok .cont, hr₂ => exact hr₂.elim
      | .ok (.ret r), hr₂ =>
        obtain ⟨rfl, h', tk, rfl, q1, q2⟩ := hr₂
        repeat (any_goals (first | assumption | wp_step))
        exact h _ _ q1 q2
end
end E10

set_option Elab.async false
set_option linter.all false
set_option maxRecDepth 100000
set_option maxHeartbeats 4000000
namespace E10
open L2 PySem PySem.Spec PyProof.Rows
section
variable {P : Program} {w : World} {A : Around} {E : Value → Shared → Prop} {s : Shared}
theorem fill_list {l : Addr} {its : Array Value} {xs : List Str} (hl : s.heap.IsList l its) (hi : StrsAre its.toList xs) (room : xs.length + 1 < scanBound) (B : Around) (G : Value → Shared → Prop) (R : Unit → Shared → Prop) (hh : B.handled = none)
    (h : ∀ (h' : Heap) (tk : Nat), SetT P w h' s.heap.objs.size (insAll [] xs) → (∀ b o, s.heap.get? b = some o → h'.get? b = some o) → R () { s with heap := h', toks := tk }) :
    wpAny (model P w) B (Builtin.Frozenset.updateFrom "set.__init__" s.heap.objs.size (.ref l)) R G { s with heap := s.heap.push (newSetO w) } := by
  have isz : its.size = xs.length := by
    have q := StrsAre.length hi
    rwa [Array.length_toList] at q
  obtain ⟨ol, hol, hcl, nl, hdl⟩ := hl
  obtain ⟨ocls, odict, odata, oslots⟩ := ol
  simp only at hcl hdl
  subst hcl
  subst hdl
  have hol' : (s.heap.push (newSetO w)).get? l = some { cls := .type "list", dict := odict, data := .seq its nl, slots := oslots } := Heap.get?_push_of_some _ hol
  have hsls := F.sub_list_set
  have hslf := F.sub_list_frozenset
  have hne : (Value.type "list" == Value.type "dict") = false := by decide
  have hl1 : (s.heap.push (newSetO w)).IsList l its := ⟨_, hol', rfl, nl, rfl⟩
  unfold Builtin.Frozenset.updateFrom
  generalize hPI : pyIter = PI
  wp_walk
  subst hPI
  refine wpAny_pyIter_list hl1 ?_
  refine wpAny_bind (wpAny_runValue ?_)
  have ls : l < s.heap.objs.size := Heap.lt_size hol
  have hh1 : B.in1.handled = none := by simp [hh]
  have zI : (s.heap.push (newSetO w)).objs.size = s.heap.objs.size + 1 := Heap.size_push ..
  have lI : l ≠ (s.heap.push (newSetO w)).objs.size := by rw [zI]; exact Nat.ne_of_lt (Nat.lt_succ_of_lt ls)
  have sf : s.heap.objs.size ∉ [(s.heap.push (newSetO w)).objs.size, l] := by
    rw [zI]
    simp only [List.mem_cons, List.not_mem_nil, or_false, not_or]
    exact ⟨Nat.ne_of_lt (Nat.lt_succ_self _), Nat.ne_of_gt ls⟩
  refine loopT ((Walks.list hh1 _ l lI its).toS) s.heap.objs.size sf [] xs isz (by simpa using room) (fun i v hv => ?_) (its.size - 0) 0 _ (by omega) (Nat.zero_le _)
    ⟨⟨_, Heap.get?_push_size _ rfl, rfl, rfl⟩, hl1.push _⟩ ?_ fun s' hm hS => ?_
  · obtain ⟨y, t, e1, e2⟩ := StrsAre.item hi i v (by rw [Array.getElem?_toList]; exact hv)
    exact ⟨y, t, e2, e1⟩
  · exact setT_new (Heap.get?_push_of_some _ (Heap.get?_push_size _ rfl))
  · obtain ⟨h', g2, d', tk', os'⟩ := s'
    have eg : g2 = s.gens := hm.gens
    have ed : d' = s.drawn := hm.drawn
    have eo : os' = s.os := hm.os
    subst eg
    subst ed
    subst eo
    show wpAny _ _ _ _ _ _
    refine wpAny_pure (h h' tk' hS fun b o e => ?_)
    have lb := Heap.lt_size e
    refine hm.heap b o ?_ (Heap.get?_push_of_some _ (Heap.get?_push_of_some _ e))
    simp only [List.mem_cons, List.not_mem_nil, or_false, not_or]
    rw [zI]
    exact ⟨Nat.ne_of_lt lb, Nat.ne_of_lt (Nat.lt_succ_of_lt lb)⟩
theorem fill_tup {l : Addr} {its : Array Value} {xs : List Str} (hl : s.heap.IsTuple l its) (hi : StrsAre its.toList xs) (room : xs.length + 1 < scanBound) (B : Around) (G : Value → Shared → Prop) (R : Unit → Shared → Prop) (hh : B.handled = none)
    (h : ∀ (h' : Heap) (tk : Nat), SetT P w h' s.heap.objs.size (insAll [] xs) → (∀ b o, s.heap.get? b = some o → h'.get? b = some o) → R () { s with heap := h', toks := tk }) :
    wpAny (model P w) B (Builtin.Frozenset.updateFrom "set.__init__" s.heap.objs.size (.ref l)) R G { s with heap := s.heap.push (newSetO w) } := by
  have isz : its.size = xs.length := by
    have q := StrsAre.length hi
    rwa [Array.length_toList] at q
  obtain ⟨ol, hol, hcl, nl, hdl⟩ := hl
  obtain ⟨ocls, odict, odata, oslots⟩ := ol
  simp only at hcl hdl
  subst hcl
  subst hdl
  have hol' : (s.heap.push (newSetO w)).get? l = some { cls := .type "tuple", dict := odict, data := .seq its nl, slots := oslots } := Heap.get?_push_of_some _ hol
  have hsls := F.sub_tuple_set
  have hslf := F.sub_tuple_frozenset
  have hne : (Value.type "tuple" == Value.type "dict") = false := by decide
  have hl1 : (s.heap.push (newSetO w)).IsTuple l its := ⟨_, hol', rfl, nl, rfl⟩
  unfold Builtin.Frozenset.updateFrom
  generalize hPI : pyIter = PI
  wp_walk
  subst hPI
  refine wpAny_pyIter_tuple hl1 ?_
  refine wpAny_bind (wpAny_runValue ?_)
  have ls : l < s.heap.objs.size := Heap.lt_size hol
  have hh1 : B.in1.handled = none := by simp [hh]
  have zI : (s.heap.push (newSetO w)).objs.size = s.heap.objs.size + 1 := Heap.size_push ..
  have lI : l ≠ (s.heap.push (newSetO w)).objs.size := by rw [zI]; exact Nat.ne_of_lt (Nat.lt_succ_of_lt ls)
  have sf : s.heap.objs.size ∉ [(s.heap.push (newSetO w)).objs.size, l] := by
    rw [zI]
    simp only [List.mem_cons, List.not_mem_nil, or_false, not_or]
    exact ⟨Nat.ne_of_lt (Nat.lt_succ_self _), Nat.ne_of_gt ls⟩
  refine loopT ((Walks.tuple hh1 _ l lI its).toS) s.heap.objs.size sf [] xs isz (by simpa using room) (fun i v hv => ?_) (its.size - 0) 0 _ (by omega) (Nat.zero_le _)
    ⟨⟨_, Heap.get?_push_size _ rfl, rfl, rfl⟩, hl1.push _⟩ ?_ fun s' hm hS => ?_
  · obtain ⟨y, t, e1, e2⟩ := StrsAre.item hi i v (by rw [Array.getElem?_toList]; exact hv)
    exact ⟨y, t, e2, e1⟩
  · exact setT_new (Heap.get?_push_of_some _ (Heap.get?_push_size _ rfl))
  · obtain ⟨h', g2, d', tk', os'⟩ := s'
    have eg : g2 = s.gens := hm.gens
    have ed : d' = s.drawn := hm.drawn
    have eo : os' = s.os := hm.os
    subst eg
    subst ed
    subst eo
    show wpAny _ _ _ _ _ _
    refine wpAny_pure (h h' tk' hS fun b o e => ?_)
    have lb := Heap.lt_size e
    refine hm.heap b o ?_ (Heap.get?_push_of_some _ (Heap.get?_push_of_some _ e))
    simp only [List.mem_cons, List.not_mem_nil, or_false, not_or]
    rw [zI]
    exact ⟨Nat.ne_of_lt lb, Nat.ne_of_lt (Nat.lt_succ_of_lt lb)⟩
end
end E10

set_option Elab.async false
set_option linter.all false
set_option maxRecDepth 100000
set_option maxHeartbeats 4000000
/-! ### a set's table laid anew: every text finds a slot -/
namespace E10
open L2 PySem PySem.Spec PyProof.Rows
/-- the slots one behind the other once the hash's high part is used up -/
def hop (m : Nat) : Nat → Nat → Nat
  | 0, i => i
  | n + 1, i => hop m n ((i * 5 + 1) % (m + 1))
def meets (m i : Nat) : Nat → Nat → Bool
  | 0, _ => false
  | n + 1, j => j == i || meets m i n ((j * 5 + 1) % (m + 1))
theorem meets_hop {m i : Nat} : ∀ {n j : Nat}, meets m i n j = true → ∃ k, k < n ∧ hop m k j = i
  | 0, _, h => nomatch h
  | n + 1, j, h => by
    rw [show meets m i (n + 1) j = (j == i || meets m i n ((j * 5 + 1) % (m + 1))) from rfl, Bool.or_eq_true] at h
    rcases h with h | h
    · exact ⟨0, Nat.succ_pos _, eq_of_beq h⟩
    · obtain ⟨k, lt, e⟩ := meets_hop h
      exact ⟨k + 1, Nat.succ_lt_succ lt, e⟩
def Mask (m : Nat) : Prop := m = 7 ∨ m = 15 ∨ m = 31 ∨ m = 63
theorem meets_all {m : Nat} (h : Mask m) : ∀ i, i ≤ m → ∀ j, j ≤ m → meets m i (m + 1) j = true := by
  have k : ∀ m, ((List.range (m + 1)).all fun i => (List.range (m + 1)).all fun j => meets m i (m + 1) j) = true → ∀ i, i ≤ m → ∀ j, j ≤ m → meets m i (m + 1) j = true := fun m h i hi j hj =>
    List.all_eq_true.mp (List.all_eq_true.mp h i (List.mem_range.mpr (by omega))) j (List.mem_range.mpr (by omega))
  rcases h with rfl | rfl | rfl | rfl
  · exact k 7 (by decide +kernel)
  · exact k 15 (by decide +kernel)
  · exact k 31 (by decide +kernel)
  · exact k 63 (by decide +kernel)
/-- after n leaps -/
def leaps (m : Nat) : Nat → Nat → Nat → Nat × Nat
  | 0, i, p => (i, p)
  | n + 1, i, p => leaps m n (SetTable.leap m i p).1 (SetTable.leap m i p).2
theorem leaps_snd (m : Nat) : ∀ (n i p : Nat), (leaps m n i p).2 = p / 32 ^ n
  | 0, i, p => by simp [leaps]
  | n + 1, i, p => by
    rw [show leaps m (n + 1) i p = leaps m n (SetTable.leap m i p).1 (SetTable.leap m i p).2 from rfl, leaps_snd m n]
    show p / 32 / 32 ^ n = _
    rw [Nat.div_div_eq_div_mul, Nat.pow_succ, Nat.mul_comm]
theorem leaps_fst {m : Nat} : ∀ {n i p : Nat}, i ≤ m → (leaps m n i p).1 ≤ m
  | 0, i, p, h => h
  | n + 1, i, p, h => leaps_fst (n := n) (by
    show (i * 5 + 1 + p / 32) % (m + 1) ≤ m
    exact Nat.le_of_lt_succ (Nat.mod_lt _ (Nat.succ_pos m)))
theorem run_from (m i : Nat) : i ≤ SetTable.runEnd m i := by
  unfold SetTable.runEnd
  split <;> omega
section
variable {m : Nat} {owner : Array (Option Nat)}
abbrev freeS (m : Nat) (owner : Array (Option Nat)) := SetTable.layClean.free m owner
theorem free_step {f i p : Nat} (h : freeS m owner (f + 1) i p = none) : (owner.getD i (some 0)).isNone = false ∧ freeS m owner f (SetTable.leap m i p).1 (SetTable.leap m i p).2 = none := by
  unfold freeS SetTable.layClean.free at h
  split at h
  · cases h
  · rename_i e
    refine ⟨?_, h⟩
    have q := List.find?_eq_none.mp e 0 (List.mem_range.mpr (by have := run_from m i; omega))
    exact Bool.eq_false_iff.mpr (by simpa only [Nat.add_zero] using q)
theorem free_skip : ∀ {n f i p : Nat}, freeS m owner (n + f) i p = none → freeS m owner f (leaps m n i p).1 (leaps m n i p).2 = none
  | 0, f, i, p, h => by rw [Nat.zero_add] at h; exact h
  | n + 1, f, i, p, h => by
    rw [show n + 1 + f = (n + f) + 1 by omega] at h
    exact free_skip (n := n) (free_step h).2
theorem free_hops : ∀ {f i : Nat}, freeS m owner f i 0 = none → ∀ k, k < f → (owner.getD (hop m k i) (some 0)).isNone = false
  | 0, _, _, k, lt => absurd lt (Nat.not_lt_zero k)
  | f + 1, i, h, 0, _ => (free_step h).1
  | f + 1, i, h, k + 1, lt => by
    have q := (free_step h).2
    have e : SetTable.leap m i 0 = ((i * 5 + 1) % (m + 1), 0) := by
      unfold SetTable.leap
      simp
    rw [e] at q
    exact free_hops q k (Nat.lt_of_succ_lt_succ lt)
theorem free_some (hm : Mask m) {i p j : Nat} (hi : i ≤ m) (hp : p < 2 ^ 64) (hj : j ≤ m) (fr : (owner.getD j (some 0)).isNone = true) : ∃ k, freeS m owner (SetTable.turns m) i p = some k := by
  cases e : freeS m owner (SetTable.turns m) i p with
  | some k => exact ⟨k, rfl⟩
  | none =>
    rw [show SetTable.turns m = 13 + (m + 2) by unfold SetTable.turns; omega] at e
    have q := free_skip e
    rw [leaps_snd, show p / 32 ^ 13 = 0 from Nat.div_eq_of_lt (Nat.lt_of_lt_of_le hp (by decide))] at q
    obtain ⟨k, lt, ek⟩ := meets_hop (meets_all hm j hj _ (leaps_fst (n := 13) (p := p) hi))
    have z := free_hops q k (by omega)
    rw [ek, fr] at z
    cases z
theorem free_at : ∀ {f i p k : Nat}, freeS m owner f i p = some k → (owner.getD k (some 0)).isNone = true
  | 0, _, _, _, h => nomatch h
  | f + 1, i, p, k, h => by
    unfold freeS SetTable.layClean.free at h
    split at h
    · rename_i c e
      obtain rfl := Option.some.inj h
      exact List.find?_some (p := fun k => (owner.getD (i + k) (some 0)).isNone) e
    · exact free_at h
end
/-! ### laying all -/
theorem fm_congr {α β : Type} {f g : α → Option β} : ∀ {l : List α}, (∀ x ∈ l, g x = f x) → l.filterMap g = l.filterMap f
  | [], _ => rfl
  | x :: l, h => by
    have ih := fm_congr fun y hy => h y (.tail _ hy)
    have e := h x (.head _)
    cases c : f x with
    | none => rw [List.filterMap_cons_none c, List.filterMap_cons_none (e.trans c), ih]
    | some y => rw [List.filterMap_cons_some c, List.filterMap_cons_some (e.trans c), ih]
theorem fm_one {α β : Type} [DecidableEq α] {f g : α → Option β} {j : α} {b : β} : ∀ {l : List α}, l.Nodup → j ∈ l → f j = none → g j = some b → (∀ x, x ≠ j → g x = f x) → (l.filterMap g).Perm (b :: l.filterMap f)
  | [], _, h, _, _, _ => nomatch h
  | x :: l, nd, h, fj, gj, e => by
    obtain ⟨nx, nl⟩ := List.nodup_cons.mp nd
    by_cases q : x = j
    · subst q
      rw [List.filterMap_cons_some gj, List.filterMap_cons_none fj]
      have : l.filterMap g = l.filterMap f := fm_congr fun y hy => e y fun z => nx (z ▸ hy)
      rw [this]
    · have hl : j ∈ l := (List.mem_cons.mp h).resolve_left fun z => q z.symm
      have ih := fm_one nl hl fj gj e
      cases c : f x with
      | none =>
        rw [List.filterMap_cons_none (by rw [e x q]; exact c), List.filterMap_cons_none c]
        exact ih
      | some y =>
        rw [List.filterMap_cons_some (by rw [e x q]; exact c), List.filterMap_cons_some c]
        exact (List.Perm.cons y ih).trans (List.Perm.swap _ _ _)
theorem fm_len {α β : Type} {f : α → Option β} : ∀ {l : List α}, (∀ x ∈ l, (f x).isSome = true) → (l.filterMap f).length = l.length
  | [], _ => rfl
  | x :: l, h => by
    obtain ⟨y, e⟩ := Option.isSome_iff_exists.mp (h x (.head _))
    rw [List.filterMap_cons_some e, List.length_cons, List.length_cons, fm_len fun z hz => h z (.tail _ hz)]
/-- what is laid after k texts -/
structure Laid (m k : Nat) (owner : Array (Option Nat)) : Prop where
  sz : owner.size = m + 1
  pm : ((List.range (m + 1)).filterMap fun j => owner.getD j none).Perm (List.range k)
theorem Laid.zero (m : Nat) : Laid m 0 (Array.replicate (m + 1) none) := by
  refine ⟨Array.size_replicate, ?_⟩
  have : ((List.range (m + 1)).filterMap fun j => (Array.replicate (m + 1) (none : Option Nat)).getD j none) = [] := by
    refine List.filterMap_eq_nil_iff.mpr fun j hj => ?_
    simp [Array.getD_eq_getD_getElem?, Array.getElem?_replicate]
    split <;> rfl
  rw [this]
  exact .nil
theorem Laid.room {m k : Nat} {owner : Array (Option Nat)} (h : Laid m k owner) (lt : k < m + 1) : ∃ j, j ≤ m ∧ (owner.getD j (some 0)).isNone = true := by
  refine Classical.byContradiction fun no => ?_
  have all : ∀ j ∈ List.range (m + 1), (owner.getD j none).isSome = true := fun j hj => by
    have jl : j < m + 1 := List.mem_range.mp hj
    cases c : owner.getD j none with
    | some y => rfl
    | none =>
      refine (no ⟨j, by omega, ?_⟩).elim
      have js : j < owner.size := by rw [h.sz]; exact jl
      simp [Array.getD_eq_getD_getElem?, Array.getElem?_eq_getElem js] at c ⊢
      exact c
  have q := fm_len all
  rw [h.pm.length_eq, List.length_range, List.length_range] at q
  omega
theorem Laid.next {m k j : Nat} {owner : Array (Option Nat)} (h : Laid m k owner) (fr : (owner.getD j (some 0)).isNone = true) : Laid m (k + 1) (owner.setIfInBounds j (some k)) := by
  have js : j < owner.size := by
    refine Classical.byContradiction fun no => ?_
    simp [Array.getD_eq_getD_getElem?, Array.getElem?_eq_none (Nat.le_of_not_lt no)] at fr
  have fj : owner.getD j none = none := by
    simp [Array.getD_eq_getD_getElem?, Array.getElem?_eq_getElem js] at fr ⊢
    exact fr
  refine ⟨by rw [Array.size_setIfInBounds]; exact h.sz, ?_⟩
  refine (fm_one (f := fun x => owner.getD x none) (g := fun x => (owner.setIfInBounds j (some k)).getD x none) (j := j) (b := k) List.nodup_range (List.mem_range.mpr (by rw [← h.sz]; exact js)) fj ?_ fun x nx => ?_).trans ?_
  · simp [Array.getD_eq_getD_getElem?, Array.getElem?_setIfInBounds, js]
  · simp [Array.getD_eq_getD_getElem?, Array.getElem?_setIfInBounds, Ne.symm nx]
  · rw [show List.range (k + 1) = List.range k ++ [k] from List.range_succ]
    exact (List.Perm.cons k h.pm).trans (List.perm_append_singleton _ _).symm
end E10

set_option Elab.async false
set_option linter.all false
set_option maxRecDepth 100000
set_option maxHeartbeats 4000000
namespace E10
open L2 PySem PySem.Spec PyProof.Rows
theorem bits_lt (h : Int) : SetTable.bits h < 2 ^ 64 := by
  unfold SetTable.bits
  have a := Int.emod_nonneg h (b := (2 ^ 64 : Int)) (by decide)
  have b := Int.emod_lt_of_pos h (b := (2 ^ 64 : Int)) (by decide)
  omega
/-- one more text -/
def lay1 (m : Nat) (acc : Option (Array (Option Nat) × Nat)) (h : Int) : Option (Array (Option Nat) × Nat) := do
  let (owner, k) ← acc
  let j ← SetTable.layClean.free m owner (SetTable.turns m) (SetTable.bits h % (m + 1)) (SetTable.bits h)
  pure (owner.setIfInBounds j (some k), k + 1)
theorem lay_all {m : Nat} (hm : Mask m) : ∀ (hs : List Int) (k : Nat) (owner : Array (Option Nat)), Laid m k owner → k + hs.length ≤ m + 1 → ∃ owner', hs.foldl (lay1 m) (some (owner, k)) = some (owner', k + hs.length) ∧ Laid m (k + hs.length) owner'
  | [], k, owner, L, _ => ⟨owner, rfl, L⟩
  | h :: hs, k, owner, L, le => by
    rw [List.length_cons] at le
    obtain ⟨j0, j0m, fr⟩ := L.room (by omega)
    obtain ⟨j, ej⟩ := free_some hm (i := SetTable.bits h % (m + 1)) (Nat.le_of_lt_succ (Nat.mod_lt _ (Nat.succ_pos m))) (bits_lt h) j0m fr
    have L1 := L.next (free_at ej)
    obtain ⟨owner', e, L2⟩ := lay_all hm hs (k + 1) _ L1 (by omega)
    refine ⟨owner', ?_, ?_⟩
    · rw [List.foldl_cons, show lay1 m (some (owner, k)) h = some (owner.setIfInBounds j (some k), k + 1) by
        unfold lay1
        simp only [Option.bind_eq_bind, Option.bind_some]
        rw [show SetTable.layClean.free m owner (SetTable.turns m) (SetTable.bits h % (m + 1)) (SetTable.bits h) = some j from ej]
        rfl, e, List.length_cons]
      congr 2
      omega
    · rw [List.length_cons, show k + (hs.length + 1) = k + 1 + hs.length by omega]
      exact L2
theorem layClean_ok {m : Nat} (hm : Mask m) {hs : Array Int} (le : hs.size ≤ m + 1) : ∃ owner, SetTable.layClean m hs = some owner ∧ Laid m hs.size owner := by
  obtain ⟨owner, e, L⟩ := lay_all hm hs.toList 0 _ (Laid.zero m) (by simpa using le)
  rw [Array.length_toList, Nat.zero_add] at e L
  refine ⟨owner, ?_, L⟩
  unfold SetTable.layClean
  rw [← Array.foldl_toList]
  exact congrArg (fun z => Option.map (·.1) z) e
/-- what is laid anew -/
structure LaidAs (m finger moves n : Nat) (led plain : Bool) (t : SetTable) (order : Array Nat) : Prop where
  pm : order.toList.Perm (List.range n)
  mask : t.mask = m
  pl : t.place.size = n
  du : t.dummies = #[]
  led : t.led = led
  ris : Ris t.place.toList
theorem laid_ok {m finger moves : Nat} {led plain : Bool} (hm : Mask m) {hs : Array Int} (le : hs.size ≤ m + 1) : ∃ t order, SetTable.laid m finger moves led plain hs = some (t, order) ∧ LaidAs m finger moves hs.size led plain t order := by
  obtain ⟨owner, e, L⟩ := layClean_ok hm le
  unfold SetTable.laid
  rw [e]
  refine ⟨_, _, rfl, ?_⟩
  have ord : (((List.range (m + 1)).filterMap fun j => (owner.getD j none).map (j, ·)).map (·.2)) = (List.range (m + 1)).filterMap fun j => owner.getD j none := by
    rw [List.map_filterMap]
    refine fm_congr fun x _ => ?_
    cases owner.getD x none <;> rfl
  have len : ((List.range (m + 1)).filterMap fun j => (owner.getD j none).map (j, ·)).length = hs.size := by
    have q := congrArg List.length ord
    rw [List.length_map] at q
    rw [q, L.pm.length_eq, List.length_range]
  refine ⟨?_, rfl, ?_, rfl, rfl, ?_⟩
  · show (((List.range (m + 1)).filterMap fun j => (owner.getD j none).map (j, ·)).map (·.2)).toArray.toList.Perm _
    rw [List.toList_toArray, ord]
    exact L.pm
  · show ((((List.range (m + 1)).filterMap fun j => (owner.getD j none).map (j, ·)).map (·.1)).toArray).size = _
    rw [List.size_toArray, List.length_map, len]
  · show Ris ((((List.range (m + 1)).filterMap fun j => (owner.getD j none).map (j, ·)).map (·.1)).toArray).toList
    rw [List.toList_toArray]
    have sub : ((((List.range (m + 1)).filterMap fun j => (owner.getD j none).map (j, ·)).map (·.1))).Sublist (List.range (m + 1)) := by
      generalize List.range (m + 1) = l
      induction l with
      | nil => exact .slnil
      | cons x r ih =>
        cases c : owner.getD x none with
        | none =>
          rw [List.filterMap_cons_none (by rw [c]; rfl)]
          exact .cons _ ih
        | some y =>
          rw [List.filterMap_cons_some (b := (x, y)) (by rw [c]; rfl), List.map_cons]
          exact .cons₂ _ ih
    exact List.Pairwise.sublist sub List.pairwise_lt_range
end E10

set_option Elab.async false
set_option linter.all false
set_option maxRecDepth 100000
set_option maxHeartbeats 4000000
/-! ### sets of texts: more room, a copy -/
namespace E10
open L2 PySem PySem.Spec PyProof.Rows
theorem wide {n : Nat} (h : n < 64) : Mask (SetTable.sizeAbove n - 1) ∧ n ≤ SetTable.sizeAbove n - 1 ∧ SetTable.sizeAbove n ≤ sizeLine := by
  have k : ((List.range 64).all fun n => (decide (SetTable.sizeAbove n - 1 = 7) || (decide (SetTable.sizeAbove n - 1 = 15) || (decide (SetTable.sizeAbove n - 1 = 31) || decide (SetTable.sizeAbove n - 1 = 63)))) && (decide (n ≤ SetTable.sizeAbove n - 1) && decide (SetTable.sizeAbove n ≤ sizeLine))) = true := by decide +kernel
  have q := List.all_eq_true.mp k n (List.mem_range.mpr h)
  rw [Bool.and_eq_true, Bool.and_eq_true, Bool.or_eq_true, Bool.or_eq_true, Bool.or_eq_true, decide_eq_true_eq, decide_eq_true_eq, decide_eq_true_eq, decide_eq_true_eq, decide_eq_true_eq, decide_eq_true_eq] at q
  exact ⟨q.1, q.2.1, q.2.2⟩
section
variable {P : Program} {w : World} {A : Around} {E : Value → Shared → Prop} {s : Shared} {a : Addr} {zs : List Str}
theorem order_perm {es : Array (Int × Value)} {order : Array Nat} (pm : order.toList.Perm (List.range es.size)) : (order.filterMap (es[·]?)).toList.Perm es.toList := by
  rw [Array.toList_filterMap]
  exact (pm.filterMap _).trans (by rw [filterMap_getElem?_range])
/-- a set of texts laid anew, in a table of the given width -/
theorem relayT {wanted : Nat} {o : Obj} {es : Array (Int × Value)} {ep : Nat} {t : SetTable} {Q : Unit → Shared → Prop} (ho : s.heap.get? a = some o) (hex : o.ExactSet) (hd : o.data = .set es ep t) (D : SetD P w es t zs)
    (hw : wanted < 64) (le : zs.length ≤ wanted)
    (hQ : ∀ h' es' ep' t', Heap.SameBut a s.heap h' → h'.get? a = some { o with data := .set es' ep' t' } → SetD P w es' t' zs → t'.mask = SetTable.sizeAbove wanted - 1 → t'.dummies = #[] → Q () { s with heap := h' }) :
    wpAny (model P w) A (setRelay a wanted) Q E s := by
  obtain ⟨hm, hn, hl⟩ := wide hw
  have few : es.size < scanBound := by rw [D.size]; exact D.few
  unfold setRelay
  refine wpAny_bind (wpAny_setState_of ho hd D.fits ?_)
  dsimp only
  rw [if_neg (Nat.not_lt.mpr hl)]
  obtain ⟨t', order, e, L⟩ := laid_ok (finger := t.finger) (moves := t.movedTo (SetTable.sizeAbove wanted - 1)) (led := t.led) (plain := t.plain) hm (hs := es.map (·.1)) (by rw [Array.size_map, D.size]; omega)
  rw [show t.relaid (es.map (·.1)) wanted = some (t', order) from e]
  rw [Array.size_map] at L
  have pm := order_perm L.pm
  have sz : (order.filterMap (es[·]?)).size = es.size := by rw [← Array.length_toList, pm.length_eq, Array.length_toList]
  have D2 : SetD P w (order.filterMap (es[·]?)) t' zs := by
    refine ⟨fun e he => D.good e (pm.mem_iff.mp he), (pm.map txtOf).trans D.perm, D.nd, D.few, ?_, L.ris, D.led.imp id fun z => by rw [L.led]; exact z⟩
    unfold SetTable.fits SetTable.fill
    rw [sz, L.pl, L.du, L.mask, beq_self_eq_true, Bool.true_and]
    refine decide_eq_true ?_
    rw [D.size]
    simp
    omega
  have red : ∀ {R : Array (Int × Value) × SetTable → Shared → Prop}, R (order.filterMap (es[·]?), t') s → wpAny (model P w) A (do
      let es' := order.filterMap (es[·]?)
      if (es'.size != es.size) = true then (unsupported "internal:set-table-lost-an-element" : Sem Unit)
      pure (es', t')) R E s := fun {R} q => by
    dsimp only
    rw [sz, bne_self_eq_false]
    exact wpAny_bind (wpAny_pure (wpAny_pure q))
  refine wpAny_bind (red ?_)
  dsimp only
  refine wpAny_storeSet_of ho hd ?_ (fits_of_scanBound (by rw [D2.size]; exact D2.few))
  exact hQ _ _ _ _ (Heap.SameBut.update s.heap a _) (put_at ho hd) D2 L.mask L.du
/-- room for more texts -/
theorem roomT {more : Nat} {Q : Unit → Shared → Prop} (R : SetT P w s.heap a zs) (few : (zs.length + more) * 2 < 64) (hQ : ∀ h', Heap.SameBut a s.heap h' → SetT P w h' a zs → Q () { s with heap := h' }) :
    wpAny (model P w) A (setRoomFor a more) Q E s := by
  obtain ⟨o, es, ep, t, ho, hex, hd, D⟩ := R
  unfold setRoomFor
  refine wpAny_bind (wpAny_setState_of ho hd D.fits ?_)
  dsimp only
  cases e : t.roomFor more with
  | none => exact wpAny_pure (hQ _ (Heap.SameBut.refl a s.heap) ⟨o, es, ep, t, ho, hex, hd, D⟩)
  | some wanted =>
    have ew : wanted = (zs.length + more) * 2 := by
      unfold SetTable.roomFor at e
      split at e
      · have pl : t.place.size = es.size := by
          have q := D.fits
          unfold SetTable.fits at q
          rw [Bool.and_eq_true] at q
          exact eq_of_beq q.1
        rw [← D.size, ← pl]
        exact (Option.some.inj e).symm
      · cases e
    subst ew
    exact relayT ho hex hd D few (by omega) fun h' es' ep' t' sb h1 D1 _ _ => hQ h' sb ⟨_, es', ep', t', h1, hex, rfl, D1⟩
/-- an empty set's object, with room -/
structure Bare (P : Program) (w : World) (h : Heap) (a : Addr) (n : Nat) : Prop where
  ex : ∃ ep t, h.get? a = some { cls := .type "set", dict := none, data := .set #[] ep t } ∧ SetD P w #[] t [] ∧ Mask t.mask ∧ n ≤ t.mask ∧ t.fill = 0
theorem roomB {n : Nat} {Q : Unit → Shared → Prop} (ho : s.heap.get? a = some (newSetO w)) (few : n * 2 < 64) (hQ : ∀ h', Heap.SameBut a s.heap h' → Bare P w h' a n → Q () { s with heap := h' }) :
    wpAny (model P w) A (setRoomFor a n) Q E s := by
  obtain ⟨o1, es1, ep1, t1, ho1, hex, hd, D⟩ := setT_new (P := P) ho
  obtain rfl := Option.some.inj (ho.symm.trans ho1)
  injection hd with e1 e2 e3
  subst e1
  subst e2
  subst e3
  unfold setRoomFor
  refine wpAny_bind (wpAny_setState_of ho rfl D.fits ?_)
  dsimp only
  cases e : (SetTable.fresh 0 0 (!w.params.followText "set-order")).roomFor n with
  | none =>
    refine wpAny_pure (hQ _ (Heap.SameBut.refl a s.heap) ⟨0, _, ho, D, .inl rfl, ?_, rfl⟩)
    unfold SetTable.roomFor at e
    split at e
    · cases e
    · rename_i q
      have : ¬ (0 + n) * 5 ≥ 7 * 3 := q
      show n ≤ 7
      omega
  | some wanted =>
    have ew : wanted = n * 2 := by
      unfold SetTable.roomFor at e
      split at e
      · have := Option.some.inj e
        rw [← this]
        show (0 + n) * 2 = _
        rw [Nat.zero_add]
      · cases e
    subst ew
    obtain ⟨hm, hn, _⟩ := wide few
    refine relayT (zs := []) ho ⟨rfl, rfl, rfl⟩ rfl D few (Nat.zero_le _) fun h' es' ep' t' sb h1 D1 em ed => hQ h' sb ?_
    have z := D1.size
    rw [List.length_nil] at z
    obtain rfl : es' = #[] := Array.eq_empty_of_size_eq_zero z
    refine ⟨ep', t', h1, D1, by rw [em]; exact hm, by rw [em]; omega, ?_⟩
    have q := D1.fits
    unfold SetTable.fits at q
    rw [Bool.and_eq_true] at q
    unfold SetTable.fill
    rw [eq_of_beq q.1, ed]
    rfl
end
end E10

set_option Elab.async false
set_option linter.all false
set_option maxRecDepth 100000
set_option maxHeartbeats 4000000
/-! ### sets of texts: a copy, and joined with another -/
namespace E10
open L2 PySem PySem.Spec PyProof.Rows
section
variable {P : Program} {w : World} {A : Around} {E : Value → Shared → Prop} {s : Shared} {r o : Addr} {zs ys : List Str}
theorem copyT {each : Sem Unit} {Q : Unit → Shared → Prop} (hr : s.heap.get? r = some (newSetO w)) (R : SetT P w s.heap o zs) (ne : r ≠ o) (few : zs.length * 2 < 64)
    (hQ : ∀ h', Heap.SameBut r s.heap h' → SetT P w h' r zs → Q () { s with heap := h' }) : wpAny (model P w) A (setMerge r o each) Q E s := by
  obtain ⟨oo, eo, epo, to, ho, hexo, hdo, D⟩ := R
  unfold setMerge
  rw [show (r == o) = false from beq_eq_false_iff_ne.mpr ne]
  simp only [Bool.false_eq_true, ↓reduceIte]
  refine wpAny_bind (wpAny_setState_of ho hdo D.fits ?_)
  dsimp only
  by_cases em : eo.isEmpty = true
  · rw [if_pos em]
    have z : zs = [] := by
      have q := D.size
      rw [Array.isEmpty_iff_size_eq_zero.mp em] at q
      exact List.eq_nil_of_length_eq_zero q.symm
    subst z
    exact wpAny_pure (hQ _ (Heap.SameBut.refl r s.heap) (setT_new hr))
  · rw [if_neg em]
    refine wpAny_bind (roomB (n := eo.size) hr (by rw [D.size]; exact few) fun h1 sb1 B => ?_)
    obtain ⟨ep, t, h1r, D1, hm, hn, hf⟩ := B
    refine wpAny_bind (wpAny_setState_of (s := { s with heap := h1 }) h1r rfl D1.fits ?_)
    dsimp only
    have few' : eo.size < scanBound := by rw [D.size]; exact D.few
    have led : w.params.followText "set-order" = true ∨ (t.led && to.led) = true := by
      rcases D1.led with q | q
      · exact .inl q
      · rcases D.led with p | p
        · exact .inl p
        · exact .inr (by rw [q, p]; rfl)
    unfold SetTable.road
    rw [hf]
    simp only [bne_self_eq_false, Bool.false_eq_true, ↓reduceIte]
    by_cases sl : (t.mask == to.mask && to.dummies.isEmpty) = true
    · rw [if_pos sl]
      dsimp only
      refine wpAny_storeSet_of (s := { s with heap := h1 }) h1r rfl ?_ (fits_of_scanBound few')
      exact hQ _ (sb1.trans (Heap.SameBut.update _ r _)) ⟨_, eo, _, _, put_at h1r rfl, ⟨rfl, rfl, rfl⟩, rfl, D.good, D.perm, D.nd, D.few, D.fits, D.ris, led⟩
    · rw [if_neg sl]
      dsimp only
      obtain ⟨t', order, e, L⟩ := laid_ok (finger := t.finger) (moves := t.moves) (led := t.led && to.led) (plain := t.plain && to.plain) hm (hs := eo.map (·.1)) (by rw [Array.size_map]; omega)
      rw [e]
      rw [Array.size_map] at L
      have pm := order_perm L.pm
      have sz : (order.filterMap (eo[·]?)).size = eo.size := by rw [← Array.length_toList, pm.length_eq, Array.length_toList]
      have D2 : SetD P w (order.filterMap (eo[·]?)) t' zs := by
        refine ⟨fun e he => D.good e (pm.mem_iff.mp he), (pm.map txtOf).trans D.perm, D.nd, D.few, ?_, L.ris, by rw [L.led]; exact led⟩
        unfold SetTable.fits SetTable.fill
        rw [sz, L.pl, L.du, L.mask, beq_self_eq_true, Bool.true_and]
        refine decide_eq_true ?_
        simp
        exact hn
      have red : ∀ {R : Array (Int × Value) × SetTable → Shared → Prop}, R (order.filterMap (eo[·]?), t') { s with heap := h1 } → wpAny (model P w) A (do
          let es' := order.filterMap (eo[·]?)
          if (es'.size != eo.size) = true then (unsupported "internal:set-table-lost-an-element" : Sem Unit)
          pure (es', t')) R E { s with heap := h1 } := fun {R} q => by
        dsimp only
        rw [sz, bne_self_eq_false]
        exact wpAny_bind (wpAny_pure (wpAny_pure q))
      refine wpAny_bind (red ?_)
      dsimp only
      refine wpAny_storeSet_of (s := { s with heap := h1 }) h1r rfl ?_ (fits_of_scanBound (by rw [sz]; exact few'))
      exact hQ _ (sb1.trans (Heap.SameBut.update _ r _)) ⟨_, _, _, _, put_at h1r rfl, ⟨rfl, rfl, rfl⟩, rfl, D2⟩
end
end E10

set_option Elab.async false
set_option linter.all false
set_option maxRecDepth 100000
set_option maxHeartbeats 4000000
/-! ### a layer of values without addresses: what an expression is worth, as a function of the slots and of the few things that change -/
namespace Pu
open L2 PySem PySem.Spec PyProof.Rows E10
/-- a value that nothing changes any more -/
inductive P where
  | non | bl (b : Bool) | int (i : Int) | str (x : Str) | ref (a : Addr) | ty (n : String)
  | tup (xs : List P) | lst (xs : List P) | dct (ks : List (Key × P)) | ins (C : Addr) (fs : List (Str × P)) | set (f : Addr → List Str → HO) (zs : List Str)
/-- what stands as it is until it goes -/
def solid : HO → Bool
  | .lst _ | .dK _ | .dT _ | .set _ _ => false
  | _ => true
/-- a value, or the place of something that changes -/
inductive W where
  | v (p : P) | loc (j : Nat)
/-- what stands at a place -/
inductive PC where
  | lst (xs : List P) | dct (ks : List (Key × P)) | ins (C : Addr) (fs : List (Str × P)) | dead
abbrev Γ := List (Option W)
abbrev Μ := List PC
abbrev Ps := List (Option Addr)
mutual
inductive Rep (D : Addr → Prop) (H : Hp) : V → P → Prop
  | non : Rep D H .non .non
  | bl {b} : Rep D H (.bl b) (.bl b)
  | int {i} : Rep D H (.int i) (.int i)
  | str {x} : Rep D H (.str x) (.str x)
  | ref {a} : Rep D H (.ref a) (.ref a)
  | ty {n} : Rep D H (.ty n) (.ty n)
  | tup {a xs ps} : ¬ D a → Rd H a (.tup xs) → Reps D H xs ps → Rep D H (.ref a) (.tup ps)
  | lst {a xs ps} : ¬ D a → Rd H a (.lst xs) → Reps D H xs ps → Rep D H (.ref a) (.lst ps)
  | dct {a xs ps} : ¬ D a → Rd H a (.dK xs) → RepK D H xs ps → Rep D H (.ref a) (.dct ps)
  | ins {a C dx xs ps} : ¬ D a → H a = some (.ins C dx xs) → RepS D H xs ps → Rep D H (.ref a) (.ins C ps)
  | set {a f zs} : ¬ D a → H a = some (f a zs) → solid (f a zs) = true → Rep D H (.ref a) (.set f zs)
inductive Reps (D : Addr → Prop) (H : Hp) : List V → List P → Prop
  | nil : Reps D H [] []
  | cons {v p l m} : Rep D H v p → Reps D H l m → Reps D H (v :: l) (p :: m)
inductive RepK (D : Addr → Prop) (H : Hp) : List (Key × V) → List (Key × P) → Prop
  | nil : RepK D H [] []
  | cons {k v p l m} : Rep D H v p → RepK D H l m → RepK D H ((k, v) :: l) ((k, p) :: m)
inductive RepS (D : Addr → Prop) (H : Hp) : List (Str × V) → List (Str × P) → Prop
  | nil : RepS D H [] []
  | cons {k v p l m} : Rep D H v p → RepS D H l m → RepS D H ((k, v) :: l) ((k, p) :: m)
end
/-- what values lean on stands: from D, H to D', H' -/
structure Sd (D : Addr → Prop) (H : Hp) (D' : Addr → Prop) (H' : Hp) : Prop where
  d : ∀ a o, ¬ D a → H a = some o → ¬ D' a
  r : ∀ a u, ¬ D a → Rd H a u → Rd H' a u
  s : ∀ a o, ¬ D a → H a = some o → solid o = true → H' a = some o
section
variable {D D' : Addr → Prop} {H H' : Hp}
theorem Sd.rd (s : Sd D H D' H') {a : Addr} {u : HO} (n : ¬ D a) (h : Rd H a u) : ¬ D' a := by
  rcases h with h | ⟨o, h⟩
  · exact s.d a _ n h
  · exact s.d a _ n h
mutual
theorem Rep.sd (s : Sd D H D' H') : ∀ {v p}, Rep D H v p → Rep D' H' v p
  | _, _, .non => .non
  | _, _, .bl => .bl
  | _, _, .int => .int
  | _, _, .str => .str
  | _, _, .ref => .ref
  | _, _, .ty => .ty
  | _, _, .tup n h r => .tup (s.rd n h) (s.r _ _ n h) (Reps.sd s r)
  | _, _, .lst n h r => .lst (s.rd n h) (s.r _ _ n h) (Reps.sd s r)
  | _, _, .dct n h r => .dct (s.rd n h) (s.r _ _ n h) (RepK.sd s r)
  | _, _, .ins n h r => .ins (s.d _ _ n h) (s.s _ _ n h rfl) (RepS.sd s r)
  | _, _, .set n h r => .set (s.d _ _ n h) (s.s _ _ n h r) r
theorem Reps.sd (s : Sd D H D' H') : ∀ {v p}, Reps D H v p → Reps D' H' v p
  | _, _, .nil => .nil
  | _, _, .cons r t => .cons (Rep.sd s r) (Reps.sd s t)
theorem RepK.sd (s : Sd D H D' H') : ∀ {v p}, RepK D H v p → RepK D' H' v p
  | _, _, .nil => .nil
  | _, _, .cons r t => .cons (Rep.sd s r) (RepK.sd s t)
theorem RepS.sd (s : Sd D H D' H') : ∀ {v p}, RepS D H v p → RepS D' H' v p
  | _, _, .nil => .nil
  | _, _, .cons r t => .cons (Rep.sd s r) (RepS.sd s t)
end
theorem Reps.length : ∀ {v p}, Reps D H v p → v.length = p.length
  | _, _, .nil => rfl
  | _, _, .cons _ t => congrArg (· + 1) (Reps.length t)
theorem Reps.get : ∀ {vs ps} {i : Nat} {v : V}, Reps D H vs ps → vs[i]? = some v → ∃ p, ps[i]? = some p ∧ Rep D H v p
  | _, _, 0, _, .cons r _, e => ⟨_, rfl, (Option.some.inj e) ▸ r⟩
  | _, _, i + 1, _, .cons _ t, e => Reps.get (i := i) t e
theorem Reps.getP : ∀ {vs ps} {i : Nat} {p : P}, Reps D H vs ps → ps[i]? = some p → ∃ v, vs[i]? = some v ∧ Rep D H v p
  | _, _, 0, _, .cons r _, e => ⟨_, rfl, (Option.some.inj e) ▸ r⟩
  | _, _, i + 1, _, .cons _ t, e => Reps.getP (i := i) t e
theorem Reps.append : ∀ {vs ps ws qs}, Reps D H vs ps → Reps D H ws qs → Reps D H (vs ++ ws) (ps ++ qs)
  | _, _, _, _, .nil, s => s
  | _, _, _, _, .cons r t, s => .cons r (Reps.append t s)
theorem Reps.snoc {vs ps v p} (t : Reps D H vs ps) (r : Rep D H v p) : Reps D H (vs ++ [v]) (ps ++ [p]) := t.append (.cons r .nil)
theorem Reps.take : ∀ {vs ps} (n : Nat), Reps D H vs ps → Reps D H (vs.take n) (ps.take n)
  | _, _, 0, _ => .nil
  | _, _, _ + 1, .nil => .nil
  | _, _, n + 1, .cons r t => .cons r (Reps.take n t)
theorem Reps.drop : ∀ {vs ps} (n : Nat), Reps D H vs ps → Reps D H (vs.drop n) (ps.drop n)
  | _, _, 0, r => r
  | _, _, _ + 1, .nil => .nil
  | _, _, n + 1, .cons r t => Reps.drop n t
theorem Reps.set {v p} (r : Rep D H v p) : ∀ {vs ps} (n : Nat), Reps D H vs ps → Reps D H (vs.set n v) (ps.set n p)
  | _, _, _, .nil => .nil
  | _, _, 0, .cons _ t => .cons r t
  | _, _, n + 1, .cons q t => .cons q (Reps.set r n t)
theorem Reps.eraseIdx : ∀ {vs ps} (n : Nat), Reps D H vs ps → Reps D H (vs.eraseIdx n) (ps.eraseIdx n)
  | _, _, _, .nil => .nil
  | _, _, 0, .cons _ t => t
  | _, _, n + 1, .cons q t => .cons q (Reps.eraseIdx n t)
theorem RepK.length : ∀ {v p}, RepK D H v p → v.length = p.length
  | _, _, .nil => rfl
  | _, _, .cons _ t => congrArg (· + 1) (RepK.length t)
theorem RepK.keys : ∀ {v p}, RepK D H v p → v.map (·.1) = p.map (·.1)
  | _, _, .nil => rfl
  | _, _, .cons _ t => congrArg (_ :: ·) (RepK.keys t)
theorem RepS.length : ∀ {v p}, RepS D H v p → v.length = p.length
  | _, _, .nil => rfl
  | _, _, .cons _ t => congrArg (· + 1) (RepS.length t)
theorem RepS.lookup {f : Str} : ∀ {vs ps}, RepS D H vs ps → ∀ {p}, ps.lookup f = some p → ∃ v, vs.lookup f = some v ∧ Rep D H v p
  | _, _, @RepS.cons _ _ k v p l m r t, q, e => by
    rw [List.lookup_cons] at e ⊢
    by_cases c : f == k
    · rw [c] at e ⊢
      exact ⟨v, rfl, (Option.some.inj e) ▸ r⟩
    · rw [Bool.not_eq_true] at c
      rw [c] at e ⊢
      exact RepS.lookup t e
theorem RepS.lookup_none {f : Str} : ∀ {vs ps}, RepS D H vs ps → ps.lookup f = none → vs.lookup f = none
  | _, _, .nil, _ => rfl
  | _, _, @RepS.cons _ _ k v p l m r t, e => by
    rw [List.lookup_cons] at e ⊢
    by_cases c : f == k
    · rw [c] at e
      cases e
    · rw [Bool.not_eq_true] at c
      rw [c] at e ⊢
      exact RepS.lookup_none t e
end
/-! ### places -/
def CellOk (D : Addr → Prop) (H : Hp) (a : Addr) : PC → Prop
  | .lst ps => ∃ xs, H a = some (.lst xs) ∧ Reps D H xs ps
  | .dct ps => ∃ xs, H a = some (.dK xs) ∧ RepK D H xs ps
  | .ins C ps => ∃ dx xs, H a = some (.ins C dx xs) ∧ RepS D H xs ps
  | .dead => False
structure Sk (D : Addr → Prop) (as : Ps) (H : Hp) (μ : Μ) : Prop where
  len : as.length = μ.length
  dn : ∀ a, D a → ∃ o, H a = some o
  inD : ∀ (j : Nat) (a : Addr), as[j]? = some (some a) → D a
  inj : ∀ (i j : Nat) (a : Addr), as[i]? = some (some a) → as[j]? = some (some a) → i = j
  ok : ∀ (j : Nat) (a : Addr), as[j]? = some (some a) → ∃ c, μ[j]? = some c ∧ CellOk D H a c
def RepW (D : Addr → Prop) (as : Ps) (H : Hp) (v : V) : W → Prop
  | .v p => Rep D H v p
  | .loc j => ∃ a, as[j]? = some (some a) ∧ v = .ref a
def EnvR (D : Addr → Prop) (as : Ps) (H : Hp) (σ : L2.St) (γ : Γ) : Prop := γ.length = σ.length ∧ ∀ (i : Nat) (w : W), γ[i]? = some (some w) → ∃ v, σ[i]? = some (some v) ∧ RepW D as H v w
/-- from one state to a later one -/
structure Nx (D : Addr → Prop) (as : Ps) (H : Hp) (D' : Addr → Prop) (as' : Ps) (H' : Hp) : Prop where
  pre : ∃ t, as' = as ++ t
  mono : ∀ a, D a → D' a
  new : ∀ a, D' a → D a ∨ H a = none
  fresh : ∀ (j : Nat) (a : Addr), as'[j]? = some (some a) → as[j]? = some (some a) ∨ H a = none
  hid : ∀ a o, D a → (∀ j : Nat, as[j]? ≠ some (some a)) → H a = some o → H' a = some o
  rd : ∀ a u, ¬ D a → Rd H a u → Rd H' a u
  sol : ∀ a o, ¬ D a → H a = some o → solid o = true → H' a = some o
section
variable {D D' D2 : Addr → Prop} {as as' as2 : Ps} {H H' H2 : Hp} {μ μ' : Μ} {σ : L2.St} {γ : Γ} {v : V} {w : W}
theorem Nx.refl : Nx D as H D as H := ⟨⟨[], by simp⟩, fun _ h => h, fun _ h => .inl h, fun _ _ h => .inl h, fun _ _ _ _ h => h, fun _ _ _ h => h, fun _ _ _ h _ => h⟩
theorem get_pre {as t : Ps} {j : Nat} {x : Option Addr} (h : as[j]? = some x) : (as ++ t)[j]? = some x := by
  rw [List.getElem?_append_left (List.getElem?_eq_some_iff.mp h).1]
  exact h
theorem Nx.at (n : Nx D as H D' as' H') {j : Nat} {x : Option Addr} (h : as[j]? = some x) : as'[j]? = some x := by
  obtain ⟨t, rfl⟩ := n.pre
  exact get_pre h
theorem rd_some {a : Addr} {u : HO} (h : Rd H a u) : ∃ o, H a = some o := by
  rcases h with h | ⟨o, h⟩
  · exact ⟨_, h⟩
  · exact ⟨_, h⟩
theorem CellOk.at {a : Addr} {c : PC} (x : CellOk D H a c) : ∃ o, H a = some o := by
  cases c with
  | lst ps => exact let ⟨_, h, _⟩ := x; ⟨_, h⟩
  | dct ps => exact let ⟨_, h, _⟩ := x; ⟨_, h⟩
  | ins C ps => exact let ⟨_, _, h, _⟩ := x; ⟨_, h⟩
  | dead => exact x.elim
/-- what stood still stands, somehow -/
theorem Nx.there (k' : Sk D' as' H' μ') (n : Nx D as H D' as' H') {a : Addr} {o : HO} (h : H a = some o) : ∃ o', H' a = some o' := by
  by_cases d : D a
  · exact k'.dn a (n.mono a d)
  · exact rd_some (n.rd a o d (.inl h))
theorem Nx.back (k' : Sk D' as' H' μ') (n : Nx D as H D' as' H') {a : Addr} (h : H' a = none) : H a = none := by
  cases e : H a with
  | none => rfl
  | some o =>
    obtain ⟨o', q⟩ := n.there k' e
    rw [h] at q
    cases q
theorem Nx.trans (k : Sk D as H μ) (k' : Sk D' as' H' μ') (n : Nx D as H D' as' H') (m : Nx D' as' H' D2 as2 H2) : Nx D as H D2 as2 H2 where
  pre := by
    obtain ⟨t, rfl⟩ := n.pre
    obtain ⟨u, rfl⟩ := m.pre
    exact ⟨t ++ u, by simp⟩
  mono := fun a h => m.mono a (n.mono a h)
  new := fun a h => by
    rcases m.new a h with h | h
    · exact n.new a h
    · exact .inr (n.back k' h)
  fresh := fun j a h => by
    rcases m.fresh j a h with h | h
    · exact n.fresh j a h
    · exact .inr (n.back k' h)
  hid := fun a o d h e => m.hid a o (n.mono a d) (fun j q => by
    rcases n.fresh j a q with z | z
    · exact h j z
    · rw [e] at z; cases z) (n.hid a o d h e)
  rd := fun a u d r => m.rd a u (fun q => by
    obtain ⟨o, e⟩ := rd_some r
    rcases n.new a q with z | z
    · exact d z
    · rw [e] at z; cases z) (n.rd a u d r)
  sol := fun a o d e z => m.sol a o (fun q => by
    rcases n.new a q with y | y
    · exact d y
    · rw [e] at y; cases y) (n.sol a o d e z) z
theorem Nx.sd (n : Nx D as H D' as' H') : Sd D H D' H' := by
  refine ⟨fun a o h e q => ?_, fun a u h r => n.rd a u h r, fun a o h e z => n.sol a o h e z⟩
  rcases n.new a q with z | z
  · exact h z
  · rw [e] at z; cases z
theorem RepW.nx (n : Nx D as H D' as' H') (r : RepW D as H v w) : RepW D' as' H' v w := by
  cases w with
  | v p => exact Rep.sd n.sd r
  | loc j =>
    obtain ⟨a, e, rfl⟩ := r
    exact ⟨a, n.at e, rfl⟩
theorem EnvR.nx (n : Nx D as H D' as' H') (r : EnvR D as H σ γ) : EnvR D' as' H' σ γ :=
  ⟨r.1, fun i w e => let ⟨v, q, z⟩ := r.2 i w e; ⟨v, q, z.nx n⟩⟩
theorem EnvR.set {i : Nat} (r : EnvR D as H σ γ) (q : RepW D as H v w) : EnvR D as H (σ.set i (some v)) (γ.set i (some w)) := by
  refine ⟨by rw [List.length_set, List.length_set]; exact r.1, fun j x e => ?_⟩
  by_cases c : i = j
  · subst c
    rw [List.getElem?_set_self'] at e ⊢
    cases g : γ[i]? with
    | none => rw [g] at e; cases e
    | some y =>
      rw [g] at e
      cases e
      have : i < σ.length := by
        rw [← r.1]
        exact (List.getElem?_eq_some_iff.mp g).1
      exact ⟨v, by rw [List.getElem?_eq_getElem this]; rfl, q⟩
  · rw [List.getElem?_set_ne c] at e ⊢
    exact r.2 j x e
theorem CellOk.sd {a : Addr} {c : PC} (s : Sd D H D' H') (e : H' a = H a) (x : CellOk D H a c) : CellOk D' H' a c := by
  cases c with
  | lst ps => obtain ⟨xs, h, r⟩ := x; exact ⟨xs, e.trans h, r.sd s⟩
  | dct ps => obtain ⟨xs, h, r⟩ := x; exact ⟨xs, e.trans h, r.sd s⟩
  | ins C ps => obtain ⟨dx, xs, h, r⟩ := x; exact ⟨dx, xs, e.trans h, r.sd s⟩
  | dead => exact x
theorem Nx.of_same (s : Same H H') : Nx D as H D as H' :=
  ⟨⟨[], by simp⟩, fun _ h => h, fun _ h => .inl h, fun _ _ h => .inl h, fun a u _ _ e => s _ _ e, fun a u _ r => r.elim (fun r => .inl (s _ _ r)) fun ⟨o, r⟩ => .inr ⟨o, s _ _ r⟩, fun a o _ e _ => s _ _ e⟩
theorem Sk.same (k : Sk D as H μ) (s : Same H H') : Sk D as H' μ :=
  ⟨k.len, fun a d => let ⟨o, e⟩ := k.dn a d; ⟨o, s _ _ e⟩, k.inD, k.inj, fun j a e => let ⟨c, q, x⟩ := k.ok j a e; ⟨c, q, x.sd (Nx.of_same (as := as) s).sd (let ⟨o, z⟩ := k.dn a (k.inD j a e); (s _ _ z).trans z.symm)⟩⟩
theorem Sd.trans {D1 D2 D3 : Addr → Prop} {H1 H2 H3 : Hp} (a : Sd D1 H1 D2 H2) (b : Sd D2 H2 D3 H3) : Sd D1 H1 D3 H3 := by
  have z : ∀ x o, ¬ D1 x → H1 x = some o → ∃ o', H2 x = some o' := fun x o d e => rd_some (a.r x o d (.inl e))
  exact ⟨fun x o d e q => let ⟨o', e'⟩ := z x o d e; b.d x o' (a.d x o d e) e' q, fun x u d r => b.r x u (a.rd d r) (a.r x u d r), fun x o d e y => b.s x o (a.d x _ d e) (a.s x o d e y) y⟩
theorem Sd.refl {D : Addr → Prop} {H : Hp} : Sd D H D H := ⟨fun _ _ h _ => h, fun _ _ _ h => h, fun _ _ _ h _ => h⟩
theorem Sd.same {D : Addr → Prop} {H H' : Hp} (s : Same H H') : Sd D H D H' := (Nx.of_same (as := []) s).sd
end
end Pu

set_option Elab.async false
set_option linter.all false
set_option maxRecDepth 100000
set_option maxHeartbeats 4000000
namespace Pu
open L2 PySem PySem.Spec PyProof.Rows E10
/-- what comes of it: a value and what changed; an own error with its attributes; or what no rule speaks of -/
inductive O (α : Type) where
  | ok (a : α) (m : Μ) | exc (C : Addr) (fs : List (Str × P)) (m : Μ) | bad
def O.bind {α β : Type} (o : O α) (f : α → Μ → O β) : O β := match o with
  | .ok a m => f a m
  | .exc C fs m => .exc C fs m
  | .bad => .bad
@[simp] theorem O.bind_ok {α β : Type} (a : α) (m : Μ) (f : α → Μ → O β) : (O.ok a m).bind f = f a m := rfl
@[simp] theorem O.bind_exc {α β : Type} (C fs m) (f : α → Μ → O β) : (O.exc C fs m).bind f = .exc C fs m := rfl
@[simp] theorem O.bind_bad {α β : Type} (f : α → Μ → O β) : O.bad.bind f = .bad := rfl
theorem O.bind_assoc {α β γ : Type} (o : O α) (f : α → Μ → O β) (g : β → Μ → O γ) : (o.bind f).bind g = o.bind fun a m => (f a m).bind g := by cases o <;> rfl
abbrev RL (β α : Type) := (Addr → Prop) → Ps → Hp → β → α → Prop
def G {α β : Type} (Wx : WX) (σ : L2.St) (R : RL β α) (D : Addr → Prop) (as : Ps) (H : Hp) (o : O α) (Q : β → Hp → Prop) : Prop := match o with
  | .ok a m => ∀ b D' as' H', Nx D as H D' as' H' → Sk D' as' H' m → R D' as' H' b a → Q b H'
  | .exc C fs m => ∀ d gs D' as' H', Nx D as H D' as' H' → Sk D' as' H' m → H' d = some (.xd gs) → RepS D' H' gs fs → Wx (.ref C) (some d) σ H'
  | .bad => False
section
variable {α β α' β' : Type} {Wx : WX} {σ : L2.St} {R : RL β α} {R' : RL β' α'} {D D' : Addr → Prop} {as as' : Ps} {H H' : Hp} {μ μ' : Μ} {o : O α} {Q Q' : β → Hp → Prop}
theorem G.nx (k : Sk D as H μ) (k' : Sk D' as' H' μ') (n : Nx D as H D' as' H') (g : G Wx σ R D as H o Q) : G Wx σ R D' as' H' o Q := by
  cases o with
  | ok a m => exact fun b D2 as2 H2 n2 k2 r => g b D2 as2 H2 (n.trans k k' n2) k2 r
  | exc C fs m => exact fun d gs D2 as2 H2 n2 k2 e r => g d gs D2 as2 H2 (n.trans k k' n2) k2 e r
  | bad => exact g
theorem G.mono (g : G Wx σ R D as H o Q) (h : ∀ b H', Q b H' → Q' b H') : G Wx σ R D as H o Q' := by
  cases o with
  | ok a m => exact fun b D2 as2 H2 n2 k2 r => h _ _ (g b D2 as2 H2 n2 k2 r)
  | exc C fs m => exact g
  | bad => exact g
theorem G.bind {f : α → Μ → O α'} {Q : β' → Hp → Prop} (R : RL β α) (k : Sk D as H μ) (g : G Wx σ R' D as H (o.bind f) Q) :
    G Wx σ R D as H o fun b H1 => ∃ D1 as1 μ1 a, Nx D as H D1 as1 H1 ∧ Sk D1 as1 H1 μ1 ∧ R D1 as1 H1 b a ∧ G Wx σ R' D1 as1 H1 (f a μ1) Q := by
  cases o with
  | ok a m => exact fun b D2 as2 H2 n2 k2 r => ⟨D2, as2, m, a, n2, k2, r, G.nx k k2 n2 g⟩
  | exc C fs m => exact g
  | bad => exact g
theorem G.now {a : α} {b : β} (k : Sk D as H μ) (r : R D as H b a) (g : G Wx σ R D as H (.ok a μ) Q) : Q b H := g b D as H .refl k r
end
theorem nowV {Wx : WX} {σ : L2.St} {D : Addr → Prop} {as : Ps} {H : Hp} {μ : Μ} {p : P} {x : V} {Q : VK} (k : Sk D as H μ) (g : G Wx σ RepW D as H (.ok (.v p) μ) Q) (r : Rep D H x p) : Q x H := G.now (R := RepW) k (show RepW D as H x (.v p) from r) g
abbrev EF := Γ → Μ → O W
abbrev AF := Γ → Μ → O (List W)
abbrev TF := Γ → Μ → O Bool
def RepB : RL Bool Bool := fun _ _ _ b a => b = a
inductive RepWs (D : Addr → Prop) (as : Ps) (H : Hp) : List V → List W → Prop
  | nil : RepWs D as H [] []
  | cons {v w l m} : RepW D as H v w → RepWs D as H l m → RepWs D as H (v :: l) (w :: m)
theorem RepWs.nx {D D' as as' H H'} (n : Nx D as H D' as' H') : ∀ {vs ws}, RepWs D as H vs ws → RepWs D' as' H' vs ws
  | _, _, .nil => .nil
  | _, _, .cons r t => .cons (r.nx n) (RepWs.nx n t)
theorem RepWs.length {D as H} : ∀ {vs ws}, RepWs D as H vs ws → vs.length = ws.length
  | _, _, .nil => rfl
  | _, _, .cons _ t => congrArg (· + 1) (RepWs.length t)
def Ad (Wx : WX) (te : TE) (F : EF) : Prop := ∀ D as γ μ σ H Q, Sk D as H μ → EnvR D as H σ γ → G Wx σ RepW D as H (F γ μ) Q → te σ H Q
def AdA (Wx : WX) (ta : TA) (F : AF) : Prop := ∀ D as γ μ σ H Q, Sk D as H μ → EnvR D as H σ γ → G Wx σ RepWs D as H (F γ μ) Q → ta σ H Q
def AdT (Wx : WX) (tt : TT) (F : TF) : Prop := ∀ D as γ μ σ H Q, Sk D as H μ → EnvR D as H σ γ → G Wx σ RepB D as H (F γ μ) Q → tt σ H Q
def PP (X : Cx) (Wx : WX) (e : Expr) (F : EF) : Prop := ∃ te, PE X e te ∧ Ad Wx te F
def PPA (X : Cx) (Wx : WX) (es : List Expr) (F : AF) : Prop := ∃ ta, PA X es ta ∧ AdA Wx ta F
def PPT (X : Cx) (Wx : WX) (e : Expr) (F : TF) : Prop := ∃ tt, PT X e tt ∧ AdT Wx tt F
def PPW (X : Cx) (Wx : WX) (e : Expr) (F : TF) : Prop := ∃ tt, PW X e tt ∧ AdT Wx tt F
/-! ### names, constants -/
def fVar (i : Nat) : EF := fun γ μ => match γ[i]? with
  | some (some w) => .ok w μ
  | _ => .bad
def fC (p : P) : EF := fun _ μ => .ok (.v p) μ
section
variable {X : Cx} {Wx : WX} {e a b c : Expr} {es rest : List Expr} {F F1 F2 F3 : EF} {FA : AF} {T T1 T2 : TF} {pos : Pos}
theorem ad_var {i : Nat} : Ad Wx (tVar i) (fVar i) := fun D as γ μ σ H Q k ev g => by
  unfold fVar at g
  split at g
  · rename_i w h
    obtain ⟨v, q, r⟩ := ev.2 i w h
    exact ⟨v, q, g.now k r⟩
  · exact g.elim
theorem ad_c {x : V} {p : P} (h : ∀ D H, Rep D H x p) : Ad Wx (tC x) (fC p) := fun D as γ μ σ H Q k ev g => nowV k g (h D H)
theorem pp_v (i : Nat) {x : Str} {pos : Pos} (hN : X.N[i]? = some x := by rfl) (hv : Vis X.env.scope x := by first | exact Or.inl rfl | exact Or.inr (Or.inl rfl) | exact Or.inr (Or.inr rfl)) (hd : (x == ("__debug__" : Str)) = false := by decide) (hcd : (x == ("__classdict__" : Str)) = false := by decide) :
    PP X Wx (.Name x pos) (fVar i) := ⟨_, pe_var hN hv hd hcd, ad_var⟩
theorem pp_int {i j pos} : PP X Wx (.Constant (.int i) j pos) (fC (.int i)) := ⟨_, pe_int, ad_c fun _ _ => .int⟩
theorem pp_bl {i j pos} : PP X Wx (.Constant (.bool i) j pos) (fC (.bl i)) := ⟨_, pe_bl, ad_c fun _ _ => .bl⟩
theorem pp_non {j pos} : PP X Wx (.Constant .none j pos) (fC .non) := ⟨_, pe_non, ad_c fun _ _ => .non⟩
theorem pp_str {i j pos} : PP X Wx (.Constant (.str i) j pos) (fC (.str i)) := ⟨_, pe_str, ad_c fun _ _ => .str⟩
theorem pp_c {x : V} {p : P} (h : PE X e (tC x)) (r : ∀ D H, Rep D H x p) : PP X Wx e (fC p) := ⟨_, h, ad_c r⟩
/-! ### operators -/
def AdR2 (Wx : WX) (r : R2) (f : W → W → Μ → O W) : Prop := ∀ D as μ σ H x y a b Q, Sk D as H μ → RepW D as H x a → RepW D as H y b → G Wx σ RepW D as H (f a b μ) Q → r x y H Q
def fOp (f : W → W → Μ → O W) (A B : EF) : EF := fun γ μ => (A γ μ).bind fun x m => (B γ m).bind fun y m => f x y m
def fUn (f : W → Μ → O W) (A : EF) : EF := fun γ μ => (A γ μ).bind fun x m => f x m
theorem ad_op {r : R2} {f} {ta tb} (h : AdR2 Wx r f) (ha : Ad Wx ta F1) (hb : Ad Wx tb F2) : Ad Wx (tOp r ta tb) (fOp f F1 F2) := fun D as γ μ σ H Q k ev g => by
  refine ha D as γ μ σ H _ k ev ((G.bind RepW k g).mono fun x H1 ⟨D1, as1, μ1, wx, n1, k1, r1, g1⟩ => ?_)
  refine hb D1 as1 γ μ1 σ H1 _ k1 (ev.nx n1) ((G.bind RepW k1 g1).mono fun y H2 ⟨D2, as2, μ2, wy, n2, k2, r2, g2⟩ => ?_)
  exact h D2 as2 μ2 σ H2 x y wx wy Q k2 (r1.nx n2) r2 g2
def AdU (Wx : WX) (r : V → Hp → VK → Prop) (f : W → Μ → O W) : Prop := ∀ D as μ σ H x a Q, Sk D as H μ → RepW D as H x a → G Wx σ RepW D as H (f a μ) Q → r x H Q
theorem ad_un {r} {f} {ta} (h : AdU Wx r f) (ha : Ad Wx ta F1) : Ad Wx (tUn r ta) (fUn f F1) := fun D as γ μ σ H Q k ev g => by
  refine ha D as γ μ σ H _ k ev ((G.bind RepW k g).mono fun x H1 ⟨D1, as1, μ1, wx, n1, k1, r1, g1⟩ => ?_)
  exact h D1 as1 μ1 σ H1 x wx Q k1 r1 g1
theorem pp_op {op : Operator} {r : R2} {f} (ho : OpR X (binaryOp op) r) (h : AdR2 Wx r f) (ha : PP X Wx a F1) (hb : PP X Wx b F2) : PP X Wx (.BinOp a op b pos) (fOp f F1 F2) :=
  let ⟨_, pa, aa⟩ := ha; let ⟨_, pb, ab⟩ := hb; ⟨_, pe_op ho pa pb, ad_op h aa ab⟩
theorem pp_un {op : UnaryOp} {r} {f} (ho : UnR X (unaryOp op) r) (h : AdU Wx r f) (ha : PP X Wx a F1) : PP X Wx (.UnaryOp op a pos) (fUn f F1) :=
  let ⟨_, pa, aa⟩ := ha; ⟨_, pe_un ho pa, ad_un h aa⟩
theorem pp_cmp {op : CmpOp} {r : R2} {f} (ho : OpR X (compareOp op) r) (h : AdR2 Wx r f) (ha : PP X Wx a F1) (hb : PP X Wx b F2) (hm : behindInMarks op b = false := by first | exact nobehind _ (by decide) (by decide) | rfl) : PP X Wx (.Compare a [op] [b] pos) (fOp f F1 F2) :=
  let ⟨_, pa, aa⟩ := ha; let ⟨_, pb, ab⟩ := hb; ⟨_, pe_cmpR ho pa pb hm, ad_op h aa ab⟩
theorem pp_ix {r : R2} {f} (hr : IxR X r) (h : AdR2 Wx r f) (ha : PP X Wx a F1) (hb : PP X Wx b F2) (hs : PlainIx b := by exact fun _ _ => rfl) : PP X Wx (.Subscript a b pos) (fOp f F1 F2) :=
  let ⟨_, pa, aa⟩ := ha; let ⟨_, pb, ab⟩ := hb; ⟨_, pe_ix hr pa pb hs, ad_op h aa ab⟩
/-- two ints -/
def fII (g : Int → Int → O W → O W) : W → W → Μ → O W := fun x y μ => match x, y with
  | .v (.int i), .v (.int j) => g i j (.ok (.v .non) μ)
  | _, _ => .bad
def fI (c : Int → Int → Bool) (g : Int → Int → P) : W → W → Μ → O W := fun x y μ => match x, y with
  | .v (.int i), .v (.int j) => if c i j then .ok (.v (g i j)) μ else .bad
  | _, _ => .bad
def fI0 (g : Int → Int → P) : W → W → Μ → O W := fun x y μ => match x, y with
  | .v (.int i), .v (.int j) => .ok (.v (g i j)) μ
  | _, _ => .bad
theorem rep_int {D : Addr → Prop} {H : Hp} {x : V} {i : Int} (r : Rep D H x (.int i)) : x = .int i := by cases r; rfl
theorem rep_bl {D : Addr → Prop} {H : Hp} {x : V} {i : Bool} (r : Rep D H x (.bl i)) : x = .bl i := by cases r; rfl
theorem rep_str {D : Addr → Prop} {H : Hp} {x : V} {i : Str} (r : Rep D H x (.str i)) : x = .str i := by cases r; rfl
theorem rep_non {D : Addr → Prop} {H : Hp} {x : V} (r : Rep D H x .non) : x = .non := by cases r; rfl
theorem ad_I0 {g : Int → Int → V} {q : Int → Int → P} (h : ∀ D H i j, Rep D H (g i j) (q i j)) : AdR2 Wx (rI0 g) (fI0 q) := fun D as μ σ H x y a b Q k ra rb gg => by
  unfold fI0 at gg
  split at gg
  · obtain rfl := rep_int ra
    obtain rfl := rep_int rb
    exact ⟨_, _, rfl, rfl, nowV k gg (h _ _ _ _)⟩
  · exact gg.elim
theorem ad_I {C : Int → Int → Prop} {c : Int → Int → Bool} {g : Int → Int → V} {q : Int → Int → P} (hc : ∀ i j, c i j = true → C i j) (h : ∀ D H i j, Rep D H (g i j) (q i j)) : AdR2 Wx (rI C g) (fI c q) := fun D as μ σ H x y a b Q k ra rb gg => by
  unfold fI at gg
  split at gg
  · split at gg
    · rename_i cc
      obtain rfl := rep_int ra
      obtain rfl := rep_int rb
      exact ⟨_, _, rfl, rfl, hc _ _ cc, nowV k gg (h _ _ _ _)⟩
    · exact gg.elim
  · exact gg.elim
abbrev fAdd := fI0 fun i j => .int (i + j)
abbrev fSub := fI0 fun i j => .int (i - j)
abbrev fMul := fI (fun i j => decide (i.natAbs < 2 ^ 64 ∨ j.natAbs < 2 ^ 64)) fun i j => .int (i * j)
abbrev fDiv := fI (fun _ j => decide (0 < j ∧ j < 1073741824)) fun i j => .int (i / j)
abbrev fMod := fI (fun _ j => decide (0 < j)) fun i j => .int (i % j)
abbrev fPow := fI (fun i j => decide (0 ≤ j ∧ j ≤ 1000000 ∧ i.natAbs < 2 ^ 64)) fun i j => .int (i ^ j.toNat)
theorem ad_add : AdR2 Wx (rI0 fun i j => .int (i + j)) fAdd := ad_I0 fun _ _ _ _ => .int
theorem ad_sub : AdR2 Wx (rI0 fun i j => .int (i - j)) fSub := ad_I0 fun _ _ _ _ => .int
theorem ad_mul : AdR2 Wx (rI CMul fun i j => .int (i * j)) fMul := ad_I (fun i j h => by
  have h := of_decide_eq_true h
  unfold CMul
  omega) fun _ _ _ _ => .int
theorem ad_div : AdR2 Wx (rI CDiv fun i j => .int (i / j)) fDiv := ad_I (fun i j h => (of_decide_eq_true h : 0 < j ∧ j < 1073741824)) fun _ _ _ _ => .int
theorem ad_mod : AdR2 Wx (rI (fun _ j => 0 < j) fun i j => .int (i % j)) fMod := ad_I (fun i j h => of_decide_eq_true h) fun _ _ _ _ => .int
theorem ad_pow : AdR2 Wx (rI CPow fun i j => .int (i ^ j.toNat)) fPow := ad_I (fun i j h => (of_decide_eq_true h : 0 ≤ j ∧ j ≤ 1000000 ∧ i.natAbs < 2 ^ 64)) fun _ _ _ _ => .int
theorem ad_lt : AdR2 Wx (rI0 fun i j => .bl (decide (i < j))) (fI0 fun i j => .bl (decide (i < j))) := ad_I0 fun _ _ _ _ => .bl
theorem ad_le : AdR2 Wx (rI0 fun i j => .bl (decide (i ≤ j))) (fI0 fun i j => .bl (decide (i ≤ j))) := ad_I0 fun _ _ _ _ => .bl
theorem ad_gt : AdR2 Wx (rI0 fun i j => .bl (decide (j < i))) (fI0 fun i j => .bl (decide (j < i))) := ad_I0 fun _ _ _ _ => .bl
theorem ad_ge : AdR2 Wx (rI0 fun i j => .bl (decide (j ≤ i))) (fI0 fun i j => .bl (decide (j ≤ i))) := ad_I0 fun _ _ _ _ => .bl
def fNeg : W → Μ → O W := fun x μ => match x with
  | .v (.int i) => .ok (.v (.int (-i))) μ
  | _ => .bad
theorem ad_neg : AdU Wx (rU fun i => .int (-i)) fNeg := fun D as μ σ H x a Q k ra gg => by
  unfold fNeg at gg
  split at gg
  · obtain rfl := rep_int ra
    exact ⟨_, rfl, nowV k gg .int⟩
  · exact gg.elim
/-- two texts -/
def fSS (c : Str → Str → Bool) (g : Str → Str → P) : W → W → Μ → O W := fun x y μ => match x, y with
  | .v (.str i), .v (.str j) => if c i j then .ok (.v (g i j)) μ else .bad
  | _, _ => .bad
theorem ad_SS {c : Str → Str → Bool} {g : Str → Str → P} {r : R2} (h : ∀ D H i j Q, c i j = true → (∀ v, Rep D H v (g i j) → Q v H) → r (.str i) (.str j) H Q) : AdR2 Wx r (fSS c g) := fun D as μ σ H x y a b Q k ra rb gg => by
  unfold fSS at gg
  split at gg
  · split at gg
    · rename_i cc
      obtain rfl := rep_str ra
      obtain rfl := rep_str rb
      exact h D H _ _ Q cc fun v r => nowV k gg r
    · exact gg.elim
  · exact gg.elim
abbrev fCatS := fSS (fun i j => decide (i.length + j.length ≤ sizeLine)) fun i j => .str (i ++ j)
theorem ad_catS : AdR2 Wx (fun x y H Q => ∃ i j, x = .str i ∧ y = .str j ∧ i.length + j.length ≤ sizeLine ∧ Q (.str (i ++ j)) H) fCatS := ad_SS fun D H i j Q c h => ⟨_, _, rfl, rfl, of_decide_eq_true c, h _ .str⟩
def strLe (i j : Str) : Bool := !decide (j.cps.toList < i.cps.toList)
def strLt (i j : Str) : Bool := decide (i.cps.toList < j.cps.toList)
theorem ad_ltS : AdR2 Wx (fun x y H Q => ∃ i j, x = .str i ∧ y = .str j ∧ Q (.bl (decide (i.cps.toList < j.cps.toList))) H) (fSS (fun _ _ => true) fun i j => .bl (strLt i j)) := ad_SS fun D H i j Q c h => ⟨_, _, rfl, rfl, h _ .bl⟩
/-- flat things: equal or not -/
def eqS : P → P → Option Bool
  | .int i, .int j => some (i == j)
  | .str i, .str j => some (i == j)
  | .bl i, .bl j => some (i == j)
  | .non, .non => some true
  | .non, .int _ => some false | .non, .str _ => some false | .non, .bl _ => some false
  | .int _, .non => some false | .str _, .non => some false | .bl _, .non => some false
  | .int _, .str _ => some false | .str _, .int _ => some false
  | _, _ => none
def fEqS (neg : Bool) : W → W → Μ → O W := fun x y μ => match x, y with
  | .v p, .v q => match eqS p q with
    | some b => .ok (.v (.bl (b != neg))) μ
    | none => .bad
  | _, _ => .bad
end
end Pu

set_option Elab.async false
set_option linter.all false
set_option maxRecDepth 100000
set_option maxHeartbeats 4000000
namespace Pu
open L2 PySem PySem.Spec PyProof.Rows E10
theorem sz_of {n : Nat} (h : n ≤ 100000) : n ≤ sizeLine := Nat.le_trans h (by decide)
section
variable {X : Cx} {Wx : WX} {e a b c : Expr} {es rest : List Expr} {F F1 F2 F3 : EF} {FA : AF} {T T1 T2 : TF} {pos : Pos}
theorem eqS_ok {D : Addr → Prop} {H : Hp} {x y : V} {p q : P} {r : Bool} (ra : Rep D H x p) (rb : Rep D H y q) (h : eqS p q = some r) : scal x y = true ∧ decide (x = y) = r := by
  unfold eqS at h
  split at h <;> cases h <;> cases ra <;> cases rb <;> refine ⟨rfl, ?_⟩ <;> first | rfl | exact dec_int | exact dec_str | exact dec_bl | simp
theorem ad_eqS : AdR2 Wx rEq (fEqS false) := fun D as μ σ H x y wa wb Q k ra rb gg => by
  unfold fEqS at gg
  split at gg
  · split at gg
    · rename_i r h
      obtain ⟨s1, s2⟩ := eqS_ok ra rb h
      refine ⟨s1, ?_⟩
      rw [s2]
      have := nowV (x := .bl (r != false)) k gg .bl
      simpa using this
    · exact gg.elim
  · exact gg.elim
theorem ad_neS : AdR2 Wx rNe (fEqS true) := fun D as μ σ H x y wa wb Q k ra rb gg => by
  unfold fEqS at gg
  split at gg
  · split at gg
    · rename_i r h
      obtain ⟨s1, s2⟩ := eqS_ok ra rb h
      refine ⟨s1, ?_⟩
      rw [s2]
      have := nowV (x := .bl (r != true)) k gg .bl
      simpa using this
    · exact gg.elim
  · exact gg.elim
/-- is None -/
def fIsN (neg : Bool) : W → W → Μ → O W := fun x y μ => match x, y with
  | .v .non, .v .non => .ok (.v (.bl (!neg))) μ
  | .v _, .v .non => .ok (.v (.bl neg)) μ
  | .loc _, .v .non => .ok (.v (.bl neg)) μ
  | _, _ => .bad
theorem repW_ne {D : Addr → Prop} {as : Ps} {H : Hp} {x : V} {p : P} (r : Rep D H x p) (h : p ≠ .non) : decide (x = .non) = false := by
  cases r <;> first | exact absurd rfl h | simp
theorem ad_isN : AdR2 Wx (fun x y H Q => y = .non ∧ Q (.bl (decide (x = .non))) H) (fIsN false) := fun D as μ σ H x y wa wb Q k ra rb gg => by
  unfold fIsN at gg
  split at gg
  · obtain rfl := rep_non rb
    obtain rfl := rep_non ra
    exact ⟨rfl, nowV k gg .bl⟩
  · rename_i h
    obtain rfl := rep_non rb
    refine ⟨rfl, ?_⟩
    rw [repW_ne (as := as) ra (fun z => h (by rw [z]))]
    exact nowV k gg .bl
  · obtain rfl := rep_non rb
    obtain ⟨a, _, rfl⟩ := ra
    exact ⟨rfl, nowV k gg .bl⟩
  · exact gg.elim
theorem ad_notN : AdR2 Wx (fun x y H Q => y = .non ∧ Q (.bl (!decide (x = .non))) H) (fIsN true) := fun D as μ σ H x y wa wb Q k ra rb gg => by
  unfold fIsN at gg
  split at gg
  · obtain rfl := rep_non rb
    obtain rfl := rep_non ra
    exact ⟨rfl, nowV k gg .bl⟩
  · rename_i h
    obtain rfl := rep_non rb
    refine ⟨rfl, ?_⟩
    rw [repW_ne (as := as) ra (fun z => h (by rw [z]))]
    exact nowV k gg .bl
  · obtain rfl := rep_non rb
    obtain ⟨a, _, rfl⟩ := ra
    exact ⟨rfl, nowV k gg .bl⟩
  · exact gg.elim
/-! ### a chain -/
def fChain (f g : W → W → Μ → O W) (A B C : EF) : EF := fun γ μ => (A γ μ).bind fun x m => (B γ m).bind fun y m => (f x y m).bind fun z m => match z with
  | .v (.bl true) => (C γ m).bind fun u m => g y u m
  | .v (.bl false) => .ok (.v (.bl false)) m
  | _ => .bad
theorem ad_chain {r r' : R2} {f g} {ta tb tc} (h : AdR2 Wx r f) (h' : AdR2 Wx r' g) (ha : Ad Wx ta F1) (hb : Ad Wx tb F2) (hc : Ad Wx tc F3) : Ad Wx (tChain r r' ta tb tc) (fChain f g F1 F2 F3) := fun D as γ μ σ H Q k ev gg => by
  refine ha D as γ μ σ H _ k ev ((G.bind RepW k gg).mono fun x H1 ⟨D1, as1, μ1, wx, n1, k1, r1, g1⟩ => ?_)
  refine hb D1 as1 γ μ1 σ H1 _ k1 (ev.nx n1) ((G.bind RepW k1 g1).mono fun y H2 ⟨D2, as2, μ2, wy, n2, k2, r2, g2⟩ => ?_)
  refine h D2 as2 μ2 σ H2 x y wx wy _ k2 (r1.nx n2) r2 ((G.bind RepW k2 g2).mono fun z H3 ⟨D3, as3, μ3, wz, n3, k3, r3, g3⟩ => ?_)
  split at g3
  · obtain rfl := rep_bl r3
    refine ⟨true, rfl, ?_⟩
    simp only [if_true]
    exact hc D3 as3 γ μ3 σ H3 _ k3 (((ev.nx n1).nx n2).nx n3) ((G.bind RepW k3 g3).mono fun u H4 ⟨D4, as4, μ4, wu, n4, k4, r4, g4⟩ => h' D4 as4 μ4 σ H4 y u wy wu Q k4 ((r2.nx n3).nx n4) r4 g4)
  · obtain rfl := rep_bl r3
    refine ⟨false, rfl, ?_⟩
    exact nowV k3 g3 .bl
  · exact g3.elim
theorem pp_chain {op op' : CmpOp} {r r' : R2} {f g} (ho : OpR X (compareOp op) r) (ho' : OpR X (compareOp op') r') (h : AdR2 Wx r f) (h' : AdR2 Wx r' g) (ha : PP X Wx a F1) (hb : PP X Wx b F2) (hc : PP X Wx c F3)
    (hm : lastMarks [op, op'] [b, c] = false := by with_unfolding_all rfl) : PP X Wx (.Compare a [op, op'] [b, c] pos) (fChain f g F1 F2 F3) :=
  let ⟨_, pa, aa⟩ := ha; let ⟨_, pb, ab⟩ := hb; let ⟨_, pc, ac⟩ := hc; ⟨_, pe_chain ho ho' pa pb pc hm, ad_chain h h' aa ab ac⟩
/-! ### tests -/
def fTest (F : EF) : TF := fun γ μ => (F γ μ).bind fun w m => match w with
  | .v (.bl b) => .ok b m
  | _ => .bad
theorem ad_test {te} (h : Ad Wx te F) : AdT Wx (tB te) (fTest F) := fun D as γ μ σ H Q k ev g => by
  refine h D as γ μ σ H _ k ev ((G.bind RepW k g).mono fun x H1 ⟨D1, as1, μ1, wx, n1, k1, r1, g1⟩ => ?_)
  split at g1
  · obtain rfl := rep_bl r1
    exact ⟨_, rfl, g1.now (R := RepB) k1 rfl⟩
  · exact g1.elim
theorem pt_b (h : PP X Wx e F) (he : ∀ whole, isTrue e X.env whole = (do let v ← whole; standAt e.pos; holding [v] (truthy v)) := by intro _; rfl) : PPT X Wx e (fTest F) := let ⟨_, p, a⟩ := h; ⟨_, pt_val p he, ad_test a⟩
theorem ptt_cmp {op : CmpOp} {r : R2} {f} (ho : OpR X (compareOp op) r) (h : AdR2 Wx r f) (ha : PP X Wx a F1) (hb : PP X Wx b F2) (hm : behindInMarks op b = false := by first | exact nobehind _ (by decide) (by decide) | rfl) : PPT X Wx (.Compare a [op] [b] pos) (fTest (fOp f F1 F2)) :=
  let ⟨_, pa, aa⟩ := ha; let ⟨_, pb, ab⟩ := hb; ⟨_, pt_cmpR ho pa pb hm, ad_test (ad_op h aa ab)⟩
def fNotT (T : TF) : TF := fun γ μ => (T γ μ).bind fun b m => .ok (!b) m
theorem ptt_not (h : PPT X Wx a T) : PPT X Wx (.UnaryOp .Not a pos) (fNotT T) := let ⟨_, p, ad⟩ := h; ⟨_, pt_not p, fun D as γ μ σ H Q k ev g => by
  refine ad D as γ μ σ H _ k ev ((G.bind RepB k g).mono fun x H1 ⟨D1, as1, μ1, wx, n1, k1, r1, g1⟩ => ?_)
  obtain rfl : x = wx := r1
  exact g1.now (R := RepB) k1 rfl⟩
def fAndT (T U : TF) : TF := fun γ μ => (T γ μ).bind fun b m => if b = true then U γ m else .ok false m
def fOrT (T U : TF) : TF := fun γ μ => (T γ μ).bind fun b m => if b = true then .ok true m else U γ m
theorem ptw_and1 (h : PPT X Wx a T) : PPW X Wx (.BoolOp .And [a] pos) T := let ⟨_, p, ad⟩ := h; ⟨_, pw_and1 p, ad⟩
theorem ptw_or1 (h : PPT X Wx a T) : PPW X Wx (.BoolOp .Or [a] pos) T := let ⟨_, p, ad⟩ := h; ⟨_, pw_or1 p, ad⟩
theorem ptw_and (h : PPT X Wx a T1) (h2 : PPW X Wx (.BoolOp .And (b :: rest) pos) T2) : PPW X Wx (.BoolOp .And (a :: b :: rest) pos) (fAndT T1 T2) := let ⟨_, p, ad⟩ := h; let ⟨_, p2, ad2⟩ := h2; ⟨_, pw_and p p2, fun D as γ μ σ H Q k ev g => by
  refine ad D as γ μ σ H _ k ev ((G.bind RepB k g).mono fun x H1 ⟨D1, as1, μ1, wx, n1, k1, r1, g1⟩ => ?_)
  obtain rfl : x = wx := r1
  cases x with
  | true => exact ad2 D1 as1 γ μ1 σ H1 Q k1 (ev.nx n1) g1
  | false => exact g1.now (R := RepB) k1 rfl⟩
theorem ptw_or (h : PPT X Wx a T1) (h2 : PPW X Wx (.BoolOp .Or (b :: rest) pos) T2) : PPW X Wx (.BoolOp .Or (a :: b :: rest) pos) (fOrT T1 T2) := let ⟨_, p, ad⟩ := h; let ⟨_, p2, ad2⟩ := h2; ⟨_, pw_or p p2, fun D as γ μ σ H Q k ev g => by
  refine ad D as γ μ σ H _ k ev ((G.bind RepB k g).mono fun x H1 ⟨D1, as1, μ1, wx, n1, k1, r1, g1⟩ => ?_)
  obtain rfl : x = wx := r1
  cases x with
  | true => exact g1.now (R := RepB) k1 rfl
  | false => exact ad2 D1 as1 γ μ1 σ H1 Q k1 (ev.nx n1) g1⟩
theorem PPW.pt (h : PPW X Wx a T) : PPT X Wx a T := let ⟨_, p, ad⟩ := h; ⟨_, p.pt, ad⟩
/-! ### and, or, not of bools, as values -/
def fAndV (F U : EF) : EF := fun γ μ => (F γ μ).bind fun w m => match w with
  | .v (.bl true) => U γ m
  | .v (.bl false) => .ok (.v (.bl false)) m
  | _ => .bad
def fOrV (F U : EF) : EF := fun γ μ => (F γ μ).bind fun w m => match w with
  | .v (.bl true) => .ok (.v (.bl true)) m
  | .v (.bl false) => U γ m
  | _ => .bad
def fNotV (F : EF) : EF := fun γ μ => (F γ μ).bind fun w m => match w with
  | .v (.bl b) => .ok (.v (.bl (!b))) m
  | _ => .bad
theorem pp_one {op} (h : PP X Wx a F) : PP X Wx (.BoolOp op [a] pos) F := let ⟨_, p, ad⟩ := h; ⟨_, pe_one p, ad⟩
theorem pp_and (h : PP X Wx a F1) (h2 : PP X Wx (.BoolOp .And (b :: rest) pos) F2) : PP X Wx (.BoolOp .And (a :: b :: rest) pos) (fAndV F1 F2) := let ⟨_, p, ad⟩ := h; let ⟨_, p2, ad2⟩ := h2; ⟨_, pe_and p p2, fun D as γ μ σ H Q k ev g => by
  refine ad D as γ μ σ H _ k ev ((G.bind RepW k g).mono fun x H1 ⟨D1, as1, μ1, wx, n1, k1, r1, g1⟩ => ?_)
  split at g1
  · obtain rfl := rep_bl r1
    exact ⟨true, rfl, ad2 D1 as1 γ μ1 σ H1 Q k1 (ev.nx n1) g1⟩
  · obtain rfl := rep_bl r1
    exact ⟨false, rfl, nowV k1 g1 .bl⟩
  · exact g1.elim⟩
theorem pp_or (h : PP X Wx a F1) (h2 : PP X Wx (.BoolOp .Or (b :: rest) pos) F2) : PP X Wx (.BoolOp .Or (a :: b :: rest) pos) (fOrV F1 F2) := let ⟨_, p, ad⟩ := h; let ⟨_, p2, ad2⟩ := h2; ⟨_, pe_or p p2, fun D as γ μ σ H Q k ev g => by
  refine ad D as γ μ σ H _ k ev ((G.bind RepW k g).mono fun x H1 ⟨D1, as1, μ1, wx, n1, k1, r1, g1⟩ => ?_)
  split at g1
  · obtain rfl := rep_bl r1
    exact ⟨true, rfl, nowV k1 g1 .bl⟩
  · obtain rfl := rep_bl r1
    exact ⟨false, rfl, ad2 D1 as1 γ μ1 σ H1 Q k1 (ev.nx n1) g1⟩
  · exact g1.elim⟩
theorem pp_not (h : PP X Wx a F1) : PP X Wx (.UnaryOp .Not a pos) (fNotV F1) := let ⟨_, p, ad⟩ := h; ⟨_, pe_not p, fun D as γ μ σ H Q k ev g => by
  refine ad D as γ μ σ H _ k ev ((G.bind RepW k g).mono fun x H1 ⟨D1, as1, μ1, wx, n1, k1, r1, g1⟩ => ?_)
  split at g1
  · obtain rfl := rep_bl r1
    exact ⟨_, rfl, nowV k1 g1 .bl⟩
  · exact g1.elim⟩
def fIf (T : TF) (A B : EF) : EF := fun γ μ => (T γ μ).bind fun b m => if b = true then A γ m else B γ m
theorem pp_if (h : PPT X Wx c T) (ha : PP X Wx a F1) (hb : PP X Wx b F2) : PP X Wx (.IfExp c a b pos) (fIf T F1 F2) := let ⟨_, p, ad⟩ := h; let ⟨_, pa, aa⟩ := ha; let ⟨_, pb, ab⟩ := hb; ⟨_, pe_ifExp p pa pb, fun D as γ μ σ H Q k ev g => by
  refine ad D as γ μ σ H _ k ev ((G.bind RepB k g).mono fun x H1 ⟨D1, as1, μ1, wx, n1, k1, r1, g1⟩ => ?_)
  obtain rfl : x = wx := r1
  cases x with
  | true => exact aa D1 as1 γ μ1 σ H1 Q k1 (ev.nx n1) g1
  | false => exact ab D1 as1 γ μ1 σ H1 Q k1 (ev.nx n1) g1⟩
/-! ### arguments, displays -/
def fNil : AF := fun _ μ => .ok [] μ
def fCons (F : EF) (A : AF) : AF := fun γ μ => (F γ μ).bind fun w m => (A γ m).bind fun ws m => .ok (w :: ws) m
theorem ppa_nil : PPA X Wx [] fNil := ⟨_, pa_nil, fun D as γ μ σ H Q k ev g => g.now (R := RepWs) k .nil⟩
theorem ad_cons {te ta} (h : Ad Wx te F) (h2 : AdA Wx ta FA) : AdA Wx (tCons te ta) (fCons F FA) := fun D as γ μ σ H Q k ev g => by
  refine h D as γ μ σ H _ k ev ((G.bind RepW k g).mono fun x H1 ⟨D1, as1, μ1, wx, n1, k1, r1, g1⟩ => ?_)
  refine h2 D1 as1 γ μ1 σ H1 _ k1 (ev.nx n1) ((G.bind RepWs k1 g1).mono fun xs H2 ⟨D2, as2, μ2, ws, n2, k2, r2, g2⟩ => ?_)
  exact g2.now (R := RepWs) k2 (.cons (r1.nx n2) r2)
theorem ppa_cons (h : PP X Wx e F) (h2 : PPA X Wx es FA) (hs : starEach (e :: es) X.env = (false, eval e X.env) :: starEach es X.env := by rfl) : PPA X Wx (e :: es) (fCons F FA) := let ⟨_, p, ad⟩ := h; let ⟨_, p2, ad2⟩ := h2; ⟨_, pa_cons p p2 hs, ad_cons ad ad2⟩
/-- all of them values -/
def vals : List W → Option (List P)
  | [] => some []
  | .v p :: r => (vals r).map (p :: ·)
  | .loc _ :: _ => none
theorem vals_ok {D as H} : ∀ {vs : List V} {ws : List W} {ps : List P}, RepWs D as H vs ws → vals ws = some ps → Reps D H vs ps
  | _, _, _, .nil, e => by cases e; exact .nil
  | _, _, _, @RepWs.cons _ _ _ v (.v p) l m r t, e => by
    cases q : vals m with
    | none =>
      rw [vals, q] at e
      cases e
    | some qs =>
      rw [vals, q] at e
      cases e
      exact .cons r (vals_ok t q)
  | _, _, _, @RepWs.cons _ _ _ v (.loc j) l m r t, e => by cases e
def fSeq (mk : List P → P) (A : AF) : EF := fun γ μ => (A γ μ).bind fun ws m => match vals ws with
  | some ps => if ps.length ≤ 100000 then .ok (.v (mk ps)) m else .bad
  | none => .bad
theorem new_same' {H : Hp} {p : Addr} {o : HO} (np : H p = none) : Same H (upd H p o) := fun c u e => (upd_ne (ne_of_none e np)).trans e
/-- a value whose object is just laid -/
theorem nowN {σ : L2.St} {D : Addr → Prop} {as : Ps} {H H' : Hp} {μ : Μ} {p : P} {x : V} {Q : VK} (k : Sk D as H μ) (s : Same H H') (g : G Wx σ RepW D as H (.ok (.v p) μ) Q) (r : Rep D H' x p) : Q x H' :=
  g x D as H' (.of_same s) (k.same s) r
theorem Sk.nd {D : Addr → Prop} {as : Ps} {H : Hp} {μ : Μ} (k : Sk D as H μ) {p : Addr} (h : H p = none) : ¬ D p := fun d => let ⟨o, e⟩ := k.dn p d; by rw [h] at e; cases e
theorem ad_tup {ta} (h : AdA Wx ta FA) : Ad Wx (tTup ta) (fSeq .tup FA) := fun D as γ μ σ H Q k ev g => by
  refine h D as γ μ σ H _ k ev ((G.bind RepWs k g).mono fun xs H1 ⟨D1, as1, μ1, ws, n1, k1, r1, g1⟩ => ?_)
  split at g1
  · split at g1
    · rename_i ps q hl
      have rs := vals_ok r1 q
      refine ⟨sz_of (by rw [rs.length]; exact hl), fun p np => ?_⟩
      have s := new_same' (o := .tup xs) np
      exact nowN k1 s g1 (.tup (k1.nd np) (.inl upd_same) (Reps.sd (.same s) rs))
    · exact g1.elim
  · exact g1.elim
theorem ad_lst {ta} (h : AdA Wx ta FA) : Ad Wx (tLst ta) (fSeq .lst FA) := fun D as γ μ σ H Q k ev g => by
  refine h D as γ μ σ H _ k ev ((G.bind RepWs k g).mono fun xs H1 ⟨D1, as1, μ1, ws, n1, k1, r1, g1⟩ => ?_)
  split at g1
  · split at g1
    · rename_i ps q hl
      have rs := vals_ok r1 q
      refine ⟨sz_of (by rw [rs.length]; exact hl), fun p np => ?_⟩
      have s := new_same' (o := .lst xs) np
      exact nowN k1 s g1 (.lst (k1.nd np) (.inl upd_same) (Reps.sd (.same s) rs))
    · exact g1.elim
  · exact g1.elim
theorem pp_tup {x1} (h : PPA X Wx es FA) : PP X Wx (.Tuple es x1 pos) (fSeq .tup FA) := let ⟨_, p, ad⟩ := h; ⟨_, pe_tup p, ad_tup ad⟩
theorem pp_lst (h : PPA X Wx es FA) : PP X Wx (.List es pos) (fSeq .lst FA) := let ⟨_, p, ad⟩ := h; ⟨_, pe_lst p, ad_lst ad⟩
/-! ### a list that will change: it stands at the end of the places -/
def fLstC (A : AF) : EF := fun γ μ => (A γ μ).bind fun ws m => match vals ws with
  | some ps => if ps.length ≤ 100000 then .ok (.loc m.length) (m ++ [.lst ps]) else .bad
  | none => .bad
def plusD (D : Addr → Prop) (p : Addr) : Addr → Prop := fun a => D a ∨ a = p
theorem cell_new {D : Addr → Prop} {as : Ps} {H : Hp} {μ : Μ} {p : Addr} {o : HO} {c : PC} (k : Sk D as H μ) (np : H p = none) (h : CellOk (plusD D p) (upd H p o) p c) :
    Nx D as H (plusD D p) (as ++ [some p]) (upd H p o) ∧ Sk (plusD D p) (as ++ [some p]) (upd H p o) (μ ++ [c]) := by
  have s := new_same' (o := o) np
  have at' : ∀ (j : Nat) (a : Addr), (as ++ [some p])[j]? = some (some a) → as[j]? = some (some a) ∨ (j = as.length ∧ a = p) := fun j a e => by
    by_cases c : j < as.length
    · rw [List.getElem?_append_left c] at e
      exact .inl e
    · rw [List.getElem?_append_right (Nat.le_of_not_lt c)] at e
      cases z : j - as.length with
      | zero =>
        rw [z] at e
        refine .inr ⟨by omega, ?_⟩
        have := Option.some.inj (Option.some.inj e)
        exact this.symm
      | succ n =>
        rw [z] at e
        cases e
  have n : Nx D as H (plusD D p) (as ++ [some p]) (upd H p o) :=
    ⟨⟨_, rfl⟩, fun a d => .inl d, fun a d => d.elim .inl fun e => .inr (e ▸ np), fun j a e => (at' j a e).elim .inl fun z => .inr (z.2 ▸ np), fun a u _ _ e => s _ _ e, fun a u _ r => r.elim (fun r => .inl (s _ _ r)) fun ⟨o, r⟩ => .inr ⟨o, s _ _ r⟩, fun a o _ e _ => s _ _ e⟩
  refine ⟨n, ?_, fun a d => ?_, fun j a e => ?_, fun i j a e1 e2 => ?_, fun j a e => ?_⟩
  · rw [List.length_append, List.length_append, k.len]
    rfl
  · rcases d with d | rfl
    · exact let ⟨o, e⟩ := k.dn a d; ⟨o, s _ _ e⟩
    · exact ⟨_, upd_same⟩
  · rcases at' j a e with e | ⟨_, rfl⟩
    · exact .inl (k.inD j a e)
    · exact .inr rfl
  · rcases at' i a e1 with q1 | ⟨q1, z1⟩
    · rcases at' j a e2 with q2 | ⟨q2, z2⟩
      · exact k.inj i j a q1 q2
      · exact absurd (z2 ▸ k.inD i a q1) (k.nd np)
    · rcases at' j a e2 with q2 | ⟨q2, z2⟩
      · exact absurd (z1 ▸ k.inD j a q2) (k.nd np)
      · rw [q1, q2]
  · rcases at' j a e with e | ⟨rfl, rfl⟩
    · obtain ⟨c', q, x⟩ := k.ok j a e
      refine ⟨c', ?_, x.sd n.sd (upd_ne fun z => k.nd np (z ▸ k.inD j a e))⟩
      rw [List.getElem?_append_left (List.getElem?_eq_some_iff.mp q).1]
      exact q
    · refine ⟨c, ?_, h⟩
      rw [k.len, List.getElem?_append_right (Nat.le_refl _), Nat.sub_self]
      rfl
theorem last_get {as : Ps} {p : Addr} : (as ++ [some p])[as.length]? = some (some p) := by
  rw [List.getElem?_append_right (Nat.le_refl _), Nat.sub_self]
  rfl
theorem sd_plus {D : Addr → Prop} {H : Hp} {p : Addr} {o : HO} (np : H p = none) : Sd D H (plusD D p) (upd H p o) := by
  have s := new_same' (o := o) np
  refine ⟨fun a u d e q => ?_, fun a u _ r => r.elim (fun r => .inl (s _ _ r)) fun ⟨o, r⟩ => .inr ⟨o, s _ _ r⟩, fun a o _ e _ => s _ _ e⟩
  rcases q with q | rfl
  · exact d q
  · rw [np] at e; cases e
theorem ad_lstC {ta} (h : AdA Wx ta FA) : Ad Wx (tLst ta) (fLstC FA) := fun D as γ μ σ H Q k ev g => by
  refine h D as γ μ σ H _ k ev ((G.bind RepWs k g).mono fun xs H1 ⟨D1, as1, μ1, ws, n1, k1, r1, g1⟩ => ?_)
  split at g1
  · split at g1
    · rename_i ps q hl
      have rs := vals_ok r1 q
      refine ⟨sz_of (by rw [rs.length]; exact hl), fun p np => ?_⟩
      obtain ⟨n2, k2⟩ := cell_new (o := .lst xs) (c := .lst ps) k1 np ⟨xs, upd_same, Reps.sd (sd_plus np) rs⟩
      exact g1 _ _ _ _ n2 k2 ⟨p, by rw [← k1.len]; exact last_get, rfl⟩
    · exact g1.elim
  · exact g1.elim
theorem pp_lstC (h : PPA X Wx es FA) : PP X Wx (.List es pos) (fLstC FA) := let ⟨_, p, ad⟩ := h; ⟨_, pe_lst p, ad_lstC ad⟩
end
end Pu

set_option Elab.async false
set_option linter.all false
set_option maxRecDepth 100000
set_option maxHeartbeats 4000000
namespace Pu
open L2 PySem PySem.Spec PyProof.Rows E10
/-! ### statements -/
inductive OS where
  | nx (γ : Γ) (m : Μ) | ret (w : W) (m : Μ) | bk (γ : Γ) (m : Μ) | ct (γ : Γ) (m : Μ) | exc (C : Addr) (fs : List (Str × P)) (γ : Γ) (m : Μ) | bad
abbrev SF := Γ → Μ → OS
def O.s {α : Type} (o : O α) (γ : Γ) (f : α → Μ → OS) : OS := match o with
  | .ok a m => f a m
  | .exc C fs m => .exc C fs γ m
  | .bad => .bad
@[simp] theorem O.s_ok {α : Type} (a : α) (m γ) (f : α → Μ → OS) : (O.ok a m).s γ f = f a m := rfl
@[simp] theorem O.s_exc {α : Type} (C fs m γ) (f : α → Μ → OS) : (O.exc C fs m : O α).s γ f = .exc C fs γ m := rfl
@[simp] theorem O.s_bad {α : Type} (γ) (f : α → Μ → OS) : (O.bad : O α).s γ f = .bad := rfl
def GS (Wx : WX) (D : Addr → Prop) (as : Ps) (H : Hp) (l : Nat) (o : OS) (E : Ends) : Prop := match o with
  | .nx γ m => ∀ σ' D' as' H', Nx D as H D' as' H' → Sk D' as' H' m → EnvR D' as' H' σ' γ → σ'.length = l → E.nx σ' H'
  | .bk γ m => ∀ σ' D' as' H', Nx D as H D' as' H' → Sk D' as' H' m → EnvR D' as' H' σ' γ → σ'.length = l → E.bk σ' H'
  | .ct γ m => ∀ σ' D' as' H', Nx D as H D' as' H' → Sk D' as' H' m → EnvR D' as' H' σ' γ → σ'.length = l → E.ct σ' H'
  | .ret w m => ∀ v D' as' H', Nx D as H D' as' H' → Sk D' as' H' m → RepW D' as' H' v w → E.rt v H'
  | .exc C fs γ m => ∀ σ' d gs D' as' H', Nx D as H D' as' H' → Sk D' as' H' m → EnvR D' as' H' σ' γ → σ'.length = l → H' d = some (.xd gs) → RepS D' H' gs fs → Wx (.ref C) (some d) σ' H'
  | .bad => False
def AdS (Wx : WX) (ts : TS) (S : SF) : Prop := ∀ D as γ μ σ H E, Sk D as H μ → EnvR D as H σ γ → GS Wx D as H σ.length (S γ μ) E → ts E σ H
def PPS (X : Cx) (Wx : WX) (st : Stmt) (S : SF) : Prop := ∃ ts, PS X st ts ∧ AdS Wx ts S
def PPSs (X : Cx) (Wx : WX) (st : List Stmt) (S : SF) : Prop := ∃ ts, PSs X st ts ∧ AdS Wx ts S
section
variable {Wx : WX} {D D' : Addr → Prop} {as as' : Ps} {H H' : Hp} {μ μ' : Μ} {l : Nat} {o : OS} {E E' : Ends}
theorem GS.nx' (k : Sk D as H μ) (k' : Sk D' as' H' μ') (n : Nx D as H D' as' H') (g : GS Wx D as H l o E) : GS Wx D' as' H' l o E := by
  cases o with
  | nx γ m => exact fun σ' D2 as2 H2 n2 k2 e q => g σ' D2 as2 H2 (n.trans k k' n2) k2 e q
  | bk γ m => exact fun σ' D2 as2 H2 n2 k2 e q => g σ' D2 as2 H2 (n.trans k k' n2) k2 e q
  | ct γ m => exact fun σ' D2 as2 H2 n2 k2 e q => g σ' D2 as2 H2 (n.trans k k' n2) k2 e q
  | ret w m => exact fun v D2 as2 H2 n2 k2 r => g v D2 as2 H2 (n.trans k k' n2) k2 r
  | exc C fs γ m => exact fun σ' d gs D2 as2 H2 n2 k2 e q r r' => g σ' d gs D2 as2 H2 (n.trans k k' n2) k2 e q r r'
  | bad => exact g
/-- behind an expression -/
theorem GS.of_s {α β : Type} {R : RL β α} {ox : O α} {γ : Γ} {σ : L2.St} {f : α → Μ → OS} (k : Sk D as H μ) (ev : EnvR D as H σ γ) (g : GS Wx D as H σ.length (ox.s γ f) E) :
    G Wx σ R D as H ox fun b H1 => ∃ D1 as1 μ1 a, Nx D as H D1 as1 H1 ∧ Sk D1 as1 H1 μ1 ∧ EnvR D1 as1 H1 σ γ ∧ R D1 as1 H1 b a ∧ GS Wx D1 as1 H1 σ.length (f a μ1) E := by
  cases ox with
  | ok a m => exact fun b D2 as2 H2 n2 k2 r => ⟨D2, as2, m, a, n2, k2, ev.nx n2, r, GS.nx' k k2 n2 g⟩
  | exc C fs m => exact fun d gs D2 as2 H2 n2 k2 r q => g σ d gs D2 as2 H2 n2 k2 (ev.nx n2) rfl r q
  | bad => exact g
end
def sNext : SF := fun γ μ => .nx γ μ
def sSeq (S T : SF) : SF := fun γ μ => match S γ μ with
  | .nx γ1 m => T γ1 m
  | o => o
def sDrop (F : EF) : SF := fun γ μ => (F γ μ).s γ fun _ m => .nx γ m
/-- what a changing thing is worth when nothing changes it any more -/
def PC.p : PC → Option P
  | .lst ps => some (.lst ps)
  | .dct ps => some (.dct ps)
  | .ins C fs => some (.ins C fs)
  | .dead => none
def sRet (F : EF) : SF := fun γ μ => (F γ μ).s γ fun w m => .ret w m
def sIfS (T : TF) (S U : SF) : SF := fun γ μ => (T γ μ).s γ fun b m => if b = true then S γ m else U γ m
def sSet (i : Nat) (F : EF) : SF := fun γ μ => (F γ μ).s γ fun w m => .nx (γ.set i (some w)) m
section
variable {X : Cx} {Wx : WX} {e a b c : Expr} {es : List Expr} {st : Stmt} {rest sts : List Stmt} {F F1 F2 : EF} {T : TF} {S S1 S2 : SF} {FA : AF} {pos : Pos}
theorem pps_nil : PPSs X Wx [] sNext := ⟨_, pss_nil, fun D as γ μ σ H E k ev g => g σ D as H .refl k ev rfl⟩
theorem ad_seq {t u : TS} (h1 : AdS Wx t S1) (h2 : AdS Wx u S2) : AdS Wx (tSeq t u) (sSeq S1 S2) := fun D as γ μ σ H E k ev g => by
  refine h1 D as γ μ σ H _ k ev ?_
  unfold sSeq at g
  cases q : S1 γ μ with
  | nx γ1 m =>
    rw [q] at g
    exact fun σ' D' as' H' n k' e z => h2 D' as' γ1 m σ' H' E k' e (z ▸ GS.nx' k k' n g)
  | bk γ1 m => rw [q] at g; exact g
  | ct γ1 m => rw [q] at g; exact g
  | ret w m => rw [q] at g; exact g
  | exc C fs γ m => rw [q] at g; exact g
  | bad => rw [q] at g; exact g
theorem pps_cons (h1 : PPS X Wx st S1) (h2 : PPSs X Wx rest S2) : PPSs X Wx (st :: rest) (sSeq S1 S2) := let ⟨_, p, ad⟩ := h1; let ⟨_, p2, ad2⟩ := h2; ⟨_, pss_cons p p2, ad_seq ad ad2⟩
theorem pps_one (h1 : PPS X Wx st S1) : PPSs X Wx [st] S1 := let ⟨_, p, ad⟩ := h1; ⟨_, pss_one p, ad⟩
def sBreak : SF := fun γ μ => .bk γ μ
def sCont : SF := fun γ μ => .ct γ μ
def sBad : SF := fun _ _ => .bad
theorem ppq_pass : PPS X Wx (.Pass pos) sNext := ⟨_, ps_pass, fun D as γ μ σ H E k ev g => g σ D as H .refl k ev rfl⟩
theorem ppq_break : PPS X Wx (.Break pos) sBreak := ⟨_, ps_break, fun D as γ μ σ H E k ev g => g σ D as H .refl k ev rfl⟩
theorem ppq_continue : PPS X Wx (.Continue pos) sCont := ⟨_, ps_continue, fun D as γ μ σ H E k ev g => g σ D as H .refl k ev rfl⟩
theorem ppq_never : PPS X Wx st sBad := ⟨_, ps_never, fun D as γ μ σ H E k ev g => g⟩
theorem pps_never : PPSs X Wx sts sBad := ⟨_, pss_never, fun D as γ μ σ H E k ev g => g⟩
theorem ppq_expr (h : PP X Wx e F) (hs : swapsWith e none pos.line X.env = pure false := by rfl) : PPS X Wx (.Expr e pos) (sDrop F) := let ⟨_, p, ad⟩ := h; ⟨_, ps_expr p hs, fun D as γ μ σ H E k ev g => by
  refine ad D as γ μ σ H _ k ev ((GS.of_s (R := RepW) k ev g).mono fun x H1 ⟨D1, as1, μ1, w, n1, k1, e1, r1, g1⟩ => ?_)
  exact g1 σ D1 as1 H1 .refl k1 e1 rfl⟩
theorem ppq_ret (h : PP X Wx e F) : PPS X Wx (.Return (some e) pos) (sRet F) := let ⟨_, p, ad⟩ := h; ⟨_, ps_ret p, fun D as γ μ σ H E k ev g => by
  refine ad D as γ μ σ H _ k ev ((GS.of_s (R := RepW) k ev g).mono fun x H1 ⟨D1, as1, μ1, w, n1, k1, e1, r1, g1⟩ => ?_)
  exact g1 x D1 as1 H1 .refl k1 r1⟩
theorem ppq_retN : PPS X Wx (.Return none pos) (fun _ μ => .ret (.v .non) μ) := ⟨_, ps_retN, fun D as γ μ σ H E k ev g => g .non D as H .refl k .non⟩
theorem ppq_if {A B : List Stmt} (h : PPT X Wx c T) (h1 : PPSs X Wx A S1) (h2 : PPSs X Wx B S2) : PPS X Wx (.If c A B pos) (sIfS T S1 S2) := let ⟨_, p, ad⟩ := h; let ⟨_, p1, ad1⟩ := h1; let ⟨_, p2, ad2⟩ := h2; ⟨_, ps_if p p1 p2, fun D as γ μ σ H E k ev g => by
  refine ad D as γ μ σ H _ k ev ((GS.of_s (R := RepB) k ev g).mono fun x H1 ⟨D1, as1, μ1, w, n1, k1, e1, r1, g1⟩ => ?_)
  obtain rfl : x = w := r1
  cases x with
  | true => exact ad1 D1 as1 γ μ1 σ H1 E k1 e1 g1
  | false => exact ad2 D1 as1 γ μ1 σ H1 E k1 e1 g1⟩
theorem ppq_set {i : Nat} {x : Str} {pos' : Pos} (hN : X.N.Nodup) (hi : X.N[i]? = some x) (hx : Loc X.env.scope x) (h : PP X Wx e F) (hs : swapsWith e (some (.Name x pos')) pos.line X.env = pure false := by rfl)
    (hf : X.fn x = true ∨ X.env.scope.names.lookup x = some .local := by first | exact .inl rfl | exact .inr rfl | assumption) : PPS X Wx (.Assign [.Name x pos'] e pos) (sSet i F) := let ⟨_, p, ad⟩ := h; ⟨_, ps_set hN hi hx p hs hf, fun D as γ μ σ H E k ev g => by
  refine ad D as γ μ σ H _ k ev ((GS.of_s (R := RepW) k ev g).mono fun x H1 ⟨D1, as1, μ1, w, n1, k1, e1, r1, g1⟩ => ?_)
  exact g1 _ D1 as1 H1 .refl k1 (e1.set r1) (List.length_set ..)⟩
end
/-! ### a def -/
abbrev FF := List W → Μ → O W
/-- the places made within fall away; one that is handed back stands at the end -/
def leave (n : Nat) : OS → O W
  | .ret (.v p) m => .ok (.v p) (m.take n)
  | .ret (.loc j) m => if j < n then .ok (.loc j) (m.take n) else match m[j]? with
    | some c => .ok (.loc n) (m.take n ++ [c])
    | none => .bad
  | .nx _ m => .ok (.v .non) (m.take n)
  | .exc C fs _ m => .exc C fs (m.take n)
  | _ => .bad
/-- the body, run on its parameters -/
def fDef (n : Nat) (N : Nat) (S : SF) : FF := fun ws μ => if ws.length = n then leave μ.length (S (ws.map some ++ List.replicate (N - n) none) μ) else .bad
def spP (n : Nat) (F : FF) : Sp := fun vs H Q E => vs.length = n ∧ ∃ D as ws μ, Sk D as H μ ∧ RepWs D as H vs ws ∧ G (fun c d _ H' => E c d H') [] RepW D as H (F ws μ) Q
structure FnX (P : Program) (w : World) (K : PySem.W.Frag) (mg : Str → Option Value) (base : Heap) (k : Nat) (f : Addr) (fd : FuncData) (ps : List Str) (sp : Sp) : Prop where
  few : ∀ {vs H Q E}, sp vs H Q E → vs.length = ps.length
  goes : ∀ {A : Around} {fr : List Env} {s : Shared} {H : Hp} {ar : Args} {us : List Value} {vs : List V} {Q : VK} {E : XK}, A.guards = some [] → Room k A → Env0 P w K mg base A fr s H → BindsTo s fd ar (ps.zip us) → Vals vs us → sp vs H Q E →
    codeAny (model P w) A (.call (.ref f) ar) (CR (L2.CX P w) fr P w H s Q E) s
theorem FnX.mono {P w K mg base j k f fd ps sp} (F : FnX P w K mg base j f fd ps sp) (h : j ≤ k) : FnX P w K mg base k f fd ps sp :=
  ⟨F.few, fun {A fr s H ar us vs Q E} g room env b v q => F.goes g (room.mono h) env b v q⟩
/-- where no error leaves -/
def noE (sp : Sp) : Sp := fun vs H Q _ => sp vs H Q L2.E0
theorem cx_e0 {P : Program} {w : World} {fr : List Env} {H : Hp} {s s' : Shared} {u : Value} (h : L2.CX P w fr H s L2.E0 u s') : False := by
  obtain ⟨_, _, _, _, _, _, _, _, _, _, _, _, z⟩ := h
  exact z
theorem FnX.g {P w K mg base k f fd ps sp} (F : FnX P w K mg base k f fd ps sp) : FnG P w K mg base k f fd ps (noE sp) :=
  ⟨fun {vs H Q E} h => F.few h, fun {A fr s H ar us vs Q E} g room env b v q => codeAny_mono (F.goes g room env b v q) fun r s' z => by
    match r, z with
    | .error e, z => exact (cx_e0 z).elim
    | .ok (.ret _), z => exact z
    | .ok .next, z => exact z.elim
    | .ok .brk, z => exact z.elim
    | .ok .cont, z => exact z.elim⟩
theorem Fun.okGX {P : Program} {w : World} {K : PySem.W.Frag} {mg : Str → Option Value} {base : Heap} {x qual : Str} {st : Stmt} {f : Addr} {fd : FuncData} {N ps : List Str} {k : Nat} {sp : Sp} (F : Fun K x qual st f fd) (S : FnScope N ps (defScope st)) (few : ∀ {vs H Q E}, sp vs H Q E → vs.length = ps.length)
    (body : ∀ (cdv : Value) (A : Around) (fr : List Env) (s : Shared) (H : Hp) (vs : List V) (Q : VK) (E : XK), A.guards = some [] → Room k (A.deeper (envOfC qual (defScope st) s.heap.objs.size f cdv)) → sp vs H Q E →
      ∃ t, PSs (cxOf (L2.CX P w) P w K mg base N qual (defScope st) f cdv A fr s H E) (defBody st) t ∧ t { nx := fun _ H' => Q .non H', rt := Q } (start N vs) H) : FnX P w K mg base (k + 1) f fd ps sp := by
  obtain ⟨oc, od, kV, doc, pm, an, cdv, ct, osl, rfl, lk, code⟩ := F.ex
  refine ⟨few, fun {A fr s H ar us vs Q E} hG room env bind val want => ?_⟩
  have inK : K.In s.heap := env.mod.kin.keeps fun c o e => (env.bs c o e).1
  refine codeAny_call_function room.depth (inK _ _ lk) rfl S.co S.gen rfl (PySem.W.codeRec_of inK code) (bind _ _ _ _ ?_)
  refine wpAny_newFunctionEnv_cells S.kind (fun ⟨n, v⟩ hy => (S.par n (List.of_mem_zip hy).1).elim .inl fun q => .inr ⟨q, PySem.W.cellsFrom_some _ _ _ (.inl q)⟩) fun own same s1 x => ?_
  subst same
  obtain ⟨t, T, wish⟩ := body cdv A fr s H vs Q E hG (room.deeper _) want
  have begun : Inv (cxOf (L2.CX P w) P w K mg base N qual (defScope st) f cdv A fr s H E) [] (start N vs) H s1 := inv_start S room.hd env (few want) val x
  refine ⟨(env.mod.nolimit.keeps fun c o e => (env.bs c o e).1).keeps x.toInCall.keep, codeAny_func (wpAny_mono (T.run [] s1 _ H _ begun wish) (fun fl s2 ends => ?_) fun e s' z => z)⟩
  match fl, ends with
  | .ret _, ⟨v, _, H2, J, rv, q⟩ => exact ⟨v, H2, J.os, J.bare, J.base, J.hok, rv, q⟩
  | .next, ⟨_, H2, J, q⟩ => exact ⟨V.non, H2, J.os, J.bare, J.base, J.hok, rfl, q⟩
  | .brk, ⟨_, _, _, q⟩ => exact q.elim
  | .cont, ⟨_, _, _, q⟩ => exact q.elim
end Pu

set_option Elab.async false
set_option linter.all false
set_option maxRecDepth 100000
set_option maxHeartbeats 4000000
namespace Pu
open L2 PySem PySem.Spec PyProof.Rows E10
section
variable {D D' : Addr → Prop} {as as' : Ps} {H H' : Hp} {μ m : Μ}
/-- the places made within are forgotten -/
theorem Sk.cut (k : Sk D as H μ) (k' : Sk D' as' H' m) (n : Nx D as H D' as' H') : Nx D as H D' as H' ∧ Sk D' as H' (m.take μ.length) := by
  obtain ⟨t, e⟩ := n.pre
  have up : ∀ {j : Nat} {a : Addr}, as[j]? = some (some a) → as'[j]? = some (some a) := fun q => n.at q
  refine ⟨⟨⟨[], by simp⟩, n.mono, n.new, fun _ _ q => .inl q, n.hid, n.rd, n.sol⟩, ?_, k'.dn, fun j a q => k'.inD j a (up q), fun i j a q r => k'.inj i j a (up q) (up r), fun j a q => ?_⟩
  · rw [List.length_take, ← k'.len, e, List.length_append, ← k.len]
    omega
  · obtain ⟨c, q1, x⟩ := k'.ok j a (up q)
    refine ⟨c, ?_, x⟩
    have lt : j < μ.length := by
      rw [← k.len]
      exact (List.getElem?_eq_some_iff.mp q).1
    rw [List.getElem?_take_of_lt lt]
    exact q1
/-- .. all but one -/
theorem Sk.cut1 (k : Sk D as H μ) (k' : Sk D' as' H' m) (n : Nx D as H D' as' H') {j : Nat} {a : Addr} {c : PC} (hj : μ.length ≤ j) (e : as'[j]? = some (some a)) (q : m[j]? = some c) :
    Nx D as H D' (as ++ [some a]) H' ∧ Sk D' (as ++ [some a]) H' (m.take μ.length ++ [c]) := by
  obtain ⟨n0, k0⟩ := k.cut k' n
  have na : H a = none := by
    rcases n.fresh j a e with z | z
    · have lt := (List.getElem?_eq_some_iff.mp z).1
      rw [k.len] at lt
      omega
    · exact z
  have at' : ∀ {i : Nat} {b : Addr}, (as ++ [some a])[i]? = some (some b) → as[i]? = some (some b) ∨ (i = as.length ∧ b = a) := fun {i b} z => by
    by_cases lt : i < as.length
    · rw [List.getElem?_append_left lt] at z
      exact .inl z
    · rw [List.getElem?_append_right (Nat.le_of_not_lt lt)] at z
      cases y : i - as.length with
      | zero =>
        rw [y] at z
        have := Option.some.inj (Option.some.inj z)
        exact .inr ⟨by omega, this.symm⟩
      | succ x =>
        rw [y] at z
        cases z
  have anot : ∀ i : Nat, as[i]? ≠ some (some a) := fun i z => by
    obtain ⟨o, y⟩ := k.dn a (k.inD i a z)
    rw [na] at y
    cases y
  obtain ⟨c', q', x⟩ := k'.ok j a e
  rw [q] at q'
  cases q'
  refine ⟨⟨⟨_, rfl⟩, n.mono, n.new, fun i b z => (at' z).elim .inl fun y => .inr (y.2 ▸ na), n.hid, n.rd, n.sol⟩, ?_, k'.dn, fun i b z => ?_, fun i i' b z y => ?_, fun i b z => ?_⟩
  · rw [List.length_append, List.length_append, k0.len]
    rfl
  · rcases at' z with z | ⟨_, rfl⟩
    · exact k0.inD i b z
    · exact k'.inD j b e
  · rcases at' z with z | ⟨z1, z2⟩
    · rcases at' y with y | ⟨y1, y2⟩
      · exact k.inj i i' b z y
      · exact absurd (y2 ▸ z) (anot i)
    · rcases at' y with y | ⟨y1, y2⟩
      · exact absurd (z2 ▸ y) (anot i')
      · rw [z1, y1]
  · rcases at' z with z | ⟨z1, z2⟩
    · obtain ⟨d, r, x'⟩ := k0.ok i b z
      refine ⟨d, ?_, x'⟩
      rw [List.getElem?_append_left (List.getElem?_eq_some_iff.mp r).1]
      exact r
    · subst z2
      refine ⟨c, ?_, x⟩
      rw [z1, k0.len, List.getElem?_append_right (Nat.le_refl _), Nat.sub_self]
      rfl
theorem RepWs.env {vs : List V} {ws : List W} (r : RepWs D as H vs ws) (N : Nat) : EnvR D as H (vs.map some ++ List.replicate (N - vs.length) none) (ws.map some ++ List.replicate (N - ws.length) none) := by
  have hl := r.length
  refine ⟨by simp [hl], fun i w e => ?_⟩
  by_cases lt : i < ws.length
  · rw [List.getElem?_append_left (by simpa using lt), List.getElem?_map] at e
    rw [List.getElem?_append_left (by simpa [hl] using lt), List.getElem?_map]
    clear lt hl
    induction r generalizing i with
    | nil => simp at e
    | cons r t ih =>
      cases i with
      | zero =>
        simp only [List.getElem?_cons_zero, Option.map_some, Option.some.injEq] at e ⊢
        subst e
        exact ⟨_, rfl, r⟩
      | succ i => exact ih i (by simpa using e)
  · rw [List.getElem?_append_right (by simpa using Nat.le_of_not_lt lt), List.getElem?_replicate] at e
    split at e <;> cases e
end
section
variable {P : Program} {w : World} {K : PySem.W.Frag} {mg : Str → Option Value} {base : Heap}
/-- THE RULE for a def -/
theorem Fun.pp {x qual : Str} {st : Stmt} {f : Addr} {fd : FuncData} {N ps : List Str} {k : Nat} {S : SF} (F : Fun K x qual st f fd) (Sc : FnScope N ps (defScope st))
    (body : ∀ (cdv : Value) (A : Around) (fr : List Env) (s : Shared) (H : Hp) (E : XK), A.guards = some [] → Room k (A.deeper (envOfC qual (defScope st) s.heap.objs.size f cdv)) →
      PPSs (cxOf (L2.CX P w) P w K mg base N qual (defScope st) f cdv A fr s H E) (fun c d _ H' => E c d H') (defBody st) S) : FnX P w K mg base (k + 1) f fd ps (spP ps.length (fDef ps.length N.length S)) := by
  refine Fun.okGX F Sc (fun h => h.1) (fun cdv A fr s H vs Q E hG hr h => ?_)
  obtain ⟨hl, D, as, ws, μ, k, r, g⟩ := h
  obtain ⟨t, p, ad⟩ := body cdv A fr s H E hG hr
  refine ⟨t, p, ad D as (ws.map some ++ List.replicate (N.length - ps.length) none) μ _ H _ k ?_ ?_⟩
  · have := r.env N.length
    rw [← r.length, hl] at this
    unfold L2.start
    rw [hl]
    exact this
  · unfold fDef at g
    rw [if_pos (by rw [← r.length]; exact hl)] at g
    generalize S (ws.map some ++ List.replicate (N.length - ps.length) none) μ = o at g ⊢
    cases o with
    | nx γ m =>
      intro σ' D' as' H' n k' _ _
      obtain ⟨n0, k0⟩ := k.cut k' n
      exact g .non D' as H' n0 k0 (show RepW D' as H' .non (.v .non) from .non)
    | bk γ m => exact g.elim
    | ct γ m => exact g.elim
    | bad => exact g.elim
    | exc C fs γ m =>
      intro σ' d gs D' as' H' n k' _ _ e q
      obtain ⟨n0, k0⟩ := k.cut k' n
      exact g d gs D' as H' n0 k0 e q
    | ret v m =>
      cases v with
      | v p =>
        intro x D' as' H' n k' q
        obtain ⟨n0, k0⟩ := k.cut k' n
        exact g x D' as H' n0 k0 (show RepW D' as H' x (.v p) from q)
      | loc j =>
        intro x D' as' H' n k' q
        obtain ⟨a, e, rfl⟩ := q
        unfold leave at g
        by_cases lt : j < μ.length
        · simp only [lt, if_true] at g
          obtain ⟨n0, k0⟩ := k.cut k' n
          refine g (.ref a) D' as H' n0 k0 ⟨a, ?_, rfl⟩
          obtain ⟨t', e'⟩ := n.pre
          rw [e', List.getElem?_append_left (by rw [k.len]; exact lt)] at e
          exact e
        · simp only [lt, if_false] at g
          obtain ⟨c, q1, x⟩ := k'.ok j a e
          rw [q1] at g
          obtain ⟨n0, k0⟩ := k.cut1 k' n (Nat.le_of_not_lt lt) e q1
          exact g (.ref a) D' _ H' n0 k0 ⟨a, by rw [← k.len]; exact last_get, rfl⟩
end
/-! ### calls -/
section
variable {X : Cx} {Wx : WX} {k : Nat} {f C : Addr} {fd : FuncData} {ps : List Str} {sp : Sp} {A : Around} {pins : List (Addr × Obj)} {σ : L2.St} {H : Hp} {s : Shared} {Q : VK} {us : List Value} {vs : List V}
theorem run_atX (F : FnX X.prog X.w X.K X.mg X.base k f fd ps sp) (fr : A.frames = X.A.frames) (hG : A.guards = some []) (room : Room k A) (bi : Binds X.K fd ps []) (tk : Takes X Wx) (I : Inv X pins σ H s) (r : Vals vs us) (q : sp vs H Q (WE Wx σ)) :
    wpAny (model X.prog X.w) A (call (.ref f) us) (EP X pins σ Q) X.xe s := by
  have n1 : us.length = ps.length := r.length.symm.trans (F.few q)
  have e0 : Env0 X.prog X.w X.K X.mg X.base A X.stack s H := by
    have e := I.env0
    exact ⟨by rw [fr]; exact e.frames, e.mod, e.bs, e.bsz, e.funs, e.frf, e.hok, e.bare⟩
  refine wpAny_call (codeAny_mono (F.goes (ar := ⟨us, []⟩) hG room e0 (by
    have := bi s us I.kIn (by simpa using n1)
    simpa using this) r q) fun res s2 ends => ?_)
  match res, ends with
  | .error e, z => exact passAt tk σ pins H s e s2 I z
  | .ok (.ret _), z => exact I.after z
  | .ok .next, z => exact z.elim
  | .ok .brk, z => exact z.elim
  | .ok .cont, z => exact z.elim
/-- a def of the module, with a pure promise -/
structure DP (P : Program) (w : World) (K : PySem.W.Frag) (mg : Str → Option Value) (base : Heap) (x : Str) (n : Nat) (k : Nat) (F : FF) : Prop where
  ex : ∃ (f : Addr) (fd : FuncData) (ps : List Str), ps.length = n ∧ FnX P w K mg base k f fd ps (spP n F) ∧ mg x = some (.ref f) ∧ PySem.W.keepIn K (.ref f) = true ∧ Binds K fd ps []
def fCall (F : FF) (A : AF) : EF := fun γ μ => (A γ μ).bind fun ws m => F ws m
theorem ad_callS {n : Nat} {F : FF} {ta : TA} {FA : AF} (h : AdA Wx ta FA) (hn : ∀ ws μ, ws.length ≠ n → F ws μ = .bad) : Ad Wx (tCallS (spP n F) (WE Wx) ta) (fCall F FA) := fun D as γ μ σ H Q k ev g => by
  refine h D as γ μ σ H _ k ev ((G.bind RepWs k g).mono fun xs H1 ⟨D1, as1, μ1, ws, n1, k1, r1, g1⟩ => ?_)
  refine ⟨?_, D1, as1, ws, μ1, k1, r1, ?_⟩
  · by_cases c : ws.length = n
    · rw [r1.length]; exact c
    · rw [hn ws μ1 c] at g1
      exact g1.elim
  · cases o : F ws μ1 with
    | ok w m => rw [o] at g1; exact g1
    | exc C fs m => rw [o] at g1; exact g1
    | bad => rw [o] at g1; exact g1
theorem fDef_len {n N : Nat} {S : SF} : ∀ ws μ, ws.length ≠ n → fDef n N S ws μ = .bad := fun ws μ h => by
  unfold fDef
  rw [if_neg h]
theorem pe_callX {x : Str} {e : Expr} {es : List Expr} {ta : TA} {p pos : Pos} (F : FnX X.prog X.w X.K X.mg X.base k f fd ps sp) (hG : X.A.guards = some []) (hr : Room k X.A) (hg : Gl X x) (hm : X.mg x = some (.ref f)) (hk : PySem.W.keepIn X.K (.ref f) = true) (hb : Binds X.K fd ps []) (tk : Takes X Wx)
    (ha : PA X (e :: es) ta) (hdb : (x == ("__debug__" : Str)) = false := by decide) (he : starEach (e :: es) X.env = (false, eval e X.env) :: starEach es X.env := by rfl) (hpl : (backTo pos (starEach es X.env)).any (·.1) = false := by rfl) :
    PE X (.Call (.Name x p) (e :: es) [] pos) (tCallS sp (WE Wx) ta) := by
  refine ⟨fun pins s σ H Q I h => ?_⟩
  refine wpAny_Call_Name_kw (ld_glob I hg hm ?_ hdb)
  refine PySem.W.callWith_K (h₀ := X.base) I.ok.mod.kin hk (thn (ha.run pos pins s σ H _ I h) fun us s1 ⟨vs, H1, I1, r, q⟩ => ⟨I1.kIn, ?_⟩) he hpl
  exact run_atX F rfl hG hr hb tk I1 r q
theorem pp_call {x : Str} {e : Expr} {es : List Expr} {FA : AF} {p pos : Pos} {n : Nat} {F : FF} (d : DP X.prog X.w X.K X.mg X.base x n k F) (hG : X.A.guards = some []) (hr : Room k X.A) (tk : Takes X Wx) (hg : Gl X x) (ha : PPA X Wx (e :: es) FA) (hn : ∀ ws μ, ws.length ≠ n → F ws μ = .bad := by exact fDef_len)
    (hdb : (x == ("__debug__" : Str)) = false := by decide) (he : starEach (e :: es) X.env = (false, eval e X.env) :: starEach es X.env := by rfl) (hpl : (backTo pos (starEach es X.env)).any (·.1) = false := by rfl) :
    PP X Wx (.Call (.Name x p) (e :: es) [] pos) (fCall F FA) := by
  obtain ⟨f, fd, ps, hl, FX, hm, hk, hb⟩ := d.ex
  obtain ⟨ta, pa, ad⟩ := ha
  exact ⟨_, pe_callX FX hG hr hg hm hk hb tk pa hdb he hpl, ad_callS ad hn⟩
end
end Pu

set_option Elab.async false
set_option linter.all false
set_option maxRecDepth 100000
set_option maxHeartbeats 4000000
namespace Pu
open L2 PySem PySem.Spec PyProof.Rows E10
/-! ### texts, sorted -/
def leS (a b : Str) : Bool := !decide (b.cps.toList < a.cps.toList)
theorem leS_tr (a b c : Str) (h1 : leS a b = true) (h2 : leS b c = true) : leS a c = true := by
  unfold leS at *
  simp only [Bool.not_eq_true', decide_eq_false_iff_not] at *
  exact codes_tr h1 h2
theorem leS_tot (a b : Str) : (leS a b || leS b a) = true := by
  unfold leS
  by_cases h : a.cps.toList < b.cps.toList
  · simp [codes_asym h]
  · simp [h]
theorem leS_anti {a b : Str} (h1 : leS a b = true) (h2 : leS b a = true) : a = b := by
  unfold leS at *
  simp only [Bool.not_eq_true', decide_eq_false_iff_not] at *
  have e : a.cps.toList = b.cps.toList := List.le_antisymm (List.not_lt.mp h1) (List.not_lt.mp h2)
  exact Str.ext' (Array.toList_inj.mp e)
def srt (l : List Str) : List Str := l.mergeSort leS
theorem srt_perm (l : List Str) : (srt l).Perm l := List.mergeSort_perm ..
theorem srt_pw (l : List Str) : (srt l).Pairwise fun a b => leS a b = true := List.pairwise_mergeSort leS_tr leS_tot l
theorem uniq_sorted : ∀ {l m : List Str}, l.Pairwise (fun a b => leS a b = true) → m.Pairwise (fun a b => leS a b = true) → l.Perm m → l = m
  | [], m, _, _, p => (List.Perm.eq_nil p.symm).symm
  | x :: l, [], _, _, p => absurd p.length_eq (by simp)
  | x :: l, y :: m, hl, hm, p => by
    rw [List.pairwise_cons] at hl hm
    have e : x = y := by
      rcases List.mem_cons.mp (p.mem_iff.mp (List.mem_cons_self (a := x) (l := l))) with e | hx
      · exact e
      · rcases List.mem_cons.mp (p.mem_iff.mpr (List.mem_cons_self (a := y) (l := m))) with e | hy
        · exact e.symm
        · exact leS_anti (hl.1 _ hy) (hm.1 _ hx)
    subst e
    rw [uniq_sorted hl.2 hm.2 p.cons_inv]
theorem pw_of_rising : ∀ {l : List Str} {p : Str}, risingS p l = true → (p :: l).Pairwise fun a b => leS a b = true
  | [], p, _ => List.pairwise_singleton ..
  | x :: r, p, h => by
    have h2 : (!ltCps x.cps.toList p.cps.toList && risingS x r) = true := h
    obtain ⟨a, b⟩ := Bool.and_eq_true_iff.mp h2
    have pw := pw_of_rising b
    have le : leS p x = true := by
      unfold leS
      rw [ltCps_eq] at a
      exact a
    rw [List.pairwise_cons]
    refine ⟨fun z hz => ?_, pw⟩
    rcases List.mem_cons.mp hz with rfl | hz
    · exact le
    · exact leS_tr _ _ _ le ((List.pairwise_cons.mp pw).1 z hz)
theorem pw_of_sortedS {l : List Str} (h : sortedS l = true) : l.Pairwise fun a b => leS a b = true := by
  cases l with
  | nil => exact .nil
  | cons x r => exact pw_of_rising h
theorem srt_uniq {ys l : List Str} (p : ys.Perm l) (h : sortedS ys = true) : ys = srt l := uniq_sorted (pw_of_sortedS h) (srt_pw l) (p.trans (srt_perm l).symm)
theorem srt_nodup {l : List Str} (h : l.Nodup) : (srt l).Nodup := (srt_perm l).nodup_iff.mpr h
theorem srt_mem {l : List Str} {z : Str} : z ∈ srt l ↔ z ∈ l := (srt_perm l).mem_iff
theorem srt_len (l : List Str) : (srt l).length = l.length := (srt_perm l).length_eq
theorem srt_eq {a b : List Str} (p : a.Perm b) : srt a = srt b := uniq_sorted (srt_pw a) (srt_pw b) ((srt_perm a).trans (p.trans (srt_perm b).symm))
theorem srt_id {a : List Str} (h : a.Pairwise fun a b => leS a b = true) : srt a = a := uniq_sorted (srt_pw a) h (srt_perm a)
/-! ### what is read of a value -/
def rdL (μ : Μ) : W → Option (List P)
  | .v (.lst ps) => some ps
  | .loc j => match μ[j]? with
    | some (.lst ps) => some ps
    | _ => none
  | _ => none
def rdD (μ : Μ) : W → Option (List (Key × P))
  | .v (.dct ps) => some ps
  | .loc j => match μ[j]? with
    | some (.dct ps) => some ps
    | _ => none
  | _ => none
def rdI (μ : Μ) : W → Option (Addr × List (Str × P))
  | .v (.ins C ps) => some (C, ps)
  | .loc j => match μ[j]? with
    | some (.ins C ps) => some (C, ps)
    | _ => none
  | _ => none
section
variable {D : Addr → Prop} {as : Ps} {H : Hp} {μ : Μ} {v : V} {w : W}
theorem rdL_ok {ps : List P} (k : Sk D as H μ) (r : RepW D as H v w) (h : rdL μ w = some ps) : ∃ a xs, v = .ref a ∧ Rd H a (.lst xs) ∧ Reps D H xs ps := by
  unfold rdL at h
  split at h
  · cases h
    cases r with
    | lst n hr rs => exact ⟨_, _, rfl, hr, rs⟩
  · split at h
    · rename_i q
      cases h
      obtain ⟨a, e, rfl⟩ := r
      obtain ⟨c, q', x⟩ := k.ok _ a e
      rw [q] at q'
      cases q'
      obtain ⟨xs, hx, rs⟩ := x
      exact ⟨a, xs, rfl, .inl hx, rs⟩
    · cases h
  · cases h
theorem rdD_ok {ps : List (Key × P)} (k : Sk D as H μ) (r : RepW D as H v w) (h : rdD μ w = some ps) : ∃ a xs, v = .ref a ∧ Rd H a (.dK xs) ∧ RepK D H xs ps := by
  unfold rdD at h
  split at h
  · cases h
    cases r with
    | dct n hr rs => exact ⟨_, _, rfl, hr, rs⟩
  · split at h
    · rename_i q
      cases h
      obtain ⟨a, e, rfl⟩ := r
      obtain ⟨c, q', x⟩ := k.ok _ a e
      rw [q] at q'
      cases q'
      obtain ⟨xs, hx, rs⟩ := x
      exact ⟨a, xs, rfl, .inl hx, rs⟩
    · cases h
  · cases h
theorem rdI_ok {C : Addr} {ps : List (Str × P)} (k : Sk D as H μ) (r : RepW D as H v w) (h : rdI μ w = some (C, ps)) : ∃ a dx xs, v = .ref a ∧ H a = some (.ins C dx xs) ∧ RepS D H xs ps := by
  unfold rdI at h
  split at h
  · cases h
    cases r with
    | ins n hr rs => exact ⟨_, _, _, rfl, hr, rs⟩
  · split at h
    · rename_i q
      cases h
      obtain ⟨a, e, rfl⟩ := r
      obtain ⟨c, q', x⟩ := k.ok _ a e
      rw [q] at q'
      cases q'
      obtain ⟨dx, xs, hx, rs⟩ := x
      exact ⟨a, dx, xs, rfl, hx, rs⟩
    · cases h
  · cases h
theorem rep_tup {ps : List P} (r : Rep D H v (.tup ps)) : ∃ a xs, v = .ref a ∧ ¬ D a ∧ Rd H a (.tup xs) ∧ Reps D H xs ps := by
  cases r with
  | tup n hr rs => exact ⟨_, _, rfl, n, hr, rs⟩
theorem RepK.val {k : Key} : ∀ {vs : List (Key × V)} {ps : List (Key × P)}, RepK D H vs ps → ∀ {p}, (ps.find? fun kv => decide (kv.1 = k)).map (·.2) = some p → ∃ v, valV vs k = some v ∧ Rep D H v p
  | _, _, @RepK.cons _ _ k' v p l m r t, q, e => by
    by_cases c : k' = k
    · subst c
      simp only [List.find?_cons, decide_true, Option.map_some, Option.some.injEq] at e
      subst e
      exact ⟨v, by simp [valV], r⟩
    · simp only [List.find?_cons, decide_eq_false c] at e
      obtain ⟨v', h1, h2⟩ := RepK.val t e
      exact ⟨v', by simpa [valV, List.find?_cons, decide_eq_false c] using h1, h2⟩
theorem RepK.val_none {k : Key} : ∀ {vs : List (Key × V)} {ps : List (Key × P)}, RepK D H vs ps → (ps.find? fun kv => decide (kv.1 = k)).map (·.2) = none → valV vs k = none
  | _, _, .nil, _ => rfl
  | _, _, @RepK.cons _ _ k' v p l m r t, e => by
    by_cases c : k' = k
    · subst c
      simp at e
    · simp only [List.find?_cons, decide_eq_false c] at e
      have := RepK.val_none t e
      simpa [valV, List.find?_cons, decide_eq_false c] using this
end
/-- what a dict has for a key -/
def valP (ps : List (Key × P)) (k : Key) : Option P := (ps.find? fun kv => decide (kv.1 = k)).map (·.2)
def keyP : P → Option Key
  | .int i => some (.inl i)
  | .str x => some (.inr x)
  | _ => none
theorem keyP_ok {D : Addr → Prop} {H : Hp} {v : V} {p : P} {k : Key} (r : Rep D H v p) (h : keyP p = some k) : v = kV k := by
  cases p <;> cases h <;> cases r <;> rfl
/-! ### d[k], k in d -/
def fDGet : W → W → Μ → O W := fun x y μ => match rdD μ x, y with
  | some ps, .v q => match keyP q with
    | some k => match valP ps k with
      | some p => .ok (.v p) μ
      | none => .bad
    | none => .bad
  | _, _ => .bad
def fDIn (neg : Bool) : W → W → Μ → O W := fun y x μ => match rdD μ x, y with
  | some ps, .v q => match keyP q with
    | some k => .ok (.v (.bl ((valP ps k).isSome != neg))) μ
    | none => .bad
  | _, _ => .bad
section
variable {X : Cx} {Wx : WX} {e a b c : Expr} {es : List Expr} {F F1 F2 : EF} {FA : AF} {pos : Pos}
theorem ad_dget {td ty : TE} (h : Ad Wx td F1) (h2 : Ad Wx ty F2) : Ad Wx (tDGet td ty) (fOp fDGet F1 F2) := ad_op (r := fun x y H Q => ∃ a v, x = .ref a ∧ DGet H a y (some v) ∧ Q v H) (fun D as μ σ H x y a b Q k ra rb gg => by
  unfold fDGet at gg
  split at gg
  · rename_i ps q e1
    split at gg
    · rename_i kk e3
      split at gg
      · rename_i p e4
        obtain ⟨ad, xs, rfl, hr, rs⟩ := rdD_ok k ra e1
        obtain ⟨v, q1, q2⟩ := rs.val e4
        refine ⟨ad, v, rfl, .inl ⟨xs, kk, hr, keyP_ok rb e3, q1.symm⟩, nowV k gg q2⟩
      · exact gg.elim
    · exact gg.elim
  · exact gg.elim) h h2
theorem pp_dget (hu : X.A.units + 1 < cLine) (ho : PP X Wx a F1) (hi : PP X Wx b F2) (hs : NoSl b := by exact fun _ _ => rfl) : PP X Wx (.Subscript a b pos) (fOp fDGet F1 F2) :=
  let ⟨_, p, ad⟩ := ho; let ⟨_, p2, ad2⟩ := hi; ⟨_, pe_dget hu p p2 hs, ad_dget ad ad2⟩
theorem ad_dinR {neg : Bool} : AdR2 Wx (fun y x H Q => ∃ a o, x = .ref a ∧ DGet H a y o ∧ Q (.bl (o.isSome != neg)) H) (fDIn neg) := fun D as μ σ H y x b a Q k rb ra gg => by
  unfold fDIn at gg
  split at gg
  · rename_i ps q e1
    split at gg
    · rename_i kk e3
      obtain ⟨ad, xs, rfl, hr, rs⟩ := rdD_ok k ra e1
      refine ⟨ad, valV xs kk, rfl, .inl ⟨xs, kk, hr, keyP_ok rb e3, rfl⟩, ?_⟩
      have : (valV xs kk).isSome = (valP ps kk).isSome := by
        cases e4 : valP ps kk with
        | some p =>
          obtain ⟨v, q1, q2⟩ := rs.val e4
          rw [q1]
          rfl
        | none =>
          rw [rs.val_none e4]
          rfl
      rw [this]
      exact nowV k gg .bl
    · exact gg.elim
  · exact gg.elim
theorem ad_din {td ty : TE} (h : Ad Wx ty F1) (h2 : Ad Wx td F2) : Ad Wx (tDIn ty td) (fOp (fDIn false) F1 F2) := fun D as γ μ σ H Q k ev g => by
  have := ad_op (ad_dinR (Wx := Wx) (neg := false)) h h2 D as γ μ σ H Q k ev g
  simpa [tOp, tDIn] using this
theorem ad_dnotin {td ty : TE} (h : Ad Wx ty F1) (h2 : Ad Wx td F2) : Ad Wx (tDNotIn ty td) (fOp (fDIn true) F1 F2) := fun D as γ μ σ H Q k ev g => by
  have := ad_op (ad_dinR (Wx := Wx) (neg := true)) h h2 D as γ μ σ H Q k ev g
  simpa [tOp, tDNotIn] using this
theorem pp_din (hu : X.A.units + 1 < cLine) (hi : PP X Wx a F1) (ho : PP X Wx b F2) (h1 : behindInMarks .In b = false := by rfl) : PP X Wx (.Compare a [.In] [b] pos) (fOp (fDIn false) F1 F2) :=
  let ⟨_, p, ad⟩ := hi; let ⟨_, p2, ad2⟩ := ho; ⟨_, pe_cmp (pc_din hu p p2) h1, ad_din ad ad2⟩
theorem pp_dnotin (hu : X.A.units + 1 < cLine) (hi : PP X Wx a F1) (ho : PP X Wx b F2) (h1 : behindInMarks .NotIn b = false := by rfl) : PP X Wx (.Compare a [.NotIn] [b] pos) (fOp (fDIn true) F1 F2) :=
  let ⟨_, p, ad⟩ := hi; let ⟨_, p2, ad2⟩ := ho; ⟨_, pe_cmp (pc_dnotin hu p p2) h1, ad_dnotin ad ad2⟩
/-! ### xs[i] -/
def fIxL : W → W → Μ → O W := fun x y μ => match rdL μ x, y with
  | some ps, .v (.int i) => match atI ps i with
    | some p => .ok (.v p) μ
    | none => .bad
  | _, _ => .bad
def fIxT : W → W → Μ → O W := fun x y μ => match x, y with
  | .v (.tup ps), .v (.int i) => match atI ps i with
    | some p => .ok (.v p) μ
    | none => .bad
  | _, _ => .bad
def fIxS : W → W → Μ → O W := fun x y μ => match x, y with
  | .v (.str z), .v (.int i) => if z.length ≤ sizeLine then match atI z.cps.toList i with
    | some c => .ok (.v (.str ⟨#[c]⟩)) μ
    | none => .bad
    else .bad
  | _, _ => .bad
theorem atI_rep {D : Addr → Prop} {H : Hp} {xs : List V} {ps : List P} {i : Int} {p : P} (r : Reps D H xs ps) (h : atI ps i = some p) : ∃ v, atI xs i = some v ∧ Rep D H v p := by
  unfold atI at *
  rw [r.length]
  cases q : ixN ps.length i with
  | none => rw [q] at h; cases h
  | some j =>
    rw [q] at h
    exact r.getP h
theorem ad_ixL {K : PySem.W.Frag} : AdR2 Wx (rIxL K) fIxL := fun D as μ σ H x y a b Q k ra rb gg => by
  unfold fIxL at gg
  split at gg
  · rename_i ps i e1
    split at gg
    · rename_i p e4
      obtain ⟨ad, xs, rfl, hr, rs⟩ := rdL_ok k ra e1
      obtain ⟨v, q1, q2⟩ := atI_rep rs e4
      exact ⟨ad, xs, i, v, rfl, rep_int rb, .inl hr, q1, nowV k gg q2⟩
    · exact gg.elim
  · exact gg.elim
theorem ad_ixT {K : PySem.W.Frag} : AdR2 Wx (rIxT K) fIxT := fun D as μ σ H x y a b Q k ra rb gg => by
  unfold fIxT at gg
  split at gg
  · rename_i ps i
    split at gg
    · rename_i p e4
      obtain ⟨ad, xs, rfl, _, hr, rs⟩ := rep_tup ra
      obtain ⟨v, q1, q2⟩ := atI_rep rs e4
      exact ⟨ad, xs, i, v, rfl, rep_int rb, .inl hr, q1, nowV k gg q2⟩
    · exact gg.elim
  · exact gg.elim
theorem ad_ixS : AdR2 Wx rIxS fIxS := fun D as μ σ H x y a b Q k ra rb gg => by
  unfold fIxS at gg
  split at gg
  · rename_i z i
    split at gg
    · rename_i hz
      split at gg
      · rename_i c e4
        exact ⟨z, i, c, rep_str ra, rep_int rb, hz, e4, nowV k gg .str⟩
      · exact gg.elim
    · exact gg.elim
  · exact gg.elim
/-! ### calls of the built-in -/
def AdC (Wx : WX) (r : List V → Hp → VK → Prop) (f : List W → Μ → O W) : Prop := ∀ D as μ σ H vs ws Q, Sk D as H μ → RepWs D as H vs ws → G Wx σ RepW D as H (f ws μ) Q → r vs H Q
theorem ad_cb {r} {f} {ta} (h : AdC Wx r f) (ha : AdA Wx ta FA) : Ad Wx (tCB r ta) (fCall f FA) := fun D as γ μ σ H Q k ev g => by
  refine ha D as γ μ σ H _ k ev ((G.bind RepWs k g).mono fun xs H1 ⟨D1, as1, μ1, ws, n1, k1, r1, g1⟩ => ?_)
  exact h D1 as1 μ1 σ H1 xs ws Q k1 r1 g1
theorem pp_callB {id : String} {r} {f} {x : Str} {p : Pos} (hc : CallR X (.builtin id) r) (hg : Gl X x) (hm : X.mg x = none) (hv : bootBuiltins x = some (.builtin id)) (h : AdC Wx r f) (ha : PPA X Wx (e :: es) FA) (hn : x ≠ "__name__" := by decide) (hdb : (x == ("__debug__" : Str)) = false := by decide)
    (he : starEach (e :: es) X.env = (false, eval e X.env) :: starEach es X.env := by rfl) (hpl : (backTo pos (starEach es X.env)).any (·.1) = false := by rfl) : PP X Wx (.Call (.Name x p) (e :: es) [] pos) (fCall f FA) :=
  let ⟨_, pa, aa⟩ := ha; ⟨_, pe_callB hc hg hm hv pa hn hdb he hpl, ad_cb h aa⟩
theorem pp_callTy {id : String} {r} {f} {x : Str} {p : Pos} (hc : CallR X (.type id) r) (hg : Gl X x) (hm : X.mg x = none) (hv : bootBuiltins x = some (.type id)) (h : AdC Wx r f) (ha : PPA X Wx (e :: es) FA) (hn : x ≠ "__name__" := by decide) (hdb : (x == ("__debug__" : Str)) = false := by decide)
    (he : starEach (e :: es) X.env = (false, eval e X.env) :: starEach es X.env := by rfl) (hpl : (backTo pos (starEach es X.env)).any (·.1) = false := by rfl) : PP X Wx (.Call (.Name x p) (e :: es) [] pos) (fCall f FA) :=
  let ⟨_, pa, aa⟩ := ha; ⟨_, pe_callTy hc hg hm hv pa hn hdb he hpl, ad_cb h aa⟩
theorem repWs1 {D as H} {vs : List V} {w : W} (r : RepWs D as H vs [w]) : ∃ v, vs = [v] ∧ RepW D as H v w := by
  cases r with
  | cons r t => cases t; exact ⟨_, rfl, r⟩
theorem repWs2 {D as H} {vs : List V} {w u : W} (r : RepWs D as H vs [w, u]) : ∃ x y, vs = [x, y] ∧ RepW D as H x w ∧ RepW D as H y u := by
  cases r with
  | cons r t =>
    cases t with
    | cons r2 t => cases t; exact ⟨_, _, rfl, r, r2⟩
/-- len -/
def fLenS : List W → Μ → O W := fun ws μ => match ws with
  | [.v (.str z)] => if z.length ≤ sizeLine then .ok (.v (.int z.length)) μ else .bad
  | _ => .bad
theorem ad_lenS : AdC Wx (fun xs H Q => ∃ z, xs = [.str z] ∧ z.length ≤ sizeLine ∧ Q (.int z.length) H) fLenS := fun D as μ σ H vs ws Q k r gg => by
  unfold fLenS at gg
  split at gg
  · split at gg
    · rename_i hz
      obtain ⟨v, rfl, rv⟩ := repWs1 r
      obtain rfl := rep_str rv
      exact ⟨_, rfl, hz, nowV k gg .int⟩
    · exact gg.elim
  · exact gg.elim
def seqP (μ : Μ) : W → Option (List P)
  | .v (.tup ps) => some ps
  | w => rdL μ w
theorem seqP_ok {D as H} {μ : Μ} {v : V} {w : W} {ps : List P} {K : PySem.W.Frag} (k : Sk D as H μ) (r : RepW D as H v w) (h : seqP μ w = some ps) : ∃ a xs, v = .ref a ∧ (SqL K H a xs ∨ SqT K H a xs) ∧ Reps D H xs ps := by
  unfold seqP at h
  split at h
  · cases h
    obtain ⟨a, xs, rfl, _, hr, rs⟩ := rep_tup r
    exact ⟨a, xs, rfl, .inr (.inl hr), rs⟩
  · obtain ⟨a, xs, rfl, hr, rs⟩ := rdL_ok k r h
    exact ⟨a, xs, rfl, .inl (.inl hr), rs⟩
def fLenL : List W → Μ → O W := fun ws μ => match ws with
  | [w] => match seqP μ w with
    | some ps => .ok (.v (.int ps.length)) μ
    | none => .bad
  | _ => .bad
theorem ad_lenL {K : PySem.W.Frag} : AdC Wx (fun xs H Q => ∃ p ys, xs = [.ref p] ∧ (SqL K H p ys ∨ SqT K H p ys) ∧ Q (.int ys.length) H) fLenL := fun D as μ σ H vs ws Q k r gg => by
  unfold fLenL at gg
  split at gg
  · split at gg
    · rename_i ps e
      obtain ⟨v, rfl, rv⟩ := repWs1 r
      obtain ⟨a, xs, rfl, hs, rs⟩ := seqP_ok k rv e
      refine ⟨a, xs, rfl, hs, ?_⟩
      rw [rs.length]
      exact nowV k gg .int
    · exact gg.elim
  · exact gg.elim
def fLenD : List W → Μ → O W := fun ws μ => match ws with
  | [w] => match rdD μ w with
    | some ps => .ok (.v (.int ps.length)) μ
    | none => .bad
  | _ => .bad
theorem call_lenDr : CallR X (.builtin "len") (fun xs H Q => ∃ a kvs, xs = [V.ref a] ∧ Rd H a (.dK kvs) ∧ Q (.int kvs.length) H) := by
  intro pins s σ H xs us Q I r h
  obtain ⟨a, kvs, rfl, hd, q⟩ := h
  obtain ⟨u, rfl, ru⟩ := vals1 r
  cases ru
  exact d_len I hd fun t s' I' => ⟨.int kvs.length, H, I', ⟨t, rfl⟩, q⟩
theorem ad_lenD : AdC Wx (fun xs H Q => ∃ a kvs, xs = [V.ref a] ∧ Rd H a (.dK kvs) ∧ Q (.int kvs.length) H) fLenD := fun D as μ σ H vs ws Q k r gg => by
  unfold fLenD at gg
  split at gg
  · split at gg
    · rename_i ps e
      obtain ⟨v, rfl, rv⟩ := repWs1 r
      obtain ⟨a, xs, rfl, hs, rs⟩ := rdD_ok k rv e
      refine ⟨a, xs, rfl, hs, ?_⟩
      rw [rs.length]
      exact nowV k gg .int
    · exact gg.elim
  · exact gg.elim
/-- all, any -/
def blsP : List P → Option (List Bool)
  | [] => some []
  | .bl b :: r => (blsP r).map (b :: ·)
  | _ :: _ => none
theorem blsP_ok {D : Addr → Prop} {H : Hp} : ∀ {xs : List V} {ps : List P} {bs : List Bool}, Reps D H xs ps → blsP ps = some bs → xs = bs.map V.bl
  | _, _, _, .nil, e => by cases e; rfl
  | _, _, _, @Reps.cons _ _ v (.bl b) l m r t, e => by
    cases q : blsP m with
    | none => rw [blsP, q] at e; cases e
    | some cs =>
      rw [blsP, q] at e
      cases e
      rw [rep_bl r, blsP_ok t q]
      rfl
  | _, _, _, @Reps.cons _ _ v .non l m r t, e => by cases e
  | _, _, _, @Reps.cons _ _ v (.int _) l m r t, e => by cases e
  | _, _, _, @Reps.cons _ _ v (.str _) l m r t, e => by cases e
  | _, _, _, @Reps.cons _ _ v (.ref _) l m r t, e => by cases e
  | _, _, _, @Reps.cons _ _ v (.ty _) l m r t, e => by cases e
  | _, _, _, @Reps.cons _ _ v (.tup _) l m r t, e => by cases e
  | _, _, _, @Reps.cons _ _ v (.lst _) l m r t, e => by cases e
  | _, _, _, @Reps.cons _ _ v (.dct _) l m r t, e => by cases e
  | _, _, _, @Reps.cons _ _ v (.ins _ _) l m r t, e => by cases e
  | _, _, _, @Reps.cons _ _ v (.set _ _) l m r t, e => by cases e
def fBls (g : List Bool → Bool) : List W → Μ → O W := fun ws μ => match ws with
  | [w] => match (rdL μ w).bind blsP with
    | some bs => .ok (.v (.bl (g bs))) μ
    | none => .bad
  | _ => .bad
theorem ad_bls {K : PySem.W.Frag} {g : List Bool → Bool} : AdC Wx (fun vs H Q => ∃ (a : Addr) (bs : List Bool), vs = [V.ref a] ∧ SqL K H a (bs.map V.bl) ∧ Q (.bl (g bs)) H) (fBls g) := fun D as μ σ H vs ws Q k r gg => by
  unfold fBls at gg
  split at gg
  · split at gg
    · rename_i bs e
      obtain ⟨ps, e1, e2⟩ := Option.bind_eq_some_iff.mp e
      obtain ⟨v, rfl, rv⟩ := repWs1 r
      obtain ⟨a, xs, rfl, hs, rs⟩ := rdL_ok k rv e1
      obtain rfl := blsP_ok rs e2
      exact ⟨a, bs, rfl, .inl hs, nowV k gg .bl⟩
    · exact gg.elim
  · exact gg.elim
theorem ad_all {K : PySem.W.Frag} : AdC Wx (rAll K) (fBls fun bs => bs.all id) := ad_bls
theorem ad_any {K : PySem.W.Frag} : AdC Wx (rAny K) (fBls fun bs => bs.any id) := ad_bls
end
end Pu

set_option Elab.async false
set_option linter.all false
set_option maxRecDepth 100000
set_option maxHeartbeats 4000000
namespace Pu
open L2 PySem PySem.Spec PyProof.Rows E10
/-! ### what is walked -/
abbrev IF := Γ → Μ → O (List P)
/-- J walks ps -/
def RepI : RL It (List P) := fun D _ H J ps => ps.length ≤ 100000 ∧ ∃ (Gd : Hp → Prop) (Y : Nat → Hp → V → Hp → Prop), Walk J ps.length Gd Y ∧ (∀ D' H', Sd D H D' H' → Gd H') ∧
  ∀ i D' H' x H2, i < ps.length → Sd D H D' H' → (∀ a, D' a → ∃ o, H' a = some o) → Y i H' x H2 → Same H' H2 ∧ ∃ p, ps[i]? = some p ∧ Rep D' H2 x p
def AdI (Wx : WX) (wi : TI) (I : IF) : Prop := ∀ D as γ μ σ H R, Sk D as H μ → EnvR D as H σ γ → G Wx σ RepI D as H (I γ μ) R → wi σ H R
def PPI (X : Cx) (Wx : WX) (tg it : Expr) (I : IF) : Prop := ∃ wi, PI X tg it wi ∧ AdI Wx wi I
/-- small enough to be walked -/
def few (ps : List P) (μ : Μ) : O (List P) := if ps.length ≤ 100000 then .ok ps μ else .bad
def iLst (F : EF) : IF := fun γ μ => (F γ μ).bind fun w m => match w with
  | .v (.lst ps) => few ps m
  | _ => .bad
def iTupP (F : EF) : IF := fun γ μ => (F γ μ).bind fun w m => match w with
  | .v (.tup ps) => few ps m
  | _ => .bad
section
variable {X : Cx} {Wx : WX} {e tg : Expr} {es : List Expr} {F F1 F2 : EF} {FA : AF} {pos : Pos} {D : Addr → Prop} {as : Ps} {H : Hp} {μ : Μ}
theorem nowI {σ : L2.St} {ps : List P} {J : It} {R : It → Hp → Prop} (k : Sk D as H μ) (g : G Wx σ RepI D as H (few ps μ) R) (h : ps.length ≤ 100000 → ∃ (Gd : Hp → Prop) (Y : Nat → Hp → V → Hp → Prop), Walk J ps.length Gd Y ∧ (∀ D' H', Sd D H D' H' → Gd H') ∧
    ∀ i D' H' x H2, i < ps.length → Sd D H D' H' → (∀ a, D' a → ∃ o, H' a = some o) → Y i H' x H2 → Same H' H2 ∧ ∃ p, ps[i]? = some p ∧ Rep D' H2 x p) : R J H := by
  unfold few at g
  split at g
  · rename_i hl
    exact G.now (R := RepI) k ⟨hl, h hl⟩ g
  · exact g.elim
theorem rep_lst {v : V} {ps : List P} (r : Rep D H v (.lst ps)) : ∃ a xs, v = .ref a ∧ ¬ D a ∧ Rd H a (.lst xs) ∧ Reps D H xs ps := by
  cases r with
  | lst n hr rs => exact ⟨_, _, rfl, n, hr, rs⟩
theorem rep_dct {v : V} {ps : List (Key × P)} (r : Rep D H v (.dct ps)) : ∃ a xs, v = .ref a ∧ ¬ D a ∧ Rd H a (.dK xs) ∧ RepK D H xs ps := by
  cases r with
  | dct n hr rs => exact ⟨_, _, rfl, n, hr, rs⟩
theorem ad_iList {K : PySem.W.Frag} {tl : TE} (h : Ad Wx tl F) : AdI Wx (iList K tl) (iLst F) := fun D as γ μ σ H R k ev g => by
  refine h D as γ μ σ H _ k ev ((G.bind RepW k g).mono fun x H1 ⟨D1, as1, μ1, wx, n1, k1, r1, g1⟩ => ?_)
  split at g1
  · obtain ⟨a, xs, rfl, nd, hr, rs⟩ := rep_lst r1
    · refine ⟨a, rfl, ⟨xs, .inl hr⟩, nowI k1 g1 fun hl => ⟨fun H' => SqL K H' a xs, YAt xs, by rw [← rs.length]; exact walk_list, fun D' H' s => .inl (s.r _ _ nd hr), fun i D' H' x H2 lt s dn y => ?_⟩⟩
      obtain ⟨rfl, hx⟩ := y
      obtain ⟨p, hp, rp⟩ := rs.get hx
      exact ⟨Same.refl _, p, hp, rp.sd s⟩
  · exact g1.elim
theorem ad_iTup {K : PySem.W.Frag} {tl : TE} (h : Ad Wx tl F) : AdI Wx (iTup K tl) (iTupP F) := fun D as γ μ σ H R k ev g => by
  refine h D as γ μ σ H _ k ev ((G.bind RepW k g).mono fun x H1 ⟨D1, as1, μ1, wx, n1, k1, r1, g1⟩ => ?_)
  split at g1
  · obtain ⟨a, xs, rfl, nd, hr, rs⟩ := rep_tup r1
    · refine ⟨a, rfl, ⟨xs, .inl hr⟩, nowI k1 g1 fun hl => ⟨fun H' => SqT K H' a xs, YAt xs, by rw [← rs.length]; exact walk_tup, fun D' H' s => .inl (s.r _ _ nd hr), fun i D' H' x H2 lt s dn y => ?_⟩⟩
      obtain ⟨rfl, hx⟩ := y
      obtain ⟨p, hp, rp⟩ := rs.get hx
      exact ⟨Same.refl _, p, hp, rp.sd s⟩
  · exact g1.elim
theorem ppi_list (h : PP X Wx e F) : PPI X Wx tg e (iLst F) := let ⟨_, p, ad⟩ := h; ⟨_, pi_list p, ad_iList ad⟩
theorem ppi_tup (h : PP X Wx e F) : PPI X Wx tg e (iTupP F) := let ⟨_, p, ad⟩ := h; ⟨_, pi_tup p, ad_iTup ad⟩
/-- range -/
def rngP (lo : Int) (n : Nat) : List P := (List.range n).map fun i => .int (lo + (i : Nat))
def iRg1 (A : AF) : IF := fun γ μ => (A γ μ).bind fun ws m => match ws with
  | [.v (.int j)] => if j.toNat ≤ 100000 ∧ j.natAbs < 2 ^ 61 then .ok (rngP 0 j.toNat) m else .bad
  | _ => .bad
def iRg2 (A : AF) : IF := fun γ μ => (A γ μ).bind fun ws m => match ws with
  | [.v (.int i), .v (.int j)] => if (j - i).toNat ≤ 100000 ∧ i.natAbs < 2 ^ 61 ∧ j.natAbs < 2 ^ 61 then .ok (rngP i (j - i).toNat) m else .bad
  | _ => .bad
theorem rng_rep {lo : Int} {n : Nat} (hl : n ≤ 100000) : RepI D as H (Itr lo n) (rngP lo n) := by
  have hn : (rngP lo n).length = n := by unfold rngP; simp
  refine ⟨by rw [hn]; exact hl, fun _ => True, YFn fun i => .int (lo + i), by rw [hn]; exact walk_range, fun _ _ _ => True.intro, fun i D' H' x H2 lt s dn y => ?_⟩
  obtain ⟨rfl, rfl⟩ := y
  rw [hn] at lt
  refine ⟨Same.refl _, .int (lo + i), ?_, .int⟩
  unfold rngP
  simp [lt]
theorem ad_rng1 {ta : TA} (h : AdA Wx ta FA) : AdI Wx (iRng1 ta) (iRg1 FA) := fun D as γ μ σ H R k ev g => by
  refine h D as γ μ σ H _ k ev ((G.bind RepWs k g).mono fun xs H1 ⟨D1, as1, μ1, ws, n1, k1, r1, g1⟩ => ?_)
  split at g1
  · split at g1
    · rename_i j hl
      obtain ⟨v, rfl, rv⟩ := repWs1 r1
      obtain rfl := rep_int rv
      have : (2 : Nat) ^ 61 = 2305843009213693952 := by decide
      have : (2 : Int) ^ 62 = 4611686018427387904 := by decide
      exact ⟨j, rfl, by omega, by omega, G.now (R := RepI) k1 (rng_rep hl.1) g1⟩
    · exact g1.elim
  · exact g1.elim
theorem ad_rng2 {ta : TA} (h : AdA Wx ta FA) : AdI Wx (iRng2 ta) (iRg2 FA) := fun D as γ μ σ H R k ev g => by
  refine h D as γ μ σ H _ k ev ((G.bind RepWs k g).mono fun xs H1 ⟨D1, as1, μ1, ws, n1, k1, r1, g1⟩ => ?_)
  split at g1
  · split at g1
    · rename_i i j hl
      obtain ⟨v, u, rfl, rv, ru⟩ := repWs2 r1
      obtain rfl := rep_int rv
      obtain rfl := rep_int ru
      have : (2 : Nat) ^ 61 = 2305843009213693952 := by decide
      have : (2 : Int) ^ 62 = 4611686018427387904 := by decide
      exact ⟨i, j, rfl, ⟨by omega, by omega, by omega, by omega⟩, G.now (R := RepI) k1 (rng_rep hl.1) g1⟩
    · exact g1.elim
  · exact g1.elim
theorem ppi_range1 {a : Expr} {p : Pos} (hg : Gl X "range") (hm : X.mg "range" = none) (ha : PPA X Wx [a] FA) (hs : starEach [a] X.env = [(false, eval a X.env)] := by rfl) : PPI X Wx tg (.Call (.Name "range" p) [a] [] pos) (iRg1 FA) :=
  let ⟨_, p, ad⟩ := ha; ⟨_, pi_range1 hg hm p hs, ad_rng1 ad⟩
theorem ppi_range2 {a b : Expr} {p : Pos} (hg : Gl X "range") (hm : X.mg "range" = none) (ha : PPA X Wx [a, b] FA) (hs : starEach [a, b] X.env = [(false, eval a X.env), (false, eval b X.env)] := by rfl) (hs2 : starEach [b] X.env = [(false, eval b X.env)] := by rfl) : PPI X Wx tg (.Call (.Name "range" p) [a, b] [] pos) (iRg2 FA) :=
  let ⟨_, p, ad⟩ := ha; ⟨_, pi_range2 hg hm p hs hs2, ad_rng2 ad⟩
/-- a text, sign by sign -/
def chrP (z : Str) : List P := z.cps.toList.map fun c => .str ⟨#[c]⟩
def iStrP (F : EF) : IF := fun γ μ => (F γ μ).bind fun w m => match w with
  | .v (.str z) => few (chrP z) m
  | _ => .bad
theorem ad_iStr {te : TE} (h : Ad Wx te F) : AdI Wx (iStr te) (iStrP F) := fun D as γ μ σ H R k ev g => by
  refine h D as γ μ σ H _ k ev ((G.bind RepW k g).mono fun x H1 ⟨D1, as1, μ1, wx, n1, k1, r1, g1⟩ => ?_)
  split at g1
  · rename_i z
    obtain rfl := rep_str r1
    have hn : (chrP z).length = z.cps.size := by unfold chrP; simp
    refine ⟨z, rfl, nowI k1 g1 fun hl => ⟨fun _ => True, _, by rw [hn]; exact walk_str, fun _ _ _ => True.intro, fun i D' H' x H2 lt s dn y => ?_⟩⟩
    obtain ⟨rfl, c, hc, rfl⟩ := y
    refine ⟨Same.refl _, .str ⟨#[c]⟩, ?_, .str⟩
    unfold chrP
    rw [List.getElem?_map, Array.getElem?_toList, hc]
    rfl
  · exact g1.elim
theorem ppi_str (h : PP X Wx e F) : PPI X Wx tg e (iStrP F) := let ⟨_, p, ad⟩ := h; ⟨_, pi_str p, ad_iStr ad⟩
/-! ### a dict that is walked is known from then on -/
def tFrz (td : TE) : TE := fun σ H Q => td σ H fun x H1 => ∃ d kvs, x = .ref d ∧ ((H1 d = some (.dK kvs) ∧ ∀ o, Q x (upd H1 d (.frz o (.dK kvs)))) ∨ ∃ o, H1 d = some (.frz o (.dK kvs)) ∧ Q x H1)
theorem pe_frz {te : TE} (h : PE X e te) : PE X e (tFrz te) := by
  refine ⟨fun pins s σ H Q I hw => ?_⟩
  refine thn (h.run pins s σ H _ I hw) fun v s1 ⟨x, H1, I1, r, d, kvs, ex, q⟩ => ?_
  rcases q with ⟨hd, q⟩ | ⟨o, hd, q⟩
  · obtain ⟨od, I2⟩ := I1.lock hd True.intro
    exact ⟨x, _, I2, r, q od⟩
  · exact ⟨x, H1, I1, r, q⟩
/-- .. nothing else is different -/
theorem frz_nx {d : Addr} {kvs : List (Key × V)} {o : Obj} (nd : ¬ D d) (h : H d = some (.dK kvs)) : Nx D as H D as (upd H d (.frz o (.dK kvs))) := by
  refine ⟨⟨[], by simp⟩, fun _ h => h, fun _ h => .inl h, fun _ _ h => .inl h, fun a u da _ e => ?_, fun a u _ r => ?_, fun a u _ e z => ?_⟩
  · rw [upd_ne (fun q : a = d => nd (q ▸ da))]
    exact e
  · by_cases q : a = d
    · subst q
      rcases r with r | ⟨o', r⟩
      · rw [h] at r
        cases r
        exact .inr ⟨o, upd_same⟩
      · rw [h] at r; cases r
    · rcases r with r | ⟨o', r⟩
      · exact .inl ((upd_ne q).trans r)
      · exact .inr ⟨o', (upd_ne q).trans r⟩
  · have q : a ≠ d := fun q => by
      subst q
      rw [h] at e
      cases e
      cases z
    exact (upd_ne q).trans e
theorem frz_sk {d : Addr} {kvs : List (Key × V)} {o : Obj} (k : Sk D as H μ) (nd : ¬ D d) (h : H d = some (.dK kvs)) : Sk D as (upd H d (.frz o (.dK kvs))) μ := by
  refine ⟨k.len, fun a da => ?_, k.inD, k.inj, fun j a e => ?_⟩
  · rw [upd_ne (fun q : a = d => nd (q ▸ da))]
    exact k.dn a da
  · obtain ⟨c, q, x⟩ := k.ok j a e
    exact ⟨c, q, x.sd (frz_nx (as := as) nd h).sd (upd_ne fun z => nd (z ▸ k.inD j a e))⟩
def dctB {α : Type} (f : List (Key × P) → Μ → O α) : W → Μ → O α := fun w m => match w with
  | .v (.dct ps) => f ps m
  | _ => .bad
/-- what the reading of a walked dict needs -/
theorem ad_frz {α β : Type} {td : TE} {σ : L2.St} {γ : Γ} {Q : VK} {f : List (Key × P) → Μ → O α} {R : RL β α} {Q' : β → Hp → Prop} (h : Ad Wx td F) (k : Sk D as H μ) (ev : EnvR D as H σ γ) (g : G Wx σ R D as H ((F γ μ).bind (dctB f)) Q')
    (hq : ∀ D1 as1 H1 μ1 d o xs ps, Nx D as H D1 as1 H1 → Sk D1 as1 H1 μ1 → ¬ D1 d → H1 d = some (.frz o (.dK xs)) → RepK D1 H1 xs ps → G Wx σ R D1 as1 H1 (f ps μ1) Q' → Q (.ref d) H1) : tFrz td σ H Q := by
  refine h D as γ μ σ H _ k ev ((G.bind RepW k g).mono fun x H1 ⟨D1, as1, μ1, wx, n1, k1, r1, g1⟩ => ?_)
  unfold dctB at g1
  split at g1
  · rename_i ps
    obtain ⟨d, xs, rfl, nd, hr, rs⟩ := rep_dct r1
    rcases hr with hr | ⟨o, hr⟩
    · refine ⟨d, xs, rfl, .inl ⟨hr, fun o => ?_⟩⟩
      have n2 := frz_nx (as := as1) (o := o) nd hr
      have k2 := frz_sk (o := o) k1 nd hr
      exact hq D1 as1 _ μ1 d o xs ps (n1.trans k k1 n2) k2 nd upd_same (RepK.sd n2.sd rs) (g1.nx k1 k2 n2)
    · exact ⟨d, xs, rfl, .inr ⟨o, hr, hq D1 as1 _ μ1 d o xs ps n1 k1 nd hr rs g1⟩⟩
  · exact g1.elim
def keyOf : Key → P
  | .inl i => .int i
  | .inr x => .str x
theorem keyOf_rep (k : Key) : Rep D H (kV k) (keyOf k) := by
  cases k
  · exact .int
  · exact .str
def iDct (g : List (Key × P) → List P) (F : EF) : IF := fun γ μ => (F γ μ).bind (dctB fun ps m => few (g ps) m)
abbrev iKeysP := iDct fun ps => ps.map fun kp => keyOf kp.1
abbrev iValsP := iDct fun ps => ps.map fun kp => kp.2
abbrev iItemsP := iDct fun ps => ps.map fun kp => .tup [keyOf kp.1, kp.2]
theorem RepK.get {D : Addr → Prop} {H : Hp} : ∀ {vs : List (Key × V)} {ps : List (Key × P)} {i : Nat} {k : Key} {v : V}, RepK D H vs ps → vs[i]? = some (k, v) → ∃ p, ps[i]? = some (k, p) ∧ Rep D H v p
  | _, _, 0, _, _, .cons r _, e => by cases e; exact ⟨_, rfl, r⟩
  | _, _, i + 1, _, _, .cons _ t, e => RepK.get (i := i) t e
theorem ad_iKeys {td : TE} (h : Ad Wx td F) : AdI Wx (iKeys (tFrz td)) (iKeysP F) := fun D as γ μ σ H R k ev g => by
  refine ad_frz (R := RepI) h k ev g fun D1 as1 H1 μ1 d o xs ps n1 k1 nd hd rs g1 => ⟨d, o, rfl, .inl ⟨xs, hd, nowI k1 g1 fun hl => ⟨_, _, by rw [List.length_map, ← rs.length]; exact walk_keys, fun D' H' s => s.s _ _ nd hd rfl, fun i D' H' x H2 lt s dn y => ?_⟩⟩⟩
  obtain ⟨rfl, kk, v, hx, rfl⟩ := y
  obtain ⟨p, hp, rp⟩ := rs.get hx
  exact ⟨Same.refl _, keyOf kk, by rw [List.getElem?_map, hp]; rfl, keyOf_rep kk⟩
theorem ad_iVals {td : TE} (h : Ad Wx td F) : AdI Wx (iVals (tFrz td)) (iValsP F) := fun D as γ μ σ H R k ev g => by
  refine ad_frz (R := RepI) h k ev g fun D1 as1 H1 μ1 d o xs ps n1 k1 nd hd rs g1 => ⟨d, o, xs, rfl, hd, nowI k1 g1 fun hl => ⟨_, _, by rw [List.length_map, ← rs.length]; exact walk_values, fun D' H' s => s.s _ _ nd hd rfl, fun i D' H' x H2 lt s dn y => ?_⟩⟩
  obtain ⟨rfl, kk, hx⟩ := y
  obtain ⟨p, hp, rp⟩ := rs.get hx
  exact ⟨Same.refl _, p, by rw [List.getElem?_map, hp]; rfl, rp.sd s⟩
/-- a new pair -/
theorem pair_rep {D' : Addr → Prop} {H' H2 : Hp} {T : Addr} {x y : V} {p q : P} (dn : ∀ a, D' a → ∃ o, H' a = some o) (nT : H' T = none) (e : H2 = upd H' T (.tup [x, y])) (rx : Rep D' H' x p) (ry : Rep D' H' y q) : Same H' H2 ∧ Rep D' H2 (.ref T) (.tup [p, q]) := by
  subst e
  have s := new_same' (o := .tup [x, y]) nT
  refine ⟨s, .tup (fun d => ?_) (.inl upd_same) (Reps.sd (.same s) (.cons rx (.cons ry .nil)))⟩
  obtain ⟨o, z⟩ := dn T d
  rw [nT] at z
  cases z
theorem ad_iItems {td : TE} (h : Ad Wx td F) : AdI Wx (iItems (tFrz td)) (iItemsP F) := fun D as γ μ σ H R k ev g => by
  refine ad_frz (R := RepI) h k ev g fun D1 as1 H1 μ1 d o xs ps n1 k1 nd hd rs g1 => ⟨d, o, xs, rfl, hd, nowI k1 g1 fun hl => ⟨_, _, by rw [List.length_map, ← rs.length]; exact walk_items, fun D' H' s => s.s _ _ nd hd rfl, fun i D' H' x H2 lt s dn y => ?_⟩⟩
  obtain ⟨T, x1, y1, rfl, nT, e2, h1, h2⟩ := y
  have lx : i < xs.length := by rw [rs.length]; rw [List.length_map] at lt; exact lt
  obtain ⟨kv, hkv⟩ : ∃ kv, xs[i]? = some kv := ⟨xs[i], List.getElem?_eq_getElem lx⟩
  obtain ⟨kk, v⟩ := kv
  simp only [hkv, Option.map_some, Option.some.injEq] at h1 h2
  subst h1
  subst h2
  obtain ⟨p, hp, rp⟩ := rs.get hkv
  obtain ⟨s2, r2⟩ := pair_rep dn nT e2 (keyOf_rep kk) (rp.sd s)
  exact ⟨s2, _, by rw [List.getElem?_map, hp]; rfl, r2⟩
theorem ppi_keys (h : PP X Wx e F) : PPI X Wx tg e (iKeysP F) := let ⟨_, p, ad⟩ := h; ⟨_, pi_keys (pe_frz p), ad_iKeys ad⟩
theorem ppi_values {apos cpos : Pos} (h : PP X Wx e F) (hb : attributeBase e "values" X.env (eval e X.env) = eval e X.env := by rfl) (hl : (apos.endLine == cpos.line) = true := by rfl) : PPI X Wx tg (.Call (.Attribute e "values" apos) [] [] cpos) (iValsP F) :=
  let ⟨_, p, ad⟩ := h; ⟨_, pi_values (pe_frz p) hb hl, ad_iVals ad⟩
theorem ppi_keysM {apos cpos : Pos} (h : PP X Wx e F) (hb : attributeBase e "keys" X.env (eval e X.env) = eval e X.env := by rfl) (hl : (apos.endLine == cpos.line) = true := by rfl) : PPI X Wx tg (.Call (.Attribute e "keys" apos) [] [] cpos) (iKeysP F) :=
  let ⟨_, p, ad⟩ := h; ⟨_, pi_keysM (pe_frz p) hb hl, fun D as γ μ σ H R k ev g => ad_frz (R := RepI) ad k ev g fun D1 as1 H1 μ1 d o xs ps n1 k1 nd hd rs g1 => ⟨d, o, xs, rfl, hd, nowI k1 g1 fun hl => ⟨_, _, by rw [List.length_map, ← rs.length]; exact walk_keys, fun D' H' s => s.s _ _ nd hd rfl, fun i D' H' x H2 lt s dn y => by
    obtain ⟨rfl, kk, v, hx, rfl⟩ := y
    obtain ⟨p, hp, rp⟩ := rs.get hx
    exact ⟨Same.refl _, keyOf kk, by rw [List.getElem?_map, hp]; rfl, keyOf_rep kk⟩⟩⟩⟩
theorem ppi_items {apos cpos tpos : Pos} {elts : List Expr} {kk : Nat} (h : PP X Wx e F) (hb : attributeBase e "items" X.env (eval e X.env) = eval e X.env := by rfl) (hl : (apos.endLine == cpos.line) = true := by rfl) : PPI X Wx (.Tuple elts kk tpos) (.Call (.Attribute e "items" apos) [] [] cpos) (iItemsP F) :=
  let ⟨_, p, ad⟩ := h; ⟨_, pi_items (pe_frz p) hb hl, ad_iItems ad⟩
end
end Pu

set_option Elab.async false
set_option linter.all false
set_option maxRecDepth 100000
set_option maxHeartbeats 4000000
namespace Pu
open L2 PySem PySem.Spec PyProof.Rows E10
/-! ### targets -/
abbrev GF := P → Γ → Option Γ
def AdG (vs : Option (List Nat)) (g : TG) (f : GF) : Prop := ∀ D as μ σ γ γ' H p x Q, Sk D as H μ → EnvR D as H σ γ → Rep D H x p → f p γ = some γ' → (∀ σ', EnvR D as H σ' γ' → (∀ l, vs = some l → wipe σ' l = wipe σ l) → σ'.length = σ.length → Q σ' H) → g x σ H Q
def tgName (i : Nat) : GF := fun p γ => some (γ.set i (some (.v p)))
theorem wipe_set (σ : L2.St) (i : Nat) (x : Option V) : ∀ {l : List Nat}, i ∈ l → wipe (σ.set i x) l = wipe σ l
  | v :: l, h => by
    unfold wipe
    by_cases c : i ∈ l
    · rw [wipe_set σ i x c]
    · have e : i = v := (List.mem_cons.mp h).resolve_right c
      subst e
      have : ∀ l : List Nat, i ∉ l → wipe (σ.set i x) l = (wipe σ l).set i x := fun l hl => by
        induction l with
        | nil => rfl
        | cons u r ih =>
          have hu : i ≠ u := fun q => hl (q ▸ .head _)
          unfold wipe
          rw [ih (fun q => hl (.tail _ q)), List.set_comm _ _ hu]
      rw [this l c, List.set_set]
theorem ad_gName {i : Nat} {vs : Option (List Nat)} (h : ∀ l, vs = some l → i ∈ l) : AdG vs (gName i) (tgName i) := fun D as μ σ γ γ' H p x Q k ev r e q => by
  cases e
  exact q _ (ev.set (w := .v p) r) (fun l hl => wipe_set σ i _ (h l hl)) (List.length_set ..)
abbrev GFs := List P → Γ → Option Γ
def AdGs (vs : Option (List Nat)) (g : TGs) (f : GFs) : Prop := ∀ D as μ σ γ γ' H ps xs Q, Sk D as H μ → EnvR D as H σ γ → Reps D H xs ps → f ps γ = some γ' → (∀ σ', EnvR D as H σ' γ' → (∀ l, vs = some l → wipe σ' l = wipe σ l) → σ'.length = σ.length → Q σ' H) → g xs σ H Q
def tgNil : GFs := fun ps γ => match ps with
  | [] => some γ
  | _ => none
def tgCons (f : GF) (g : GFs) : GFs := fun ps γ => match ps with
  | p :: r => (f p γ).bind fun γ1 => g r γ1
  | [] => none
def tgTup (n : Nat) (g : GFs) : GF := fun p γ => match p with
  | .tup ps => if ps.length = n then g ps γ else none
  | _ => none
theorem ad_gNil {vs} : AdGs vs gNil tgNil := fun D as μ σ γ γ' H ps xs Q k ev r e q => by
  cases r with
  | nil => cases e; exact ⟨rfl, q σ ev (fun _ _ => rfl) rfl⟩
  | cons => cases e
theorem ad_gCons {vs} {g f gs fs} (h : AdG vs g f) (hs : AdGs vs gs fs) : AdGs vs (gCons g gs) (tgCons f fs) := fun D as μ σ γ γ' H ps xs Q k ev r e q => by
  cases r with
  | nil => cases e
  | cons r t =>
    obtain ⟨γ1, e1, e2⟩ := Option.bind_eq_some_iff.mp e
    refine ⟨_, _, rfl, h D as μ σ γ γ1 H _ _ _ k ev r e1 fun σ1 ev1 w1 l1 => ?_⟩
    exact hs D as μ σ1 γ1 γ' H _ _ _ k ev1 t e2 fun σ2 ev2 w2 l2 => q σ2 ev2 (fun l hl => (w2 l hl).trans (w1 l hl)) (l2.trans l1)
theorem ad_gTup {vs} {K : PySem.W.Frag} {n : Nat} {gs fs} (hs : AdGs vs gs fs) : AdG vs (gTup K n gs) (tgTup n fs) := fun D as μ σ γ γ' H p x Q k ev r e q => by
  unfold tgTup at e
  split at e
  · split at e
    · rename_i hn
      obtain ⟨a, xs, rfl, _, hr, rs⟩ := rep_tup r
      exact ⟨a, xs, rfl, .inl hr, by rw [rs.length]; exact hn, hs D as μ σ γ γ' H _ _ _ k ev rs e q⟩
    · cases e
  · cases e
/-! ### comprehensions -/
def F0 : WX := fun _ _ _ _ => False
def O.nx {α : Type} : O α → O α
  | .exc _ _ _ => .bad
  | o => o
def wipeG (γ : Γ) : List Nat → Γ
  | [] => γ
  | v :: vs => (wipeG γ vs).set v none
theorem set_none {D as H} {σ : L2.St} {γ : Γ} {i : Nat} (r : EnvR D as H σ γ) : EnvR D as H (σ.set i none) (γ.set i none) := by
  refine ⟨by rw [List.length_set, List.length_set]; exact r.1, fun j w e => ?_⟩
  by_cases c : i = j
  · subst c
    rw [List.getElem?_set_self'] at e
    cases g : γ[i]? <;> rw [g] at e <;> cases e
  · rw [List.getElem?_set_ne c] at e ⊢
    exact r.2 j w e
theorem EnvR.wipe {D as H} {σ : L2.St} {γ : Γ} (r : EnvR D as H σ γ) : ∀ vs, EnvR D as H (L2.wipe σ vs) (wipeG γ vs)
  | [] => r
  | v :: vs => set_none (EnvR.wipe r vs)
def lcW (k : Μ → O (List P)) : W → Μ → O (List P)
  | .v q, m => (k m).bind fun qs m3 => .ok (q :: qs) m3
  | .loc _, _ => .bad
def lcGo (f : GF) (T : TF) (E : EF) (γ : Γ) : List P → Μ → O (List P)
  | [], m => .ok [] m
  | p :: r, m => match f p γ with
    | none => .bad
    | some γ1 => (T γ1 m).nx.bind fun b m1 => if b = true then (E γ1 m1).nx.bind (lcW (lcGo f T E γ r)) else lcGo f T E γ r m1
theorem wipe_in (σ : L2.St) {i : Nat} (lt : i < σ.length) : ∀ {vs : List Nat}, i ∈ vs → (wipe σ vs)[i]? = some none
  | v :: vs, h => by
    unfold wipe
    by_cases c : v = i
    · subst c
      exact List.getElem?_set_self (by rw [wipe_length]; exact lt)
    · rw [List.getElem?_set_ne c]
      exact wipe_in σ lt ((List.mem_cons.mp h).resolve_left fun q => c q.symm)
theorem wipe_wipe (σ : L2.St) (vs : List Nat) : wipe (wipe σ vs) vs = wipe σ vs := by
  apply List.ext_getElem?
  intro i
  by_cases h : i ∈ vs
  · by_cases lt : i < σ.length
    · rw [wipe_in _ (by rw [wipe_length]; exact lt) h, wipe_in _ lt h]
    · rw [List.getElem?_eq_none (by rw [wipe_length, wipe_length]; omega), List.getElem?_eq_none (by rw [wipe_length]; omega)]
  · rw [wipe_out h]
def fLc (I : IF) (f : GF) (T : TF) (E : EF) (vs : List Nat) : EF := fun γ μ => (I γ μ).bind fun ps m => (lcGo f T E (wipeG γ vs) ps m).bind fun qs m => .ok (.v (.lst qs)) m
def tE (Wx : WX) (F : EF) : TE := fun σ H Q => ∃ D as γ μ, Sk D as H μ ∧ EnvR D as H σ γ ∧ G Wx σ RepW D as H (F γ μ) Q
def tT (Wx : WX) (T : TF) : TT := fun σ H Q => ∃ D as γ μ, Sk D as H μ ∧ EnvR D as H σ γ ∧ G Wx σ RepB D as H (T γ μ) Q
theorem PP.can {X : Cx} {Wx : WX} {e : Expr} {F : EF} (h : PP X Wx e F) : PE X e (tE Wx F) := let ⟨_, p, ad⟩ := h; ⟨fun pins s σ H Q I ⟨D, as, γ, μ, k, ev, g⟩ => p.run pins s σ H Q I (ad D as γ μ σ H Q k ev g)⟩
theorem PPT.can {X : Cx} {Wx : WX} {e : Expr} {F : TF} (h : PPT X Wx e F) : PT X e (tT Wx F) := let ⟨_, p, ad⟩ := h; ⟨fun pins s σ H Q I ⟨D, as, γ, μ, k, ev, g⟩ => p.run pins s σ H Q I (ad D as γ μ σ H Q k ev g)⟩
def PPTs (X : Cx) (Wx : WX) (ifs : List Expr) (T : TF) : Prop := PTs X ifs (tT Wx T)
def fYes : TF := fun _ μ => .ok true μ
theorem ppts_nil {X : Cx} {Wx : WX} : PPTs X Wx [] fYes := ⟨fun pins s σ H Q I ⟨D, as, γ, μ, k, ev, g⟩ => pts_nil.run pins s σ H Q I (G.now (R := RepB) k rfl g)⟩
theorem ppts_one {X : Cx} {Wx : WX} {e : Expr} {F : TF} (h : PPT X Wx e F) : PPTs X Wx [e] F := pts_one h.can
section
variable {D D' : Addr → Prop} {as as' : Ps} {H H' : Hp} {μ μ' : Μ}
/-- something hidden is changed -/
theorem Sk.poke {a : Addr} {o : HO} (k : Sk D as H μ) (d : D a) (na : ∀ j : Nat, as[j]? ≠ some (some a)) : Sd D H D (upd H a o) ∧ Sk D as (upd H a o) μ := by
  have s : Sd D H D (upd H a o) := by
    have ne : ∀ b, ¬ D b → b ≠ a := fun b n z => n (z ▸ d)
    refine ⟨fun b u n e => n, fun b u n r => ?_, fun b u n e z => (upd_ne (ne b n)).trans e⟩
    rcases r with r | ⟨x, r⟩
    · exact .inl ((upd_ne (ne b n)).trans r)
    · exact .inr ⟨x, (upd_ne (ne b n)).trans r⟩
  refine ⟨s, k.len, fun b db => ?_, k.inD, k.inj, fun j b e => ?_⟩
  · by_cases c : b = a
    · subst c
      exact ⟨o, upd_same⟩
    · rw [upd_ne c]
      exact k.dn b db
  · obtain ⟨c, q, x⟩ := k.ok j b e
    exact ⟨c, q, x.sd s (upd_ne fun z => na j (z ▸ e))⟩
theorem Nx.poke {a : Addr} {o : HO} (n : Nx D as H D' as' H') (d : D' a) (h : H a = none) (nd : ¬ D a) : Nx D as H D' as' (upd H' a o) := by
  have ne : ∀ b u, H b = some u → b ≠ a := fun b u e z => by rw [z, h] at e; cases e
  refine ⟨n.pre, n.mono, n.new, n.fresh, fun b u db na e => (upd_ne (ne b u e)).trans (n.hid b u db na e), fun b u nb r => ?_, fun b u nb e z => (upd_ne (ne b u e)).trans (n.sol b u nb e z)⟩
  have nba : b ≠ a := let ⟨x, e⟩ := rd_some r; ne b x e
  rcases n.rd b u nb r with r | ⟨x, r⟩
  · exact .inl ((upd_ne nba).trans r)
  · exact .inr ⟨x, (upd_ne nba).trans r⟩
def lessD (D : Addr → Prop) (a : Addr) : Addr → Prop := fun b => D b ∧ b ≠ a
/-- something hidden is let go -/
theorem Sk.free {a : Addr} (k : Sk D' as' H' μ') (n : Nx D as H D' as' H') (na : ∀ j : Nat, as'[j]? ≠ some (some a)) (nd : ¬ D a) : Sd D' H' (lessD D' a) H' ∧ Nx D as H (lessD D' a) as' H' ∧ Sk (lessD D' a) as' H' μ' := by
  have s : Sd D' H' (lessD D' a) H' := ⟨fun b u n e z => n z.1, fun _ _ _ r => r, fun _ _ _ e _ => e⟩
  refine ⟨s, ⟨n.pre, fun b db => ⟨n.mono b db, fun z => nd (z ▸ db)⟩, fun b z => n.new b z.1, n.fresh, n.hid, n.rd, n.sol⟩, k.len, fun b z => k.dn b z.1, fun j b e => ⟨k.inD j b e, fun z => na j (z ▸ e)⟩, k.inj, fun j b e => ?_⟩
  obtain ⟨c, q, x⟩ := k.ok j b e
  exact ⟨c, q, x.sd s rfl⟩
end
end Pu

set_option Elab.async false
set_option linter.all false
set_option maxRecDepth 100000
set_option maxHeartbeats 4000000
namespace Pu
open L2 PySem PySem.Spec PyProof.Rows E10
section
variable {D D' : Addr → Prop} {as as' : Ps} {H H' : Hp} {μ μ' : Μ} {α β : Type} {R : RL β α} {Wx : WX} {σ : L2.St}
/-- a thing laid aside: no place, yet written -/
theorem Sk.hide {a : Addr} {o : HO} (k : Sk D as H μ) (na : H a = none) : Nx D as H (plusD D a) as (upd H a o) ∧ Sk (plusD D a) as (upd H a o) μ ∧ ∀ j : Nat, as[j]? ≠ some (some a) := by
  have s := new_same' (o := o) na
  have nj : ∀ j : Nat, as[j]? ≠ some (some a) := fun j e => k.nd na (k.inD j a e)
  have n : Nx D as H (plusD D a) as (upd H a o) :=
    ⟨⟨[], by simp⟩, fun b d => .inl d, fun b d => d.elim .inl fun e => .inr (e ▸ na), fun j b e => .inl e, fun b u _ _ e => s _ _ e, fun b u _ r => r.elim (fun r => .inl (s _ _ r)) fun ⟨x, r⟩ => .inr ⟨x, s _ _ r⟩, fun b u _ e _ => s _ _ e⟩
  refine ⟨n, ⟨k.len, fun b d => ?_, fun j b e => .inl (k.inD j b e), k.inj, fun j b e => ?_⟩, nj⟩
  · rcases d with d | rfl
    · obtain ⟨x, e⟩ := k.dn b d
      exact ⟨x, s _ _ e⟩
    · exact ⟨_, upd_same⟩
  · obtain ⟨c, q, x⟩ := k.ok j b e
    exact ⟨c, q, x.sd n.sd (upd_ne fun z => nj j (z ▸ e))⟩
theorem Nx.notin {a : Addr} (n : Nx D as H D' as' H') (h : ∀ j : Nat, as[j]? ≠ some (some a)) {o : HO} (e : H a = some o) : ∀ j : Nat, as'[j]? ≠ some (some a) := fun j q => by
  rcases n.fresh j a q with z | z
  · exact h j z
  · rw [e] at z; cases z
theorem G.nobad {o : O α} {Q : β → Hp → Prop} (g : G Wx σ R D as H o Q) : o ≠ .bad := fun e => by
  rw [e] at g
  exact g
end
theorem nx_ok {α β : Type} {o : O α} {f : α → Μ → O β} (h : o.nx.bind f ≠ .bad) : ∃ a m, o = .ok a m := by
  cases o with
  | ok a m => exact ⟨a, m, rfl⟩
  | exc C fs m => exact absurd rfl h
  | bad => exact absurd rfl h
theorem bind_nb {α β : Type} {o : O α} {f : α → Μ → O β} (h : o.bind f ≠ .bad) : o ≠ .bad := fun e => h (by rw [e]; rfl)
/-- what stands in the course of a comprehension -/
structure LcAt (D1 : Addr → Prop) (as1 : Ps) (H1 : Hp) (tot : O (List P)) (go : List P → Μ → O (List P)) (Dl : Addr) (ps : List P) (i : Nat) (H' : Hp) : Prop where
  ex : ∃ D' as' acc qs m', Nx D1 as1 H1 D' as' H' ∧ Sk D' as' H' m' ∧ D' Dl ∧ (∀ j : Nat, as'[j]? ≠ some (some Dl)) ∧ H' Dl = some (.lst acc) ∧ Reps D' H' acc qs ∧ qs.length ≤ i ∧ tot = (go (ps.drop i) m').bind fun r m => .ok (qs ++ r) m
theorem ad_lc {Wx : WX} {wi : TI} {g : TG} {I : IF} {f : GF} {T : TF} {E : EF} {vs : List Nat} (hi : AdI Wx wi I) (hg : AdG (some vs) g f) : Ad Wx (tLc wi g (tT F0 T) (tE F0 E) vs) (fLc I f T E vs) := fun D as γ μ σ H Q k ev gg => by
  refine hi D as γ μ σ H _ k ev ((G.bind RepI k gg).mono fun J H1 ⟨D1, as1, μ1, ps, n1, k1, r1, g1⟩ => ?_)
  intro Dl nDl
  obtain ⟨hl, Gd, Y, wk, stab, yl⟩ := r1
  have ev1 := ev.nx n1
  have nd1 : ¬ D1 Dl := k1.nd nDl
  obtain ⟨n0, k0, nj0⟩ := k1.hide (o := .lst []) nDl
  have nb : lcGo f T E (wipeG γ vs) ps μ1 ≠ .bad := bind_nb g1.nobad
  refine lc_it wk (fun i H' => i ≤ ps.length ∧ LcAt D1 as1 H1 (lcGo f T E (wipeG γ vs) ps μ1) (lcGo f T E (wipeG γ vs)) Dl ps i H') ⟨Nat.zero_le _, ⟨_, _, [], [], μ1, n0, k0, .inr rfl, nj0, upd_same, .nil, Nat.le_refl _, ?_⟩⟩ (fun i H' _ h => ?_) ?_ ?_
  · rw [List.drop_zero]
    cases lcGo f T E (wipeG γ vs) ps μ1 <;> rfl
  · obtain ⟨D', as', acc, qs, m', n', _⟩ := h.2.ex
    exact stab D' H' n'.sd
  · rintro i x H' H2 lt ⟨_, h⟩ y
    obtain ⟨D', as', acc, qs, m', n', k', dl, nj, hD, rs, lq, tot⟩ := h.ex
    obtain ⟨s2, p, hp, rp⟩ := yl i D' H' x H2 lt n'.sd (fun a d => k'.dn a d) y
    have k2 : Sk D' as' H2 m' := k'.same s2
    have n2 : Nx D1 as1 H1 D' as' H2 := n'.trans k1 k' (.of_same s2)
    have hdrop : ps.drop i = p :: ps.drop (i + 1) := List.drop_eq_getElem?_toList_append.trans (by rw [hp]; rfl)
    rw [hdrop] at tot
    have nb2 : lcGo f T E (wipeG γ vs) (p :: ps.drop (i + 1)) m' ≠ .bad := by
      rw [tot] at nb
      exact bind_nb nb
    cases ef : f p (wipeG γ vs) with
    | none => exact absurd (by simp only [lcGo, ef]) nb2
    | some γ1 =>
      have e1 : lcGo f T E (wipeG γ vs) (p :: ps.drop (i + 1)) m' = (T γ1 m').nx.bind fun b m1 => if b = true then (E γ1 m1).nx.bind (lcW (lcGo f T E (wipeG γ vs) (ps.drop (i + 1)))) else lcGo f T E (wipeG γ vs) (ps.drop (i + 1)) m1 := by
        simp only [lcGo, ef]
      rw [e1] at nb2 tot
      refine hg D' as' m' (wipe σ vs) (wipeG γ vs) γ1 H2 p x _ k2 ((ev1.nx n2).wipe vs) rp ef fun σ2 ev2 w2 l2 => ⟨(w2 vs rfl).trans (wipe_wipe σ vs), ?_⟩
      obtain ⟨b, m1, eT⟩ := nx_ok nb2
      refine ⟨D', as', γ1, m', k2, ev2, ?_⟩
      rw [eT] at nb2 tot ⊢
      intro b' D3 as3 H3 n3 k3 eb
      obtain rfl : b' = b := eb
      have nj3 := n3.notin nj (s2 _ _ hD)
      have hD3 : H3 Dl = some (.lst acc) := n3.hid Dl _ dl nj (s2 _ _ hD)
      have dl3 := n3.mono Dl dl
      have n13 := n2.trans k1 k2 n3
      cases b' with
      | false =>
        exact ⟨lt, ⟨D3, as3, acc, qs, m1, n13, k3, dl3, nj3, hD3, Reps.sd n3.sd (Reps.sd (.same s2) rs), Nat.le_succ_of_le lq, tot⟩⟩
      | true =>
        simp only [if_true]
        have nb3 : (E γ1 m1).nx.bind (lcW (lcGo f T E (wipeG γ vs) (ps.drop (i + 1)))) ≠ .bad := nb2
        obtain ⟨w, m2, eE⟩ := nx_ok nb3
        refine ⟨D3, as3, γ1, m1, k3, ev2.nx n3, ?_⟩
        rw [eE] at nb3 ⊢
        have tot3 : lcGo f T E (wipeG γ vs) ps μ1 = ((E γ1 m1).nx.bind (lcW (lcGo f T E (wipeG γ vs) (ps.drop (i + 1))))).bind fun r m => .ok (qs ++ r) m := tot
        rw [eE] at tot3
        cases w with
        | loc j => exact absurd rfl nb3
        | v q =>
          intro yv D4 as4 H4 n4 k4 ry
          have nj4 := n4.notin nj3 hD3
          have hD4 : H4 Dl = some (.lst acc) := n4.hid Dl _ dl3 nj3 hD3
          have dl4 := n4.mono Dl dl3
          have n14 := n13.trans k1 k3 n4
          have racc := Reps.sd n4.sd (Reps.sd n3.sd (Reps.sd (.same s2) rs))
          obtain ⟨s5, k5⟩ := k4.poke (o := .lst (acc ++ [yv])) dl4 nj4
          refine ⟨acc, hD4, ?_, lt, ⟨D4, as4, acc ++ [yv], qs ++ [q], m2, n14.poke dl4 nDl nd1, k5, dl4, nj4, upd_same, Reps.sd s5 (racc.snoc ry), ?_, ?_⟩⟩
          · rw [racc.length]
            exact Nat.lt_of_lt_of_le (Nat.lt_of_le_of_lt lq (Nat.lt_of_lt_of_le lt hl)) (by decide)
          · rw [List.length_append]
            exact Nat.succ_le_succ lq
          · rw [tot3]
            simp only [O.nx, O.bind_ok, lcW]
            rw [O.bind_assoc]
            congr 1
            funext r m
            simp
  · rintro H' ⟨_, h⟩
    obtain ⟨D', as', acc, qs, m', n', k', dl, nj, hD, rs, lq, tot⟩ := h.ex
    rw [List.drop_length] at tot
    have tot2 : lcGo f T E (wipeG γ vs) ps μ1 = .ok qs m' := by
      rw [tot]
      simp [lcGo]
    rw [tot2] at g1
    obtain ⟨s3, n3, k3⟩ := k'.free n' nj nd1
    exact g1 (.ref Dl) _ as' H' n3 k3 (show Rep _ _ _ _ from .lst (fun z => z.2 rfl) (.inl hD) (Reps.sd s3 rs))
section
variable {X : Cx} {Wx : WX}
/-- [elt for tg in iter if ..] -/
theorem pp_lc {elt tg iter : Expr} {ifs : List Expr} {scope : Scope} {own : List (Str × Nat)} {pos : Pos} {I : IF} {g : TG} {f : GF} {T : TF} {E : EF} (hc : X.calm = true) (hN : X.N.Nodup) (hi : PPI X Wx tg iter I) (ok : BlkOk X.N X.env.scope scope own)
    (hg : ∀ (s : Shared) (H : Hp) (C : Addr) (cl : List (Str × Addr)) (fp : List Addr), PG (X.blk s H scope (compEnvC scope cl C X.env) fp) tg g) (hf : AdG (some (own.map (·.2))) g f)
    (ht : ∀ (s : Shared) (H : Hp) (C : Addr) (cl : List (Str × Addr)) (fp : List Addr), PPTs (X.blk s H scope (compEnvC scope cl C X.env) fp) F0 ifs T)
    (he : ∀ (s : Shared) (H : Hp) (C : Addr) (cl : List (Str × Addr)) (fp : List Addr), PP (X.blk s H scope (compEnvC scope cl C X.env) fp) F0 elt E) (hs : ∀ x, foldedSetIterable iter X.env x = pure x := by intro _; rfl) :
    PP X Wx (.ListComp elt [⟨tg, iter, ifs, 0⟩] scope pos) (fLc I f T E (own.map (·.2))) :=
  let ⟨wi, pi, ai⟩ := hi; ⟨_, pe_lc hc hN pi ok hg (fun s H C cl fp => ht s H C cl fp) (fun s H C cl fp => (he s H C cl fp).can) hs, ad_lc ai hf⟩
end
end Pu

set_option Elab.async false
set_option linter.all false
set_option maxRecDepth 100000
set_option maxHeartbeats 4000000
namespace Pu
open L2 PySem PySem.Spec PyProof.Rows E10
/-! ### comprehensions of dicts -/
/-- a dict comprehension over anything that is walked -/
theorem dc_itP {J : It} {n : Nat} {G : Hp → Prop} {Y : Nat → Hp → V → Hp → Prop} (w : Walk J n G Y) {g : TG} {tt : TT} {tk tv : TE} {vs : List Nat} {σ : L2.St} {H1 : Hp} {D : Addr} {Qd : Hp → Prop} (Pv : Nat → Hp → Prop) (h0 : Pv 0 (upd H1 D (.dK []))) (hG : ∀ i H, i ≤ n → Pv i H → G H)
    (hs : ∀ i x H H', i < n → Pv i H → Y i H x H' → g x (wipe σ vs) H' fun σ2 H2 => wipe σ2 vs = wipe σ vs ∧ tt σ2 H2 fun b H3 =>
      if b = true then tk σ2 H3 fun y H4 => tv σ2 H4 fun z H5 => ∃ kvs k, y = kV k ∧ H5 D = some (.dK kvs) ∧ kvs.length < sizeLine ∧ Pv (i + 1) (upd H5 D (.dK (putK kvs k z))) else Pv (i + 1) H3) (hd : ∀ H, Pv n H → Qd H) :
    ∃ W : Nat → Nat → Hp → Prop, (∃ m, W 0 m (upd H1 D (.dK []))) ∧ ∀ i m H, W i m H →
      (J.stop i H ∧ Qd H) ∨ (J.go i H ∧ ∃ Nx : Hp → Prop, (∀ H', Nx H' → ∃ m', m' < m ∧ W (i + 1) m' H') ∧ ∀ x H', J.yld i H x H' → g x (wipe σ vs) H' fun σ2 H2 => wipe σ2 vs = wipe σ vs ∧ tt σ2 H2 fun b H3 =>
        if b = true then tk σ2 H3 fun y H4 => tv σ2 H4 fun z H5 => ∃ kvs k, y = kV k ∧ H5 D = some (.dK kvs) ∧ kvs.length < sizeLine ∧ Nx (upd H5 D (.dK (putK kvs k z))) else Nx H3) := by
  refine ⟨fun i m H => m = n - i ∧ i ≤ n ∧ Pv i H, ⟨n, by simp, Nat.zero_le _, h0⟩, ?_⟩
  rintro i m H ⟨rfl, hi, p⟩
  have q := hG i H hi p
  by_cases hlt : i < n
  · refine .inr ⟨w.goes i H hlt q, Pv (i + 1), fun H' p' => ⟨n - (i + 1), by omega, rfl, hlt, p'⟩, fun x H' y => hs i x H H' hlt p (w.yields i H x H' hlt q y)⟩
  · have e : i = n := by omega
    subst e
    exact .inl ⟨w.stops H q, hd H p⟩
def putP (ps : List (Key × P)) (k : Key) (p : P) : List (Key × P) := if (ps.any fun kv => decide (kv.1 = k)) = true then ps.map (fun kv => if kv.1 = k then (kv.1, p) else kv) else ps ++ [(k, p)]
theorem RepK.append {D H} : ∀ {vs ps ws qs}, RepK D H vs ps → RepK D H ws qs → RepK D H (vs ++ ws) (ps ++ qs)
  | _, _, _, _, .nil, s => s
  | _, _, _, _, .cons r t, s => .cons r (RepK.append t s)
theorem RepK.any {D H} (k : Key) : ∀ {vs ps}, RepK D H vs ps → (vs.any fun kv => decide (kv.1 = k)) = (ps.any fun kv => decide (kv.1 = k))
  | _, _, .nil => rfl
  | _, _, .cons _ t => by rw [List.any_cons, List.any_cons, RepK.any k t]
theorem RepK.map {D H} {k : Key} {v : V} {p : P} (r : Rep D H v p) : ∀ {vs ps}, RepK D H vs ps → RepK D H (vs.map fun kv => if kv.1 = k then (kv.1, v) else kv) (ps.map fun kv => if kv.1 = k then (kv.1, p) else kv)
  | _, _, .nil => .nil
  | _, _, @RepK.cons _ _ k' v' p' l m r' t => by
    rw [List.map_cons, List.map_cons]
    by_cases c : k' = k
    · simp only [c, if_true]
      exact .cons r (RepK.map r t)
    · simp only [c, if_false]
      exact .cons r' (RepK.map r t)
theorem RepK.put {D H} {k : Key} {v : V} {p : P} {vs ps} (t : RepK D H vs ps) (r : Rep D H v p) : RepK D H (putK vs k v) (putP ps k p) := by
  unfold putK putP
  rw [t.any k]
  split
  · exact t.map r
  · exact t.append (.cons r .nil)
theorem putP_len (ps : List (Key × P)) (k : Key) (p : P) : (putP ps k p).length ≤ ps.length + 1 := by
  unfold putP
  split <;> simp
/-- the rows, then what comes of them -/
def dcW (k : Key → P → Μ → O (List (Key × P))) (kp : W) : W → Μ → O (List (Key × P))
  | .v q, m => match kp with
    | .v p => match keyP p with
      | some key => k key q m
      | none => .bad
    | .loc _ => .bad
  | .loc _, _ => .bad
def dcGo (f : GF) (T : TF) (Ek Ev : EF) (γ : Γ) : List P → List (Key × P) → Μ → O (List (Key × P))
  | [], acc, m => .ok acc m
  | p :: r, acc, m => match f p γ with
    | none => .bad
    | some γ1 => (T γ1 m).nx.bind fun b m1 => if b = true then (Ek γ1 m1).nx.bind fun wk m2 => (Ev γ1 m2).nx.bind (dcW (fun key q m3 => dcGo f T Ek Ev γ r (putP acc key q) m3) wk) else dcGo f T Ek Ev γ r acc m1
def fDc (I : IF) (f : GF) (T : TF) (Ek Ev : EF) (vs : List Nat) : EF := fun γ μ => (I γ μ).bind fun ps m => (dcGo f T Ek Ev (wipeG γ vs) ps [] m).bind fun qs m => .ok (.v (.dct qs)) m
structure DcAt (D1 : Addr → Prop) (as1 : Ps) (H1 : Hp) (tot : O (List (Key × P))) (go : List P → List (Key × P) → Μ → O (List (Key × P))) (Dl : Addr) (ps : List P) (i : Nat) (H' : Hp) : Prop where
  ex : ∃ D' as' acc qs m', Nx D1 as1 H1 D' as' H' ∧ Sk D' as' H' m' ∧ D' Dl ∧ (∀ j : Nat, as'[j]? ≠ some (some Dl)) ∧ H' Dl = some (.dK acc) ∧ RepK D' H' acc qs ∧ qs.length ≤ i ∧ tot = go (ps.drop i) qs m'
theorem ad_dc {Wx : WX} {wi : TI} {g : TG} {I : IF} {f : GF} {T : TF} {Ek Ev : EF} {vs : List Nat} (hi : AdI Wx wi I) (hg : AdG (some vs) g f) : Ad Wx (tDc wi g (tT F0 T) (tE F0 Ek) (tE F0 Ev) vs) (fDc I f T Ek Ev vs) := fun D as γ μ σ H Q k ev gg => by
  refine hi D as γ μ σ H _ k ev ((G.bind RepI k gg).mono fun J H1 ⟨D1, as1, μ1, ps, n1, k1, r1, g1⟩ => ?_)
  intro Dl nDl
  obtain ⟨hl, Gd, Y, wk, stab, yl⟩ := r1
  have ev1 := ev.nx n1
  have nd1 : ¬ D1 Dl := k1.nd nDl
  obtain ⟨n0, k0, nj0⟩ := k1.hide (o := .dK []) nDl
  have nb : dcGo f T Ek Ev (wipeG γ vs) ps [] μ1 ≠ .bad := bind_nb g1.nobad
  refine dc_itP wk (fun i H' => i ≤ ps.length ∧ DcAt D1 as1 H1 (dcGo f T Ek Ev (wipeG γ vs) ps [] μ1) (dcGo f T Ek Ev (wipeG γ vs)) Dl ps i H') ⟨Nat.zero_le _, ⟨_, _, [], [], μ1, n0, k0, .inr rfl, nj0, upd_same, .nil, Nat.le_refl _, ?_⟩⟩ (fun i H' _ h => ?_) ?_ ?_
  · rw [List.drop_zero]
  · obtain ⟨D', as', acc, qs, m', n', _⟩ := h.2.ex
    exact stab D' H' n'.sd
  · rintro i x H' H2 lt ⟨_, h⟩ y
    obtain ⟨D', as', acc, qs, m', n', k', dl, nj, hD, rs, lq, tot⟩ := h.ex
    obtain ⟨s2, p, hp, rp⟩ := yl i D' H' x H2 lt n'.sd (fun a d => k'.dn a d) y
    have k2 : Sk D' as' H2 m' := k'.same s2
    have n2 : Nx D1 as1 H1 D' as' H2 := n'.trans k1 k' (.of_same s2)
    have hdrop : ps.drop i = p :: ps.drop (i + 1) := List.drop_eq_getElem?_toList_append.trans (by rw [hp]; rfl)
    rw [hdrop] at tot
    have nb2 : dcGo f T Ek Ev (wipeG γ vs) (p :: ps.drop (i + 1)) qs m' ≠ .bad := by
      rw [tot] at nb
      exact nb
    cases ef : f p (wipeG γ vs) with
    | none => exact absurd (by simp only [dcGo, ef]) nb2
    | some γ1 =>
      have e1 : dcGo f T Ek Ev (wipeG γ vs) (p :: ps.drop (i + 1)) qs m' = (T γ1 m').nx.bind fun b m1 => if b = true then (Ek γ1 m1).nx.bind fun wk m2 => (Ev γ1 m2).nx.bind (dcW (fun key q m3 => dcGo f T Ek Ev (wipeG γ vs) (ps.drop (i + 1)) (putP qs key q) m3) wk) else dcGo f T Ek Ev (wipeG γ vs) (ps.drop (i + 1)) qs m1 := by
        simp only [dcGo, ef]
      rw [e1] at nb2 tot
      refine hg D' as' m' (wipe σ vs) (wipeG γ vs) γ1 H2 p x _ k2 ((ev1.nx n2).wipe vs) rp ef fun σ2 ev2 w2 l2 => ⟨(w2 vs rfl).trans (wipe_wipe σ vs), ?_⟩
      obtain ⟨b, m1, eT⟩ := nx_ok nb2
      refine ⟨D', as', γ1, m', k2, ev2, ?_⟩
      rw [eT] at nb2 tot ⊢
      intro b' D3 as3 H3 n3 k3 eb
      obtain rfl : b' = b := eb
      have nj3 := n3.notin nj (s2 _ _ hD)
      have hD3 : H3 Dl = some (.dK acc) := n3.hid Dl _ dl nj (s2 _ _ hD)
      have dl3 := n3.mono Dl dl
      have n13 := n2.trans k1 k2 n3
      cases b' with
      | false =>
        exact ⟨lt, ⟨D3, as3, acc, qs, m1, n13, k3, dl3, nj3, hD3, RepK.sd n3.sd (RepK.sd (.same s2) rs), Nat.le_succ_of_le lq, tot⟩⟩
      | true =>
        simp only [if_true]
        have nb3 : ((Ek γ1 m1).nx.bind fun wk m2 => (Ev γ1 m2).nx.bind (dcW (fun key q m3 => dcGo f T Ek Ev (wipeG γ vs) (ps.drop (i + 1)) (putP qs key q) m3) wk)) ≠ .bad := nb2
        have tot3 : dcGo f T Ek Ev (wipeG γ vs) ps [] μ1 = (Ek γ1 m1).nx.bind fun wk m2 => (Ev γ1 m2).nx.bind (dcW (fun key q m3 => dcGo f T Ek Ev (wipeG γ vs) (ps.drop (i + 1)) (putP qs key q) m3) wk) := tot
        obtain ⟨w1, m2, eK⟩ := nx_ok nb3
        refine ⟨D3, as3, γ1, m1, k3, ev2.nx n3, ?_⟩
        rw [eK] at nb3 tot3 ⊢
        intro yk D4 as4 H4 n4 k4 ry
        have nj4 := n4.notin nj3 hD3
        have hD4 : H4 Dl = some (.dK acc) := n4.hid Dl _ dl3 nj3 hD3
        have dl4 := n4.mono Dl dl3
        have n14 := n13.trans k1 k3 n4
        have nb4 : (Ev γ1 m2).nx.bind (dcW (fun key q m3 => dcGo f T Ek Ev (wipeG γ vs) (ps.drop (i + 1)) (putP qs key q) m3) w1) ≠ .bad := nb3
        have tot4 : dcGo f T Ek Ev (wipeG γ vs) ps [] μ1 = (Ev γ1 m2).nx.bind (dcW (fun key q m3 => dcGo f T Ek Ev (wipeG γ vs) (ps.drop (i + 1)) (putP qs key q) m3) w1) := tot3
        obtain ⟨w2', m3, eV⟩ := nx_ok nb4
        refine ⟨D4, as4, γ1, m2, k4, (ev2.nx n3).nx n4, ?_⟩
        rw [eV] at nb4 tot4 ⊢
        intro yv D5 as5 H5 n5 k5 rv
        have nb5 : dcW (fun key q m3 => dcGo f T Ek Ev (wipeG γ vs) (ps.drop (i + 1)) (putP qs key q) m3) w1 w2' m3 ≠ .bad := nb4
        have tot5 : dcGo f T Ek Ev (wipeG γ vs) ps [] μ1 = dcW (fun key q m3 => dcGo f T Ek Ev (wipeG γ vs) (ps.drop (i + 1)) (putP qs key q) m3) w1 w2' m3 := tot4
        have nj5 := n5.notin nj4 hD4
        have hD5 : H5 Dl = some (.dK acc) := n5.hid Dl _ dl4 nj4 hD4
        have dl5 := n5.mono Dl dl4
        have n15 := n14.trans k1 k4 n5
        have racc := RepK.sd n5.sd (RepK.sd n4.sd (RepK.sd n3.sd (RepK.sd (.same s2) rs)))
        cases w2' with
        | loc j => exact absurd rfl nb5
        | v q =>
          cases w1 with
          | loc j => exact absurd rfl nb5
          | v pk =>
            cases ek : keyP pk with
            | none => exact absurd (by simp only [dcW, ek]) nb5
            | some key =>
              have tot6 : dcGo f T Ek Ev (wipeG γ vs) ps [] μ1 = dcGo f T Ek Ev (wipeG γ vs) (ps.drop (i + 1)) (putP qs key q) m3 := by
                rw [tot5]
                simp only [dcW, ek]
              obtain ⟨s5, k6⟩ := k5.poke (o := .dK (putK acc key yv)) dl5 nj5
              refine ⟨acc, key, keyP_ok (show Rep D4 H4 yk pk from ry) ek, hD5, ?_, lt, ⟨D5, as5, putK acc key yv, putP qs key q, m3, n15.poke dl5 nDl nd1, k6, dl5, nj5, upd_same, RepK.sd s5 (racc.put rv), ?_, tot6⟩⟩
              · rw [racc.length]
                exact Nat.lt_of_lt_of_le (Nat.lt_of_le_of_lt lq (Nat.lt_of_lt_of_le lt hl)) (by decide)
              · exact Nat.le_trans (putP_len qs key q) (Nat.succ_le_succ lq)
  · rintro H' ⟨_, h⟩
    obtain ⟨D', as', acc, qs, m', n', k', dl, nj, hD, rs, lq, tot⟩ := h.ex
    rw [List.drop_length] at tot
    have tot2 : dcGo f T Ek Ev (wipeG γ vs) ps [] μ1 = .ok qs m' := tot
    rw [tot2] at g1
    obtain ⟨s3, n3, k3⟩ := k'.free n' nj nd1
    exact g1 (.ref Dl) _ as' H' n3 k3 (show Rep _ _ _ _ from .dct (fun z => z.2 rfl) (.inl hD) (RepK.sd s3 rs))
section
variable {X : Cx} {Wx : WX}
theorem pp_dc {kx vx tg iter : Expr} {ifs : List Expr} {scope : Scope} {own : List (Str × Nat)} {pos : Pos} {I : IF} {g : TG} {f : GF} {T : TF} {Ek Ev : EF} (hc : X.calm = true) (hN : X.N.Nodup) (hi : PPI X Wx tg iter I) (ok : BlkOk X.N X.env.scope scope own)
    (hg : ∀ (s : Shared) (H : Hp) (C : Addr) (cl : List (Str × Addr)) (fp : List Addr), PG (X.blk s H scope (compEnvC scope cl C X.env) fp) tg g) (hf : AdG (some (own.map (·.2))) g f)
    (ht : ∀ (s : Shared) (H : Hp) (C : Addr) (cl : List (Str × Addr)) (fp : List Addr), PPTs (X.blk s H scope (compEnvC scope cl C X.env) fp) F0 ifs T)
    (hk : ∀ (s : Shared) (H : Hp) (C : Addr) (cl : List (Str × Addr)) (fp : List Addr), PP (X.blk s H scope (compEnvC scope cl C X.env) fp) F0 kx Ek)
    (he : ∀ (s : Shared) (H : Hp) (C : Addr) (cl : List (Str × Addr)) (fp : List Addr), PP (X.blk s H scope (compEnvC scope cl C X.env) fp) F0 vx Ev) (hs : ∀ x, foldedSetIterable iter X.env x = pure x := by intro _; rfl) :
    PP X Wx (.DictComp kx vx [⟨tg, iter, ifs, 0⟩] scope pos) (fDc I f T Ek Ev (own.map (·.2))) :=
  let ⟨wi, pi, ai⟩ := hi; ⟨_, pe_dc hc hN pi ok hg (fun s H C cl fp => ht s H C cl fp) (fun s H C cl fp => (hk s H C cl fp).can) (fun s H C cl fp => (he s H C cl fp).can) hs, ad_dc ai hf⟩
end
end Pu

set_option Elab.async false
set_option linter.all false
set_option maxRecDepth 100000
set_option maxHeartbeats 4000000
namespace Pu
open L2 PySem PySem.Spec PyProof.Rows E10
/-! ### for -/
def forGo (f : GF) (B : SF) : List P → Γ → Μ → OS
  | [], γ, m => .nx γ m
  | p :: r, γ, m => match f p γ with
    | none => .bad
    | some γ1 => match B γ1 m with
      | .nx γ2 m2 => forGo f B r γ2 m2
      | .ct γ2 m2 => forGo f B r γ2 m2
      | .bk γ2 m2 => .nx γ2 m2
      | o => o
def sFor (I : IF) (f : GF) (B : SF) : SF := fun γ μ => (I γ μ).s γ fun ps m => forGo f B ps γ m
def tS (Wx : WX) (S : SF) : TS := fun E σ H => ∃ D as γ μ, Sk D as H μ ∧ EnvR D as H σ γ ∧ GS Wx D as H σ.length (S γ μ) E
theorem PPSs.can {X : Cx} {Wx : WX} {sts : List Stmt} {S : SF} (h : PPSs X Wx sts S) : PSs X sts (tS Wx S) := let ⟨_, p, ad⟩ := h; ⟨fun pins s σ H E I ⟨D, as, γ, μ, k, ev, g⟩ => p.run pins s σ H E I (ad D as γ μ σ H E k ev g)⟩
theorem ad_for {Wx : WX} {wi : TI} {g : TG} {I : IF} {f : GF} {B : SF} {tb : TS} (hi : AdI Wx wi I) (hg : AdG none g f) (hb : AdS Wx tb B) : AdS Wx (tFor wi g tb) (sFor I f B) := fun D as γ μ σ H E k ev gg => by
  refine hi D as γ μ σ H _ k ev ((GS.of_s (R := RepI) k ev gg).mono fun J H1 ⟨D1, as1, μ1, ps, n1, k1, ev1, r1, g1⟩ => ?_)
  obtain ⟨hl, Gd, Y, wk, stab, yl⟩ := r1
  refine for_it wk (fun i σ' H' => ∃ D' as' γ' m', Nx D1 as1 H1 D' as' H' ∧ Sk D' as' H' m' ∧ EnvR D' as' H' σ' γ' ∧ σ'.length = σ.length ∧ GS Wx D' as' H' σ.length (forGo f B (ps.drop i) γ' m') E) ⟨D1, as1, γ, μ1, .refl, k1, ev1, rfl, by rw [List.drop_zero]; exact g1⟩ (fun i σ' H' _ h => ?_) ?_ ?_
  · obtain ⟨D', as', γ', m', n', _⟩ := h
    exact stab D' H' n'.sd
  · rintro i x σ' H' H2 lt ⟨D', as', γ', m', n', k', ev', l', g'⟩ y
    obtain ⟨s2, p, hp, rp⟩ := yl i D' H' x H2 lt n'.sd (fun a d => k'.dn a d) y
    have k2 : Sk D' as' H2 m' := k'.same s2
    have n02 : Nx D' as' H' D' as' H2 := .of_same s2
    have n2 : Nx D1 as1 H1 D' as' H2 := n'.trans k1 k' n02
    have hdrop : ps.drop i = p :: ps.drop (i + 1) := List.drop_eq_getElem?_toList_append.trans (by rw [hp]; rfl)
    rw [hdrop] at g'
    cases ef : f p γ' with
    | none =>
      simp only [forGo, ef] at g'
      exact g'.elim
    | some γ1 =>
      simp only [forGo, ef] at g'
      refine hg D' as' m' σ' γ' γ1 H2 p x _ k2 (ev'.nx n02) rp ef fun σ2 ev2 _ l2 => ?_
      refine hb D' as' γ1 m' σ2 H2 _ k2 ev2 ?_
      have l3 : σ2.length = σ.length := l2.trans l'
      rw [l3]
      have up : ∀ {o}, GS Wx D' as' H' σ.length o E → GS Wx D' as' H2 σ.length o E := fun {o} z => GS.nx' k' k2 n02 z
      cases eB : B γ1 m' with
      | nx γ2 m2 =>
        rw [eB] at g'
        exact fun σ3 D3 as3 H3 n3 k3 ev3 l => ⟨D3, as3, γ2, m2, n2.trans k1 k2 n3, k3, ev3, l, GS.nx' k2 k3 n3 (up g')⟩
      | ct γ2 m2 =>
        rw [eB] at g'
        exact fun σ3 D3 as3 H3 n3 k3 ev3 l => ⟨D3, as3, γ2, m2, n2.trans k1 k2 n3, k3, ev3, l, GS.nx' k2 k3 n3 (up g')⟩
      | bk γ2 m2 => rw [eB] at g'; exact up g'
      | ret w m2 => rw [eB] at g'; exact up g'
      | exc C fs γ2 m2 => rw [eB] at g'; exact up g'
      | bad => rw [eB] at g'; exact g'.elim
  · rintro σ' H' ⟨D', as', γ', m', n', k', ev', l', g'⟩
    rw [List.drop_length] at g'
    exact g' σ' D' as' H' .refl k' ev' l'
section
variable {X : Cx} {Wx : WX}
theorem ppq_for {tg iter : Expr} {body : List Stmt} {pos : Pos} {I : IF} {g : TG} {f : GF} {B : SF} (hp : PassesOwn (model X.prog X.w) X.A X.env X.xe) (hc : X.calm = true) (hi : PPI X Wx tg iter I) (hg : PG X tg g) (hf : AdG none g f) (hb : PPSs X Wx body B)
    (hs : ∀ x, foldedSetIterable iter X.env x = pure x := by intro _; rfl) : PPS X Wx (.For tg iter body [] pos) (sFor I f B) :=
  let ⟨_, pi, ai⟩ := hi; let ⟨_, pb, ab⟩ := hb; ⟨_, ps_for hp hc pi hg pb hs, ad_for ai hf ab⟩
end
/-! ### while -/
def whileGo (T : TF) (B : SF) : Nat → Γ → Μ → OS
  | 0, _, _ => .bad
  | n + 1, γ, m => (T γ m).s γ fun b m1 => if b = true then match B γ m1 with
      | .nx γ2 m2 => whileGo T B n γ2 m2
      | .ct γ2 m2 => whileGo T B n γ2 m2
      | .bk γ2 m2 => .nx γ2 m2
      | o => o
    else .nx γ m1
theorem whileGo_up (T : TF) (B : SF) : ∀ {n : Nat} {γ m}, whileGo T B n γ m ≠ .bad → whileGo T B (n + 1) γ m = whileGo T B n γ m
  | 0, _, _, h => absurd rfl h
  | n + 1, γ, m, h => by
    rw [whileGo] at h ⊢
    rw [whileGo]
    cases eT : T γ m with
    | exc C fs m1 => rfl
    | bad => rfl
    | ok b m1 =>
      rw [eT] at h
      simp only [O.s_ok] at h ⊢
      cases b with
      | false => rfl
      | true =>
        simp only [if_true] at h ⊢
        cases eB : B γ m1 with
        | nx γ2 m2 =>
          rw [eB] at h
          simp only at h ⊢
          exact whileGo_up T B h
        | ct γ2 m2 =>
          rw [eB] at h
          simp only at h ⊢
          exact whileGo_up T B h
        | bk γ2 m2 => rfl
        | ret w m2 => rfl
        | exc C fs γ2 m2 => rfl
        | bad => rfl
theorem whileGo_add (T : TF) (B : SF) {n : Nat} {γ m} (h : whileGo T B n γ m ≠ .bad) : ∀ k, whileGo T B (n + k) γ m = whileGo T B n γ m
  | 0 => rfl
  | k + 1 => by
    rw [← Nat.add_assoc, whileGo_up T B (by rw [whileGo_add T B h k]; exact h), whileGo_add T B h k]
open Classical in
noncomputable def sWhile (T : TF) (B : SF) : SF := fun γ m => if h : ∃ n, whileGo T B n γ m ≠ .bad then whileGo T B h.choose γ m else .bad
theorem sWhile_eq {T : TF} {B : SF} {n : Nat} {γ m} {o : OS} (h : whileGo T B n γ m = o) (nb : o ≠ .bad) : sWhile T B γ m = o := by
  have ex : ∃ n, whileGo T B n γ m ≠ .bad := ⟨n, by rw [h]; exact nb⟩
  unfold sWhile
  rw [dif_pos ex]
  have hc := ex.choose_spec
  rcases Nat.le_total ex.choose n with le | le
  · have := whileGo_add T B hc (n - ex.choose)
    rw [show ex.choose + (n - ex.choose) = n by omega, h] at this
    exact this.symm
  · have := whileGo_add T B (n := n) (by rw [h]; exact nb) (ex.choose - n)
    rw [show n + (ex.choose - n) = ex.choose by omega, h] at this
    exact this
theorem ad_while {Wx : WX} {T : TF} {B : SF} {tc : TT} {tb : TS} (hc : AdT Wx tc T) (hb : AdS Wx tb B) : AdS Wx (tWhile tc tb) (sWhile T B) := fun D as γ μ σ H E k ev gg => by
  have ex : ∃ n, whileGo T B n γ μ ≠ .bad := by
    unfold sWhile at gg
    split at gg
    · assumption
    · exact gg.elim
  obtain ⟨n0, hn0⟩ := ex
  rw [sWhile_eq rfl hn0] at gg
  refine ⟨fun n σ' H' => ∃ D' as' γ' m', Nx D as H D' as' H' ∧ Sk D' as' H' m' ∧ EnvR D' as' H' σ' γ' ∧ σ'.length = σ.length ∧ GS Wx D' as' H' σ.length (whileGo T B n γ' m') E, ⟨n0, D, as, γ, μ, .refl, k, ev, rfl, gg⟩, ?_⟩
  rintro n σ' H' ⟨D', as', γ', m', n', k', ev', l', g'⟩
  cases n with
  | zero => exact g'.elim
  | succ n =>
    rw [whileGo] at g'
    rw [← l'] at g'
    refine hc D' as' γ' m' σ' H' _ k' ev' ((GS.of_s (R := RepB) k' ev' g').mono fun b H1 ⟨D1, as1, μ1, b', n1, k1, ev1, rb, g1⟩ => ?_)
    obtain rfl : b = b' := rb
    have n01 := n'.trans k k' n1
    cases b with
    | false => exact g1 σ' D1 as1 H1 .refl k1 ev1 rfl
    | true =>
      simp only [if_true] at g1
      refine ⟨fun σ2 H2 => ∃ D2 as2 γ2 m2, Nx D as H D2 as2 H2 ∧ Sk D2 as2 H2 m2 ∧ EnvR D2 as2 H2 σ2 γ2 ∧ σ2.length = σ.length ∧ GS Wx D2 as2 H2 σ.length (whileGo T B n γ2 m2) E, fun σ2 H2 z => ⟨n, Nat.lt_succ_self n, z⟩, ?_⟩
      refine hb D1 as1 γ' μ1 σ' H1 _ k1 ev1 ?_
      cases eB : B γ' μ1 with
      | nx γ2 m2 =>
        rw [eB] at g1
        exact fun σ3 D3 as3 H3 n3 k3 ev3 l => ⟨D3, as3, γ2, m2, n01.trans k k1 n3, k3, ev3, l.trans l', l' ▸ GS.nx' k1 k3 n3 g1⟩
      | ct γ2 m2 =>
        rw [eB] at g1
        exact fun σ3 D3 as3 H3 n3 k3 ev3 l => ⟨D3, as3, γ2, m2, n01.trans k k1 n3, k3, ev3, l.trans l', l' ▸ GS.nx' k1 k3 n3 g1⟩
      | bk γ2 m2 => rw [eB] at g1; exact g1
      | ret w m2 => rw [eB] at g1; exact g1
      | exc C fs γ2 m2 => rw [eB] at g1; exact g1
      | bad => rw [eB] at g1; exact g1.elim
section
variable {X : Cx} {Wx : WX}
theorem ppq_while {c : Expr} {body : List Stmt} {pos : Pos} {T : TF} {B : SF} (hp : PassesOwn (model X.prog X.w) X.A X.env X.xe) (hc : PPT X Wx c T) (hb : PPSs X Wx body B) : PPS X Wx (.While c body [] pos) (sWhile T B) :=
  let ⟨_, pc, ac⟩ := hc; let ⟨_, pb, ab⟩ := hb; ⟨_, ps_while hp pc pb, ad_while ac ab⟩
end
end Pu

set_option Elab.async false
set_option linter.all false
set_option maxRecDepth 100000
set_option maxHeartbeats 4000000
namespace Pu
open L2 PySem PySem.Spec PyProof.Rows E10
/-! ### what changes -/
section
variable {D : Addr → Prop} {as : Ps} {H : Hp} {μ : Μ}
theorem cell_set {j : Nat} {a : Addr} {o u : HO} {c : PC} (k : Sk D as H μ) (e : as[j]? = some (some a)) (h : ∀ D' H', Sd D H D' H' → H' a = some o → CellOk D' H' a c) : Nx D as H D as (upd H a o) ∧ Sk D as (upd H a o) (μ.set j c) := by
  have da := k.inD j a e
  have ne : ∀ b, ¬ D b → b ≠ a := fun b n z => n (z ▸ da)
  have n : Nx D as H D as (upd H a o) := by
    refine ⟨⟨[], by simp⟩, fun _ h => h, fun _ h => .inl h, fun _ _ h => .inl h, fun b x db nb e' => ?_, fun b x n r => ?_, fun b x n e' _ => (upd_ne (ne b n)).trans e'⟩
    · rw [upd_ne (fun z : b = a => nb j (z ▸ e))]
      exact e'
    · rcases r with r | ⟨y, r⟩
      · exact .inl ((upd_ne (ne b n)).trans r)
      · exact .inr ⟨y, (upd_ne (ne b n)).trans r⟩
  refine ⟨n, by rw [List.length_set]; exact k.len, fun b d => ?_, k.inD, k.inj, fun i b e' => ?_⟩
  · by_cases z : b = a
    · subst z
      exact ⟨o, upd_same⟩
    · rw [upd_ne z]
      exact k.dn b d
  · by_cases z : i = j
    · subst z
      rw [e] at e'
      cases e'
      have lt : i < μ.length := by
        rw [← k.len]
        exact (List.getElem?_eq_some_iff.mp e).1
      exact ⟨c, List.getElem?_set_self lt, h D _ n.sd upd_same⟩
    · obtain ⟨c', q, x⟩ := k.ok i b e'
      have nab : b ≠ a := fun w => z (k.inj i j b e' (w ▸ e))
      exact ⟨c', by rw [List.getElem?_set_ne (Ne.symm z)]; exact q, x.sd n.sd (upd_ne nab)⟩
end
def wL (μ : Μ) : W → Option (Nat × List P)
  | .loc j => match μ[j]? with
    | some (.lst ps) => some (j, ps)
    | _ => none
  | _ => none
def wD (μ : Μ) : W → Option (Nat × List (Key × P))
  | .loc j => match μ[j]? with
    | some (.dct ps) => some (j, ps)
    | _ => none
  | _ => none
def wI (μ : Μ) : W → Option (Nat × Addr × List (Str × P))
  | .loc j => match μ[j]? with
    | some (.ins C ps) => some (j, C, ps)
    | _ => none
  | _ => none
section
variable {D : Addr → Prop} {as : Ps} {H : Hp} {μ : Μ} {v : V} {w : W}
theorem wL_ok {j : Nat} {ps : List P} (k : Sk D as H μ) (r : RepW D as H v w) (h : wL μ w = some (j, ps)) : ∃ a xs, v = .ref a ∧ as[j]? = some (some a) ∧ H a = some (.lst xs) ∧ Reps D H xs ps := by
  unfold wL at h
  split at h
  · split at h
    · rename_i q
      cases h
      obtain ⟨a, e, rfl⟩ := r
      obtain ⟨c, q', x⟩ := k.ok _ a e
      rw [q] at q'
      cases q'
      obtain ⟨xs, hx, rs⟩ := x
      exact ⟨a, xs, rfl, e, hx, rs⟩
    · cases h
  · cases h
theorem wD_ok {j : Nat} {ps : List (Key × P)} (k : Sk D as H μ) (r : RepW D as H v w) (h : wD μ w = some (j, ps)) : ∃ a xs, v = .ref a ∧ as[j]? = some (some a) ∧ H a = some (.dK xs) ∧ RepK D H xs ps := by
  unfold wD at h
  split at h
  · split at h
    · rename_i q
      cases h
      obtain ⟨a, e, rfl⟩ := r
      obtain ⟨c, q', x⟩ := k.ok _ a e
      rw [q] at q'
      cases q'
      obtain ⟨xs, hx, rs⟩ := x
      exact ⟨a, xs, rfl, e, hx, rs⟩
    · cases h
  · cases h
theorem wI_ok {j : Nat} {C : Addr} {ps : List (Str × P)} (k : Sk D as H μ) (r : RepW D as H v w) (h : wI μ w = some (j, C, ps)) : ∃ a dx xs, v = .ref a ∧ as[j]? = some (some a) ∧ H a = some (.ins C dx xs) ∧ RepS D H xs ps := by
  unfold wI at h
  split at h
  · split at h
    · rename_i q
      cases h
      obtain ⟨a, e, rfl⟩ := r
      obtain ⟨c, q', x⟩ := k.ok _ a e
      rw [q] at q'
      cases q'
      obtain ⟨dx, xs, hx, rs⟩ := x
      exact ⟨a, dx, xs, rfl, e, hx, rs⟩
    · cases h
  · cases h
end
/-! ### methods of the built-in -/
def AdM (Wx : WX) (r : V → List V → Hp → VK → Prop) (f : W → List W → Μ → O W) : Prop := ∀ D as μ σ H x w vs ws Q, Sk D as H μ → RepW D as H x w → RepWs D as H vs ws → G Wx σ RepW D as H (f w ws μ) Q → r x vs H Q
def isTy (T : String) (μ : Μ) (w : W) : Bool := match w with
  | .v (.str _) => T == "str"
  | w => (T == "list" && (rdL μ w).isSome) || (T == "dict" && (wD μ w).isSome)
theorem isTy_ok {K : PySem.W.Frag} {D as H} {μ : Μ} {v : V} {w : W} {T : String} (k : Sk D as H μ) (r : RepW D as H v w) (h : isTy T μ w = true) : tyV K T v H := by
  unfold isTy at h
  split at h
  · obtain rfl := rep_str r
    exact beq_iff_eq.mp h
  · rcases Bool.or_eq_true_iff.mp h with h | h
    · obtain ⟨h1, h2⟩ := Bool.and_eq_true_iff.mp h
      obtain ⟨ps, e⟩ := Option.isSome_iff_exists.mp h2
      obtain ⟨a, xs, rfl, hr, _⟩ := rdL_ok k r e
      exact .inl ⟨beq_iff_eq.mp h1, xs, .inl hr⟩
    · obtain ⟨h1, h2⟩ := Bool.and_eq_true_iff.mp h
      obtain ⟨ps, e⟩ := Option.isSome_iff_exists.mp h2
      obtain ⟨a, xs, rfl, _, hr, _⟩ := wD_ok k r e
      exact .inr (.inr (.inl ⟨beq_iff_eq.mp h1, .inl ⟨xs, hr⟩⟩))
def fBM (T : String) (f : W → List W → Μ → O W) (F : EF) (A : AF) : EF := fun γ μ => (F γ μ).bind fun w m => if isTy T m w = true then (A γ m).bind fun ws m => f w ws m else .bad
theorem ad_bm {Wx : WX} {K : PySem.W.Frag} {T : String} {r} {f} {to : TE} {t : TA} {F : EF} {A : AF} (h : AdM Wx r f) (ho : Ad Wx to F) (ha : AdA Wx t A) : Ad Wx (tBM K T r to t) (fBM T f F A) := fun D as γ μ σ H Q k ev g => by
  refine ho D as γ μ σ H _ k ev ((G.bind RepW k g).mono fun x H1 ⟨D1, as1, μ1, w, n1, k1, r1, g1⟩ => ?_)
  split at g1
  · rename_i ty
    refine ⟨isTy_ok k1 r1 ty, ha D1 as1 γ μ1 σ H1 _ k1 (ev.nx n1) ((G.bind RepWs k1 g1).mono fun xs H2 ⟨D2, as2, μ2, ws, n2, k2, r2, g2⟩ => ?_)⟩
    exact h D2 as2 μ2 σ H2 x w xs ws Q k2 (r1.nx n2) r2 g2
  · exact g1.elim
theorem ad_bm0 {Wx : WX} {K : PySem.W.Frag} {T : String} {r} {f} {to : TE} {F : EF} (h : AdM Wx r f) (ho : Ad Wx to F) : Ad Wx (tBM0 K T r to) (fBM T f F fNil) := fun D as γ μ σ H Q k ev g => by
  refine ho D as γ μ σ H _ k ev ((G.bind RepW k g).mono fun x H1 ⟨D1, as1, μ1, w, n1, k1, r1, g1⟩ => ?_)
  split at g1
  · rename_i ty
    exact ⟨isTy_ok k1 r1 ty, h D1 as1 μ1 σ H1 x w [] [] Q k1 r1 .nil g1⟩
  · exact g1.elim
section
variable {X : Cx} {Wx : WX} {o e a b value : Expr} {es : List Expr} {F F1 F2 F3 : EF} {A : AF} {name : Str} {apos cpos pos pos' : Pos} {T id : String} {r : V → List V → Hp → VK → Prop} {f : W → List W → Μ → O W}
theorem pp_bm (pa : PlainAttrs T) (slot : Slot T name id) (hty : typeOf (.builtin id) = pure (.type "method_descriptor")) (hm : MtR X id r) (h : AdM Wx r f) (ho : PP X Wx o F) (ha : PPA X Wx (e :: es) A)
    (hbase : attributeBase o name X.env (eval o X.env) = eval o X.env := by rfl)
    (hfew : ((backTo cpos (starEach (e :: es) X.env)).all (fun x => !x.1) && (backToKw cpos (keywordEach [] X.env)).all (fun x => x.1.isSome)
      && decide ((e :: es).length + ([] : List Keyword).length + (if ([] : List Keyword).isEmpty then 0 else 1) < 30)) = true := by rfl)
    (hline : (apos.endLine == cpos.line) = true := by rfl) (hs : starEach (e :: es) X.env = (false, eval e X.env) :: starEach es X.env := by rfl) (hplain : (backTo cpos (starEach es X.env)).any (·.1) = false := by rfl) :
    PP X Wx (.Call (.Attribute o name apos) (e :: es) [] cpos) (fBM T f F A) := let ⟨_, po, ao⟩ := ho; let ⟨_, p, aa⟩ := ha; ⟨_, pe_bm pa slot hty hm po p hbase hfew hline hs hplain, ad_bm h ao aa⟩
theorem pp_bm0 (pa : PlainAttrs T) (slot : Slot T name id) (hty : typeOf (.builtin id) = pure (.type "method_descriptor")) (hm : MtR X id r) (h : AdM Wx r f) (ho : PP X Wx o F)
    (hbase : attributeBase o name X.env (eval o X.env) = eval o X.env := by rfl) (hline : (apos.endLine == cpos.line) = true := by rfl) : PP X Wx (.Call (.Attribute o name apos) [] [] cpos) (fBM T f F fNil) :=
  let ⟨_, po, ao⟩ := ho; ⟨_, pe_bm0 pa slot hty hm po hbase hline, ad_bm0 h ao⟩
/-- xs.append(p) -/
def mAppend : W → List W → Μ → O W := fun w ws μ => match wL μ w, ws with
  | some (j, ps), [.v p] => if ps.length < 100000 then .ok (.v .non) (μ.set j (.lst (ps ++ [p]))) else .bad
  | _, _ => .bad
theorem am_append : AdM Wx rAppend mAppend := fun D as μ σ H x w vs ws Q k rx rv g => by
  unfold mAppend at g
  split at g
  · rename_i j ps p e
    split at g
    · rename_i hl
      obtain ⟨a, xs, rfl, ea, ha, rs⟩ := wL_ok k rx e
      obtain ⟨v, rfl, rp⟩ := repWs1 rv
      refine ⟨a, xs, v, rfl, rfl, ha, ?_, ?_⟩
      · rw [rs.length]
        exact Nat.lt_of_lt_of_le hl (by decide)
      · obtain ⟨n, k'⟩ := cell_set (o := .lst (xs ++ [v])) (u := .lst []) (c := .lst (ps ++ [p])) k ea fun D' H' s e' => ⟨_, e', (Reps.sd s rs).snoc (Rep.sd s rp)⟩
        exact g .non D as _ n k' (show Rep _ _ _ _ from .non)
    · exact g.elim
  · exact g.elim
/-- xs.pop(i) -/
def mPopAt : W → List W → Μ → O W := fun w ws μ => match wL μ w, ws with
  | some (j, ps), [.v (.int i)] => if i.natAbs < 2 ^ 61 then match seqIndex? i ps.length with
    | some n => match ps[n]? with
      | some p => .ok (.v p) (μ.set j (.lst (ps.eraseIdx n)))
      | none => .bad
    | none => .bad
    else .bad
  | _, _ => .bad
theorem am_popAt : AdM Wx rPopAt mPopAt := fun D as μ σ H x w vs ws Q k rx rv g => by
  unfold mPopAt at g
  split at g
  · rename_i j ps i e
    split at g
    · rename_i hl
      split at g
      · rename_i n en
        split at g
        · rename_i p ep
          obtain ⟨a, xs, rfl, ea, ha, rs⟩ := wL_ok k rx e
          obtain ⟨v, rfl, rp⟩ := repWs1 rv
          obtain rfl := rep_int rp
          obtain ⟨y, hy, ry⟩ := rs.getP ep
          have : (2 : Nat) ^ 61 = 2305843009213693952 := by decide
          have : (2 : Int) ^ 63 = 9223372036854775808 := by decide
          refine ⟨a, xs, i, n, y, rfl, rfl, ha, by omega, by omega, by rw [rs.length]; exact en, hy, ?_⟩
          obtain ⟨n', k'⟩ := cell_set (o := .lst (xs.eraseIdx n)) (u := .lst []) (c := .lst (ps.eraseIdx n)) k ea fun D' H' s e' => ⟨_, e', (Reps.sd s rs).eraseIdx n⟩
          exact g y D as _ n' k' (show Rep _ _ _ _ from Rep.sd n'.sd ry)
        · exact g.elim
      · exact g.elim
    · exact g.elim
  · exact g.elim
/-- d[k] = p -/
def sDPutP (Fd Fk Fv : EF) : SF := fun γ μ => (Fv γ μ).s γ fun wv m => (Fd γ m).s γ fun wd m => (Fk γ m).s γ fun wk m => match wD m wd, wk, wv with
  | some (j, ps), .v pk, .v p => match keyP pk with
    | some k => if ps.length < 100000 then .nx γ (m.set j (.dct (putP ps k p))) else .bad
    | none => .bad
  | _, _, _ => .bad
theorem ad_dput {td ty tv : TE} (hd : Ad Wx td F1) (hk : Ad Wx ty F2) (hv : Ad Wx tv F3) : AdS Wx (sDPut td ty tv) (sDPutP F1 F2 F3) := fun D as γ μ σ H E k ev g => by
  refine hv D as γ μ σ H _ k ev ((GS.of_s (R := RepW) k ev g).mono fun v H1 ⟨D1, as1, μ1, wv, n1, k1, ev1, r1, g1⟩ => ?_)
  refine hd D1 as1 γ μ1 σ H1 _ k1 ev1 ((GS.of_s (R := RepW) k1 ev1 g1).mono fun x H2 ⟨D2, as2, μ2, wd, n2, k2, ev2, r2, g2⟩ => ?_)
  refine hk D2 as2 γ μ2 σ H2 _ k2 ev2 ((GS.of_s (R := RepW) k2 ev2 g2).mono fun y H3 ⟨D3, as3, μ3, wk, n3, k3, ev3, r3, g3⟩ => ?_)
  generalize e : wD μ3 wd = od at g3
  match od, wk, wv, e, r3, r1, g3 with
  | some (j, ps), .v pk, .v p, e, r3, r1, g3 =>
    simp only at g3
    split at g3
    · rename_i kk ek
      split at g3
      · rename_i hl
        obtain ⟨a, xs, rfl, ea, ha, rs⟩ := wD_ok k3 (r2.nx n3) e
        have rp : Rep D3 H3 v p := (r1.nx n2).nx n3
        refine ⟨a, _, rfl, .inl ⟨xs, kk, ha, keyP_ok r3 ek, ?_, rfl⟩, ?_⟩
        · rw [rs.length]
          exact Nat.lt_of_lt_of_le hl (by decide)
        · obtain ⟨n', k'⟩ := cell_set (o := .dK (putK xs kk v)) (u := .lst []) (c := .dct (putP ps kk p)) k3 ea fun D' H' s e' => ⟨_, e', (RepK.sd s rs).put (Rep.sd s rp)⟩
          exact g3 σ D3 as3 _ n' k' (ev3.nx n') rfl
      · exact g3.elim
    · exact g3.elim
  | none, _, _, _, _, _, g3 => exact g3.elim
  | some _, .loc _, _, _, _, _, g3 => exact g3.elim
  | some _, .v _, .loc _, _, _, _, g3 => exact g3.elim
theorem ppq_dput (hu : X.A.units + 1 < cLine) (ho : PP X Wx a F1) (hi : PP X Wx b F2) (hv : PP X Wx value F3) (hs : swapsWith value (some (.Subscript a b pos')) pos.line X.env = pure false := by rfl) : PPS X Wx (.Assign [.Subscript a b pos'] value pos) (sDPutP F1 F2 F3) :=
  let ⟨_, p1, a1⟩ := ho; let ⟨_, p2, a2⟩ := hi; let ⟨_, p3, a3⟩ := hv; ⟨_, ps_dput hu p1 p2 p3 hs, ad_dput a1 a2 a3⟩
/-- xs[i] = p -/
def sLPutP (Fv Fl Fi : EF) : SF := fun γ μ => (Fv γ μ).s γ fun wv m => (Fl γ m).s γ fun wl m => (Fi γ m).s γ fun wi m => match wL m wl, wi, wv with
  | some (j, ps), .v (.int i), .v p => match ixN ps.length i with
    | some n => .nx γ (m.set j (.lst (ps.set n p)))
    | none => .bad
  | _, _, _ => .bad
theorem ad_lput {tl ti tv : TE} (hv : Ad Wx tv F1) (hl : Ad Wx tl F2) (hi : Ad Wx ti F3) : AdS Wx (tAsg tv (gSub tl ti rSetL)) (sLPutP F1 F2 F3) := fun D as γ μ σ H E k ev g => by
  refine hv D as γ μ σ H _ k ev ((GS.of_s (R := RepW) k ev g).mono fun v H1 ⟨D1, as1, μ1, wv, n1, k1, ev1, r1, g1⟩ => ?_)
  refine hl D1 as1 γ μ1 σ H1 _ k1 ev1 ((GS.of_s (R := RepW) k1 ev1 g1).mono fun x H2 ⟨D2, as2, μ2, wd, n2, k2, ev2, r2, g2⟩ => ?_)
  refine hi D2 as2 γ μ2 σ H2 _ k2 ev2 ((GS.of_s (R := RepW) k2 ev2 g2).mono fun y H3 ⟨D3, as3, μ3, wk, n3, k3, ev3, r3, g3⟩ => ?_)
  generalize e : wL μ3 wd = od at g3
  match od, wk, wv, e, r3, r1, g3 with
  | some (j, ps), .v (.int i), .v p, e, r3, r1, g3 =>
    simp only at g3
    split at g3
    · rename_i n en
      obtain ⟨a, xs, rfl, ea, ha, rs⟩ := wL_ok k3 (r2.nx n3) e
      have rp : Rep D3 H3 v p := (r1.nx n2).nx n3
      refine ⟨a, xs, i, n, rfl, rep_int r3, ha, by rw [rs.length]; exact en, ?_⟩
      obtain ⟨n', k'⟩ := cell_set (o := .lst (xs.set n v)) (u := .lst []) (c := .lst (ps.set n p)) k3 ea fun D' H' s e' => ⟨_, e', (Reps.sd s rs).set (Rep.sd s rp) n⟩
      exact g3 σ D3 as3 _ n' k' (ev3.nx n') rfl
    · exact g3.elim
  | none, _, _, _, _, _, g3 => exact g3.elim
  | some _, .loc _, _, _, _, _, g3 => exact g3.elim
  | some _, .v .non, _, _, _, _, g3 | some _, .v (.bl _), _, _, _, _, g3 | some _, .v (.str _), _, _, _, _, g3 | some _, .v (.ref _), _, _, _, _, g3 | some _, .v (.ty _), _, _, _, _, g3 | some _, .v (.tup _), _, _, _, _, g3 | some _, .v (.lst _), _, _, _, _, g3 | some _, .v (.dct _), _, _, _, _, g3 | some _, .v (.ins _ _), _, _, _, _, g3 | some _, .v (.set _ _), _, _, _, _, g3 => exact g3.elim
  | some _, .v (.int _), .loc _, _, _, _, g3 => exact g3.elim
theorem ppq_asg {tg e : Expr} {S : SF} {te : TE} {g : TG} (he : PE X e te) (hg : PG X tg g) (h : AdS Wx (tAsg te g) S) (hs : swapsWithSole [tg] e pos.line X.env = pure false := by rfl) (hw : swappedStores [tg] e X.env = pure none := by rfl)
    (h1 : (assignEach [tg] X.env).map (·.2) = [assign tg X.env] := by rfl) : PPS X Wx (.Assign [tg] e pos) S := ⟨_, ps_asg he hg hs hw h1, h⟩
theorem ppq_lput (hv : PP X Wx value F1) (hl : PP X Wx a F2) (hi : PP X Wx b F3) (hs : swapsWithSole [.Subscript a b pos'] value pos.line X.env = pure false := by rfl) (hw : swappedStores [.Subscript a b pos'] value X.env = pure none := by rfl)
    (h1 : (assignEach [.Subscript a b pos'] X.env).map (·.2) = [assign (.Subscript a b pos') X.env] := by rfl)
    (ha : ∀ v, assign (.Subscript a b pos') X.env v = (do
      let ov ← holding [v] (eval a X.env)
      let iv ← holding [v, ov] (eval b X.env)
      standAt pos'
      holding [v, ov, iv] (setItem ov iv v)
      release [v, ov, iv] []) := by intro _; rfl) : PPS X Wx (.Assign [.Subscript a b pos'] value pos) (sLPutP F1 F2 F3) :=
  let ⟨_, p1, a1⟩ := hv; let ⟨_, p2, a2⟩ := hl; let ⟨_, p3, a3⟩ := hi; ⟨_, ps_asg p1 (pg_sub p2 p3 set_list ha) hs hw h1, ad_lput a1 a2 a3⟩
/-- a, b = .. -/
def sAsgP (F : EF) (f : GF) : SF := fun γ μ => (F γ μ).s γ fun w m => match w with
  | .v p => match f p γ with
    | some γ' => .nx γ' m
    | none => .bad
  | .loc _ => .bad
theorem ad_asgP {te : TE} {g : TG} {f : GF} (h : Ad Wx te F) (hf : AdG none g f) : AdS Wx (tAsg te g) (sAsgP F f) := fun D as γ μ σ H E k ev gg => by
  refine h D as γ μ σ H _ k ev ((GS.of_s (R := RepW) k ev gg).mono fun x H1 ⟨D1, as1, μ1, w, n1, k1, ev1, r1, g1⟩ => ?_)
  split at g1
  · split at g1
    · rename_i ef
      exact hf D1 as1 μ1 σ γ _ H1 _ x _ k1 ev1 r1 ef fun σ' ev' _ l => g1 σ' D1 as1 H1 .refl k1 ev' l
    · exact g1.elim
  · exact g1.elim
theorem ppq_tup {tg : Expr} {g : TG} {f : GF} (he : PP X Wx e F) (hg : PG X tg g) (hf : AdG none g f) (hs : swapsWithSole [tg] e pos.line X.env = pure false := by rfl) (hw : swappedStores [tg] e X.env = pure none := by rfl)
    (h1 : (assignEach [tg] X.env).map (·.2) = [assign tg X.env] := by rfl) : PPS X Wx (.Assign [tg] e pos) (sAsgP F f) := let ⟨_, p, ad⟩ := he; ⟨_, ps_asg p hg hs hw h1, ad_asgP ad hf⟩
/-- a, b = x, y: two names -/
def sPar (i j : Nat) (A : AF) : SF := fun γ μ => (A γ μ).s γ fun ws m => match ws with
  | [v, w] => .nx ((γ.set i (some v)).set j (some w)) m
  | _ => .bad
theorem ad_par {i j : Nat} {ta : TA} (h : AdA Wx ta A) : AdS Wx (tPar i j ta) (sPar i j A) := fun D as γ μ σ H E k ev gg => by
  refine h D as γ μ σ H _ k ev ((GS.of_s (R := RepWs) k ev gg).mono fun xs H1 ⟨D1, as1, μ1, ws, n1, k1, ev1, r1, g1⟩ => ?_)
  split at g1
  · obtain ⟨v, w, rfl, rv, rw'⟩ := repWs2 r1
    exact ⟨v, w, rfl, g1 _ D1 as1 H1 .refl k1 ((ev1.set rv).set rw') (by rw [List.length_set, List.length_set])⟩
  · exact g1.elim
theorem ppq_par {i j : Nat} {x y : Str} {a b : Expr} {px py pt : Pos} {kt k2 pt2} (hc : X.calm = true) (hN : X.N.Nodup) (hi : X.N[i]? = some x) (hj : X.N[j]? = some y) (hij : i ≠ j)
    (hx : X.env.scope.names.lookup x = some .local) (hy : X.env.scope.names.lookup y = some .local) (ha : PPA X Wx [a, b] A)
    (hw : swappedStores [.Tuple [.Name x px, .Name y py] kt pt] (.Tuple [a, b] k2 pt2) X.env = pure (some [x, y]))
    (hs : swapsWithSole [.Tuple [.Name x px, .Name y py] kt pt] (.Tuple [a, b] k2 pt2) pos.line X.env = pure false := by rfl) :
    PPS X Wx (.Assign [.Tuple [.Name x px, .Name y py] kt pt] (.Tuple [a, b] k2 pt2) pos) (sPar i j A) := let ⟨_, p, ad⟩ := ha; ⟨_, ps_par hc hN hi hj hij hx hy p hw hs, ad_par ad⟩
end
end Pu

set_option Elab.async false
set_option linter.all false
set_option maxRecDepth 100000
set_option maxHeartbeats 4000000
namespace Pu
open L2 PySem PySem.Spec PyProof.Rows E10
/-! ### the last place, let go as a value -/
def fFrz (F : EF) : EF := fun γ μ => (F γ μ).bind fun w m => match w with
  | .v p => .ok (.v p) m
  | .loc j => if j + 1 = m.length ∧ μ.length ≤ j then match (m[j]?).bind PC.p with
      | some p => .ok (.v p) (m.take j)
      | none => .bad
    else .bad
section
variable {D D' : Addr → Prop} {as as' : Ps} {H H' : Hp} {μ m : Μ}
theorem frz_last (k : Sk D as H μ) (k' : Sk D' as' H' m) (n : Nx D as H D' as' H') {j : Nat} {a : Addr} {c : PC} {p : P} (hj : j + 1 = m.length) (hl : μ.length ≤ j) (e : as'[j]? = some (some a)) (q : m[j]? = some c) (hp : c.p = some p) :
    ∃ D2 as2, Nx D as H D2 as2 H' ∧ Sk D2 as2 H' (m.take j) ∧ Rep D2 H' (.ref a) p := by
  have lj : j < m.length := by omega
  have at' : ∀ {i : Nat} {b : Addr}, (as'.take j)[i]? = some (some b) → i < j ∧ as'[i]? = some (some b) := fun {i b} z => by
    by_cases lt : i < j
    · rw [List.getElem?_take_of_lt lt] at z
      exact ⟨lt, z⟩
    · rw [List.getElem?_eq_none (by rw [List.length_take]; omega)] at z
      cases z
  obtain ⟨t, et⟩ := n.pre
  have pre : as'.take j = as ++ t.take (j - as.length) := by
    rw [et, List.take_append, List.take_of_length_le (by rw [k.len]; exact hl)]
  have s : Sd D' H' (lessD D' a) H' := ⟨fun b u nb _ z => nb z.1, fun _ _ _ r => r, fun _ _ _ e _ => e⟩
  have na : H a = none := by
    rcases n.fresh j a e with z | z
    · have lt := (List.getElem?_eq_some_iff.mp z).1
      rw [k.len] at lt
      omega
    · exact z
  refine ⟨lessD D' a, as'.take j, ⟨⟨_, pre⟩, fun b d => ⟨n.mono b d, fun z => k.nd na (z ▸ d)⟩, fun b z => n.new b z.1, fun i b z => n.fresh i b (at' z).2, n.hid, n.rd, n.sol⟩, ⟨?_, fun b z => k'.dn b z.1, fun i b z => ⟨k'.inD i b (at' z).2, fun w => ?_⟩, fun i i' b z y => k'.inj i i' b (at' z).2 (at' y).2, fun i b z => ?_⟩, ?_⟩
  · rw [List.length_take, List.length_take, k'.len]
  · have := k'.inj i j b (at' z).2 (w ▸ e)
    have := (at' z).1
    omega
  · obtain ⟨d, r, x⟩ := k'.ok i b (at' z).2
    exact ⟨d, by rw [List.getElem?_take_of_lt (at' z).1]; exact r, x.sd s rfl⟩
  · obtain ⟨c', q', x⟩ := k'.ok j a e
    rw [q] at q'
    cases q'
    cases c with
    | lst ps =>
      cases hp
      obtain ⟨xs, h, r⟩ := x
      exact .lst (fun z => z.2 rfl) (.inl h) (Reps.sd s r)
    | dct ps =>
      cases hp
      obtain ⟨xs, h, r⟩ := x
      exact .dct (fun z => z.2 rfl) (.inl h) (RepK.sd s r)
    | ins C ps =>
      cases hp
      obtain ⟨dx, xs, h, r⟩ := x
      exact .ins (fun z => z.2 rfl) h (RepS.sd s r)
    | dead => cases hp
theorem ad_frzL {Wx : WX} {te : TE} {F : EF} (h : Ad Wx te F) : Ad Wx te (fFrz F) := fun D as γ μ σ H Q k ev g => by
  refine h D as γ μ σ H Q k ev ?_
  unfold fFrz at g
  cases o : F γ μ with
  | bad => rw [o] at g; exact g
  | exc C fs m => rw [o] at g; exact g
  | ok w m =>
    rw [o] at g
    simp only [O.bind_ok] at g
    cases w with
    | v p => exact g
    | loc j =>
      intro x D' as' H' n k' r
      simp only at g
      split at g
      · rename_i hc
        split at g
        · rename_i p hp
          obtain ⟨c, q, ep⟩ := Option.bind_eq_some_iff.mp hp
          obtain ⟨a, e, rfl⟩ := r
          obtain ⟨D2, as2, n2, k2, r2⟩ := frz_last k k' n hc.1 hc.2 e q ep
          exact g (.ref a) D2 as2 H' n2 k2 r2
        · exact g.elim
      · exact g.elim
theorem pp_frz {X : Cx} {Wx : WX} {e : Expr} {F : EF} (h : PP X Wx e F) : PP X Wx e (fFrz F) := let ⟨_, p, ad⟩ := h; ⟨_, p, ad_frzL ad⟩
end
/-! ### attributes -/
def fFld (C : Addr) (f : Str) (F : EF) : EF := fun γ μ => (F γ μ).bind fun w m => match rdI m w with
  | some (C', ps) => if C' = C then match ps.lookup f with
      | some p => .ok (.v p) m
      | none => .bad
    else .bad
  | none => .bad
def putFP (f : Str) (p : P) : List (Str × P) → List (Str × P)
  | [] => [(f, p)]
  | (g, x) :: r => if g = f then (g, p) :: r else (g, x) :: putFP f p r
theorem RepS.put {D H} {f : Str} {v : V} {p : P} (r : Rep D H v p) : ∀ {vs ps}, RepS D H vs ps → RepS D H (putF f v vs) (putFP f p ps)
  | _, _, .nil => .cons r .nil
  | _, _, @RepS.cons _ _ g x q l m r' t => by
    unfold putF putFP
    by_cases c : g = f
    · simp only [c, if_true]
      exact .cons r t
    · simp only [c, if_false]
      exact .cons r' (RepS.put r t)
def sFldP (C : Addr) (f : Str) (Fo Fv : EF) : SF := fun γ μ => (Fv γ μ).s γ fun wv m => (Fo γ m).s γ fun wo m => match wI m wo with
  | some (j, C', ps) => match wv with
    | .v p => if C' = C ∧ ps.length < 900 then .nx γ (m.set j (.ins C' (putFP f p ps))) else .bad
    | .loc _ => .bad
  | none => .bad
section
variable {X : Cx} {Wx : WX} {o e value : Expr} {es : List Expr} {F F1 F2 : EF} {A : AF} {f : Str} {pos pos' apos : Pos} {C : Addr} {k : Nat}
theorem ad_fld {K : PySem.W.Frag} {ta : TE} (c : Cls K C) (na : NoAttr K C f) (h : Ad Wx ta F) : Ad Wx (tFld K ta f) (fFld C f F) := fun D as γ μ σ H Q k ev g => by
  refine h D as γ μ σ H _ k ev ((G.bind RepW k g).mono fun x H1 ⟨D1, as1, μ1, w, n1, k1, r1, g1⟩ => ?_)
  split at g1
  · rename_i C' ps e
    split at g1
    · rename_i hC
      subst hC
      split at g1
      · rename_i p hp
        obtain ⟨a, dx, xs, rfl, ha, rs⟩ := rdI_ok k1 r1 e
        obtain ⟨v, hv, rv⟩ := rs.lookup hp
        exact ⟨a, C', dx, xs, v, rfl, ha, c, na, hv, nowV k1 g1 rv⟩
      · exact g1.elim
    · exact g1.elim
  · exact g1.elim
theorem pp_fld (c : Cls X.K C) (na : NoAttr X.K C f) (h : PP X Wx e F) (hb : attributeBase e f X.env (eval e X.env) = eval e X.env := by rfl) : PP X Wx (.Attribute e f pos) (fFld C f F) := let ⟨_, p, ad⟩ := h; ⟨_, pe_fld p hb, ad_fld c na ad⟩
theorem ad_sfld {K : PySem.W.Frag} {ta tv : TE} (c : Cls K C) (na : NoAttr K C f) (ho : Ad Wx ta F1) (hv : Ad Wx tv F2) : AdS Wx (sFld K ta tv f) (sFldP C f F1 F2) := fun D as γ μ σ H E k ev g => by
  refine hv D as γ μ σ H _ k ev ((GS.of_s (R := RepW) k ev g).mono fun v H1 ⟨D1, as1, μ1, wv, n1, k1, ev1, r1, g1⟩ => ?_)
  refine ho D1 as1 γ μ1 σ H1 _ k1 ev1 ((GS.of_s (R := RepW) k1 ev1 g1).mono fun x H2 ⟨D2, as2, μ2, wo, n2, k2, ev2, r2, g2⟩ => ?_)
  split at g2
  · rename_i j C' ps e
    cases wv with
    | loc i => exact g2.elim
    | v p =>
      simp only at g2
      split at g2
      · rename_i hc
        obtain ⟨rfl, hl⟩ := hc
        obtain ⟨a, dx, xs, rfl, ea, ha, rs⟩ := wI_ok k2 r2 e
        refine ⟨a, C', dx, xs, rfl, ha, c, na, by rw [rs.length]; omega, ?_⟩
        have rp : Rep D2 H2 v p := r1.nx n2
        obtain ⟨n', k'⟩ := cell_set (o := .ins C' dx (putF f v xs)) (u := .lst []) (c := .ins C' (putFP f p ps)) k2 ea fun D' H' s e' => ⟨_, _, e', (RepS.sd s rs).put (Rep.sd s rp)⟩
        exact g2 σ D2 as2 _ n' k' (ev2.nx n') rfl
      · exact g2.elim
  · exact g2.elim
theorem ppq_fld (c : Cls X.K C) (na : NoAttr X.K C f) (ho : PP X Wx o F1) (hv : PP X Wx value F2) (hs : swapsWith value (some (.Attribute o f pos')) pos.line X.env = pure false := by rfl) : PPS X Wx (.Assign [.Attribute o f pos'] value pos) (sFldP C f F1 F2) :=
  let ⟨_, p, ad⟩ := ho; let ⟨_, p2, ad2⟩ := hv; ⟨_, ps_fld p p2 hs, ad_sfld c na ad ad2⟩
/-! ### methods -/
def tMethX' (C : Addr) (m : Str) (sp : Sp) (W : WX) (ta : TE) (t : TA) : TE := fun σ H Q => ta σ H fun x H1 => ∃ a dx fs, x = .ref a ∧ H1 a = some (.ins C dx fs) ∧ fs.lookup m = none ∧ t σ H1 fun vs H2 => sp (.ref a :: vs) H2 Q (WE W σ)
theorem pe_methX' {m : Str} {g : Addr} {fd : FuncData} {ps : List Str} {sp : Sp} {ta : TE} {t : TA} {pl : Sem Bool} (tk : Takes X Wx) (he : PE X o ta) (c : Cls X.K C) (hm : Meth X.K C m g) (F : FnX X.prog X.w X.K X.mg X.base k g fd ps sp) (hG : X.A.guards = some []) (hr : Room k X.A) (hb : Binds X.K fd ps []) (ha : PA X (e :: es) t)
    (hst : starEach (e :: es) X.env = (false, eval e X.env) :: starEach es X.env := by rfl) (hpl : (backTo pos (starEach es X.env)).any (·.1) = false := by rfl)
    (ht : eval (.Call (.Attribute o m apos) (e :: es) [] pos) X.env = (do
      let ov ← eval o X.env
      standAt apos.atName
      let (f, first) ← holding [ov] (getMethod ov m pl)
      callWith pos f first (backTo pos (starEach (e :: es) X.env)) (backToKw pos (keywordEach [] X.env))) := by rfl) :
    PE X (.Call (.Attribute o m apos) (e :: es) [] pos) (tMethX' C m sp Wx ta t) := by
  refine ⟨fun pins s σ H Q I h => ?_⟩
  refine PySem.W.methodCall_KW (pl := pl) (thn (he.run pins s σ H _ I h) fun u s1 ⟨x, H1, I1, rx, a, dx, fs, ex, ea, l, q⟩ => ?_) ht
  subst ex
  obtain rfl : u = Value.ref a := rx
  refine getmeth_ok I1 ea c hm l ?_
  refine PySem.W.callWith_K (first := [.ref a]) (h₀ := X.base) I.ok.mod.kin hm.kp (thn (ha.run pos pins s1 σ H1 _ I1 q) fun us s2 ⟨vs, H2, I2, r, q2⟩ => ⟨I2.kIn, ?_⟩) hst hpl
  exact run_atX (vs := .ref a :: vs) F rfl hG hr hb tk I2 (.cons rfl r) q2
theorem pe_meth0X {m : Str} {g : Addr} {fd : FuncData} {ps : List Str} {sp : Sp} {ta : TE} {pl : Sem Bool} (tk : Takes X Wx) (he : PE X o ta) (c : Cls X.K C) (hm : Meth X.K C m g) (F : FnX X.prog X.w X.K X.mg X.base k g fd ps sp) (hG : X.A.guards = some []) (hr : Room k X.A) (hb : Binds X.K fd ps [])
    (ht : eval (.Call (.Attribute o m apos) [] [] pos) X.env = (do
      let ov ← eval o X.env
      standAt apos.atName
      let (f, first) ← holding [ov] (getMethod ov m pl)
      callWith pos f first (backTo pos (starEach [] X.env)) (backToKw pos (keywordEach [] X.env))) := by rfl) :
    PE X (.Call (.Attribute o m apos) [] [] pos) (tMethX' C m sp Wx ta tNil) := by
  refine ⟨fun pins s σ H Q I h => ?_⟩
  refine PySem.W.methodCall_KW (pl := pl) (thn (he.run pins s σ H _ I h) fun u s1 ⟨x, H1, I1, rx, a, dx, fs, ex, ea, l, q⟩ => ?_) ht
  subst ex
  obtain rfl : u = Value.ref a := rx
  refine getmeth_ok I1 ea c hm l ?_
  exact PySem.W.callWith_K0 (first := [.ref a]) I1.kIn hm.kp (run_atX (vs := [.ref a]) F rfl hG hr hb tk I1 (.cons rfl .nil) q)
/-- a method of the class C, with a pure promise -/
structure DM (P : Program) (w : World) (K : PySem.W.Frag) (mg : Str → Option Value) (base : Heap) (C : Addr) (m : Str) (n : Nat) (k : Nat) (F : FF) : Prop where
  ex : ∃ (f : Addr) (fd : FuncData) (ps : List Str), ps.length = n ∧ FnX P w K mg base k f fd ps (spP n F) ∧ Meth K C m f ∧ Binds K fd ps []
def fMeth (C : Addr) (m : Str) (F : FF) (Fo : EF) (A : AF) : EF := fun γ μ => (Fo γ μ).bind fun w m1 => match rdI m1 w with
  | some (C', ps) => if C' = C ∧ ps.lookup m = none then (A γ m1).bind fun ws m2 => F (w :: ws) m2 else .bad
  | none => .bad
theorem ad_methX {m : Str} {n : Nat} {FF' : FF} {ta : TE} {t : TA} (h : Ad Wx ta F) (ha : AdA Wx t A) (hn : ∀ ws μ, ws.length ≠ n → FF' ws μ = .bad) : Ad Wx (tMethX' C m (spP n FF') Wx ta t) (fMeth C m FF' F A) := fun D as γ μ σ H Q k ev g => by
  refine h D as γ μ σ H _ k ev ((G.bind RepW k g).mono fun x H1 ⟨D1, as1, μ1, w, n1, k1, r1, g1⟩ => ?_)
  split at g1
  · rename_i C' ps e
    split at g1
    · rename_i hc
      obtain ⟨rfl, hl⟩ := hc
      obtain ⟨a, dx, xs, rfl, hx, rs⟩ := rdI_ok k1 r1 e
      refine ⟨a, dx, xs, rfl, hx, rs.lookup_none hl, ha D1 as1 γ μ1 σ H1 _ k1 (ev.nx n1) ((G.bind RepWs k1 g1).mono fun vs H2 ⟨D2, as2, μ2, ws, n2, k2, r2, g2⟩ => ?_)⟩
      refine ⟨?_, D2, as2, w :: ws, μ2, k2, .cons (r1.nx n2) r2, ?_⟩
      · by_cases c : (w :: ws).length = n
        · rw [List.length_cons, r2.length]; exact c
        · rw [hn (w :: ws) μ2 c] at g2
          exact g2.elim
      · cases o : FF' (w :: ws) μ2 with
        | ok w' m' => rw [o] at g2; exact g2
        | exc C fs m' => rw [o] at g2; exact g2
        | bad => rw [o] at g2; exact g2
    · exact g1.elim
  · exact g1.elim
theorem pp_meth {m : Str} {n : Nat} {FF' : FF} {pl : Sem Bool} (d : DM X.prog X.w X.K X.mg X.base C m n k FF') (c : Cls X.K C) (hG : X.A.guards = some []) (hr : Room k X.A) (tk : Takes X Wx) (ho : PP X Wx o F) (ha : PPA X Wx (e :: es) A) (hn : ∀ ws μ, ws.length ≠ n → FF' ws μ = .bad := by exact fDef_len)
    (hst : starEach (e :: es) X.env = (false, eval e X.env) :: starEach es X.env := by rfl) (hpl : (backTo pos (starEach es X.env)).any (·.1) = false := by rfl)
    (ht : eval (.Call (.Attribute o m apos) (e :: es) [] pos) X.env = (do
      let ov ← eval o X.env
      standAt apos.atName
      let (f, first) ← holding [ov] (getMethod ov m pl)
      callWith pos f first (backTo pos (starEach (e :: es) X.env)) (backToKw pos (keywordEach [] X.env))) := by rfl) :
    PP X Wx (.Call (.Attribute o m apos) (e :: es) [] pos) (fMeth C m FF' F A) := by
  obtain ⟨f, fd, ps, hl, FX, hm, hb⟩ := d.ex
  obtain ⟨_, po, ao⟩ := ho
  obtain ⟨_, pa, aa⟩ := ha
  exact ⟨_, pe_methX' tk po c hm FX hG hr hb pa hst hpl ht, ad_methX ao aa hn⟩
theorem pp_meth0 {m : Str} {n : Nat} {FF' : FF} {pl : Sem Bool} (d : DM X.prog X.w X.K X.mg X.base C m n k FF') (c : Cls X.K C) (hG : X.A.guards = some []) (hr : Room k X.A) (tk : Takes X Wx) (ho : PP X Wx o F) (hn : ∀ ws μ, ws.length ≠ n → FF' ws μ = .bad := by exact fDef_len)
    (ht : eval (.Call (.Attribute o m apos) [] [] pos) X.env = (do
      let ov ← eval o X.env
      standAt apos.atName
      let (f, first) ← holding [ov] (getMethod ov m pl)
      callWith pos f first (backTo pos (starEach [] X.env)) (backToKw pos (keywordEach [] X.env))) := by rfl) :
    PP X Wx (.Call (.Attribute o m apos) [] [] pos) (fMeth C m FF' F fNil) := by
  obtain ⟨f, fd, ps, hl, FX, hm, hb⟩ := d.ex
  obtain ⟨_, po, ao⟩ := ho
  exact ⟨_, pe_meth0X tk po c hm FX hG hr hb ht, ad_methX ao (fun D as γ μ σ H Q k ev g => g.now (R := RepWs) k .nil) hn⟩
/-! ### properties (no error comes out) -/
theorem getpropG {pins : List (Addr × Obj)} {σ : L2.St} {H : Hp} {s : Shared} {Q : VK} {b : Bool} {E' : Value → Shared → Prop} {a dx p g : Addr} {fs : List (Str × V)} {fd : FuncData} {ps : List Str} {sp : Sp} (I : Inv X pins σ H s) (ea : H a = some (.ins C dx fs)) (c : Cls X.K C) (hp : PropOf X.K C f p g)
    (F : FnG X.prog X.w X.K X.mg X.base k g fd ps sp) (hG : X.A.guards = some []) (hr : Room (k + 1) X.A) (hb : Binds X.K fd ps []) (h : sp [.ref a] H Q L2.E0) :
    wpAny (model X.prog X.w) X.A (getAttr (.ref a) f b) (EP X pins σ Q) E' s := by
  obtain ⟨mA, O, _, _, _, _⟩ := ins_get I.hok ea
  obtain ⟨od, J, _⟩ := O.look
  obtain ⟨rest, hrec⟩ := hp.rec_
  have I1 := I.tok (s.toks + 1)
  have hl : ([Value.ref a] ++ []).length = ps.length := by
    rw [← F.few h]
    rfl
  have hc : (PySem.W.clsIn X.K C).isSome = true := by
    obtain ⟨cd, hc, _⟩ := PySem.W.any_some c.hd
    rw [hc]
    rfl
  refine PySem.W.get_bind I.kIn J (PySem.W.plainGet_of (c.get f)).1 (PySem.W.findObj_data hc hp.at_ hp.get hp.tak) (PySem.W.plainGet_of (c.get f)).2 (wpAny_call (PySem.W.prop_get (s := { s with toks := s.toks + 1 }) I.kIn hrec ?_))
  refine codeAny_mono (F.goes (A := X.A.in1) (fr := X.stack) (s := { s with toks := s.toks + 1 }) (H := H) (ar := ⟨[.ref a], []⟩) (us := [.ref a]) (vs := [.ref a]) (Q := Q) (E := L2.E0) hG hr.in1 I1.env0.in1 (by
    have := hb _ [.ref a] I1.kIn hl
    simpa using this) (.cons rfl .nil) h) fun r s' hq => ?_
  cases r with
  | error er => exact False.elim hq
  | ok fl =>
    cases fl with
    | ret u =>
      obtain ⟨v, H', I3, rv, q3⟩ := I1.after hq
      show wpAny _ _ (handedOut u) _ _ _
      rw [PySem.W.handedOut_of (handed_of rv)]
      exact wpAny_pure ⟨v, H', I3, rv, q3⟩
    | next => exact False.elim hq
    | brk => exact False.elim hq
    | cont => exact False.elim hq
structure DPr (P : Program) (w : World) (K : PySem.W.Frag) (mg : Str → Option Value) (base : Heap) (C : Addr) (m : Str) (k : Nat) (F : FF) : Prop where
  ex : ∃ (p f : Addr) (fd : FuncData) (ps : List Str), FnX P w K mg base k f fd ps (spP 1 F) ∧ PropOf K C m p f ∧ Binds K fd ps []
def fProp (C : Addr) (F : FF) (Fo : EF) : EF := fun γ μ => (Fo γ μ).bind fun w m1 => match rdI m1 w with
  | some (C', _) => if C' = C then (F [w] m1).nx else .bad
  | none => .bad
theorem G_nx {α β : Type} {R : RL β α} {Wx W' : WX} {σ σ' : L2.St} {D : Addr → Prop} {as : Ps} {H : Hp} {o : O α} {Q : β → Hp → Prop} (g : G Wx σ R D as H o.nx Q) : G W' σ' R D as H o Q := by
  cases o with
  | ok a m => exact g
  | exc C fs m => exact g.elim
  | bad => exact g
theorem pp_prop {FF' : FF} (d : DPr X.prog X.w X.K X.mg X.base C f k FF') (c : Cls X.K C) (hG : X.A.guards = some []) (hr : Room (k + 1) X.A) (ho : PP X Wx o F) (hab : attributeBase o f X.env (eval o X.env) = eval o X.env := by rfl) : PP X Wx (.Attribute o f pos) (fProp C FF' F) := by
  obtain ⟨p, g, fd, ps, FX, hp, hb⟩ := d.ex
  obtain ⟨te, po, ao⟩ := ho
  refine ⟨fun σ H Q => te σ H fun x H1 => ∃ a dx fs, x = .ref a ∧ H1 a = some (.ins C dx fs) ∧ noE (spP 1 FF') [.ref a] H1 Q L2.E0, ⟨fun pins s σ H Q I h => ?_⟩, fun D as γ μ σ H Q k ev g => ?_⟩
  · refine attr_of hab (thn (po.run pins s σ H _ I h) fun u s1 ⟨x, H1, I1, rx, a, dx, fs, ex, ea, q⟩ => ?_)
    subst ex
    obtain rfl : u = Value.ref a := rx
    exact getpropG I1 ea c hp FX.g hG hr hb q
  · refine ao D as γ μ σ H _ k ev ((G.bind RepW k g).mono fun x H1 ⟨D1, as1, μ1, w, n1, k1, r1, g1⟩ => ?_)
    split at g1
    · rename_i C' ps e
      split at g1
      · rename_i hc
        subst hc
        obtain ⟨a, dx, xs, rfl, hx, rs⟩ := rdI_ok k1 r1 e
        exact ⟨a, dx, xs, rfl, hx, rfl, D1, as1, [w], μ1, k1, .cons r1 .nil, G_nx g1⟩
      · exact g1.elim
    · exact g1.elim
end
end Pu

set_option Elab.async false
set_option linter.all false
set_option maxRecDepth 100000
set_option maxHeartbeats 4000000
namespace Pu
open L2 PySem PySem.Spec PyProof.Rows E10
/-! ### C(..) -/
theorem make_guards {A : Around} {C : Addr} {us : List Value} {kw : List (Str × Value)} (h : A.guards = some []) : (A.under (.builtin "type.__call__" ⟨.ref C :: us, kw⟩)).guards = some [] := by
  show pushGuards (Code.guards (.builtin "type.__call__" ⟨.ref C :: us, kw⟩)) A.guards = some []
  rw [h]
  have : Code.guards (.builtin "type.__call__" ⟨.ref C :: us, kw⟩) = [] := by
    unfold Code.guards
    rw [if_neg]
    simp [Code.isGuard, guardIds]
  rw [this]
  rfl
section
variable {X : Cx} {Wx : WX} {o e value : Expr} {es : List Expr} {F F1 F2 : EF} {A : AF} {f : Str} {p pos pos' apos : Pos} {C : Addr} {k : Nat}
theorem run_makeX {pins : List (Addr × Obj)} {σ : L2.St} {H : Hp} {s : Shared} {Q : VK} {us : List Value} {vs : List V} {g : Addr} {fd : FuncData} {ps : List Str} {sp : Sp} (M : Mk X.K C g) (F : FnX X.prog X.w X.K X.mg X.base k g fd ps sp) (hG : X.A.guards = some []) (hr : Room (k + 1) X.A) (hb : Binds X.K fd ps [])
    (tk : Takes X Wx) (I : Inv X pins σ H s) (r : Vals vs us)
    (h : ∀ x dx, H x = none → H dx = none → dx ≠ x → sp (.ref x :: vs) (upd (upd H dx (.own x)) x (.ins C dx [])) (fun v H2 => v = .non ∧ Q (.ref x) H2) (WE Wx σ)) :
    wpAny (model X.prog X.w) X.A (call (.ref C) us) (EP X pins σ Q) X.xe s := by
  have hq := h (s.heap.objs.size + 1) s.heap.objs.size (I.hok.fresh (Nat.le_succ _)) (I.hok.fresh (Nat.le_refl _)) (Nat.ne_of_lt (Nat.lt_succ_self _))
  have I2 := Inv.made (C := C) I
  have r2 : Vals (V.ref (s.heap.objs.size + 1) :: vs) (Value.ref (s.heap.objs.size + 1) :: us) := .cons rfl r
  have hl : ((Value.ref (s.heap.objs.size + 1) :: us) ++ []).length = ps.length := by
    have e := r2.length
    rw [F.few hq] at e
    rw [List.append_nil]
    exact e.symm
  have bb := hb _ (Value.ref (s.heap.objs.size + 1) :: us) I2.kIn hl
  rw [List.append_nil] at bb
  refine wpAny_call (make_map (f := g) I.kIn M.makes M.init (beq_iff_eq.mp M.fn) (codeAny_mono (F.goes (fr := X.stack) (ar := ⟨Value.ref (s.heap.objs.size + 1) :: us, []⟩) (us := Value.ref (s.heap.objs.size + 1) :: us) (make_guards hG) (hr.make C us [])
    (I2.env0.make C us []) bb r2 hq) fun r s' hq' => ?_))
  cases r with
  | error e => exact passAt tk σ pins _ _ e s' I2 hq'
  | ok fl =>
    cases fl with
    | ret u =>
      obtain ⟨v, H', I3, rv, ev, q3⟩ := I2.after hq'
      subst ev
      exact ⟨rv, ⟨V.ref (s.heap.objs.size + 1), H', I3, rfl, q3⟩⟩
    | next => exact False.elim hq'
    | brk => exact False.elim hq'
    | cont => exact False.elim hq'
def tMakeX (C : Addr) (sp : Sp) (W : WX) (t : TA) : TE := fun σ H Q => t σ H fun vs H1 => ∀ x dx, H1 x = none → H1 dx = none → dx ≠ x → sp (.ref x :: vs) (upd (upd H1 dx (.own x)) x (.ins C dx [])) (fun v H2 => v = .non ∧ Q (.ref x) H2) (WE W σ)
theorem pe_makeX {x : Str} {g : Addr} {fd : FuncData} {ps : List Str} {sp : Sp} {t : TA} (M : Mk X.K C g) (F : FnX X.prog X.w X.K X.mg X.base k g fd ps sp) (hG : X.A.guards = some []) (hr : Room (k + 1) X.A) (hb : Binds X.K fd ps []) (tk : Takes X Wx) (hg : Gl X x) (hm : X.mg x = some (.ref C))
    (ha : PA X (e :: es) t) (hdb : (x == ("__debug__" : Str)) = false := by decide) (he : starEach (e :: es) X.env = (false, eval e X.env) :: starEach es X.env := by rfl) (hpl : (backTo pos (starEach es X.env)).any (·.1) = false := by rfl) :
    PE X (.Call (.Name x p) (e :: es) [] pos) (tMakeX C sp Wx t) := by
  refine ⟨fun pins s σ H Q I h => ?_⟩
  refine wpAny_Call_Name_kw (ld_glob I hg hm ?_ hdb)
  refine PySem.W.callWith_K (h₀ := X.base) I.ok.mod.kin M.kp (thn (ha.run pos pins s σ H _ I h) fun us s1 ⟨vs, H1, I1, r, q⟩ => ⟨I1.kIn, ?_⟩) he hpl
  exact run_makeX M F hG hr hb tk I1 r q
/-- a class whose __init__ has a pure promise -/
structure DC (P : Program) (w : World) (K : PySem.W.Frag) (mg : Str → Option Value) (base : Heap) (x : Str) (C : Addr) (n : Nat) (k : Nat) (F : FF) : Prop where
  ex : ∃ (f : Addr) (fd : FuncData) (ps : List Str), ps.length = n ∧ FnX P w K mg base k f fd ps (spP n F) ∧ Mk K C f ∧ Binds K fd ps []
  g : mg x = some (.ref C)
def fMake (C : Addr) (F : FF) (A : AF) : EF := fun γ μ => (A γ μ).bind fun ws m => (F (.loc m.length :: ws) (m ++ [.ins C []])).bind fun w m' => match w with
  | .v .non => .ok (.loc m.length) m'
  | _ => .bad
theorem ad_make {n : Nat} {FF' : FF} {t : TA} (ha : AdA Wx t A) (hn : ∀ ws μ, ws.length ≠ n → FF' ws μ = .bad) : Ad Wx (tMakeX C (spP n FF') Wx t) (fMake C FF' A) := fun D as γ μ σ H Q k ev g => by
  refine ha D as γ μ σ H _ k ev ((G.bind RepWs k g).mono fun vs H1 ⟨D1, as1, μ1, ws, n1, k1, r1, g1⟩ => ?_)
  intro x dx nx ndx ne
  have nx2 : upd H1 dx (.own x) x = none := (upd_ne (Ne.symm ne)).trans nx
  have s1 := new_same' (o := .own x) ndx
  have k2 := k1.same s1
  obtain ⟨n3, k3⟩ := cell_new (o := .ins C dx []) (c := .ins C []) k2 nx2 ⟨dx, [], upd_same, .nil⟩
  have n13 : Nx D1 as1 H1 _ _ _ := (Nx.of_same s1).trans k1 k2 n3
  have e1 : (as1 ++ [some x])[μ1.length]? = some (some x) := by
    rw [← k1.len]
    exact last_get
  refine ⟨?_, _, _, .loc μ1.length :: ws, μ1 ++ [.ins C []], k3, .cons ⟨x, e1, rfl⟩ (r1.nx n13), ?_⟩
  · by_cases c : (W.loc μ1.length :: ws).length = n
    · rw [← c, List.length_cons, List.length_cons, r1.length]
    · rw [hn _ (μ1 ++ [PC.ins C []]) c] at g1
      exact g1.elim
  · have g2 := G.nx k1 k3 n13 g1
    have := G.bind RepW k3 g2
    cases o : FF' (W.loc μ1.length :: ws) (μ1 ++ [PC.ins C []]) with
    | bad => rw [o] at g2; exact g2
    | exc C' fs m' => rw [o] at g2; exact g2
    | ok w m' =>
      rw [o] at g2
      intro v D' as' H' n' k' rv
      cases w with
      | loc j => exact g2.elim
      | v q =>
        cases q with
        | non =>
          obtain rfl := rep_non rv
          exact ⟨rfl, g2 (.ref x) D' as' H' n' k' ⟨x, n'.at e1, rfl⟩⟩
        | _ => exact g2.elim
theorem pp_make {x : Str} {n : Nat} {FF' : FF} (d : DC X.prog X.w X.K X.mg X.base x C n k FF') (hG : X.A.guards = some []) (hr : Room (k + 1) X.A) (tk : Takes X Wx) (hg : Gl X x) (ha : PPA X Wx (e :: es) A) (hn : ∀ ws μ, ws.length ≠ n → FF' ws μ = .bad := by exact fDef_len)
    (hdb : (x == ("__debug__" : Str)) = false := by decide) (he : starEach (e :: es) X.env = (false, eval e X.env) :: starEach es X.env := by rfl) (hpl : (backTo pos (starEach es X.env)).any (·.1) = false := by rfl) :
    PP X Wx (.Call (.Name x p) (e :: es) [] pos) (fFrz (fMake C FF' A)) := by
  obtain ⟨f, fd, ps, hl, FX, M, hb⟩ := d.ex
  obtain ⟨_, pa, aa⟩ := ha
  exact ⟨_, pe_makeX M FX hG hr hb tk hg d.g pa hdb he hpl, ad_frzL (ad_make aa hn)⟩
/-- .. one that changes -/
theorem pp_makeC {x : Str} {n : Nat} {FF' : FF} (d : DC X.prog X.w X.K X.mg X.base x C n k FF') (hG : X.A.guards = some []) (hr : Room (k + 1) X.A) (tk : Takes X Wx) (hg : Gl X x) (ha : PPA X Wx (e :: es) A) (hn : ∀ ws μ, ws.length ≠ n → FF' ws μ = .bad := by exact fDef_len)
    (hdb : (x == ("__debug__" : Str)) = false := by decide) (he : starEach (e :: es) X.env = (false, eval e X.env) :: starEach es X.env := by rfl) (hpl : (backTo pos (starEach es X.env)).any (·.1) = false := by rfl) :
    PP X Wx (.Call (.Name x p) (e :: es) [] pos) (fMake C FF' A) := by
  obtain ⟨f, fd, ps, hl, FX, M, hb⟩ := d.ex
  obtain ⟨_, pa, aa⟩ := ha
  exact ⟨_, pe_makeX M FX hG hr hb tk hg d.g pa hdb he hpl, ad_make aa hn⟩
end
/-! ### isinstance -/
/-- the class of a value: tb tells of an own class that it is looked at -/
def tyP (cs : List Addr) (μ : Μ) : W → Option Value
  | .v .non => some (.type "NoneType")
  | .v (.bl _) => some (.type "bool")
  | .v (.int _) => some (.type "int")
  | .v (.str _) => some (.type "str")
  | .v (.tup _) => some (.type "tuple")
  | .v (.lst _) => some (.type "list")
  | .v (.dct _) => some (.type "dict")
  | .v (.ins C _) => if C ∈ cs then some (.ref C) else none
  | .loc j => match μ[j]? with
    | some (.lst _) => some (.type "list")
    | some (.dct _) => some (.type "dict")
    | some (.ins C _) => if C ∈ cs then some (.ref C) else none
    | _ => none
  | _ => none
/-- what isinstance needs of an own class -/
structure InsK (K : PySem.W.Frag) (C : Addr) : Prop where
  cls : Cls K C
  ha : PySem.W.findIn K (.ref C) "__class__" = some (some (.builtin "object.__class__"))
  hn : PySem.W.specialIn K (.builtin "object.__class__") "__get__" = some (some (.builtin "getset_descriptor.__get__"))
  htk : PySem.W.takesIn K (.builtin "object.__class__") = some true
  hm : PySem.W.mroIn K C (.type "object") = some true
theorem tyP_ok {K : PySem.W.Frag} {D as H} {μ : Μ} {v : V} {w : W} {t : Value} {cs : List Addr} (hc : ∀ C ∈ cs, InsK K C) (k : Sk D as H μ) (r : RepW D as H v w) (h : tyP cs μ w = some t) : TyX K H v t := by
  have own : ∀ {a C dx fs}, C ∈ cs → H a = some (.ins C dx fs) → TyX K H (.ref a) (.ref C) := fun {a C dx fs} m e => let z := hc C m; .base (.ins e z.cls z.ha z.hn z.htk z.hm)
  unfold tyP at h
  split at h
  · cases h; obtain rfl := rep_non r; exact .base .non
  · cases h; obtain rfl := rep_bl r; exact .base (.bl _)
  · cases h; obtain rfl := rep_int r; exact .base (.int _)
  · cases h; obtain rfl := rep_str r; exact .base (.str _)
  · cases h
    obtain ⟨a, xs, rfl, _, hr, _⟩ := rep_tup r
    rcases hr with hr | ⟨o, hr⟩
    · exact .base (.tup hr)
    · exact .fTuple hr
  · cases h
    obtain ⟨a, xs, rfl, _, hr, _⟩ := rep_lst r
    rcases hr with hr | ⟨o, hr⟩
    · exact .base (.lst hr)
    · exact .base (.frz hr)
  · cases h
    obtain ⟨a, xs, rfl, _, hr, _⟩ := rep_dct r
    rcases hr with hr | ⟨o, hr⟩
    · exact .base (.dK hr)
    · exact .fDict hr
  · split at h
    · rename_i m
      cases h
      cases r with
      | ins _ e _ => exact own m e
    · cases h
  · obtain ⟨a, e, rfl⟩ := r
    obtain ⟨c, q, x⟩ := k.ok _ a e
    rw [q] at h
    cases c with
    | lst ps => cases h; obtain ⟨xs, e', _⟩ := x; exact .base (.lst e')
    | dct ps => cases h; obtain ⟨xs, e', _⟩ := x; exact .base (.dK e')
    | ins C ps =>
      simp only at h
      split at h
      · rename_i m
        cases h
        obtain ⟨dx, xs, e', _⟩ := x
        exact own m e'
      · cases h
    | dead => exact x.elim
  · cases h
/-- a class that is asked for -/
def clsP : W → Option Value
  | .v (.ty n) => some (.type n)
  | .v (.ref C) => some (.ref C)
  | _ => none
/-- the answers that are known -/
def kitP (cs : List Addr) (t u : Value) : Option Bool := match t, u with
  | .type a, .type b => kitB a b
  | .type a, .ref C => if C ∈ cs ∧ a ∈ ["NoneType", "bool", "int", "str", "tuple", "list", "dict"] then some false else none
  | .ref C, .ref C' => if C ∈ cs ∧ C' ∈ cs then some (decide (C = C')) else none
  | .ref C, .type b => if C ∈ cs ∧ b ∈ ["int", "str", "bool", "list", "tuple", "dict"] then some false else none
  | _, _ => none
/-- own classes of which none is above another -/
structure Own (K : PySem.W.Frag) (cs : List Addr) : Prop where
  ins : ∀ C ∈ cs, InsK K C
  kit : ∀ t u b, kitP cs t u = some b → PySem.W.kitOne K t u = some b
def fIsi (cs : List Addr) : List W → Μ → O W := fun ws μ => match ws with
  | [w, c] => match tyP cs μ w, clsP c with
    | some t, some u => match kitP cs t u with
      | some b => .ok (.v (.bl b)) μ
      | none => .bad
    | _, _ => .bad
  | _ => .bad
theorem ad_isi {Wx : WX} {K : PySem.W.Frag} {cs : List Addr} (hc : Own K cs) : AdC Wx (rIsi K) (fIsi cs) := fun D as μ σ H vs ws Q k r gg => by
  unfold fIsi at gg
  split at gg
  · rename_i w c
    split at gg
    · rename_i t u e1 e2
      split at gg
      · rename_i b e3
        obtain ⟨x, y, rfl, rx, ry⟩ := repWs2 r
        have hu : ClsV y u := by
          unfold clsP at e2
          split at e2
          · cases e2
            cases ry
            exact .ty _
          · cases e2
            cases ry
            exact .own _
          · cases e2
        exact ⟨x, y, t, u, b, rfl, hu, tyP_ok hc.ins k rx e1, hc.kit t u b e3, nowV k gg .bl⟩
      · exact gg.elim
    · exact gg.elim
  · exact gg.elim
end Pu

set_option Elab.async false
set_option linter.all false
set_option maxRecDepth 100000
set_option maxHeartbeats 4000000
namespace Pu
open L2 PySem PySem.Spec PyProof.Rows E10
/-! ### new things -/
section
variable {D : Addr → Prop} {as : Ps} {H : Hp} {μ : Μ} {Wx : WX} {σ : L2.St} {Q : VK}
theorem newL {xs : List V} {ps : List P} (k : Sk D as H μ) (g : G Wx σ RepW D as H (.ok (.v (.lst ps)) μ) Q) (rs : Reps D H xs ps) : ∀ p, H p = none → Q (.ref p) (upd H p (.lst xs)) := fun p np =>
  nowN k (new_same' np) g (.lst (k.nd np) (.inl upd_same) (Reps.sd (.same (new_same' np)) rs))
theorem newT {xs : List V} {ps : List P} (k : Sk D as H μ) (g : G Wx σ RepW D as H (.ok (.v (.tup ps)) μ) Q) (rs : Reps D H xs ps) : ∀ p, H p = none → Q (.ref p) (upd H p (.tup xs)) := fun p np =>
  nowN k (new_same' np) g (.tup (k.nd np) (.inl upd_same) (Reps.sd (.same (new_same' np)) rs))
theorem newD {xs : List (Key × V)} {ps : List (Key × P)} (k : Sk D as H μ) (g : G Wx σ RepW D as H (.ok (.v (.dct ps)) μ) Q) (rs : RepK D H xs ps) : ∀ p, H p = none → Q (.ref p) (upd H p (.dK xs)) := fun p np =>
  nowN k (new_same' np) g (.dct (k.nd np) (.inl upd_same) (RepK.sd (.same (new_same' np)) rs))
theorem newLC {xs : List V} {ps : List P} (k : Sk D as H μ) (g : G Wx σ RepW D as H (.ok (.loc μ.length) (μ ++ [.lst ps])) Q) (rs : Reps D H xs ps) : ∀ p, H p = none → Q (.ref p) (upd H p (.lst xs)) := fun p np => by
  obtain ⟨n2, k2⟩ := cell_new (o := .lst xs) (c := .lst ps) k np ⟨xs, upd_same, Reps.sd (sd_plus np) rs⟩
  exact g _ _ _ _ n2 k2 ⟨p, by rw [← k.len]; exact last_get, rfl⟩
theorem newDC {xs : List (Key × V)} {ps : List (Key × P)} (k : Sk D as H μ) (g : G Wx σ RepW D as H (.ok (.loc μ.length) (μ ++ [.dct ps])) Q) (rs : RepK D H xs ps) : ∀ p, H p = none → Q (.ref p) (upd H p (.dK xs)) := fun p np => by
  obtain ⟨n2, k2⟩ := cell_new (o := .dK xs) (c := .dct ps) k np ⟨xs, upd_same, RepK.sd (sd_plus np) rs⟩
  exact g _ _ _ _ n2 k2 ⟨p, by rw [← k.len]; exact last_get, rfl⟩
end
/-- a value or a place at the end: what a new thing is to be -/
inductive Kind where
  | val | cell
def mkL (c : Kind) (ps : List P) (μ : Μ) : O W := match c with
  | .val => .ok (.v (.lst ps)) μ
  | .cell => .ok (.loc μ.length) (μ ++ [.lst ps])
def mkD (c : Kind) (ps : List (Key × P)) (μ : Μ) : O W := match c with
  | .val => .ok (.v (.dct ps)) μ
  | .cell => .ok (.loc μ.length) (μ ++ [.dct ps])
section
variable {D : Addr → Prop} {as : Ps} {H : Hp} {μ : Μ} {Wx : WX} {σ : L2.St} {Q : VK}
theorem mkL_ok {c : Kind} {xs : List V} {ps : List P} (k : Sk D as H μ) (g : G Wx σ RepW D as H (mkL c ps μ) Q) (rs : Reps D H xs ps) : ∀ p, H p = none → Q (.ref p) (upd H p (.lst xs)) := by
  cases c with
  | val => exact newL k g rs
  | cell => exact newLC k g rs
theorem mkD_ok {c : Kind} {xs : List (Key × V)} {ps : List (Key × P)} (k : Sk D as H μ) (g : G Wx σ RepW D as H (mkD c ps μ) Q) (rs : RepK D H xs ps) : ∀ p, H p = none → Q (.ref p) (upd H p (.dK xs)) := by
  cases c with
  | val => exact newD k g rs
  | cell => exact newDC k g rs
end
section
variable {X : Cx} {Wx : WX} {a b e : Expr} {es : List Expr} {F F1 F2 : EF} {A : AF} {pos : Pos}
theorem pp_dnew (c : Kind) : PP X Wx (.Dict [] [] pos) (fun _ μ => mkD c [] μ) := ⟨_, pe_dnewK, fun D as γ μ σ H Q k ev g => mkD_ok k g .nil⟩
/-- list + list -/
def rCatR : R2 := fun x y H Q => ∃ l b xs zs, x = .ref l ∧ y = .ref b ∧ Rd H l (.lst xs) ∧ Rd H b (.lst zs) ∧ xs.length + zs.length ≤ sizeLine ∧ ∀ p, H p = none → Q (.ref p) (upd H p (.lst (xs ++ zs)))
theorem op_catR : OpR X (binaryOp .Add) rCatR := by
  intro pins s σ H x y v u Q I rx ry h
  obtain ⟨l, b, xs, zs, rfl, rfl, hH, hB, hz, q⟩ := h
  cases rx
  cases ry
  obtain ⟨z, its, n, r, e⟩ := hH.ok I.hok
  obtain ⟨z2, its2, n2, r2, e2⟩ := hB.ok I.hok
  have hl := r.length
  have hl2 := r2.length
  refine PySem.P.add_list e e2 ?_ (by rw [List.size_toArray, List.size_toArray]; omega)
  have ea : its.toArray ++ its2.toArray = (its ++ its2).toArray := by simp
  rw [ea]
  exact ⟨.ref _, _, I.lnew (t' := s.toks) (r.append r2) (by rw [List.length_append]; omega), rfl, q _ I.fresh⟩
def fCat : W → W → Μ → O W := fun x y μ => match rdL μ x, rdL μ y with
  | some ps, some qs => if ps.length + qs.length ≤ 100000 then .ok (.v (.lst (ps ++ qs))) μ else .bad
  | _, _ => .bad
theorem ad_cat : AdR2 Wx rCatR fCat := fun D as μ σ H x y a b Q k ra rb g => by
  unfold fCat at g
  split at g
  · rename_i ps qs e1 e2
    split at g
    · rename_i hl
      obtain ⟨l, xs, rfl, h1, r1⟩ := rdL_ok k ra e1
      obtain ⟨l2, ys, rfl, h2, r2⟩ := rdL_ok k rb e2
      exact ⟨l, l2, xs, ys, rfl, rfl, h1, h2, sz_of (by rw [r1.length, r2.length]; exact hl), newL k g (r1.append r2)⟩
    · exact g.elim
  · exact g.elim
/-- [p] * n: one item -/
def fRep1 : W → W → Μ → O W := fun x y μ => match x, y with
  | .v (.lst [p]), .v (.int n) => if 0 ≤ n ∧ n ≤ 1000 then .ok (.v (.lst (List.replicate n.toNat p))) μ else .bad
  | _, _ => .bad
/-- dict(d) -/
def fDictD (c : Kind) : List W → Μ → O W := fun ws μ => match ws with
  | [w] => match rdD μ w with
    | some ps => mkD c ps μ
    | none => .bad
  | _ => .bad
theorem ad_dictD {c : Kind} : AdC Wx (fun xs H Q => ∃ (a : Addr) (kvs : List (Key × V)), xs = [.ref a] ∧ Rd H a (.dK kvs) ∧ ∀ p, H p = none → Q (.ref p) (upd H p (.dK kvs))) (fDictD c) := fun D as μ σ H vs ws Q k r g => by
  unfold fDictD at g
  split at g
  · split at g
    · rename_i ps e
      obtain ⟨v, rfl, rv⟩ := repWs1 r
      obtain ⟨a, xs, rfl, hs, rs⟩ := rdD_ok k rv e
      exact ⟨a, xs, rfl, hs, mkD_ok k g rs⟩
    · exact g.elim
  · exact g.elim
/-- dict of pairs -/
def pairsP : List P → Option (List (Key × P))
  | [] => some []
  | .tup [a, b] :: r => match keyP a, pairsP r with
    | some k, some l => some ((k, b) :: l)
    | _, _ => none
  | _ => none
def mergeP (acc : List (Key × P)) : List (Key × P) → List (Key × P)
  | [] => acc
  | (k, p) :: r => mergeP (putP acc k p) r
theorem RepK.merge {D H} : ∀ {more : List (Key × V)} {mp : List (Key × P)}, RepK D H more mp → ∀ {acc ap}, RepK D H acc ap → RepK D H (mergeK acc more) (mergeP ap mp)
  | _, _, .nil, _, _, r => r
  | _, _, .cons q t, _, _, r => RepK.merge t (r.put q)
theorem pairs_rep {D : Addr → Prop} {H : Hp} {K : PySem.W.Frag} : ∀ {vs : List V} {ps : List P} {l : List (Key × P)}, Reps D H vs ps → pairsP ps = some l → ∃ (ads : List Addr) (kvs : List (Key × V)), vs = ads.map V.ref ∧ Paired (fun p kv => SqT K H p [kV kv.1, kv.2]) ads kvs ∧ RepK D H kvs l
  | _, _, _, .nil, e => by cases e; exact ⟨[], [], rfl, .nil, .nil⟩
  | _, _, l, @Reps.cons _ _ v (.tup [a, b]) vs ps r t, e => by
    unfold pairsP at e
    split at e
    · rename_i k l' e1 e2
      cases e
      obtain ⟨ads, kvs, rfl, h2, h3⟩ := pairs_rep (K := K) t e2
      obtain ⟨d, xs, rfl, _, hr, rs⟩ := rep_tup r
      cases rs with
      | cons ra rs =>
        cases rs with
        | cons rb rs =>
          cases rs
          rw [keyP_ok ra e1] at hr
          exact ⟨d :: ads, (k, _) :: kvs, rfl, .cons (.inl hr) h2, .cons rb h3⟩
    · cases e
  | _, _, _, @Reps.cons _ _ v (.tup []) vs ps r t, e => by cases e
  | _, _, _, @Reps.cons _ _ v (.tup [_]) vs ps r t, e => by cases e
  | _, _, _, @Reps.cons _ _ v (.tup (_ :: _ :: _ :: _)) vs ps r t, e => by cases e
  | _, _, _, @Reps.cons _ _ v .non vs ps r t, e => by cases e
  | _, _, _, @Reps.cons _ _ v (.bl _) vs ps r t, e => by cases e
  | _, _, _, @Reps.cons _ _ v (.int _) vs ps r t, e => by cases e
  | _, _, _, @Reps.cons _ _ v (.str _) vs ps r t, e => by cases e
  | _, _, _, @Reps.cons _ _ v (.ref _) vs ps r t, e => by cases e
  | _, _, _, @Reps.cons _ _ v (.ty _) vs ps r t, e => by cases e
  | _, _, _, @Reps.cons _ _ v (.lst _) vs ps r t, e => by cases e
  | _, _, _, @Reps.cons _ _ v (.dct _) vs ps r t, e => by cases e
  | _, _, _, @Reps.cons _ _ v (.ins _ _) vs ps r t, e => by cases e
  | _, _, _, @Reps.cons _ _ v (.set _ _) vs ps r t, e => by cases e
def fDictP (c : Kind) : List W → Μ → O W := fun ws μ => match ws with
  | [w] => match (rdL μ w).bind pairsP with
    | some l => mkD c (mergeP [] l) μ
    | none => .bad
  | _ => .bad
theorem ad_dictP {K : PySem.W.Frag} {c : Kind} : AdC Wx (fun xs H Q => ∃ (a : Addr) (ps : List Addr) (kvs : List (Key × V)), xs = [.ref a] ∧ SqL K H a (ps.map V.ref) ∧ Paired (fun p kv => SqT K H p [kV kv.1, kv.2]) ps kvs ∧
    ∀ p, H p = none → Q (.ref p) (upd H p (.dK (mergeK [] kvs)))) (fDictP c) := fun D as μ σ H vs ws Q k r g => by
  unfold fDictP at g
  split at g
  · split at g
    · rename_i l e
      obtain ⟨ps, e1, e2⟩ := Option.bind_eq_some_iff.mp e
      obtain ⟨v, rfl, rv⟩ := repWs1 r
      obtain ⟨a, xs, rfl, hs, rs⟩ := rdL_ok k rv e1
      obtain ⟨ads, kvs, rfl, h2, h3⟩ := pairs_rep (K := K) rs e2
      exact ⟨a, ads, kvs, rfl, .inl hs, h2, mkD_ok k g (RepK.merge h3 .nil)⟩
    · exact g.elim
  · exact g.elim
/-- list(xs), list(t) -/
def fListL (c : Kind) : List W → Μ → O W := fun ws μ => match ws with
  | [w] => match seqP μ w with
    | some ps => mkL c ps μ
    | none => .bad
  | _ => .bad
theorem ad_listL {K : PySem.W.Frag} {c : Kind} : AdC Wx (fun xs H Q => ∃ p ys, xs = [.ref p] ∧ (SqL K H p ys ∨ SqT K H p ys) ∧ ∀ l, H l = none → Q (.ref l) (upd H l (.lst ys))) (fListL c) := fun D as μ σ H vs ws Q k r g => by
  unfold fListL at g
  split at g
  · split at g
    · rename_i ps e
      obtain ⟨v, rfl, rv⟩ := repWs1 r
      obtain ⟨a, xs, rfl, hs, rs⟩ := seqP_ok (K := K) k rv e
      exact ⟨a, xs, rfl, hs, mkL_ok k g rs⟩
    · exact g.elim
  · exact g.elim
/-- tuple(xs), tuple(t) -/
def fTupL : List W → Μ → O W := fun ws μ => match ws with
  | [.v (.tup ps)] => .ok (.v (.tup ps)) μ
  | [w] => match rdL μ w with
    | some ps => .ok (.v (.tup ps)) μ
    | none => .bad
  | _ => .bad
theorem ad_tupL {K : PySem.W.Frag} : AdC Wx (fun xs H Q => ∃ p ys, xs = [.ref p] ∧ ((SqL K H p ys ∧ ∀ l, H l = none → Q (.ref l) (upd H l (.tup ys))) ∨ (SqT K H p ys ∧ Q (.ref p) H))) fTupL := fun D as μ σ H vs ws Q k r g => by
  unfold fTupL at g
  split at g
  · obtain ⟨v, rfl, rv⟩ := repWs1 r
    obtain ⟨a, xs, rfl, _, hr, rs⟩ := rep_tup rv
    exact ⟨a, xs, rfl, .inr ⟨.inl hr, nowV k g rv⟩⟩
  · split at g
    · rename_i ps e
      obtain ⟨v, rfl, rv⟩ := repWs1 r
      obtain ⟨a, xs, rfl, hs, rs⟩ := rdL_ok k rv e
      exact ⟨a, xs, rfl, .inl ⟨.inl hs, newT k g rs⟩⟩
    · exact g.elim
  · exact g.elim
/-- list(d), tuple(d), sorted(d) -/
theorem keys_rep {D : Addr → Prop} {H : Hp} : ∀ {xs : List (Key × V)} {ps : List (Key × P)}, RepK D H xs ps → Reps D H (xs.map fun kv => kV kv.1) (ps.map fun kp => keyOf kp.1)
  | _, _, .nil => .nil
  | _, _, .cons _ t => .cons (keyOf_rep _) (keys_rep t)
def fListD (c : Kind) : List W → Μ → O W := fun ws μ => match ws with
  | [w] => match rdD μ w with
    | some ps => mkL c (ps.map fun kp => keyOf kp.1) μ
    | none => .bad
  | _ => .bad
theorem ad_listD {c : Kind} : AdC Wx (fun xs H Q => ∃ (a : Addr) (kvs : List (Key × V)), xs = [.ref a] ∧ Rd H a (.dK kvs) ∧ ∀ p, H p = none → Q (.ref p) (upd H p (.lst (kvs.map fun kv => kV kv.1)))) (fListD c) := fun D as μ σ H vs ws Q k r g => by
  unfold fListD at g
  split at g
  · split at g
    · rename_i ps e
      obtain ⟨v, rfl, rv⟩ := repWs1 r
      obtain ⟨a, xs, rfl, hs, rs⟩ := rdD_ok k rv e
      exact ⟨a, xs, rfl, hs, mkL_ok k g (keys_rep rs)⟩
    · exact g.elim
  · exact g.elim
def fTupD : List W → Μ → O W := fun ws μ => match ws with
  | [w] => match rdD μ w with
    | some ps => .ok (.v (.tup (ps.map fun kp => keyOf kp.1))) μ
    | none => .bad
  | _ => .bad
theorem ad_tupD : AdC Wx (fun xs H Q => ∃ (a : Addr) (kvs : List (Key × V)), xs = [.ref a] ∧ Rd H a (.dK kvs) ∧ ∀ p H', H p = none → Same H H' → H' p = some (.tup (kvs.map fun kv => kV kv.1)) → Q (.ref p) H') fTupD := fun D as μ σ H vs ws Q k r g => by
  unfold fTupD at g
  split at g
  · split at g
    · rename_i ps e
      obtain ⟨v, rfl, rv⟩ := repWs1 r
      obtain ⟨a, xs, rfl, hs, rs⟩ := rdD_ok k rv e
      exact ⟨a, xs, rfl, hs, fun p H' np s hp => nowN k s g (.tup (k.nd np) (.inl hp) (Reps.sd (.same s) (keys_rep rs)))⟩
    · exact g.elim
  · exact g.elim
/-- texts alone -/
def strsP : List P → Option (List Str)
  | [] => some []
  | .str z :: r => (strsP r).map (z :: ·)
  | _ :: _ => none
theorem strsP_ok {D : Addr → Prop} {H : Hp} : ∀ {xs : List V} {ps : List P} {zs : List Str}, Reps D H xs ps → strsP ps = some zs → xs = zs.map V.str
  | _, _, _, .nil, e => by cases e; rfl
  | _, _, _, @Reps.cons _ _ v p l m r t, e => by
    cases p with
    | str z =>
      cases q : strsP m with
      | none => rw [strsP, q] at e; cases e
      | some cs =>
        rw [strsP, q] at e
        cases e
        rw [rep_str r, strsP_ok t q]
        rfl
    | _ => cases e
theorem strs_rep {D : Addr → Prop} {H : Hp} : ∀ zs : List Str, Reps D H (zs.map V.str) (zs.map P.str)
  | [] => .nil
  | _ :: r => .cons .str (strs_rep r)
def intsP : List P → Option (List Int)
  | [] => some []
  | .int z :: r => (intsP r).map (z :: ·)
  | _ :: _ => none
theorem intsP_ok {D : Addr → Prop} {H : Hp} : ∀ {xs : List V} {ps : List P} {zs : List Int}, Reps D H xs ps → intsP ps = some zs → xs = zs.map V.int
  | _, _, _, .nil, e => by cases e; rfl
  | _, _, _, @Reps.cons _ _ v p l m r t, e => by
    cases p with
    | int z =>
      cases q : intsP m with
      | none => rw [intsP, q] at e; cases e
      | some cs =>
        rw [intsP, q] at e
        cases e
        rw [rep_int r, intsP_ok t q]
        rfl
    | _ => cases e
theorem ints_rep {D : Addr → Prop} {H : Hp} : ∀ zs : List Int, Reps D H (zs.map V.int) (zs.map P.int)
  | [] => .nil
  | _ :: r => .cons .int (ints_rep r)
/-- sorted, of texts -/
def fSortS : List W → Μ → O W := fun ws μ => match ws with
  | [w] => match (rdL μ w).bind strsP with
    | some zs => if zs.length < 64 then .ok (.v (.lst ((srt zs).map .str))) μ else .bad
    | none => .bad
  | _ => .bad
theorem ad_sortS {K : PySem.W.Frag} : AdC Wx (rSortedS K) fSortS := fun D as μ σ H vs ws Q k r g => by
  unfold fSortS at g
  split at g
  · split at g
    · rename_i zs e
      split at g
      · rename_i hl
        obtain ⟨ps, e1, e2⟩ := Option.bind_eq_some_iff.mp e
        obtain ⟨v, rfl, rv⟩ := repWs1 r
        obtain ⟨a, xs, rfl, hs, rs⟩ := rdL_ok k rv e1
        obtain rfl := strsP_ok rs e2
        refine ⟨a, zs, rfl, .inl hs, hl, fun ys p pm so np => ?_⟩
        rw [srt_uniq pm so]
        exact newL k g (strs_rep _) p np
      · exact g.elim
    · exact g.elim
  · exact g.elim
def keysS : List (Key × P) → Option (List Str)
  | [] => some []
  | (.inr z, _) :: r => (keysS r).map (z :: ·)
  | (.inl _, _) :: _ => none
theorem keysS_ok : ∀ {ps : List (Key × P)} {zs : List Str}, keysS ps = some zs → ps.map (·.1) = zs.map Sum.inr
  | [], zs, e => by cases e; rfl
  | (.inr z, p) :: r, zs, e => by
    cases q : keysS r with
    | none => rw [keysS, q] at e; cases e
    | some cs =>
      rw [keysS, q] at e
      cases e
      rw [List.map_cons, keysS_ok q]
      rfl
  | (.inl _, _) :: r, zs, e => by cases e
def fSortD : List W → Μ → O W := fun ws μ => match ws with
  | [w] => match (rdD μ w).bind keysS with
    | some zs => if zs.length < 64 then .ok (.v (.lst ((srt zs).map .str))) μ else .bad
    | none => .bad
  | _ => .bad
theorem ad_sortD : AdC Wx (fun xs H Q => ∃ (a : Addr) (kvs : List (Key × V)) (ks : List Str), xs = [.ref a] ∧ Rd H a (.dK kvs) ∧ kvs.map (·.1) = ks.map Sum.inr ∧ ks.length < 64 ∧ ∀ (ys : List Str) (p : Addr), ys.Perm ks → sortedS ys = true → H p = none → Q (.ref p) (upd H p (.lst (ys.map V.str)))) fSortD := fun D as μ σ H vs ws Q k r g => by
  unfold fSortD at g
  split at g
  · split at g
    · rename_i zs e
      split at g
      · rename_i hl
        obtain ⟨ps, e1, e2⟩ := Option.bind_eq_some_iff.mp e
        obtain ⟨v, rfl, rv⟩ := repWs1 r
        obtain ⟨a, xs, rfl, hs, rs⟩ := rdD_ok k rv e1
        refine ⟨a, xs, zs, rfl, hs, rs.keys.trans (keysS_ok e2), hl, fun ys p pm so np => ?_⟩
        rw [srt_uniq pm so]
        exact newL k g (strs_rep _) p np
      · exact g.elim
    · exact g.elim
  · exact g.elim
/-- sum, min, max of ints -/
def fSum : List W → Μ → O W := fun ws μ => match ws with
  | [w] => match (rdL μ w).bind intsP with
    | some ns => .ok (.v (.int ns.sum)) μ
    | none => .bad
  | _ => .bad
theorem ad_sum {K : PySem.W.Frag} : AdC Wx (rSum K) fSum := fun D as μ σ H vs ws Q k r g => by
  unfold fSum at g
  split at g
  · split at g
    · rename_i zs e
      obtain ⟨ps, e1, e2⟩ := Option.bind_eq_some_iff.mp e
      obtain ⟨v, rfl, rv⟩ := repWs1 r
      obtain ⟨a, xs, rfl, hs, rs⟩ := rdL_ok k rv e1
      obtain rfl := intsP_ok rs e2
      exact ⟨a, zs, rfl, .inl hs, nowV k g .int⟩
    · exact g.elim
  · exact g.elim
/-- the least, the greatest -/
def minL : List Int → Int
  | [] => 0
  | [a] => a
  | a :: b :: r => min a (minL (b :: r))
def maxL : List Int → Int
  | [] => 0
  | [a] => a
  | a :: b :: r => max a (maxL (b :: r))
theorem minL_le : ∀ {l : List Int} {a : Int}, a ∈ l → minL l ≤ a
  | [x], a, h => by
    rw [List.mem_singleton.mp h]
    exact Int.le_refl _
  | x :: y :: r, a, h => by
    rcases List.mem_cons.mp h with rfl | h
    · exact Int.min_le_left _ _
    · exact Int.le_trans (Int.min_le_right _ _) (minL_le h)
theorem minL_mem : ∀ {l : List Int}, l ≠ [] → minL l ∈ l
  | [x], _ => .head _
  | x :: y :: r, _ => by
    have ih := minL_mem (l := y :: r) (by simp)
    show min x (minL (y :: r)) ∈ _
    rw [Int.min_def]
    split
    · exact .head _
    · exact .tail _ ih
theorem le_maxL : ∀ {l : List Int} {a : Int}, a ∈ l → a ≤ maxL l
  | [x], a, h => by
    rw [List.mem_singleton.mp h]
    exact Int.le_refl _
  | x :: y :: r, a, h => by
    rcases List.mem_cons.mp h with rfl | h
    · exact Int.le_max_left _ _
    · exact Int.le_trans (le_maxL h) (Int.le_max_right _ _)
theorem maxL_mem : ∀ {l : List Int}, l ≠ [] → maxL l ∈ l
  | [x], _ => .head _
  | x :: y :: r, _ => by
    have ih := maxL_mem (l := y :: r) (by simp)
    show max x (maxL (y :: r)) ∈ _
    rw [Int.max_def]
    split
    · exact .tail _ ih
    · exact .head _
def fMinL : List W → Μ → O W := fun ws μ => match ws with
  | [w] => match (rdL μ w).bind intsP with
    | some (n :: ns) => .ok (.v (.int (minL (n :: ns)))) μ
    | _ => .bad
  | _ => .bad
theorem ad_minL {K : PySem.W.Frag} : AdC Wx (rMin K) fMinL := fun D as μ σ H vs ws Q k r g => by
  unfold fMinL at g
  split at g
  · split at g
    · rename_i n ns e
      obtain ⟨ps, e1, e2⟩ := Option.bind_eq_some_iff.mp e
      obtain ⟨v, rfl, rv⟩ := repWs1 r
      obtain ⟨a, xs, rfl, hs, rs⟩ := rdL_ok k rv e1
      obtain rfl := intsP_ok rs e2
      refine ⟨a, n :: ns, rfl, .inl hs, Nat.succ_pos _, fun m hm hle => ?_⟩
      have : m = minL (n :: ns) := Int.le_antisymm (hle _ (minL_mem (by simp))) (minL_le hm)
      rw [this]
      exact nowV k g .int
    · exact g.elim
  · exact g.elim
def fMaxL : List W → Μ → O W := fun ws μ => match ws with
  | [w] => match (rdL μ w).bind intsP with
    | some (n :: ns) => .ok (.v (.int (maxL (n :: ns)))) μ
    | _ => .bad
  | _ => .bad
theorem ad_maxL {K : PySem.W.Frag} : AdC Wx (rMax K) fMaxL := fun D as μ σ H vs ws Q k r g => by
  unfold fMaxL at g
  split at g
  · split at g
    · rename_i n ns e
      obtain ⟨ps, e1, e2⟩ := Option.bind_eq_some_iff.mp e
      obtain ⟨v, rfl, rv⟩ := repWs1 r
      obtain ⟨a, xs, rfl, hs, rs⟩ := rdL_ok k rv e1
      obtain rfl := intsP_ok rs e2
      refine ⟨a, n :: ns, rfl, .inl hs, Nat.succ_pos _, fun m hm hle => ?_⟩
      have : m = maxL (n :: ns) := Int.le_antisymm (le_maxL hm) (hle _ (maxL_mem (by simp)))
      rw [this]
      exact nowV k g .int
    · exact g.elim
  · exact g.elim
/-- calls with one int, two ints -/
def fC1 (f : Int → P) : List W → Μ → O W := fun ws μ => match ws with
  | [.v (.int i)] => .ok (.v (f i)) μ
  | _ => .bad
def fC2 (f : Int → Int → P) : List W → Μ → O W := fun ws μ => match ws with
  | [.v (.int i), .v (.int j)] => .ok (.v (f i j)) μ
  | _ => .bad
abbrev fAbs := fC1 fun i => .int i.natAbs
abbrev fMax2 := fC2 fun i j => .int (max i j)
abbrev fMin2 := fC2 fun i j => .int (min i j)
theorem ad_C1 {r : List V → Hp → VK → Prop} {f : Int → P} (h : ∀ D H i Q, (∀ v, Rep D H v (f i) → Q v H) → r [.int i] H Q) : AdC Wx r (fC1 f) := fun D as μ σ H vs ws Q k r' g => by
  unfold fC1 at g
  split at g
  · obtain ⟨v, rfl, rv⟩ := repWs1 r'
    obtain rfl := rep_int rv
    exact h D H _ Q fun v rv => nowV k g rv
  · exact g.elim
theorem ad_C2 {r : List V → Hp → VK → Prop} {f : Int → Int → P} (h : ∀ D H i j Q, (∀ v, Rep D H v (f i j) → Q v H) → r [.int i, .int j] H Q) : AdC Wx r (fC2 f) := fun D as μ σ H vs ws Q k r' g => by
  unfold fC2 at g
  split at g
  · obtain ⟨v, u, rfl, rv, ru⟩ := repWs2 r'
    obtain rfl := rep_int rv
    obtain rfl := rep_int ru
    exact h D H _ _ Q fun v rv => nowV k g rv
  · exact g.elim
theorem ad_abs : AdC Wx (fun xs H Q => ∃ i, xs = [.int i] ∧ Q (.int (if i < 0 then -i else i)) H) fAbs := ad_C1 fun D H i Q h => ⟨i, rfl, by
  have e : (if i < 0 then -i else i) = (i.natAbs : Int) := by split <;> omega
  rw [e]
  exact h _ .int⟩
theorem ad_max2 : AdC Wx (fun xs H Q => ∃ i j, xs = [.int i, .int j] ∧ Q (.int (if j > i then j else i)) H) fMax2 := ad_C2 fun D H i j Q h => ⟨i, j, rfl, by
  have e : (if j > i then j else i) = max i j := by rw [Int.max_def]; split <;> split <;> omega
  rw [e]
  exact h _ .int⟩
theorem ad_min2 : AdC Wx (fun xs H Q => ∃ i j, xs = [.int i, .int j] ∧ Q (.int (if j < i then j else i)) H) fMin2 := ad_C2 fun D H i j Q h => ⟨i, j, rfl, by
  have e : (if j < i then j else i) = min i j := by rw [Int.min_def]; split <;> split <;> omega
  rw [e]
  exact h _ .int⟩
/-- int(i), int(b) -/
def fInt : List W → Μ → O W := fun ws μ => match ws with
  | [.v (.int i)] => .ok (.v (.int i)) μ
  | [.v (.bl b)] => .ok (.v (.int (if b then 1 else 0))) μ
  | _ => .bad
theorem ad_int : AdC Wx (fun xs H Q => (∃ i, xs = [.int i] ∧ Q (.int i) H) ∨ ∃ k, xs = [.bl k] ∧ Q (.int (if k then 1 else 0)) H) fInt := fun D as μ σ H vs ws Q k r' g => by
  unfold fInt at g
  split at g
  · obtain ⟨v, rfl, rv⟩ := repWs1 r'
    obtain rfl := rep_int rv
    exact .inl ⟨_, rfl, nowV k g .int⟩
  · obtain ⟨v, rfl, rv⟩ := repWs1 r'
    obtain rfl := rep_bl rv
    exact .inr ⟨_, rfl, nowV k g .int⟩
  · exact g.elim
/-- divmod -/
def fDivmod : List W → Μ → O W := fun ws μ => match ws with
  | [.v (.int i), .v (.int j)] => if 0 < j ∧ j < 1073741824 then .ok (.v (.tup [.int (i / j), .int (i % j)])) μ else .bad
  | _ => .bad
theorem ad_divmod : AdC Wx (fun xs H Q => ∃ i j, xs = [.int i, .int j] ∧ CDiv i j ∧ ∀ p, H p = none → Q (.ref p) (upd H p (.tup [.int (i / j), .int (i % j)]))) fDivmod := fun D as μ σ H vs ws Q k r' g => by
  unfold fDivmod at g
  split at g
  · split at g
    · rename_i hj
      obtain ⟨v, u, rfl, rv, ru⟩ := repWs2 r'
      obtain rfl := rep_int rv
      obtain rfl := rep_int ru
      exact ⟨_, _, rfl, hj, newT k g (.cons .int (.cons .int .nil))⟩
    · exact g.elim
  · exact g.elim
/-- str(i) -/
def fStrI : List W → Μ → O W := fun ws μ => match ws with
  | [.v (.int i)] => if i.natAbs.log2 < 1920 then .ok (.v (.str (toString i))) μ else .bad
  | _ => .bad
theorem ad_strI : AdC Wx (fun xs H Q => ∃ i : Int, xs = [.int i] ∧ i.natAbs.log2 < 1920 ∧ Q (.str (toString i)) H) fStrI := fun D as μ σ H vs ws Q k r' g => by
  unfold fStrI at g
  split at g
  · split at g
    · rename_i hj
      obtain ⟨v, rfl, rv⟩ := repWs1 r'
      obtain rfl := rep_int rv
      exact ⟨_, rfl, hj, nowV k g .str⟩
    · exact g.elim
  · exact g.elim
/-! ### slices -/
abbrev OF := Γ → Μ → O (Option Int)
def RepOI : RL (Option Int) (Option Int) := fun _ _ _ b a => b = a
def AdO (Wx : WX) (to : TO) (F : OF) : Prop := ∀ D as γ μ σ H Q, Sk D as H μ → EnvR D as H σ γ → G Wx σ RepOI D as H (F γ μ) Q → to σ H Q
def PPO (X : Cx) (Wx : WX) (e : Option Expr) (F : OF) : Prop := ∃ to, PO X e to ∧ AdO Wx to F
def oNone : OF := fun _ μ => .ok none μ
def oSome (F : EF) : OF := fun γ μ => (F γ μ).bind fun w m => match w with
  | .v (.int i) => .ok (some i) m
  | _ => .bad
theorem ppo_none : PPO X Wx none oNone := ⟨_, po_none, fun D as γ μ σ H Q k ev g => g.now (R := RepOI) k rfl⟩
theorem ppo_some (h : PP X Wx e F) : PPO X Wx (some e) (oSome F) := let ⟨_, p, ad⟩ := h; ⟨_, po_some p, fun D as γ μ σ H Q k ev g => by
  refine ad D as γ μ σ H _ k ev ((G.bind RepW k g).mono fun x H1 ⟨D1, as1, μ1, w, n1, k1, r1, g1⟩ => ?_)
  split at g1
  · obtain rfl := rep_int r1
    exact ⟨_, rfl, g1.now (R := RepOI) k1 rfl⟩
  · exact g1.elim⟩
def cutP {α : Type} (xs : List α) (lo hi : Option Int) : List α := (xs.drop (HT.sIx xs.length 0 lo)).take (HT.sIx xs.length xs.length hi - HT.sIx xs.length 0 lo)
theorem cut_rep {D : Addr → Prop} {H : Hp} {xs : List V} {ps : List P} (r : Reps D H xs ps) (lo hi : Option Int) : Reps D H (cutV xs lo hi) (cutP ps lo hi) := by
  unfold cutV cutP
  rw [r.length]
  exact (r.drop _).take _
def AdSl (Wx : WX) (r : V → Option Int → Option Int → Hp → VK → Prop) (f : W → Option Int → Option Int → Μ → O W) : Prop := ∀ D as μ σ H x w lo hi Q, Sk D as H μ → RepW D as H x w → G Wx σ RepW D as H (f w lo hi μ) Q → r x lo hi H Q
def fSl (f : W → Option Int → Option Int → Μ → O W) (F : EF) (L Hi : OF) : EF := fun γ μ => (F γ μ).bind fun w m => (L γ m).bind fun lo m => (Hi γ m).bind fun hi m => f w lo hi m
theorem pp_slice {r} {f} {lo hi : Option Expr} {L Hi : OF} {p2 : Pos} (hr : SlR X r) (h : AdSl Wx r f) (he : PP X Wx e F) (hl : PPO X Wx lo L) (hu : PPO X Wx hi Hi) : PP X Wx (.Subscript e (.Slice lo hi none p2) pos) (fSl f F L Hi) :=
  let ⟨_, p, a⟩ := he; let ⟨_, pl, al⟩ := hl; let ⟨_, ph, ah⟩ := hu; ⟨_, pe_slice hr p pl ph, fun D as γ μ σ H Q k ev g => by
    refine a D as γ μ σ H _ k ev ((G.bind RepW k g).mono fun x H1 ⟨D1, as1, μ1, w, n1, k1, r1, g1⟩ => ?_)
    refine al D1 as1 γ μ1 σ H1 _ k1 (ev.nx n1) ((G.bind RepOI k1 g1).mono fun l H2 ⟨D2, as2, μ2, l', n2, k2, r2, g2⟩ => ?_)
    obtain rfl : l = l' := r2
    refine ah D2 as2 γ μ2 σ H2 _ k2 ((ev.nx n1).nx n2) ((G.bind RepOI k2 g2).mono fun u H3 ⟨D3, as3, μ3, u', n3, k3, r3, g3⟩ => ?_)
    obtain rfl : u = u' := r3
    exact h D3 as3 μ3 σ H3 x w l u Q k3 ((r1.nx n2).nx n3) g3⟩
def fSlL : W → Option Int → Option Int → Μ → O W := fun w lo hi μ => match rdL μ w with
  | some ps => .ok (.v (.lst (cutP ps lo hi))) μ
  | none => .bad
theorem ad_slL {K : PySem.W.Frag} : AdSl Wx (rSlL K) fSlL := fun D as μ σ H x w lo hi Q k r g => by
  unfold fSlL at g
  split at g
  · rename_i ps e
    obtain ⟨a, xs, rfl, hs, rs⟩ := rdL_ok k r e
    exact ⟨a, xs, rfl, .inl hs, newL k g (cut_rep rs lo hi)⟩
  · exact g.elim
def fSlS : W → Option Int → Option Int → Μ → O W := fun w lo hi μ => match w with
  | .v (.str z) => if z.length ≤ sizeLine then .ok (.v (.str (cutS z lo hi))) μ else .bad
  | _ => .bad
theorem ad_slS : AdSl Wx rSlS fSlS := fun D as μ σ H x w lo hi Q k r g => by
  unfold fSlS at g
  split at g
  · split at g
    · rename_i hz
      exact ⟨_, rep_str r, hz, nowV k g .str⟩
    · exact g.elim
  · exact g.elim
/-! ### in a list -/
def flatP : P → Bool
  | .non | .bl _ | .int _ | .str _ => true
  | _ => false
def eqF : P → P → Bool
  | .non, .non => true
  | .bl a, .bl b => a == b
  | .bl a, .int b => (if a then 1 else 0) == b
  | .int a, .bl b => a == (if b then 1 else 0)
  | .int a, .int b => a == b
  | .str a, .str b => a == b
  | _, _ => false
theorem eqF_ok {D : Addr → Prop} {H : Hp} {x y : V} {p q : P} (rx : Rep D H x p) (ry : Rep D H y q) (fp : flatP p = true) (fq : flatP q = true) : flatV x = true ∧ eqV x y = eqF p q := by
  cases rx <;> cases ry <;> first | exact ⟨rfl, rfl⟩ | cases fp | cases fq
def fIn (neg : Bool) : W → W → Μ → O W := fun x y μ => match x, seqP μ y with
  | .v p, some ps => if flatP p = true ∧ ps.all flatP = true then .ok (.v (.bl ((ps.any fun q => eqF q p) != neg))) μ else .bad
  | _, _ => .bad
theorem all_flat {D : Addr → Prop} {H : Hp} {x : V} {p : P} (rx : Rep D H x p) (fp : flatP p = true) : ∀ {xs : List V} {ps : List P}, Reps D H xs ps → ps.all flatP = true → xs.all flatV = true ∧ inV x xs = ps.any fun q => eqF q p
  | _, _, .nil, _ => ⟨rfl, rfl⟩
  | _, _, .cons r t, h => by
    rw [List.all_cons, Bool.and_eq_true] at h
    obtain ⟨a, b⟩ := all_flat rx fp t h.2
    obtain ⟨c, d⟩ := eqF_ok r rx h.1 fp
    refine ⟨by rw [List.all_cons, c, a]; rfl, ?_⟩
    unfold inV at *
    rw [List.any_cons, List.any_cons, d, b]
theorem ad_in {K : PySem.W.Frag} {neg : Bool} : AdR2 Wx (rIn K neg) (fIn neg) := fun D as μ σ H x y a b Q k ra rb g => by
  unfold fIn at g
  split at g
  · rename_i p ps e
    split at g
    · rename_i hf
      obtain ⟨l, xs, rfl, hs, rs⟩ := seqP_ok (K := K) k rb e
      obtain ⟨h1, h2⟩ := all_flat ra hf.1 rs hf.2
      refine ⟨l, xs, rfl, hs, (eqF_ok ra ra hf.1 hf.1).1, h1, ?_⟩
      rw [h2]
      have := nowV (x := .bl ((ps.any fun q => eqF q p) != neg)) k g .bl
      cases neg <;> simpa using this
    · exact g.elim
  · exact g.elim
end
end Pu

set_option Elab.async false
set_option linter.all false
set_option maxRecDepth 100000
set_option maxHeartbeats 4000000
namespace Pu
open L2 PySem PySem.Spec PyProof.Rows E10
/-! ### operators of own objects (no error comes out) -/
/-- a special method of the class C, with a pure promise -/
structure DS (P : Program) (w : World) (K : PySem.W.Frag) (mg : Str → Option Value) (base : Heap) (C : Addr) (m : Str) (n : Nat) (k : Nat) (F : FF) : Prop where
  ex : ∃ (f : Addr) (fd : FuncData) (ps : List Str), ps.length = n ∧ FnX P w K mg base k f fd ps (spP n F) ∧ Has K C f m ∧ Binds K fd ps []
theorem DS.g {P w K mg base C m n k F} (d : DS P w K mg base C m n k F) : ∃ (f : Addr) (fd : FuncData) (ps : List Str), FnG P w K mg base k f fd ps (noE (spP n F)) ∧ Has K C f m ∧ Binds K fd ps [] :=
  let ⟨f, fd, ps, _, F, h, b⟩ := d.ex; ⟨f, fd, ps, F.g, h, b⟩
def isC (C : Addr) (μ : Μ) (w : W) : Bool := match rdI μ w with
  | some (C', _) => decide (C' = C)
  | none => false
theorem isC_ok {C : Addr} {D as H} {μ : Μ} {v : V} {w : W} (k : Sk D as H μ) (r : RepW D as H v w) (h : isC C μ w = true) : ∃ a dx fs, v = .ref a ∧ H a = some (.ins C dx fs) := by
  unfold isC at h
  split at h
  · rename_i C' ps e
    have := of_decide_eq_true h
    subst this
    obtain ⟨a, dx, xs, rfl, h, _⟩ := rdI_ok k r e
    exact ⟨a, dx, xs, rfl, h⟩
  · cases h
def fOwn2 (C : Addr) (F : FF) : W → W → Μ → O W := fun x y μ => if isC C μ x = true ∧ isC C μ y = true then (F [x, y] μ).nx else .bad
def fOwnI (C : Addr) (F : FF) : W → W → Μ → O W := fun x y μ => match y with
  | .v (.int i) => if isC C μ x = true then (F [x, .v (.int i)] μ).nx else .bad
  | _ => .bad
def fIOwn (C : Addr) (F : FF) : W → W → Μ → O W := fun x y μ => match x with
  | .v (.int i) => if isC C μ y = true then (F [y, .v (.int i)] μ).nx else .bad
  | _ => .bad
section
variable {X : Cx} {Wx : WX} {a b e o : Expr} {es : List Expr} {F F1 F2 : EF} {A : AF} {C : Addr} {FF' : FF} {k : Nat} {pos p : Pos}
theorem nowSp {D as H} {μ : Μ} {σ : L2.St} {Q : VK} {E : XK} {vs : List V} {ws : List W} {n : Nat} (k : Sk D as H μ) (r : RepWs D as H vs ws) (hl : vs.length = n) (g : G Wx σ RepW D as H (FF' ws μ).nx Q) : noE (spP n FF') vs H Q E := ⟨hl, D, as, ws, μ, k, r, G_nx g⟩
theorem ad_own2 : AdR2 Wx (rOwnO C (noE (spP 2 FF'))) (fOwn2 C FF') := fun D as μ σ H x y wx wy Q k ra rb g => by
  unfold fOwn2 at g
  split at g
  · rename_i h
    obtain ⟨a, dx, fs, rfl, ha⟩ := isC_ok k ra h.1
    obtain ⟨b, dy, gs, rfl, hb⟩ := isC_ok k rb h.2
    exact ⟨a, b, dx, dy, fs, gs, rfl, rfl, ha, hb, nowSp k (.cons ra (.cons rb .nil)) rfl g⟩
  · exact g.elim
theorem ad_ownI : AdR2 Wx (rOwnI C (noE (spP 2 FF'))) (fOwnI C FF') := fun D as μ σ H x y wx wy Q k ra rb g => by
  unfold fOwnI at g
  split at g
  · split at g
    · rename_i i h
      obtain ⟨a, dx, fs, rfl, ha⟩ := isC_ok k ra h
      obtain rfl := rep_int rb
      exact ⟨a, dx, fs, i, rfl, rfl, ha, nowSp k (.cons ra (.cons rb .nil)) rfl g⟩
    · exact g.elim
  · exact g.elim
theorem ad_iown : AdR2 Wx (rIOwn C (noE (spP 2 FF'))) (fIOwn C FF') := fun D as μ σ H x y wx wy Q k ra rb g => by
  unfold fIOwn at g
  split at g
  · split at g
    · rename_i i h
      obtain ⟨a, dx, fs, rfl, ha⟩ := isC_ok k rb h
      obtain rfl := rep_int ra
      exact ⟨a, dx, fs, i, rfl, rfl, ha, nowSp k (.cons rb (.cons ra .nil)) rfl g⟩
    · exact g.elim
  · exact g.elim
/-- a op b of one class -/
theorem pp_own2 {op : Operator} (d : DS X.prog X.w X.K X.mg X.base C (PySem.dunder op.info.2) 2 k FF') (hc : PySem.W.selfFirst X.K C = true) (hG : X.A.guards = some []) (hr : Room k X.A) (ha : PP X Wx a F1) (hb : PP X Wx b F2) : PP X Wx (.BinOp a op b pos) (fOp (fOwn2 C FF') F1 F2) := by
  obtain ⟨f, fd, ps, FG, h, bi⟩ := d.g
  exact pp_op (op_ownO FG hG hr bi hc h) ad_own2 ha hb
/-- int and own object -/
structure IntK (K : PySem.W.Frag) (C : Addr) : Prop where
  sf : PySem.W.selfFirst K C = true
  s1 : PySem.W.subIn K (.type "int") (.ref C) = some false
  s2 : PySem.W.subIn K (.ref C) (.type "int") = some false
theorem pp_addI (hf : ∃ fo ro rc : Option Value, PySem.W.findIn X.K (.ref C) (dunderR Operator.Add.info.2) = some rc ∧ (rc = none ∨ ∃ g : Addr, rc = some (.ref g)) ∧ PySem.W.findIn X.K (.type "int") (PySem.dunder Operator.Add.info.2) = some fo ∧ PySem.W.findIn X.K (.type "int") (dunderR Operator.Add.info.2) = some ro)
    (d : DS X.prog X.w X.K X.mg X.base C (PySem.dunder Operator.Add.info.2) 2 k FF') (i : IntK X.K C) (hG : X.A.guards = some []) (hr : Room k X.A) (ha : PP X Wx a F1) (hb : PP X Wx b F2) : PP X Wx (.BinOp a .Add b pos) (fOp (fOwnI C FF') F1 F2) := by
  obtain ⟨fo, ro, rc, h1, h2, h3, h4⟩ := hf
  obtain ⟨f, fd, ps, FG, h, bi⟩ := d.g
  exact pp_op (op_ownI FG hG hr bi i.sf h h1 h2 h3 h4 i.s1) ad_ownI ha hb
theorem pp_subI (hf : ∃ fo ro rc : Option Value, PySem.W.findIn X.K (.ref C) (dunderR Operator.Sub.info.2) = some rc ∧ (rc = none ∨ ∃ g : Addr, rc = some (.ref g)) ∧ PySem.W.findIn X.K (.type "int") (PySem.dunder Operator.Sub.info.2) = some fo ∧ PySem.W.findIn X.K (.type "int") (dunderR Operator.Sub.info.2) = some ro)
    (d : DS X.prog X.w X.K X.mg X.base C (PySem.dunder Operator.Sub.info.2) 2 k FF') (i : IntK X.K C) (hG : X.A.guards = some []) (hr : Room k X.A) (ha : PP X Wx a F1) (hb : PP X Wx b F2) : PP X Wx (.BinOp a .Sub b pos) (fOp (fOwnI C FF') F1 F2) := by
  obtain ⟨fo, ro, rc, h1, h2, h3, h4⟩ := hf
  obtain ⟨f, fd, ps, FG, h, bi⟩ := d.g
  exact pp_op (op_ownI FG hG hr bi i.sf h h1 h2 h3 h4 i.s1) ad_ownI ha hb
/-! ### ==, != by an own __eq__ -/
def nfP (cs : List Addr) (t : Value) : Bool := match t with
  | .type n => n ∈ ["int", "str", "NoneType", "bool", "list", "tuple", "dict"]
  | .ref C => decide (C ∈ cs)
  | _ => false
structure EqK (K : PySem.W.Frag) (C : Addr) (cs : List Addr) : Prop where
  ins : ∀ C ∈ cs, InsK K C
  nf : ∀ t, nfP cs t = true → PySem.W.notFirst K C t = true
  ne : NeBy K C
def fEqO (C : Addr) (cs : List Addr) (F : FF) : W → W → Μ → O W := fun x y μ => if isC C μ x = true then match tyP cs μ y with
    | some t => if nfP cs t = true then (F [x, y] μ).nx else .bad
    | none => .bad
  else .bad
def notB : W → Μ → O W := fun w μ => match w with
  | .v (.bl b) => .ok (.v (.bl (!b))) μ
  | _ => .bad
def fNeO (C : Addr) (cs : List Addr) (F : FF) : W → W → Μ → O W := fun x y μ => (fEqO C cs F x y μ).bind notB
theorem ad_eqO {K : PySem.W.Frag} {cs : List Addr} (h : EqK K C cs) : AdR2 Wx (rEqO K C (noE (spP 2 FF'))) (fEqO C cs FF') := fun D as μ σ H x y wx wy Q k ra rb g => by
  unfold fEqO at g
  split at g
  · rename_i hx
    split at g
    · rename_i t e
      split at g
      · rename_i hn
        obtain ⟨a, dx, fs, rfl, ha⟩ := isC_ok k ra hx
        exact ⟨a, dx, fs, t, rfl, ha, tyP_ok h.ins k rb e, h.nf t hn, nowSp k (.cons ra (.cons rb .nil)) rfl g⟩
      · exact g.elim
    · exact g.elim
  · exact g.elim
theorem ad_neO {K : PySem.W.Frag} {cs : List Addr} (h : EqK K C cs) : AdR2 Wx (rNeO K C (noE (spP 2 FF'))) (fNeO C cs FF') := fun D as μ σ H x y wx wy Q k ra rb g => by
  have g2 := G.bind RepW k g
  unfold fEqO at g2
  split at g2
  · rename_i hx
    split at g2
    · rename_i t e
      split at g2
      · rename_i hn
        obtain ⟨a, dx, fs, rfl, ha⟩ := isC_ok k ra hx
        refine ⟨a, dx, fs, t, rfl, ha, tyP_ok h.ins k rb e, h.nf t hn, nowSp k (.cons ra (.cons rb .nil)) rfl (g2.mono fun v H1 ⟨D1, as1, μ1, w, n1, k1, r1, g1⟩ => ?_)⟩
        unfold notB at g1
        split at g1
        · obtain rfl := rep_bl r1
          exact ⟨_, rfl, nowV k1 g1 .bl⟩
        · exact g1.elim
      · exact g2.elim
    · exact g2.elim
  · exact g2.elim
theorem pp_eqO {cs : List Addr} (d : DS X.prog X.w X.K X.mg X.base C "__eq__" 2 k FF') (h : EqK X.K C cs) (hG : X.A.guards = some []) (hr : Room k X.A) (hu : X.A.units < cLine) (ha : PP X Wx a F1) (hb : PP X Wx b F2) : PP X Wx (.Compare a [.Eq] [b] pos) (fOp (fEqO C cs FF') F1 F2) := by
  obtain ⟨f, fd, ps, FG, hs, bi⟩ := d.g
  exact pp_cmp (op_eqO FG hG hr hu bi hs) (ad_eqO h) ha hb
theorem pp_neO {cs : List Addr} (d : DS X.prog X.w X.K X.mg X.base C "__eq__" 2 k FF') (h : EqK X.K C cs) (hG : X.A.guards = some []) (hr : Room (k + 1) X.A) (hu : X.A.units + 1 < cLine) (ha : PP X Wx a F1) (hb : PP X Wx b F2) : PP X Wx (.Compare a [.NotEq] [b] pos) (fOp (fNeO C cs FF') F1 F2) := by
  obtain ⟨f, fd, ps, FG, hs, bi⟩ := d.g
  exact pp_cmp (op_neO FG hG hr hu bi hs h.ne) (ad_neO h) ha hb
/-! ### len, in, [] -/
def fLenO (C : Addr) (F : FF) : List W → Μ → O W := fun ws μ => match ws with
  | [x] => if isC C μ x = true then ((F [x] μ).nx).bind fun w m => match w with
      | .v (.int n) => if 0 ≤ n ∧ n < 2 ^ 61 then .ok (.v (.int n)) m else .bad
      | _ => .bad
    else .bad
  | _ => .bad
theorem ad_lenO : AdC Wx (rLenO C (noE (spP 1 FF'))) (fLenO C FF') := fun D as μ σ H vs ws Q k r g => by
  unfold fLenO at g
  split at g
  · split at g
    · rename_i x hx
      obtain ⟨v, rfl, rv⟩ := repWs1 r
      obtain ⟨a, dx, fs, rfl, ha⟩ := isC_ok k rv hx
      refine ⟨a, dx, fs, rfl, ha, nowSp k (.cons rv .nil) rfl ((G.bind RepW k g).mono fun v H1 ⟨D1, as1, μ1, w, n1, k1, r1, g1⟩ => ?_)⟩
      split at g1
      · split at g1
        · rename_i n hn
          obtain rfl := rep_int r1
          have : (2 : Int) ^ 61 = 2305843009213693952 := by decide
          have : (2 : Nat) ^ 62 = 4611686018427387904 := by decide
          refine ⟨n.toNat, ?_, by omega, ?_⟩
          · congr 1
            omega
          · have e : ((n.toNat : Nat) : Int) = n := by omega
            rw [e]
            exact nowV k1 g1 .int
        · exact g1.elim
      · exact g1.elim
    · exact g.elim
  · exact g.elim
theorem pp_lenO {x : Str} (d : DS X.prog X.w X.K X.mg X.base C "__len__" 1 k FF') (hG : X.A.guards = some []) (hr : Room (k + 1) X.A) (hg : Gl X x) (hm : X.mg x = none) (hv : bootBuiltins x = some (.builtin "len")) (ha : PPA X Wx (e :: es) A) (hn : x ≠ "__name__" := by decide) (hdb : (x == ("__debug__" : Str)) = false := by decide)
    (he : starEach (e :: es) X.env = (false, eval e X.env) :: starEach es X.env := by rfl) (hpl : (backTo pos (starEach es X.env)).any (·.1) = false := by rfl) : PP X Wx (.Call (.Name x p) (e :: es) [] pos) (fCall (fLenO C FF') A) := by
  obtain ⟨f, fd, ps, FG, hs, bi⟩ := d.g
  exact pp_callB (call_lenO FG hG hr bi hs) hg hm hv ad_lenO ha hn hdb he hpl
def fInO (C : Addr) (neg : Bool) (F : FF) : W → W → Μ → O W := fun x y μ => if isC C μ y = true then ((F [y, x] μ).nx).bind fun w m => match w with
    | .v (.bl b) => .ok (.v (.bl (if neg then !b else b))) m
    | _ => .bad
  else .bad
theorem ad_inO {neg : Bool} : AdR2 Wx (rInO C (noE (spP 2 FF')) neg) (fInO C neg FF') := fun D as μ σ H x y wx wy Q k ra rb g => by
  unfold fInO at g
  split at g
  · rename_i hx
    obtain ⟨a, dx, fs, rfl, ha⟩ := isC_ok k rb hx
    refine ⟨a, dx, fs, rfl, ha, nowSp k (.cons rb (.cons ra .nil)) rfl ((G.bind RepW k g).mono fun v H1 ⟨D1, as1, μ1, w, n1, k1, r1, g1⟩ => ?_)⟩
    split at g1
    · obtain rfl := rep_bl r1
      exact ⟨_, rfl, nowV k1 g1 .bl⟩
    · exact g1.elim
  · exact g.elim
theorem pp_inO (d : DS X.prog X.w X.K X.mg X.base C "__contains__" 2 k FF') (hG : X.A.guards = some []) (hr : Room k X.A) (ha : PP X Wx a F1) (hb : PP X Wx b F2) (hm : behindInMarks .In b = false := by rfl) : PP X Wx (.Compare a [.In] [b] pos) (fOp (fInO C false FF') F1 F2) := by
  obtain ⟨f, fd, ps, FG, hs, bi⟩ := d.g
  exact pp_cmp (op_inO FG hG hr bi hs) ad_inO ha hb hm
theorem pp_notInO (d : DS X.prog X.w X.K X.mg X.base C "__contains__" 2 k FF') (hG : X.A.guards = some []) (hr : Room k X.A) (ha : PP X Wx a F1) (hb : PP X Wx b F2) (hm : behindInMarks .NotIn b = false := by rfl) : PP X Wx (.Compare a [.NotIn] [b] pos) (fOp (fInO C true FF') F1 F2) := by
  obtain ⟨f, fd, ps, FG, hs, bi⟩ := d.g
  exact pp_cmp (op_notInO FG hG hr bi hs) ad_inO ha hb hm
def fIxO (C : Addr) (F : FF) : W → W → Μ → O W := fun x y μ => if isC C μ x = true then (F [x, y] μ).nx else .bad
theorem pp_ixO (d : DS X.prog X.w X.K X.mg X.base C "__getitem__" 2 k FF') (fi : ∀ f, Has X.K C f "__getitem__" → PySem.W.fnIn X.K f = true) (hG : X.A.guards = some []) (hr : Room (k + 1) X.A) (ha : PP X Wx a F1) (hb : PP X Wx b F2)
    (hs : ∀ (x : Addr) (i : Value), subscripted b true (.ref x) i = runValue (.builtin "lifetime.subscript" ⟨[.ref x, i], []⟩) := by intro x i; with_unfolding_all rfl) : PP X Wx (.Subscript a b pos) (fOp (fIxO C FF') F1 F2) := by
  obtain ⟨f, fd, ps, FG, h, bi⟩ := d.g
  obtain ⟨_, pa, aa⟩ := ha
  obtain ⟨_, pb, ab⟩ := hb
  refine ⟨_, pe_ixO FG hG hr bi h (fi f h) pa pb hs, ad_op (fun D as μ σ H x y wx wy Q k ra rb g => ?_) aa ab⟩
  unfold fIxO at g
  split at g
  · rename_i hx
    obtain ⟨a, dx, fs, rfl, ha⟩ := isC_ok k ra hx
    exact ⟨a, dx, fs, rfl, ha, nowSp k (.cons ra (.cons rb .nil)) rfl g⟩
  · exact g.elim
/-! ### an own object called -/
def tCallOX (C : Addr) (sp : Sp) (W : WX) (tf : TE) (t : TA) : TE := fun σ H Q => tf σ H fun y H1 => ∃ a, y = V.ref a ∧ t σ H1 fun vs H2 => (∃ dx fs, H2 a = some (.ins C dx fs)) ∧ sp (.ref a :: vs) H2 Q (WE W σ)
theorem pe_callObX {fe e : Expr} {es : List Expr} {tf : TE} {t : TA} {f : Addr} {fd : FuncData} {ps : List Str} {sp : Sp} (hf : PE X fe tf) (c : StX.CallO X.K C f) (F : FnX X.prog X.w X.K X.mg X.base k f fd ps sp) (hG : X.A.guards = some []) (hr : Room k X.A) (hb : Binds X.K fd ps []) (tk : Takes X Wx) (ha : PA X (e :: es) t)
    (ht : eval (.Call fe (e :: es) [] pos) X.env = (do callWith pos (← eval fe X.env) [] (backTo pos (starEach (e :: es) X.env)) (backToKw pos (keywordEach [] X.env))) := by rfl)
    (he : starEach (e :: es) X.env = (false, eval e X.env) :: starEach es X.env := by rfl) (hpl : (backTo pos (starEach es X.env)).any (·.1) = false := by rfl) : PE X (.Call fe (e :: es) [] pos) (tCallOX C sp Wx tf t) := by
  refine ⟨fun pins s σ H Q I h => ?_⟩
  rw [ht]
  refine wpAny_bind (thn (hf.run pins s σ H _ I h) fun u s1 ⟨y, H1, I1, ry, a, ey, q⟩ => ?_)
  subst ey
  obtain rfl : u = Value.ref a := ry
  have hA := ha.run pos pins s1 σ H1 _ I1 q
  rw [he] at hA ⊢
  refine callO_any (by show ((false || (backTo pos (starEach es X.env)).any (·.1)) || ((backToKw pos (keywordEach [] X.env)).any (·.1.isNone))) = false; rw [hpl]; rfl) (Calls.evalArgs_plain ?_)
  refine thn hA fun us s2 ⟨vs, H2, I2, r2, ⟨dx, fs, ha2⟩, q2⟩ => ?_
  obtain ⟨ox, od, J, hd⟩ := StX.insC_at I2 (insC_of (X := X) ha2)
  refine ⟨⟨C, ox, od, J, hd⟩, wpAny_call (PySem.W.kco_code I2.kIn J hd c.at_ c.fn c.fi ?_)⟩
  have hl : (Value.ref a :: us).length = ps.length := by
    have e1 : Vals (V.ref a :: vs) (Value.ref a :: us) := .cons rfl r2
    rw [← e1.length]
    exact F.few q2
  have bb := hb s2 (Value.ref a :: us) I2.kIn (by rw [List.append_nil]; exact hl)
  rw [List.append_nil] at bb
  refine codeAny_mono (F.goes (fr := X.stack) (ar := ⟨.ref a :: us, []⟩) (us := .ref a :: us) (vs := .ref a :: vs) hG hr I2.env0 bb (.cons rfl r2) q2) fun res s' hq => ?_
  match res, hq with
  | .error e, z => exact passAt tk σ pins _ _ e s' I2 z
  | .ok (.ret _), z => exact I2.after z
  | .ok .next, z => exact z.elim
  | .ok .brk, z => exact z.elim
  | .ok .cont, z => exact z.elim
structure DCa (P : Program) (w : World) (K : PySem.W.Frag) (mg : Str → Option Value) (base : Heap) (C : Addr) (n : Nat) (k : Nat) (F : FF) : Prop where
  ex : ∃ (f : Addr) (fd : FuncData) (ps : List Str), ps.length = n ∧ FnX P w K mg base k f fd ps (spP n F) ∧ StX.CallO K C f ∧ Binds K fd ps []
def fCallO (C : Addr) (F : FF) (Fo : EF) (A : AF) : EF := fun γ μ => (Fo γ μ).bind fun w m1 => if isC C m1 w = true then (A γ m1).bind fun ws m2 => if isC C m2 w = true then F (w :: ws) m2 else .bad else .bad
theorem pp_callO {n : Nat} (d : DCa X.prog X.w X.K X.mg X.base C n k FF') (hG : X.A.guards = some []) (hr : Room k X.A) (tk : Takes X Wx) (ho : PP X Wx o F) (ha : PPA X Wx (e :: es) A) (hn : ∀ ws μ, ws.length ≠ n → FF' ws μ = .bad := by exact fDef_len)
    (ht : eval (.Call o (e :: es) [] pos) X.env = (do callWith pos (← eval o X.env) [] (backTo pos (starEach (e :: es) X.env)) (backToKw pos (keywordEach [] X.env))) := by rfl)
    (he : starEach (e :: es) X.env = (false, eval e X.env) :: starEach es X.env := by rfl) (hpl : (backTo pos (starEach es X.env)).any (·.1) = false := by rfl) : PP X Wx (.Call o (e :: es) [] pos) (fCallO C FF' F A) := by
  obtain ⟨f, fd, ps, hl, FX, c, hb⟩ := d.ex
  obtain ⟨_, po, ao⟩ := ho
  obtain ⟨_, pa, aa⟩ := ha
  refine ⟨_, pe_callObX po c FX hG hr hb tk pa ht he hpl, fun D as γ μ σ H Q k ev g => ?_⟩
  refine ao D as γ μ σ H _ k ev ((G.bind RepW k g).mono fun x H1 ⟨D1, as1, μ1, w, n1, k1, r1, g1⟩ => ?_)
  split at g1
  · rename_i hx
    obtain ⟨a, dx, fs, rfl, hxa⟩ := isC_ok k1 r1 hx
    refine ⟨a, rfl, aa D1 as1 γ μ1 σ H1 _ k1 (ev.nx n1) ((G.bind RepWs k1 g1).mono fun vs H2 ⟨D2, as2, μ2, ws, n2, k2, r2, g2⟩ => ?_)⟩
    split at g2
    · rename_i hx2
      obtain ⟨a', dx', fs', ea, hxa'⟩ := isC_ok k2 (r1.nx n2) hx2
      cases ea
      refine ⟨⟨dx', fs', hxa'⟩, ?_, D2, as2, w :: ws, μ2, k2, .cons (r1.nx n2) r2, ?_⟩
      · by_cases c : (w :: ws).length = n
        · rw [List.length_cons, r2.length]; exact c
        · rw [hn (w :: ws) μ2 c] at g2
          exact g2.elim
      · cases oo : FF' (w :: ws) μ2 with
        | ok w' m' => rw [oo] at g2; exact g2
        | exc C fs m' => rw [oo] at g2; exact g2
        | bad => rw [oo] at g2; exact g2
    · exact g2.elim
  · exact g1.elim
/-! ### str(x), repr(x) of own objects -/
def fTxtO (C : Addr) (F : FF) : List W → Μ → O W := fun ws μ => match ws with
  | [x] => if isC C μ x = true then ((F [x] μ).nx).bind fun w m => match w with
      | .v (.str z) => .ok (.v (.str z)) m
      | _ => .bad
    else .bad
  | _ => .bad
theorem ad_txtO : AdC Wx (rTextO C (noE (spP 1 FF'))) (fTxtO C FF') := fun D as μ σ H vs ws Q k r g => by
  unfold fTxtO at g
  split at g
  · split at g
    · rename_i x hx
      obtain ⟨v, rfl, rv⟩ := repWs1 r
      obtain ⟨a, dx, fs, rfl, ha⟩ := isC_ok k rv hx
      refine ⟨a, dx, fs, rfl, ha, nowSp k (.cons rv .nil) rfl ((G.bind RepW k g).mono fun v H1 ⟨D1, as1, μ1, w, n1, k1, r1, g1⟩ => ?_)⟩
      split at g1
      · obtain rfl := rep_str r1
        exact ⟨_, rfl, nowV k1 g1 .str⟩
      · exact g1.elim
    · exact g.elim
  · exact g.elim
end
end Pu

set_option Elab.async false
set_option linter.all false
set_option maxRecDepth 100000
set_option maxHeartbeats 4000000
namespace Pu
open L2 PySem PySem.Spec PyProof.Rows E10
/-! ### one rule for several kinds -/
def O.or {α : Type} (o p : O α) : O α := match o with
  | .bad => p
  | o => o
@[simp] theorem O.or_bad {α : Type} (p : O α) : O.bad.or p = p := rfl
@[simp] theorem O.or_ok {α : Type} (a m) (p : O α) : (O.ok a m).or p = .ok a m := rfl
@[simp] theorem O.or_exc {α : Type} (C fs m) (p : O α) : (O.exc C fs m : O α).or p = .exc C fs m := rfl
def f2or (f g : W → W → Μ → O W) : W → W → Μ → O W := fun x y μ => (f x y μ).or (g x y μ)
def fcor (f g : List W → Μ → O W) : List W → Μ → O W := fun ws μ => (f ws μ).or (g ws μ)
theorem G.or {α β : Type} {Wx : WX} {σ : L2.St} {R : RL β α} {D : Addr → Prop} {as : Ps} {H : Hp} {o p : O α} {Q : β → Hp → Prop} (g : G Wx σ R D as H (o.or p) Q) : G Wx σ R D as H o Q ∨ G Wx σ R D as H p Q := by
  cases o with
  | bad => exact .inr g
  | ok a m => exact .inl g
  | exc C fs m => exact .inl g
section
variable {X : Cx} {Wx : WX} {a b e : Expr} {es : List Expr} {F F1 F2 : EF} {A : AF} {pos : Pos}
theorem AdR2.or {r r' : R2} {f g} (h : AdR2 Wx r f) (h' : AdR2 Wx r' g) : AdR2 Wx (fun x y H Q => r x y H Q ∨ r' x y H Q) (f2or f g) := fun D as μ σ H x y a b Q k ra rb gg =>
  (G.or gg).elim (fun z => .inl (h D as μ σ H x y a b Q k ra rb z)) fun z => .inr (h' D as μ σ H x y a b Q k ra rb z)
theorem AdC.or {r r'} {f g} (h : AdC Wx r f) (h' : AdC Wx r' g) : AdC Wx (fun xs H Q => r xs H Q ∨ r' xs H Q) (fcor f g) := fun D as μ σ H vs ws Q k r gg =>
  (G.or gg).elim (fun z => .inl (h D as μ σ H vs ws Q k r z)) fun z => .inr (h' D as μ σ H vs ws Q k r z)
theorem AdSl.or {r r'} {f g : W → Option Int → Option Int → Μ → O W} (h : AdSl Wx r f) (h' : AdSl Wx r' g) : AdSl Wx (fun x lo hi H Q => r x lo hi H Q ∨ r' x lo hi H Q) (fun w lo hi μ => (f w lo hi μ).or (g w lo hi μ)) := fun D as μ σ H x w lo hi Q k r gg =>
  (G.or gg).elim (fun z => .inl (h D as μ σ H x w lo hi Q k r z)) fun z => .inr (h' D as μ σ H x w lo hi Q k r z)
/-! arithmetic -/
abbrev gAdd := f2or fAdd (f2or fCatS fCat)
theorem pp_add (ha : PP X Wx a F1) (hb : PP X Wx b F2) : PP X Wx (.BinOp a .Add b pos) (fOp gAdd F1 F2) := pp_op (op_add.or (op_add_str.or op_catR)) (ad_add.or (ad_catS.or ad_cat)) ha hb
theorem pp_sub (ha : PP X Wx a F1) (hb : PP X Wx b F2) : PP X Wx (.BinOp a .Sub b pos) (fOp fSub F1 F2) := pp_op op_sub ad_sub ha hb
theorem pp_mod (ha : PP X Wx a F1) (hb : PP X Wx b F2) : PP X Wx (.BinOp a .Mod b pos) (fOp fMod F1 F2) := pp_op op_mod ad_mod ha hb
theorem pp_div (ha : PP X Wx a F1) (hb : PP X Wx b F2) : PP X Wx (.BinOp a .FloorDiv b pos) (fOp fDiv F1 F2) := pp_op op_fdiv ad_div ha hb
theorem pp_pow (ha : PP X Wx a F1) (hb : PP X Wx b F2) : PP X Wx (.BinOp a .Pow b pos) (fOp fPow F1 F2) := pp_op op_pow ad_pow ha hb
theorem pp_neg (ha : PP X Wx a F1) : PP X Wx (.UnaryOp .USub a pos) (fUn fNeg F1) := pp_un un_neg ad_neg ha
/-- list * int, text * int -/
def rRepR : R2 := fun x y H Q => ∃ l k xs, x = .ref l ∧ y = .int k ∧ H l = some (.lst xs) ∧ -(2 ^ 63) ≤ k ∧ k < 2 ^ 63 ∧ xs.length * k.toNat ≤ sizeLine ∧ ∀ p, H p = none → Q (.ref p) (upd H p (.lst (List.replicate k.toNat xs).flatten))
/-! comparisons -/
abbrev gLt := f2or (fI0 fun i j => .bl (decide (i < j))) (fSS (fun _ _ => true) fun i j => .bl (strLt i j))
abbrev gLe := f2or (fI0 fun i j => .bl (decide (i ≤ j))) (fSS (fun _ _ => true) fun i j => .bl (leS i j))
abbrev gGt := f2or (fI0 fun i j => .bl (decide (j < i))) (fSS (fun _ _ => true) fun i j => .bl (strLt j i))
abbrev gGe := f2or (fI0 fun i j => .bl (decide (j ≤ i))) (fSS (fun _ _ => true) fun i j => .bl (leS j i))
theorem or_lt : OpR X (compareOp .Lt) (fun x y H Q => rI0 (fun i j => .bl (decide (i < j))) x y H Q ∨ ∃ i j, x = .str i ∧ y = .str j ∧ Q (.bl (decide (i.cps.toList < j.cps.toList))) H) := op_lt.or op_lt_str
theorem ag_lt : AdR2 Wx (fun x y H Q => rI0 (fun i j => .bl (decide (i < j))) x y H Q ∨ ∃ i j, x = .str i ∧ y = .str j ∧ Q (.bl (decide (i.cps.toList < j.cps.toList))) H) gLt := ad_lt.or ad_ltS
theorem or_le : OpR X (compareOp .LtE) (fun x y H Q => rI0 (fun i j => .bl (decide (i ≤ j))) x y H Q ∨ ∃ i j, x = .str i ∧ y = .str j ∧ Q (.bl (!decide (j.cps.toList < i.cps.toList))) H) := op_le.or op_le_str
theorem ag_le : AdR2 Wx (fun x y H Q => rI0 (fun i j => .bl (decide (i ≤ j))) x y H Q ∨ ∃ i j, x = .str i ∧ y = .str j ∧ Q (.bl (!decide (j.cps.toList < i.cps.toList))) H) gLe :=
  ad_le.or (ad_SS fun D H i j Q c h => ⟨_, _, rfl, rfl, h _ .bl⟩)
theorem or_gt : OpR X (compareOp .Gt) (fun x y H Q => rI0 (fun i j => .bl (decide (j < i))) x y H Q ∨ ∃ i j, x = .str i ∧ y = .str j ∧ Q (.bl (decide (j.cps.toList < i.cps.toList))) H) := op_gt.or op_gt_str
theorem ag_gt : AdR2 Wx (fun x y H Q => rI0 (fun i j => .bl (decide (j < i))) x y H Q ∨ ∃ i j, x = .str i ∧ y = .str j ∧ Q (.bl (decide (j.cps.toList < i.cps.toList))) H) gGt :=
  ad_gt.or (ad_SS fun D H i j Q c h => ⟨_, _, rfl, rfl, h _ .bl⟩)
theorem pp_lt (ha : PP X Wx a F1) (hb : PP X Wx b F2) : PP X Wx (.Compare a [.Lt] [b] pos) (fOp gLt F1 F2) := pp_cmp or_lt ag_lt ha hb
theorem pp_le (ha : PP X Wx a F1) (hb : PP X Wx b F2) : PP X Wx (.Compare a [.LtE] [b] pos) (fOp gLe F1 F2) := pp_cmp or_le ag_le ha hb
theorem pp_gt (ha : PP X Wx a F1) (hb : PP X Wx b F2) : PP X Wx (.Compare a [.Gt] [b] pos) (fOp gGt F1 F2) := pp_cmp or_gt ag_gt ha hb
theorem pp_ge (ha : PP X Wx a F1) (hb : PP X Wx b F2) : PP X Wx (.Compare a [.GtE] [b] pos) (fOp (fI0 fun i j => .bl (decide (j ≤ i))) F1 F2) := pp_cmp op_ge ad_ge ha hb
theorem pp_isN (ha : PP X Wx a F1) (hb : PP X Wx b F2) : PP X Wx (.Compare a [.Is] [b] pos) (fOp (fIsN false) F1 F2) := pp_cmp op_isN ad_isN ha hb
theorem pp_notN (ha : PP X Wx a F1) (hb : PP X Wx b F2) : PP X Wx (.Compare a [.IsNot] [b] pos) (fOp (fIsN true) F1 F2) := pp_cmp op_notN ad_notN ha hb
/-! data, compared -/
def mapO {α β : Type} (f : α → Option β) : List α → Option (List β)
  | [] => some []
  | x :: r => (f x).bind fun y => (mapO f r).map (y :: ·)
def toD : Nat → P → Option PyData
  | _, .non => some .none
  | _, .bl b => some (.bool b)
  | _, .int i => some (.int i)
  | _, .str x => some (.str x)
  | n + 1, .lst ps => (mapO (toD n) ps).map .list
  | n + 1, .tup ps => (mapO (toD n) ps).map .tuple
  | _, _ => none
theorem toD_ok {K : PySem.W.Frag} {D : Addr → Prop} {H : Hp} : ∀ {n : Nat} {v : V} {p : P} {d : PyData}, Rep D H v p → toD n p = some d → Dp K H v d := by
  intro n
  induction n with
  | zero =>
    intro v p d r h
    cases r <;> cases h <;> first | exact .non | exact .bl _ | exact .int _ | exact .str _
  | succ n ih =>
    have all : ∀ {vs ps ds}, Reps D H vs ps → mapO (toD n) ps = some ds → DpAll K H vs ds := by
      intro vs ps ds r
      induction ps generalizing vs ds with
      | nil => intro h; cases r; cases h; exact .nil
      | cons p ps ih2 =>
        intro h
        cases r with
        | cons r t =>
          obtain ⟨d, e1, e2⟩ := Option.bind_eq_some_iff.mp h
          obtain ⟨ds', e3, rfl⟩ := Option.map_eq_some_iff.mp e2
          exact .cons (ih r e1) (ih2 t e3)
    intro v p d r h
    cases r with
    | non => cases h; exact .non
    | bl => cases h; exact .bl _
    | int => cases h; exact .int _
    | str => cases h; exact .str _
    | lst _ hr rs =>
      obtain ⟨ds, e, rfl⟩ := Option.map_eq_some_iff.mp h
      exact .lst (.inl hr) (all rs e)
    | tup _ hr rs =>
      obtain ⟨ds, e, rfl⟩ := Option.map_eq_some_iff.mp h
      exact .tup (.inl hr) (all rs e)
    | _ => cases h
def frzV (μ : Μ) : W → Option P
  | .v p => some p
  | .loc j => (μ[j]?).bind PC.p
theorem toD_okW {K : PySem.W.Frag} {D as H} {μ : Μ} {v : V} {w : W} {n : Nat} {d : PyData} (k : Sk D as H μ) (r : RepW D as H v w) (h : (frzV μ w).bind (toD n) = some d) : Dp K H v d := by
  obtain ⟨p, e1, e2⟩ := Option.bind_eq_some_iff.mp h
  cases w with
  | v q => cases e1; exact toD_ok r e2
  | loc j =>
    obtain ⟨c, q, e3⟩ := Option.bind_eq_some_iff.mp e1
    obtain ⟨a, ea, rfl⟩ := r
    obtain ⟨c', q', x⟩ := k.ok j a ea
    rw [q] at q'
    cases q'
    cases c with
    | lst ps =>
      cases e3
      obtain ⟨xs, hx, rs⟩ := x
      exact toD_ok (D := fun _ => False) (.lst (fun z => z) (.inl hx) (Reps.sd ⟨fun _ _ _ _ z => z, fun _ _ _ z => z, fun _ _ _ z _ => z⟩ rs)) e2
    | dct ps => cases e3; cases n <;> cases e2
    | ins C ps => cases e3; cases n <;> cases e2
    | dead => cases e3
def fEqD (neg : Bool) : W → W → Μ → O W := fun x y μ => match (frzV μ x).bind (toD 6), (frzV μ y).bind (toD 6) with
  | some d, some e => if SeqAt.shaped d = true ∧ SeqAt.shaped e = true then .ok (.v (.bl (PyData.eqv d e != neg))) μ else .bad
  | _, _ => .bad
theorem ad_eqD {K : PySem.W.Frag} : AdR2 Wx (rEqD K) (fEqD false) := fun D as μ σ H x y wx wy Q k ra rb g => by
  unfold fEqD at g
  split at g
  · rename_i d e h1 h2
    split at g
    · rename_i hs
      refine ⟨d, e, toD_okW k ra h1, toD_okW k rb h2, hs.1, hs.2, ?_⟩
      have := nowV (x := .bl (PyData.eqv d e != false)) k g .bl
      simpa using this
    · exact g.elim
  · exact g.elim
theorem ad_neD {K : PySem.W.Frag} : AdR2 Wx (rNeD K) (fEqD true) := fun D as μ σ H x y wx wy Q k ra rb g => by
  unfold fEqD at g
  split at g
  · rename_i d e h1 h2
    split at g
    · rename_i hs
      refine ⟨d, e, toD_okW k ra h1, toD_okW k rb h2, hs.1, hs.2, ?_⟩
      have := nowV (x := .bl (PyData.eqv d e != true)) k g .bl
      simpa using this
    · exact g.elim
  · exact g.elim
/-! dicts of flat values, compared -/
def hitP (l : List (Key × P)) : List (Key × P) → Bool
  | [] => true
  | (k, p) :: r => match valP l k with
    | some q => eqF p q && hitP l r
    | none => false
def eqK (x y : List (Key × P)) : Bool := x.length == y.length && hitP y x
theorem hits_rep {D : Addr → Prop} {H : Hp} {A : Around} {s : Shared} {ls : List (Key × V)} {vb : List (Key × Value)} {lp : List (Key × P)} (rb : KV ls vb) (rl : RepK D H ls lp) (fl : lp.all (fun kp => flatP kp.2) = true) :
    ∀ {ks : List (Key × V)} {va : List (Key × Value)} {kp : List (Key × P)}, KV ks va → RepK D H ks kp → kp.all (fun x => flatP x.2) = true → PySem.W.KeqHits A s vb va (hitP lp kp)
  | _, _, _, .nil, .nil, _ => .nil
  | _, _, _, @Paired.cons _ _ _ (k, v) (k2, u) ps qs h t, @RepK.cons _ _ _ _ p _ m r t', fk => by
    obtain ⟨h1, h2⟩ := h
    simp only at h1 h2
    subst h1
    rw [List.all_cons, Bool.and_eq_true] at fk
    have ih := hits_rep (A := A) (s := s) rb rl fl t t' fk.2
    have ro := rb.val k
    cases e : valP lp k with
    | none =>
      have z := rl.val_none e
      rw [z] at ro
      have : valueAt vb k = none := by
        cases q : valueAt vb k with
        | none => rfl
        | some y => rw [q] at ro; exact ro.elim
      simp only [hitP, e]
      exact .miss this
    | some q =>
      obtain ⟨y, hy, ry⟩ := rl.val e
      rw [hy] at ro
      obtain ⟨u', hu', ru'⟩ := RelO.some_of ro
      simp only [hitP, e]
      have fq : flatP q = true := by
        unfold valP at e
        obtain ⟨kq, h3, rfl⟩ := Option.map_eq_some_iff.mp e
        exact List.all_eq_true.mp fl kq (List.mem_of_find?_eq_some h3)
      have e1 := (eqF_ok r ry fk.1 fq)
      have f2 := (eqF_ok ry ry fq fq).1
      rw [← e1.2]
      exact .hit hu' (eqAt_V h2 ru' e1.1 f2) ih
def rEqK : R2 := fun x y H Q => ∃ D a b xs ys ps qs, x = .ref a ∧ y = .ref b ∧ Rd H a (.dK xs) ∧ Rd H b (.dK ys) ∧ RepK D H xs ps ∧ RepK D H ys qs ∧ ps.all (fun x => flatP x.2) = true ∧ qs.all (fun x => flatP x.2) = true ∧ Q (.bl (eqK ps qs)) H
def rNeK : R2 := fun x y H Q => ∃ D a b xs ys ps qs, x = .ref a ∧ y = .ref b ∧ Rd H a (.dK xs) ∧ Rd H b (.dK ys) ∧ RepK D H xs ps ∧ RepK D H ys qs ∧ ps.all (fun x => flatP x.2) = true ∧ qs.all (fun x => flatP x.2) = true ∧ Q (.bl (!eqK ps qs)) H
theorem op_eqK (hu : X.A.units < cLine) : OpR X (compareOp .Eq) rEqK := by
  intro pins s σ H x y v u Q I rx ry h
  obtain ⟨D, a, b, xs, ys, ps, qs, rfl, rfl, ha, hb, rp, rq, fp, fq, q⟩ := h
  cases (show v = Value.ref a from rx)
  cases (show u = Value.ref b from ry)
  obtain ⟨_, za, va, ra, da⟩ := dk_rd I.hok ha
  obtain ⟨_, zb, vb, rb, db⟩ := dk_rd I.hok hb
  refine PySem.W.keq_eq (knd := mixKind X.prog X.w) za zb da db hu (fun _ => hits_rep rb rq fq ra rp fp) ⟨.bl (eqK ps qs), H, I, ?_, q⟩
  show Value.bool _ = Value.bool _
  unfold eqK
  rw [← rp.length, ← rq.length, ra.length, rb.length]
theorem op_neK (hu : X.A.units < cLine) : OpR X (compareOp .NotEq) rNeK := by
  intro pins s σ H x y v u Q I rx ry h
  obtain ⟨D, a, b, xs, ys, ps, qs, rfl, rfl, ha, hb, rp, rq, fp, fq, q⟩ := h
  cases (show v = Value.ref a from rx)
  cases (show u = Value.ref b from ry)
  obtain ⟨_, za, va, ra, da⟩ := dk_rd I.hok ha
  obtain ⟨_, zb, vb, rb, db⟩ := dk_rd I.hok hb
  refine PySem.W.keq_ne (knd := mixKind X.prog X.w) za zb da db hu (fun _ => hits_rep rb rq fq ra rp fp) ⟨.bl (!eqK ps qs), H, I, ?_, q⟩
  show Value.bool _ = Value.bool _
  unfold eqK
  rw [← rp.length, ← rq.length, ra.length, rb.length]
def fEqK (neg : Bool) : W → W → Μ → O W := fun x y μ => match rdD μ x, rdD μ y with
  | some ps, some qs => if ps.all (fun x => flatP x.2) = true ∧ qs.all (fun x => flatP x.2) = true then .ok (.v (.bl (eqK ps qs != neg))) μ else .bad
  | _, _ => .bad
theorem ad_eqK : AdR2 Wx rEqK (fEqK false) := fun D as μ σ H x y wx wy Q k ra rb g => by
  unfold fEqK at g
  split at g
  · rename_i ps qs h1 h2
    split at g
    · rename_i hs
      obtain ⟨a, xs, rfl, ha, rp⟩ := rdD_ok k ra h1
      obtain ⟨b, ys, rfl, hb, rq⟩ := rdD_ok k rb h2
      refine ⟨D, a, b, xs, ys, ps, qs, rfl, rfl, ha, hb, rp, rq, hs.1, hs.2, ?_⟩
      have := nowV (x := .bl (eqK ps qs != false)) k g .bl
      simpa using this
    · exact g.elim
  · exact g.elim
theorem ad_neK : AdR2 Wx rNeK (fEqK true) := fun D as μ σ H x y wx wy Q k ra rb g => by
  unfold fEqK at g
  split at g
  · rename_i ps qs h1 h2
    split at g
    · rename_i hs
      obtain ⟨a, xs, rfl, ha, rp⟩ := rdD_ok k ra h1
      obtain ⟨b, ys, rfl, hb, rq⟩ := rdD_ok k rb h2
      refine ⟨D, a, b, xs, ys, ps, qs, rfl, rfl, ha, hb, rp, rq, hs.1, hs.2, ?_⟩
      have := nowV (x := .bl (eqK ps qs != true)) k g .bl
      simpa using this
    · exact g.elim
  · exact g.elim
abbrev gEq := f2or (fEqS false) (f2or (fEqK false) (fEqD false))
abbrev gNe := f2or (fEqS true) (f2or (fEqK true) (fEqD true))
theorem pp_eq (hu : X.A.units + 64 < cLine) (ha : PP X Wx a F1) (hb : PP X Wx b F2) : PP X Wx (.Compare a [.Eq] [b] pos) (fOp gEq F1 F2) := pp_cmp (op_eq.or ((op_eqK (by omega)).or (op_eqD hu))) (ad_eqS.or (ad_eqK.or ad_eqD)) ha hb
theorem pp_ne (hu : X.A.units + 64 < cLine) (ha : PP X Wx a F1) (hb : PP X Wx b F2) : PP X Wx (.Compare a [.NotEq] [b] pos) (fOp gNe F1 F2) := pp_cmp (op_ne.or ((op_neK (by omega)).or (op_neD hu))) (ad_neS.or (ad_neK.or ad_neD)) ha hb
/-! in -/
theorem op_dinR (hu : X.A.units + 1 < cLine) : OpR X (compareOp .In) (fun y x H Q => ∃ a o, x = .ref a ∧ DGet H a y o ∧ Q (.bl (o.isSome != false)) H) := by
  intro pins s σ H y x v u Q I ry rx h
  obtain ⟨a, o, rfl, g, q⟩ := h
  cases (show u = Value.ref a from rx)
  exact d_in hu I g ry fun s' I' => ⟨.bl o.isSome, H, I', rfl, by simpa using q⟩
theorem op_dnotinR (hu : X.A.units + 1 < cLine) : OpR X (compareOp .NotIn) (fun y x H Q => ∃ a o, x = .ref a ∧ DGet H a y o ∧ Q (.bl (o.isSome != true)) H) := by
  intro pins s σ H y x v u Q I ry rx h
  obtain ⟨a, o, rfl, g, q⟩ := h
  cases (show u = Value.ref a from rx)
  exact d_notIn hu I g ry fun s' I' => ⟨.bl (!o.isSome), H, I', rfl, by simpa using q⟩
end
end Pu

set_option Elab.async false
set_option linter.all false
set_option maxRecDepth 100000
set_option maxHeartbeats 4000000
namespace Pu
open L2 PySem PySem.Spec PyProof.Rows E10
section
variable {X : Cx} {Wx : WX} {a b e tg : Expr} {es : List Expr} {F F1 F2 : EF} {A : AF} {pos p : Pos}
abbrev gIn (neg : Bool) := f2or (fIn neg) (fDIn neg)
theorem pp_in (hu : X.A.units + 1 < cLine) (ha : PP X Wx a F1) (hb : PP X Wx b F2) (hm : behindInMarks .In b = false := by rfl) : PP X Wx (.Compare a [.In] [b] pos) (fOp (gIn false) F1 F2) := pp_cmp (op_in_seq.or (op_dinR hu)) (ad_in.or ad_dinR) ha hb hm
theorem pp_notIn (hu : X.A.units + 1 < cLine) (ha : PP X Wx a F1) (hb : PP X Wx b F2) (hm : behindInMarks .NotIn b = false := by rfl) : PP X Wx (.Compare a [.NotIn] [b] pos) (fOp (gIn true) F1 F2) := pp_cmp (op_notIn_seq.or (op_dnotinR hu)) (ad_in.or ad_dinR) ha hb hm
/-- a[b] -/
abbrev gIx := f2or fIxL (f2or fIxT (f2or fIxS fDGet))
theorem pe_or {t t' : TE} (h : PE X e t) (h' : PE X e t') : PE X e (fun σ H Q => t σ H Q ∨ t' σ H Q) := ⟨fun pins s σ H Q I z => z.elim (h.run pins s σ H Q I) (h'.run pins s σ H Q I)⟩
theorem pp_alt (h : PP X Wx e F1) (h' : PP X Wx e F2) : PP X Wx e (fun γ μ => (F1 γ μ).or (F2 γ μ)) := let ⟨_, p, a⟩ := h; let ⟨_, p', a'⟩ := h'; ⟨_, pe_or p p', fun D as γ μ σ H Q k ev g => (G.or g).elim (fun z => .inl (a D as γ μ σ H Q k ev z)) fun z => .inr (a' D as γ μ σ H Q k ev z)⟩
theorem pp_eqF (h : PP X Wx e F1) (q : F2 = F1) : PP X Wx e F2 := q ▸ h
theorem ad_ixOr : AdR2 Wx (fun x y H Q => rIxL X.K x y H Q ∨ rIxT X.K x y H Q ∨ rIxS x y H Q) (f2or fIxL (f2or fIxT fIxS)) := ad_ixL.or (ad_ixT.or ad_ixS)
theorem bind_or {α β : Type} (o : O α) (f g : α → Μ → O β) : (o.bind f).or (o.bind g) = o.bind fun a m => (f a m).or (g a m) := by
  cases o <;> rfl
theorem fOp_or (f g : W → W → Μ → O W) (A B : EF) : fOp (f2or f g) A B = fun γ μ => (fOp f A B γ μ).or (fOp g A B γ μ) := by
  funext γ μ
  unfold fOp f2or
  rw [bind_or]
  congr 1
  funext x m
  rw [bind_or]
theorem O.or_assoc {α : Type} (a b c : O α) : (a.or b).or c = a.or (b.or c) := by cases a <;> rfl
theorem pp_idx (hu : X.A.units + 1 < cLine) (ha : PP X Wx a F1) (hb : PP X Wx b F2) (hs : PlainIx b := by exact fun _ _ => rfl) (hs2 : NoSl b := by exact fun _ _ => rfl) : PP X Wx (.Subscript a b pos) (fOp gIx F1 F2) := by
  have h1 : PP X Wx (.Subscript a b pos) (fOp (f2or fIxL (f2or fIxT fIxS)) F1 F2) := pp_ix (ix_list.or (ix_tup.or ix_str)) ad_ixOr ha hb hs
  have h2 : PP X Wx (.Subscript a b pos) (fOp fDGet F1 F2) := pp_dget hu ha hb hs2
  refine pp_eqF (pp_alt h1 h2) ?_
  funext γ μ
  rw [← congrFun (congrFun (fOp_or (f2or fIxL (f2or fIxT fIxS)) fDGet F1 F2) γ) μ]
  congr 1
  funext x y m
  show ((fIxL x y m).or ((fIxT x y m).or ((fIxS x y m).or (fDGet x y m)))) = ((fIxL x y m).or ((fIxT x y m).or (fIxS x y m))).or (fDGet x y m)
  rw [O.or_assoc, O.or_assoc]
/-- len -/
abbrev gLen := fcor fLenS (fcor fLenL fLenD)
theorem pp_len {x : Str} (hg : Gl X x) (hm : X.mg x = none) (hv : bootBuiltins x = some (.builtin "len")) (ha : PPA X Wx (e :: es) A) (hn : x ≠ "__name__" := by decide) (hdb : (x == ("__debug__" : Str)) = false := by decide)
    (he : starEach (e :: es) X.env = (false, eval e X.env) :: starEach es X.env := by rfl) (hpl : (backTo pos (starEach es X.env)).any (·.1) = false := by rfl) : PP X Wx (.Call (.Name x p) (e :: es) [] pos) (fCall gLen A) :=
  pp_callB (call_len_str.or (call_len_seq.or call_lenDr)) hg hm hv (ad_lenS.or (ad_lenL.or ad_lenD)) ha hn hdb he hpl
/-- what is walked -/
def iAny (F : EF) : IF := fun γ μ => (F γ μ).bind fun w m => match w with
  | .v (.lst ps) => few ps m
  | .v (.tup ps) => few ps m
  | .v (.str z) => few (chrP z) m
  | .v (.dct kvs) => few (kvs.map fun kp => keyOf kp.1) m
  | _ => .bad
theorem ppi_any (h : PP X Wx e F) : PPI X Wx tg e (iAny F) := by
  obtain ⟨te, p, ad⟩ := h
  refine ⟨fun σ H R => iList X.K te σ H R ∨ iTup X.K te σ H R ∨ iStr te σ H R ∨ iKeys (tFrz te) σ H R, ⟨fun pins s σ H R I h => ?_⟩, fun D as γ μ σ H R k ev g => ?_⟩
  · rcases h with h | h | h | h
    · exact (pi_list p).run pins s σ H R I h
    · exact (pi_tup p).run pins s σ H R I h
    · exact (pi_str p).run pins s σ H R I h
    · exact (pi_keys (pe_frz p)).run pins s σ H R I h
  · unfold iAny at g
    cases o : F γ μ with
    | bad => rw [o] at g; exact g.elim
    | exc C fs m => refine .inl (ad_iList ad D as γ μ σ H R k ev ?_); unfold iLst; rw [o] at g ⊢; exact g
    | ok w m =>
      rw [o] at g
      simp only [O.bind_ok] at g
      split at g
      · exact .inl (ad_iList ad D as γ μ σ H R k ev (by unfold iLst; rw [o]; exact g))
      · exact .inr (.inl (ad_iTup ad D as γ μ σ H R k ev (by unfold iTupP; rw [o]; exact g)))
      · exact .inr (.inr (.inl (ad_iStr ad D as γ μ σ H R k ev (by unfold iStrP; rw [o]; exact g))))
      · exact .inr (.inr (.inr (ad_iKeys ad D as γ μ σ H R k ev (by unfold iKeysP iDct; rw [o]; exact g))))
      · exact g.elim
/-- slices -/
abbrev gSl : W → Option Int → Option Int → Μ → O W := fun w lo hi μ => (fSlL w lo hi μ).or (fSlS w lo hi μ)
theorem pp_sl {lo hi : Option Expr} {L Hi : OF} {p2 : Pos} (he : PP X Wx e F) (hl : PPO X Wx lo L) (hu : PPO X Wx hi Hi) : PP X Wx (.Subscript e (.Slice lo hi none p2) pos) (fSl gSl F L Hi) := pp_slice (sl_list.or sl_str) (ad_slL.or ad_slS) he hl hu
/-- dict, list, tuple, sorted, min, max, int -/
abbrev gDict (c : Kind) := fcor (fDictD c) (fDictP c)
abbrev gList (c : Kind) := fcor (fListL c) (fListD c)
abbrev gTupB := fcor fTupL fTupD
abbrev gSort := fcor fSortS fSortD
abbrev gMin := fcor fMin2 fMinL
abbrev gMax := fcor fMax2 fMaxL
section
variable {x : Str}
theorem b_dict : bootBuiltins "dict" = some (.type "dict") := by decide +kernel
theorem b_list : bootBuiltins "list" = some (.type "list") := by decide +kernel
theorem b_tuple : bootBuiltins "tuple" = some (.type "tuple") := by decide +kernel
theorem b_int : bootBuiltins "int" = some (.type "int") := by decide +kernel
theorem b_str : bootBuiltins "str" = some (.type "str") := by decide +kernel
theorem b_bool : bootBuiltins "bool" = some (.type "bool") := by decide +kernel
theorem b_sorted : bootBuiltins "sorted" = some (.builtin "sorted") := by decide +kernel
theorem b_min : bootBuiltins "min" = some (.builtin "min") := by decide +kernel
theorem b_max : bootBuiltins "max" = some (.builtin "max") := by decide +kernel
theorem b_sum : bootBuiltins "sum" = some (.builtin "sum") := by decide +kernel
theorem b_abs : bootBuiltins "abs" = some (.builtin "abs") := by decide +kernel
theorem b_len : bootBuiltins "len" = some (.builtin "len") := by decide +kernel
theorem b_all : bootBuiltins "all" = some (.builtin "all") := by decide +kernel
theorem b_any : bootBuiltins "any" = some (.builtin "any") := by decide +kernel
theorem b_divmod : bootBuiltins "divmod" = some (.builtin "divmod") := by decide +kernel
theorem b_isi : bootBuiltins "isinstance" = some (.builtin "isinstance") := by decide +kernel
theorem b_repr : bootBuiltins "repr" = some (.builtin "repr") := by decide +kernel
theorem b_set : bootBuiltins "set" = some (.type "set") := by decide +kernel
end
end
end Pu

set_option Elab.async false
set_option linter.all false
set_option maxRecDepth 100000
set_option maxHeartbeats 4000000
/-! ### sets of texts: filled from a dict, joined -/
namespace E10
open L2 PySem PySem.Spec PyProof.Rows
theorem SetT.perm {P : Program} {w : World} {h : Heap} {a : Addr} {zs ys : List Str} (R : SetT P w h a zs) (pm : zs.Perm ys) : SetT P w h a ys := by
  obtain ⟨o, es, ep, t, h1, h2, h3, D⟩ := R
  exact ⟨o, es, ep, t, h1, h2, h3, D.good, D.perm.trans pm, pm.nodup_iff.mp D.nd, pm.length_eq ▸ D.few, D.fits, D.ris, D.led⟩
theorem SetT.nodup {P : Program} {w : World} {h : Heap} {a : Addr} {zs : List Str} (R : SetT P w h a zs) : zs.Nodup := by
  obtain ⟨o, es, ep, t, h1, h2, h3, D⟩ := R
  exact D.nd
theorem insAll_perm {acc xs ys : List Str} (nd : acc.Nodup) (pm : xs.Perm ys) : (insAll acc xs).Perm (insAll acc ys) :=
  (List.perm_ext_iff_of_nodup (insAll_nd nd) (insAll_nd nd)).mpr fun z => by rw [insAll_mem, insAll_mem, pm.mem_iff]
section
variable {P : Program} {w : World} {A : Around} {E : Value → Shared → Prop} {s : Shared} {r o : Addr} {zs ys : List Str}
theorem quietS : ∀ (l : List Addr) (s : Shared) (Q : Bool → Shared → Prop), (∀ a ∈ l, ∃ zs, SetT P w s.heap a zs) → Q true s → wpAny (model P w) A (setsQuiet l) Q E s := by
  intro l s Q h q
  unfold setsQuiet
  refine wpAny_bind (wpAny_forIn_list _ (fun rest b s' => s' = s ∧ b = (none, PUnit.unit) ∧ ∀ a ∈ rest, ∃ zs, SetT P w s.heap a zs) _ ?_ ?_ l _ ⟨rfl, rfl, h⟩)
  · rintro a rest b s' ⟨rfl, rfl, hr⟩
    obtain ⟨zs, o, es, ep, t, ho, _, hd, D⟩ := hr a List.mem_cons_self
    refine wpAny_bind (wpAny_setEntries_of ho hd D.fits ?_)
    rw [← Array.forIn_toList]
    refine wpAny_bind (wpAny_mono (wpAny_forIn_list _ (fun rest b s2 => s2 = s' ∧ b = (none, PUnit.unit) ∧ ∀ e ∈ rest, GoodT P w e) (fun b s2 => s2 = s' ∧ b = (none, PUnit.unit)) ?_ ?_ _ _ ⟨rfl, rfl, D.good⟩) (fun b s2 ⟨e1, e2⟩ => ?_) fun _ _ h => h)
    · rintro e rest2 b s2 ⟨rfl, rfl, hg⟩
      obtain ⟨z, tk, e2, _⟩ := hg e List.mem_cons_self
      obtain ⟨e1, e3⟩ := e
      cases (show e3 = _ from e2)
      exact wpAny_pure ⟨rfl, rfl, fun x m => hg x (List.mem_cons_of_mem _ m)⟩
    · rintro b s2 ⟨rfl, rfl, _⟩
      exact ⟨rfl, rfl⟩
    · subst e1
      subst e2
      exact wpAny_pure ⟨rfl, rfl, fun x m => hr x (List.mem_cons_of_mem _ m)⟩
  · rintro b s' ⟨rfl, rfl, _⟩
    exact wpAny_pure q
theorem walkU {Q : Array (Int × Value) → Shared → Prop} {oo : Obj} {eo : Array (Int × Value)} {epo : Nat} {to : SetTable} (ho : s.heap.get? o = some oo) (hx : oo.ExactSet) (hdo : oo.data = .set eo epo to) (O : SetD P w eo to ys) (R : SetT P w s.heap r zs)
    (hQ : ∀ (es : Array (Int × Value)) (h' : Heap) (d : _), es.toList.Perm eo.toList → Heap.SameBut r s.heap h' → SetT P w h' r zs → Q es { s with heap := h', drawn := d }) : wpAny (model P w) A (setWalkUnseen o [r] (some r)) Q E s := by
  have walk : wpAny (model P w) A (setWalk o) Q E s := by
    unfold setWalk
    refine wpAny_bind (wpAny_setState_of ho hdo O.fits ?_)
    dsimp only
    refine wpAny_bind (wpAny_byText ?_)
    cases bt : w.params.followText "set-order" with
    | true =>
      simp only [↓reduceIte]
      refine wpAny_bind (wpAny_askSetting ?_)
      exact wpAny_pure (hQ _ s.heap s.drawn (pick_perm _ _) (Heap.SameBut.refl _ _) R)
    | false =>
      simp only [Bool.false_eq_true, ↓reduceIte]
      split
      · refine wpAny_bind (drawOrder_at _ _ _ _ (by rw [Array.length_toList]; exact Nat.le_refl _) fun us d pm => ?_)
        exact wpAny_pure (hQ _ s.heap d (by simpa using pm) (Heap.SameBut.refl _ _) R)
      · have led : to.led = true := O.led.elim (fun z => by rw [bt] at z; cases z) id
        refine wpAny_bind (m := (do if (!to.led && decide (eo.size > 1)) = true then unsupported "set:maker-not-led" : Sem Unit)) ?_
        simp only [led, Bool.not_true, Bool.false_and, Bool.false_eq_true, ↓reduceIte]
        exact wpAny_pure (wpAny_pure (hQ _ s.heap s.drawn (List.Perm.refl _) (Heap.SameBut.refl _ _) R))
  unfold setWalkUnseen
  refine wpAny_bind (wpAny_setState_of ho hdo O.fits ?_)
  dsimp only
  refine wpAny_bind (wpAny_byText ?_)
  split
  · exact walk
  · rename_i nb
    refine wpAny_bind (quietS _ _ _ (fun a m => ?_) ?_)
    · rcases List.mem_cons.mp m with rfl | m
      · exact ⟨ys, _, _, _, _, ho, hx, hdo, O⟩
      · cases List.mem_singleton.mp m
        exact ⟨zs, R⟩
    · simp only [Bool.not_true, Bool.false_eq_true, ↓reduceIte]
      refine wpAny_bind (wpAny_rule ?_)
      obtain ⟨oR, er, epr, tr, hor, hexr, hdr, DR⟩ := id R
      refine wpAny_bind (wpAny_setState_of hor hdr DR.fits ?_)
      dsimp only
      split
      · refine wpAny_bind (wpAny_storeSet_of hor hdr ?_ (fits_of_scanBound (by rw [DR.size]; exact DR.few)))
        refine wpAny_pure (hQ _ _ s.drawn (List.Perm.refl _) (Heap.SameBut.update _ r _) ⟨_, er, _, _, put_at hor hdr, hexr, rfl, DR.good, DR.perm, DR.nd, DR.few, ?_, DR.ris, ?_⟩)
        · exact DR.fits
        · rw [Bool.or_eq_true, Bool.or_eq_true, not_or, not_or] at nb
          exact .inr (Bool.and_eq_true_iff.mpr ⟨DR.led.elim (fun z => absurd z nb.1.1) id, O.led.elim (fun z => absurd z nb.1.1) id⟩)
      · exact wpAny_pure (hQ _ s.heap s.drawn (List.Perm.refl _) (Heap.SameBut.refl _ _) R)
/-- entries, one by one -/
theorem putAll (step : (Int × Value) → Sem (ForInStep PUnit))
    (hstep : ∀ (e : Int × Value) (acc : List Str) (s1 : Shared) (R1 : Shared → Prop), GoodT P w e → Heap.SameBut r s.heap s1.heap → SetT P w s1.heap r acc → acc.length + 1 < scanBound → (∀ s2, Heap.SameBut r s.heap s2.heap → s2.gens = s1.gens → s2.drawn = s1.drawn → s2.toks = s1.toks → s2.os = s1.os → SetT P w s2.heap r (insT acc (txtOf e)) → R1 s2) →
      wpAny (model P w) A (step e) (fun q s2 => q = .yield PUnit.unit ∧ R1 s2) E s1) :
    ∀ (l : List (Int × Value)) (acc : List Str) (s1 : Shared) (R1 : Unit → Shared → Prop), (∀ e ∈ l, GoodT P w e) → Heap.SameBut r s.heap s1.heap → SetT P w s1.heap r acc → acc.length + l.length + 1 < scanBound →
      (∀ s2, Heap.SameBut r s.heap s2.heap → s2.gens = s1.gens → s2.drawn = s1.drawn → s2.toks = s1.toks → s2.os = s1.os → SetT P w s2.heap r (insAll acc (l.map txtOf)) → R1 () s2) →
      wpAny (model P w) A (forIn l PUnit.unit fun e _ => step e) (fun _ s2 => R1 () s2) E s1 := by
  intro l
  induction l with
  | nil =>
    intro acc s1 R1 hg sb hS room h
    exact wpAny_pure (h s1 sb rfl rfl rfl rfl hS)
  | cons e l ih =>
    intro acc s1 R1 hg sb hS room h
    rw [List.forIn_cons]
    rw [List.length_cons] at room
    refine wpAny_bind (wpAny_mono (hstep e acc s1 (fun s2 => wpAny (model P w) A (forIn l PUnit.unit fun e _ => step e) (fun _ s2 => R1 () s2) E s2) (hg e List.mem_cons_self) sb hS (by omega) fun s2 sb2 g2 d2 t2 o2 hS2 => ?_) (fun q s2 ⟨e1, z⟩ => ?_) fun _ _ h => h)
    · have := insT_len acc (txtOf e)
      exact ih _ _ _ (fun x m => hg x (List.mem_cons_of_mem _ m)) sb2 hS2 (by omega) fun s3 a b c d f g => h s3 a (b.trans g2) (c.trans d2) (d.trans t2) (f.trans o2) g
    · subst e1
      exact z
theorem addE {e : Int × Value} {acc : List Str} {s1 : Shared} {Q : Bool → Shared → Prop} (g : GoodT P w e) (R : SetT P w s1.heap r acc) (room : acc.length + 1 < scanBound)
    (hQ : ∀ h' b, Heap.SameBut r s1.heap h' → SetT P w h' r (insT acc (txtOf e)) → Q b { s1 with heap := h' }) : wpAny (model P w) A (holding [e.2] (setAddHashed r e.2 e.1)) Q E s1 := by
  obtain ⟨z, tk, e2, e1⟩ := g
  obtain ⟨h0, v0⟩ := e
  cases (show v0 = _ from e2)
  cases (show h0 = _ from e1)
  exact wpAny_holding (addT R room hQ)
/-- one by one into r, which is not empty -/
theorem joinT {each : Sem Unit} {Q : Unit → Shared → Prop} (R : SetT P w s.heap r zs) (O : SetT P w s.heap o ys) (ne : r ≠ o) (n0 : zs ≠ []) (few : (zs.length + ys.length) * 2 < 64)
    (hE : ∀ (s' : Shared) (R' : Unit → Shared → Prop), Heap.SameBut r s.heap s'.heap → R' () s' → wpAny (model P w) A each R' E s')
    (hQ : ∀ h' d, Heap.SameBut r s.heap h' → SetT P w h' r (insAll zs ys) → Q () { s with heap := h', drawn := d }) : wpAny (model P w) A (setMerge r o each) Q E s := by
  obtain ⟨oo, eo, epo, to, ho, hexo, hdo, D⟩ := id O
  unfold setMerge
  rw [show (r == o) = false from beq_eq_false_iff_ne.mpr ne]
  simp only [Bool.false_eq_true, ↓reduceIte]
  refine wpAny_bind (wpAny_setState_of ho hdo D.fits ?_)
  dsimp only
  by_cases em : eo.isEmpty = true
  · rw [if_pos em]
    have z : ys = [] := by
      have q := D.size
      rw [Array.isEmpty_iff_size_eq_zero.mp em] at q
      exact List.eq_nil_of_length_eq_zero q.symm
    subst z
    exact wpAny_pure (hQ _ s.drawn (Heap.SameBut.refl r s.heap) R)
  · rw [if_neg em]
    refine wpAny_bind (roomT (more := eo.size) R (by rw [D.size]; exact few) fun h1 sb1 R1 => ?_)
    obtain ⟨o1, es1, ep1, t1, ho1, hex1, hd1, D1⟩ := id R1
    refine wpAny_bind (wpAny_setState_of (s := { s with heap := h1 }) ho1 hd1 D1.fits ?_)
    dsimp only
    have fl : (t1.fill != 0) = true := by
      have q := D1.fits
      unfold SetTable.fits at q
      rw [Bool.and_eq_true] at q
      have q1 : t1.place.size = es1.size := eq_of_beq q.1
      unfold SetTable.fill
      rw [q1, D1.size]
      have e2 : zs.length ≠ 0 := fun e => n0 (List.eq_nil_of_length_eq_zero e)
      exact bne_iff_ne.mpr (by omega)
    unfold SetTable.road
    rw [fl]
    simp only [↓reduceIte]
    have ho2 : h1.get? o = some oo := (sb1.2 o (fun e => ne e.symm)).trans ho
    refine wpAny_bind (walkU (s := { s with heap := h1 }) ho2 hexo hdo D R1 fun es h2 d pm sb2 R2 => ?_)
    rw [← Array.forIn_toList]
    have sb12 := sb1.trans sb2
    refine wpAny_bind (wpAny_mono (putAll (s := s) (r := r) _ ?_ es.toList zs { s with heap := h2, drawn := d } (fun u s' => Q u s') (fun e m => D.good e (pm.mem_iff.mp m)) sb12 R2 ?_ fun s2 sb g1 d1 t1 o1 hS => ?_) (fun _ _ h => wpAny_pure h) fun _ _ h => h)
    · intro e acc s1 R1' g sb3 hS room hR
      refine wpAny_bind (addE g hS room fun h' b sb4 hS4 => ?_)
      refine wpAny_bind (hE _ _ (sb3.trans sb4) ?_)
      have ho4 : h'.get? o = some oo := ((sb3.trans sb4).2 o (fun e => ne e.symm)).trans ho
      refine wpAny_bind (wpAny_setState_of (s := { s1 with heap := h' }) ho4 hdo D.fits ?_)
      dsimp only
      rw [bne_self_eq_false]
      simp only [Bool.false_eq_true, ↓reduceIte]
      exact wpAny_pure ⟨rfl, hR _ (sb3.trans sb4) rfl rfl rfl rfl hS4⟩
    · have e1 := pm.length_eq
      have e2 : eo.toList.length = ys.length := by rw [Array.length_toList, D.size]
      have : scanBound = 4096 := by rfl
      omega
    · obtain ⟨h3, g3, d3, t3, o3⟩ := s2
      cases (show g3 = _ from g1)
      cases (show d3 = _ from d1)
      cases (show t3 = _ from t1)
      cases (show o3 = _ from o1)
      exact hQ h3 d sb (hS.perm (insAll_perm R.nodup ((pm.map txtOf).trans D.perm)))
theorem isStr_key {x : Str} {v : Value} (h : (mixKind P w).is (Sum.inr x) v = true) : ∃ tk, v = .str x tk := by
  rcases keyIs_shape (k := Sum.inr x) (v := v) h with ⟨i, t, q, _⟩ | ⟨y, t, q, e⟩
  · cases q
  · cases q
    exact ⟨t, e⟩
theorem pairs_txt {es : List DictEntry} {kvs : List (Key × Value)} (p : Pairs (mixKind P w) es kvs) : ∀ {xs : List Str}, kvs.map (·.1) = xs.map Sum.inr → es.length = xs.length ∧ ∀ (i : Nat) (e : DictEntry), es[i]? = some e → ∃ z tk, xs[i]? = some z ∧ e.key = Value.str z tk := by
  induction p with
  | nil =>
    intro xs e
    cases xs with
    | nil => exact ⟨rfl, fun i e h => by cases h⟩
    | cons x xs => cases e
  | cons hk hv t ih =>
    intro xs e
    cases xs with
    | nil => cases e
    | cons x xs =>
      simp only [List.map_cons, List.cons.injEq] at e
      obtain ⟨l, f⟩ := ih e.2
      refine ⟨by rw [List.length_cons, List.length_cons, l], fun i en h => ?_⟩
      cases i with
      | zero =>
        cases h
        rw [e.1] at hk
        obtain ⟨tk, q⟩ := isStr_key hk
        exact ⟨x, tk, rfl, q⟩
      | succ i => exact f i en h
/-- set(v) of a dict with texts for keys -/
theorem fill_dict {d : Addr} {kvs : List (Key × Value)} {xs : List Str} (hsm : (d == sysModules) = false) (hd : s.heap.DictOf (mixKind P w) d kvs) (ek : kvs.map (·.1) = xs.map Sum.inr) (few : xs.length * 2 < 64) (B : Around) (G : Value → Shared → Prop) (R : Unit → Shared → Prop)
    (h : ∀ (h' : Heap) (tk : Nat), SetT P w h' s.heap.objs.size (insAll [] xs) → (∀ b o, s.heap.get? b = some o → h'.get? b = some o) → R () { s with heap := h', toks := tk }) :
    wpAny (model P w) B (Builtin.Frozenset.updateFrom "set.__init__" s.heap.objs.size (.ref d)) R G { s with heap := s.heap.push (newSetO w) } := by
  obtain ⟨o, es, ep, ho, hx, hdt, kso, prs, nd⟩ := hd
  have lt : d < s.heap.objs.size := Heap.lt_size ho
  have ne : d ≠ s.heap.objs.size := Nat.ne_of_lt lt
  have ho1 : (s.heap.push (newSetO w)).get? d = some o := Heap.get?_push_of_some _ ho
  have hT : Shared.TypeIs { s with heap := s.heap.push (newSetO w) } (.ref d) "dict" := ⟨o, ho1, hx.1⟩
  have S0 : SetT P w (s.heap.push (newSetO w)) s.heap.objs.size [] := setT_new (Heap.get?_push_size _ rfl)
  unfold Builtin.Frozenset.updateFrom
  refine wpAny_bind (?_ : wpAny _ _ (Builtin.Frozenset.isAnySet (.ref d)) _ _ _)
  unfold Builtin.Frozenset.isAnySet orM
  refine wpAny_bind (wpAny_isInstance hT PySem.F.sub_dict_set ?_)
  show wpAny _ _ (isInstance (.ref d) (.type "frozenset")) _ _ _
  refine wpAny_isInstance hT PySem.F.sub_dict_frozenset ?_
  simp only [Bool.false_eq_true, ↓reduceIte]
  refine wpAny_bind (wpAny_typeOf hT ?_)
  rw [if_pos (by decide)]
  refine wpAny_bind (wpAny_rule ?_)
  refine wpAny_bind (wpAny_pure ?_)
  rw [hsm]
  simp only [Bool.false_eq_true, ↓reduceIte]
  refine wpAny_bind (wpAny_dictEpoch (s := { s with heap := s.heap.push (newSetO w) }) ho1 hdt ?_)
  refine wpAny_bind (wpAny_dictEntries (s := { s with heap := s.heap.push (newSetO w) }) ho1 hdt ?_)
  obtain ⟨ln, at_⟩ := pairs_txt prs ek
  rw [Array.length_toList] at ln
  refine wpAny_bind (roomT (s := { s with heap := s.heap.push (newSetO w) }) (more := es.size) S0 (by rw [ln]; simpa using few) fun h1 sb1 R1 => ?_)
  have ho2 : h1.get? d = some o := (sb1.2 d ne).trans ho1
  refine wpAny_bind (wpAny_dictEntries (s := { s with heap := h1 }) ho2 hdt ?_)
  refine wpAny_bind (TI.forIn_rng _ (fun rest b s' => ∃ h' i, s' = { s with heap := h' } ∧ rest = List.range' i (es.size - i) ∧ i ≤ es.size ∧ Heap.SameBut s.heap.objs.size (s.heap.push (newSetO w)) h' ∧ SetT P w h' s.heap.objs.size (insAll [] (xs.take i))) _ ?_ ?_ _ ⟨h1, 0, rfl, by simp [List.range'_eq_map_range], Nat.zero_le _, sb1, R1⟩)
  · rintro y rest b s' ⟨h', i, rfl, hr, hi, sb, hS⟩
    have hlt : i < es.size := by
      by_cases c : i < es.size
      · exact c
      · rw [Nat.sub_eq_zero_of_le (Nat.not_lt.mp c)] at hr
        cases hr
    obtain ⟨rfl, hrest⟩ : y = i ∧ rest = List.range' (i + 1) (es.size - (i + 1)) := by
      have e : es.size - i = (es.size - (i + 1)) + 1 := by omega
      rw [e, List.range'_succ] at hr
      injection hr with h1 h2
      exact ⟨h1, h2⟩
    have ho3 : h'.get? d = some o := (sb.2 d ne).trans ho1
    refine wpAny_bind (wpAny_dictEntries (s := { s with heap := h' }) ho3 hdt ?_)
    have ge : es[y]? = some es[y] := Array.getElem?_eq_getElem hlt
    rw [ge]
    dsimp only
    obtain ⟨z, tk, hz, ekey⟩ := at_ y es[y] (by rw [Array.getElem?_toList]; exact ge)
    have eh : es[y].hash = (PySem.strKind P w).hash z := by
      obtain ⟨k, q1, q2⟩ := kso es[y] (Array.getElem_mem hlt)
      rw [ekey] at q1
      cases k with
      | inl n => cases q1
      | inr x =>
        obtain ⟨t2, q3⟩ := isStr_key q1
        cases q3
        exact q2
    rw [ekey, eh]
    have l2 : (xs.take y).length ≤ xs.length := by rw [List.length_take]; exact Nat.min_le_right _ _
    have l1 := insAll_len [] (xs.take y)
    have sbd : scanBound = 4096 := rfl
    rw [List.length_nil] at l1
    refine wpAny_bind (wpAny_holding (addT (s := { s with heap := h' }) hS (by omega) fun h2 b2 sb2 hS2 => ?_))
    have ho4 : h2.get? d = some o := (sb2.2 d ne).trans ho3
    refine wpAny_bind (wpAny_dictEpoch (s := { s with heap := h2 }) ho4 hdt ?_)
    rw [bne_self_eq_false]
    simp only [Bool.false_eq_true, ↓reduceIte]
    refine wpAny_pure ⟨h2, y + 1, rfl, hrest, hlt, sb.trans sb2, ?_⟩
    rw [List.take_add_one, hz]
    show SetT P w h2 s.heap.objs.size (insAll [] (xs.take y ++ [z]))
    rw [insAll_snoc]
    exact hS2
  · rintro b s' ⟨h', i, rfl, hr, hi, sb, hS⟩
    have hn : es.size ≤ i := by
      by_cases c : i < es.size
      · have e : es.size - i = (es.size - (i + 1)) + 1 := by omega
        rw [e, List.range'_succ] at hr
        cases hr
      · exact Nat.not_lt.mp c
    rw [List.take_of_length_le (by omega)] at hS
    refine wpAny_pure (h h' s.toks hS fun b o e => (sb.2 b (Nat.ne_of_lt (Heap.lt_size e))).trans (Heap.get?_push_of_some _ e))
end
end E10

set_option Elab.async false
set_option linter.all false
set_option maxRecDepth 100000
set_option maxHeartbeats 4000000
namespace E10
open L2 PySem PySem.Spec PyProof.Rows
theorem entry_set_or : entryFor table "set.__or__" = some Builtin.«frozenset.__or__» :=
  entryFor_alias (id' := "frozenset.__or__") (by kernel_rfl) rfl (by decide +kernel) (by kernel_rfl)
section
variable {P : Program} {w : World} {A : Around} {E : Value → Shared → Prop} {s : Shared} {a b : Addr} {zs ys : List Str}
theorem isAny {Q : Bool → Shared → Prop} (R : SetT P w s.heap a zs) (h : Q true s) : wpAny (model P w) A (Builtin.Frozenset.isAnySet (.ref a)) Q E s := by
  obtain ⟨o, es, ep, t, ho, hx, hd, D⟩ := R
  have hT : s.TypeIs (.ref a) "set" := ⟨o, ho, hx.1⟩
  unfold Builtin.Frozenset.isAnySet orM
  refine wpAny_bind (wpAny_isInstance hT PySem.F.sub_set_set ?_)
  exact wpAny_pure h
theorem copyOfT {Q : Value → Shared → Prop} (R : SetT P w s.heap a zs) (few : zs.length * 2 < 64) (hQ : ∀ h', SetT P w h' s.heap.objs.size zs → (∀ b o, s.heap.get? b = some o → h'.get? b = some o) → Q (.ref s.heap.objs.size) { s with heap := h' }) :
    wpAny (model P w) A (Builtin.Frozenset.copyOf a) Q E s := by
  obtain ⟨o, es, ep, t, ho, hx, hd, D⟩ := id R
  have hT : s.TypeIs (.ref a) "set" := ⟨o, ho, hx.1⟩
  unfold Builtin.Frozenset.copyOf Builtin.Frozenset.baseOf
  refine wpAny_bind (wpAny_bind (wpAny_isInstance hT PySem.F.sub_set_set ?_))
  simp only [↓reduceIte]
  refine wpAny_pure ?_
  unfold newSet
  refine wpAny_bind (wpAny_bind (wpAny_byText ?_))
  dsimp only
  simp only [newObj]
  refine wpAny_bind (wpAny_alloc (wpAny_pure ?_))
  show wpAny _ _ (Builtin.Frozenset.addrOf _ >>= _) _ _ _
  refine wpAny_bind (wpAny_pure ?_)
  have hr : (s.heap.push (newSetO w)).get? s.heap.objs.size = some (newSetO w) := Heap.get?_push_size _ rfl
  have lt : a < s.heap.objs.size := Heap.lt_size ho
  refine wpAny_bind (copyT (s := { s with heap := s.heap.push (newSetO w) }) hr (R.keep fun o e => Heap.get?_push_of_some _ e) (Ne.symm (Nat.ne_of_lt lt)) few fun h' sb R2 => ?_)
  exact wpAny_pure (hQ h' R2 fun b o e => (sb.2 b (Nat.ne_of_lt (Heap.lt_size e))).trans (Heap.get?_push_of_some _ e))
theorem unionT {Q : Value → Shared → Prop} (R : SetT P w s.heap a zs) (O : SetT P w s.heap b ys) (n0 : zs ≠ []) (few : (zs.length + ys.length) * 2 < 64)
    (hQ : ∀ h' d, SetT P w h' s.heap.objs.size (insAll zs ys) → (∀ b o, s.heap.get? b = some o → h'.get? b = some o) → Q (.ref s.heap.objs.size) { s with heap := h', drawn := d }) :
    wpAny (model P w) A (binaryOp .BitOr (.ref a) (.ref b)) Q E s := by
  obtain ⟨o, es, ep, t, ho, hx, hd, D⟩ := id R
  obtain ⟨ob, esb, epb, tb, hob, hxb, hdb, Db⟩ := id O
  have hT : s.TypeIs (.ref a) "set" := ⟨o, ho, hx.1⟩
  have hTb : s.TypeIs (.ref b) "set" := ⟨ob, hob, hxb.1⟩
  simp only [binaryOp]
  try with_reducible refine wpAny_holding ?_
  show wpAny _ _ (binaryOp1 "or" (.ref a) (.ref b) >>= _) _ _ _
  refine wpAny_bind ?_
  unfold binaryOp1
  refine wpAny_bind (wpAny_typeOf hT (wpAny_bind (wpAny_typeOf hTb (wpAny_bind (wpAny_of_eq PySem.F.fills_set_or ?_)))))
  rw [show (Value.type "set" == Value.type "set") = true from by decide]
  simp only [if_true, pure_bind, Bool.and_false, Bool.false_and, Bool.false_eq_true, if_false]
  refine wpAny_bind (wpAny_tryMethod_slot hT PySem.F.slot_set_or (wpAny_call_entry PySem.F.slot_set_or hT entry_set_or ?_ (PySem.F.args_set_or_2 _ _)))
  show wpAny _ _ (Builtin.Frozenset.slot1 "__or__" ⟨[.ref a, .ref b], []⟩ >>= _) _ _ _
  unfold Builtin.Frozenset.slot1 slotArgs
  refine wpAny_bind (wpAny_bind (wpAny_pure (wpAny_pure ?_)))
  show wpAny _ _ (andM (Builtin.Frozenset.isAnySet (.ref a)) (Builtin.Frozenset.isAnySet (.ref b)) >>= _) _ _ _
  refine wpAny_bind ?_
  unfold andM
  refine wpAny_bind (isAny R ?_)
  simp only [↓reduceIte]
  refine isAny O ?_
  simp only [Bool.not_true, Bool.false_eq_true, ↓reduceIte]
  refine wpAny_bind (wpAny_pure ?_)
  refine wpAny_bind ?_
  show wpAny _ _ (Builtin.Frozenset.copyOf a >>= fun result => _) _ _ _
  refine wpAny_bind (copyOfT R (by omega) fun h1 R1 k1 => ?_)
  have fin : ∀ h' d, SetT P w h' s.heap.objs.size (insAll zs ys) → (∀ b o, s.heap.get? b = some o → h'.get? b = some o) → Q (Value.ref s.heap.objs.size) { s with heap := h', drawn := d } := hQ
  by_cases c : b = a
  · subst c
    rw [bne_self_eq_false]
    simp only [Bool.false_eq_true, ↓reduceIte]
    have pm : zs.Perm ys := by
      rw [ho] at hob
      cases hob
      rw [hd] at hdb
      cases hdb
      exact D.perm.symm.trans Db.perm
    have pm2 : zs.Perm (insAll zs ys) := (List.perm_ext_iff_of_nodup D.nd (insAll_nd D.nd)).mpr fun z => by rw [insAll_mem, pm.mem_iff]; exact ⟨.inl, fun h => h.elim id id⟩
    exact wpAny_pure (wpAny_pure ⟨_, rfl, (fun e => by cases e), wpAny_pure (wpAny_pure (fin h1 s.drawn (R1.perm pm2) k1))⟩)
  · have cb : (Value.ref b != Value.ref a) = true := bne_iff_ne.mpr fun e => c (by cases e; rfl)
    rw [cb]
    simp only [↓reduceIte]
    refine wpAny_bind (wpAny_pure ?_)
    refine wpAny_bind (wpAny_holding ?_)
    have O1 : SetT P w h1 b ys := O.keep fun o e => k1 b o e
    have nb : s.heap.objs.size ≠ b := Ne.symm (Nat.ne_of_lt (Heap.lt_size hob))
    unfold Builtin.Frozenset.updateFrom
    refine wpAny_bind (isAny (s := { s with heap := h1 }) O1 ?_)
    simp only [↓reduceIte]
    refine wpAny_bind (wpAny_pure ?_)
    unfold Builtin.Frozenset.merge
    have hob1 : h1.get? b = some ob := k1 b ob hob
    refine wpAny_bind (wpAny_setEpoch_of (s := { s with heap := h1 }) hob1 hdb Db.fits ?_)
    refine joinT (s := { s with heap := h1 }) R1 O1 nb n0 few (fun s' R' sb q => ?_) fun h' d sb R2 => ?_
    · unfold Builtin.Frozenset.unchanged
      refine wpAny_bind (wpAny_setEpoch_of ((sb.2 b (Ne.symm nb)).trans hob1) hdb Db.fits ?_)
      rw [bne_self_eq_false]
      simp only [Bool.false_eq_true, ↓reduceIte]
      exact wpAny_pure q
    · exact wpAny_pure (wpAny_pure ⟨_, rfl, (fun e => by cases e), wpAny_pure (wpAny_pure (fin h' d R2 fun x o e => (sb.2 x (Nat.ne_of_lt (Heap.lt_size e))).trans (k1 x o e)))⟩)
end
section
variable {X : Cx}
def rUnionT (P : Program) (w : World) : R2 := fun x y H Q => ∃ (a b : Addr) (zs ys : List Str), x = V.ref a ∧ y = V.ref b ∧ H a = some (SetTO P w a zs) ∧ H b = some (SetTO P w b ys) ∧ zs ≠ [] ∧ (zs.length + ys.length) * 2 < 64 ∧ ∀ p, H p = none → Q (.ref p) (upd H p (SetTO P w p (insAll zs ys)))
theorem op_unionT : OpR X (binaryOp .BitOr) (rUnionT X.prog X.w) := by
  intro pins s σ H x y v u Q I rx ry h
  obtain ⟨a, b, zs, ys, rfl, rfl, ha, hb, n0, few, q⟩ := h
  cases rx
  cases ry
  refine unionT (setT_at I ha) (setT_at I hb) n0 few fun h' d R k => ?_
  have hn : H s.heap.objs.size = none := I.hok.fresh (Nat.le_refl _)
  have J : Inv X pins σ (upd H s.heap.objs.size (SetTO X.prog X.w s.heap.objs.size (insAll zs ys))) { s with heap := h', gens := s.gens, drawn := d, toks := s.toks } :=
    I.call (ch := []) (Un.laid k (Nat.le_refl _) hn) (I.hok.laid k (Nat.le_refl _) (setT_ok R)) I.bare (fun _ z => nomatch z)
  exact ⟨.ref _, _, J, rfl, q _ hn⟩
/-- set(list), set(tuple), set(dict) of texts -/
def rSetOf (P : Program) (w : World) (K : PySem.W.Frag) : List V → Hp → VK → Prop := fun vs H Q => ∃ (a : Addr) (zs : List Str), vs = [V.ref a] ∧ ((SqL K H a (zs.map V.str) ∨ SqT K H a (zs.map V.str)) ∨ ∃ kvs : List (Key × V), Rd H a (.dK kvs) ∧ kvs.map (·.1) = zs.map Sum.inr) ∧ zs.length * 2 < 64 ∧ ∀ p, H p = none → Q (.ref p) (upd H p (SetTO P w p (insAll [] zs)))
theorem call_setOf (hc : X.calm = true) : CallR X (.type "set") (rSetOf X.prog X.w X.K) := by
  intro pins s σ H vs us Q I r h
  obtain ⟨a, zs, rfl, hs, few, q⟩ := h
  rw [Vals.ref1 r]
  have fin : ∀ (h' : Heap) (tk : Nat), SetT X.prog X.w h' s.heap.objs.size (insAll [] zs) → (∀ b o, s.heap.get? b = some o → h'.get? b = some o) → EP X pins σ Q (.ref s.heap.objs.size) { s with heap := h', toks := tk } := fun h' tk R k => by
    have hn : H s.heap.objs.size = none := I.hok.fresh (Nat.le_refl _)
    have J : Inv X pins σ (upd H s.heap.objs.size (SetTO X.prog X.w s.heap.objs.size (insAll [] zs))) { s with heap := h', gens := s.gens, drawn := s.drawn, toks := tk } :=
      I.call (ch := []) (Un.laid k (Nat.le_refl _) hn) (I.hok.laid k (Nat.le_refl _) (setT_ok R)) I.bare (fun _ z => nomatch z)
    exact ⟨.ref _, _, J, rfl, q _ hn⟩
  have sbd : scanBound = 4096 := rfl
  refine call_setG (I.ok.hd hc) (zs := insAll [] zs) (fun B F R hh k => ?_) fin
  rcases hs with (hq | hq) | ⟨kvs, e, ek⟩
  · obtain ⟨its, r, pl, hz⟩ := I.list hq
    exact fill_list pl.isList (by simpa using strsAre_of r) (by omega) B F R hh k
  · obtain ⟨its, r, pl, hz⟩ := I.tuple hq
    exact fill_tup pl (by simpa using strsAre_of r) (by omega) B F R hh k
  · obtain ⟨z, hsm, vs2, rel, dd⟩ := dk_rd I.hok e
    exact fill_dict hsm dd (rel.keys.symm.trans ek) few B F R k
end
end E10

set_option Elab.async false
set_option linter.all false
set_option maxRecDepth 100000
set_option maxHeartbeats 4000000
/-! ### sets of texts -/
namespace Pu
open L2 PySem PySem.Spec PyProof.Rows E10
abbrev SF' := Addr → List Str → HO
open Classical in
noncomputable def isS (S : SF') (w : W) : Option (List Str) := match w with
  | .v (.set f zs) => if f = S then some zs else none
  | _ => none
theorem isS_set (S : SF') (zs : List Str) : isS S (.v (.set S zs)) = some zs := by
  unfold isS
  exact if_pos rfl
theorem isS_ok {S : SF'} {w : W} {zs : List Str} (h : isS S w = some zs) : w = .v (.set S zs) := by
  unfold isS at h
  split at h
  · rename_i f ys
    by_cases c : f = S
    · rw [if_pos c] at h
      cases h
      rw [c]
    · rw [if_neg c] at h
      cases h
  · cases h
section
variable {X : Cx} {Wx : WX} {a b e : Expr} {es : List Expr} {F F1 F2 : EF} {A : AF} {pos p : Pos}
theorem newS {Pg : Program} {w : World} {D : Addr → Prop} {as : Ps} {H : Hp} {μ : Μ} {σ : L2.St} {Q : VK} {zs : List Str} (k : Sk D as H μ) (g : G Wx σ RepW D as H (.ok (.v (.set (SetTO Pg w) zs)) μ) Q) : ∀ p, H p = none → Q (.ref p) (upd H p (SetTO Pg w p zs)) := fun p np =>
  nowN k (new_same' np) g (.set (k.nd np) upd_same rfl)
def fSetL (S : SF') : List W → Μ → O W := fun ws μ => match ws with
  | [w] => match (rdL μ w).bind strsP with
    | some zs => if zs.length < 32 then .ok (.v (.set S (insAll [] zs))) μ else .bad
    | none => .bad
  | _ => .bad
def fSetD (S : SF') : List W → Μ → O W := fun ws μ => match ws with
  | [w] => match (rdD μ w).bind keysS with
    | some zs => if zs.length < 32 then .ok (.v (.set S (insAll [] zs))) μ else .bad
    | none => .bad
  | _ => .bad
def fSetT (S : SF') : List W → Μ → O W := fun ws μ => match ws with
  | [.v (.tup ps)] => match strsP ps with
    | some zs => if zs.length < 32 then .ok (.v (.set S (insAll [] zs))) μ else .bad
    | none => .bad
  | _ => .bad
variable {Pg : Program} {w : World} {K : PySem.W.Frag}
theorem ad_setL : AdC Wx (rSetOf Pg w K) (fSetL (SetTO Pg w)) := fun D as μ σ H vs ws Q k r g => by
  unfold fSetL at g
  split at g
  · split at g
    · rename_i zs e
      split at g
      · rename_i hl
        obtain ⟨ps, e1, e2⟩ := Option.bind_eq_some_iff.mp e
        obtain ⟨v, rfl, rv⟩ := repWs1 r
        obtain ⟨a, xs, rfl, hs, rs⟩ := rdL_ok k rv e1
        obtain rfl := strsP_ok rs e2
        exact ⟨a, zs, rfl, .inl (.inl (.inl hs)), by omega, newS k g⟩
      · exact g.elim
    · exact g.elim
  · exact g.elim
theorem ad_setD : AdC Wx (rSetOf Pg w K) (fSetD (SetTO Pg w)) := fun D as μ σ H vs ws Q k r g => by
  unfold fSetD at g
  split at g
  · split at g
    · rename_i zs e
      split at g
      · rename_i hl
        obtain ⟨ps, e1, e2⟩ := Option.bind_eq_some_iff.mp e
        obtain ⟨v, rfl, rv⟩ := repWs1 r
        obtain ⟨a, xs, rfl, hs, rs⟩ := rdD_ok k rv e1
        exact ⟨a, zs, rfl, .inr ⟨xs, hs, rs.keys.trans (keysS_ok e2)⟩, by omega, newS k g⟩
      · exact g.elim
    · exact g.elim
  · exact g.elim
theorem ad_setT : AdC Wx (rSetOf Pg w K) (fSetT (SetTO Pg w)) := fun D as μ σ H vs ws Q k r g => by
  unfold fSetT at g
  split at g
  · split at g
    · rename_i ps zs e
      split at g
      · rename_i hl
        obtain ⟨v, rfl, rv⟩ := repWs1 r
        cases rv with
        | tup n h rs =>
          obtain rfl := strsP_ok rs e
          exact ⟨_, zs, rfl, .inl (.inr (.inl h)), by omega, newS k g⟩
      · exact g.elim
    · exact g.elim
  · exact g.elim
noncomputable def fUnion (S : SF') : W → W → Μ → O W := fun x y μ => match isS S x, isS S y with
  | some zs, some ys => if zs ≠ [] ∧ zs.length + ys.length < 32 then .ok (.v (.set S (insAll zs ys))) μ else .bad
  | _, _ => .bad
theorem ad_union : AdR2 Wx (rUnionT Pg w) (fUnion (SetTO Pg w)) := fun D as μ σ H x y a b Q k ra rb g => by
  unfold fUnion at g
  split at g
  · rename_i zs ys e1 e2
    split at g
    · rename_i hl
      cases isS_ok e1
      cases isS_ok e2
      cases ra with
      | set n1 h1 s1 =>
        cases rb with
        | set n2 h2 s2 => exact ⟨_, _, zs, ys, rfl, rfl, h1, h2, hl.1, by omega, newS k g⟩
    · exact g.elim
  · exact g.elim
theorem pp_bor (ha : PP X Wx a F1) (hb : PP X Wx b F2) : PP X Wx (.BinOp a .BitOr b pos) (fOp (fUnion (SetTO X.prog X.w)) F1 F2) := pp_op op_unionT ad_union ha hb
noncomputable def fSortT (S : SF') : List W → Μ → O W := fun ws μ => match ws with
  | [x] => match isS S x with
    | some zs => if zs.length < 64 then .ok (.v (.lst ((srt zs).map .str))) μ else .bad
    | none => .bad
  | _ => .bad
theorem ad_sortT : AdC Wx (rSortT Pg w) (fSortT (SetTO Pg w)) := fun D as μ σ H vs ws Q k r g => by
  unfold fSortT at g
  split at g
  · split at g
    · rename_i zs e
      split at g
      · rename_i hl
        cases isS_ok e
        obtain ⟨v, rfl, rv⟩ := repWs1 r
        cases rv with
        | set n1 h1 s1 =>
          refine ⟨_, zs, rfl, h1, hl, fun ys p pm so np => ?_⟩
          rw [srt_uniq pm so]
          exact newL k g (strs_rep _) p np
      · exact g.elim
    · exact g.elim
  · exact g.elim
/-! calls by the built-ins' names: whatever is given -/
variable {x : Str}
abbrev gSet (S : SF') := fcor (fSetL S) (fcor (fSetD S) (fSetT S))
theorem pp_set (hc : X.calm = true) (hg : Gl X "set") (hm : X.mg "set" = none) (ha : PPA X Wx (e :: es) A) (he : starEach (e :: es) X.env = (false, eval e X.env) :: starEach es X.env := by rfl) (hpl : (backTo pos (starEach es X.env)).any (·.1) = false := by rfl) :
    PP X Wx (.Call (.Name "set" p) (e :: es) [] pos) (fCall (gSet (SetTO X.prog X.w)) A) := pp_callTy ((call_setOf hc).or ((call_setOf hc).or (call_setOf hc))) hg hm b_set (ad_setL.or (ad_setD.or ad_setT)) ha (by decide) (by decide) he hpl
noncomputable abbrev gSort' (S : SF') := fcor fSortS (fcor fSortD (fSortT S))
theorem pp_sorted (hc : X.calm = true) (hg : Gl X "sorted") (hm : X.mg "sorted" = none) (ha : PPA X Wx (e :: es) A) (he : starEach (e :: es) X.env = (false, eval e X.env) :: starEach es X.env := by rfl) (hpl : (backTo pos (starEach es X.env)).any (·.1) = false := by rfl) :
    PP X Wx (.Call (.Name "sorted" p) (e :: es) [] pos) (fCall (gSort' (SetTO X.prog X.w)) A) := pp_callB (cr_sortedS.or ((call_sortedD hc).or (call_sortedT hc))) hg hm b_sorted (ad_sortS.or (ad_sortD.or ad_sortT)) ha (by decide) (by decide) he hpl
theorem pp_dict (c : Kind) (hc : X.calm = true) (hg : Gl X "dict") (hm : X.mg "dict" = none) (ha : PPA X Wx (e :: es) A) (he : starEach (e :: es) X.env = (false, eval e X.env) :: starEach es X.env := by rfl) (hpl : (backTo pos (starEach es X.env)).any (·.1) = false := by rfl) :
    PP X Wx (.Call (.Name "dict" p) (e :: es) [] pos) (fCall (gDict c) A) := pp_callTy (call_dictD.or (call_dictP hc)) hg hm b_dict (ad_dictD.or ad_dictP) ha (by decide) (by decide) he hpl
theorem pp_list (c : Kind) (hc : X.calm = true) (hg : Gl X "list") (hm : X.mg "list" = none) (ha : PPA X Wx (e :: es) A) (he : starEach (e :: es) X.env = (false, eval e X.env) :: starEach es X.env := by rfl) (hpl : (backTo pos (starEach es X.env)).any (·.1) = false := by rfl) :
    PP X Wx (.Call (.Name "list" p) (e :: es) [] pos) (fCall (gList c) A) := pp_callTy (call_list_of.or (call_listD hc)) hg hm b_list (ad_listL.or ad_listD) ha (by decide) (by decide) he hpl
theorem pp_tuple (hc : X.calm = true) (hg : Gl X "tuple") (hm : X.mg "tuple" = none) (ha : PPA X Wx (e :: es) A) (he : starEach (e :: es) X.env = (false, eval e X.env) :: starEach es X.env := by rfl) (hpl : (backTo pos (starEach es X.env)).any (·.1) = false := by rfl) :
    PP X Wx (.Call (.Name "tuple" p) (e :: es) [] pos) (fCall gTupB A) := pp_callTy (call_tuple_of.or (call_tupleD hc)) hg hm b_tuple (ad_tupL.or ad_tupD) ha (by decide) (by decide) he hpl
theorem pp_min (hc : X.calm = true) (hg : Gl X "min") (hm : X.mg "min" = none) (ha : PPA X Wx (e :: es) A) (he : starEach (e :: es) X.env = (false, eval e X.env) :: starEach es X.env := by rfl) (hpl : (backTo pos (starEach es X.env)).any (·.1) = false := by rfl) :
    PP X Wx (.Call (.Name "min" p) (e :: es) [] pos) (fCall gMin A) := pp_callB ((call_min2 hc).or (cr_min hc)) hg hm b_min (ad_min2.or ad_minL) ha (by decide) (by decide) he hpl
theorem pp_max (hc : X.calm = true) (hg : Gl X "max") (hm : X.mg "max" = none) (ha : PPA X Wx (e :: es) A) (he : starEach (e :: es) X.env = (false, eval e X.env) :: starEach es X.env := by rfl) (hpl : (backTo pos (starEach es X.env)).any (·.1) = false := by rfl) :
    PP X Wx (.Call (.Name "max" p) (e :: es) [] pos) (fCall gMax A) := pp_callB ((call_max2 hc).or (cr_max hc)) hg hm b_max (ad_max2.or ad_maxL) ha (by decide) (by decide) he hpl
theorem pp_sum (hc : X.calm = true) (hg : Gl X "sum") (hm : X.mg "sum" = none) (ha : PPA X Wx (e :: es) A) (he : starEach (e :: es) X.env = (false, eval e X.env) :: starEach es X.env := by rfl) (hpl : (backTo pos (starEach es X.env)).any (·.1) = false := by rfl) :
    PP X Wx (.Call (.Name "sum" p) (e :: es) [] pos) (fCall fSum A) := pp_callB (cr_sum hc) hg hm b_sum ad_sum ha (by decide) (by decide) he hpl
theorem pp_abs (hg : Gl X "abs") (hm : X.mg "abs" = none) (ha : PPA X Wx (e :: es) A) (he : starEach (e :: es) X.env = (false, eval e X.env) :: starEach es X.env := by rfl) (hpl : (backTo pos (starEach es X.env)).any (·.1) = false := by rfl) :
    PP X Wx (.Call (.Name "abs" p) (e :: es) [] pos) (fCall fAbs A) := pp_callB call_abs hg hm b_abs ad_abs ha (by decide) (by decide) he hpl
end
end Pu

set_option Elab.async false
set_option linter.all false
set_option maxRecDepth 100000
set_option maxHeartbeats 4000000
/-! ### == of two lists of own objects, where it gives True -/
namespace Pu
open L2 PySem PySem.Spec PyProof.Rows E10 HT PySem.SeqAt PySem.AutoSeq1 PySem.MeetsSeq PySem.MeetsSeq2 PySem.MeetsSeq3
section
variable {X : Cx} {Wx : WX} {a b e o : Expr} {es : List Expr} {F F1 F2 : EF} {A : AF} {C : Addr} {FF' : FF} {k : Nat} {pos p : Pos}
def rEqLO (K : PySem.W.Frag) (C : Addr) (sp : Sp) : R2 := fun x y H Q => ∃ (a b : Addr) (xs ys : List V) (J : Nat → Hp → Prop), x = .ref a ∧ y = .ref b ∧ xs.length = ys.length ∧ J 0 H ∧
  (∀ i H', J i H' → Rd H' a (.lst xs) ∧ Rd H' b (.lst ys) ∧ ∀ u v, xs[i]? = some u → ys[i]? = some v → ∃ (p q dx : Addr) (fs : List (Str × V)) (tb : Value), u = .ref p ∧ v = .ref q ∧ (p = q → J (i + 1) H') ∧ H' p = some (.ins C dx fs) ∧ TyX K H' v tb ∧ PySem.W.notFirst K C tb = true ∧ sp [u, v] H' (fun r H2 => r = .bl true ∧ J (i + 1) H2) E0) ∧
  ∀ H', J xs.length H' → Q (.bl true) H'
theorem op_eqLO {f : Addr} {fd : FuncData} {ps : List Str} {sp : Sp} (F : FnG X.prog X.w X.K X.mg X.base k f fd ps sp) (hG : X.A.guards = some []) (room : Room (k + 1) X.A) (bi : Binds X.K fd ps []) (h : Has X.K C f "__eq__") : OpR X (compareOp .Eq) (rEqLO X.K C sp) := by
  intro pins s σ H x y v u Q I rx ry h0
  obtain ⟨a, b, xs, ys, J, rfl, rfl, hl, j0, st, fin⟩ := h0
  cases (show v = Value.ref a from rx)
  cases (show u = Value.ref b from ry)
  show wpAny (model X.prog X.w) X.A (richCompare .Eq (.ref a) (.ref b)) (EP X pins σ Q) X.xe s
  refine GQ.rc_listG room.units0 (N := xs.length) (fun i s' => ∃ H', Inv X pins σ H' s' ∧ J i H') (fun i s' ⟨H', I', j⟩ => ?_) (fun s' ⟨H', I', j⟩ => ⟨.bl true, H', I', rfl, fin H' j⟩) ⟨H, I, j0⟩
  obtain ⟨r1, r2, t⟩ := st i H' j
  obtain ⟨z1, its, n1, v1, e1⟩ := r1.ok I'.hok
  obtain ⟨z2, its2, n2, v2, e2⟩ := r2.ok I'.hok
  refine ⟨its.toArray, its2.toArray, n1, n2, e1, e2, by rw [List.size_toArray, v1.length], by rw [List.size_toArray, hl, v2.length], fun h1 h2 => ?_⟩
  have k1 : i < xs.length := by rw [v1.length]; simpa using h1
  have k2 : i < ys.length := by rw [v2.length]; simpa using h2
  obtain ⟨u1, hu1, ru1⟩ := v1.get (List.getElem?_eq_getElem k1)
  obtain ⟨u2, hu2, ru2⟩ := v2.get (List.getElem?_eq_getElem k2)
  have g1 : its.toArray[i] = u1 := by
    have h1' : i < its.length := by simpa using h1
    rw [List.getElem?_eq_getElem h1'] at hu1
    simpa using hu1
  have g2 : its2.toArray[i] = u2 := by
    have h2' : i < its2.length := by simpa using h2
    rw [List.getElem?_eq_getElem h2'] at hu2
    simpa using hu2
  rw [g1, g2]
  obtain ⟨p, q, dx, fs, tb, eu, ev, js, hp, ty, nf, q1⟩ := t _ _ (List.getElem?_eq_getElem k1) (List.getElem?_eq_getElem k2)
  rw [eu] at ru1
  rw [ev] at ru2
  cases (show u1 = Value.ref p from ru1)
  cases (show u2 = Value.ref q from ru2)
  by_cases hab : p = q
  · subst hab
    exact SeqAt.EqAt.same (A := X.A.in1) (s := s') (.ref p) X.prog X.w X.xe _ ⟨rfl, H', I', js rfl⟩
  · rw [eu, ev] at q1
    rw [ev] at ty
    refine GQ.eqBool_refG hab (wpAny_mono (cmp_at (op := .Eq) (A := X.A.in1) F rfl hG room.in1 room.in1.units0 bi h I' (show RelV (.ref q) (.ref q) from rfl) hp ty nf q1) (fun r s2 z => ?_) fun _ _ x => x)
    obtain ⟨v', H2, I2, rv, ev', j2⟩ := z
    subst ev'
    exact ⟨true, rv, rfl, H2, I2, j2⟩
open Classical in
noncomputable def eqGo (C : Addr) (cs : List Addr) (F : FF) : List P → List P → Μ → O W
  | [], [], μ => .ok (.v (.bl true)) μ
  | p :: ps, q :: qs, μ => if isC C μ (.v p) = true ∧ isC C μ (.v q) = true ∧ nfP cs (.ref C) = true then ((F [.v p, .v q] μ).nx).bind fun w m => if w = .v (.bl true) ∧ m = μ then eqGo C cs F ps qs μ else .bad
    else .bad
  | _, _, _ => .bad
noncomputable def fEqLO (C : Addr) (cs : List Addr) (F : FF) : W → W → Μ → O W := fun x y μ => match x, y with
  | .v (.lst ps), .v (.lst qs) => if ps.length = qs.length then eqGo C cs F ps qs μ else .bad
  | _, _ => .bad
theorem tyP_isC {μ : Μ} {w : W} (h : isC C μ w = true) {cs : List Addr} (hc : C ∈ cs) : tyP cs μ w = some (.ref C) := by
  unfold isC at h
  split at h
  · rename_i C' ps e
    have := of_decide_eq_true h
    subst this
    unfold rdI at e
    split at e
    · cases e
      exact if_pos hc
    · rename_i j
      split at e
      · rename_i q
        cases e
        show (match μ[j]? with
          | some (.lst _) => some (Value.type "list")
          | some (.dct _) => some (.type "dict")
          | some (.ins C _) => if C ∈ cs then some (.ref C) else none
          | _ => none) = _
        rw [q]
        exact if_pos hc
      · cases e
    · cases e
  · cases h
theorem nx_exc {α : Type} {o : O α} {Ce : Addr} {fs m} (h : o.nx = .exc Ce fs m) : False := by
  cases o <;> cases h
theorem ad_eqLO {K : PySem.W.Frag} {cs : List Addr} (h : EqK K C cs) : AdR2 Wx (rEqLO K C (noE (spP 2 FF'))) (fEqLO C cs FF') := fun D as μ σ H x y wx wy Q k ra rb g => by
  unfold fEqLO at g
  split at g
  · rename_i ps qs
    split at g
    · rename_i hl
      cases ra with
      | lst na ha rsa =>
        cases rb with
        | lst nb hb rsb =>
          refine ⟨_, _, _, _, fun i H' => ∃ D' as', Nx D as H D' as' H' ∧ Sk D' as' H' μ ∧ G Wx σ RepW D' as' H' (eqGo C cs FF' (ps.drop i) (qs.drop i) μ) Q, rfl, rfl, by rw [rsa.length, rsb.length, hl], ⟨D, as, .refl, k, g⟩, fun i H' ⟨D', as', n, k', g'⟩ => ⟨n.rd _ _ na ha, n.rd _ _ nb hb, fun u v eu ev => ?_⟩, fun H' ⟨D', as', n, k', g'⟩ => ?_⟩
          · obtain ⟨p, ep, rp⟩ := rsa.get eu
            obtain ⟨q, eq, rq⟩ := rsb.get ev
            have dp : ps.drop i = p :: ps.drop (i + 1) := List.drop_eq_getElem?_toList_append.trans (by rw [ep]; rfl)
            have dq : qs.drop i = q :: qs.drop (i + 1) := List.drop_eq_getElem?_toList_append.trans (by rw [eq]; rfl)
            rw [dp, dq] at g'
            unfold eqGo at g'
            split at g'
            · rename_i hc
              have rp' : RepW D' as' H' u (.v p) := Rep.sd n.sd rp
              have rq' : RepW D' as' H' v (.v q) := Rep.sd n.sd rq
              obtain ⟨ad, dx, fs, e1, h1⟩ := isC_ok k' rp' hc.1
              obtain ⟨bd, dy, gs, e2, h2⟩ := isC_ok k' rq' hc.2.1
              have hC : C ∈ cs := of_decide_eq_true hc.2.2
              have g2 := G.bind RepW k' g'
              refine ⟨ad, bd, dx, fs, .ref C, e1, e2, fun eab => ?_, h1, tyP_ok h.ins k' rq' (tyP_isC hc.2.1 hC), h.nf _ hc.2.2, nowSp k' (.cons rp' (.cons rq' .nil)) rfl (g2.mono fun r H2 ⟨D2, as2, μ2, w, n2, k2, r2, g3⟩ => ?_)⟩
              · cases o : (FF' [.v p, .v q] μ).nx with
                | bad => rw [o] at g'; exact g'.elim
                | exc Ce fs m => exact (nx_exc o).elim
                | ok w m =>
                  rw [o] at g'
                  simp only [O.bind_ok] at g'
                  split at g'
                  · exact ⟨D', as', n, k', g'⟩
                  · exact g'.elim
              · split at g3
                · rename_i hw
                  obtain ⟨rfl, rfl⟩ := hw
                  obtain rfl := rep_bl r2
                  exact ⟨rfl, D2, as2, n.trans k k' n2, k2, g3⟩
                · exact g3.elim
            · exact g'.elim
          · rw [List.drop_of_length_le (by rw [rsa.length]; exact Nat.le_refl _), List.drop_of_length_le (by rw [rsa.length, hl]; exact Nat.le_refl _)] at g'
            exact nowV k' g' .bl
    · exact g.elim
  · exact g.elim
theorem pp_eqLO {cs : List Addr} (d : DS X.prog X.w X.K X.mg X.base C "__eq__" 2 k FF') (h : EqK X.K C cs) (hG : X.A.guards = some []) (hr : Room (k + 1) X.A) (ha : PP X Wx a F1) (hb : PP X Wx b F2) : PP X Wx (.Compare a [.Eq] [b] pos) (fOp (fEqLO C cs FF') F1 F2) := by
  obtain ⟨f, fd, ps, FG, hs, bi⟩ := d.g
  exact pp_cmp (op_eqLO FG hG hr bi hs) (ad_eqLO h) ha hb
/-- str.join -/
def fJoin : EF → EF → EF := fun F1 F2 γ μ => (F1 γ μ).bind fun x m => match x with
  | .v (.str a) => (F2 γ m).bind fun y m2 => match (seqP m2 y).bind strsP with
    | some zs => if (zs.map (·.length)).sum + zs.length * a.length ≤ 16777216 then .ok (.v (.str (Txt.join a zs))) m2 else .bad
    | none => .bad
  | _ => .bad
theorem pp_join {apos : Pos} (ho : PP X Wx o F1) (he : PP X Wx e F2) (hs : starEach [e] X.env = [(false, eval e X.env)] := by rfl) (hbase : attributeBase o "join" X.env (eval o X.env) = eval o X.env := by rfl) (hline : (apos.endLine == pos.line) = true := by rfl) :
    PP X Wx (.Call (.Attribute o "join" apos) [e] [] pos) (fJoin F1 F2) := by
  obtain ⟨t1, p1, a1⟩ := ho
  obtain ⟨t2, p2, a2⟩ := he
  refine ⟨_, pe_join p1 p2 hs hbase hline, fun D as γ μ σ H Q k ev g => ?_⟩
  refine a1 D as γ μ σ H _ k ev ((G.bind RepW k g).mono fun x H1 ⟨D1, as1, μ1, wx, n1, k1, r1, g1⟩ => ?_)
  split at g1
  · rename_i z
    cases r1
    refine ⟨⟨z, rfl⟩, a2 D1 as1 γ μ1 σ H1 _ k1 (ev.nx n1) ((G.bind RepW k1 g1).mono fun y H2 ⟨D2, as2, μ2, wy, n2, k2, r2, g2⟩ => ?_)⟩
    split at g2
    · rename_i zs ez
      split at g2
      · rename_i hl
        obtain ⟨ps, e1, e2⟩ := Option.bind_eq_some_iff.mp ez
        obtain ⟨a, xs, rfl, hq, rs⟩ := seqP_ok (K := X.K) k2 r2 e1
        obtain rfl := strsP_ok rs e2
        exact ⟨z, a, zs, rfl, rfl, hq, hl, nowV k2 g2 .str⟩
      · exact g2.elim
    · exact g2.elim
  · exact g1.elim
/-- list * int -/
def rRepR' : R2 := fun x y H Q => ∃ l k xs, x = .ref l ∧ y = .int k ∧ Rd H l (.lst xs) ∧ -(2 ^ 63) ≤ k ∧ k < 2 ^ 63 ∧ xs.length * k.toNat ≤ sizeLine ∧ ∀ p, H p = none → Q (.ref p) (upd H p (.lst (List.replicate k.toNat xs).flatten))
theorem op_repR : OpR X (binaryOp .Mult) rRepR' := by
  intro pins s σ H x y v u Q I rx ry h
  obtain ⟨l, k, xs, rfl, rfl, hH, h1, h2, hz, q⟩ := h
  cases rx
  obtain ⟨t, rfl⟩ := ry
  obtain ⟨z, its, n, r, e⟩ := hH.ok I.hok
  have hl := r.length
  have hlen : its.toArray.size * k.toNat ≤ sizeLine := by rw [List.size_toArray, ← hl]; exact hz
  have hcap : ¬ its.toArray.size * k.toNat > (2 ^ 63 - 1) / 8 := by
    have : (sizeLine : Nat) ≤ (2 ^ 63 - 1) / 8 := by decide
    omega
  have hfit : ¬ (!Builtin.List.listFitsIndex k) = true := by
    rw [fitsIndex_both h1 h2]
    exact Bool.false_ne_true
  have hlong : ¬ Builtin.List.listTooLong (its.toArray.size * k.toNat) = true := by
    rw [notLongL hlen]
    exact Bool.false_ne_true
  have hnew : List.foldl (fun x1 x2 => x1 ++ x2) #[] (List.replicate (if its.toArray.isEmpty = true then 0 else k.toNat) its.toArray) = (List.replicate k.toNat its).flatten.toArray := by
    have f0 : ∀ m : Nat, List.foldl (fun x1 x2 => x1 ++ x2) #[] (List.replicate m its.toArray) = (List.replicate m its).flatten.toArray := fun m => by
      have := foldl_rep its m []
      rw [List.nil_append] at this
      exact this
    rw [f0]
    cases its with
    | nil => simp
    | cons a r' => rw [if_neg (by simp)]
  refine wpAny_binaryOp_repeat_ref (T := "list") (U := "int") (by decide) ⟨_, e, rfl⟩ (fun s' => typeIs_int s' k t) noFill_list_mul F.fills_int_mul F.slot_int_rmul repeat_list F.slot_int_index.lookup
    (call_meets F.slot_int_rmul (typeIs_int s k t) F.entry_int_rmul (F.args_int_rmul_2 _ _) (int___rmul___int_list k t l its.toArray n)
      ⟨e, rfl, ⟨_, e, rfl⟩, call_meets F.slot_list_mul ⟨_, e, rfl⟩ F.entry_list_mul (F.args_list_mul_2 _ _) (AutoListH.list___mul___list_int_3 l its.toArray n k t hfit hcap hlong) ⟨e, ?_⟩⟩)
  rw [hnew]
  exact ⟨.ref _, _, I.lnew (t' := s.toks) (r.rep k.toNat) (by rw [PyProof.Rows.lm_len_rep_flat, Nat.mul_comm]; exact hz), rfl, q _ I.fresh⟩
def fRepL : W → W → Μ → O W := fun x y μ => match rdL μ x, y with
  | some ps, .v (.int k) => if 0 ≤ k ∧ k < 100000 ∧ ps.length * k.toNat ≤ 100000 then .ok (.v (.lst (List.replicate k.toNat ps).flatten)) μ else .bad
  | _, _ => .bad
theorem Reps.rep {D : Addr → Prop} {H : Hp} {xs : List V} {ps : List P} (r : Reps D H xs ps) : ∀ k : Nat, Reps D H (List.replicate k xs).flatten (List.replicate k ps).flatten
  | 0 => .nil
  | k + 1 => by
    rw [List.replicate_succ, List.replicate_succ, List.flatten_cons, List.flatten_cons]
    exact r.append (Reps.rep r k)
theorem ad_repL : AdR2 Wx rRepR' fRepL := fun D as μ σ H x y a b Q k ra rb g => by
  unfold fRepL at g
  split at g
  · rename_i ps n e1
    split at g
    · rename_i hl
      obtain ⟨ad, xs, rfl, hr, rs⟩ := rdL_ok k ra e1
      obtain rfl := rep_int rb
      refine ⟨ad, n, xs, rfl, rfl, hr, by omega, by omega, ?_, newL k g (rs.rep _)⟩
      rw [rs.length]
      have : (100000 : Nat) ≤ sizeLine := by decide
      omega
    · exact g.elim
  · exact g.elim
abbrev gMul := f2or fMul fRepL
theorem pp_mul (ha : PP X Wx a F1) (hb : PP X Wx b F2) : PP X Wx (.BinOp a .Mult b pos) (fOp gMul F1 F2) := pp_op (op_mul.or op_repR) (ad_mul.or ad_repL) ha hb
/-! repr of small things -/
def tinyP : P → Option PyData
  | .non => some .none
  | .bl b => some (.bool b)
  | .int i => if i.natAbs < 10 ^ 70 then some (.int i) else none
  | .str z => if (reprText z).length ≤ 100 then some (.str z) else none
  | _ => none
def rdrP : Nat → P → Option PyData
  | 0, p => tinyP p
  | n + 1, .tup ps => if ps.length ≤ 40 then (ps.mapM (rdrP n)).map .tuple else none
  | n + 1, .lst ps => if ps.length ≤ 40 then (ps.mapM (rdrP n)).map .list else none
  | n + 1, p => tinyP p
theorem tinyP_ok {D : Addr → Prop} {H : Hp} {v : V} {p : P} {d : PyData} (r : Rep D H v p) (h : tinyP p = some d) : tiny v = some d := by
  cases r <;> first | exact h | cases h
theorem tiny_rdr {K : PySem.W.Frag} {H : Hp} {v : V} {d : PyData} (h : tiny v = some d) : ∀ n, Rdr K H n v d := Rdr.tiny h
theorem mapM_pair {D : Addr → Prop} {H : Hp} {K : PySem.W.Frag} {n : Nat} (ih : ∀ {v p d}, Rep D H v p → rdrP n p = some d → Rdr K H n v d) : ∀ {vs ps ds}, Reps D H vs ps → ps.mapM (rdrP n) = some ds → Paired (Rdr K H n) vs ds
  | _, _, _, .nil, h => by
    cases h
    exact .nil
  | _, _, ds, .cons r t, h => by
    rw [List.mapM_cons] at h
    obtain ⟨d, h1, h2⟩ := Option.bind_eq_some_iff.mp h
    obtain ⟨ds', h3, h4⟩ := Option.bind_eq_some_iff.mp h2
    cases h4
    exact .cons (ih r h1) (mapM_pair ih t h3)
theorem rdrP_ok {D : Addr → Prop} {H : Hp} {K : PySem.W.Frag} : ∀ (n : Nat) {v p d}, Rep D H v p → rdrP n p = some d → Rdr K H n v d
  | 0, _, _, _, r, h => tinyP_ok r h
  | n + 1, v, p, d, r, h => by
    cases r with
    | tup nd hr rs =>
      rw [rdrP] at h
      split at h
      · rename_i hl
        obtain ⟨ds, h1, rfl⟩ := Option.map_eq_some_iff.mp h
        exact Rdr.tup (.inl hr) (by rw [rs.length]; exact hl) (mapM_pair (fun r h => rdrP_ok n r h) rs h1)
      · cases h
    | lst nd hr rs =>
      rw [rdrP] at h
      split at h
      · rename_i hl
        obtain ⟨ds, h1, rfl⟩ := Option.map_eq_some_iff.mp h
        exact Rdr.lst (.inl hr) (by rw [rs.length]; exact hl) (mapM_pair (fun r h => rdrP_ok n r h) rs h1)
      · cases h
    | non => exact Rdr.tiny (by exact h) _
    | bl => exact Rdr.tiny (by exact h) _
    | int => exact Rdr.tiny (by exact h) _
    | str => exact Rdr.tiny (by exact h) _
    | ref => cases h
    | ty => cases h
    | dct => cases h
    | ins => cases h
    | set => cases h
def fRepr : List W → Μ → O W := fun ws μ => match ws with
  | [.v (.tup ps)] => match rdrP 3 (.tup ps) with
    | some d => .ok (.v (.str d.shown)) μ
    | none => .bad
  | [.v (.lst ps)] => match rdrP 3 (.lst ps) with
    | some d => .ok (.v (.str d.shown)) μ
    | none => .bad
  | _ => .bad
theorem ad_repr {K : PySem.W.Frag} : AdC Wx (rReprX K) fRepr := fun D as μ σ H vs ws Q k r g => by
  unfold fRepr at g
  split at g
  · split at g
    · rename_i ps _ d e
      obtain ⟨v, rfl, rv⟩ := repWs1 r
      have z := rdrP_ok (K := K) 3 (show Rep D H v (.tup ps) from rv) e
      cases rv with
      | tup nd hr rs => exact ⟨3, _, d, rfl, Nat.le_refl _, z, nowV k g .str⟩
    · exact g.elim
  · split at g
    · rename_i ps _ d e
      obtain ⟨v, rfl, rv⟩ := repWs1 r
      have z := rdrP_ok (K := K) 3 (show Rep D H v (.lst ps) from rv) e
      cases rv with
      | lst nd hr rs => exact ⟨3, _, d, rfl, Nat.le_refl _, z, nowV k g .str⟩
    · exact g.elim
  · exact g.elim
theorem pp_repr (hG : X.A.guards = some []) (hu : X.A.units + 64 < cLine) (hg : Gl X "repr") (hm : X.mg "repr" = none) (ha : PPA X Wx (e :: es) A) (he : starEach (e :: es) X.env = (false, eval e X.env) :: starEach es X.env := by rfl) (hpl : (backTo pos (starEach es X.env)).any (·.1) = false := by rfl) :
    PP X Wx (.Call (.Name "repr" p) (e :: es) [] pos) (fCall fRepr A) := pp_callB (call_reprX hG hu) hg hm b_repr ad_repr ha (by decide) (by decide) he hpl
/-! ### a method called with keywords alone -/
theorem run_atXN {pins : List (Addr × Obj)} {σ : L2.St} {H : Hp} {s : Shared} {Q : VK} {f : Addr} {fd : FuncData} {ps ks : List Str} {sp : Sp} {n : Nat} {us ws : List Value} {vs zs : List V} {g : List Value → List Value → List Value} {gV : List V → List V → List V} (F : FnX X.prog X.w X.K X.mg X.base k f fd ps sp) (hG : X.A.guards = some []) (hr : Room k X.A) (hb : KBn X.K fd ps n ks g gV) (tk : Takes X Wx)
    (I : Inv X pins σ H s) (r : Vals vs us) (rz : Vals zs ws) (l1 : vs.length = n) (l2 : zs.length = ks.length) (h : sp (gV vs zs) H Q (WE Wx σ)) : wpAny (model X.prog X.w) X.A (call (.ref f) us (ks.zip ws)) (EP X pins σ Q) X.xe s := by
  have r2 := hb.rel r rz
  refine wpAny_call (codeAny_mono (F.goes (ar := ⟨us, ks.zip ws⟩) hG hr I.env0 (hb.to s us ws I.kIn (r.length.symm.trans l1) (rz.length.symm.trans l2)) r2 h) fun r s' hq => ?_)
  match r, hq with
  | .error e, z => exact passAt tk σ pins H s e s' I z
  | .ok (.ret _), z => exact I.after z
  | .ok .next, z => exact z.elim
  | .ok .brk, z => exact z.elim
  | .ok .cont, z => exact z.elim
structure DMk (P : Program) (w : World) (K : PySem.W.Frag) (mg : Str → Option Value) (base : Heap) (C : Addr) (m : Str) (ks : List Str) (k : Nat) (F : FF) : Prop where
  ex : ∃ (f : Addr) (fd : FuncData) (ps : List Str), FnX P w K mg base k f fd ps (spP (ks.length + 1) F) ∧ Meth K C m f ∧ KBn K fd ps 1 ks (fun us ws => us ++ ws) (fun vs zs => vs ++ zs)
def PPK (X : Cx) (Wx : WX) (kws : List Keyword) (F : AF) : Prop := ∃ ta, PK X kws ta ∧ AdA Wx ta F
theorem ppk_nil : PPK X Wx [] fNil := ⟨_, pk_nil, fun D as γ μ σ H Q k ev g => g.now (R := RepWs) k .nil⟩
theorem ppk_cons {kws : List Keyword} {kpos : Pos} {x : Str} (h : PP X Wx e F) (h2 : PPK X Wx kws A) : PPK X Wx (⟨some x, e, kpos⟩ :: kws) (fCons F A) := let ⟨_, p, ad⟩ := h; let ⟨_, p2, ad2⟩ := h2; ⟨_, pk_cons p p2, ad_cons ad ad2⟩
def tMethKX (C : Addr) (m : Str) (many : Nat) (sp : Sp) (W : WX) (ta : TE) (tk : TA) : TE := fun σ H Q => ta σ H fun x H1 => ∃ a dx fs, x = .ref a ∧ H1 a = some (.ins C dx fs) ∧ fs.lookup m = none ∧ tk σ H1 fun zs H2 => zs.length = many ∧ sp ([x] ++ zs) H2 Q (WE W σ)
theorem pp_methKw {m : Str} {ks : List Str} {kws : List Keyword} {apos : Pos} {FF' : FF} {pl : Sem Bool} (d : DMk X.prog X.w X.K X.mg X.base C m ks k FF') (c : Cls X.K C) (hG : X.A.guards = some []) (hr : Room k X.A) (tk : Takes X Wx) (ho : PP X Wx o F) (ha : PPK X Wx kws A) (hn : ∀ ws μ, ws.length ≠ ks.length + 1 → FF' ws μ = .bad := by exact fDef_len)
    (hall : (backToKw pos (keywordEach kws X.env)).all (·.1.isSome) = true := by rfl) (hks : (backToKw pos (keywordEach kws X.env)).filterMap (·.1) = ks := by rfl)
    (hpl : ((backTo pos (starEach [] X.env)).any (·.1) || (backToKw pos (keywordEach kws X.env)).any (·.1.isNone)) = false := by rfl)
    (ht : eval (.Call (.Attribute o m apos) [] kws pos) X.env = (do
      let ov ← eval o X.env
      standAt apos.atName
      let (f, first) ← holding [ov] (getMethod ov m pl)
      callWith pos f first (backTo pos (starEach [] X.env)) (backToKw pos (keywordEach kws X.env))) := by rfl) :
    PP X Wx (.Call (.Attribute o m apos) [] kws pos) (fMeth C m FF' F A) := by
  obtain ⟨f, fd, ps, FX, hm, hb⟩ := d.ex
  obtain ⟨ta, po, ao⟩ := ho
  obtain ⟨tk', pk, ak⟩ := ha
  refine ⟨tMethKX C m ks.length (spP (ks.length + 1) FF') Wx ta tk', ⟨fun pins s σ H Q I h => ?_⟩, fun D as γ μ σ H Q k ev g => ?_⟩
  · refine PySem.W.methodCall_KW (pl := pl) (thn (po.run pins s σ H _ I h) fun u s1 ⟨x, H1, I1, rx, a, dx, fs, ex, ea, l, q⟩ => ?_) ht
    subst ex
    obtain rfl : u = Value.ref a := rx
    refine getmeth_ok I1 ea c hm l ?_
    refine PySem.W.callWith_KW0 (first := [.ref a]) (h₀ := X.base) I.ok.mod.kin hm.kp hall (thn (pk.run pos pins s1 σ H1 _ I1 q) fun ws s2 ⟨zs, H2, I2, rz, l2, q2⟩ => ⟨I2.kIn, ?_⟩) hpl
    rw [hks]
    exact run_atXN (n := 1) (us := [.ref a]) (vs := [.ref a]) FX hG hr hb tk I2 (.cons rfl .nil) rz rfl l2 q2
  · refine ao D as γ μ σ H _ k ev ((G.bind RepW k g).mono fun x H1 ⟨D1, as1, μ1, w, n1, k1, r1, g1⟩ => ?_)
    split at g1
    · rename_i C' ps' e
      split at g1
      · rename_i hc
        obtain ⟨rfl, hl⟩ := hc
        obtain ⟨a, dx, xs, rfl, hx, rs⟩ := rdI_ok k1 r1 e
        refine ⟨a, dx, xs, rfl, hx, rs.lookup_none hl, ak D1 as1 γ μ1 σ H1 _ k1 (ev.nx n1) ((G.bind RepWs k1 g1).mono fun vs H2 ⟨D2, as2, μ2, ws, n2, k2, r2, g2⟩ => ?_)⟩
        have hlen : (w :: ws).length = ks.length + 1 := by
          by_cases c : (w :: ws).length = ks.length + 1
          · exact c
          · rw [hn (w :: ws) μ2 c] at g2
            exact g2.elim
        refine ⟨?_, ?_, D2, as2, w :: ws, μ2, k2, .cons (r1.nx n2) r2, ?_⟩
        · rw [r2.length]
          exact Nat.succ.inj hlen
        · show (V.ref a :: vs).length = _
          rw [List.length_cons, r2.length]
          exact hlen
        · cases o : FF' (w :: ws) μ2 with
          | ok w' m' => rw [o] at g2; exact g2
          | exc C fs m' => rw [o] at g2; exact g2
          | bad => rw [o] at g2; exact g2
      · exact g1.elim
    · exact g1.elim
end
end Pu

set_option Elab.async false
set_option linter.all false
set_option maxRecDepth 100000
set_option maxHeartbeats 8000000
namespace E10
open L2 PySem PySem.Spec PyProof.Rows
/-! ### the law's call, at the heap behind the top -/
/-- what is tracked there: the script, or nothing -/
structure Begins (K : PySem.W.Frag) (H : Hp) (a : Addr) (o : Obj) (xs : List V) : Prop where
  just : ∀ b u, H b = some u → b = a ∧ u = .frz o (.lst xs) ∧ K.lookup a = none
  seq : SqL K H a xs
theorem begins {K : PySem.W.Frag} {h : Heap} {a : Addr} {vs : List Value} {xs : List V} (inK : K.In h) (at_ : h.get? a = some { cls := .type "list", data := .seq vs.toArray }) (r : Vals xs vs) (few : xs.length ≤ sizeLine) :
    ∃ H, Begins K H a { cls := .type "list", data := .seq vs.toArray } xs := by
  cases z : K.lookup a with
  | none =>
    refine ⟨fun b => if b = a then some (.frz { cls := .type "list", data := .seq vs.toArray } (.lst xs)) else none, ⟨fun b u e => ?_, .inl (.inr ⟨_, if_pos rfl⟩)⟩⟩
    by_cases q : b = a
    · have e2 := (if_pos q).symm.trans e
      cases e2
      exact ⟨q, rfl, z⟩
    · have e2 := (if_neg q).symm.trans e
      cases e2
  | some o =>
    have same := inK _ _ z
    rw [at_] at same
    cases same
    refine ⟨fun _ => none, ⟨fun b u e => ?_, .inr ⟨_, vs.toArray, _, z, rfl, rfl, rfl, by rw [List.size_toArray, ← r.length]; exact few, r⟩⟩⟩
    cases (show (none : Option HO) = some u from e)
theorem goes_at {P : Program} {w : World} {K : PySem.W.Frag} {mg mb : Str → Option Value} {k : Nat} {f a : Addr} {fd : FuncData} {y : Str} {sp : Sp} {t : Shared} {vs : List Value} {xs : List V}
    (inK : K.In t.heap) (g : t.heap.Ns mainGlobals mg) (bn : t.heap.Ns builtinsNs mb) (bb : ∀ x : Str, x ≠ "__name__" → mb x = bootBuiltins x) (lim : t.heap.NoLimit) (no : t.gens = #[])
    (at_ : t.heap.get? a = some { cls := .type "list", data := .seq vs.toArray }) (r : Vals xs vs) (few : xs.length ≤ sizeLine) (room : Room k callerA)
    (F : ∀ base : Heap, K.In base → base.Ns mainGlobals mg → FnG P w K mg base k f fd [y] sp) (bi : ∀ (s : Shared) (u : Value), BindsTo s fd ⟨[u], []⟩ [(y, u)])
    (want : ∀ H : Hp, SqL K H a xs → sp [.ref a] H (fun v _ => v = .bl true) E0) :
    codeAny (model P w) callerA (.call (.ref f) ⟨[.ref a], []⟩) (fun res t' => res = .ok (.ret (.bool true)) ∧ OldK t.heap t'.heap ∧ t'.os = t.os ∧ AllBare t'.gens) t := by
  obtain ⟨H, B⟩ := begins inK at_ r few
  have ok : HOk P w H t.heap := fun b u e => by
    obtain ⟨rfl, rfl, _⟩ := B.just b u e
    exact ⟨at_, few, vs, _, r, at_⟩
  have out : ∀ {b : Addr} {m : Str → Option Value}, t.heap.Ns b m → (hidT t.heap H).Ns b m := fun {b m} ⟨o, es, ep, e, d, q⟩ => by
    refine ⟨o, es, ep, hidT_get e ?_, d, q⟩
    cases z : H b with
    | none => rfl
    | some u =>
      obtain ⟨rfl, _, _⟩ := B.just b u z
      rw [at_] at e
      cases e
      cases (show Data.seq vs.toArray _ = Data.dict es ep from d)
  have inB : K.In (hidT t.heap H) := fun b o e => by
    refine hidT_get (inK b o e) ?_
    cases z : H b with
    | none => rfl
    | some u =>
      obtain ⟨rfl, _, n⟩ := B.just b u z
      rw [n] at e
      cases e
  obtain ⟨mc, l1, l2⟩ := lim
  have env : Env0 P w K mg (hidT t.heap H) callerA [] t H := ⟨rfl, ⟨inB, out g, ⟨mb, out bn, bb⟩, ⟨mc, out l1, l2⟩⟩, fun _ _ e => of_hidT e, Nat.le_of_eq (hidT_size _ _), trivial, (fun b m => absurd (show b ∈ ([] : List Addr) from m) (List.not_mem_nil)), ok, .of_eq no⟩
  refine codeAny_mono ((F _ inB (out g)).goes (us := [.ref a]) (vs := [.ref a]) rfl room env (bi t (.ref a)) (.cons rfl .nil) (want H B.seq)) fun res t' ends => ?_
  match res, ends with
  | .error _, z => exact z.elim
  | .ok .next, z => exact z.elim
  | .ok .brk, z => exact z.elim
  | .ok .cont, z => exact z.elim
  | .ok (.ret u), ⟨v, H', os, bare, un, ok', rv, q⟩ =>
    cases (show v = V.bl true from q)
    cases (show u = Value.bool true from rv)
    refine ⟨rfl, OldK.of_keep fun b o e => ?_, os, bare⟩
    cases z : H b with
    | none => exact un.keep b o e z (fun m => by cases m) (fun m => by cases m)
    | some u =>
      obtain ⟨rfl, rfl, _⟩ := B.just b u z
      rw [at_] at e
      cases e
      exact (ok' _ _ (un.frzs _ _ _ z)).1
theorem walkG {l : PySem.W.OpenLaw} {n k : Nat} {q : Program} {loose : List Str} {XP : (Str → Option Value) → Heap → Prop} {YP : World → Heap → Prop} {d : DefRec} {y : Str} (most : l.most = some n) (line : n ≤ sizeLine) (df : d.params.defaults = []) (room : Room k callerA)
    (F : ∀ (w : World) (mg : Str → Option Value) (f : Addr) (h : Heap), YP w h → h.Ns mainGlobals mg → mg d.name = some (.ref f) → ∃ (K : PySem.W.Frag) (fd : FuncData) (sp : Sp), K.In h ∧ (∀ (s : Shared) (u : Value), BindsTo s fd ⟨[u], []⟩ [(y, u)]) ∧
      (∀ (H : Hp) (a : Addr) (ns : List Int), ns.length ≤ n → SqL K H a (ns.map V.int) → sp [.ref a] H (fun v _ => v = .bl true) E0) ∧ ∀ base : Heap, K.In base → base.Ns mainGlobals mg → FnG l.prog w K mg base k f fd [y] sp) :
    PySem.W.WalkO q loose XP YP l.row.toRowW d [] (fun f vs => PySem.call f vs) := by
  refine Att.attach_call most df fun w s0 t mg mb f o pm cd doc a vs ns G Y at_f is_f rec_f is_g at_a nums few no => ?_
  obtain ⟨K, fd, sp, inK, bi, want, G2⟩ := F w mg f _ Y G.T.g is_g
  exact goes_at inK G.T.g G.T.b G.T.builtins G.T.nolimit no at_a (vals_ints nums) (by rw [List.length_map]; exact Nat.le_trans few line) room G2 bi fun H S => want H a ns few S
end E10

set_option Elab.async false
set_option linter.all false
set_option maxRecDepth 100000
set_option maxHeartbeats 4000000
namespace E10
open L2 PySem PySem.Spec PyProof.Rows
open He (eqO eqO_ok ba ga ma)
/-! ### looks at the heap behind the top, and what follows from them -/
section
variable {K : PySem.W.Frag}
def gloB (K : PySem.W.Frag) (x : Str) : Bool := eqO (PySem.W.nsIn K mainGlobals x) (some (some (.ref (ga K x))))
def freeB (K : PySem.W.Frag) (x : Str) : Bool := eqO (PySem.W.nsIn K mainGlobals x) (some none)
def intB (K : PySem.W.Frag) (p : Str × Int) : Bool := (He.Fa.int p.1 p.2).ok K
def mB (K : PySem.W.Frag) (C : Addr) (m : Str) : Bool := eqO (PySem.W.findIn K (.ref C) m) (some (some (.ref (ma K C m)))) && PySem.W.isFn K (.ref (ma K C m))
theorem mB_ok {C : Addr} {m : Str} (h : mB K C m = true) : Has K C (ma K C m) m := ⟨eqO_ok (ba h).1, (ba h).2⟩
def clB (K : PySem.W.Frag) (C : Addr) : Bool := PySem.W.plainGet K C Str.empty && (PySem.W.hasDictIn K C && (PySem.W.plainOver K C && eqO (PySem.W.findIn K (.ref C) "__setattr__") (some (some (.builtin "object.__setattr__")))))
theorem clB_ok {C : Addr} (h : clB K C = true) : Cls K C := by
  obtain ⟨a, h⟩ := ba h
  obtain ⟨b, h⟩ := ba h
  obtain ⟨c, d⟩ := ba h
  exact ⟨a, b, c, eqO_ok d⟩
def noB (K : PySem.W.Frag) (C : Addr) (f : Str) : Bool := eqO (PySem.W.findIn K (.ref C) f) (some none)
def propB (K : PySem.W.Frag) (C : Addr) (f : Str) : Bool := eqO (PySem.W.findIn K (.ref C) f) (some (some (.ref (ma K C f)))) && (eqO (PySem.W.specialIn K (.ref (ma K C f)) "__get__") (some (some (.builtin "property.__get__"))) && (decide (PySem.W.takesIn K (.ref (ma K C f)) = some true) &&
  match PySem.W.recIn K (ma K C f) "property" with
  | some (.ref _ :: _) => true
  | _ => false))
theorem propB_ok {C : Addr} {f : Str} (h : propB K C f = true) : PropOf K C f (ma K C f) (He5.wf K C "property" f) := by
  obtain ⟨a, h⟩ := ba h
  obtain ⟨b, h⟩ := ba h
  obtain ⟨c, h⟩ := ba h
  refine ⟨eqO_ok a, eqO_ok b, of_decide_eq_true c, ?_⟩
  unfold He5.wf
  split at h
  · rename_i g r e
    exact ⟨r, by rw [e]⟩
  · cases h
def neB (K : PySem.W.Frag) (C : Addr) : Bool := eqO (PySem.W.findIn K (.ref C) "__ne__") (some (some (.builtin "object.__ne__"))) && (decide (PySem.W.mroIn K C (.type "object") = some true) && decide (PySem.W.subIn K (.ref C) (.type "object") = some true))
theorem neB_ok {C : Addr} (h : neB K C = true) : NeBy K C := by
  obtain ⟨a, h⟩ := ba h
  obtain ⟨b, c⟩ := ba h
  exact ⟨eqO_ok a, of_decide_eq_true b, of_decide_eq_true c⟩
def callB (K : PySem.W.Frag) (C : Addr) : Bool := mB K C "__call__" && PySem.W.fnIn K (ma K C "__call__")
theorem callB_ok {C : Addr} (h : callB K C = true) : StX.CallO K C (ma K C "__call__") := by
  obtain ⟨a, b⟩ := ba h
  exact ⟨(mB_ok a).at_, (mB_ok a).fn, b⟩
def mkB (K : PySem.W.Frag) (C : Addr) : Bool := PySem.W.makesIn K C && (mB K C "__init__" && PySem.W.keepIn K (.ref C))
theorem mkB_ok {C : Addr} (h : mkB K C = true) : Mk K C (ma K C "__init__") := by
  obtain ⟨a, h⟩ := ba h
  obtain ⟨b, c⟩ := ba h
  exact ⟨a, (mB_ok b).at_, (mB_ok b).fn, c⟩
def intX (K : PySem.W.Frag) (C : Addr) : Bool := decide (PySem.W.subIn K (.type "int") (.ref C) = some false) && decide (PySem.W.subIn K (.ref C) (.type "int") = some false)
theorem intX_ok {C : Addr} (h : intX K C = true) : PySem.W.subIn K (.type "int") (.ref C) = some false ∧ PySem.W.subIn K (.ref C) (.type "int") = some false := ⟨of_decide_eq_true (ba h).1, of_decide_eq_true (ba h).2⟩
def metB (K : PySem.W.Frag) (C : Addr) (m : Str) : Bool := mB K C m && PySem.W.keepIn K (.ref (ma K C m))
theorem metB_ok {C : Addr} {m : Str} (h : metB K C m = true) : Meth K C m (ma K C m) := ⟨(mB_ok (ba h).1).at_, (mB_ok (ba h).1).fn, (ba h).2⟩
variable {x qual : Str} {params : Arguments} {body : List Stmt} {scope : Scope} {dvs : List V} {f : Addr} {fd : FuncData} {ps : List Str}
theorem vals_at : ∀ {zs : List V} {ws : List Value} (i : Nat), Vals zs ws → RelV (zs.getD i .non) (ws.getD i .none)
  | _, _, _, .nil => rfl
  | _, _, 0, .cons r _ => r
  | _, _, i + 1, .cons _ t => by
    rw [List.getD_cons_succ, List.getD_cons_succ]
    exact vals_at i t
/-- a call with keywords of a def that has defaults, but none of keywords alone -/
theorem kb_dfl (F : FunD K x qual params body scope dvs [] f fd) (n : Nat) (ks : List Str) (g : List Value → List Value → List Value → List Value) (gV : List V → List V → List V) (hd : dvs ≠ [])
    (hrel : ∀ {vs zs : List V} {us its ws : List Value}, Vals vs us → Vals dvs its → Vals zs ws → Vals (gV vs zs) (g us its ws))
    (h : ∀ (T : Addr) (kV doc pm : Value) (an : Option Addr) (cdv ct : Value) (us its ws : List Value), us.length = n → its.length = dvs.length → ws.length = ks.length →
      ∃ k, bindArgs (PySem.W.fnOf x qual params body scope (.ref T) kV doc pm an cdv ct) ⟨us, ks.zip ws⟩ = seqItems? (.ref T) >>= k ∧ k (some its.toArray) = pure (ps.zip (g us its ws))) :
    ∃ its, KBn K fd ps n ks (fun us ws => g us its ws) gV := by
  obtain ⟨oc, od, dV, kV, doc, pm, an, cdv, ct, osl, rfl, lk, hcd, hD, _⟩ := F.ex
  rcases hD with ⟨e, _⟩ | ⟨_, T, o, its, m, rfl, lT, oT, rT⟩
  · exact absurd e hd
  · refine ⟨its, ⟨fun s us ws X l1 l2 => ?_, fun r1 r2 => hrel r1 rT r2⟩⟩
    obtain ⟨k, e1, e2⟩ := h T kV doc pm an cdv ct us its ws l1 rT.length.symm l2
    refine BindsTo.of_looks fun M => ?_
    rw [e1]
    exact looks_items X lT oT (.of_pure e2)
/-- every parameter is given, by place, to a def that has defaults -/
theorem binds_full (F : FunD K x qual params body scope dvs [] f fd) (hd : dvs ≠ [])
    (h : ∀ (T : Addr) (kV doc pm : Value) (an : Option Addr) (cdv ct : Value) (us its : List Value), us.length = ps.length → its.length = dvs.length →
      ∃ k, bindArgs (PySem.W.fnOf x qual params body scope (.ref T) kV doc pm an cdv ct) ⟨us, []⟩ = seqItems? (.ref T) >>= k ∧ k (some its.toArray) = pure (ps.zip us)) : Binds K fd ps [] := by
  obtain ⟨oc, od, dV, kV, doc, pm, an, cdv, ct, osl, rfl, lk, hcd, hD, _⟩ := F.ex
  rcases hD with ⟨e, _⟩ | ⟨_, T, o, its, m, rfl, lT, oT, rT⟩
  · exact absurd e hd
  · refine fun s us X hlen => ?_
    rw [List.append_nil] at hlen ⊢
    obtain ⟨k, e1, e2⟩ := h T kV doc pm an cdv ct us its hlen rT.length.symm
    refine BindsTo.of_looks fun M => ?_
    rw [e1]
    exact looks_items X lT oT (.of_pure e2)
end
section
variable {P : Program} {w : World} {K : PySem.W.Frag} {mg : Str → Option Value} {base : Heap}
theorem glo_of (X : K.In base) (G : base.Ns mainGlobals mg) {l : List Str} (h : l.all (gloB K) = true) (i : Nat) {x : Str} (e : l[i]? = some x := by rfl) : mg x = some (.ref (ga K x)) :=
  PySem.W.mg_of X G (eqO_ok (List.all_eq_true.mp h x (List.mem_of_getElem? e)))
theorem free_of (X : K.In base) (G : base.Ns mainGlobals mg) {l : List Str} (h : l.all (freeB K) = true) (i : Nat) {x : Str} (e : l[i]? = some x := by rfl) : mg x = none :=
  PySem.W.mg_none_of X G (eqO_ok (List.all_eq_true.mp h x (List.mem_of_getElem? e)))
theorem int_of (X : K.In base) (G : base.Ns mainGlobals mg) {l : List (Str × Int)} (h : l.all (intB K) = true) (i : Nat) {x : Str} {n : Int} (e : l[i]? = some (x, n) := by rfl) : ∃ t, mg x = some (.int n t) :=
  He.int_ok X G (List.all_eq_true.mp h _ (List.mem_of_getElem? e))
theorem fun_of {x qual : Str} {st : Stmt} {f : Addr} {fd : FuncData} (F : FunD K x qual (defArgs st) (defBody st) (defScope st) [] [] f fd) : Fun K x qual st f fd := He5.fun_of F
theorem one_fd {x q : Str} {st : Stmt} {f : Addr} {fd fd' : FuncData} (F : Fun K x q st f fd) (F' : Fun K x q st f fd') : fd' = fd := by
  obtain ⟨oc, od, _, _, _, _, _, _, osl, _, l, _⟩ := F.ex
  obtain ⟨oc', od', _, _, _, _, _, _, osl', _, l', _⟩ := F'.ex
  have e := l'.symm.trans l
  simp only [Option.some.injEq, Obj.mk.injEq, Data.func.injEq] at e
  exact e.2.2.1
end
/-- one parameter behind n given ones, passed by its name -/
theorem kb_one {K : PySem.W.Frag} {x qual : Str} {st : Stmt} {f : Addr} {fd : FuncData} {ps : List Str} (F : Fun K x qual st f fd) (n : Nat) (ks : List Str) (g : List Value → List Value → List Value) (gV : List V → List V → List V)
    (hrel : ∀ {vs zs : List V} {us ws : List Value}, Vals vs us → Vals zs ws → Vals (gV vs zs) (g us ws))
    (h : ∀ (kV doc pm : Value) (an : Option Addr) (cdv ct : Value) (us ws : List Value), us.length = n → ws.length = ks.length →
      bindArgs (PySem.W.fnOf x qual (defArgs st) (defBody st) (defScope st) .none kV doc pm an cdv ct) ⟨us, ks.zip ws⟩ = pure (ps.zip (g us ws))) : KBn K fd ps n ks g gV := by
  obtain ⟨oc, od, kV, doc, pm, an, cdv, ct, osl, rfl, lk, hcd⟩ := F.ex
  exact ⟨fun s us ws _ l1 l2 => BindsTo.of_eq (h kV doc pm an cdv ct us ws l1 l2), fun r1 r2 => hrel r1 r2⟩
end E10

set_option Elab.async false
set_option linter.all false
set_option maxRecDepth 100000
set_option maxHeartbeats 4000000
/-! ### what is looked at behind the top, for the pure layer; small rules -/
namespace Pu
open L2 PySem PySem.Spec PyProof.Rows E10
open He (eqO eqO_ok ba ga ma)
def tyNs : List String := ["NoneType", "bool", "int", "str", "tuple", "list", "dict"]
def tyMs : List String := ["int", "str", "bool", "list", "tuple", "dict"]
def insB (K : PySem.W.Frag) (C : Addr) : Bool := clB K C && (eqO (PySem.W.findIn K (.ref C) "__class__") (some (some (.builtin "object.__class__"))) && (eqO (PySem.W.specialIn K (.builtin "object.__class__") "__get__") (some (some (.builtin "getset_descriptor.__get__"))) &&
  (decide (PySem.W.takesIn K (.builtin "object.__class__") = some true) && decide (PySem.W.mroIn K C (.type "object") = some true))))
theorem insB_ok {K : PySem.W.Frag} {C : Addr} (h : insB K C = true) : InsK K C := by
  obtain ⟨a, h⟩ := ba h
  obtain ⟨b, h⟩ := ba h
  obtain ⟨c, h⟩ := ba h
  obtain ⟨d, e⟩ := ba h
  exact ⟨clB_ok a, eqO_ok b, eqO_ok c, of_decide_eq_true d, of_decide_eq_true e⟩
def ownsB (K : PySem.W.Frag) (cs : List Addr) : Bool := (cs.all (insB K)) && ((cs.all fun C => tyNs.all fun a => decide (PySem.W.kitOne K (.type a) (.ref C) = some false)) && ((cs.all fun C => cs.all fun D => decide (PySem.W.kitOne K (.ref C) (.ref D) = some (decide (C = D)))) &&
  (cs.all fun C => tyMs.all fun a => decide (PySem.W.kitOne K (.ref C) (.type a) = some false))))
theorem all_of {α : Type} {l : List α} {p : α → Bool} (h : l.all p = true) {x : α} (m : x ∈ l) : p x = true := List.all_eq_true.mp h x m
theorem ownsB_ins {K : PySem.W.Frag} {cs : List Addr} (h : ownsB K cs = true) : ∀ C ∈ cs, InsK K C := fun C m => insB_ok (all_of (ba h).1 m)
theorem ownsB_ok {K : PySem.W.Frag} {cs : List Addr} (h : ownsB K cs = true) : Own K cs := by
  refine ⟨ownsB_ins h, fun t u b e => ?_⟩
  obtain ⟨_, h⟩ := ba h
  obtain ⟨h1, h⟩ := ba h
  obtain ⟨h2, h3⟩ := ba h
  unfold kitP at e
  split at e
  · exact kit_ty e
  · split at e
    · rename_i hc
      cases e
      exact of_decide_eq_true (all_of (all_of h1 hc.1) (show _ ∈ tyNs from hc.2))
    · cases e
  · split at e
    · rename_i hc
      cases e
      exact of_decide_eq_true (all_of (all_of h2 hc.1) hc.2)
    · cases e
  · split at e
    · rename_i hc
      cases e
      exact of_decide_eq_true (all_of (all_of h3 hc.1) (show _ ∈ tyMs from hc.2))
    · cases e
  · cases e
def eqsB (K : PySem.W.Frag) (C : Addr) (cs : List Addr) : Bool := (tyNs.all fun a => PySem.W.notFirst K C (.type a)) && ((cs.all fun D => PySem.W.notFirst K C (.ref D)) && neB K C)
theorem eqsB_ok {K : PySem.W.Frag} {C : Addr} {cs : List Addr} (ho : ownsB K cs = true) (h : eqsB K C cs = true) : EqK K C cs := by
  obtain ⟨h1, h⟩ := ba h
  obtain ⟨h2, h3⟩ := ba h
  refine ⟨ownsB_ins ho, fun t e => ?_, neB_ok h3⟩
  unfold nfP at e
  split at e
  · rename_i n
    have : n ∈ tyNs := by
      have := of_decide_eq_true e
      simp only [List.mem_cons, List.not_mem_nil, or_false] at this
      unfold tyNs
      simp only [List.mem_cons, List.not_mem_nil, or_false]
      rcases this with h | h | h | h | h | h | h <;> simp [h]
    exact all_of h1 this
  · exact all_of h2 (of_decide_eq_true e)
  · cases e
def firB (K : PySem.W.Frag) (C : Addr) : Bool := PySem.W.selfFirst K C && intX K C
theorem firB_ok {K : PySem.W.Frag} {C : Addr} (h : firB K C = true) : IntK K C := ⟨(ba h).1, (intX_ok (ba h).2).1, (intX_ok (ba h).2).2⟩
theorem takes0 {X : Cx} : Takes X F0 := fun u s' ⟨_, _, _, _, _, _, _, _, _, _, _, _, _, _, _, _, w⟩ => w.elim
section
variable {X : Cx} {Wx : WX} {a b e o : Expr} {es : List Expr} {F F1 F2 : EF} {A : AF} {pos p : Pos} {x : Str}
/-- what has no rule is not reached -/
theorem pp_never : PP X Wx e (fun _ _ => .bad) := ⟨fun _ _ _ => False, ⟨fun _ _ _ _ _ _ h => h.elim⟩, fun D as γ μ σ H Q k ev g => g.elim⟩
theorem ppt_never : PPT X Wx e (fun _ _ => .bad) := ⟨fun _ _ _ => False, ⟨fun _ _ _ _ _ _ h => h.elim⟩, fun D as γ μ σ H Q k ev g => g.elim⟩
/-- constants of the module -/
theorem pp_gint {i : Int} (hg : Gl X x) (hm : ∃ t, X.mg x = some (.int i t)) (hd : (x == ("__debug__" : Str)) = false := by decide) : PP X Wx (.Name x pos) (fC (.int i)) := pp_c (by obtain ⟨t, h⟩ := hm; exact pe_glob hg h ⟨t, rfl⟩ hd) fun _ _ => .int
theorem pp_gcls {C : Addr} (hg : Gl X x) (hm : X.mg x = some (.ref C)) (hd : (x == ("__debug__" : Str)) = false := by decide) : PP X Wx (.Name x pos) (fC (.ref C)) := pp_c (x := .ref C) (pe_glob hg hm rfl hd) fun _ _ => .ref
theorem pp_gty {n : String} (hg : Gl X x) (hm : X.mg x = none) (hv : bootBuiltins x = some (.type n)) (hn : x ≠ "__name__" := by decide) (hd : (x == ("__debug__" : Str)) = false := by decide) : PP X Wx (.Name x pos) (fC (.ty n)) := pp_c (x := .ty n) (pe_bltn hg hm hv rfl hn hd) fun _ _ => .ty
/-- int + own -/
theorem pp_iadd {C : Addr} {FF' : FF} {k : Nat} (hf : ∃ f r : Value, PySem.W.findIn X.K (.type "int") (PySem.dunder Operator.Add.info.2) = some (some f) ∧ PySem.W.findIn X.K (.type "int") (dunderR Operator.Add.info.2) = some (some r)) : True := trivial
end
end Pu

set_option Elab.async false
set_option linter.all false
set_option maxRecDepth 100000
set_option maxHeartbeats 4000000
namespace Pu
open L2 PySem PySem.Spec PyProof.Rows E10
/-! ### list(d.values()), list(d.items()) -/
section
variable {X : Cx} {Wx : WX} {a b e o : Expr} {es : List Expr} {F F1 F2 : EF} {A : AF} {pos p : Pos} {x : Str} {C : Addr} {FF' : FF} {k : Nat}
def tListVals (te : TE) : TE := fun σ H Q => te σ H fun x H1 => ∃ (d : Addr) (kvs : List (Key × V)), x = .ref d ∧ Rd H1 d (.dK kvs) ∧ ∀ p, H1 p = none → Q (.ref p) (upd H1 p (.lst (kvs.map (·.2))))
def tListIts (te : TE) : TE := fun σ H Q => te σ H fun x H1 => ∃ (d : Addr) (kvs : List (Key × V)), x = .ref d ∧ Rd H1 d (.dK kvs) ∧
  ∀ (H' : Hp) (p : Addr) (ts : List Addr), (∀ b o, H1 b = some o → H' b = some o) → H1 p = none → (∀ t ∈ ts, H1 t = none) → p ∉ ts → H' p = some (.lst (ts.map V.ref)) → Paired (fun (t : Addr) (q : Key × V) => H' t = some (.tup [kV q.1, q.2])) ts kvs → Q (.ref p) H'
theorem vals_at2 : ∀ {kvs : List (Key × V)} {vs : List (Key × Value)} {us : List Value}, KV kvs vs → us.length = vs.length → (∀ (j : Nat) (v : Value), us[j]? = some v → ∃ k, vs[j]? = some (k, v)) → Vals (kvs.map (·.2)) us
  | [], [], [], _, _, _ => .nil
  | [], [], _ :: _, _, h, _ => by cases h
  | _ :: _, _ :: _, [], _, h, _ => by cases h
  | (k1, x) :: kvs, (k2, v) :: vs, u :: us, r, h, f => by
    cases r with
    | cons r t =>
      obtain ⟨k, e⟩ := f 0 u rfl
      cases e
      exact .cons r.2 (vals_at2 t (Nat.succ.inj h) fun j w e => f (j + 1) w e)
theorem pe_listValsR {te : TE} {apos cpos : Pos} (hc : X.calm = true) (he : PE X e te) (hg : Gl X "list") (hm : X.mg "list" = none) (hv : bootBuiltins "list" = some (.type "list")) (hbase : attributeBase e "values" X.env (eval e X.env) = eval e X.env := by rfl) (hline : (apos.endLine == cpos.line) = true := by rfl)
    (hs : starEach [.Call (.Attribute e "values" apos) [] [] cpos] X.env = (false, eval (.Call (.Attribute e "values" apos) [] [] cpos) X.env) :: starEach [] X.env := by rfl) :
    PE X (.Call (.Name "list" p) [.Call (.Attribute e "values" apos) [] [] cpos] [] pos) (tListVals te) := by
  refine ⟨fun pins s σ H Q I hq => ?_⟩
  refine wpAny_Call_Name_kw (ld_blt I hg hm hv ?_)
  refine PyProof.Rows.callWith_type1 ?_ hs rfl
  rw [hs]
  show wpAny _ _ (spliced ((false, eval (.Call (.Attribute e "values" apos) [] [] cpos) X.env) :: backTo pos (starEach [] X.env))) _ _ s
  refine Calls.spliced_cons ?_
  refine wpAny_Call_method (T := "dict") (id := "dict.values") hbase rfl hline F.plainAttrs_dict F.slot_dict_values F.type_dict_values (thn (he.run pins s σ H _ I hq) fun u s1 ⟨x, H1, I1, rx, d, kvs, ex, hd, q⟩ => ?_)
  subst ex
  obtain rfl : u = Value.ref d := rx
  obtain ⟨hz, hs0, vs, kv, hdo⟩ := dk_rd I1.hok hd
  obtain ⟨ep, hat⟩ := hdo.dictAt
  have lk : kvs.length = vs.length := Paired.length kv
  have I2 : Inv X pins σ H1 { s1 with heap := s1.heap.push { cls := .type "dict_values", data := .fields #[.ref d] } } := I1.kept (t' := s1.toks) fun b ob q => Heap.get?_push_of_some _ q
  refine ⟨hdo.typeIs, hdo.mapOf.noDict, ?_⟩
  show wpAny _ _ (callWith cpos (.builtin "dict.values") [.ref d] [] []) _ X.xe s1
  refine method_meetsIn F.slot_dict_values F.entry_dict_values rfl (PySem.evalArgs_none ⟨rfl, hdo.typeIs, F.args_dict_values_1 _, _, meets_dict_values (mixKind X.prog X.w) d hs0, ⟨vs, hdo⟩, ?_⟩)
  refine Calls.spliced_nil ?_
  refine PySem.W.kdl_call (PySem.W.kdl_values (knd := mixKind X.prog X.w) (kvs := vs) (ep := ep) (d := d)) (I1.ok.hd hc) ⟨⟨_, Heap.get?_push_size _ rfl, rfl, rfl⟩, hat.push _⟩ (by omega) fun h' tk acc c' hk hD hacc => ?_
  have hv2 : Vals (kvs.map (·.2)) acc.toList := vals_at2 kv (by rw [Array.length_toList]; exact hacc.1) fun j v e => hacc.2 j v (by rw [← Array.getElem?_toList]; exact e)
  refine ⟨.ref _, upd H1 _ (.lst (kvs.map (·.2))), I2.laid (t' := tk) hk (Nat.le_refl _)
    (show ObjOk X.prog X.w _ _ _ (.lst (kvs.map (·.2))) from ⟨by rw [List.length_map]; exact hz, acc.toList, c', hv2, by rw [Array.toArray_toList]; exact hD⟩), rfl, q _ (I2.hok.fresh (Nat.le_refl _))⟩
theorem pe_listItsR {te : TE} {apos cpos : Pos} (hc : X.calm = true) (he : PE X e te) (hg : Gl X "list") (hm : X.mg "list" = none) (hv : bootBuiltins "list" = some (.type "list")) (hbase : attributeBase e "items" X.env (eval e X.env) = eval e X.env := by rfl) (hline : (apos.endLine == cpos.line) = true := by rfl)
    (hs : starEach [.Call (.Attribute e "items" apos) [] [] cpos] X.env = (false, eval (.Call (.Attribute e "items" apos) [] [] cpos) X.env) :: starEach [] X.env := by rfl) :
    PE X (.Call (.Name "list" p) [.Call (.Attribute e "items" apos) [] [] cpos] [] pos) (tListIts te) := by
  refine ⟨fun pins s σ H Q I hq => ?_⟩
  refine wpAny_Call_Name_kw (ld_blt I hg hm hv ?_)
  refine PyProof.Rows.callWith_type1 ?_ hs rfl
  rw [hs]
  show wpAny _ _ (spliced ((false, eval (.Call (.Attribute e "items" apos) [] [] cpos) X.env) :: backTo pos (starEach [] X.env))) _ _ s
  refine Calls.spliced_cons ?_
  refine wpAny_Call_method (T := "dict") (id := "dict.items") hbase rfl hline F.plainAttrs_dict F.slot_dict_items F.type_dict_items (thn (he.run pins s σ H _ I hq) fun u s1 ⟨x, H1, I1, rx, d, kvs, ex, hd, q⟩ => ?_)
  subst ex
  obtain rfl : u = Value.ref d := rx
  obtain ⟨hz, hs0, vs, kv, hdo⟩ := dk_rd I1.hok hd
  obtain ⟨ep, hat⟩ := hdo.dictAt
  have lk : kvs.length = vs.length := Paired.length kv
  have I2 : Inv X pins σ H1 { s1 with heap := s1.heap.push { cls := .type "dict_items", data := .fields #[.ref d] } } := I1.kept (t' := s1.toks) fun b ob q => Heap.get?_push_of_some _ q
  refine ⟨hdo.typeIs, hdo.mapOf.noDict, ?_⟩
  show wpAny _ _ (callWith cpos (.builtin "dict.items") [.ref d] [] []) _ X.xe s1
  refine method_meetsIn F.slot_dict_items F.entry_dict_items rfl (PySem.evalArgs_none ⟨rfl, hdo.typeIs, F.args_dict_items_1 _, _, meets_dict_items (mixKind X.prog X.w) d hs0, ⟨vs, hdo⟩, ?_⟩)
  refine Calls.spliced_nil ?_
  refine PySem.W.kdx_call (knd := mixKind X.prog X.w) (kvs := vs) (ep := ep) (I1.ok.hd hc) ⟨_, Heap.get?_push_size _ rfl, rfl, rfl⟩ (hat.push _) (by omega) fun h' tk acc c as hk hS hl hG hacc => ?_
  obtain ⟨H', k1, k2, k3, k4, k5, k6, J⟩ := LiI.items_laid (tk := tk) I2 hz kv hk hS hl hG hacc
  exact ⟨.ref _, H', J, rfl, q H' _ as k1 k2 k3 k4 k5 k6⟩
def fListVals (F : EF) : EF := fun γ μ => (F γ μ).bind fun w m => match rdD m w with
  | some kvs => .ok (.v (.lst (kvs.map (·.2)))) m
  | none => .bad
def fListIts (F : EF) : EF := fun γ μ => (F γ μ).bind fun w m => match rdD m w with
  | some kvs => .ok (.v (.lst (kvs.map fun kp => .tup [keyOf kp.1, kp.2]))) m
  | none => .bad
theorem vals_rep {D : Addr → Prop} {H : Hp} : ∀ {xs : List (Key × V)} {ps : List (Key × P)}, RepK D H xs ps → Reps D H (xs.map (·.2)) (ps.map (·.2))
  | _, _, .nil => .nil
  | _, _, .cons r t => .cons r (vals_rep t)
theorem its_rep {D : Addr → Prop} {H H' : Hp} (sm : Same H H') (nd : ∀ t, H t = none → ¬ D t) : ∀ {xs : List (Key × V)} {ps : List (Key × P)} {ts : List Addr}, RepK D H xs ps → (∀ t ∈ ts, H t = none) → Paired (fun (t : Addr) (q : Key × V) => H' t = some (.tup [kV q.1, q.2])) ts xs → Reps D H' (ts.map V.ref) (ps.map fun kp => .tup [keyOf kp.1, kp.2])
  | _, _, _, .nil, _, .nil => .nil
  | _, _, _, .cons r t, h, .cons q u => .cons (.tup (nd _ (h _ List.mem_cons_self)) (.inl q) (.cons (keyOf_rep _) (.cons (Rep.sd (.same sm) r) .nil))) (its_rep sm nd t (fun z m => h z (List.mem_cons_of_mem _ m)) u)
theorem pp_listVals {apos cpos : Pos} (hc : X.calm = true) (hg : Gl X "list") (hm : X.mg "list" = none) (h : PP X Wx e F) (hbase : attributeBase e "values" X.env (eval e X.env) = eval e X.env := by rfl) (hline : (apos.endLine == cpos.line) = true := by rfl)
    (hs : starEach [.Call (.Attribute e "values" apos) [] [] cpos] X.env = (false, eval (.Call (.Attribute e "values" apos) [] [] cpos) X.env) :: starEach [] X.env := by rfl) :
    PP X Wx (.Call (.Name "list" p) [.Call (.Attribute e "values" apos) [] [] cpos] [] pos) (fListVals F) := by
  obtain ⟨te, pe, ad⟩ := h
  refine ⟨_, pe_listValsR hc pe hg hm b_list hbase hline hs, fun D as γ μ σ H Q k ev g => ?_⟩
  refine ad D as γ μ σ H _ k ev ((G.bind RepW k g).mono fun x H1 ⟨D1, as1, μ1, w, n1, k1, r1, g1⟩ => ?_)
  split at g1
  · rename_i kvs e
    obtain ⟨d, xs, rfl, hd, rs⟩ := rdD_ok k1 r1 e
    exact ⟨d, xs, rfl, hd, newL k1 g1 (vals_rep rs)⟩
  · exact g1.elim
theorem pp_listIts {apos cpos : Pos} (hc : X.calm = true) (hg : Gl X "list") (hm : X.mg "list" = none) (h : PP X Wx e F) (hbase : attributeBase e "items" X.env (eval e X.env) = eval e X.env := by rfl) (hline : (apos.endLine == cpos.line) = true := by rfl)
    (hs : starEach [.Call (.Attribute e "items" apos) [] [] cpos] X.env = (false, eval (.Call (.Attribute e "items" apos) [] [] cpos) X.env) :: starEach [] X.env := by rfl) :
    PP X Wx (.Call (.Name "list" p) [.Call (.Attribute e "items" apos) [] [] cpos] [] pos) (fListIts F) := by
  obtain ⟨te, pe, ad⟩ := h
  refine ⟨_, pe_listItsR hc pe hg hm b_list hbase hline hs, fun D as γ μ σ H Q k ev g => ?_⟩
  refine ad D as γ μ σ H _ k ev ((G.bind RepW k g).mono fun x H1 ⟨D1, as1, μ1, w, n1, k1, r1, g1⟩ => ?_)
  split at g1
  · rename_i kvs e
    obtain ⟨d, xs, rfl, hd, rs⟩ := rdD_ok k1 r1 e
    exact ⟨d, xs, rfl, hd, fun H' p ts sm np nt _ hp pr => nowN k1 sm g1 (.lst (k1.nd np) (.inl hp) (its_rep sm (fun t h => k1.nd h) rs nt pr))⟩
  · exact g1.elim
/-! ### built-ins by their names -/
theorem pp_all (hc : X.calm = true) (hg : Gl X "all") (hm : X.mg "all" = none) (ha : PPA X Wx (e :: es) A) (he : starEach (e :: es) X.env = (false, eval e X.env) :: starEach es X.env := by rfl) (hpl : (backTo pos (starEach es X.env)).any (·.1) = false := by rfl) :
    PP X Wx (.Call (.Name "all" p) (e :: es) [] pos) (fCall (fBls fun bs => bs.all id) A) := pp_callB (cr_all hc) hg hm b_all ad_all ha (by decide) (by decide) he hpl
theorem pp_any (hc : X.calm = true) (hg : Gl X "any") (hm : X.mg "any" = none) (ha : PPA X Wx (e :: es) A) (he : starEach (e :: es) X.env = (false, eval e X.env) :: starEach es X.env := by rfl) (hpl : (backTo pos (starEach es X.env)).any (·.1) = false := by rfl) :
    PP X Wx (.Call (.Name "any" p) (e :: es) [] pos) (fCall (fBls fun bs => bs.any id) A) := pp_callB (cr_any hc) hg hm b_any ad_any ha (by decide) (by decide) he hpl
theorem pp_intc (hg : Gl X "int") (hm : X.mg "int" = none) (ha : PPA X Wx (e :: es) A) (he : starEach (e :: es) X.env = (false, eval e X.env) :: starEach es X.env := by rfl) (hpl : (backTo pos (starEach es X.env)).any (·.1) = false := by rfl) :
    PP X Wx (.Call (.Name "int" p) (e :: es) [] pos) (fCall fInt A) := pp_callTy call_int1 hg hm b_int ad_int ha (by decide) (by decide) he hpl
theorem pp_strI (hg : Gl X "str") (hm : X.mg "str" = none) (ha : PPA X Wx (e :: es) A) (he : starEach (e :: es) X.env = (false, eval e X.env) :: starEach es X.env := by rfl) (hpl : (backTo pos (starEach es X.env)).any (·.1) = false := by rfl) :
    PP X Wx (.Call (.Name "str" p) (e :: es) [] pos) (fCall fStrI A) := pp_callTy call_str_int hg hm b_str ad_strI ha (by decide) (by decide) he hpl
theorem pp_divmod (hg : Gl X "divmod") (hm : X.mg "divmod" = none) (ha : PPA X Wx (e :: es) A) (he : starEach (e :: es) X.env = (false, eval e X.env) :: starEach es X.env := by rfl) (hpl : (backTo pos (starEach es X.env)).any (·.1) = false := by rfl) :
    PP X Wx (.Call (.Name "divmod" p) (e :: es) [] pos) (fCall fDivmod A) := pp_callB call_divmod hg hm b_divmod ad_divmod ha (by decide) (by decide) he hpl
theorem pp_isi {cs : List Addr} (ho : Own X.K cs) (hg : Gl X "isinstance") (hm : X.mg "isinstance" = none) (ha : PPA X Wx (e :: es) A) (he : starEach (e :: es) X.env = (false, eval e X.env) :: starEach es X.env := by rfl) (hpl : (backTo pos (starEach es X.env)).any (·.1) = false := by rfl) :
    PP X Wx (.Call (.Name "isinstance" p) (e :: es) [] pos) (fCall (fIsi cs) A) := pp_callB call_isi hg hm b_isi (ad_isi ho) ha (by decide) (by decide) he hpl
theorem pp_len' (hg : Gl X "len") (hm : X.mg "len" = none) (ha : PPA X Wx (e :: es) A) (he : starEach (e :: es) X.env = (false, eval e X.env) :: starEach es X.env := by rfl) (hpl : (backTo pos (starEach es X.env)).any (·.1) = false := by rfl) :
    PP X Wx (.Call (.Name "len" p) (e :: es) [] pos) (fCall gLen A) := pp_len hg hm b_len ha (by decide) (by decide) he hpl
/-! ### own and int -/
theorem int_add {K : PySem.W.Frag} : PySem.W.findIn K (.type "int") (PySem.dunder "add") = some (some (.builtin "int.__add__")) := by
  show PySem.fastLookup "int" (PySem.dunder "add") = _
  decide +kernel
theorem int_radd {K : PySem.W.Frag} : PySem.W.findIn K (.type "int") (dunderR "add") = some (some (.builtin "int.__radd__")) := by
  show PySem.fastLookup "int" (dunderR "add") = _
  decide +kernel
theorem int_sub {K : PySem.W.Frag} : PySem.W.findIn K (.type "int") (PySem.dunder "sub") = some (some (.builtin "int.__sub__")) := by
  show PySem.fastLookup "int" (PySem.dunder "sub") = _
  decide +kernel
theorem int_rsub {K : PySem.W.Frag} : PySem.W.findIn K (.type "int") (dunderR "sub") = some (some (.builtin "int.__rsub__")) := by
  show PySem.fastLookup "int" (dunderR "sub") = _
  decide +kernel
/-- the class has the reflected one, or has it not -/
inductive Refl (K : PySem.W.Frag) (C : Addr) (m : Str) : Prop where
  | has (g : Addr) (h : PySem.W.findIn K (.ref C) m = some (some (.ref g)))
  | no (h : PySem.W.findIn K (.ref C) m = some none)
theorem Refl.ex {K : PySem.W.Frag} {C : Addr} {m : Str} (r : Refl K C m) : ∃ rc, PySem.W.findIn K (.ref C) m = some rc ∧ (rc = none ∨ ∃ g : Addr, rc = some (.ref g)) := by
  cases r with
  | has g h => exact ⟨_, h, .inr ⟨g, rfl⟩⟩
  | no h => exact ⟨_, h, .inl rfl⟩
theorem refl_has {K : PySem.W.Frag} {C : Addr} {m : Str} (h : mB K C m = true) : Refl K C m := .has _ (mB_ok h).at_
theorem refl_no {K : PySem.W.Frag} {C : Addr} {m : Str} (h : noB K C m = true) : Refl K C m := .no (He.eqO_ok h)
theorem pp_plusI (r : Refl X.K C (dunderR "add")) (d : DS X.prog X.w X.K X.mg X.base C (PySem.dunder "add") 2 k FF') (i : IntK X.K C) (hG : X.A.guards = some []) (hr : Room k X.A) (ha : PP X Wx a F1) (hb : PP X Wx b F2) : PP X Wx (.BinOp a .Add b pos) (fOp (fOwnI C FF') F1 F2) := by
  obtain ⟨rc, h1, h2⟩ := r.ex
  exact pp_addI ⟨_, _, rc, h1, h2, int_add, int_radd⟩ d i hG hr ha hb
theorem pp_minusI (r : Refl X.K C (dunderR "sub")) (d : DS X.prog X.w X.K X.mg X.base C (PySem.dunder "sub") 2 k FF') (i : IntK X.K C) (hG : X.A.guards = some []) (hr : Room k X.A) (ha : PP X Wx a F1) (hb : PP X Wx b F2) : PP X Wx (.BinOp a .Sub b pos) (fOp (fOwnI C FF') F1 F2) := by
  obtain ⟨rc, h1, h2⟩ := r.ex
  exact pp_subI ⟨_, _, rc, h1, h2, int_sub, int_rsub⟩ d i hG hr ha hb
theorem pp_iplus {fr : Addr} (h : Has X.K C fr (PySem.dunder "add")) (d : DS X.prog X.w X.K X.mg X.base C (dunderR "add") 2 k FF') (i : IntK X.K C) (hG : X.A.guards = some []) (hr : Room k X.A) (ha : PP X Wx a F1) (hb : PP X Wx b F2) : PP X Wx (.BinOp a .Add b pos) (fOp (fIOwn C FF') F1 F2) := by
  obtain ⟨f, fd, ps, FG, hh, bi⟩ := d.g
  exact pp_op (op_iown FG hG hr bi i.sf h.at_ hh int_add int_radd rfl i.s2) ad_iown ha hb
end
end Pu

set_option Elab.async false
set_option linter.all false
set_option maxRecDepth 100000
set_option maxHeartbeats 4000000
namespace Pu
open L2 PySem PySem.Spec PyProof.Rows E10
section
variable {X : Cx} {Wx : WX} {a b c e o : Expr} {es : List Expr} {F F1 F2 F3 : EF} {A : AF} {pos p : Pos} {x : Str} {C : Addr} {FF' : FF} {k : Nat}
theorem ad_setLc {te : TE} {i : Nat} (ad : Ad Wx te F) : AdS Wx (tAsg te (gName i)) (sSet i F) := fun D as γ μ σ H E k ev g => by
  refine ad D as γ μ σ H _ k ev ((GS.of_s (R := RepW) k ev g).mono fun x H1 ⟨D1, as1, μ1, w, n1, k1, e1, r1, g1⟩ => ?_)
  exact g1 _ D1 as1 H1 .refl k1 (e1.set r1) (List.length_set ..)
theorem ppq_setLc {i : Nat} {y : Str} {py : Pos} {elt tg iter : Expr} {ifs : List Expr} {scope : Scope} {own : List (Str × Nat)} {spos : Pos} {I : IF} {g : TG} {f : GF} {T : TF} {E : EF} (hc : X.calm = true) (hN : X.N.Nodup) (hy : X.N[i]? = some y) (hyl : X.env.scope.names.lookup y = some .local)
    (hsw : swapsWith (.ListComp elt [⟨tg, iter, ifs, 0⟩] scope pos) (some (.Name y py)) spos.line X.env = pure true) (hi : PPI X Wx tg iter I) (ok : BlkOk X.N X.env.scope scope own)
    (hg : ∀ (s : Shared) (H : Hp) (C : Addr) (cl : List (Str × Addr)) (fp : List Addr), PG (X.blk s H scope (compEnvC scope cl C X.env) fp) tg g) (hf : AdG (some (own.map (·.2))) g f)
    (ht : ∀ (s : Shared) (H : Hp) (C : Addr) (cl : List (Str × Addr)) (fp : List Addr), PPTs (X.blk s H scope (compEnvC scope cl C X.env) fp) F0 ifs T)
    (he : ∀ (s : Shared) (H : Hp) (C : Addr) (cl : List (Str × Addr)) (fp : List Addr), PP (X.blk s H scope (compEnvC scope cl C X.env) fp) F0 elt E) (hs : ∀ x, foldedSetIterable iter X.env x = pure x := by intro _; rfl) :
    PPS X Wx (.Assign [.Name y py] (.ListComp elt [⟨tg, iter, ifs, 0⟩] scope pos) spos) (sSet i (fLc I f T E (own.map (·.2)))) :=
  let ⟨wi, pi, ai⟩ := hi; ⟨_, ps_setLc hc hN hy hyl hsw pi ok hg (fun s H C cl fp => ht s H C cl fp) (fun s H C cl fp => (he s H C cl fp).can) hs, ad_setLc (ad_lc ai hf)⟩
/-! ### tests -/
theorem pt_lt (ha : PP X Wx a F1) (hb : PP X Wx b F2) : PPT X Wx (.Compare a [.Lt] [b] pos) (fTest (fOp gLt F1 F2)) := ptt_cmp or_lt ag_lt ha hb
theorem pt_le (ha : PP X Wx a F1) (hb : PP X Wx b F2) : PPT X Wx (.Compare a [.LtE] [b] pos) (fTest (fOp gLe F1 F2)) := ptt_cmp or_le ag_le ha hb
theorem pt_gt (ha : PP X Wx a F1) (hb : PP X Wx b F2) : PPT X Wx (.Compare a [.Gt] [b] pos) (fTest (fOp gGt F1 F2)) := ptt_cmp or_gt ag_gt ha hb
theorem pt_ge (ha : PP X Wx a F1) (hb : PP X Wx b F2) : PPT X Wx (.Compare a [.GtE] [b] pos) (fTest (fOp (fI0 fun i j => .bl (decide (j ≤ i))) F1 F2)) := ptt_cmp op_ge ad_ge ha hb
theorem pt_isN (ha : PP X Wx a F1) (hb : PP X Wx b F2) : PPT X Wx (.Compare a [.Is] [b] pos) (fTest (fOp (fIsN false) F1 F2)) := ptt_cmp op_isN ad_isN ha hb
theorem pt_notN (ha : PP X Wx a F1) (hb : PP X Wx b F2) : PPT X Wx (.Compare a [.IsNot] [b] pos) (fTest (fOp (fIsN true) F1 F2)) := ptt_cmp op_notN ad_notN ha hb
theorem pt_eq (hu : X.A.units + 64 < cLine) (ha : PP X Wx a F1) (hb : PP X Wx b F2) : PPT X Wx (.Compare a [.Eq] [b] pos) (fTest (fOp gEq F1 F2)) := ptt_cmp (op_eq.or ((op_eqK (by omega)).or (op_eqD hu))) (ad_eqS.or (ad_eqK.or ad_eqD)) ha hb
theorem pt_ne (hu : X.A.units + 64 < cLine) (ha : PP X Wx a F1) (hb : PP X Wx b F2) : PPT X Wx (.Compare a [.NotEq] [b] pos) (fTest (fOp gNe F1 F2)) := ptt_cmp (op_ne.or ((op_neK (by omega)).or (op_neD hu))) (ad_neS.or (ad_neK.or ad_neD)) ha hb
theorem pt_in (hu : X.A.units + 1 < cLine) (ha : PP X Wx a F1) (hb : PP X Wx b F2) (hm : behindInMarks .In b = false := by rfl) : PPT X Wx (.Compare a [.In] [b] pos) (fTest (fOp (gIn false) F1 F2)) := ptt_cmp (op_in_seq.or (op_dinR hu)) (ad_in.or ad_dinR) ha hb hm
theorem pt_notIn (hu : X.A.units + 1 < cLine) (ha : PP X Wx a F1) (hb : PP X Wx b F2) (hm : behindInMarks .NotIn b = false := by rfl) : PPT X Wx (.Compare a [.NotIn] [b] pos) (fTest (fOp (gIn true) F1 F2)) := ptt_cmp (op_notIn_seq.or (op_dnotinR hu)) (ad_in.or ad_dinR) ha hb hm
theorem pt_eqO {cs : List Addr} (d : DS X.prog X.w X.K X.mg X.base C "__eq__" 2 k FF') (h : EqK X.K C cs) (hG : X.A.guards = some []) (hr : Room k X.A) (hu : X.A.units < cLine) (ha : PP X Wx a F1) (hb : PP X Wx b F2) : PPT X Wx (.Compare a [.Eq] [b] pos) (fTest (fOp (fEqO C cs FF') F1 F2)) := by
  obtain ⟨f, fd, ps, FG, hs, bi⟩ := d.g
  exact ptt_cmp (op_eqO FG hG hr hu bi hs) (ad_eqO h) ha hb
theorem pt_neO {cs : List Addr} (d : DS X.prog X.w X.K X.mg X.base C "__eq__" 2 k FF') (h : EqK X.K C cs) (hG : X.A.guards = some []) (hr : Room (k + 1) X.A) (hu : X.A.units + 1 < cLine) (ha : PP X Wx a F1) (hb : PP X Wx b F2) : PPT X Wx (.Compare a [.NotEq] [b] pos) (fTest (fOp (fNeO C cs FF') F1 F2)) := by
  obtain ⟨f, fd, ps, FG, hs, bi⟩ := d.g
  exact ptt_cmp (op_neO FG hG hr hu bi hs h.ne) (ad_neO h) ha hb
theorem pt_inO (d : DS X.prog X.w X.K X.mg X.base C "__contains__" 2 k FF') (hG : X.A.guards = some []) (hr : Room k X.A) (ha : PP X Wx a F1) (hb : PP X Wx b F2) (hm : behindInMarks .In b = false := by rfl) : PPT X Wx (.Compare a [.In] [b] pos) (fTest (fOp (fInO C false FF') F1 F2)) := by
  obtain ⟨f, fd, ps, FG, hs, bi⟩ := d.g
  exact ptt_cmp (op_inO FG hG hr bi hs) ad_inO ha hb hm
theorem pt_notInO (d : DS X.prog X.w X.K X.mg X.base C "__contains__" 2 k FF') (hG : X.A.guards = some []) (hr : Room k X.A) (ha : PP X Wx a F1) (hb : PP X Wx b F2) (hm : behindInMarks .NotIn b = false := by rfl) : PPT X Wx (.Compare a [.NotIn] [b] pos) (fTest (fOp (fInO C true FF') F1 F2)) := by
  obtain ⟨f, fd, ps, FG, hs, bi⟩ := d.g
  exact ptt_cmp (op_notInO FG hG hr bi hs) ad_inO ha hb hm
theorem ptt_chain {op op' : CmpOp} {r r' : R2} {f g} (ho : OpR X (compareOp op) r) (ho' : OpR X (compareOp op') r') (h : AdR2 Wx r f) (h' : AdR2 Wx r' g) (ha : PP X Wx a F1) (hb : PP X Wx b F2) (hc : PP X Wx c F3)
    (hm : lastMarks [op, op'] [b, c] = false := by with_unfolding_all rfl) : PPT X Wx (.Compare a [op, op'] [b, c] pos) (fTest (fChain f g F1 F2 F3)) :=
  let ⟨_, pa, aa⟩ := ha; let ⟨_, pb, ab⟩ := hb; let ⟨_, pc, ac⟩ := hc; ⟨_, pt_chain ho ho' pa pb pc hm, ad_test (ad_chain h h' aa ab ac)⟩
theorem pp_lele (ha : PP X Wx a F1) (hb : PP X Wx b F2) (hc : PP X Wx c F3) (hm : lastMarks [.LtE, .LtE] [b, c] = false := by with_unfolding_all rfl) : PP X Wx (.Compare a [.LtE, .LtE] [b, c] pos) (fChain gLe gLe F1 F2 F3) := pp_chain or_le or_le ag_le ag_le ha hb hc hm
theorem pt_lele (ha : PP X Wx a F1) (hb : PP X Wx b F2) (hc : PP X Wx c F3) (hm : lastMarks [.LtE, .LtE] [b, c] = false := by with_unfolding_all rfl) : PPT X Wx (.Compare a [.LtE, .LtE] [b, c] pos) (fTest (fChain gLe gLe F1 F2 F3)) := ptt_chain or_le or_le ag_le ag_le ha hb hc hm
theorem pp_lelt (ha : PP X Wx a F1) (hb : PP X Wx b F2) (hc : PP X Wx c F3) (hm : lastMarks [.LtE, .Lt] [b, c] = false := by with_unfolding_all rfl) : PP X Wx (.Compare a [.LtE, .Lt] [b, c] pos) (fChain gLe gLt F1 F2 F3) := pp_chain or_le or_lt ag_le ag_lt ha hb hc hm
theorem pt_lelt (ha : PP X Wx a F1) (hb : PP X Wx b F2) (hc : PP X Wx c F3) (hm : lastMarks [.LtE, .Lt] [b, c] = false := by with_unfolding_all rfl) : PPT X Wx (.Compare a [.LtE, .Lt] [b, c] pos) (fTest (fChain gLe gLt F1 F2 F3)) := ptt_chain or_le or_lt ag_le ag_lt ha hb hc hm
/-! ### methods of built-ins -/
theorem pp_append {apos cpos : Pos} (ho : PP X Wx o F1) (he : PP X Wx e F2) (hbase : attributeBase o "append" X.env (eval o X.env) = eval o X.env := by rfl)
    (hfew : ((backTo cpos (starEach [e] X.env)).all (fun x => !x.1) && (backToKw cpos (keywordEach [] X.env)).all (fun x => x.1.isSome)
      && decide ([e].length + ([] : List Keyword).length + (if ([] : List Keyword).isEmpty then 0 else 1) < 30)) = true := by rfl)
    (hline : (apos.endLine == cpos.line) = true := by rfl) (hs : starEach [e] X.env = (false, eval e X.env) :: starEach [] X.env := by rfl) (hpl : (backTo cpos (starEach [] X.env)).any (·.1) = false := by rfl) :
    PP X Wx (.Call (.Attribute o "append" apos) [e] [] cpos) (fBM "list" mAppend F1 (fCons F2 fNil)) := by
  refine pp_bm PySem.F.plainAttrs_list PySem.F.slot_list_append PySem.F.type_list_append mt_append am_append ho (ppa_cons he ppa_nil hs) ?_ ?_ ?_ ?_ ?_
  all_goals assumption
end
end Pu

set_option Elab.async false
set_option linter.all false
set_option maxRecDepth 100000
set_option maxHeartbeats 4000000
namespace Pu
open L2 PySem PySem.Spec PyProof.Rows E10
section
variable {X : Cx} {Wx : WX} {a b e o : Expr} {F F1 F2 F3 : EF} {pos p : Pos}
/-- xs[i], x = a pair -/
def sSubName (i : Nat) (Fv Fl Fi : EF) : SF := fun γ μ => (Fv γ μ).s γ fun wv m => match wv with
  | .v (.tup [p, q]) => (Fl γ m).s γ fun wl m => (Fi γ m).s γ fun wi m => match wL m wl with
    | some (j, ps) => match wi with
      | .v (.int z) => match ixN ps.length z with
        | some n => .nx (γ.set i (some (.v q))) (m.set j (.lst (ps.set n p)))
        | none => .bad
      | _ => .bad
    | none => .bad
  | _ => .bad
theorem ad_subName {i : Nat} {K : PySem.W.Frag} {tl ti tv : TE} (hv : Ad Wx tv F1) (hl : Ad Wx tl F2) (hi : Ad Wx ti F3) : AdS Wx (tAsg tv (gTup K 2 (gCons (gSub tl ti rSetL) (gCons (gName i) gNil)))) (sSubName i F1 F2 F3) := fun D as γ μ σ H E k ev g => by
  refine hv D as γ μ σ H _ k ev ((GS.of_s (R := RepW) k ev g).mono fun v H1 ⟨D1, as1, μ1, wv, n1, k1, ev1, r1, g1⟩ => ?_)
  split at g1
  · rename_i p q
    obtain ⟨t, xs, rfl, _, ht, rs⟩ := rep_tup r1
    cases rs with
    | cons rp rs =>
      cases rs with
      | cons rq rs =>
        cases rs
        refine ⟨t, _, rfl, .inl ht, rfl, _, _, rfl, ?_⟩
        refine hl D1 as1 γ μ1 σ H1 _ k1 ev1 ((GS.of_s (R := RepW) k1 ev1 g1).mono fun x H2 ⟨D2, as2, μ2, wd, n2, k2, ev2, r2, g2⟩ => ?_)
        refine hi D2 as2 γ μ2 σ H2 _ k2 ev2 ((GS.of_s (R := RepW) k2 ev2 g2).mono fun y H3 ⟨D3, as3, μ3, wk, n3, k3, ev3, r3, g3⟩ => ?_)
        split at g3
        · rename_i j ps e
          split at g3
          · rename_i z
            split at g3
            · rename_i n en
              obtain ⟨a, xs, rfl, ea, ha, rl⟩ := wL_ok k3 (r2.nx n3) e
              have rp' := Rep.sd n3.sd (Rep.sd n2.sd rp)
              have rq' := Rep.sd n3.sd (Rep.sd n2.sd rq)
              refine ⟨a, xs, z, n, rfl, rep_int r3, ha, by rw [rl.length]; exact en, ?_⟩
              obtain ⟨n', k'⟩ := cell_set (o := .lst (xs.set n _)) (u := .lst []) (c := .lst (ps.set n p)) k3 ea fun D' H' s e' => ⟨_, e', (Reps.sd s rl).set (Rep.sd s rp') n⟩
              refine ⟨_, _, rfl, rfl, ?_⟩
              exact g3 _ D3 as3 _ n' k' ((ev3.nx n').set (show RepW D3 as3 _ _ (.v q) from Rep.sd n'.sd rq')) (List.length_set ..)
            · exact g3.elim
          · exact g3.elim
        · exact g3.elim
  · exact g1.elim
theorem ppq_subName {i : Nat} {x : Str} {px ps pt : Pos} {kt} (hv : PP X Wx e F1) (hl : PP X Wx a F2) (hi : PP X Wx b F3) (hc : X.calm = true) (hN : X.N.Nodup) (hx : X.N[i]? = some x) (hlc : Loc X.env.scope x) (hf : X.fn x = true ∨ X.env.scope.names.lookup x = some .local := by first | exact .inl rfl | exact .inr rfl | assumption)
    (hs : swapsWithSole [.Tuple [.Subscript a b ps, .Name x px] kt pt] e pos.line X.env = pure false := by rfl) (hw : swappedStores [.Tuple [.Subscript a b ps, .Name x px] kt pt] e X.env = pure none := by rfl)
    (h1 : (assignEach [.Tuple [.Subscript a b ps, .Name x px] kt pt] X.env).map (·.2) = [assign (.Tuple [.Subscript a b ps, .Name x px] kt pt) X.env] := by rfl)
    (hn : (assignEach [.Subscript a b ps, .Name x px] X.env).length = 2 := by rfl) (hst : (assignEach [.Subscript a b ps, .Name x px] X.env).findIdx? (·.1) = none := by rfl)
    (h2 : (assignEach [.Subscript a b ps, .Name x px] X.env) = (false, assign (.Subscript a b ps) X.env) :: assignEach [.Name x px] X.env := by rfl)
    (ha : ∀ v, assign (.Subscript a b ps) X.env v = (do
      let ov ← holding [v] (eval a X.env)
      let iv ← holding [v, ov] (eval b X.env)
      standAt ps
      holding [v, ov, iv] (setItem ov iv v)
      release [v, ov, iv] []) := by intro _; rfl) : PPS X Wx (.Assign [.Tuple [.Subscript a b ps, .Name x px] kt pt] e pos) (sSubName i F1 F2 F3) := by
  obtain ⟨_, p1, a1⟩ := hv
  obtain ⟨_, p2, a2⟩ := hl
  obtain ⟨_, p3, a3⟩ := hi
  exact ⟨_, ps_asg p1 (pg_tup hc (pgs_cons (pg_sub p2 p3 set_list ha) (pgs_cons (pg_name hN hx hlc hf) pgs_nil)) hn hst) hs hw h1, ad_subName a1 a2 a3⟩
theorem repWs3 {D as H} {vs : List V} {u v w : W} (r : RepWs D as H vs [u, v, w]) : ∃ x y z, vs = [x, y, z] ∧ RepW D as H x u ∧ RepW D as H y v ∧ RepW D as H z w := by
  cases r with
  | cons r t =>
    obtain ⟨y, z, rfl, r2, r3⟩ := repWs2 t
    exact ⟨_, y, z, rfl, r, r2, r3⟩
def sPar3 (i j l : Nat) (A : AF) : SF := fun γ μ => (A γ μ).s γ fun ws m => match ws with
  | [u, v, w] => .nx (((γ.set i (some u)).set j (some v)).set l (some w)) m
  | _ => .bad
theorem ad_par3 {i j l : Nat} {ta : TA} {A : AF} (h : AdA Wx ta A) : AdS Wx (tPar3 i j l ta) (sPar3 i j l A) := fun D as γ μ σ H E k ev gg => by
  refine h D as γ μ σ H _ k ev ((GS.of_s (R := RepWs) k ev gg).mono fun xs H1 ⟨D1, as1, μ1, ws, n1, k1, ev1, r1, g1⟩ => ?_)
  split at g1
  · obtain ⟨x, y, z, rfl, ru, rv, rw'⟩ := repWs3 r1
    exact ⟨x, y, z, rfl, g1 _ D1 as1 H1 .refl k1 (((ev1.set ru).set rv).set rw') (by rw [List.length_set, List.length_set, List.length_set])⟩
  · exact g1.elim
theorem ppq_par3 {i j l : Nat} {x y z : Str} {a b c : Expr} {px py pz pt pos : Pos} {kt k2 pt2} {A : AF} (hc : X.calm = true) (hN : X.N.Nodup) (hi : X.N[i]? = some x) (hj : X.N[j]? = some y) (hl : X.N[l]? = some z) (hij : i ≠ j) (hil : i ≠ l) (hjl : j ≠ l)
    (hx : X.env.scope.names.lookup x = some .local) (hy : X.env.scope.names.lookup y = some .local) (hz : X.env.scope.names.lookup z = some .local) (ha : PPA X Wx [a, b, c] A)
    (hw : swappedStores [.Tuple [.Name x px, .Name y py, .Name z pz] kt pt] (.Tuple [a, b, c] k2 pt2) X.env = pure (some [x, y, z]))
    (hs : swapsWithSole [.Tuple [.Name x px, .Name y py, .Name z pz] kt pt] (.Tuple [a, b, c] k2 pt2) pos.line X.env = pure false := by rfl) :
    PPS X Wx (.Assign [.Tuple [.Name x px, .Name y py, .Name z pz] kt pt] (.Tuple [a, b, c] k2 pt2) pos) (sPar3 i j l A) := let ⟨_, p, ad⟩ := ha; ⟨_, ps_par3 hc hN hi hj hl hij hil hjl hx hy hz p hw hs, ad_par3 ad⟩
/-- a, b = x, y by way of the tuple -/
theorem ad_parT {K : PySem.W.Frag} {i j : Nat} {ta : TA} {A : AF} (h : AdA Wx ta A) : AdS Wx (tAsg (tTup ta) (gTup K 2 (gCons (gName i) (gCons (gName j) gNil)))) (sPar i j A) := fun D as γ μ σ H E k ev gg => by
  refine h D as γ μ σ H _ k ev ((GS.of_s (R := RepWs) k ev gg).mono fun xs H1 ⟨D1, as1, μ1, ws, n1, k1, ev1, r1, g1⟩ => ?_)
  split at g1
  · obtain ⟨v, w, rfl, rv, rw'⟩ := repWs2 r1
    refine ⟨by show 2 ≤ sizeLine; decide, fun p np => ?_⟩
    have sm := new_same' (o := .tup [v, w]) np
    have n := Nx.of_same (D := D1) (as := as1) sm
    refine ⟨p, [v, w], rfl, .inl (.inl upd_same), rfl, v, [w], rfl, w, [], rfl, rfl, ?_⟩
    exact g1 _ D1 as1 _ n (k1.same sm) (((ev1.nx n).set (rv.nx n)).set (rw'.nx n)) (by rw [List.length_set, List.length_set])
  · exact g1.elim
theorem ppq_parT {i j : Nat} {x y : Str} {a b : Expr} {px py pt pos : Pos} {kt k2 pt2} {A : AF} (hc : X.calm = true) (hN : X.N.Nodup) (hi : X.N[i]? = some x) (hj : X.N[j]? = some y) (hx : Loc X.env.scope x) (hy : Loc X.env.scope y)
    (hf : X.fn x = true ∨ X.env.scope.names.lookup x = some .local) (hf2 : X.fn y = true ∨ X.env.scope.names.lookup y = some .local) (ha : PPA X Wx [a, b] A)
    (hs : swapsWithSole [.Tuple [.Name x px, .Name y py] kt pt] (.Tuple [a, b] k2 pt2) pos.line X.env = pure false := by rfl) (hw : swappedStores [.Tuple [.Name x px, .Name y py] kt pt] (.Tuple [a, b] k2 pt2) X.env = pure none := by rfl)
    (h1 : (assignEach [.Tuple [.Name x px, .Name y py] kt pt] X.env).map (·.2) = [assign (.Tuple [.Name x px, .Name y py] kt pt) X.env] := by rfl)
    (hn : (assignEach [.Name x px, .Name y py] X.env).length = 2 := by rfl) (hst : (assignEach [.Name x px, .Name y py] X.env).findIdx? (·.1) = none := by rfl) :
    PPS X Wx (.Assign [.Tuple [.Name x px, .Name y py] kt pt] (.Tuple [a, b] k2 pt2) pos) (sPar i j A) := by
  obtain ⟨_, p, ad⟩ := ha
  exact ⟨_, ps_asg (pe_tup p) (pg_tup hc (pgs_cons (pg_name hN hi hx hf) (pgs_cons (pg_name hN hj hy hf2) pgs_nil)) hn hst) hs hw h1, ad_parT ad⟩
end
end Pu

set_option Elab.async false
set_option linter.all false
set_option maxRecDepth 100000
set_option maxHeartbeats 4000000
/-! ### reckoning with what is denoted; the law's end -/
namespace Pu
open L2 PySem PySem.Spec PyProof.Rows E10
/-- no list is tracked behind the top -/
def nolB (K : PySem.W.Frag) : Bool := K.all fun p => match p.2.cls with
  | .type n => decide (n ≠ "list")
  | _ => true
theorem nolB_ok : ∀ {K : PySem.W.Frag}, nolB K = true → ∀ {a : Addr} {o : Obj}, K.lookup a = some o → o.cls = .type "list" → False
  | [], _, a, o, h, _ => by cases h
  | (b, u) :: K, hn, a, o, h, hc => by
    unfold nolB at hn
    rw [List.all_cons] at hn
    obtain ⟨h1, h2⟩ := Bool.and_eq_true_iff.mp hn
    rw [List.lookup_cons] at h
    split at h
    · cases h
      simp only [hc] at h1
      exact absurd rfl (of_decide_eq_true h1)
    · exact nolB_ok (K := K) h2 h hc
theorem seq_rd {K : PySem.W.Frag} (hn : nolB K = true) {H : Hp} {a : Addr} {xs : List V} (h : SqL K H a xs) : Rd H a (.lst xs) := by
  rcases h with h | ⟨o, its, n, h1, h2, _⟩
  · exact h
  · exact (nolB_ok hn h1 h2).elim
theorem sk_nil {H : Hp} : Sk (fun _ => False) [] H [] := by
  refine ⟨rfl, fun _ h => h.elim, fun j a e => ?_, fun i j a e => ?_, fun i a e => ?_⟩ <;> simp at e
theorem law_want {F : FF} {K : PySem.W.Frag} (hn : nolB K = true) {H : Hp} {a : Addr} {ns : List Int} (hq : SqL K H a (ns.map V.int)) (h : ∃ m, F [.v (.lst (ns.map P.int))] [] = .ok (.v (.bl true)) m) : noE (spP 1 F) [.ref a] H (fun v _ => v = .bl true) L2.E0 := by
  obtain ⟨m, h⟩ := h
  refine ⟨rfl, fun _ => False, [], [.v (.lst (ns.map P.int))], [], sk_nil, .cons (Rep.lst (fun h => h) (seq_rd hn hq) (ints_rep ns)) .nil, ?_⟩
  rw [h]
  exact fun v D2 as2 H2 n2 k2 r => rep_bl r
/-! ### comprehensions, loops -/
theorem lc_val {f : GF} {T : TF} {E : EF} {γ : Γ} {μ : Μ} (t : P → Bool) (e : P → P) : ∀ {ps : List P}, (∀ p ∈ ps, ∃ γ1, f p γ = some γ1 ∧ T γ1 μ = .ok (t p) μ ∧ (t p = true → E γ1 μ = .ok (.v (e p)) μ)) → lcGo f T E γ ps μ = .ok ((ps.filter t).map e) μ
  | [], _ => rfl
  | p :: r, h => by
    obtain ⟨γ1, h1, h2, h3⟩ := h p List.mem_cons_self
    have ih := lc_val (ps := r) t e fun q m => h q (List.mem_cons_of_mem _ m)
    rw [lcGo, h1]
    simp only [h2, O.nx, O.bind_ok]
    by_cases c : t p = true
    · rw [if_pos c, h3 c]
      simp only [O.bind_ok, lcW, ih, List.filter_cons, c, if_true, List.map_cons]
    · rw [if_neg c, ih]
      simp only [List.filter_cons, c, Bool.false_eq_true, if_false]
/-- with something that goes on: R says what stands, C what is made -/
theorem lc_run {f : GF} {T : TF} {E : EF} {γ : Γ} (R : Μ → Prop) (C : P → P → Prop) (hT : T = fYes) : ∀ {ps : List P} {μ : Μ}, R μ → (∀ p ∈ ps, ∀ m, R m → ∃ γ1 q m', f p γ = some γ1 ∧ E γ1 m = .ok (.v q) m' ∧ R m' ∧ C p q) → ∃ qs m', lcGo f T E γ ps μ = .ok qs m' ∧ R m' ∧ Paired C ps qs
  | [], μ, r, _ => ⟨[], μ, rfl, r, .nil⟩
  | p :: l, μ, r, h => by
    obtain ⟨γ1, q, m1, h1, h2, h3, h4⟩ := h p List.mem_cons_self μ r
    obtain ⟨qs, m2, h5, h6, h7⟩ := lc_run R C hT (ps := l) h3 fun p m => h p (List.mem_cons_of_mem _ m)
    refine ⟨q :: qs, m2, ?_, h6, .cons h4 h7⟩
    subst hT
    rw [lcGo, h1]
    simp only [fYes, O.nx, O.bind_ok, if_true, h2, lcW, h5]
theorem dc_val {f : GF} {T : TF} {Ek Ev : EF} {γ : Γ} {μ : Μ} (t : P → Bool) (k : P → Key) (v : P → P) : ∀ {ps : List P} {acc : List (Key × P)}, (∀ p ∈ ps, ∃ γ1 kp, f p γ = some γ1 ∧ T γ1 μ = .ok (t p) μ ∧ (t p = true → Ek γ1 μ = .ok (.v kp) μ ∧ keyP kp = some (k p) ∧ Ev γ1 μ = .ok (.v (v p)) μ)) →
    dcGo f T Ek Ev γ ps acc μ = .ok ((ps.filter t).foldl (fun a p => putP a (k p) (v p)) acc) μ
  | [], acc, _ => rfl
  | p :: r, acc, h => by
    obtain ⟨γ1, kp, h1, h2, h3⟩ := h p List.mem_cons_self
    have ih := fun acc => dc_val (ps := r) (acc := acc) t k v fun q m => h q (List.mem_cons_of_mem _ m)
    rw [dcGo, h1]
    simp only [h2, O.nx, O.bind_ok]
    by_cases c : t p = true
    · obtain ⟨h4, h5, h6⟩ := h3 c
      rw [if_pos c, h4]
      simp only [O.bind_ok, h6, dcW, h5, ih, List.filter_cons, c, if_true, List.foldl_cons]
    · rw [if_neg c, ih]
      simp only [List.filter_cons, c, Bool.false_eq_true, if_false]
theorem putP_new {acc : List (Key × P)} {k : Key} {v : P} (h : k ∉ acc.map (·.1)) : putP acc k v = acc ++ [(k, v)] := by
  unfold putP
  rw [if_neg]
  intro c
  obtain ⟨x, hx, e⟩ := List.any_eq_true.mp c
  exact h (List.mem_map.mpr ⟨x, hx, of_decide_eq_true e⟩)
theorem put_all {α : Type} (k : α → Key) (v : α → P) : ∀ {l : List α} {acc : List (Key × P)}, (acc.map (·.1) ++ l.map k).Nodup → l.foldl (fun a p => putP a (k p) (v p)) acc = acc ++ l.map fun p => (k p, v p)
  | [], acc, _ => by simp
  | p :: r, acc, h => by
    have h1 : k p ∉ acc.map (·.1) := fun m => by
      rw [List.map_cons] at h
      exact (List.nodup_append.mp h).2.2 _ m _ List.mem_cons_self rfl
    rw [List.foldl_cons, putP_new h1, put_all k v (by simpa using h)]
    simp
theorem for_run {f : GF} {B : SF} (R : Nat → Γ → Μ → Prop) : ∀ {ps : List P} {i : Nat} {γ : Γ} {μ : Μ}, R i γ μ → (∀ j p γ μ, ps[j]? = some p → R (i + j) γ μ → ∃ γ1, f p γ = some γ1 ∧ ∃ γ2 m2, (B γ1 μ = .nx γ2 m2 ∨ B γ1 μ = .ct γ2 m2) ∧ R (i + j + 1) γ2 m2) → ∃ γ2 m2, forGo f B ps γ μ = .nx γ2 m2 ∧ R (i + ps.length) γ2 m2
  | [], i, γ, μ, r, _ => ⟨γ, μ, rfl, r⟩
  | p :: l, i, γ, μ, r, h => by
    obtain ⟨γ1, h1, γ2, m2, h2, h3⟩ := h 0 p γ μ rfl r
    obtain ⟨γ3, m3, h4, h5⟩ := for_run R (ps := l) (i := i + 1) h3 fun j q γ μ e r => by
      have := h (j + 1) q γ μ e (by rw [show i + (j + 1) = i + 1 + j by omega]; exact r)
      rw [show i + (j + 1) + 1 = i + 1 + j + 1 by omega] at this
      exact this
    refine ⟨γ3, m3, ?_, by rw [List.length_cons, show i + (l.length + 1) = i + 1 + l.length by omega]; exact h5⟩
    rw [forGo, h1]
    rcases h2 with h2 | h2 <;> simp only [h2, h4]
end Pu

set_option Elab.async false
set_option linter.all false
set_option maxRecDepth 100000
set_option maxHeartbeats 4000000
namespace Pu
open L2 PySem PySem.Spec PyProof.Rows E10
/-! ### the cells that a value's reckoning made fall away -/
def fDrop (F : EF) : EF := fun γ μ => (F γ μ).bind fun w m => match w with
  | .v p => .ok (.v p) (m.take μ.length)
  | .loc _ => .bad
theorem ad_drop {Wx : WX} {te : TE} {F : EF} (h : Ad Wx te F) : Ad Wx te (fDrop F) := fun D as γ μ σ H Q k ev g => by
  refine h D as γ μ σ H Q k ev ?_
  unfold fDrop at g
  cases e : F γ μ with
  | bad => rw [e] at g; exact g
  | exc C fs m => rw [e] at g; exact g
  | ok w m =>
    rw [e] at g
    intro b D2 as2 H2 n2 k2 r2
    cases w with
    | loc j => exact g.elim
    | v p =>
      obtain ⟨t, rfl⟩ := n2.pre
      have el : (as ++ t).take μ.length = as := by rw [← k.len, List.take_left]
      have at' : ∀ (j : Nat) (a : Addr), as[j]? = some (some a) → (as ++ t)[j]? = some (some a) := fun j a q => get_pre q
      refine g b D2 as H2 ⟨⟨[], by simp⟩, n2.mono, n2.new, fun j a q => .inl q, n2.hid, n2.rd, n2.sol⟩ ⟨?_, k2.dn, fun j a q => k2.inD j a (at' j a q), fun i j a q1 q2 => k2.inj i j a (at' i a q1) (at' j a q2), fun j a q => ?_⟩ r2
      · have := k2.len
        rw [List.length_append] at this
        rw [List.length_take, k.len, Nat.min_eq_left (by have := k.len; omega)]
      · obtain ⟨c, q1, q2⟩ := k2.ok j a (at' j a q)
        have lt : j < μ.length := by
          rw [← k.len]
          exact (List.getElem?_eq_some_iff.mp q).1
        exact ⟨c, by rw [List.getElem?_take_of_lt lt]; exact q1, q2⟩
theorem pp_drop {X : Cx} {Wx : WX} {e : Expr} {F : EF} (h : PP X Wx e F) : PP X Wx e (fDrop F) := let ⟨_, p, ad⟩ := h; ⟨_, p, ad_drop ad⟩
end Pu

set_option Elab.async false
set_option linter.all false
set_option maxRecDepth 100000
set_option maxHeartbeats 4000000
namespace E10
open L2 PySem PySem.Spec PyProof.Rows
/-! ### the text by places -/
abbrev top (i : Nat) : Stmt := PySem.Challenge.pw_anyofthese_k16_whole_never_later.main.body.getD i (.Pass ⟨0, 0, 0, 0⟩)
abbrev inC (i j : Nat) : Stmt := match top i with
  | .ClassDef (body := b) .. => b.getD j (.Pass ⟨0, 0, 0, 0⟩)
  | _ => .Pass ⟨0, 0, 0, 0⟩
abbrev s_is_name : Stmt := top 12
abbrev s_is_integer : Stmt := top 13
abbrev s_is_moment_of : Stmt := top 14
abbrev s_has_names : Stmt := top 15
abbrev s_is_times : Stmt := top 16
abbrev s_check_shift : Stmt := top 18
abbrev s_check_times : Stmt := top 19
abbrev s_check_moment : Stmt := top 20
abbrev s_in_order : Stmt := top 22
abbrev s_moved : Stmt := top 23
abbrev s_least_of : Stmt := top 24
abbrev s_term_text : Stmt := top 26
abbrev s_check_shifts : Stmt := top 29
abbrev s__law_pot : Stmt := top 32
abbrev s__law_draw : Stmt := top 33
abbrev s__law_choice : Stmt := top 34
abbrev s__law_names : Stmt := top 35
abbrev s__law_number : Stmt := top 36
abbrev s__law_changed : Stmt := top 37
abbrev s__law_telling : Stmt := top 38
abbrev s__law_early : Stmt := top 39
abbrev s__law_pair_right : Stmt := top 40
abbrev s__law_near_right : Stmt := top 41
abbrev s__law_three_right : Stmt := top 42
abbrev s__law_right : Stmt := top 43
abbrev s_law : Stmt := top 44
abbrev m_InvalidShift___init__ : Stmt := inC 3 0
abbrev m_InvalidShifts___init__ : Stmt := inC 4 0
abbrev m_InvalidTimes___init__ : Stmt := inC 5 0
abbrev m_UnknownMoment___init__ : Stmt := inC 7 0
abbrev m_TooMany___init__ : Stmt := inC 9 0
abbrev m_Earliest___init__ : Stmt := inC 30 0
abbrev m_Earliest_of : Stmt := inC 30 1
abbrev m_Earliest_moments : Stmt := inC 30 2
abbrev m_Earliest_shifts : Stmt := inC 30 3
abbrev m_Earliest___getitem__ : Stmt := inC 30 4
abbrev m_Earliest___contains__ : Stmt := inC 30 5
abbrev m_Earliest___len__ : Stmt := inC 30 6
abbrev m_Earliest___iter__ : Stmt := inC 30 7
abbrev m_Earliest___call__ : Stmt := inC 30 8
abbrev m_Earliest_first : Stmt := inC 30 9
abbrev m_Earliest___add__ : Stmt := inC 30 10
abbrev m_Earliest___radd__ : Stmt := inC 30 11
abbrev m_Earliest___sub__ : Stmt := inC 30 12
abbrev m_Earliest___or__ : Stmt := inC 30 13
abbrev m_Earliest_is_never_later : Stmt := inC 30 14
abbrev m_Earliest_without : Stmt := inC 30 15
abbrev m_Earliest_put_in : Stmt := inC 30 16
abbrev m_Earliest___eq__ : Stmt := inC 30 17
abbrev m_Earliest___str__ : Stmt := inC 30 18
abbrev m_Earliest___repr__ : Stmt := inC 30 19
end E10

set_option Elab.async false
set_option linter.all false
set_option maxRecDepth 100000
set_option maxHeartbeats 4000000
namespace E10
open L2 PySem PySem.Spec PyProof.Rows
open He (ga ma)
/-! ### what is looked at behind the top -/
def nfree : List Str := ["isinstance", "all", "any", "len", "range", "int", "max", "min", "abs", "divmod", "repr", "str", "dict", "zip", "bool", "tuple", "sorted", "list", "sum", "set", "enumerate"]
def nglob : List Str := ["is_name", "is_integer", "is_moment_of", "has_names", "is_times", "check_shift", "check_times", "check_moment", "in_order", "moved", "least_of", "check_shifts", "_law_pot", "_law_draw", "_law_choice", "_law_names", "_law_number", "_law_changed", "_law_telling", "_law_early", "_law_pair_right", "_law_near_right", "_law_three_right", "_law_right", "law", "Earliest"]
def nints : List (Str × Int) := [("MOST_LETTERS", 8), ("MOST_TERMS", 8)]
def dfs : List He5.DefA := [⟨fun K => ga K "is_name", "is_name", "is_name", defArgs s_is_name, defBody s_is_name, defScope s_is_name, [], []⟩,
  ⟨fun K => ga K "is_integer", "is_integer", "is_integer", defArgs s_is_integer, defBody s_is_integer, defScope s_is_integer, [], []⟩,
  ⟨fun K => ga K "is_moment_of", "is_moment_of", "is_moment_of", defArgs s_is_moment_of, defBody s_is_moment_of, defScope s_is_moment_of, [], []⟩,
  ⟨fun K => ga K "has_names", "has_names", "has_names", defArgs s_has_names, defBody s_has_names, defScope s_has_names, [], []⟩,
  ⟨fun K => ga K "is_times", "is_times", "is_times", defArgs s_is_times, defBody s_is_times, defScope s_is_times, [], []⟩,
  ⟨fun K => ga K "check_shift", "check_shift", "check_shift", defArgs s_check_shift, defBody s_check_shift, defScope s_check_shift, [], []⟩,
  ⟨fun K => ga K "check_times", "check_times", "check_times", defArgs s_check_times, defBody s_check_times, defScope s_check_times, [], []⟩,
  ⟨fun K => ga K "check_moment", "check_moment", "check_moment", defArgs s_check_moment, defBody s_check_moment, defScope s_check_moment, [], []⟩,
  ⟨fun K => ga K "in_order", "in_order", "in_order", defArgs s_in_order, defBody s_in_order, defScope s_in_order, [], []⟩,
  ⟨fun K => ga K "moved", "moved", "moved", defArgs s_moved, defBody s_moved, defScope s_moved, [], []⟩,
  ⟨fun K => ga K "least_of", "least_of", "least_of", defArgs s_least_of, defBody s_least_of, defScope s_least_of, [], []⟩,
  ⟨fun K => ga K "check_shifts", "check_shifts", "check_shifts", defArgs s_check_shifts, defBody s_check_shifts, defScope s_check_shifts, [], []⟩,
  ⟨fun K => ma K (ga K "Earliest") "__init__", "__init__", "Earliest.__init__", defArgs m_Earliest___init__, defBody m_Earliest___init__, defScope m_Earliest___init__, [], []⟩,
  ⟨fun K => ma K (ga K "Earliest") "shifts", "shifts", "Earliest.shifts", defArgs m_Earliest_shifts, defBody m_Earliest_shifts, defScope m_Earliest_shifts, [], []⟩,
  ⟨fun K => ma K (ga K "Earliest") "__call__", "__call__", "Earliest.__call__", defArgs m_Earliest___call__, defBody m_Earliest___call__, defScope m_Earliest___call__, [], []⟩,
  ⟨fun K => ma K (ga K "Earliest") "__add__", "__add__", "Earliest.__add__", defArgs m_Earliest___add__, defBody m_Earliest___add__, defScope m_Earliest___add__, [], []⟩,
  ⟨fun K => ma K (ga K "Earliest") "__radd__", "__radd__", "Earliest.__radd__", defArgs m_Earliest___radd__, defBody m_Earliest___radd__, defScope m_Earliest___radd__, [], []⟩,
  ⟨fun K => ma K (ga K "Earliest") "__sub__", "__sub__", "Earliest.__sub__", defArgs m_Earliest___sub__, defBody m_Earliest___sub__, defScope m_Earliest___sub__, [], []⟩,
  ⟨fun K => ma K (ga K "Earliest") "__or__", "__or__", "Earliest.__or__", defArgs m_Earliest___or__, defBody m_Earliest___or__, defScope m_Earliest___or__, [], []⟩,
  ⟨fun K => ma K (ga K "Earliest") "is_never_later", "is_never_later", "Earliest.is_never_later", defArgs m_Earliest_is_never_later, defBody m_Earliest_is_never_later, defScope m_Earliest_is_never_later, [], []⟩,
  ⟨fun K => ma K (ga K "Earliest") "__eq__", "__eq__", "Earliest.__eq__", defArgs m_Earliest___eq__, defBody m_Earliest___eq__, defScope m_Earliest___eq__, [], []⟩,
  ⟨fun K => ga K "_law_pot", "_law_pot", "_law_pot", defArgs s__law_pot, defBody s__law_pot, defScope s__law_pot, [], []⟩,
  ⟨fun K => ga K "_law_draw", "_law_draw", "_law_draw", defArgs s__law_draw, defBody s__law_draw, defScope s__law_draw, [], []⟩,
  ⟨fun K => ga K "_law_choice", "_law_choice", "_law_choice", defArgs s__law_choice, defBody s__law_choice, defScope s__law_choice, [], []⟩,
  ⟨fun K => ga K "_law_names", "_law_names", "_law_names", defArgs s__law_names, defBody s__law_names, defScope s__law_names, [], []⟩,
  ⟨fun K => ga K "_law_number", "_law_number", "_law_number", defArgs s__law_number, defBody s__law_number, defScope s__law_number, [], []⟩,
  ⟨fun K => ga K "_law_changed", "_law_changed", "_law_changed", defArgs s__law_changed, defBody s__law_changed, defScope s__law_changed, [], []⟩,
  ⟨fun K => ga K "_law_telling", "_law_telling", "_law_telling", defArgs s__law_telling, defBody s__law_telling, defScope s__law_telling, [], []⟩,
  ⟨fun K => ga K "_law_early", "_law_early", "_law_early", defArgs s__law_early, defBody s__law_early, defScope s__law_early, [], []⟩,
  ⟨fun K => ga K "_law_pair_right", "_law_pair_right", "_law_pair_right", defArgs s__law_pair_right, defBody s__law_pair_right, defScope s__law_pair_right, [], []⟩,
  ⟨fun K => ga K "_law_near_right", "_law_near_right", "_law_near_right", defArgs s__law_near_right, defBody s__law_near_right, defScope s__law_near_right, [], []⟩,
  ⟨fun K => ga K "_law_three_right", "_law_three_right", "_law_three_right", defArgs s__law_three_right, defBody s__law_three_right, defScope s__law_three_right, [], []⟩,
  ⟨fun K => ga K "_law_right", "_law_right", "_law_right", defArgs s__law_right, defBody s__law_right, defScope s__law_right, [], []⟩,
  ⟨fun K => ga K "law", "law", "law", defArgs s_law, defBody s_law, defScope s_law, [], []⟩]
def chks (K : PySem.W.Frag) : List Bool := [nfree.all (freeB K),
  nglob.all (gloB K),
  nints.all (intB K),
  Pu.ownsB K [(ga K "Earliest")],
  Pu.firB K (ga K "Earliest"),
  noB K (ga K "Earliest") "_shifts",
  Pu.eqsB K (ga K "Earliest") [(ga K "Earliest")],
  mB K (ga K "Earliest") (dunderR "add"),
  noB K (ga K "Earliest") (dunderR "sub"),
  mB K (ga K "Earliest") (PySem.dunder "add"),
  mkB K (ga K "Earliest"),
  metB K (ga K "Earliest") "shifts",
  callB K (ga K "Earliest"),
  mB K (ga K "Earliest") (PySem.dunder "add"),
  mB K (ga K "Earliest") (dunderR "add"),
  mB K (ga K "Earliest") (PySem.dunder "sub"),
  mB K (ga K "Earliest") (PySem.dunder "or"),
  metB K (ga K "Earliest") "is_never_later",
  mB K (ga K "Earliest") "__eq__",
  Pu.nolB K,
  dfs.all (He5.DefA.ok K)]
abbrev Al : Type := Bool × List He.FnW
def obsK (K : PySem.W.Frag) : Al := ((chks K).all id, dfs.map fun d => He5.fnA K (d.at_ K))
def val0 : Al := (true, dfs.map He5.DefA.val)
def frag (g : Addr → Option Obj) : PySem.W.Frag := He.frG g (cStatics :: He.asD g 5)
def hook : PySem.W.Hook where
  α := Al
  obs := fun s => obsK (frag s.heap.get?)
  val := fun _ => val0
  says := fun _ h => ∃ K : PySem.W.Frag, K.In h ∧ obsK K = val0
  of := fun _ _ e => ⟨_, He.frG_in, e⟩
  keeps := fun _ _ _ ⟨K, hK, c⟩ k => ⟨K, PySem.W.Frag.In.keeps hK k, c⟩
abbrev R : PySem.W.OpenRow := PySem.W.OpenLaw.row PySem.Challenge.rw_anyofthese_k16_whole_never_later
abbrev qv : Program := PySem.W.view R.prog [44]
abbrev iLaw : Nat := 44
def names0 : List Str := ["_wall", "AnyError", "InvalidShift", "InvalidShifts", "InvalidTimes", "MissingError", "UnknownMoment", "LimitError", "TooMany", "MOST_LETTERS", "is_name", "is_integer", "is_moment_of", "has_names", "is_times", "check_shift", "check_times", "check_moment", "in_order", "moved"]
def names1 : List Str := ["least_of", "term_text", "MOST_TERMS", "check_shifts", "Earliest", "_law_pot", "_law_draw", "_law_choice", "_law_names", "_law_number", "_law_changed", "_law_telling", "_law_early", "_law_pair_right", "_law_near_right", "_law_three_right", "_law_right"]
def names : List Str := names0 ++ names1
def ob (s : PySem.W.SharedT) : Al := obsK (frag (HandSHeadRun.getT s))
theorem ob_eq (s : PySem.W.SharedT) : ob s = hook.obs s.abs := by
  have e : HandSHeadRun.getT s = s.abs.heap.get? := funext (HandSHeadRun.getT_eq s)
  show obsK (frag (HandSHeadRun.getT s)) = _
  rw [e]
  rfl
section
variable {K : PySem.W.Frag}
theorem bit_of (c : obsK K = val0) (i : Nat) {b : Bool} (h : (chks K)[i]? = some b := by rfl) : b = true :=
  List.all_eq_true.mp (show (chks K).all id = true from congrArg (fun t : Al => t.1) c) _ (List.mem_of_getElem? h)
theorem bFree (c : obsK K = val0) : nfree.all (freeB K) = true := bit_of c 0
theorem bGlob (c : obsK K = val0) : nglob.all (gloB K) = true := bit_of c 1
theorem bInts (c : obsK K = val0) : nints.all (intB K) = true := bit_of c 2
theorem bOwns (c : obsK K = val0) : Pu.ownsB K [(ga K "Earliest")] = true := bit_of c 3
theorem bFir_Earliest (c : obsK K = val0) : Pu.firB K (ga K "Earliest") = true := bit_of c 4
theorem bNo_Earliest__shifts (c : obsK K = val0) : noB K (ga K "Earliest") "_shifts" = true := bit_of c 5
theorem bEqs_Earliest (c : obsK K = val0) : Pu.eqsB K (ga K "Earliest") [(ga K "Earliest")] = true := bit_of c 6
theorem bRadd_Earliest (c : obsK K = val0) : mB K (ga K "Earliest") (dunderR "add") = true := bit_of c 7
theorem bRsub_Earliest (c : obsK K = val0) : noB K (ga K "Earliest") (dunderR "sub") = true := bit_of c 8
theorem bHadd_Earliest (c : obsK K = val0) : mB K (ga K "Earliest") (PySem.dunder "add") = true := bit_of c 9
theorem bMk_Earliest (c : obsK K = val0) : mkB K (ga K "Earliest") = true := bit_of c 10
theorem bMet_Earliest_shifts (c : obsK K = val0) : metB K (ga K "Earliest") "shifts" = true := bit_of c 11
theorem bCall_Earliest (c : obsK K = val0) : callB K (ga K "Earliest") = true := bit_of c 12
theorem bSp_Earliest___add__ (c : obsK K = val0) : mB K (ga K "Earliest") (PySem.dunder "add") = true := bit_of c 13
theorem bSp_Earliest___radd__ (c : obsK K = val0) : mB K (ga K "Earliest") (dunderR "add") = true := bit_of c 14
theorem bSp_Earliest___sub__ (c : obsK K = val0) : mB K (ga K "Earliest") (PySem.dunder "sub") = true := bit_of c 15
theorem bSp_Earliest___or__ (c : obsK K = val0) : mB K (ga K "Earliest") (PySem.dunder "or") = true := bit_of c 16
theorem bMet_Earliest_is_never_later (c : obsK K = val0) : metB K (ga K "Earliest") "is_never_later" = true := bit_of c 17
theorem bSp_Earliest___eq__ (c : obsK K = val0) : mB K (ga K "Earliest") "__eq__" = true := bit_of c 18
theorem bNol (c : obsK K = val0) : Pu.nolB K = true := bit_of c 19
theorem bDefs (c : obsK K = val0) : dfs.all (He5.DefA.ok K) = true := bit_of c 20
theorem def_of (c : obsK K = val0) (i : Nat) {d : He5.DefA} (h : dfs[i]? = some d := by rfl) : ∃ fd, FunD K d.name d.qual d.params d.body d.scope (d.dvs K) (d.kws K) (d.at_ K) fd := by
  have e : dfs.map (fun d => He5.fnA K (d.at_ K)) = dfs.map He5.DefA.val := congrArg (fun t : Al => t.2) c
  have e2 : (dfs.map fun d => He5.fnA K (d.at_ K))[i]? = (dfs.map He5.DefA.val)[i]? := by rw [e]
  rw [List.getElem?_map, List.getElem?_map, h] at e2
  exact He5.DefA.funD (Option.some.inj e2) (List.all_eq_true.mp (bDefs c) d (List.mem_of_getElem? h))
theorem F_is_name (c : obsK K = val0) : ∃ fd, Fun K "is_name" "is_name" s_is_name (ga K "is_name") fd := (def_of c 0).imp fun _ d => fun_of d
theorem F_is_integer (c : obsK K = val0) : ∃ fd, Fun K "is_integer" "is_integer" s_is_integer (ga K "is_integer") fd := (def_of c 1).imp fun _ d => fun_of d
theorem F_is_moment_of (c : obsK K = val0) : ∃ fd, Fun K "is_moment_of" "is_moment_of" s_is_moment_of (ga K "is_moment_of") fd := (def_of c 2).imp fun _ d => fun_of d
theorem F_has_names (c : obsK K = val0) : ∃ fd, Fun K "has_names" "has_names" s_has_names (ga K "has_names") fd := (def_of c 3).imp fun _ d => fun_of d
theorem F_is_times (c : obsK K = val0) : ∃ fd, Fun K "is_times" "is_times" s_is_times (ga K "is_times") fd := (def_of c 4).imp fun _ d => fun_of d
theorem F_check_shift (c : obsK K = val0) : ∃ fd, Fun K "check_shift" "check_shift" s_check_shift (ga K "check_shift") fd := (def_of c 5).imp fun _ d => fun_of d
theorem F_check_times (c : obsK K = val0) : ∃ fd, Fun K "check_times" "check_times" s_check_times (ga K "check_times") fd := (def_of c 6).imp fun _ d => fun_of d
theorem F_check_moment (c : obsK K = val0) : ∃ fd, Fun K "check_moment" "check_moment" s_check_moment (ga K "check_moment") fd := (def_of c 7).imp fun _ d => fun_of d
theorem F_in_order (c : obsK K = val0) : ∃ fd, Fun K "in_order" "in_order" s_in_order (ga K "in_order") fd := (def_of c 8).imp fun _ d => fun_of d
theorem F_moved (c : obsK K = val0) : ∃ fd, Fun K "moved" "moved" s_moved (ga K "moved") fd := (def_of c 9).imp fun _ d => fun_of d
theorem F_least_of (c : obsK K = val0) : ∃ fd, Fun K "least_of" "least_of" s_least_of (ga K "least_of") fd := (def_of c 10).imp fun _ d => fun_of d
theorem F_check_shifts (c : obsK K = val0) : ∃ fd, Fun K "check_shifts" "check_shifts" s_check_shifts (ga K "check_shifts") fd := (def_of c 11).imp fun _ d => fun_of d
theorem F_Earliest___init__ (c : obsK K = val0) : ∃ fd, Fun K "__init__" "Earliest.__init__" m_Earliest___init__ (ma K (ga K "Earliest") "__init__") fd := (def_of c 12).imp fun _ d => fun_of d
theorem F_Earliest_shifts (c : obsK K = val0) : ∃ fd, Fun K "shifts" "Earliest.shifts" m_Earliest_shifts (ma K (ga K "Earliest") "shifts") fd := (def_of c 13).imp fun _ d => fun_of d
theorem F_Earliest___call__ (c : obsK K = val0) : ∃ fd, Fun K "__call__" "Earliest.__call__" m_Earliest___call__ (ma K (ga K "Earliest") "__call__") fd := (def_of c 14).imp fun _ d => fun_of d
theorem F_Earliest___add__ (c : obsK K = val0) : ∃ fd, Fun K "__add__" "Earliest.__add__" m_Earliest___add__ (ma K (ga K "Earliest") "__add__") fd := (def_of c 15).imp fun _ d => fun_of d
theorem F_Earliest___radd__ (c : obsK K = val0) : ∃ fd, Fun K "__radd__" "Earliest.__radd__" m_Earliest___radd__ (ma K (ga K "Earliest") "__radd__") fd := (def_of c 16).imp fun _ d => fun_of d
theorem F_Earliest___sub__ (c : obsK K = val0) : ∃ fd, Fun K "__sub__" "Earliest.__sub__" m_Earliest___sub__ (ma K (ga K "Earliest") "__sub__") fd := (def_of c 17).imp fun _ d => fun_of d
theorem F_Earliest___or__ (c : obsK K = val0) : ∃ fd, Fun K "__or__" "Earliest.__or__" m_Earliest___or__ (ma K (ga K "Earliest") "__or__") fd := (def_of c 18).imp fun _ d => fun_of d
theorem F_Earliest_is_never_later (c : obsK K = val0) : ∃ fd, Fun K "is_never_later" "Earliest.is_never_later" m_Earliest_is_never_later (ma K (ga K "Earliest") "is_never_later") fd := (def_of c 19).imp fun _ d => fun_of d
theorem F_Earliest___eq__ (c : obsK K = val0) : ∃ fd, Fun K "__eq__" "Earliest.__eq__" m_Earliest___eq__ (ma K (ga K "Earliest") "__eq__") fd := (def_of c 20).imp fun _ d => fun_of d
theorem F__law_pot (c : obsK K = val0) : ∃ fd, Fun K "_law_pot" "_law_pot" s__law_pot (ga K "_law_pot") fd := (def_of c 21).imp fun _ d => fun_of d
theorem F__law_draw (c : obsK K = val0) : ∃ fd, Fun K "_law_draw" "_law_draw" s__law_draw (ga K "_law_draw") fd := (def_of c 22).imp fun _ d => fun_of d
theorem F__law_choice (c : obsK K = val0) : ∃ fd, Fun K "_law_choice" "_law_choice" s__law_choice (ga K "_law_choice") fd := (def_of c 23).imp fun _ d => fun_of d
theorem F__law_names (c : obsK K = val0) : ∃ fd, Fun K "_law_names" "_law_names" s__law_names (ga K "_law_names") fd := (def_of c 24).imp fun _ d => fun_of d
theorem F__law_number (c : obsK K = val0) : ∃ fd, Fun K "_law_number" "_law_number" s__law_number (ga K "_law_number") fd := (def_of c 25).imp fun _ d => fun_of d
theorem F__law_changed (c : obsK K = val0) : ∃ fd, Fun K "_law_changed" "_law_changed" s__law_changed (ga K "_law_changed") fd := (def_of c 26).imp fun _ d => fun_of d
theorem F__law_telling (c : obsK K = val0) : ∃ fd, Fun K "_law_telling" "_law_telling" s__law_telling (ga K "_law_telling") fd := (def_of c 27).imp fun _ d => fun_of d
theorem F__law_early (c : obsK K = val0) : ∃ fd, Fun K "_law_early" "_law_early" s__law_early (ga K "_law_early") fd := (def_of c 28).imp fun _ d => fun_of d
theorem F__law_pair_right (c : obsK K = val0) : ∃ fd, Fun K "_law_pair_right" "_law_pair_right" s__law_pair_right (ga K "_law_pair_right") fd := (def_of c 29).imp fun _ d => fun_of d
theorem F__law_near_right (c : obsK K = val0) : ∃ fd, Fun K "_law_near_right" "_law_near_right" s__law_near_right (ga K "_law_near_right") fd := (def_of c 30).imp fun _ d => fun_of d
theorem F__law_three_right (c : obsK K = val0) : ∃ fd, Fun K "_law_three_right" "_law_three_right" s__law_three_right (ga K "_law_three_right") fd := (def_of c 31).imp fun _ d => fun_of d
theorem F__law_right (c : obsK K = val0) : ∃ fd, Fun K "_law_right" "_law_right" s__law_right (ga K "_law_right") fd := (def_of c 32).imp fun _ d => fun_of d
theorem F_law (c : obsK K = val0) : ∃ fd, Fun K "law" "law" s_law (ga K "law") fd := (def_of c 33).imp fun _ d => fun_of d
end
section
variable {K : PySem.W.Frag} {mg : Str → Option Value} {base : Heap}
theorem g_is_name (X : K.In base) (G : base.Ns mainGlobals mg) (c : obsK K = val0) : mg "is_name" = some (.ref (ga K "is_name")) := glo_of X G (bGlob c) 0
theorem g_is_integer (X : K.In base) (G : base.Ns mainGlobals mg) (c : obsK K = val0) : mg "is_integer" = some (.ref (ga K "is_integer")) := glo_of X G (bGlob c) 1
theorem g_is_moment_of (X : K.In base) (G : base.Ns mainGlobals mg) (c : obsK K = val0) : mg "is_moment_of" = some (.ref (ga K "is_moment_of")) := glo_of X G (bGlob c) 2
theorem g_has_names (X : K.In base) (G : base.Ns mainGlobals mg) (c : obsK K = val0) : mg "has_names" = some (.ref (ga K "has_names")) := glo_of X G (bGlob c) 3
theorem g_is_times (X : K.In base) (G : base.Ns mainGlobals mg) (c : obsK K = val0) : mg "is_times" = some (.ref (ga K "is_times")) := glo_of X G (bGlob c) 4
theorem g_check_shift (X : K.In base) (G : base.Ns mainGlobals mg) (c : obsK K = val0) : mg "check_shift" = some (.ref (ga K "check_shift")) := glo_of X G (bGlob c) 5
theorem g_check_times (X : K.In base) (G : base.Ns mainGlobals mg) (c : obsK K = val0) : mg "check_times" = some (.ref (ga K "check_times")) := glo_of X G (bGlob c) 6
theorem g_check_moment (X : K.In base) (G : base.Ns mainGlobals mg) (c : obsK K = val0) : mg "check_moment" = some (.ref (ga K "check_moment")) := glo_of X G (bGlob c) 7
theorem g_in_order (X : K.In base) (G : base.Ns mainGlobals mg) (c : obsK K = val0) : mg "in_order" = some (.ref (ga K "in_order")) := glo_of X G (bGlob c) 8
theorem g_moved (X : K.In base) (G : base.Ns mainGlobals mg) (c : obsK K = val0) : mg "moved" = some (.ref (ga K "moved")) := glo_of X G (bGlob c) 9
theorem g_least_of (X : K.In base) (G : base.Ns mainGlobals mg) (c : obsK K = val0) : mg "least_of" = some (.ref (ga K "least_of")) := glo_of X G (bGlob c) 10
theorem g_check_shifts (X : K.In base) (G : base.Ns mainGlobals mg) (c : obsK K = val0) : mg "check_shifts" = some (.ref (ga K "check_shifts")) := glo_of X G (bGlob c) 11
theorem g__law_pot (X : K.In base) (G : base.Ns mainGlobals mg) (c : obsK K = val0) : mg "_law_pot" = some (.ref (ga K "_law_pot")) := glo_of X G (bGlob c) 12
theorem g__law_draw (X : K.In base) (G : base.Ns mainGlobals mg) (c : obsK K = val0) : mg "_law_draw" = some (.ref (ga K "_law_draw")) := glo_of X G (bGlob c) 13
theorem g__law_choice (X : K.In base) (G : base.Ns mainGlobals mg) (c : obsK K = val0) : mg "_law_choice" = some (.ref (ga K "_law_choice")) := glo_of X G (bGlob c) 14
theorem g__law_names (X : K.In base) (G : base.Ns mainGlobals mg) (c : obsK K = val0) : mg "_law_names" = some (.ref (ga K "_law_names")) := glo_of X G (bGlob c) 15
theorem g__law_number (X : K.In base) (G : base.Ns mainGlobals mg) (c : obsK K = val0) : mg "_law_number" = some (.ref (ga K "_law_number")) := glo_of X G (bGlob c) 16
theorem g__law_changed (X : K.In base) (G : base.Ns mainGlobals mg) (c : obsK K = val0) : mg "_law_changed" = some (.ref (ga K "_law_changed")) := glo_of X G (bGlob c) 17
theorem g__law_telling (X : K.In base) (G : base.Ns mainGlobals mg) (c : obsK K = val0) : mg "_law_telling" = some (.ref (ga K "_law_telling")) := glo_of X G (bGlob c) 18
theorem g__law_early (X : K.In base) (G : base.Ns mainGlobals mg) (c : obsK K = val0) : mg "_law_early" = some (.ref (ga K "_law_early")) := glo_of X G (bGlob c) 19
theorem g__law_pair_right (X : K.In base) (G : base.Ns mainGlobals mg) (c : obsK K = val0) : mg "_law_pair_right" = some (.ref (ga K "_law_pair_right")) := glo_of X G (bGlob c) 20
theorem g__law_near_right (X : K.In base) (G : base.Ns mainGlobals mg) (c : obsK K = val0) : mg "_law_near_right" = some (.ref (ga K "_law_near_right")) := glo_of X G (bGlob c) 21
theorem g__law_three_right (X : K.In base) (G : base.Ns mainGlobals mg) (c : obsK K = val0) : mg "_law_three_right" = some (.ref (ga K "_law_three_right")) := glo_of X G (bGlob c) 22
theorem g__law_right (X : K.In base) (G : base.Ns mainGlobals mg) (c : obsK K = val0) : mg "_law_right" = some (.ref (ga K "_law_right")) := glo_of X G (bGlob c) 23
theorem g_law (X : K.In base) (G : base.Ns mainGlobals mg) (c : obsK K = val0) : mg "law" = some (.ref (ga K "law")) := glo_of X G (bGlob c) 24
theorem g_Earliest (X : K.In base) (G : base.Ns mainGlobals mg) (c : obsK K = val0) : mg "Earliest" = some (.ref (ga K "Earliest")) := glo_of X G (bGlob c) 25
theorem f_isinstance (X : K.In base) (G : base.Ns mainGlobals mg) (c : obsK K = val0) : mg "isinstance" = none := free_of X G (bFree c) 0
theorem f_all (X : K.In base) (G : base.Ns mainGlobals mg) (c : obsK K = val0) : mg "all" = none := free_of X G (bFree c) 1
theorem f_any (X : K.In base) (G : base.Ns mainGlobals mg) (c : obsK K = val0) : mg "any" = none := free_of X G (bFree c) 2
theorem f_len (X : K.In base) (G : base.Ns mainGlobals mg) (c : obsK K = val0) : mg "len" = none := free_of X G (bFree c) 3
theorem f_range (X : K.In base) (G : base.Ns mainGlobals mg) (c : obsK K = val0) : mg "range" = none := free_of X G (bFree c) 4
theorem f_int (X : K.In base) (G : base.Ns mainGlobals mg) (c : obsK K = val0) : mg "int" = none := free_of X G (bFree c) 5
theorem f_max (X : K.In base) (G : base.Ns mainGlobals mg) (c : obsK K = val0) : mg "max" = none := free_of X G (bFree c) 6
theorem f_min (X : K.In base) (G : base.Ns mainGlobals mg) (c : obsK K = val0) : mg "min" = none := free_of X G (bFree c) 7
theorem f_abs (X : K.In base) (G : base.Ns mainGlobals mg) (c : obsK K = val0) : mg "abs" = none := free_of X G (bFree c) 8
theorem f_divmod (X : K.In base) (G : base.Ns mainGlobals mg) (c : obsK K = val0) : mg "divmod" = none := free_of X G (bFree c) 9
theorem f_repr (X : K.In base) (G : base.Ns mainGlobals mg) (c : obsK K = val0) : mg "repr" = none := free_of X G (bFree c) 10
theorem f_str (X : K.In base) (G : base.Ns mainGlobals mg) (c : obsK K = val0) : mg "str" = none := free_of X G (bFree c) 11
theorem f_dict (X : K.In base) (G : base.Ns mainGlobals mg) (c : obsK K = val0) : mg "dict" = none := free_of X G (bFree c) 12
theorem f_zip (X : K.In base) (G : base.Ns mainGlobals mg) (c : obsK K = val0) : mg "zip" = none := free_of X G (bFree c) 13
theorem f_bool (X : K.In base) (G : base.Ns mainGlobals mg) (c : obsK K = val0) : mg "bool" = none := free_of X G (bFree c) 14
theorem f_tuple (X : K.In base) (G : base.Ns mainGlobals mg) (c : obsK K = val0) : mg "tuple" = none := free_of X G (bFree c) 15
theorem f_sorted (X : K.In base) (G : base.Ns mainGlobals mg) (c : obsK K = val0) : mg "sorted" = none := free_of X G (bFree c) 16
theorem f_list (X : K.In base) (G : base.Ns mainGlobals mg) (c : obsK K = val0) : mg "list" = none := free_of X G (bFree c) 17
theorem f_sum (X : K.In base) (G : base.Ns mainGlobals mg) (c : obsK K = val0) : mg "sum" = none := free_of X G (bFree c) 18
theorem f_set (X : K.In base) (G : base.Ns mainGlobals mg) (c : obsK K = val0) : mg "set" = none := free_of X G (bFree c) 19
theorem f_enumerate (X : K.In base) (G : base.Ns mainGlobals mg) (c : obsK K = val0) : mg "enumerate" = none := free_of X G (bFree c) 20
theorem n_MOST_LETTERS (X : K.In base) (G : base.Ns mainGlobals mg) (c : obsK K = val0) : ∃ t, mg "MOST_LETTERS" = some (.int 8 t) := int_of X G (bInts c) 0
theorem n_MOST_TERMS (X : K.In base) (G : base.Ns mainGlobals mg) (c : obsK K = val0) : ∃ t, mg "MOST_TERMS" = some (.int 8 t) := int_of X G (bInts c) 1
end
end E10

set_option Elab.async false
set_option linter.all false
set_option maxRecDepth 100000
set_option maxHeartbeats 8000000
namespace Pu
open L2 PySem PySem.Spec PyProof.Rows E10
open He (ga ma)
section
variable {P : Program} {w : World} {K : PySem.W.Frag} {mg : Str → Option Value} {base : Heap}
theorem ow (c : obsK K = val0) : Own K [(ga K "Earliest")] := ownsB_ok (bOwns c)
theorem cl_Earliest (c : obsK K = val0) : Cls K (ga K "Earliest") := ((ow c).ins _ (by simp)).cls
theorem in_Earliest (c : obsK K = val0) : IntK K (ga K "Earliest") := firB_ok (bFir_Earliest c)
theorem na_Earliest__shifts (c : obsK K = val0) : NoAttr K (ga K "Earliest") "_shifts" := He.eqO_ok (bNo_Earliest__shifts c)
theorem eq_Earliest (c : obsK K = val0) : EqK K (ga K "Earliest") [(ga K "Earliest")] := eqsB_ok (bOwns c) (bEqs_Earliest c)
theorem radd_Earliest (c : obsK K = val0) : Refl K (ga K "Earliest") (dunderR "add") := refl_has (bRadd_Earliest c)
theorem rsub_Earliest (c : obsK K = val0) : Refl K (ga K "Earliest") (dunderR "sub") := refl_no (bRsub_Earliest c)
theorem hadd_Earliest (c : obsK K = val0) : Has K (ga K "Earliest") (ma K (ga K "Earliest") (PySem.dunder "add")) (PySem.dunder "add") := mB_ok (bHadd_Earliest c)
end
end Pu

set_option Elab.async false
set_option linter.all false
set_option maxRecDepth 100000
set_option maxHeartbeats 8000000
namespace Pu
open L2 PySem PySem.Spec PyProof.Rows E10
open He (ga ma)
section
variable {P : Program} {w : World} {K : PySem.W.Frag} {mg : Str → Option Value} {base : Heap}
/-! is_name -/
def N_is_name : List Str := ["value", "letter"]
theorem sc_is_name : FnScope N_is_name ["value"] (defScope s_is_name) := ⟨rfl, rfl, rfl, by decide +kernel, rfl, by decide +kernel, by decide +kernel⟩
noncomputable def D_is_name (P : Program) (w : World) (K : PySem.W.Frag) : FF := fDef 1 2 (sSeq (sIfS (fOrT (fNotT (fTest (fCall (fIsi [(ga K "Earliest")]) (fCons (fVar 0) (fCons (fC (.ty "str")) fNil))))) (fNotT (fTest (fChain gLe gLe (fC (.int 1)) (fCall gLen (fCons (fVar 0) fNil)) (fC (.int 8)))))) (sRet (fC (.bl false))) sNext)
      (sRet (fCall (fBls fun bs => bs.all id) (fCons (fLc (iAny (fVar 0)) (tgName 1) fYes (fChain gLe gLe (fC (.str "a")) (fVar 1) (fC (.str "z"))) [1]) fNil))))
theorem fx_is_name (XI : K.In base) (GN : base.Ns mainGlobals mg) (c : obsK K = val0) {fd : FuncData} {f : Addr} (F : Fun K "is_name" "is_name" s_is_name f fd) : FnX P w K mg base 1 f fd ["value"] (spP 1 (D_is_name P w K)) :=
    (Fun.pp F sc_is_name (fun cdv A fr s H E hG hr => by
      have hu : A.units + 3 + 64 < cLine := hr.units
      exact (pps_cons (ppq_if (PPW.pt (ptw_or (ptt_not (pt_b (pp_isi (ow c) rfl (f_isinstance XI GN c) (ppa_cons (pp_v 0) (ppa_cons (pp_gty rfl (f_str XI GN c) b_str) ppa_nil))))) (ptw_or1 (ptt_not (pt_lele pp_int (pp_len' rfl (f_len XI GN c) (ppa_cons (pp_v 0) ppa_nil)) (pp_gint rfl (n_MOST_LETTERS XI GN c))))))) (pps_one (ppq_ret pp_bl)) pps_nil)
      (pps_one (ppq_ret (pp_all rfl rfl (f_all XI GN c) (ppa_cons (pp_lc (own := [("letter", 1)]) (g := (gName 1)) rfl sc_is_name.nd (ppi_any (pp_v 0)) (blkOk_by (own := [("letter", 1)]) (by kernel_rfl)) (fun _ _ _ _ _ => (pg_name (i := 1) sc_is_name.nd rfl (by first | exact Or.inl rfl | exact Or.inr rfl))) (ad_gName (i := 1) (by intro l e; cases e <;> decide)) (fun _ _ _ _ _ => ppts_nil) (fun _ _ _ _ _ => (pp_lele pp_str (pp_v 1) pp_str))) ppa_nil)))))))
theorem t_is_name (XI : K.In base) (GN : base.Ns mainGlobals mg) (c : obsK K = val0) : DP P w K mg base "is_name" 1 1 (D_is_name P w K) := by
  obtain ⟨fd, F⟩ := F_is_name c
  exact ⟨_, fd, _, rfl, (fx_is_name XI GN c F), g_is_name XI GN c, F.kp, F.binds (by intro _ _ _ _ _ _ us hl; first | (match us, hl with | [_], _ => rfl) | (match us, hl with | [_, _], _ => rfl) | (match us, hl with | [_, _, _], _ => rfl) | (match us, hl with | [_, _, _, _], _ => rfl) | (match us, hl with | [_, _, _, _, _], _ => rfl) | (match us, hl with | [_, _, _, _, _, _], _ => rfl) | (match us, hl with | [_, _, _, _, _, _, _], _ => rfl) | (match us, hl with | [_, _, _, _, _, _, _, _], _ => rfl) | (match us, hl with | [_, _, _, _, _, _, _, _, _], _ => rfl))⟩

/-! is_integer -/
def N_is_integer : List Str := ["value"]
theorem sc_is_integer : FnScope N_is_integer ["value"] (defScope s_is_integer) := ⟨rfl, rfl, rfl, by decide +kernel, rfl, by decide +kernel, by decide +kernel⟩
noncomputable def D_is_integer (P : Program) (w : World) (K : PySem.W.Frag) : FF := fDef 1 1 (sRet (fAndV (fCall (fIsi [(ga K "Earliest")]) (fCons (fVar 0) (fCons (fC (.ty "int")) fNil))) (fNotV (fCall (fIsi [(ga K "Earliest")]) (fCons (fVar 0) (fCons (fC (.ty "bool")) fNil))))))
theorem fx_is_integer (XI : K.In base) (GN : base.Ns mainGlobals mg) (c : obsK K = val0) {fd : FuncData} {f : Addr} (F : Fun K "is_integer" "is_integer" s_is_integer f fd) : FnX P w K mg base 1 f fd ["value"] (spP 1 (D_is_integer P w K)) :=
    (Fun.pp F sc_is_integer (fun cdv A fr s H E hG hr => by
      have hu : A.units + 3 + 64 < cLine := hr.units
      exact (pps_one (ppq_ret (pp_and (pp_isi (ow c) rfl (f_isinstance XI GN c) (ppa_cons (pp_v 0) (ppa_cons (pp_gty rfl (f_int XI GN c) b_int) ppa_nil))) (pp_one (pp_not (pp_isi (ow c) rfl (f_isinstance XI GN c) (ppa_cons (pp_v 0) (ppa_cons (pp_gty rfl (f_bool XI GN c) b_bool) ppa_nil))))))))))
theorem t_is_integer (XI : K.In base) (GN : base.Ns mainGlobals mg) (c : obsK K = val0) : DP P w K mg base "is_integer" 1 1 (D_is_integer P w K) := by
  obtain ⟨fd, F⟩ := F_is_integer c
  exact ⟨_, fd, _, rfl, (fx_is_integer XI GN c F), g_is_integer XI GN c, F.kp, F.binds (by intro _ _ _ _ _ _ us hl; first | (match us, hl with | [_], _ => rfl) | (match us, hl with | [_, _], _ => rfl) | (match us, hl with | [_, _, _], _ => rfl) | (match us, hl with | [_, _, _, _], _ => rfl) | (match us, hl with | [_, _, _, _, _], _ => rfl) | (match us, hl with | [_, _, _, _, _, _], _ => rfl) | (match us, hl with | [_, _, _, _, _, _, _], _ => rfl) | (match us, hl with | [_, _, _, _, _, _, _, _], _ => rfl) | (match us, hl with | [_, _, _, _, _, _, _, _, _], _ => rfl))⟩

/-! is_moment_of -/
def N_is_moment_of : List Str := ["value", "moments"]
theorem sc_is_moment_of : FnScope N_is_moment_of ["value", "moments"] (defScope s_is_moment_of) := ⟨rfl, rfl, rfl, by decide +kernel, rfl, by decide +kernel, by decide +kernel⟩
noncomputable def D_is_moment_of (P : Program) (w : World) (K : PySem.W.Frag) : FF := fDef 2 2 (sRet (fAndV (fCall (fIsi [(ga K "Earliest")]) (fCons (fVar 0) (fCons (fC (.ty "str")) fNil))) (fOp (gIn false) (fVar 0) (fVar 1))))
theorem fx_is_moment_of (XI : K.In base) (GN : base.Ns mainGlobals mg) (c : obsK K = val0) {fd : FuncData} {f : Addr} (F : Fun K "is_moment_of" "is_moment_of" s_is_moment_of f fd) : FnX P w K mg base 1 f fd ["value", "moments"] (spP 2 (D_is_moment_of P w K)) :=
    (Fun.pp F sc_is_moment_of (fun cdv A fr s H E hG hr => by
      have hu : A.units + 3 + 64 < cLine := hr.units
      exact (pps_one (ppq_ret (pp_and (pp_isi (ow c) rfl (f_isinstance XI GN c) (ppa_cons (pp_v 0) (ppa_cons (pp_gty rfl (f_str XI GN c) b_str) ppa_nil))) (pp_one (pp_in (Nat.lt_of_le_of_lt (Nat.add_le_add_left (by decide) _) hu) (pp_v 0) (pp_v 1))))))))
theorem t_is_moment_of (XI : K.In base) (GN : base.Ns mainGlobals mg) (c : obsK K = val0) : DP P w K mg base "is_moment_of" 2 1 (D_is_moment_of P w K) := by
  obtain ⟨fd, F⟩ := F_is_moment_of c
  exact ⟨_, fd, _, rfl, (fx_is_moment_of XI GN c F), g_is_moment_of XI GN c, F.kp, F.binds (by intro _ _ _ _ _ _ us hl; first | (match us, hl with | [_], _ => rfl) | (match us, hl with | [_, _], _ => rfl) | (match us, hl with | [_, _, _], _ => rfl) | (match us, hl with | [_, _, _, _], _ => rfl) | (match us, hl with | [_, _, _, _, _], _ => rfl) | (match us, hl with | [_, _, _, _, _, _], _ => rfl) | (match us, hl with | [_, _, _, _, _, _, _], _ => rfl) | (match us, hl with | [_, _, _, _, _, _, _, _], _ => rfl) | (match us, hl with | [_, _, _, _, _, _, _, _, _], _ => rfl))⟩

/-! has_names -/
def N_has_names : List Str := ["value", "key"]
theorem sc_has_names : FnScope N_has_names ["value"] (defScope s_has_names) := ⟨rfl, rfl, rfl, by decide +kernel, rfl, by decide +kernel, by decide +kernel⟩
noncomputable def D_has_names (P : Program) (w : World) (K : PySem.W.Frag) : FF := fDef 1 2 (sRet (fAndV (fCall (fIsi [(ga K "Earliest")]) (fCons (fVar 0) (fCons (fC (.ty "dict")) fNil))) (fAndV (fOp gGt (fCall gLen (fCons (fVar 0) fNil)) (fC (.int 0))) (fCall (fBls fun bs => bs.all id) (fCons (fLc (iAny (fVar 0)) (tgName 1) fYes (fCall (D_is_name P w K) (fCons (fVar 1) fNil)) [1]) fNil)))))
theorem fx_has_names (XI : K.In base) (GN : base.Ns mainGlobals mg) (c : obsK K = val0) {fd : FuncData} {f : Addr} (F : Fun K "has_names" "has_names" s_has_names f fd) : FnX P w K mg base 2 f fd ["value"] (spP 1 (D_has_names P w K)) :=
    (Fun.pp F sc_has_names (fun cdv A fr s H E hG hr => by
      have hu : A.units + 3 + 64 < cLine := hr.units
      exact (pps_one (ppq_ret (pp_and (pp_isi (ow c) rfl (f_isinstance XI GN c) (ppa_cons (pp_v 0) (ppa_cons (pp_gty rfl (f_dict XI GN c) b_dict) ppa_nil))) (pp_and (pp_gt (pp_len' rfl (f_len XI GN c) (ppa_cons (pp_v 0) ppa_nil)) pp_int) (pp_one (pp_all rfl rfl (f_all XI GN c) (ppa_cons (pp_lc (own := [("key", 1)]) (g := (gName 1)) rfl sc_has_names.nd (ppi_any (pp_v 0)) (blkOk_by (own := [("key", 1)]) (by kernel_rfl)) (fun _ _ _ _ _ => (pg_name (i := 1) sc_has_names.nd rfl (by first | exact Or.inl rfl | exact Or.inr rfl))) (ad_gName (i := 1) (by intro l e; cases e <;> decide)) (fun _ _ _ _ _ => ppts_nil) (fun _ _ _ _ _ => (pp_call (t_is_name XI GN c) hG (hr.mono (by decide)) takes0 rfl (ppa_cons (pp_v 1) ppa_nil)))) ppa_nil)))))))))
theorem t_has_names (XI : K.In base) (GN : base.Ns mainGlobals mg) (c : obsK K = val0) : DP P w K mg base "has_names" 1 2 (D_has_names P w K) := by
  obtain ⟨fd, F⟩ := F_has_names c
  exact ⟨_, fd, _, rfl, (fx_has_names XI GN c F), g_has_names XI GN c, F.kp, F.binds (by intro _ _ _ _ _ _ us hl; first | (match us, hl with | [_], _ => rfl) | (match us, hl with | [_, _], _ => rfl) | (match us, hl with | [_, _, _], _ => rfl) | (match us, hl with | [_, _, _, _], _ => rfl) | (match us, hl with | [_, _, _, _, _], _ => rfl) | (match us, hl with | [_, _, _, _, _, _], _ => rfl) | (match us, hl with | [_, _, _, _, _, _, _], _ => rfl) | (match us, hl with | [_, _, _, _, _, _, _, _], _ => rfl) | (match us, hl with | [_, _, _, _, _, _, _, _, _], _ => rfl))⟩

/-! is_times -/
def N_is_times : List Str := ["value", "time"]
theorem sc_is_times : FnScope N_is_times ["value"] (defScope s_is_times) := ⟨rfl, rfl, rfl, by decide +kernel, rfl, by decide +kernel, by decide +kernel⟩
noncomputable def D_is_times (P : Program) (w : World) (K : PySem.W.Frag) : FF := fDef 1 2 (sRet (fAndV (fCall (D_has_names P w K) (fCons (fVar 0) fNil)) (fCall (fBls fun bs => bs.all id) (fCons (fLc (iValsP (fVar 0)) (tgName 1) fYes (fCall (D_is_integer P w K) (fCons (fVar 1) fNil)) [1]) fNil))))
theorem fx_is_times (XI : K.In base) (GN : base.Ns mainGlobals mg) (c : obsK K = val0) {fd : FuncData} {f : Addr} (F : Fun K "is_times" "is_times" s_is_times f fd) : FnX P w K mg base 3 f fd ["value"] (spP 1 (D_is_times P w K)) :=
    (Fun.pp F sc_is_times (fun cdv A fr s H E hG hr => by
      have hu : A.units + 3 + 64 < cLine := hr.units
      exact (pps_one (ppq_ret (pp_and (pp_call (t_has_names XI GN c) hG (hr.mono (by decide)) (takes_of rfl rfl rfl rfl) rfl (ppa_cons (pp_v 0) ppa_nil)) (pp_one (pp_all rfl rfl (f_all XI GN c) (ppa_cons (pp_lc (own := [("time", 1)]) (g := (gName 1)) rfl sc_is_times.nd (ppi_values (pp_v 0)) (blkOk_by (own := [("time", 1)]) (by kernel_rfl)) (fun _ _ _ _ _ => (pg_name (i := 1) sc_is_times.nd rfl (by first | exact Or.inl rfl | exact Or.inr rfl))) (ad_gName (i := 1) (by intro l e; cases e <;> decide)) (fun _ _ _ _ _ => ppts_nil) (fun _ _ _ _ _ => (pp_call (t_is_integer XI GN c) hG (hr.mono (by decide)) takes0 rfl (ppa_cons (pp_v 1) ppa_nil)))) ppa_nil))))))))
theorem t_is_times (XI : K.In base) (GN : base.Ns mainGlobals mg) (c : obsK K = val0) : DP P w K mg base "is_times" 1 3 (D_is_times P w K) := by
  obtain ⟨fd, F⟩ := F_is_times c
  exact ⟨_, fd, _, rfl, (fx_is_times XI GN c F), g_is_times XI GN c, F.kp, F.binds (by intro _ _ _ _ _ _ us hl; first | (match us, hl with | [_], _ => rfl) | (match us, hl with | [_, _], _ => rfl) | (match us, hl with | [_, _, _], _ => rfl) | (match us, hl with | [_, _, _, _], _ => rfl) | (match us, hl with | [_, _, _, _, _], _ => rfl) | (match us, hl with | [_, _, _, _, _, _], _ => rfl) | (match us, hl with | [_, _, _, _, _, _, _], _ => rfl) | (match us, hl with | [_, _, _, _, _, _, _, _], _ => rfl) | (match us, hl with | [_, _, _, _, _, _, _, _, _], _ => rfl))⟩

/-! check_shift -/
def N_check_shift : List Str := ["value"]
theorem sc_check_shift : FnScope N_check_shift ["value"] (defScope s_check_shift) := ⟨rfl, rfl, rfl, by decide +kernel, rfl, by decide +kernel, by decide +kernel⟩
noncomputable def D_check_shift (P : Program) (w : World) (K : PySem.W.Frag) : FF := fDef 1 1 (sIfS (fNotT (fTest (fCall (D_is_integer P w K) (fCons (fVar 0) fNil)))) sBad sNext)
theorem fx_check_shift (XI : K.In base) (GN : base.Ns mainGlobals mg) (c : obsK K = val0) {fd : FuncData} {f : Addr} (F : Fun K "check_shift" "check_shift" s_check_shift f fd) : FnX P w K mg base 2 f fd ["value"] (spP 1 (D_check_shift P w K)) :=
    (Fun.pp F sc_check_shift (fun cdv A fr s H E hG hr => by
      have hu : A.units + 3 + 64 < cLine := hr.units
      exact (pps_one (ppq_if (ptt_not (pt_b (pp_call (t_is_integer XI GN c) hG (hr.mono (by decide)) (takes_of rfl rfl rfl rfl) rfl (ppa_cons (pp_v 0) ppa_nil)))) (pps_one ppq_never) pps_nil))))
theorem t_check_shift (XI : K.In base) (GN : base.Ns mainGlobals mg) (c : obsK K = val0) : DP P w K mg base "check_shift" 1 2 (D_check_shift P w K) := by
  obtain ⟨fd, F⟩ := F_check_shift c
  exact ⟨_, fd, _, rfl, (fx_check_shift XI GN c F), g_check_shift XI GN c, F.kp, F.binds (by intro _ _ _ _ _ _ us hl; first | (match us, hl with | [_], _ => rfl) | (match us, hl with | [_, _], _ => rfl) | (match us, hl with | [_, _, _], _ => rfl) | (match us, hl with | [_, _, _, _], _ => rfl) | (match us, hl with | [_, _, _, _, _], _ => rfl) | (match us, hl with | [_, _, _, _, _, _], _ => rfl) | (match us, hl with | [_, _, _, _, _, _, _], _ => rfl) | (match us, hl with | [_, _, _, _, _, _, _, _], _ => rfl) | (match us, hl with | [_, _, _, _, _, _, _, _, _], _ => rfl))⟩

/-! check_times -/
def N_check_times : List Str := ["value", "moments", "moment"]
theorem sc_check_times : FnScope N_check_times ["value", "moments"] (defScope s_check_times) := ⟨rfl, rfl, rfl, by decide +kernel, rfl, by decide +kernel, by decide +kernel⟩
noncomputable def D_check_times (P : Program) (w : World) (K : PySem.W.Frag) : FF := fDef 2 3 (sIfS (fOrT (fNotT (fTest (fCall (D_is_times P w K) (fCons (fVar 0) fNil)))) (fNotT (fTest (fCall (fBls fun bs => bs.all id) (fCons (fLc (iAny (fVar 1)) (tgName 2) fYes (fOp (gIn false) (fVar 2) (fVar 0)) [2]) fNil))))) sBad sNext)
theorem fx_check_times (XI : K.In base) (GN : base.Ns mainGlobals mg) (c : obsK K = val0) {fd : FuncData} {f : Addr} (F : Fun K "check_times" "check_times" s_check_times f fd) : FnX P w K mg base 4 f fd ["value", "moments"] (spP 2 (D_check_times P w K)) :=
    (Fun.pp F sc_check_times (fun cdv A fr s H E hG hr => by
      have hu : A.units + 3 + 64 < cLine := hr.units
      exact (pps_one (ppq_if (PPW.pt (ptw_or (ptt_not (pt_b (pp_call (t_is_times XI GN c) hG (hr.mono (by decide)) (takes_of rfl rfl rfl rfl) rfl (ppa_cons (pp_v 0) ppa_nil)))) (ptw_or1 (ptt_not (pt_b (pp_all rfl rfl (f_all XI GN c) (ppa_cons (pp_lc (own := [("moment", 2)]) (g := (gName 2)) rfl sc_check_times.nd (ppi_any (pp_v 1)) (blkOk_by (own := [("moment", 2)]) (by kernel_rfl)) (fun _ _ _ _ _ => (pg_name (i := 2) sc_check_times.nd rfl (by first | exact Or.inl rfl | exact Or.inr rfl))) (ad_gName (i := 2) (by intro l e; cases e <;> decide)) (fun _ _ _ _ _ => ppts_nil) (fun _ _ _ _ _ => (pp_in (Nat.lt_of_le_of_lt (Nat.add_le_add_left (by decide) _) hu) (pp_v 2) (pp_v 0)))) ppa_nil))))))) (pps_one ppq_never) pps_nil))))
theorem t_check_times (XI : K.In base) (GN : base.Ns mainGlobals mg) (c : obsK K = val0) : DP P w K mg base "check_times" 2 4 (D_check_times P w K) := by
  obtain ⟨fd, F⟩ := F_check_times c
  exact ⟨_, fd, _, rfl, (fx_check_times XI GN c F), g_check_times XI GN c, F.kp, F.binds (by intro _ _ _ _ _ _ us hl; first | (match us, hl with | [_], _ => rfl) | (match us, hl with | [_, _], _ => rfl) | (match us, hl with | [_, _, _], _ => rfl) | (match us, hl with | [_, _, _, _], _ => rfl) | (match us, hl with | [_, _, _, _, _], _ => rfl) | (match us, hl with | [_, _, _, _, _, _], _ => rfl) | (match us, hl with | [_, _, _, _, _, _, _], _ => rfl) | (match us, hl with | [_, _, _, _, _, _, _, _], _ => rfl) | (match us, hl with | [_, _, _, _, _, _, _, _, _], _ => rfl))⟩
end
end Pu

set_option Elab.async false
set_option linter.all false
set_option maxRecDepth 100000
set_option maxHeartbeats 8000000
namespace Pu
open L2 PySem PySem.Spec PyProof.Rows E10
open He (ga ma)
section
variable {P : Program} {w : World} {K : PySem.W.Frag} {mg : Str → Option Value} {base : Heap}
/-! check_moment -/
def N_check_moment : List Str := ["value", "moments"]
theorem sc_check_moment : FnScope N_check_moment ["value", "moments"] (defScope s_check_moment) := ⟨rfl, rfl, rfl, by decide +kernel, rfl, by decide +kernel, by decide +kernel⟩
noncomputable def D_check_moment (P : Program) (w : World) (K : PySem.W.Frag) : FF := fDef 2 2 (sIfS (fNotT (fTest (fCall (D_is_moment_of P w K) (fCons (fVar 0) (fCons (fVar 1) fNil))))) sBad sNext)
theorem fx_check_moment (XI : K.In base) (GN : base.Ns mainGlobals mg) (c : obsK K = val0) {fd : FuncData} {f : Addr} (F : Fun K "check_moment" "check_moment" s_check_moment f fd) : FnX P w K mg base 2 f fd ["value", "moments"] (spP 2 (D_check_moment P w K)) :=
    (Fun.pp F sc_check_moment (fun cdv A fr s H E hG hr => by
      have hu : A.units + 3 + 64 < cLine := hr.units
      exact (pps_one (ppq_if (ptt_not (pt_b (pp_call (t_is_moment_of XI GN c) hG (hr.mono (by decide)) (takes_of rfl rfl rfl rfl) rfl (ppa_cons (pp_v 0) (ppa_cons (pp_v 1) ppa_nil))))) (pps_one ppq_never) pps_nil))))
theorem t_check_moment (XI : K.In base) (GN : base.Ns mainGlobals mg) (c : obsK K = val0) : DP P w K mg base "check_moment" 2 2 (D_check_moment P w K) := by
  obtain ⟨fd, F⟩ := F_check_moment c
  exact ⟨_, fd, _, rfl, (fx_check_moment XI GN c F), g_check_moment XI GN c, F.kp, F.binds (by intro _ _ _ _ _ _ us hl; first | (match us, hl with | [_], _ => rfl) | (match us, hl with | [_, _], _ => rfl) | (match us, hl with | [_, _, _], _ => rfl) | (match us, hl with | [_, _, _, _], _ => rfl) | (match us, hl with | [_, _, _, _, _], _ => rfl) | (match us, hl with | [_, _, _, _, _, _], _ => rfl) | (match us, hl with | [_, _, _, _, _, _, _], _ => rfl) | (match us, hl with | [_, _, _, _, _, _, _, _], _ => rfl) | (match us, hl with | [_, _, _, _, _, _, _, _, _], _ => rfl))⟩

/-! in_order -/
def N_in_order : List Str := ["table", "moment"]
theorem sc_in_order : FnScope N_in_order ["table"] (defScope s_in_order) := ⟨rfl, rfl, rfl, by decide +kernel, rfl, by decide +kernel, by decide +kernel⟩
noncomputable def D_in_order (P : Program) (w : World) (K : PySem.W.Frag) : FF := fDef 1 2 (sRet (fDc (iAny (fCall (gSort' (SetTO P w)) (fCons (fVar 0) fNil))) (tgName 1) fYes (fVar 1) (fOp gIx (fVar 0) (fVar 1)) [1]))
theorem fx_in_order (XI : K.In base) (GN : base.Ns mainGlobals mg) (c : obsK K = val0) {fd : FuncData} {f : Addr} (F : Fun K "in_order" "in_order" s_in_order f fd) : FnX P w K mg base 1 f fd ["table"] (spP 1 (D_in_order P w K)) :=
    (Fun.pp F sc_in_order (fun cdv A fr s H E hG hr => by
      have hu : A.units + 3 + 64 < cLine := hr.units
      exact (pps_one (ppq_ret (pp_dc (own := [("moment", 1)]) (g := (gName 1)) rfl sc_in_order.nd (ppi_any (pp_sorted rfl rfl (f_sorted XI GN c) (ppa_cons (pp_v 0) ppa_nil))) (blkOk_by (own := [("moment", 1)]) (by kernel_rfl)) (fun _ _ _ _ _ => (pg_name (i := 1) sc_in_order.nd rfl (by first | exact Or.inl rfl | exact Or.inr rfl))) (ad_gName (i := 1) (by intro l e; cases e <;> decide)) (fun _ _ _ _ _ => ppts_nil) (fun _ _ _ _ _ => (pp_v 1)) (fun _ _ _ _ _ => (pp_idx (Nat.lt_of_le_of_lt (Nat.add_le_add_left (by decide) _) hu) (pp_v 0) (pp_v 1))))))))
theorem t_in_order (XI : K.In base) (GN : base.Ns mainGlobals mg) (c : obsK K = val0) : DP P w K mg base "in_order" 1 1 (D_in_order P w K) := by
  obtain ⟨fd, F⟩ := F_in_order c
  exact ⟨_, fd, _, rfl, (fx_in_order XI GN c F), g_in_order XI GN c, F.kp, F.binds (by intro _ _ _ _ _ _ us hl; first | (match us, hl with | [_], _ => rfl) | (match us, hl with | [_, _], _ => rfl) | (match us, hl with | [_, _, _], _ => rfl) | (match us, hl with | [_, _, _, _], _ => rfl) | (match us, hl with | [_, _, _, _, _], _ => rfl) | (match us, hl with | [_, _, _, _, _, _], _ => rfl) | (match us, hl with | [_, _, _, _, _, _, _], _ => rfl) | (match us, hl with | [_, _, _, _, _, _, _, _], _ => rfl) | (match us, hl with | [_, _, _, _, _, _, _, _, _], _ => rfl))⟩

/-! moved -/
def N_moved : List Str := ["table", "number", "moment"]
theorem sc_moved : FnScope N_moved ["table", "number"] (defScope s_moved) := ⟨rfl, rfl, rfl, by decide +kernel, rfl, by decide +kernel, by decide +kernel⟩
noncomputable def D_moved (P : Program) (w : World) (K : PySem.W.Frag) : FF := fDef 2 3 (sRet (fDc (iAny (fVar 0)) (tgName 2) fYes (fVar 2) (fOp gAdd (fOp gIx (fVar 0) (fVar 2)) (fVar 1)) [2]))
theorem fx_moved (XI : K.In base) (GN : base.Ns mainGlobals mg) (c : obsK K = val0) {fd : FuncData} {f : Addr} (F : Fun K "moved" "moved" s_moved f fd) : FnX P w K mg base 1 f fd ["table", "number"] (spP 2 (D_moved P w K)) :=
    (Fun.pp F sc_moved (fun cdv A fr s H E hG hr => by
      have hu : A.units + 3 + 64 < cLine := hr.units
      exact (pps_one (ppq_ret (pp_dc (own := [("moment", 2)]) (g := (gName 2)) rfl sc_moved.nd (ppi_any (pp_v 0)) (blkOk_by (own := [("moment", 2)]) (by kernel_rfl)) (fun _ _ _ _ _ => (pg_name (i := 2) sc_moved.nd rfl (by first | exact Or.inl rfl | exact Or.inr rfl))) (ad_gName (i := 2) (by intro l e; cases e <;> decide)) (fun _ _ _ _ _ => ppts_nil) (fun _ _ _ _ _ => (pp_v 2)) (fun _ _ _ _ _ => (pp_add (pp_idx (Nat.lt_of_le_of_lt (Nat.add_le_add_left (by decide) _) hu) (pp_v 0) (pp_v 2)) (pp_v 1))))))))
theorem t_moved (XI : K.In base) (GN : base.Ns mainGlobals mg) (c : obsK K = val0) : DP P w K mg base "moved" 2 1 (D_moved P w K) := by
  obtain ⟨fd, F⟩ := F_moved c
  exact ⟨_, fd, _, rfl, (fx_moved XI GN c F), g_moved XI GN c, F.kp, F.binds (by intro _ _ _ _ _ _ us hl; first | (match us, hl with | [_], _ => rfl) | (match us, hl with | [_, _], _ => rfl) | (match us, hl with | [_, _, _], _ => rfl) | (match us, hl with | [_, _, _, _], _ => rfl) | (match us, hl with | [_, _, _, _, _], _ => rfl) | (match us, hl with | [_, _, _, _, _, _], _ => rfl) | (match us, hl with | [_, _, _, _, _, _, _], _ => rfl) | (match us, hl with | [_, _, _, _, _, _, _, _], _ => rfl) | (match us, hl with | [_, _, _, _, _, _, _, _, _], _ => rfl))⟩

/-! least_of -/
def N_least_of : List Str := ["one", "other", "moments", "moment", "table"]
theorem sc_least_of : FnScope N_least_of ["one", "other"] (defScope s_least_of) := ⟨rfl, rfl, rfl, by decide +kernel, rfl, by decide +kernel, by decide +kernel⟩
noncomputable def D_least_of (P : Program) (w : World) (K : PySem.W.Frag) : FF := fDef 2 5 (sSeq (sSet 2 (fCall (gSort' (SetTO P w)) (fCons (fOp (fUnion (SetTO P w)) (fCall (gSet (SetTO P w)) (fCons (fVar 0) fNil)) (fCall (gSet (SetTO P w)) (fCons (fVar 1) fNil))) fNil)))
      (sRet (fDc (iAny (fVar 2)) (tgName 3) fYes (fVar 3) (fCall gMin (fCons (fLc (iAny (fSeq .tup (fCons (fVar 0) (fCons (fVar 1) fNil)))) (tgName 4) (fTest (fOp (gIn false) (fVar 3) (fVar 4))) (fOp gIx (fVar 4) (fVar 3)) [4]) fNil)) [3])))
theorem fx_least_of (XI : K.In base) (GN : base.Ns mainGlobals mg) (c : obsK K = val0) {fd : FuncData} {f : Addr} (F : Fun K "least_of" "least_of" s_least_of f fd) : FnX P w K mg base 1 f fd ["one", "other"] (spP 2 (D_least_of P w K)) :=
    (Fun.pp F sc_least_of (fun cdv A fr s H E hG hr => by
      have hu : A.units + 3 + 64 < cLine := hr.units
      exact (pps_cons (ppq_set (i := 2) sc_least_of.nd rfl (Or.inl rfl) (pp_sorted rfl rfl (f_sorted XI GN c) (ppa_cons (pp_bor (pp_set rfl rfl (f_set XI GN c) (ppa_cons (pp_v 0) ppa_nil)) (pp_set rfl rfl (f_set XI GN c) (ppa_cons (pp_v 1) ppa_nil))) ppa_nil)))
      (pps_one (ppq_ret (pp_dc (own := [("moment", 3)]) (g := (gName 3)) rfl sc_least_of.nd (ppi_any (pp_v 2)) (blkOk_by (own := [("moment", 3)]) (by kernel_rfl)) (fun _ _ _ _ _ => (pg_name (i := 3) sc_least_of.nd rfl (by first | exact Or.inl rfl | exact Or.inr rfl))) (ad_gName (i := 3) (by intro l e; cases e <;> decide)) (fun _ _ _ _ _ => ppts_nil) (fun _ _ _ _ _ => (pp_v 3)) (fun _ _ _ _ _ => (pp_min rfl rfl (f_min XI GN c) (ppa_cons (pp_lc (own := [("table", 4)]) (g := (gName 4)) rfl sc_least_of.nd (ppi_any (pp_tup (ppa_cons (pp_v 0) (ppa_cons (pp_v 1) ppa_nil)))) (blkOk_by (own := [("table", 4)]) (by kernel_rfl)) (fun _ _ _ _ _ => (pg_name (i := 4) sc_least_of.nd rfl (by first | exact Or.inl rfl | exact Or.inr rfl))) (ad_gName (i := 4) (by intro l e; cases e <;> decide)) (fun _ _ _ _ _ => (ppts_one (pt_in (Nat.lt_of_le_of_lt (Nat.add_le_add_left (by decide) _) hu) (pp_v 3) (pp_v 4)))) (fun _ _ _ _ _ => (pp_idx (Nat.lt_of_le_of_lt (Nat.add_le_add_left (by decide) _) hu) (pp_v 4) (pp_v 3)))) ppa_nil)))))))))
theorem t_least_of (XI : K.In base) (GN : base.Ns mainGlobals mg) (c : obsK K = val0) : DP P w K mg base "least_of" 2 1 (D_least_of P w K) := by
  obtain ⟨fd, F⟩ := F_least_of c
  exact ⟨_, fd, _, rfl, (fx_least_of XI GN c F), g_least_of XI GN c, F.kp, F.binds (by intro _ _ _ _ _ _ us hl; first | (match us, hl with | [_], _ => rfl) | (match us, hl with | [_, _], _ => rfl) | (match us, hl with | [_, _, _], _ => rfl) | (match us, hl with | [_, _, _, _], _ => rfl) | (match us, hl with | [_, _, _, _, _], _ => rfl) | (match us, hl with | [_, _, _, _, _, _], _ => rfl) | (match us, hl with | [_, _, _, _, _, _, _], _ => rfl) | (match us, hl with | [_, _, _, _, _, _, _, _], _ => rfl) | (match us, hl with | [_, _, _, _, _, _, _, _, _], _ => rfl))⟩

/-! check_shifts -/
def N_check_shifts : List Str := ["shifts", "moment"]
theorem sc_check_shifts : FnScope N_check_shifts ["shifts"] (defScope s_check_shifts) := ⟨rfl, rfl, rfl, by decide +kernel, rfl, by decide +kernel, by decide +kernel⟩
noncomputable def D_check_shifts (P : Program) (w : World) (K : PySem.W.Frag) : FF := fDef 1 2 (sSeq (sIfS (fNotT (fTest (fCall (D_has_names P w K) (fCons (fVar 0) fNil)))) sBad sNext)
      (sSeq (sFor (iAny (fCall (gSort' (SetTO P w)) (fCons (fVar 0) fNil))) (tgName 1) (sIfS (fNotT (fTest (fCall (D_is_integer P w K) (fCons (fOp gIx (fVar 0) (fVar 1)) fNil)))) sBad sNext))
      (sIfS (fTest (fOp gGt (fCall gLen (fCons (fVar 0) fNil)) (fC (.int 8)))) sBad sNext)))
theorem fx_check_shifts (XI : K.In base) (GN : base.Ns mainGlobals mg) (c : obsK K = val0) {fd : FuncData} {f : Addr} (F : Fun K "check_shifts" "check_shifts" s_check_shifts f fd) : FnX P w K mg base 3 f fd ["shifts"] (spP 1 (D_check_shifts P w K)) :=
    (Fun.pp F sc_check_shifts (fun cdv A fr s H E hG hr => by
      have hu : A.units + 3 + 64 < cLine := hr.units
      exact (pps_cons (ppq_if (ptt_not (pt_b (pp_call (t_has_names XI GN c) hG (hr.mono (by decide)) (takes_of rfl rfl rfl rfl) rfl (ppa_cons (pp_v 0) ppa_nil)))) (pps_one ppq_never) pps_nil)
      (pps_cons (ppq_for (g := (gName 1)) (passes_of rfl) rfl (ppi_any (pp_sorted rfl rfl (f_sorted XI GN c) (ppa_cons (pp_v 0) ppa_nil))) (pg_name (i := 1) sc_check_shifts.nd rfl (Or.inl rfl)) (ad_gName (i := 1) (by intro l e; cases e <;> decide))
        (pps_one (ppq_if (ptt_not (pt_b (pp_call (t_is_integer XI GN c) hG (hr.mono (by decide)) (takes_of rfl rfl rfl rfl) rfl (ppa_cons (pp_idx (Nat.lt_of_le_of_lt (Nat.add_le_add_left (by decide) _) hu) (pp_v 0) (pp_v 1)) ppa_nil)))) (pps_one ppq_never) pps_nil)))
      (pps_one (ppq_if (pt_gt (pp_len' rfl (f_len XI GN c) (ppa_cons (pp_v 0) ppa_nil)) (pp_gint rfl (n_MOST_TERMS XI GN c))) (pps_one ppq_never) pps_nil))))))
theorem t_check_shifts (XI : K.In base) (GN : base.Ns mainGlobals mg) (c : obsK K = val0) : DP P w K mg base "check_shifts" 1 3 (D_check_shifts P w K) := by
  obtain ⟨fd, F⟩ := F_check_shifts c
  exact ⟨_, fd, _, rfl, (fx_check_shifts XI GN c F), g_check_shifts XI GN c, F.kp, F.binds (by intro _ _ _ _ _ _ us hl; first | (match us, hl with | [_], _ => rfl) | (match us, hl with | [_, _], _ => rfl) | (match us, hl with | [_, _, _], _ => rfl) | (match us, hl with | [_, _, _, _], _ => rfl) | (match us, hl with | [_, _, _, _, _], _ => rfl) | (match us, hl with | [_, _, _, _, _, _], _ => rfl) | (match us, hl with | [_, _, _, _, _, _, _], _ => rfl) | (match us, hl with | [_, _, _, _, _, _, _, _], _ => rfl) | (match us, hl with | [_, _, _, _, _, _, _, _, _], _ => rfl))⟩

/-! Earliest.__init__ -/
def N_Earliest___init__ : List Str := ["self", "shifts"]
theorem sc_Earliest___init__ : FnScope N_Earliest___init__ ["self", "shifts"] (defScope m_Earliest___init__) := ⟨rfl, rfl, rfl, by decide +kernel, rfl, by decide +kernel, by decide +kernel⟩
noncomputable def D_Earliest___init__ (P : Program) (w : World) (K : PySem.W.Frag) : FF := fDef 2 2 (sSeq (sDrop (fCall (D_check_shifts P w K) (fCons (fVar 1) fNil)))
      (sFldP (ga K "Earliest") "_shifts" (fVar 0) (fCall (D_in_order P w K) (fCons (fVar 1) fNil))))
theorem fx_Earliest___init__ (XI : K.In base) (GN : base.Ns mainGlobals mg) (c : obsK K = val0) {fd : FuncData} {f : Addr} (F : Fun K "__init__" "Earliest.__init__" m_Earliest___init__ f fd) : FnX P w K mg base 4 f fd ["self", "shifts"] (spP 2 (D_Earliest___init__ P w K)) :=
    (Fun.pp F sc_Earliest___init__ (fun cdv A fr s H E hG hr => by
      have hu : A.units + 3 + 64 < cLine := hr.units
      exact (pps_cons (ppq_expr (pp_call (t_check_shifts XI GN c) hG (hr.mono (by decide)) (takes_of rfl rfl rfl rfl) rfl (ppa_cons (pp_v 1) ppa_nil)))
      (pps_one (ppq_fld (cl_Earliest c) (na_Earliest__shifts c) (pp_v 0) (pp_call (t_in_order XI GN c) hG (hr.mono (by decide)) (takes_of rfl rfl rfl rfl) rfl (ppa_cons (pp_v 1) ppa_nil)))))))
theorem t_Earliest___init__ (XI : K.In base) (GN : base.Ns mainGlobals mg) (c : obsK K = val0) : DC P w K mg base "Earliest" (ga K "Earliest") 2 4 (D_Earliest___init__ P w K) := by
  obtain ⟨fd, F⟩ := F_Earliest___init__ c
  exact ⟨⟨_, fd, _, rfl, (fx_Earliest___init__ XI GN c F), mkB_ok (bMk_Earliest c), F.binds (by intro _ _ _ _ _ _ us hl; first | (match us, hl with | [_], _ => rfl) | (match us, hl with | [_, _], _ => rfl) | (match us, hl with | [_, _, _], _ => rfl) | (match us, hl with | [_, _, _, _], _ => rfl) | (match us, hl with | [_, _, _, _, _], _ => rfl) | (match us, hl with | [_, _, _, _, _, _], _ => rfl) | (match us, hl with | [_, _, _, _, _, _, _], _ => rfl) | (match us, hl with | [_, _, _, _, _, _, _, _], _ => rfl) | (match us, hl with | [_, _, _, _, _, _, _, _, _], _ => rfl))⟩, g_Earliest XI GN c⟩

/-! Earliest.shifts -/
def N_Earliest_shifts : List Str := ["self"]
theorem sc_Earliest_shifts : FnScope N_Earliest_shifts ["self"] (defScope m_Earliest_shifts) := ⟨rfl, rfl, rfl, by decide +kernel, rfl, by decide +kernel, by decide +kernel⟩
noncomputable def D_Earliest_shifts (P : Program) (w : World) (K : PySem.W.Frag) : FF := fDef 1 1 (sRet (fCall (gDict .val) (fCons (fFld (ga K "Earliest") "_shifts" (fVar 0)) fNil)))
theorem fx_Earliest_shifts (XI : K.In base) (GN : base.Ns mainGlobals mg) (c : obsK K = val0) {fd : FuncData} {f : Addr} (F : Fun K "shifts" "Earliest.shifts" m_Earliest_shifts f fd) : FnX P w K mg base 1 f fd ["self"] (spP 1 (D_Earliest_shifts P w K)) :=
    (Fun.pp F sc_Earliest_shifts (fun cdv A fr s H E hG hr => by
      have hu : A.units + 3 + 64 < cLine := hr.units
      exact (pps_one (ppq_ret (pp_dict .val rfl rfl (f_dict XI GN c) (ppa_cons (pp_fld (cl_Earliest c) (na_Earliest__shifts c) (pp_v 0)) ppa_nil))))))
theorem t_Earliest_shifts (XI : K.In base) (GN : base.Ns mainGlobals mg) (c : obsK K = val0) : DM P w K mg base (ga K "Earliest") "shifts" 1 1 (D_Earliest_shifts P w K) := by
  obtain ⟨fd, F⟩ := F_Earliest_shifts c
  exact ⟨_, fd, _, rfl, (fx_Earliest_shifts XI GN c F), metB_ok (bMet_Earliest_shifts c), F.binds (by intro _ _ _ _ _ _ us hl; first | (match us, hl with | [_], _ => rfl) | (match us, hl with | [_, _], _ => rfl) | (match us, hl with | [_, _, _], _ => rfl) | (match us, hl with | [_, _, _, _], _ => rfl) | (match us, hl with | [_, _, _, _, _], _ => rfl) | (match us, hl with | [_, _, _, _, _, _], _ => rfl) | (match us, hl with | [_, _, _, _, _, _, _], _ => rfl) | (match us, hl with | [_, _, _, _, _, _, _, _], _ => rfl) | (match us, hl with | [_, _, _, _, _, _, _, _, _], _ => rfl))⟩
end
end Pu

set_option Elab.async false
set_option linter.all false
set_option maxRecDepth 100000
set_option maxHeartbeats 8000000
namespace Pu
open L2 PySem PySem.Spec PyProof.Rows E10
open He (ga ma)
section
variable {P : Program} {w : World} {K : PySem.W.Frag} {mg : Str → Option Value} {base : Heap}
/-! Earliest.__call__ -/
def N_Earliest___call__ : List Str := ["self", "times", "moment"]
theorem sc_Earliest___call__ : FnScope N_Earliest___call__ ["self", "times"] (defScope m_Earliest___call__) := ⟨rfl, rfl, rfl, by decide +kernel, rfl, by decide +kernel, by decide +kernel⟩
noncomputable def D_Earliest___call__ (P : Program) (w : World) (K : PySem.W.Frag) : FF := fDef 2 3 (sSeq (sDrop (fCall (D_check_times P w K) (fCons (fVar 1) (fCons (fFld (ga K "Earliest") "_shifts" (fVar 0)) fNil))))
      (sRet (fCall gMin (fCons (fLc (iAny (fFld (ga K "Earliest") "_shifts" (fVar 0))) (tgName 2) fYes (fOp gAdd (fOp gIx (fVar 1) (fVar 2)) (fOp gIx (fFld (ga K "Earliest") "_shifts" (fVar 0)) (fVar 2))) [2]) fNil))))
theorem fx_Earliest___call__ (XI : K.In base) (GN : base.Ns mainGlobals mg) (c : obsK K = val0) {fd : FuncData} {f : Addr} (F : Fun K "__call__" "Earliest.__call__" m_Earliest___call__ f fd) : FnX P w K mg base 5 f fd ["self", "times"] (spP 2 (D_Earliest___call__ P w K)) :=
    (Fun.pp F sc_Earliest___call__ (fun cdv A fr s H E hG hr => by
      have hu : A.units + 3 + 64 < cLine := hr.units
      exact (pps_cons (ppq_expr (pp_call (t_check_times XI GN c) hG (hr.mono (by decide)) (takes_of rfl rfl rfl rfl) rfl (ppa_cons (pp_v 1) (ppa_cons (pp_fld (cl_Earliest c) (na_Earliest__shifts c) (pp_v 0)) ppa_nil))))
      (pps_one (ppq_ret (pp_min rfl rfl (f_min XI GN c) (ppa_cons (pp_lc (own := [("moment", 2)]) (g := (gName 2)) rfl sc_Earliest___call__.nd (ppi_any (pp_fld (cl_Earliest c) (na_Earliest__shifts c) (pp_v 0))) (blkOk_by (own := [("moment", 2)]) (by kernel_rfl)) (fun _ _ _ _ _ => (pg_name (i := 2) sc_Earliest___call__.nd rfl (by first | exact Or.inl rfl | exact Or.inr rfl))) (ad_gName (i := 2) (by intro l e; cases e <;> decide)) (fun _ _ _ _ _ => ppts_nil) (fun _ _ _ _ _ => (pp_add (pp_idx (Nat.lt_of_le_of_lt (Nat.add_le_add_left (by decide) _) hu) (pp_v 1) (pp_v 2)) (pp_idx (Nat.lt_of_le_of_lt (Nat.add_le_add_left (by decide) _) hu) (pp_fld (cl_Earliest c) (na_Earliest__shifts c) (pp_v 0)) (pp_v 2))))) ppa_nil)))))))
theorem t_Earliest___call__ (XI : K.In base) (GN : base.Ns mainGlobals mg) (c : obsK K = val0) : DCa P w K mg base (ga K "Earliest") 2 5 (D_Earliest___call__ P w K) := by
  obtain ⟨fd, F⟩ := F_Earliest___call__ c
  exact ⟨_, fd, _, rfl, (fx_Earliest___call__ XI GN c F), callB_ok (bCall_Earliest c), F.binds (by intro _ _ _ _ _ _ us hl; first | (match us, hl with | [_], _ => rfl) | (match us, hl with | [_, _], _ => rfl) | (match us, hl with | [_, _, _], _ => rfl) | (match us, hl with | [_, _, _, _], _ => rfl) | (match us, hl with | [_, _, _, _, _], _ => rfl) | (match us, hl with | [_, _, _, _, _, _], _ => rfl) | (match us, hl with | [_, _, _, _, _, _, _], _ => rfl) | (match us, hl with | [_, _, _, _, _, _, _, _], _ => rfl) | (match us, hl with | [_, _, _, _, _, _, _, _, _], _ => rfl))⟩

/-! Earliest.__add__ -/
def N_Earliest___add__ : List Str := ["self", "other"]
theorem sc_Earliest___add__ : FnScope N_Earliest___add__ ["self", "other"] (defScope m_Earliest___add__) := ⟨rfl, rfl, rfl, by decide +kernel, rfl, by decide +kernel, by decide +kernel⟩
noncomputable def D_Earliest___add__ (P : Program) (w : World) (K : PySem.W.Frag) : FF := fDef 2 2 (sSeq (sDrop (fCall (D_check_shift P w K) (fCons (fVar 1) fNil)))
      (sRet (fFrz (fMake (ga K "Earliest") (D_Earliest___init__ P w K) (fCons (fCall (D_moved P w K) (fCons (fFld (ga K "Earliest") "_shifts" (fVar 0)) (fCons (fVar 1) fNil))) fNil)))))
theorem fx_Earliest___add__ (XI : K.In base) (GN : base.Ns mainGlobals mg) (c : obsK K = val0) {fd : FuncData} {f : Addr} (F : Fun K "__add__" "Earliest.__add__" m_Earliest___add__ f fd) : FnX P w K mg base 6 f fd ["self", "other"] (spP 2 (D_Earliest___add__ P w K)) :=
    (Fun.pp F sc_Earliest___add__ (fun cdv A fr s H E hG hr => by
      have hu : A.units + 3 + 64 < cLine := hr.units
      exact (pps_cons (ppq_expr (pp_call (t_check_shift XI GN c) hG (hr.mono (by decide)) (takes_of rfl rfl rfl rfl) rfl (ppa_cons (pp_v 1) ppa_nil)))
      (pps_one (ppq_ret (pp_make (t_Earliest___init__ XI GN c) hG (hr.mono (by decide)) (takes_of rfl rfl rfl rfl) rfl (ppa_cons (pp_call (t_moved XI GN c) hG (hr.mono (by decide)) (takes_of rfl rfl rfl rfl) rfl (ppa_cons (pp_fld (cl_Earliest c) (na_Earliest__shifts c) (pp_v 0)) (ppa_cons (pp_v 1) ppa_nil))) ppa_nil)))))))
theorem t_Earliest___add__ (XI : K.In base) (GN : base.Ns mainGlobals mg) (c : obsK K = val0) : DS P w K mg base (ga K "Earliest") (PySem.dunder "add") 2 6 (D_Earliest___add__ P w K) := by
  obtain ⟨fd, F⟩ := F_Earliest___add__ c
  exact ⟨_, fd, _, rfl, (fx_Earliest___add__ XI GN c F), mB_ok (bSp_Earliest___add__ c), F.binds (by intro _ _ _ _ _ _ us hl; first | (match us, hl with | [_], _ => rfl) | (match us, hl with | [_, _], _ => rfl) | (match us, hl with | [_, _, _], _ => rfl) | (match us, hl with | [_, _, _, _], _ => rfl) | (match us, hl with | [_, _, _, _, _], _ => rfl) | (match us, hl with | [_, _, _, _, _, _], _ => rfl) | (match us, hl with | [_, _, _, _, _, _, _], _ => rfl) | (match us, hl with | [_, _, _, _, _, _, _, _], _ => rfl) | (match us, hl with | [_, _, _, _, _, _, _, _, _], _ => rfl))⟩

/-! Earliest.__radd__ -/
def N_Earliest___radd__ : List Str := ["self", "other"]
theorem sc_Earliest___radd__ : FnScope N_Earliest___radd__ ["self", "other"] (defScope m_Earliest___radd__) := ⟨rfl, rfl, rfl, by decide +kernel, rfl, by decide +kernel, by decide +kernel⟩
noncomputable def D_Earliest___radd__ (P : Program) (w : World) (K : PySem.W.Frag) : FF := fDef 2 2 (sRet (fFrz (fOp (fOwnI (ga K "Earliest") (D_Earliest___add__ P w K)) (fVar 0) (fVar 1))))
theorem fx_Earliest___radd__ (XI : K.In base) (GN : base.Ns mainGlobals mg) (c : obsK K = val0) {fd : FuncData} {f : Addr} (F : Fun K "__radd__" "Earliest.__radd__" m_Earliest___radd__ f fd) : FnX P w K mg base 7 f fd ["self", "other"] (spP 2 (D_Earliest___radd__ P w K)) :=
    (Fun.pp F sc_Earliest___radd__ (fun cdv A fr s H E hG hr => by
      have hu : A.units + 3 + 64 < cLine := hr.units
      exact (pps_one (ppq_ret (pp_frz (pp_plusI (radd_Earliest c) (t_Earliest___add__ XI GN c) (in_Earliest c) hG (hr.mono (by decide)) (pp_v 0) (pp_v 1)))))))
theorem t_Earliest___radd__ (XI : K.In base) (GN : base.Ns mainGlobals mg) (c : obsK K = val0) : DS P w K mg base (ga K "Earliest") (dunderR "add") 2 7 (D_Earliest___radd__ P w K) := by
  obtain ⟨fd, F⟩ := F_Earliest___radd__ c
  exact ⟨_, fd, _, rfl, (fx_Earliest___radd__ XI GN c F), mB_ok (bSp_Earliest___radd__ c), F.binds (by intro _ _ _ _ _ _ us hl; first | (match us, hl with | [_], _ => rfl) | (match us, hl with | [_, _], _ => rfl) | (match us, hl with | [_, _, _], _ => rfl) | (match us, hl with | [_, _, _, _], _ => rfl) | (match us, hl with | [_, _, _, _, _], _ => rfl) | (match us, hl with | [_, _, _, _, _, _], _ => rfl) | (match us, hl with | [_, _, _, _, _, _, _], _ => rfl) | (match us, hl with | [_, _, _, _, _, _, _, _], _ => rfl) | (match us, hl with | [_, _, _, _, _, _, _, _, _], _ => rfl))⟩

/-! Earliest.__sub__ -/
def N_Earliest___sub__ : List Str := ["self", "other"]
theorem sc_Earliest___sub__ : FnScope N_Earliest___sub__ ["self", "other"] (defScope m_Earliest___sub__) := ⟨rfl, rfl, rfl, by decide +kernel, rfl, by decide +kernel, by decide +kernel⟩
noncomputable def D_Earliest___sub__ (P : Program) (w : World) (K : PySem.W.Frag) : FF := fDef 2 2 (sSeq (sDrop (fCall (D_check_shift P w K) (fCons (fVar 1) fNil)))
      (sRet (fFrz (fOp (fOwnI (ga K "Earliest") (D_Earliest___add__ P w K)) (fVar 0) (fUn fNeg (fVar 1))))))
theorem fx_Earliest___sub__ (XI : K.In base) (GN : base.Ns mainGlobals mg) (c : obsK K = val0) {fd : FuncData} {f : Addr} (F : Fun K "__sub__" "Earliest.__sub__" m_Earliest___sub__ f fd) : FnX P w K mg base 7 f fd ["self", "other"] (spP 2 (D_Earliest___sub__ P w K)) :=
    (Fun.pp F sc_Earliest___sub__ (fun cdv A fr s H E hG hr => by
      have hu : A.units + 3 + 64 < cLine := hr.units
      exact (pps_cons (ppq_expr (pp_call (t_check_shift XI GN c) hG (hr.mono (by decide)) (takes_of rfl rfl rfl rfl) rfl (ppa_cons (pp_v 1) ppa_nil)))
      (pps_one (ppq_ret (pp_frz (pp_plusI (radd_Earliest c) (t_Earliest___add__ XI GN c) (in_Earliest c) hG (hr.mono (by decide)) (pp_v 0) (pp_neg (pp_v 1)))))))))
theorem t_Earliest___sub__ (XI : K.In base) (GN : base.Ns mainGlobals mg) (c : obsK K = val0) : DS P w K mg base (ga K "Earliest") (PySem.dunder "sub") 2 7 (D_Earliest___sub__ P w K) := by
  obtain ⟨fd, F⟩ := F_Earliest___sub__ c
  exact ⟨_, fd, _, rfl, (fx_Earliest___sub__ XI GN c F), mB_ok (bSp_Earliest___sub__ c), F.binds (by intro _ _ _ _ _ _ us hl; first | (match us, hl with | [_], _ => rfl) | (match us, hl with | [_, _], _ => rfl) | (match us, hl with | [_, _, _], _ => rfl) | (match us, hl with | [_, _, _, _], _ => rfl) | (match us, hl with | [_, _, _, _, _], _ => rfl) | (match us, hl with | [_, _, _, _, _, _], _ => rfl) | (match us, hl with | [_, _, _, _, _, _, _], _ => rfl) | (match us, hl with | [_, _, _, _, _, _, _, _], _ => rfl) | (match us, hl with | [_, _, _, _, _, _, _, _, _], _ => rfl))⟩

/-! Earliest.__or__ -/
def N_Earliest___or__ : List Str := ["self", "other"]
theorem sc_Earliest___or__ : FnScope N_Earliest___or__ ["self", "other"] (defScope m_Earliest___or__) := ⟨rfl, rfl, rfl, by decide +kernel, rfl, by decide +kernel, by decide +kernel⟩
noncomputable def D_Earliest___or__ (P : Program) (w : World) (K : PySem.W.Frag) : FF := fDef 2 2 (sSeq (sIfS (fNotT (fTest (fCall (fIsi [(ga K "Earliest")]) (fCons (fVar 1) (fCons (fC (.ref (ga K "Earliest"))) fNil))))) sBad sNext)
      (sRet (fFrz (fMake (ga K "Earliest") (D_Earliest___init__ P w K) (fCons (fCall (D_least_of P w K) (fCons (fFld (ga K "Earliest") "_shifts" (fVar 0)) (fCons (fFld (ga K "Earliest") "_shifts" (fVar 1)) fNil))) fNil)))))
theorem fx_Earliest___or__ (XI : K.In base) (GN : base.Ns mainGlobals mg) (c : obsK K = val0) {fd : FuncData} {f : Addr} (F : Fun K "__or__" "Earliest.__or__" m_Earliest___or__ f fd) : FnX P w K mg base 6 f fd ["self", "other"] (spP 2 (D_Earliest___or__ P w K)) :=
    (Fun.pp F sc_Earliest___or__ (fun cdv A fr s H E hG hr => by
      have hu : A.units + 3 + 64 < cLine := hr.units
      exact (pps_cons (ppq_if (ptt_not (pt_b (pp_isi (ow c) rfl (f_isinstance XI GN c) (ppa_cons (pp_v 1) (ppa_cons (pp_gcls rfl (g_Earliest XI GN c)) ppa_nil))))) (pps_one ppq_never) pps_nil)
      (pps_one (ppq_ret (pp_make (t_Earliest___init__ XI GN c) hG (hr.mono (by decide)) (takes_of rfl rfl rfl rfl) rfl (ppa_cons (pp_call (t_least_of XI GN c) hG (hr.mono (by decide)) (takes_of rfl rfl rfl rfl) rfl (ppa_cons (pp_fld (cl_Earliest c) (na_Earliest__shifts c) (pp_v 0)) (ppa_cons (pp_fld (cl_Earliest c) (na_Earliest__shifts c) (pp_v 1)) ppa_nil))) ppa_nil)))))))
theorem t_Earliest___or__ (XI : K.In base) (GN : base.Ns mainGlobals mg) (c : obsK K = val0) : DS P w K mg base (ga K "Earliest") (PySem.dunder "or") 2 6 (D_Earliest___or__ P w K) := by
  obtain ⟨fd, F⟩ := F_Earliest___or__ c
  exact ⟨_, fd, _, rfl, (fx_Earliest___or__ XI GN c F), mB_ok (bSp_Earliest___or__ c), F.binds (by intro _ _ _ _ _ _ us hl; first | (match us, hl with | [_], _ => rfl) | (match us, hl with | [_, _], _ => rfl) | (match us, hl with | [_, _, _], _ => rfl) | (match us, hl with | [_, _, _, _], _ => rfl) | (match us, hl with | [_, _, _, _, _], _ => rfl) | (match us, hl with | [_, _, _, _, _, _], _ => rfl) | (match us, hl with | [_, _, _, _, _, _, _], _ => rfl) | (match us, hl with | [_, _, _, _, _, _, _, _], _ => rfl) | (match us, hl with | [_, _, _, _, _, _, _, _, _], _ => rfl))⟩

/-! Earliest.is_never_later -/
def N_Earliest_is_never_later : List Str := ["self", "other", "shifts", "moment"]
theorem sc_Earliest_is_never_later : FnScope N_Earliest_is_never_later ["self", "other"] (defScope m_Earliest_is_never_later) := ⟨rfl, rfl, rfl, by decide +kernel, rfl, by decide +kernel, by decide +kernel⟩
noncomputable def D_Earliest_is_never_later (P : Program) (w : World) (K : PySem.W.Frag) : FF := fDef 2 4 (sSeq (sSet 2 (fMeth (ga K "Earliest") "shifts" (D_Earliest_shifts P w K) (fVar 1) fNil))
      (sRet (fCall (fBls fun bs => bs.all id) (fCons (fLc (iAny (fVar 2)) (tgName 3) fYes (fAndV (fOp (gIn false) (fVar 3) (fFld (ga K "Earliest") "_shifts" (fVar 0))) (fOp gLe (fOp gIx (fFld (ga K "Earliest") "_shifts" (fVar 0)) (fVar 3)) (fOp gIx (fVar 2) (fVar 3)))) [3]) fNil))))
theorem fx_Earliest_is_never_later (XI : K.In base) (GN : base.Ns mainGlobals mg) (c : obsK K = val0) {fd : FuncData} {f : Addr} (F : Fun K "is_never_later" "Earliest.is_never_later" m_Earliest_is_never_later f fd) : FnX P w K mg base 2 f fd ["self", "other"] (spP 2 (D_Earliest_is_never_later P w K)) :=
    (Fun.pp F sc_Earliest_is_never_later (fun cdv A fr s H E hG hr => by
      have hu : A.units + 3 + 64 < cLine := hr.units
      exact (pps_cons (ppq_set (i := 2) sc_Earliest_is_never_later.nd rfl (Or.inr rfl) (pp_meth0 (t_Earliest_shifts XI GN c) (cl_Earliest c) hG (hr.mono (by decide)) (takes_of rfl rfl rfl rfl) (pp_v 1)))
      (pps_one (ppq_ret (pp_all rfl rfl (f_all XI GN c) (ppa_cons (pp_lc (own := [("moment", 3)]) (g := (gName 3)) rfl sc_Earliest_is_never_later.nd (ppi_any (pp_v 2)) (blkOk_by (own := [("moment", 3)]) (by kernel_rfl)) (fun _ _ _ _ _ => (pg_name (i := 3) sc_Earliest_is_never_later.nd rfl (by first | exact Or.inl rfl | exact Or.inr rfl))) (ad_gName (i := 3) (by intro l e; cases e <;> decide)) (fun _ _ _ _ _ => ppts_nil) (fun _ _ _ _ _ => (pp_and (pp_in (Nat.lt_of_le_of_lt (Nat.add_le_add_left (by decide) _) hu) (pp_v 3) (pp_fld (cl_Earliest c) (na_Earliest__shifts c) (pp_v 0))) (pp_one (pp_le (pp_idx (Nat.lt_of_le_of_lt (Nat.add_le_add_left (by decide) _) hu) (pp_fld (cl_Earliest c) (na_Earliest__shifts c) (pp_v 0)) (pp_v 3)) (pp_idx (Nat.lt_of_le_of_lt (Nat.add_le_add_left (by decide) _) hu) (pp_v 2) (pp_v 3))))))) ppa_nil)))))))
theorem t_Earliest_is_never_later (XI : K.In base) (GN : base.Ns mainGlobals mg) (c : obsK K = val0) : DM P w K mg base (ga K "Earliest") "is_never_later" 2 2 (D_Earliest_is_never_later P w K) := by
  obtain ⟨fd, F⟩ := F_Earliest_is_never_later c
  exact ⟨_, fd, _, rfl, (fx_Earliest_is_never_later XI GN c F), metB_ok (bMet_Earliest_is_never_later c), F.binds (by intro _ _ _ _ _ _ us hl; first | (match us, hl with | [_], _ => rfl) | (match us, hl with | [_, _], _ => rfl) | (match us, hl with | [_, _, _], _ => rfl) | (match us, hl with | [_, _, _, _], _ => rfl) | (match us, hl with | [_, _, _, _, _], _ => rfl) | (match us, hl with | [_, _, _, _, _, _], _ => rfl) | (match us, hl with | [_, _, _, _, _, _, _], _ => rfl) | (match us, hl with | [_, _, _, _, _, _, _, _], _ => rfl) | (match us, hl with | [_, _, _, _, _, _, _, _, _], _ => rfl))⟩
theorem tk_Earliest_is_never_later (XI : K.In base) (GN : base.Ns mainGlobals mg) (c : obsK K = val0) : DMk P w K mg base (ga K "Earliest") "is_never_later" ["other"] 2 (D_Earliest_is_never_later P w K) := by
  obtain ⟨fd, F⟩ := F_Earliest_is_never_later c
  refine ⟨_, fd, _, (fx_Earliest_is_never_later XI GN c F), metB_ok (bMet_Earliest_is_never_later c), kb_one F 1 ["other"] _ _ (fun r1 r2 => r1.append r2) fun kV doc pm an cdv ct us ws l1 l2 => ?_⟩
  match us, ws, l1, l2 with
  | [_], [_], _, _ => rfl

/-! Earliest.__eq__ -/
def N_Earliest___eq__ : List Str := ["self", "other"]
theorem sc_Earliest___eq__ : FnScope N_Earliest___eq__ ["self", "other"] (defScope m_Earliest___eq__) := ⟨rfl, rfl, rfl, by decide +kernel, rfl, by decide +kernel, by decide +kernel⟩
noncomputable def D_Earliest___eq__ (P : Program) (w : World) (K : PySem.W.Frag) : FF := fDef 2 2 (sRet (fAndV (fCall (fIsi [(ga K "Earliest")]) (fCons (fVar 1) (fCons (fC (.ref (ga K "Earliest"))) fNil))) (fOp gEq (fFld (ga K "Earliest") "_shifts" (fVar 0)) (fFld (ga K "Earliest") "_shifts" (fVar 1)))))
theorem fx_Earliest___eq__ (XI : K.In base) (GN : base.Ns mainGlobals mg) (c : obsK K = val0) {fd : FuncData} {f : Addr} (F : Fun K "__eq__" "Earliest.__eq__" m_Earliest___eq__ f fd) : FnX P w K mg base 1 f fd ["self", "other"] (spP 2 (D_Earliest___eq__ P w K)) :=
    (Fun.pp F sc_Earliest___eq__ (fun cdv A fr s H E hG hr => by
      have hu : A.units + 3 + 64 < cLine := hr.units
      exact (pps_one (ppq_ret (pp_and (pp_isi (ow c) rfl (f_isinstance XI GN c) (ppa_cons (pp_v 1) (ppa_cons (pp_gcls rfl (g_Earliest XI GN c)) ppa_nil))) (pp_one (pp_eq hu (pp_fld (cl_Earliest c) (na_Earliest__shifts c) (pp_v 0)) (pp_fld (cl_Earliest c) (na_Earliest__shifts c) (pp_v 1)))))))))
theorem t_Earliest___eq__ (XI : K.In base) (GN : base.Ns mainGlobals mg) (c : obsK K = val0) : DS P w K mg base (ga K "Earliest") "__eq__" 2 1 (D_Earliest___eq__ P w K) := by
  obtain ⟨fd, F⟩ := F_Earliest___eq__ c
  exact ⟨_, fd, _, rfl, (fx_Earliest___eq__ XI GN c F), mB_ok (bSp_Earliest___eq__ c), F.binds (by intro _ _ _ _ _ _ us hl; first | (match us, hl with | [_], _ => rfl) | (match us, hl with | [_, _], _ => rfl) | (match us, hl with | [_, _, _], _ => rfl) | (match us, hl with | [_, _, _, _], _ => rfl) | (match us, hl with | [_, _, _, _, _], _ => rfl) | (match us, hl with | [_, _, _, _, _, _], _ => rfl) | (match us, hl with | [_, _, _, _, _, _, _], _ => rfl) | (match us, hl with | [_, _, _, _, _, _, _, _], _ => rfl) | (match us, hl with | [_, _, _, _, _, _, _, _, _], _ => rfl))⟩
end
end Pu

set_option Elab.async false
set_option linter.all false
set_option maxRecDepth 100000
set_option maxHeartbeats 8000000
namespace Pu
open L2 PySem PySem.Spec PyProof.Rows E10
open He (ga ma)
section
variable {P : Program} {w : World} {K : PySem.W.Frag} {mg : Str → Option Value} {base : Heap}
/-! _law_pot -/
def N__law_pot : List Str := ["_law_script", "_law_k", "_law_cell"]
theorem sc__law_pot : FnScope N__law_pot ["_law_script", "_law_k"] (defScope s__law_pot) := ⟨rfl, rfl, rfl, by decide +kernel, rfl, by decide +kernel, by decide +kernel⟩
noncomputable def D__law_pot (P : Program) (w : World) (K : PySem.W.Frag) : FF := fDef 2 3 (sSeq (sSet 2 (fOp gAdd (fOp gMul (fC (.int 71)) (fVar 1)) (fC (.int 23))))
      (sSeq (sIfS (fTest (fOp gLt (fVar 1) (fCall gLen (fCons (fVar 0) fNil)))) (sSet 2 (fCall fAbs (fCons (fOp gIx (fVar 0) (fVar 1)) fNil))) sNext)
      (sRet (fLstC (fCons (fCall gMax (fCons (fC (.int 0)) (fCons (fOp fSub (fVar 2) (fOp fPow (fC (.int 10)) (fC (.int 18)))) fNil))) (fCons (fOp gAdd (fOp fMod (fCall fInt (fCons (fOp gAdd (fOp gAdd (fOp gMul (fOp fMod (fCall fInt (fCons (fVar 2) fNil)) (fC (.int 2147483563))) (fC (.int 37991))) (fOp gMul (fC (.int 17011)) (fVar 1))) (fC (.int 59))) fNil)) (fC (.int 2147483629))) (fC (.int 1))) fNil))))))
theorem fx__law_pot (XI : K.In base) (GN : base.Ns mainGlobals mg) (c : obsK K = val0) {fd : FuncData} {f : Addr} (F : Fun K "_law_pot" "_law_pot" s__law_pot f fd) : FnX P w K mg base 1 f fd ["_law_script", "_law_k"] (spP 2 (D__law_pot P w K)) :=
    (Fun.pp F sc__law_pot (fun cdv A fr s H E hG hr => by
      have hu : A.units + 3 + 64 < cLine := hr.units
      exact (pps_cons (ppq_set (i := 2) sc__law_pot.nd rfl (Or.inl rfl) (pp_add (pp_mul pp_int (pp_v 1)) pp_int))
      (pps_cons (ppq_if (pt_lt (pp_v 1) (pp_len' rfl (f_len XI GN c) (ppa_cons (pp_v 0) ppa_nil))) (pps_one (ppq_set (i := 2) sc__law_pot.nd rfl (Or.inl rfl) (pp_abs rfl (f_abs XI GN c) (ppa_cons (pp_idx (Nat.lt_of_le_of_lt (Nat.add_le_add_left (by decide) _) hu) (pp_v 0) (pp_v 1)) ppa_nil)))) pps_nil)
      (pps_one (ppq_ret (pp_lstC (ppa_cons (pp_max rfl rfl (f_max XI GN c) (ppa_cons pp_int (ppa_cons (pp_sub (pp_v 2) (pp_pow pp_int pp_int)) ppa_nil))) (ppa_cons (pp_add (pp_mod (pp_intc rfl (f_int XI GN c) (ppa_cons (pp_add (pp_add (pp_mul (pp_mod (pp_intc rfl (f_int XI GN c) (ppa_cons (pp_v 2) ppa_nil)) pp_int) pp_int) (pp_mul pp_int (pp_v 1))) pp_int) ppa_nil)) pp_int) pp_int) ppa_nil)))))))))
theorem t__law_pot (XI : K.In base) (GN : base.Ns mainGlobals mg) (c : obsK K = val0) : DP P w K mg base "_law_pot" 2 1 (D__law_pot P w K) := by
  obtain ⟨fd, F⟩ := F__law_pot c
  exact ⟨_, fd, _, rfl, (fx__law_pot XI GN c F), g__law_pot XI GN c, F.kp, F.binds (by intro _ _ _ _ _ _ us hl; first | (match us, hl with | [_], _ => rfl) | (match us, hl with | [_, _], _ => rfl) | (match us, hl with | [_, _, _], _ => rfl) | (match us, hl with | [_, _, _, _], _ => rfl) | (match us, hl with | [_, _, _, _, _], _ => rfl) | (match us, hl with | [_, _, _, _, _, _], _ => rfl) | (match us, hl with | [_, _, _, _, _, _, _], _ => rfl) | (match us, hl with | [_, _, _, _, _, _, _, _], _ => rfl) | (match us, hl with | [_, _, _, _, _, _, _, _, _], _ => rfl))⟩

/-! _law_draw -/
def N__law_draw : List Str := ["_law_pot_here", "_law_many", "_law_digit"]
theorem sc__law_draw : FnScope N__law_draw ["_law_pot_here", "_law_many"] (defScope s__law_draw) := ⟨rfl, rfl, rfl, by decide +kernel, rfl, by decide +kernel, by decide +kernel⟩
noncomputable def D__law_draw (P : Program) (w : World) (K : PySem.W.Frag) : FF := fDef 2 3 (sSeq (sIfS (fTest (fOp gGt (fOp gIx (fVar 0) (fC (.int 0))) (fC (.int 0)))) (sSeq (sSubName 2 (fCall fDivmod (fCons (fOp gIx (fVar 0) (fC (.int 0))) (fCons (fVar 1) fNil))) (fVar 0) (fC (.int 0)))
        (sRet (fVar 2))) sNext)
      (sSeq (sLPutP (fOp fMod (fCall fInt (fCons (fOp gAdd (fOp gMul (fOp gIx (fVar 0) (fC (.int 1))) (fC (.int 41999))) (fC (.int 28001))) fNil)) (fC (.int 2147483629))) (fVar 0) (fC (.int 1)))
      (sRet (fOp fMod (fCall fInt (fCons (fOp fDiv (fOp fMod (fCall fInt (fCons (fOp gMul (fOp gIx (fVar 0) (fC (.int 1))) (fOp gIx (fVar 0) (fC (.int 1)))) fNil)) (fC (.int 2147483563))) (fC (.int 19))) fNil)) (fVar 1)))))
theorem fx__law_draw (XI : K.In base) (GN : base.Ns mainGlobals mg) (c : obsK K = val0) {fd : FuncData} {f : Addr} (F : Fun K "_law_draw" "_law_draw" s__law_draw f fd) : FnX P w K mg base 1 f fd ["_law_pot_here", "_law_many"] (spP 2 (D__law_draw P w K)) :=
    (Fun.pp F sc__law_draw (fun cdv A fr s H E hG hr => by
      have hu : A.units + 3 + 64 < cLine := hr.units
      exact (pps_cons (ppq_if (pt_gt (pp_idx (Nat.lt_of_le_of_lt (Nat.add_le_add_left (by decide) _) hu) (pp_v 0) pp_int) pp_int) (pps_cons (ppq_subName (i := 2) (pp_divmod rfl (f_divmod XI GN c) (ppa_cons (pp_idx (Nat.lt_of_le_of_lt (Nat.add_le_add_left (by decide) _) hu) (pp_v 0) pp_int) (ppa_cons (pp_v 1) ppa_nil))) (pp_v 0) pp_int rfl sc__law_draw.nd rfl (Or.inl rfl))
        (pps_one (ppq_ret (pp_v 2)))) pps_nil)
      (pps_cons (ppq_lput (pp_mod (pp_intc rfl (f_int XI GN c) (ppa_cons (pp_add (pp_mul (pp_idx (Nat.lt_of_le_of_lt (Nat.add_le_add_left (by decide) _) hu) (pp_v 0) pp_int) pp_int) pp_int) ppa_nil)) pp_int) (pp_v 0) pp_int)
      (pps_one (ppq_ret (pp_mod (pp_intc rfl (f_int XI GN c) (ppa_cons (pp_div (pp_mod (pp_intc rfl (f_int XI GN c) (ppa_cons (pp_mul (pp_idx (Nat.lt_of_le_of_lt (Nat.add_le_add_left (by decide) _) hu) (pp_v 0) pp_int) (pp_idx (Nat.lt_of_le_of_lt (Nat.add_le_add_left (by decide) _) hu) (pp_v 0) pp_int)) ppa_nil)) pp_int) pp_int) ppa_nil)) (pp_v 1))))))))
theorem t__law_draw (XI : K.In base) (GN : base.Ns mainGlobals mg) (c : obsK K = val0) : DP P w K mg base "_law_draw" 2 1 (D__law_draw P w K) := by
  obtain ⟨fd, F⟩ := F__law_draw c
  exact ⟨_, fd, _, rfl, (fx__law_draw XI GN c F), g__law_draw XI GN c, F.kp, F.binds (by intro _ _ _ _ _ _ us hl; first | (match us, hl with | [_], _ => rfl) | (match us, hl with | [_, _], _ => rfl) | (match us, hl with | [_, _, _], _ => rfl) | (match us, hl with | [_, _, _, _], _ => rfl) | (match us, hl with | [_, _, _, _, _], _ => rfl) | (match us, hl with | [_, _, _, _, _, _], _ => rfl) | (match us, hl with | [_, _, _, _, _, _, _], _ => rfl) | (match us, hl with | [_, _, _, _, _, _, _, _], _ => rfl) | (match us, hl with | [_, _, _, _, _, _, _, _, _], _ => rfl))⟩

/-! _law_choice -/
def N__law_choice : List Str := ["_law_pot_here", "_law_some"]
theorem sc__law_choice : FnScope N__law_choice ["_law_pot_here", "_law_some"] (defScope s__law_choice) := ⟨rfl, rfl, rfl, by decide +kernel, rfl, by decide +kernel, by decide +kernel⟩
noncomputable def D__law_choice (P : Program) (w : World) (K : PySem.W.Frag) : FF := fDef 2 2 (sRet (fOp gIx (fVar 1) (fCall (D__law_draw P w K) (fCons (fVar 0) (fCons (fCall gLen (fCons (fVar 1) fNil)) fNil)))))
theorem fx__law_choice (XI : K.In base) (GN : base.Ns mainGlobals mg) (c : obsK K = val0) {fd : FuncData} {f : Addr} (F : Fun K "_law_choice" "_law_choice" s__law_choice f fd) : FnX P w K mg base 2 f fd ["_law_pot_here", "_law_some"] (spP 2 (D__law_choice P w K)) :=
    (Fun.pp F sc__law_choice (fun cdv A fr s H E hG hr => by
      have hu : A.units + 3 + 64 < cLine := hr.units
      exact (pps_one (ppq_ret (pp_idx (Nat.lt_of_le_of_lt (Nat.add_le_add_left (by decide) _) hu) (pp_v 1) (pp_call (t__law_draw XI GN c) hG (hr.mono (by decide)) (takes_of rfl rfl rfl rfl) rfl (ppa_cons (pp_v 0) (ppa_cons (pp_len' rfl (f_len XI GN c) (ppa_cons (pp_v 1) ppa_nil)) ppa_nil))))))))
theorem t__law_choice (XI : K.In base) (GN : base.Ns mainGlobals mg) (c : obsK K = val0) : DP P w K mg base "_law_choice" 2 2 (D__law_choice P w K) := by
  obtain ⟨fd, F⟩ := F__law_choice c
  exact ⟨_, fd, _, rfl, (fx__law_choice XI GN c F), g__law_choice XI GN c, F.kp, F.binds (by intro _ _ _ _ _ _ us hl; first | (match us, hl with | [_], _ => rfl) | (match us, hl with | [_, _], _ => rfl) | (match us, hl with | [_, _, _], _ => rfl) | (match us, hl with | [_, _, _, _], _ => rfl) | (match us, hl with | [_, _, _, _, _], _ => rfl) | (match us, hl with | [_, _, _, _, _, _], _ => rfl) | (match us, hl with | [_, _, _, _, _, _, _], _ => rfl) | (match us, hl with | [_, _, _, _, _, _, _, _], _ => rfl) | (match us, hl with | [_, _, _, _, _, _, _, _, _], _ => rfl))⟩

/-! _law_names -/
def N__law_names : List Str := ["_law_pot_here", "_law_many", "_law_letters", "_law_found", "_law_k", "_law_size", "_law_word", "_law_some", "_law_turn", "_law_letter", "_law_name"]
theorem sc__law_names : FnScope N__law_names ["_law_pot_here", "_law_many"] (defScope s__law_names) := ⟨rfl, rfl, rfl, by decide +kernel, rfl, by decide +kernel, by decide +kernel⟩
noncomputable def D__law_names (P : Program) (w : World) (K : PySem.W.Frag) : FF := fDef 2 11 (sSeq (sPar 2 3 (fCons (fC (.str "abcdefghijklmnopqrstuvwxyz")) (fCons (fLstC fNil) fNil)))
      (sSeq (sFor (iRg1 (fCons (fVar 1) fNil)) (tgName 4) (sSeq (sSet 5 (fCall (D__law_choice P w K) (fCons (fVar 0) (fCons (fSeq .lst (fCons (fC (.int 1)) (fCons (fC (.int 1)) (fCons (fC (.int 2)) (fCons (fC (.int 3)) (fCons (fC (.int 8)) fNil)))))) fNil))))
        (sSeq (sSet 6 (fJoin (fC (.str "")) (fLc (iRg1 (fCons (fVar 5) fNil)) (tgName 8) fYes (fCall (D__law_choice P w K) (fCons (fVar 0) (fCons (fVar 2) fNil))) [8])))
        (sSeq (sSet 7 (fOp gAdd (fSeq .lst (fCons (fVar 6) fNil)) (fLc (iAny (fVar 2)) (tgName 9) fYes (fOp gAdd (fOp gAdd (fSl gSl (fVar 6) oNone (oSome (fC (.int 6)))) (fVar 9)) (fC (.str "q"))) [9])))
        (sDrop (fBM "list" mAppend (fVar 3) (fCons (fOp gIx (fLc (iAny (fVar 7)) (tgName 10) (fTest (fOp (gIn true) (fVar 10) (fVar 3))) (fVar 10) [10]) (fC (.int 0))) fNil)))))))
      (sRet (fVar 3))))
theorem fx__law_names (XI : K.In base) (GN : base.Ns mainGlobals mg) (c : obsK K = val0) {fd : FuncData} {f : Addr} (F : Fun K "_law_names" "_law_names" s__law_names f fd) : FnX P w K mg base 3 f fd ["_law_pot_here", "_law_many"] (spP 2 (D__law_names P w K)) :=
    (Fun.pp F sc__law_names (fun cdv A fr s H E hG hr => by
      have hu : A.units + 3 + 64 < cLine := hr.units
      exact (pps_cons (ppq_parT (i := 2) (j := 3) rfl sc__law_names.nd rfl rfl (by first | exact Or.inl rfl | exact Or.inr rfl) (by first | exact Or.inl rfl | exact Or.inr rfl) (by first | exact Or.inl rfl | exact Or.inr rfl) (by first | exact Or.inl rfl | exact Or.inr rfl) (ppa_cons pp_str (ppa_cons (pp_lstC ppa_nil) ppa_nil)))
      (pps_cons (ppq_for (g := (gName 4)) (passes_of rfl) rfl (ppi_range1 rfl (f_range XI GN c) (ppa_cons (pp_v 1) ppa_nil)) (pg_name (i := 4) sc__law_names.nd rfl (Or.inl rfl)) (ad_gName (i := 4) (by intro l e; cases e <;> decide))
        (pps_cons (ppq_set (i := 5) sc__law_names.nd rfl (Or.inl rfl) (pp_call (t__law_choice XI GN c) hG (hr.mono (by decide)) (takes_of rfl rfl rfl rfl) rfl (ppa_cons (pp_v 0) (ppa_cons (pp_lst (ppa_cons pp_int (ppa_cons pp_int (ppa_cons pp_int (ppa_cons pp_int (ppa_cons pp_int ppa_nil)))))) ppa_nil))))
        (pps_cons (ppq_set (i := 6) sc__law_names.nd rfl (Or.inr rfl) (pp_join pp_str (pp_lc (own := [("_law_turn", 8)]) (g := (gName 8)) rfl sc__law_names.nd (ppi_range1 rfl (f_range XI GN c) (ppa_cons (pp_v 5) ppa_nil)) (blkOk_by (own := [("_law_turn", 8)]) (by kernel_rfl)) (fun _ _ _ _ _ => (pg_name (i := 8) sc__law_names.nd rfl (by first | exact Or.inl rfl | exact Or.inr rfl))) (ad_gName (i := 8) (by intro l e; cases e <;> decide)) (fun _ _ _ _ _ => ppts_nil) (fun _ _ _ _ _ => (pp_call (t__law_choice XI GN c) hG (hr.mono (by decide)) takes0 rfl (ppa_cons (pp_v 0) (ppa_cons (pp_v 2) ppa_nil)))))))
        (pps_cons (ppq_set (i := 7) sc__law_names.nd rfl (Or.inl rfl) (pp_add (pp_lst (ppa_cons (pp_v 6) ppa_nil)) (pp_lc (own := [("_law_letter", 9)]) (g := (gName 9)) rfl sc__law_names.nd (ppi_any (pp_v 2)) (blkOk_by (own := [("_law_letter", 9)]) (by kernel_rfl)) (fun _ _ _ _ _ => (pg_name (i := 9) sc__law_names.nd rfl (by first | exact Or.inl rfl | exact Or.inr rfl))) (ad_gName (i := 9) (by intro l e; cases e <;> decide)) (fun _ _ _ _ _ => ppts_nil) (fun _ _ _ _ _ => (pp_add (pp_add (pp_sl (pp_v 6) ppo_none (ppo_some pp_int)) (pp_v 9)) pp_str)))))
        (pps_one (ppq_expr (pp_append (pp_v 3) (pp_idx (Nat.lt_of_le_of_lt (Nat.add_le_add_left (by decide) _) hu) (pp_lc (own := [("_law_name", 10)]) (g := (gName 10)) rfl sc__law_names.nd (ppi_any (pp_v 7)) (blkOk_by (own := [("_law_name", 10)]) (by kernel_rfl)) (fun _ _ _ _ _ => (pg_name (i := 10) sc__law_names.nd rfl (by first | exact Or.inl rfl | exact Or.inr rfl))) (ad_gName (i := 10) (by intro l e; cases e <;> decide)) (fun _ _ _ _ _ => (ppts_one (pt_notIn (Nat.lt_of_le_of_lt (Nat.add_le_add_left (by decide) _) hu) (pp_v 10) (pp_v 3)))) (fun _ _ _ _ _ => (pp_v 10))) pp_int))))))))
      (pps_one (ppq_ret (pp_v 3)))))))
theorem t__law_names (XI : K.In base) (GN : base.Ns mainGlobals mg) (c : obsK K = val0) : DP P w K mg base "_law_names" 2 3 (D__law_names P w K) := by
  obtain ⟨fd, F⟩ := F__law_names c
  exact ⟨_, fd, _, rfl, (fx__law_names XI GN c F), g__law_names XI GN c, F.kp, F.binds (by intro _ _ _ _ _ _ us hl; first | (match us, hl with | [_], _ => rfl) | (match us, hl with | [_, _], _ => rfl) | (match us, hl with | [_, _, _], _ => rfl) | (match us, hl with | [_, _, _, _], _ => rfl) | (match us, hl with | [_, _, _, _, _], _ => rfl) | (match us, hl with | [_, _, _, _, _, _], _ => rfl) | (match us, hl with | [_, _, _, _, _, _, _], _ => rfl) | (match us, hl with | [_, _, _, _, _, _, _, _], _ => rfl) | (match us, hl with | [_, _, _, _, _, _, _, _, _], _ => rfl))⟩

/-! _law_number -/
def N__law_number : List Str := ["_law_pot_here", "_law_way", "_law_small", "_law_great"]
theorem sc__law_number : FnScope N__law_number ["_law_pot_here"] (defScope s__law_number) := ⟨rfl, rfl, rfl, by decide +kernel, rfl, by decide +kernel, by decide +kernel⟩
noncomputable def D__law_number (P : Program) (w : World) (K : PySem.W.Frag) : FF := fDef 1 4 (sSeq (sPar 1 2 (fCons (fCall (D__law_draw P w K) (fCons (fVar 0) (fCons (fC (.int 5)) fNil))) (fCons (fOp fSub (fCall (D__law_draw P w K) (fCons (fVar 0) (fCons (fC (.int 9)) fNil))) (fC (.int 4))) fNil)))
      (sSeq (sIfS (fTest (fOp gLt (fVar 1) (fC (.int 3)))) (sRet (fOp gIx (fSeq .lst (fCons (fC (.int 0)) (fCons (fVar 2) (fCons (fVar 2) fNil)))) (fVar 1))) sNext)
      (sSeq (sSet 3 (fOp gAdd (fOp gMul (fCall (D__law_draw P w K) (fCons (fVar 0) (fCons (fOp fPow (fC (.int 10)) (fC (.int 6))) fNil))) (fOp fPow (fC (.int 10)) (fC (.int 44)))) (fCall (D__law_draw P w K) (fCons (fVar 0) (fCons (fOp fPow (fC (.int 10)) (fC (.int 6))) fNil)))))
      (sRet (fIf (fTest (fOp gEq (fVar 1) (fC (.int 3)))) (fVar 3) (fUn fNeg (fVar 3)))))))
theorem fx__law_number (XI : K.In base) (GN : base.Ns mainGlobals mg) (c : obsK K = val0) {fd : FuncData} {f : Addr} (F : Fun K "_law_number" "_law_number" s__law_number f fd) : FnX P w K mg base 2 f fd ["_law_pot_here"] (spP 1 (D__law_number P w K)) :=
    (Fun.pp F sc__law_number (fun cdv A fr s H E hG hr => by
      have hu : A.units + 3 + 64 < cLine := hr.units
      exact (pps_cons (ppq_par (i := 1) (j := 2) (by rfl) sc__law_number.nd rfl rfl (by decide) rfl rfl (ppa_cons (pp_call (t__law_draw XI GN c) hG (hr.mono (by decide)) (takes_of rfl rfl rfl rfl) rfl (ppa_cons (pp_v 0) (ppa_cons pp_int ppa_nil))) (ppa_cons (pp_sub (pp_call (t__law_draw XI GN c) hG (hr.mono (by decide)) (takes_of rfl rfl rfl rfl) rfl (ppa_cons (pp_v 0) (ppa_cons pp_int ppa_nil))) pp_int) ppa_nil)) (by rfl))
      (pps_cons (ppq_if (pt_lt (pp_v 1) pp_int) (pps_one (ppq_ret (pp_idx (Nat.lt_of_le_of_lt (Nat.add_le_add_left (by decide) _) hu) (pp_lst (ppa_cons pp_int (ppa_cons (pp_v 2) (ppa_cons (pp_v 2) ppa_nil)))) (pp_v 1)))) pps_nil)
      (pps_cons (ppq_set (i := 3) sc__law_number.nd rfl (Or.inl rfl) (pp_add (pp_mul (pp_call (t__law_draw XI GN c) hG (hr.mono (by decide)) (takes_of rfl rfl rfl rfl) rfl (ppa_cons (pp_v 0) (ppa_cons (pp_pow pp_int pp_int) ppa_nil))) (pp_pow pp_int pp_int)) (pp_call (t__law_draw XI GN c) hG (hr.mono (by decide)) (takes_of rfl rfl rfl rfl) rfl (ppa_cons (pp_v 0) (ppa_cons (pp_pow pp_int pp_int) ppa_nil)))))
      (pps_one (ppq_ret (pp_if (pt_eq hu (pp_v 1) pp_int) (pp_v 3) (pp_neg (pp_v 3))))))))))
theorem t__law_number (XI : K.In base) (GN : base.Ns mainGlobals mg) (c : obsK K = val0) : DP P w K mg base "_law_number" 1 2 (D__law_number P w K) := by
  obtain ⟨fd, F⟩ := F__law_number c
  exact ⟨_, fd, _, rfl, (fx__law_number XI GN c F), g__law_number XI GN c, F.kp, F.binds (by intro _ _ _ _ _ _ us hl; first | (match us, hl with | [_], _ => rfl) | (match us, hl with | [_, _], _ => rfl) | (match us, hl with | [_, _, _], _ => rfl) | (match us, hl with | [_, _, _, _], _ => rfl) | (match us, hl with | [_, _, _, _, _], _ => rfl) | (match us, hl with | [_, _, _, _, _, _], _ => rfl) | (match us, hl with | [_, _, _, _, _, _, _], _ => rfl) | (match us, hl with | [_, _, _, _, _, _, _, _], _ => rfl) | (match us, hl with | [_, _, _, _, _, _, _, _, _], _ => rfl))⟩

/-! _law_changed -/
def N__law_changed : List Str := ["_law_pot_here", "_law_shifts", "_law_names_here", "_law_found", "_law_name", "_law_shift", "_law_way"]
theorem sc__law_changed : FnScope N__law_changed ["_law_pot_here", "_law_shifts", "_law_names_here"] (defScope s__law_changed) := ⟨rfl, rfl, rfl, by decide +kernel, rfl, by decide +kernel, by decide +kernel⟩
noncomputable def D__law_changed (P : Program) (w : World) (K : PySem.W.Frag) : FF := fDef 3 7 (sSeq (sSet 3 (fun _ μ => mkD .cell [] μ))
      (sSeq (sFor (iItemsP (fVar 1)) (tgTup 2 (tgCons (tgName 4) (tgCons (tgName 5) tgNil))) (sSeq (sSet 6 (fCall (D__law_draw P w K) (fCons (fVar 0) (fCons (fC (.int 6)) fNil))))
        (sIfS (fTest (fOp gGt (fVar 6) (fC (.int 0)))) (sDPutP (fVar 3) (fVar 4) (fOp gAdd (fVar 5) (fOp gIx (fSeq .lst (fCons (fC (.int 0)) (fCons (fC (.int 0)) (fCons (fC (.int 0)) (fCons (fC (.int 1)) (fCons (fUn fNeg (fC (.int 1))) (fCons (fOp fPow (fC (.int 10)) (fC (.int 40))) fNil))))))) (fVar 6)))) sNext)))
      (sSeq (sFor (iAny (fVar 2)) (tgName 4) (sIfS (fAndT (fTest (fOp (gIn true) (fVar 4) (fVar 1))) (fTest (fOp gEq (fCall (D__law_draw P w K) (fCons (fVar 0) (fCons (fC (.int 5)) fNil))) (fC (.int 0))))) (sDPutP (fVar 3) (fVar 4) (fCall (D__law_number P w K) (fCons (fVar 0) fNil))) sNext))
      (sRet (fIf (fTest (fOp gNe (fVar 3) (fun _ μ => mkD .val [] μ))) (fVar 3) (fCall (gDict .cell) (fCons (fVar 1) fNil)))))))
theorem fx__law_changed (XI : K.In base) (GN : base.Ns mainGlobals mg) (c : obsK K = val0) {fd : FuncData} {f : Addr} (F : Fun K "_law_changed" "_law_changed" s__law_changed f fd) : FnX P w K mg base 3 f fd ["_law_pot_here", "_law_shifts", "_law_names_here"] (spP 3 (D__law_changed P w K)) :=
    (Fun.pp F sc__law_changed (fun cdv A fr s H E hG hr => by
      have hu : A.units + 3 + 64 < cLine := hr.units
      exact (pps_cons (ppq_set (i := 3) sc__law_changed.nd rfl (Or.inl rfl) (pp_dnew .cell))
      (pps_cons (ppq_for (g := (gTup K 2 (gCons (gName 4) (gCons (gName 5) gNil)))) (passes_of rfl) rfl (ppi_items (pp_v 1)) (pg_tup rfl (pgs_cons (pg_name (i := 4) sc__law_changed.nd rfl (Or.inl rfl)) (pgs_cons (pg_name (i := 5) sc__law_changed.nd rfl (Or.inl rfl)) pgs_nil))) (ad_gTup (ad_gCons (ad_gName (i := 4) (by intro l e; cases e <;> decide)) (ad_gCons (ad_gName (i := 5) (by intro l e; cases e <;> decide)) ad_gNil)))
        (pps_cons (ppq_set (i := 6) sc__law_changed.nd rfl (Or.inl rfl) (pp_call (t__law_draw XI GN c) hG (hr.mono (by decide)) (takes_of rfl rfl rfl rfl) rfl (ppa_cons (pp_v 0) (ppa_cons pp_int ppa_nil))))
        (pps_one (ppq_if (pt_gt (pp_v 6) pp_int) (pps_one (ppq_dput (Nat.lt_of_le_of_lt (Nat.add_le_add_left (by decide) _) hu) (pp_v 3) (pp_v 4) (pp_add (pp_v 5) (pp_idx (Nat.lt_of_le_of_lt (Nat.add_le_add_left (by decide) _) hu) (pp_lst (ppa_cons pp_int (ppa_cons pp_int (ppa_cons pp_int (ppa_cons pp_int (ppa_cons (pp_neg pp_int) (ppa_cons (pp_pow pp_int pp_int) ppa_nil))))))) (pp_v 6))))) pps_nil))))
      (pps_cons (ppq_for (g := (gName 4)) (passes_of rfl) rfl (ppi_any (pp_v 2)) (pg_name (i := 4) sc__law_changed.nd rfl (Or.inl rfl)) (ad_gName (i := 4) (by intro l e; cases e <;> decide))
        (pps_one (ppq_if (PPW.pt (ptw_and (pt_notIn (Nat.lt_of_le_of_lt (Nat.add_le_add_left (by decide) _) hu) (pp_v 4) (pp_v 1)) (ptw_and1 (pt_eq hu (pp_call (t__law_draw XI GN c) hG (hr.mono (by decide)) (takes_of rfl rfl rfl rfl) rfl (ppa_cons (pp_v 0) (ppa_cons pp_int ppa_nil))) pp_int)))) (pps_one (ppq_dput (Nat.lt_of_le_of_lt (Nat.add_le_add_left (by decide) _) hu) (pp_v 3) (pp_v 4) (pp_call (t__law_number XI GN c) hG (hr.mono (by decide)) (takes_of rfl rfl rfl rfl) rfl (ppa_cons (pp_v 0) ppa_nil)))) pps_nil)))
      (pps_one (ppq_ret (pp_if (pt_ne hu (pp_v 3) (pp_dnew .val)) (pp_v 3) (pp_dict .cell rfl rfl (f_dict XI GN c) (ppa_cons (pp_v 1) ppa_nil))))))))))
theorem t__law_changed (XI : K.In base) (GN : base.Ns mainGlobals mg) (c : obsK K = val0) : DP P w K mg base "_law_changed" 3 3 (D__law_changed P w K) := by
  obtain ⟨fd, F⟩ := F__law_changed c
  exact ⟨_, fd, _, rfl, (fx__law_changed XI GN c F), g__law_changed XI GN c, F.kp, F.binds (by intro _ _ _ _ _ _ us hl; first | (match us, hl with | [_], _ => rfl) | (match us, hl with | [_, _], _ => rfl) | (match us, hl with | [_, _, _], _ => rfl) | (match us, hl with | [_, _, _, _], _ => rfl) | (match us, hl with | [_, _, _, _, _], _ => rfl) | (match us, hl with | [_, _, _, _, _, _], _ => rfl) | (match us, hl with | [_, _, _, _, _, _, _], _ => rfl) | (match us, hl with | [_, _, _, _, _, _, _, _], _ => rfl) | (match us, hl with | [_, _, _, _, _, _, _, _, _], _ => rfl))⟩

/-! _law_telling -/
def N__law_telling : List Str := ["_law_shifts", "_law_others", "_law_name", "_law_shift"]
theorem sc__law_telling : FnScope N__law_telling ["_law_shifts", "_law_others"] (defScope s__law_telling) := ⟨rfl, rfl, rfl, by decide +kernel, rfl, by decide +kernel, by decide +kernel⟩
noncomputable def D__law_telling (P : Program) (w : World) (K : PySem.W.Frag) : FF := fDef 2 4 (sRet (fLc (iItemsP (fVar 1)) (tgTup 2 (tgCons (tgName 2) (tgCons (tgName 3) tgNil))) (fOrT (fTest (fOp (gIn true) (fVar 2) (fVar 0))) (fTest (fOp gGt (fOp gIx (fVar 0) (fVar 2)) (fVar 3)))) (fVar 2) [2, 3]))
theorem fx__law_telling (XI : K.In base) (GN : base.Ns mainGlobals mg) (c : obsK K = val0) {fd : FuncData} {f : Addr} (F : Fun K "_law_telling" "_law_telling" s__law_telling f fd) : FnX P w K mg base 1 f fd ["_law_shifts", "_law_others"] (spP 2 (D__law_telling P w K)) :=
    (Fun.pp F sc__law_telling (fun cdv A fr s H E hG hr => by
      have hu : A.units + 3 + 64 < cLine := hr.units
      exact (pps_one (ppq_ret (pp_lc (own := [("_law_name", 2), ("_law_shift", 3)]) (g := (gTup K 2 (gCons (gName 2) (gCons (gName 3) gNil)))) rfl sc__law_telling.nd (ppi_items (pp_v 1)) (blkOk_by (own := [("_law_name", 2), ("_law_shift", 3)]) (by kernel_rfl)) (fun _ _ _ _ _ => (pg_tup rfl (pgs_cons (pg_name (i := 2) sc__law_telling.nd rfl (by first | exact Or.inl rfl | exact Or.inr rfl)) (pgs_cons (pg_name (i := 3) sc__law_telling.nd rfl (by first | exact Or.inl rfl | exact Or.inr rfl)) pgs_nil)))) (ad_gTup (ad_gCons (ad_gName (i := 2) (by intro l e; cases e <;> decide)) (ad_gCons (ad_gName (i := 3) (by intro l e; cases e <;> decide)) ad_gNil))) (fun _ _ _ _ _ => (ppts_one (PPW.pt (ptw_or (pt_notIn (Nat.lt_of_le_of_lt (Nat.add_le_add_left (by decide) _) hu) (pp_v 2) (pp_v 0)) (ptw_or1 (pt_gt (pp_idx (Nat.lt_of_le_of_lt (Nat.add_le_add_left (by decide) _) hu) (pp_v 0) (pp_v 2)) (pp_v 3))))))) (fun _ _ _ _ _ => (pp_v 2)))))))
theorem t__law_telling (XI : K.In base) (GN : base.Ns mainGlobals mg) (c : obsK K = val0) : DP P w K mg base "_law_telling" 2 1 (D__law_telling P w K) := by
  obtain ⟨fd, F⟩ := F__law_telling c
  exact ⟨_, fd, _, rfl, (fx__law_telling XI GN c F), g__law_telling XI GN c, F.kp, F.binds (by intro _ _ _ _ _ _ us hl; first | (match us, hl with | [_], _ => rfl) | (match us, hl with | [_, _], _ => rfl) | (match us, hl with | [_, _, _], _ => rfl) | (match us, hl with | [_, _, _, _], _ => rfl) | (match us, hl with | [_, _, _, _, _], _ => rfl) | (match us, hl with | [_, _, _, _, _, _], _ => rfl) | (match us, hl with | [_, _, _, _, _, _, _], _ => rfl) | (match us, hl with | [_, _, _, _, _, _, _, _], _ => rfl) | (match us, hl with | [_, _, _, _, _, _, _, _, _], _ => rfl))⟩
end
end Pu

set_option Elab.async false
set_option linter.all false
set_option maxRecDepth 100000
set_option maxHeartbeats 8000000
namespace Pu
open L2 PySem PySem.Spec PyProof.Rows E10
open He (ga ma)
section
variable {P : Program} {w : World} {K : PySem.W.Frag} {mg : Str → Option Value} {base : Heap}
/-! _law_early -/
def N__law_early : List Str := ["_law_names_here", "_law_shifts", "_law_others", "_law_early_here", "_law_size", "_law_shift", "_law_name"]
theorem sc__law_early : FnScope N__law_early ["_law_names_here", "_law_shifts", "_law_others", "_law_early_here"] (defScope s__law_early) := ⟨rfl, rfl, rfl, by decide +kernel, rfl, by decide +kernel, by decide +kernel⟩
noncomputable def D__law_early (P : Program) (w : World) (K : PySem.W.Frag) : FF := fDef 4 7 (sSeq (sSet 4 (fCall fSum (fCons (fLc (iAny (fOp gAdd (fListVals (fVar 1)) (fListVals (fVar 2)))) (tgName 5) fYes (fCall fAbs (fCons (fVar 5) fNil)) [5]) fNil)))
      (sRet (fCall (gDict .val) (fCons (fLc (iAny (fVar 0)) (tgName 6) fYes (fSeq .tup (fCons (fVar 6) (fCons (fIf (fTest (fOp gEq (fVar 6) (fVar 3))) (fOp fSub (fOp gMul (fUn fNeg (fC (.int 4))) (fVar 4)) (fC (.int 5))) (fC (.int 0))) fNil))) [6]) fNil))))
theorem fx__law_early (XI : K.In base) (GN : base.Ns mainGlobals mg) (c : obsK K = val0) {fd : FuncData} {f : Addr} (F : Fun K "_law_early" "_law_early" s__law_early f fd) : FnX P w K mg base 1 f fd ["_law_names_here", "_law_shifts", "_law_others", "_law_early_here"] (spP 4 (D__law_early P w K)) :=
    (Fun.pp F sc__law_early (fun cdv A fr s H E hG hr => by
      have hu : A.units + 3 + 64 < cLine := hr.units
      exact (pps_cons (ppq_set (i := 4) sc__law_early.nd rfl (Or.inr rfl) (pp_sum rfl rfl (f_sum XI GN c) (ppa_cons (pp_lc (own := [("_law_shift", 5)]) (g := (gName 5)) rfl sc__law_early.nd (ppi_any (pp_add (pp_listVals rfl rfl (f_list XI GN c) (pp_v 1)) (pp_listVals rfl rfl (f_list XI GN c) (pp_v 2)))) (blkOk_by (own := [("_law_shift", 5)]) (by kernel_rfl)) (fun _ _ _ _ _ => (pg_name (i := 5) sc__law_early.nd rfl (by first | exact Or.inl rfl | exact Or.inr rfl))) (ad_gName (i := 5) (by intro l e; cases e <;> decide)) (fun _ _ _ _ _ => ppts_nil) (fun _ _ _ _ _ => (pp_abs rfl (f_abs XI GN c) (ppa_cons (pp_v 5) ppa_nil)))) ppa_nil)))
      (pps_one (ppq_ret (pp_dict .val rfl rfl (f_dict XI GN c) (ppa_cons (pp_lc (own := [("_law_name", 6)]) (g := (gName 6)) rfl sc__law_early.nd (ppi_any (pp_v 0)) (blkOk_by (own := [("_law_name", 6)]) (by kernel_rfl)) (fun _ _ _ _ _ => (pg_name (i := 6) sc__law_early.nd rfl (by first | exact Or.inl rfl | exact Or.inr rfl))) (ad_gName (i := 6) (by intro l e; cases e <;> decide)) (fun _ _ _ _ _ => ppts_nil) (fun _ _ _ _ _ => (pp_tup (ppa_cons (pp_v 6) (ppa_cons (pp_if (pt_eq hu (pp_v 6) (pp_v 3)) (pp_sub (pp_mul (pp_neg pp_int) (pp_v 4)) pp_int) pp_int) ppa_nil))))) ppa_nil)))))))
theorem t__law_early (XI : K.In base) (GN : base.Ns mainGlobals mg) (c : obsK K = val0) : DP P w K mg base "_law_early" 4 1 (D__law_early P w K) := by
  obtain ⟨fd, F⟩ := F__law_early c
  exact ⟨_, fd, _, rfl, (fx__law_early XI GN c F), g__law_early XI GN c, F.kp, F.binds (by intro _ _ _ _ _ _ us hl; first | (match us, hl with | [_], _ => rfl) | (match us, hl with | [_, _], _ => rfl) | (match us, hl with | [_, _, _], _ => rfl) | (match us, hl with | [_, _, _, _], _ => rfl) | (match us, hl with | [_, _, _, _, _], _ => rfl) | (match us, hl with | [_, _, _, _, _, _], _ => rfl) | (match us, hl with | [_, _, _, _, _, _, _], _ => rfl) | (match us, hl with | [_, _, _, _, _, _, _, _], _ => rfl) | (match us, hl with | [_, _, _, _, _, _, _, _, _], _ => rfl))⟩

/-! _law_pair_right -/
def N__law_pair_right : List Str := ["_law_pot_here", "_law_one", "_law_rival", "_law_shifts", "_law_others", "_law_names_here", "_law_telling_here", "_law_told", "_law_name", "_law_times", "_law_turn"]
theorem sc__law_pair_right : FnScope N__law_pair_right ["_law_pot_here", "_law_one", "_law_rival", "_law_shifts", "_law_others", "_law_names_here"] (defScope s__law_pair_right) := ⟨rfl, rfl, rfl, by decide +kernel, rfl, by decide +kernel, by decide +kernel⟩
noncomputable def D__law_pair_right (P : Program) (w : World) (K : PySem.W.Frag) : FF := fDef 6 11 (sSeq (sSet 6 (fCall (D__law_telling P w K) (fCons (fVar 3) (fCons (fVar 4) fNil))))
      (sSeq (sSet 7 (fSeq .lst (fCons (fMeth (ga K "Earliest") "is_never_later" (D_Earliest_is_never_later P w K) (fVar 1) (fCons (fVar 2) fNil)) (fCons (fMeth (ga K "Earliest") "is_never_later" (D_Earliest_is_never_later P w K) (fVar 1) (fCons (fVar 2) fNil)) fNil))))
      (sSeq (sIfS (fTest (fOp gNe (fCall fRepr (fCons (fVar 7) fNil)) (fCall fRepr (fCons (fOp gMul (fSeq .lst (fCons (fOp gEq (fVar 6) (fSeq .lst fNil)) fNil)) (fC (.int 2))) fNil)))) (sRet (fC (.bl false))) sNext)
      (sSeq (sFor (iAny (fVar 6)) (tgName 8) (sSeq (sSet 9 (fCall (D__law_early P w K) (fCons (fVar 5) (fCons (fVar 3) (fCons (fVar 4) (fCons (fVar 8) fNil))))))
        (sIfS (fTest (fOp gLe (fCallO (ga K "Earliest") (D_Earliest___call__ P w K) (fVar 1) (fCons (fVar 9) fNil)) (fCallO (ga K "Earliest") (D_Earliest___call__ P w K) (fVar 2) (fCons (fVar 9) fNil)))) (sRet (fC (.bl false))) sNext)))
      (sSeq (sFor (iRg1 (fCons (fC (.int 4)) fNil)) (tgName 10) (sSeq (sSet 9 (fCall (gDict .val) (fCons (fLc (iAny (fVar 5)) (tgName 8) fYes (fSeq .tup (fCons (fVar 8) (fCons (fCall (D__law_number P w K) (fCons (fVar 0) fNil)) fNil))) [8]) fNil)))
        (sIfS (fAndT (fTest (fOp gEq (fVar 6) (fSeq .lst fNil))) (fTest (fOp gGt (fCallO (ga K "Earliest") (D_Earliest___call__ P w K) (fVar 1) (fCons (fVar 9) fNil)) (fCallO (ga K "Earliest") (D_Earliest___call__ P w K) (fVar 2) (fCons (fVar 9) fNil))))) (sRet (fC (.bl false))) sNext)))
      (sRet (fC (.bl true))))))))
theorem fx__law_pair_right (XI : K.In base) (GN : base.Ns mainGlobals mg) (c : obsK K = val0) {fd : FuncData} {f : Addr} (F : Fun K "_law_pair_right" "_law_pair_right" s__law_pair_right f fd) : FnX P w K mg base 6 f fd ["_law_pot_here", "_law_one", "_law_rival", "_law_shifts", "_law_others", "_law_names_here"] (spP 6 (D__law_pair_right P w K)) :=
    (Fun.pp F sc__law_pair_right (fun cdv A fr s H E hG hr => by
      have hu : A.units + 3 + 64 < cLine := hr.units
      exact (pps_cons (ppq_set (i := 6) sc__law_pair_right.nd rfl (Or.inl rfl) (pp_call (t__law_telling XI GN c) hG (hr.mono (by decide)) (takes_of rfl rfl rfl rfl) rfl (ppa_cons (pp_v 3) (ppa_cons (pp_v 4) ppa_nil))))
      (pps_cons (ppq_set (i := 7) sc__law_pair_right.nd rfl (Or.inl rfl) (pp_lst (ppa_cons (pp_meth (t_Earliest_is_never_later XI GN c) (cl_Earliest c) hG (hr.mono (by decide)) (takes_of rfl rfl rfl rfl) (pp_v 1) (ppa_cons (pp_v 2) ppa_nil)) (ppa_cons (pp_methKw (tk_Earliest_is_never_later XI GN c) (cl_Earliest c) hG (hr.mono (by decide)) (takes_of rfl rfl rfl rfl) (pp_v 1) (ppk_cons (pp_v 2) ppk_nil)) ppa_nil))))
      (pps_cons (ppq_if (pt_ne hu (pp_repr hG hu rfl (f_repr XI GN c) (ppa_cons (pp_v 7) ppa_nil)) (pp_repr hG hu rfl (f_repr XI GN c) (ppa_cons (pp_mul (pp_lst (ppa_cons (pp_eq hu (pp_v 6) (pp_lst ppa_nil)) ppa_nil)) pp_int) ppa_nil))) (pps_one (ppq_ret pp_bl)) pps_nil)
      (pps_cons (ppq_for (g := (gName 8)) (passes_of rfl) rfl (ppi_any (pp_v 6)) (pg_name (i := 8) sc__law_pair_right.nd rfl (Or.inl rfl)) (ad_gName (i := 8) (by intro l e; cases e <;> decide))
        (pps_cons (ppq_set (i := 9) sc__law_pair_right.nd rfl (Or.inl rfl) (pp_call (t__law_early XI GN c) hG (hr.mono (by decide)) (takes_of rfl rfl rfl rfl) rfl (ppa_cons (pp_v 5) (ppa_cons (pp_v 3) (ppa_cons (pp_v 4) (ppa_cons (pp_v 8) ppa_nil))))))
        (pps_one (ppq_if (pt_le (pp_callO (t_Earliest___call__ XI GN c) hG (hr.mono (by decide)) (takes_of rfl rfl rfl rfl) (pp_v 1) (ppa_cons (pp_v 9) ppa_nil)) (pp_callO (t_Earliest___call__ XI GN c) hG (hr.mono (by decide)) (takes_of rfl rfl rfl rfl) (pp_v 2) (ppa_cons (pp_v 9) ppa_nil))) (pps_one (ppq_ret pp_bl)) pps_nil))))
      (pps_cons (ppq_for (g := (gName 10)) (passes_of rfl) rfl (ppi_range1 rfl (f_range XI GN c) (ppa_cons pp_int ppa_nil)) (pg_name (i := 10) sc__law_pair_right.nd rfl (Or.inl rfl)) (ad_gName (i := 10) (by intro l e; cases e <;> decide))
        (pps_cons (ppq_set (i := 9) sc__law_pair_right.nd rfl (Or.inl rfl) (pp_dict .val rfl rfl (f_dict XI GN c) (ppa_cons (pp_lc (own := [("_law_name", 8)]) (g := (gName 8)) rfl sc__law_pair_right.nd (ppi_any (pp_v 5)) (blkOk_by (own := [("_law_name", 8)]) (by kernel_rfl)) (fun _ _ _ _ _ => (pg_name (i := 8) sc__law_pair_right.nd rfl (by first | exact Or.inl rfl | exact Or.inr rfl))) (ad_gName (i := 8) (by intro l e; cases e <;> decide)) (fun _ _ _ _ _ => ppts_nil) (fun _ _ _ _ _ => (pp_tup (ppa_cons (pp_v 8) (ppa_cons (pp_call (t__law_number XI GN c) hG (hr.mono (by decide)) takes0 rfl (ppa_cons (pp_v 0) ppa_nil)) ppa_nil))))) ppa_nil)))
        (pps_one (ppq_if (PPW.pt (ptw_and (pt_eq hu (pp_v 6) (pp_lst ppa_nil)) (ptw_and1 (pt_gt (pp_callO (t_Earliest___call__ XI GN c) hG (hr.mono (by decide)) (takes_of rfl rfl rfl rfl) (pp_v 1) (ppa_cons (pp_v 9) ppa_nil)) (pp_callO (t_Earliest___call__ XI GN c) hG (hr.mono (by decide)) (takes_of rfl rfl rfl rfl) (pp_v 2) (ppa_cons (pp_v 9) ppa_nil)))))) (pps_one (ppq_ret pp_bl)) pps_nil))))
      (pps_one (ppq_ret pp_bl)))))))))
theorem t__law_pair_right (XI : K.In base) (GN : base.Ns mainGlobals mg) (c : obsK K = val0) : DP P w K mg base "_law_pair_right" 6 6 (D__law_pair_right P w K) := by
  obtain ⟨fd, F⟩ := F__law_pair_right c
  exact ⟨_, fd, _, rfl, (fx__law_pair_right XI GN c F), g__law_pair_right XI GN c, F.kp, F.binds (by intro _ _ _ _ _ _ us hl; first | (match us, hl with | [_], _ => rfl) | (match us, hl with | [_, _], _ => rfl) | (match us, hl with | [_, _, _], _ => rfl) | (match us, hl with | [_, _, _, _], _ => rfl) | (match us, hl with | [_, _, _, _, _], _ => rfl) | (match us, hl with | [_, _, _, _, _, _], _ => rfl) | (match us, hl with | [_, _, _, _, _, _, _], _ => rfl) | (match us, hl with | [_, _, _, _, _, _, _, _], _ => rfl) | (match us, hl with | [_, _, _, _, _, _, _, _, _], _ => rfl))⟩

/-! _law_near_right -/
def N__law_near_right : List Str := ["_law_one", "_law_rival", "_law_both"]
theorem sc__law_near_right : FnScope N__law_near_right ["_law_one", "_law_rival"] (defScope s__law_near_right) := ⟨rfl, rfl, rfl, by decide +kernel, rfl, by decide +kernel, by decide +kernel⟩
noncomputable def D__law_near_right (P : Program) (w : World) (K : PySem.W.Frag) : FF := fDef 2 3 (sSeq (sSet 2 (fFrz (fOp (fOwn2 (ga K "Earliest") (D_Earliest___or__ P w K)) (fVar 0) (fVar 1))))
      (sSeq (sIfS (fOrT (fNotT (fTest (fMeth (ga K "Earliest") "is_never_later" (D_Earliest_is_never_later P w K) (fVar 2) (fCons (fVar 0) fNil)))) (fOrT (fNotT (fTest (fMeth (ga K "Earliest") "is_never_later" (D_Earliest_is_never_later P w K) (fVar 2) (fCons (fVar 1) fNil)))) (fNotT (fTest (fMeth (ga K "Earliest") "is_never_later" (D_Earliest_is_never_later P w K) (fVar 0) (fCons (fVar 0) fNil)))))) (sRet (fC (.bl false))) sNext)
      (sSeq (sIfS (fOrT (fNotT (fTest (fMeth (ga K "Earliest") "is_never_later" (D_Earliest_is_never_later P w K) (fFrz (fOp (fOwnI (ga K "Earliest") (D_Earliest___sub__ P w K)) (fVar 0) (fC (.int 1)))) (fCons (fVar 0) fNil)))) (fOrT (fTest (fMeth (ga K "Earliest") "is_never_later" (D_Earliest_is_never_later P w K) (fVar 0) (fCons (fFrz (fOp (fOwnI (ga K "Earliest") (D_Earliest___sub__ P w K)) (fVar 0) (fC (.int 1)))) fNil))) (fNotT (fTest (fMeth (ga K "Earliest") "is_never_later" (D_Earliest_is_never_later P w K) (fVar 0) (fCons (fFrz (fOp (fIOwn (ga K "Earliest") (D_Earliest___radd__ P w K)) (fC (.int 1)) (fVar 0))) fNil)))))) (sRet (fC (.bl false))) sNext)
      (sSeq (sIfS (fTest (fOp gNe (fOp (fEqO (ga K "Earliest") [(ga K "Earliest")] (D_Earliest___eq__ P w K)) (fVar 0) (fVar 1)) (fAndV (fMeth (ga K "Earliest") "is_never_later" (D_Earliest_is_never_later P w K) (fVar 0) (fCons (fVar 1) fNil)) (fMeth (ga K "Earliest") "is_never_later" (D_Earliest_is_never_later P w K) (fVar 1) (fCons (fVar 0) fNil))))) (sRet (fC (.bl false))) sNext)
      (sRet (fOp gEq (fMeth (ga K "Earliest") "is_never_later" (D_Earliest_is_never_later P w K) (fFrz (fOp (fOwnI (ga K "Earliest") (D_Earliest___add__ P w K)) (fVar 0) (fOp fPow (fC (.int 10)) (fC (.int 45))))) (fCons (fFrz (fOp (fIOwn (ga K "Earliest") (D_Earliest___radd__ P w K)) (fOp fPow (fC (.int 10)) (fC (.int 45))) (fVar 1))) fNil)) (fMeth (ga K "Earliest") "is_never_later" (D_Earliest_is_never_later P w K) (fVar 0) (fCons (fVar 1) fNil))))))))
theorem fx__law_near_right (XI : K.In base) (GN : base.Ns mainGlobals mg) (c : obsK K = val0) {fd : FuncData} {f : Addr} (F : Fun K "_law_near_right" "_law_near_right" s__law_near_right f fd) : FnX P w K mg base 8 f fd ["_law_one", "_law_rival"] (spP 2 (D__law_near_right P w K)) :=
    (Fun.pp F sc__law_near_right (fun cdv A fr s H E hG hr => by
      have hu : A.units + 3 + 64 < cLine := hr.units
      exact (pps_cons (ppq_set (i := 2) sc__law_near_right.nd rfl (Or.inl rfl) (pp_frz (pp_own2 (t_Earliest___or__ XI GN c) (in_Earliest c).sf hG (hr.mono (by decide)) (pp_v 0) (pp_v 1))))
      (pps_cons (ppq_if (PPW.pt (ptw_or (ptt_not (pt_b (pp_meth (t_Earliest_is_never_later XI GN c) (cl_Earliest c) hG (hr.mono (by decide)) (takes_of rfl rfl rfl rfl) (pp_v 2) (ppa_cons (pp_v 0) ppa_nil)))) (ptw_or (ptt_not (pt_b (pp_meth (t_Earliest_is_never_later XI GN c) (cl_Earliest c) hG (hr.mono (by decide)) (takes_of rfl rfl rfl rfl) (pp_v 2) (ppa_cons (pp_v 1) ppa_nil)))) (ptw_or1 (ptt_not (pt_b (pp_meth (t_Earliest_is_never_later XI GN c) (cl_Earliest c) hG (hr.mono (by decide)) (takes_of rfl rfl rfl rfl) (pp_v 0) (ppa_cons (pp_v 0) ppa_nil)))))))) (pps_one (ppq_ret pp_bl)) pps_nil)
      (pps_cons (ppq_if (PPW.pt (ptw_or (ptt_not (pt_b (pp_meth (t_Earliest_is_never_later XI GN c) (cl_Earliest c) hG (hr.mono (by decide)) (takes_of rfl rfl rfl rfl) (pp_frz (pp_minusI (rsub_Earliest c) (t_Earliest___sub__ XI GN c) (in_Earliest c) hG (hr.mono (by decide)) (pp_v 0) pp_int)) (ppa_cons (pp_v 0) ppa_nil)))) (ptw_or (pt_b (pp_meth (t_Earliest_is_never_later XI GN c) (cl_Earliest c) hG (hr.mono (by decide)) (takes_of rfl rfl rfl rfl) (pp_v 0) (ppa_cons (pp_frz (pp_minusI (rsub_Earliest c) (t_Earliest___sub__ XI GN c) (in_Earliest c) hG (hr.mono (by decide)) (pp_v 0) pp_int)) ppa_nil))) (ptw_or1 (ptt_not (pt_b (pp_meth (t_Earliest_is_never_later XI GN c) (cl_Earliest c) hG (hr.mono (by decide)) (takes_of rfl rfl rfl rfl) (pp_v 0) (ppa_cons (pp_frz (pp_iplus (hadd_Earliest c) (t_Earliest___radd__ XI GN c) (in_Earliest c) hG (hr.mono (by decide)) pp_int (pp_v 0))) ppa_nil)))))))) (pps_one (ppq_ret pp_bl)) pps_nil)
      (pps_cons (ppq_if (pt_ne hu (pp_eqO (t_Earliest___eq__ XI GN c) (eq_Earliest c) hG (hr.mono (by decide)) (Nat.lt_of_le_of_lt (Nat.le_add_right _ _) hu) (pp_v 0) (pp_v 1)) (pp_and (pp_meth (t_Earliest_is_never_later XI GN c) (cl_Earliest c) hG (hr.mono (by decide)) (takes_of rfl rfl rfl rfl) (pp_v 0) (ppa_cons (pp_v 1) ppa_nil)) (pp_one (pp_meth (t_Earliest_is_never_later XI GN c) (cl_Earliest c) hG (hr.mono (by decide)) (takes_of rfl rfl rfl rfl) (pp_v 1) (ppa_cons (pp_v 0) ppa_nil))))) (pps_one (ppq_ret pp_bl)) pps_nil)
      (pps_one (ppq_ret (pp_eq hu (pp_meth (t_Earliest_is_never_later XI GN c) (cl_Earliest c) hG (hr.mono (by decide)) (takes_of rfl rfl rfl rfl) (pp_frz (pp_plusI (radd_Earliest c) (t_Earliest___add__ XI GN c) (in_Earliest c) hG (hr.mono (by decide)) (pp_v 0) (pp_pow pp_int pp_int))) (ppa_cons (pp_frz (pp_iplus (hadd_Earliest c) (t_Earliest___radd__ XI GN c) (in_Earliest c) hG (hr.mono (by decide)) (pp_pow pp_int pp_int) (pp_v 1))) ppa_nil)) (pp_meth (t_Earliest_is_never_later XI GN c) (cl_Earliest c) hG (hr.mono (by decide)) (takes_of rfl rfl rfl rfl) (pp_v 0) (ppa_cons (pp_v 1) ppa_nil)))))))))))
theorem t__law_near_right (XI : K.In base) (GN : base.Ns mainGlobals mg) (c : obsK K = val0) : DP P w K mg base "_law_near_right" 2 8 (D__law_near_right P w K) := by
  obtain ⟨fd, F⟩ := F__law_near_right c
  exact ⟨_, fd, _, rfl, (fx__law_near_right XI GN c F), g__law_near_right XI GN c, F.kp, F.binds (by intro _ _ _ _ _ _ us hl; first | (match us, hl with | [_], _ => rfl) | (match us, hl with | [_, _], _ => rfl) | (match us, hl with | [_, _, _], _ => rfl) | (match us, hl with | [_, _, _, _], _ => rfl) | (match us, hl with | [_, _, _, _, _], _ => rfl) | (match us, hl with | [_, _, _, _, _, _], _ => rfl) | (match us, hl with | [_, _, _, _, _, _, _], _ => rfl) | (match us, hl with | [_, _, _, _, _, _, _, _], _ => rfl) | (match us, hl with | [_, _, _, _, _, _, _, _, _], _ => rfl))⟩

/-! _law_three_right -/
def N__law_three_right : List Str := ["_law_some", "_law_one", "_law_two", "_law_three"]
theorem sc__law_three_right : FnScope N__law_three_right ["_law_some"] (defScope s__law_three_right) := ⟨rfl, rfl, rfl, by decide +kernel, rfl, by decide +kernel, by decide +kernel⟩
noncomputable def D__law_three_right (P : Program) (w : World) (K : PySem.W.Frag) : FF := fDef 1 4 (sSeq (sFor (iAny (fVar 0)) (tgName 1) (sFor (iAny (fVar 0)) (tgName 2) (sFor (iAny (fVar 0)) (tgName 3) (sIfS (fAndT (fTest (fMeth (ga K "Earliest") "is_never_later" (D_Earliest_is_never_later P w K) (fVar 1) (fCons (fVar 2) fNil))) (fAndT (fTest (fMeth (ga K "Earliest") "is_never_later" (D_Earliest_is_never_later P w K) (fVar 2) (fCons (fVar 3) fNil))) (fNotT (fTest (fMeth (ga K "Earliest") "is_never_later" (D_Earliest_is_never_later P w K) (fVar 1) (fCons (fVar 3) fNil)))))) (sRet (fC (.bl false))) sNext))))
      (sRet (fC (.bl true))))
theorem fx__law_three_right (XI : K.In base) (GN : base.Ns mainGlobals mg) (c : obsK K = val0) {fd : FuncData} {f : Addr} (F : Fun K "_law_three_right" "_law_three_right" s__law_three_right f fd) : FnX P w K mg base 3 f fd ["_law_some"] (spP 1 (D__law_three_right P w K)) :=
    (Fun.pp F sc__law_three_right (fun cdv A fr s H E hG hr => by
      have hu : A.units + 3 + 64 < cLine := hr.units
      exact (pps_cons (ppq_for (g := (gName 1)) (passes_of rfl) rfl (ppi_any (pp_v 0)) (pg_name (i := 1) sc__law_three_right.nd rfl (Or.inl rfl)) (ad_gName (i := 1) (by intro l e; cases e <;> decide))
        (pps_one (ppq_for (g := (gName 2)) (passes_of rfl) rfl (ppi_any (pp_v 0)) (pg_name (i := 2) sc__law_three_right.nd rfl (Or.inl rfl)) (ad_gName (i := 2) (by intro l e; cases e <;> decide))
          (pps_one (ppq_for (g := (gName 3)) (passes_of rfl) rfl (ppi_any (pp_v 0)) (pg_name (i := 3) sc__law_three_right.nd rfl (Or.inl rfl)) (ad_gName (i := 3) (by intro l e; cases e <;> decide))
            (pps_one (ppq_if (PPW.pt (ptw_and (pt_b (pp_meth (t_Earliest_is_never_later XI GN c) (cl_Earliest c) hG (hr.mono (by decide)) (takes_of rfl rfl rfl rfl) (pp_v 1) (ppa_cons (pp_v 2) ppa_nil))) (ptw_and (pt_b (pp_meth (t_Earliest_is_never_later XI GN c) (cl_Earliest c) hG (hr.mono (by decide)) (takes_of rfl rfl rfl rfl) (pp_v 2) (ppa_cons (pp_v 3) ppa_nil))) (ptw_and1 (ptt_not (pt_b (pp_meth (t_Earliest_is_never_later XI GN c) (cl_Earliest c) hG (hr.mono (by decide)) (takes_of rfl rfl rfl rfl) (pp_v 1) (ppa_cons (pp_v 3) ppa_nil)))))))) (pps_one (ppq_ret pp_bl)) pps_nil)))))))
      (pps_one (ppq_ret pp_bl)))))
theorem t__law_three_right (XI : K.In base) (GN : base.Ns mainGlobals mg) (c : obsK K = val0) : DP P w K mg base "_law_three_right" 1 3 (D__law_three_right P w K) := by
  obtain ⟨fd, F⟩ := F__law_three_right c
  exact ⟨_, fd, _, rfl, (fx__law_three_right XI GN c F), g__law_three_right XI GN c, F.kp, F.binds (by intro _ _ _ _ _ _ us hl; first | (match us, hl with | [_], _ => rfl) | (match us, hl with | [_, _], _ => rfl) | (match us, hl with | [_, _, _], _ => rfl) | (match us, hl with | [_, _, _, _], _ => rfl) | (match us, hl with | [_, _, _, _, _], _ => rfl) | (match us, hl with | [_, _, _, _, _, _], _ => rfl) | (match us, hl with | [_, _, _, _, _, _, _], _ => rfl) | (match us, hl with | [_, _, _, _, _, _, _, _], _ => rfl) | (match us, hl with | [_, _, _, _, _, _, _, _, _], _ => rfl))⟩

/-! _law_right -/
def N__law_right : List Str := ["_law_pot_here", "_law_names_here", "_law_shifts", "_law_others", "_law_third", "_law_one", "_law_rival", "_law_last", "_law_name"]
theorem sc__law_right : FnScope N__law_right ["_law_pot_here"] (defScope s__law_right) := ⟨rfl, rfl, rfl, by decide +kernel, rfl, by decide +kernel, by decide +kernel⟩
noncomputable def D__law_right (P : Program) (w : World) (K : PySem.W.Frag) : FF := fDef 1 9 (sSeq (sSet 1 (fFrz (fCall (D__law_names P w K) (fCons (fVar 0) (fCons (fOp gAdd (fC (.int 1)) (fCall (D__law_draw P w K) (fCons (fVar 0) (fCons (fC (.int 8)) fNil)))) fNil)))))
      (sSeq (sSet 2 (fCall (gDict .val) (fCons (fLc (iAny (fSl gSl (fVar 1) oNone (oSome (fOp gAdd (fC (.int 1)) (fCall (D__law_draw P w K) (fCons (fVar 0) (fCons (fCall gLen (fCons (fVar 1) fNil)) fNil))))))) (tgName 8) fYes (fSeq .tup (fCons (fVar 8) (fCons (fCall (D__law_number P w K) (fCons (fVar 0) fNil)) fNil))) [8]) fNil)))
      (sSeq (sSet 3 (fFrz (fCall (D__law_changed P w K) (fCons (fVar 0) (fCons (fVar 2) (fCons (fVar 1) fNil))))))
      (sSeq (sSet 4 (fFrz (fCall (D__law_changed P w K) (fCons (fVar 0) (fCons (fVar 3) (fCons (fVar 1) fNil))))))
      (sSeq (sIfS (fTest (fOp gEq (fCall (D__law_draw P w K) (fCons (fVar 0) (fCons (fC (.int 4)) fNil))) (fC (.int 0)))) (sSet 3 (fCall (gDict .val) (fCons (fLc (iAny (fSl gSl (fVar 1) (oSome (fCall (D__law_draw P w K) (fCons (fVar 0) (fCons (fCall gLen (fCons (fVar 1) fNil)) fNil)))) oNone)) (tgName 8) fYes (fSeq .tup (fCons (fVar 8) (fCons (fCall (D__law_number P w K) (fCons (fVar 0) fNil)) fNil))) [8]) fNil))) sNext)
      (sSeq (sPar3 5 6 7 (fCons (fFrz (fMake (ga K "Earliest") (D_Earliest___init__ P w K) (fCons (fVar 2) fNil))) (fCons (fFrz (fMake (ga K "Earliest") (D_Earliest___init__ P w K) (fCons (fVar 3) fNil))) (fCons (fFrz (fMake (ga K "Earliest") (D_Earliest___init__ P w K) (fCons (fVar 4) fNil))) fNil))))
      (sSeq (sIfS (fNotT (fTest (fCall (D__law_pair_right P w K) (fCons (fVar 0) (fCons (fVar 5) (fCons (fVar 6) (fCons (fVar 2) (fCons (fVar 3) (fCons (fVar 1) fNil))))))))) (sRet (fC (.bl false))) sNext)
      (sSeq (sIfS (fNotT (fTest (fCall (D__law_pair_right P w K) (fCons (fVar 0) (fCons (fVar 6) (fCons (fVar 5) (fCons (fVar 3) (fCons (fVar 2) (fCons (fVar 1) fNil))))))))) (sRet (fC (.bl false))) sNext)
      (sSeq (sIfS (fOrT (fNotT (fTest (fCall (D__law_near_right P w K) (fCons (fVar 5) (fCons (fVar 6) fNil))))) (fNotT (fTest (fCall (D__law_near_right P w K) (fCons (fVar 6) (fCons (fVar 7) fNil)))))) (sRet (fC (.bl false))) sNext)
      (sSeq (sIfS (fNotT (fTest (fCall (D__law_three_right P w K) (fCons (fSeq .lst (fCons (fVar 5) (fCons (fVar 6) (fCons (fVar 7) (fCons (fFrz (fOp (fOwn2 (ga K "Earliest") (D_Earliest___or__ P w K)) (fVar 5) (fVar 7))) (fCons (fFrz (fOp (fOwn2 (ga K "Earliest") (D_Earliest___or__ P w K)) (fVar 6) (fVar 5))) fNil)))))) fNil)))) (sRet (fC (.bl false))) sNext)
      (sRet (fOp (fEqLO (ga K "Earliest") [(ga K "Earliest")] (D_Earliest___eq__ P w K)) (fSeq .lst (fCons (fVar 5) (fCons (fVar 6) (fCons (fVar 7) fNil)))) (fSeq .lst (fCons (fFrz (fMake (ga K "Earliest") (D_Earliest___init__ P w K) (fCons (fVar 2) fNil))) (fCons (fFrz (fMake (ga K "Earliest") (D_Earliest___init__ P w K) (fCons (fVar 3) fNil))) (fCons (fFrz (fMake (ga K "Earliest") (D_Earliest___init__ P w K) (fCons (fVar 4) fNil))) fNil))))))))))))))))
theorem fx__law_right (XI : K.In base) (GN : base.Ns mainGlobals mg) (c : obsK K = val0) {fd : FuncData} {f : Addr} (F : Fun K "_law_right" "_law_right" s__law_right f fd) : FnX P w K mg base 9 f fd ["_law_pot_here"] (spP 1 (D__law_right P w K)) :=
    (Fun.pp F sc__law_right (fun cdv A fr s H E hG hr => by
      have hu : A.units + 3 + 64 < cLine := hr.units
      exact (pps_cons (ppq_set (i := 1) sc__law_right.nd rfl (Or.inl rfl) (pp_frz (pp_call (t__law_names XI GN c) hG (hr.mono (by decide)) (takes_of rfl rfl rfl rfl) rfl (ppa_cons (pp_v 0) (ppa_cons (pp_add pp_int (pp_call (t__law_draw XI GN c) hG (hr.mono (by decide)) (takes_of rfl rfl rfl rfl) rfl (ppa_cons (pp_v 0) (ppa_cons pp_int ppa_nil)))) ppa_nil)))))
      (pps_cons (ppq_set (i := 2) sc__law_right.nd rfl (Or.inl rfl) (pp_dict .val rfl rfl (f_dict XI GN c) (ppa_cons (pp_lc (own := [("_law_name", 8)]) (g := (gName 8)) rfl sc__law_right.nd (ppi_any (pp_sl (pp_v 1) ppo_none (ppo_some (pp_add pp_int (pp_call (t__law_draw XI GN c) hG (hr.mono (by decide)) (takes_of rfl rfl rfl rfl) rfl (ppa_cons (pp_v 0) (ppa_cons (pp_len' rfl (f_len XI GN c) (ppa_cons (pp_v 1) ppa_nil)) ppa_nil))))))) (blkOk_by (own := [("_law_name", 8)]) (by kernel_rfl)) (fun _ _ _ _ _ => (pg_name (i := 8) sc__law_right.nd rfl (by first | exact Or.inl rfl | exact Or.inr rfl))) (ad_gName (i := 8) (by intro l e; cases e <;> decide)) (fun _ _ _ _ _ => ppts_nil) (fun _ _ _ _ _ => (pp_tup (ppa_cons (pp_v 8) (ppa_cons (pp_call (t__law_number XI GN c) hG (hr.mono (by decide)) takes0 rfl (ppa_cons (pp_v 0) ppa_nil)) ppa_nil))))) ppa_nil)))
      (pps_cons (ppq_set (i := 3) sc__law_right.nd rfl (Or.inl rfl) (pp_frz (pp_call (t__law_changed XI GN c) hG (hr.mono (by decide)) (takes_of rfl rfl rfl rfl) rfl (ppa_cons (pp_v 0) (ppa_cons (pp_v 2) (ppa_cons (pp_v 1) ppa_nil))))))
      (pps_cons (ppq_set (i := 4) sc__law_right.nd rfl (Or.inl rfl) (pp_frz (pp_call (t__law_changed XI GN c) hG (hr.mono (by decide)) (takes_of rfl rfl rfl rfl) rfl (ppa_cons (pp_v 0) (ppa_cons (pp_v 3) (ppa_cons (pp_v 1) ppa_nil))))))
      (pps_cons (ppq_if (pt_eq hu (pp_call (t__law_draw XI GN c) hG (hr.mono (by decide)) (takes_of rfl rfl rfl rfl) rfl (ppa_cons (pp_v 0) (ppa_cons pp_int ppa_nil))) pp_int) (pps_one (ppq_set (i := 3) sc__law_right.nd rfl (Or.inl rfl) (pp_dict .val rfl rfl (f_dict XI GN c) (ppa_cons (pp_lc (own := [("_law_name", 8)]) (g := (gName 8)) rfl sc__law_right.nd (ppi_any (pp_sl (pp_v 1) (ppo_some (pp_call (t__law_draw XI GN c) hG (hr.mono (by decide)) (takes_of rfl rfl rfl rfl) rfl (ppa_cons (pp_v 0) (ppa_cons (pp_len' rfl (f_len XI GN c) (ppa_cons (pp_v 1) ppa_nil)) ppa_nil)))) ppo_none)) (blkOk_by (own := [("_law_name", 8)]) (by kernel_rfl)) (fun _ _ _ _ _ => (pg_name (i := 8) sc__law_right.nd rfl (by first | exact Or.inl rfl | exact Or.inr rfl))) (ad_gName (i := 8) (by intro l e; cases e <;> decide)) (fun _ _ _ _ _ => ppts_nil) (fun _ _ _ _ _ => (pp_tup (ppa_cons (pp_v 8) (ppa_cons (pp_call (t__law_number XI GN c) hG (hr.mono (by decide)) takes0 rfl (ppa_cons (pp_v 0) ppa_nil)) ppa_nil))))) ppa_nil)))) pps_nil)
      (pps_cons (ppq_par3 (i := 5) (j := 6) (l := 7) (by rfl) sc__law_right.nd rfl rfl rfl (by decide) (by decide) (by decide) rfl rfl rfl (ppa_cons (pp_make (t_Earliest___init__ XI GN c) hG (hr.mono (by decide)) (takes_of rfl rfl rfl rfl) rfl (ppa_cons (pp_v 2) ppa_nil)) (ppa_cons (pp_make (t_Earliest___init__ XI GN c) hG (hr.mono (by decide)) (takes_of rfl rfl rfl rfl) rfl (ppa_cons (pp_v 3) ppa_nil)) (ppa_cons (pp_make (t_Earliest___init__ XI GN c) hG (hr.mono (by decide)) (takes_of rfl rfl rfl rfl) rfl (ppa_cons (pp_v 4) ppa_nil)) ppa_nil))) (by rfl))
      (pps_cons (ppq_if (ptt_not (pt_b (pp_call (t__law_pair_right XI GN c) hG (hr.mono (by decide)) (takes_of rfl rfl rfl rfl) rfl (ppa_cons (pp_v 0) (ppa_cons (pp_v 5) (ppa_cons (pp_v 6) (ppa_cons (pp_v 2) (ppa_cons (pp_v 3) (ppa_cons (pp_v 1) ppa_nil))))))))) (pps_one (ppq_ret pp_bl)) pps_nil)
      (pps_cons (ppq_if (ptt_not (pt_b (pp_call (t__law_pair_right XI GN c) hG (hr.mono (by decide)) (takes_of rfl rfl rfl rfl) rfl (ppa_cons (pp_v 0) (ppa_cons (pp_v 6) (ppa_cons (pp_v 5) (ppa_cons (pp_v 3) (ppa_cons (pp_v 2) (ppa_cons (pp_v 1) ppa_nil))))))))) (pps_one (ppq_ret pp_bl)) pps_nil)
      (pps_cons (ppq_if (PPW.pt (ptw_or (ptt_not (pt_b (pp_call (t__law_near_right XI GN c) hG (hr.mono (by decide)) (takes_of rfl rfl rfl rfl) rfl (ppa_cons (pp_v 5) (ppa_cons (pp_v 6) ppa_nil))))) (ptw_or1 (ptt_not (pt_b (pp_call (t__law_near_right XI GN c) hG (hr.mono (by decide)) (takes_of rfl rfl rfl rfl) rfl (ppa_cons (pp_v 6) (ppa_cons (pp_v 7) ppa_nil)))))))) (pps_one (ppq_ret pp_bl)) pps_nil)
      (pps_cons (ppq_if (ptt_not (pt_b (pp_call (t__law_three_right XI GN c) hG (hr.mono (by decide)) (takes_of rfl rfl rfl rfl) rfl (ppa_cons (pp_lst (ppa_cons (pp_v 5) (ppa_cons (pp_v 6) (ppa_cons (pp_v 7) (ppa_cons (pp_frz (pp_own2 (t_Earliest___or__ XI GN c) (in_Earliest c).sf hG (hr.mono (by decide)) (pp_v 5) (pp_v 7))) (ppa_cons (pp_frz (pp_own2 (t_Earliest___or__ XI GN c) (in_Earliest c).sf hG (hr.mono (by decide)) (pp_v 6) (pp_v 5))) ppa_nil)))))) ppa_nil)))) (pps_one (ppq_ret pp_bl)) pps_nil)
      (pps_one (ppq_ret (pp_eqLO (t_Earliest___eq__ XI GN c) (eq_Earliest c) hG (hr.mono (by decide)) (pp_lst (ppa_cons (pp_v 5) (ppa_cons (pp_v 6) (ppa_cons (pp_v 7) ppa_nil)))) (pp_lst (ppa_cons (pp_make (t_Earliest___init__ XI GN c) hG (hr.mono (by decide)) (takes_of rfl rfl rfl rfl) rfl (ppa_cons (pp_v 2) ppa_nil)) (ppa_cons (pp_make (t_Earliest___init__ XI GN c) hG (hr.mono (by decide)) (takes_of rfl rfl rfl rfl) rfl (ppa_cons (pp_v 3) ppa_nil)) (ppa_cons (pp_make (t_Earliest___init__ XI GN c) hG (hr.mono (by decide)) (takes_of rfl rfl rfl rfl) rfl (ppa_cons (pp_v 4) ppa_nil)) ppa_nil)))))))))))))))))))
theorem t__law_right (XI : K.In base) (GN : base.Ns mainGlobals mg) (c : obsK K = val0) : DP P w K mg base "_law_right" 1 9 (D__law_right P w K) := by
  obtain ⟨fd, F⟩ := F__law_right c
  exact ⟨_, fd, _, rfl, (fx__law_right XI GN c F), g__law_right XI GN c, F.kp, F.binds (by intro _ _ _ _ _ _ us hl; first | (match us, hl with | [_], _ => rfl) | (match us, hl with | [_, _], _ => rfl) | (match us, hl with | [_, _, _], _ => rfl) | (match us, hl with | [_, _, _, _], _ => rfl) | (match us, hl with | [_, _, _, _, _], _ => rfl) | (match us, hl with | [_, _, _, _, _, _], _ => rfl) | (match us, hl with | [_, _, _, _, _, _, _], _ => rfl) | (match us, hl with | [_, _, _, _, _, _, _, _], _ => rfl) | (match us, hl with | [_, _, _, _, _, _, _, _, _], _ => rfl))⟩

/-! law -/
def N_law : List Str := ["_law_script", "_law_k"]
theorem sc_law : FnScope N_law ["_law_script"] (defScope s_law) := ⟨rfl, rfl, rfl, by decide +kernel, rfl, by decide +kernel, by decide +kernel⟩
noncomputable def D_law (P : Program) (w : World) (K : PySem.W.Frag) : FF := fDef 1 2 (sRet (fCall (fBls fun bs => bs.all id) (fCons (fLc (iRg1 (fCons (fCall gMax (fCons (fC (.int 1)) (fCons (fCall gMin (fCons (fCall gLen (fCons (fVar 0) fNil)) (fCons (fC (.int 3)) fNil))) fNil))) fNil)) (tgName 1) fYes (fCall (D__law_right P w K) (fCons (fCall (D__law_pot P w K) (fCons (fVar 0) (fCons (fVar 1) fNil))) fNil)) [1]) fNil)))
theorem fx_law (XI : K.In base) (GN : base.Ns mainGlobals mg) (c : obsK K = val0) {fd : FuncData} {f : Addr} (F : Fun K "law" "law" s_law f fd) : FnX P w K mg base 10 f fd ["_law_script"] (spP 1 (D_law P w K)) :=
    (Fun.pp F sc_law (fun cdv A fr s H E hG hr => by
      have hu : A.units + 3 + 64 < cLine := hr.units
      exact (pps_one (ppq_ret (pp_all rfl rfl (f_all XI GN c) (ppa_cons (pp_lc (own := [("_law_k", 1)]) (g := (gName 1)) rfl sc_law.nd (ppi_range1 rfl (f_range XI GN c) (ppa_cons (pp_max rfl rfl (f_max XI GN c) (ppa_cons pp_int (ppa_cons (pp_min rfl rfl (f_min XI GN c) (ppa_cons (pp_len' rfl (f_len XI GN c) (ppa_cons (pp_v 0) ppa_nil)) (ppa_cons pp_int ppa_nil))) ppa_nil))) ppa_nil)) (blkOk_by (own := [("_law_k", 1)]) (by kernel_rfl)) (fun _ _ _ _ _ => (pg_name (i := 1) sc_law.nd rfl (by first | exact Or.inl rfl | exact Or.inr rfl))) (ad_gName (i := 1) (by intro l e; cases e <;> decide)) (fun _ _ _ _ _ => ppts_nil) (fun _ _ _ _ _ => (pp_call (t__law_right XI GN c) hG (hr.mono (by decide)) takes0 rfl (ppa_cons (pp_call (t__law_pot XI GN c) hG (hr.mono (by decide)) takes0 rfl (ppa_cons (pp_v 0) (ppa_cons (pp_v 1) ppa_nil))) ppa_nil)))) ppa_nil))))))
theorem t_law (XI : K.In base) (GN : base.Ns mainGlobals mg) (c : obsK K = val0) : DP P w K mg base "law" 1 10 (D_law P w K) := by
  obtain ⟨fd, F⟩ := F_law c
  exact ⟨_, fd, _, rfl, (fx_law XI GN c F), g_law XI GN c, F.kp, F.binds (by intro _ _ _ _ _ _ us hl; first | (match us, hl with | [_], _ => rfl) | (match us, hl with | [_, _], _ => rfl) | (match us, hl with | [_, _, _], _ => rfl) | (match us, hl with | [_, _, _, _], _ => rfl) | (match us, hl with | [_, _, _, _, _], _ => rfl) | (match us, hl with | [_, _, _, _, _, _], _ => rfl) | (match us, hl with | [_, _, _, _, _, _, _], _ => rfl) | (match us, hl with | [_, _, _, _, _, _, _, _], _ => rfl) | (match us, hl with | [_, _, _, _, _, _, _, _, _], _ => rfl))⟩
end
end Pu

set_option Elab.async false
set_option linter.all false
set_option maxRecDepth 100000
set_option maxHeartbeats 8000000
namespace Pu
open L2 PySem PySem.Spec PyProof.Rows E10
open He (ga ma)
section
variable {P : Program} {w : World} {K : PySem.W.Frag} {mg : Str → Option Value} {base : Heap}
noncomputable def D_law2 (P : Program) (w : World) (K : PySem.W.Frag) : FF := fDef 1 2 (sRet (fCall (fBls fun bs => bs.all id) (fCons (fLc (iRg1 (fCons (fCall gMax (fCons (fC (.int 1)) (fCons (fCall gMin (fCons (fCall gLen (fCons (fVar 0) fNil)) (fCons (fC (.int 3)) fNil))) fNil))) fNil)) (tgName 1) fYes (fDrop (fCall (D__law_right P w K) (fCons (fCall (D__law_pot P w K) (fCons (fVar 0) (fCons (fVar 1) fNil))) fNil))) [1]) fNil)))
theorem fx_law2 (XI : K.In base) (GN : base.Ns mainGlobals mg) (c : obsK K = val0) {fd : FuncData} {f : Addr} (F : Fun K "law" "law" s_law f fd) : FnX P w K mg base 10 f fd ["_law_script"] (spP 1 (D_law2 P w K)) :=
    (Fun.pp F sc_law (fun cdv A fr s H E hG hr => by
      have hu : A.units + 3 + 64 < cLine := hr.units
      exact (pps_one (ppq_ret (pp_all rfl rfl (f_all XI GN c) (ppa_cons (pp_lc (own := [("_law_k", 1)]) (g := (gName 1)) rfl sc_law.nd (ppi_range1 rfl (f_range XI GN c) (ppa_cons (pp_max rfl rfl (f_max XI GN c) (ppa_cons pp_int (ppa_cons (pp_min rfl rfl (f_min XI GN c) (ppa_cons (pp_len' rfl (f_len XI GN c) (ppa_cons (pp_v 0) ppa_nil)) (ppa_cons pp_int ppa_nil))) ppa_nil))) ppa_nil)) (blkOk_by (own := [("_law_k", 1)]) (by kernel_rfl)) (fun _ _ _ _ _ => (pg_name (i := 1) sc_law.nd rfl (by first | exact Or.inl rfl | exact Or.inr rfl))) (ad_gName (i := 1) (by intro l e; cases e <;> decide)) (fun _ _ _ _ _ => ppts_nil) (fun _ _ _ _ _ => (pp_drop (pp_call (t__law_right XI GN c) hG (hr.mono (by decide)) takes0 rfl (ppa_cons (pp_call (t__law_pot XI GN c) hG (hr.mono (by decide)) takes0 rfl (ppa_cons (pp_v 0) (ppa_cons (pp_v 1) ppa_nil))) ppa_nil))))) ppa_nil))))))
end
end Pu

set_option Elab.async false
set_option linter.all false
set_option maxRecDepth 100000
set_option maxHeartbeats 4000000
namespace Pu
open L2 PySem PySem.Spec PyProof.Rows E10
section
variable {μ : Μ} {i j : Int} {a b : Str}
theorem le_ii : gLe (.v (.int i)) (.v (.int j)) μ = .ok (.v (.bl (decide (i ≤ j)))) μ := rfl
theorem lt_ii : gLt (.v (.int i)) (.v (.int j)) μ = .ok (.v (.bl (decide (i < j)))) μ := rfl
theorem gt_ii : gGt (.v (.int i)) (.v (.int j)) μ = .ok (.v (.bl (decide (j < i)))) μ := rfl
theorem le_ss : gLe (.v (.str a)) (.v (.str b)) μ = .ok (.v (.bl (leS a b))) μ := rfl
theorem add_ii : gAdd (.v (.int i)) (.v (.int j)) μ = .ok (.v (.int (i + j))) μ := rfl
theorem sub_ii : fSub (.v (.int i)) (.v (.int j)) μ = .ok (.v (.int (i - j))) μ := rfl
theorem mul_ii (h : i.natAbs < 2 ^ 64 ∨ j.natAbs < 2 ^ 64) : gMul (.v (.int i)) (.v (.int j)) μ = .ok (.v (.int (i * j))) μ := by
  show O.or (if decide (i.natAbs < 2 ^ 64 ∨ j.natAbs < 2 ^ 64) = true then O.ok (W.v (.int (i * j))) μ else O.bad) _ = _
  rw [decide_eq_true h]
  rfl
theorem neg_i : fNeg (.v (.int i)) μ = .ok (.v (.int (-i))) μ := rfl
theorem eq_ii : gEq (.v (.int i)) (.v (.int j)) μ = .ok (.v (.bl (i == j))) μ := by
  show (O.ok (W.v (.bl ((i == j) != false))) μ).or _ = _
  simp
theorem ne_bb {c d : Bool} : gNe (.v (.bl c)) (.v (.bl d)) μ = .ok (.v (.bl (c != d))) μ := by
  cases c <;> cases d <;> rfl
theorem eq_bb {c d : Bool} : gEq (.v (.bl c)) (.v (.bl d)) μ = .ok (.v (.bl (c == d))) μ := by
  cases c <;> cases d <;> rfl
theorem eq_ss : gEq (.v (.str a)) (.v (.str b)) μ = .ok (.v (.bl (a == b))) μ := by
  show (O.ok (W.v (.bl ((a == b) != false))) μ).or _ = _
  simp
theorem ne_ss : gNe (.v (.str a)) (.v (.str b)) μ = .ok (.v (.bl (!(a == b)))) μ := by
  show (O.ok (W.v (.bl ((a == b) != true))) μ).or _ = _
  cases (a == b) <;> rfl
end
def itP : W → Μ → O (List P) := fun w m => match w with
  | .v (.lst ps) => few ps m
  | .v (.tup ps) => few ps m
  | .v (.str z) => few (chrP z) m
  | .v (.dct kvs) => few (kvs.map fun kp => keyOf kp.1) m
  | _ => .bad
def itK : W → Μ → O (List P) := dctB fun ps m => few (ps.map fun kp => keyOf kp.1) m
def itV : W → Μ → O (List P) := dctB fun ps m => few (ps.map fun kp => kp.2) m
def itI : W → Μ → O (List P) := dctB fun ps m => few (ps.map fun kp => .tup [keyOf kp.1, kp.2]) m
section
variable {F : EF} {γ : Γ} {μ : Μ}
theorem iAny_eq : iAny F γ μ = (F γ μ).bind itP := rfl
theorem iKeys_eq : iKeysP F γ μ = (F γ μ).bind itK := rfl
theorem iVals_eq : iValsP F γ μ = (F γ μ).bind itV := rfl
theorem iItems_eq : iItemsP F γ μ = (F γ μ).bind itI := rfl
theorem it_l {ps : List P} (h : ps.length ≤ 100000) : itP (.v (.lst ps)) μ = .ok ps μ := if_pos h
theorem it_t {ps : List P} (h : ps.length ≤ 100000) : itP (.v (.tup ps)) μ = .ok ps μ := if_pos h
theorem it_s {z : Str} (h : (chrP z).length ≤ 100000) : itP (.v (.str z)) μ = .ok (chrP z) μ := if_pos h
end
def fldP (C : Addr) (f : Str) : W → Μ → O W := fun w m => match rdI m w with
  | some (C', ps) => if C' = C then match ps.lookup f with
    | some p => .ok (.v p) m
    | none => .bad
    else .bad
  | none => .bad
def methP (C : Addr) (m : Str) (F : FF) (A : AF) (γ : Γ) : W → Μ → O W := fun w m1 => match rdI m1 w with
  | some (C', ps) => if C' = C ∧ ps.lookup m = none then (A γ m1).bind fun ws m2 => F (w :: ws) m2 else .bad
  | none => .bad
def frzP (n : Nat) : W → Μ → O W := fun w m => match w with
  | .v p => .ok (.v p) m
  | .loc j => if j + 1 = m.length ∧ n ≤ j then match (m[j]?).bind PC.p with
      | some p => .ok (.v p) (m.take j)
      | none => .bad
    else .bad
def makeP (C : Addr) (F : FF) : List W → Μ → O W := fun ws m => (F (.loc m.length :: ws) (m ++ [.ins C []])).bind fun w m' => match w with
  | .v .non => .ok (.loc m.length) m'
  | _ => .bad
section
variable {F Fo : EF} {A : AF} {FF' : FF} {γ : Γ} {μ : Μ} {C : Addr} {f m : Str}
theorem fFld_eq : fFld C f F γ μ = (F γ μ).bind (fldP C f) := rfl
theorem fMeth_eq : fMeth C m FF' Fo A γ μ = (Fo γ μ).bind (methP C m FF' A γ) := rfl
theorem fFrz_eq : fFrz F γ μ = (F γ μ).bind (frzP μ.length) := rfl
theorem fMake_eq : fMake C FF' A γ μ = (A γ μ).bind (makeP C FF') := rfl
theorem frz_v {n : Nat} {p : P} : frzP n (.v p) μ = .ok (.v p) μ := rfl
theorem frz_l {c : PC} {p : P} (h : c.p = some p) : frzP μ.length (.loc μ.length) (μ ++ [c]) = .ok (.v p) μ := by
  unfold frzP
  simp [h]
theorem last_at {c : PC} : (μ ++ [c])[μ.length]? = some c := by simp
theorem last_set {c d : PC} : (μ ++ [c]).set μ.length d = μ ++ [d] := by simp
theorem make_ok {ws : List W} {c : PC} (h : FF' (.loc μ.length :: ws) (μ ++ [.ins C []]) = .ok (.v .non) (μ ++ [c])) : makeP C FF' ws μ = .ok (.loc μ.length) (μ ++ [c]) := by
  unfold makeP
  rw [h]
  rfl
end
theorem kit_ss : kitB "str" "str" = some true := by decide +kernel
theorem kit_ii : kitB "int" "int" = some true := by decide +kernel
theorem kit_ib : kitB "int" "bool" = some false := by decide +kernel
theorem kit_dd : kitB "dict" "dict" = some true := by decide +kernel
section
variable {cs : List Addr} {μ : Μ}
theorem isi_ss (z : Str) : fIsi cs [.v (.str z), .v (.ty "str")] μ = .ok (.v (.bl true)) μ := by
  show (match kitB "str" "str" with
    | some b => O.ok (W.v (.bl b)) μ
    | none => .bad) = _
  rw [kit_ss]
theorem isi_ii (i : Int) : fIsi cs [.v (.int i), .v (.ty "int")] μ = .ok (.v (.bl true)) μ := by
  show (match kitB "int" "int" with
    | some b => O.ok (W.v (.bl b)) μ
    | none => .bad) = _
  rw [kit_ii]
theorem isi_ib (i : Int) : fIsi cs [.v (.int i), .v (.ty "bool")] μ = .ok (.v (.bl false)) μ := by
  show (match kitB "int" "bool" with
    | some b => O.ok (W.v (.bl b)) μ
    | none => .bad) = _
  rw [kit_ib]
theorem isi_dd (ks : List (Key × P)) : fIsi cs [.v (.dct ks), .v (.ty "dict")] μ = .ok (.v (.bl true)) μ := by
  show (match kitB "dict" "dict" with
    | some b => O.ok (W.v (.bl b)) μ
    | none => .bad) = _
  rw [kit_dd]
theorem isi_own {C : Addr} (h : C ∈ cs) (fs : List (Str × P)) : fIsi cs [.v (.ins C fs), .v (.ref C)] μ = .ok (.v (.bl true)) μ := by
  unfold fIsi tyP clsP
  simp only [h, ↓reduceIte, kitP, and_self, decide_true]
theorem lenS_s {z : Str} (h : z.length ≤ 100000) : fLenS [.v (.str z)] μ = .ok (.v (.int z.length)) μ := by
  have : z.length ≤ sizeLine := Nat.le_trans h (by decide)
  unfold fLenS
  simp only [this, ↓reduceIte]
theorem lenS_l {ps : List P} : fLenS [.v (.lst ps)] μ = .bad := rfl
theorem lenS_d {ps : List (Key × P)} : fLenS [.v (.dct ps)] μ = .bad := rfl
theorem lenL_d {ps : List (Key × P)} : fLenL [.v (.dct ps)] μ = .bad := rfl
theorem lenL_l {ps : List P} : fLenL [.v (.lst ps)] μ = .ok (.v (.int ps.length)) μ := rfl
theorem lenD_d {ps : List (Key × P)} : fLenD [.v (.dct ps)] μ = .ok (.v (.int ps.length)) μ := rfl
theorem len_s {z : Str} (h : z.length ≤ 100000) : gLen [.v (.str z)] μ = .ok (.v (.int z.length)) μ := by
  show (fLenS [.v (.str z)] μ).or _ = _
  rw [lenS_s h]
  rfl
theorem len_l {ps : List P} : gLen [.v (.lst ps)] μ = .ok (.v (.int ps.length)) μ := rfl
theorem len_d {ps : List (Key × P)} : gLen [.v (.dct ps)] μ = .ok (.v (.int ps.length)) μ := rfl
end
/-- a name as the program takes one -/
structure Nm (z : Str) : Prop where
  lo : 1 ≤ z.length
  hi : z.length ≤ 8
  az : ∀ c ∈ z.cps.toList, 97 ≤ c ∧ c ≤ 122
theorem few_le {ps : List P} {μ : Μ} (h : ps.length ≤ 100000) : few ps μ = .ok ps μ := if_pos h
theorem bls_all {g : List Bool → Bool} {ps : List P} {bs : List Bool} {μ : Μ} (h : blsP ps = some bs) : fBls g [.v (.lst ps)] μ = .ok (.v (.bl (g bs))) μ := by
  unfold fBls
  show (match blsP ps with
    | some bs => O.ok (W.v (.bl (g bs))) μ
    | none => .bad) = _
  rw [h]
theorem bls_map {α : Type} (f : α → Bool) : ∀ l : List α, blsP (l.map fun a => P.bl (f a)) = some (l.map f)
  | [] => rfl
  | a :: r => by
    show (blsP (r.map fun a => P.bl (f a))).map (f a :: ·) = _
    rw [bls_map f r]
    rfl
theorem le_one (a c : Nat) : leS ⟨#[a]⟩ ⟨#[c]⟩ = decide (a ≤ c) := by
  have e : (([c] : List Nat) < [a]) ↔ c < a := by
    rw [List.cons_lt_cons_iff]
    simp
  show (!decide (([c] : List Nat) < [a])) = _
  by_cases h : a ≤ c
  · rw [decide_eq_true h, decide_eq_false (fun z => absurd (e.mp z) (by omega))]
    rfl
  · rw [decide_eq_false h, decide_eq_true (e.mpr (by omega))]
    rfl
theorem lc_on {α : Type} {f : GF} {T : TF} {E : EF} {γ : Γ} {μ : Μ} (g : α → P) (t : α → Bool) (e : α → P) : ∀ {l : List α}, (∀ a ∈ l, ∃ γ1, f (g a) γ = some γ1 ∧ T γ1 μ = .ok (t a) μ ∧ (t a = true → E γ1 μ = .ok (.v (e a)) μ)) → lcGo f T E γ (l.map g) μ = .ok ((l.filter t).map e) μ
  | [], _ => rfl
  | a :: r, h => by
    obtain ⟨γ1, h1, h2, h3⟩ := h a List.mem_cons_self
    have ih := lc_on (l := r) g t e fun q m => h q (List.mem_cons_of_mem _ m)
    rw [List.map_cons, lcGo, h1]
    simp only [h2, O.nx, O.bind_ok]
    by_cases c : t a = true
    · rw [if_pos c, h3 c]
      simp only [O.bind_ok, lcW, ih, List.filter_cons, c, if_true, List.map_cons]
    · rw [if_neg c, ih]
      simp only [List.filter_cons, c, Bool.false_eq_true, if_false]
theorem lc_all {α : Type} {f : GF} {E : EF} {γ : Γ} {μ : Μ} (g : α → P) (e : α → P) {l : List α} (h : ∀ a ∈ l, ∃ γ1, f (g a) γ = some γ1 ∧ E γ1 μ = .ok (.v (e a)) μ) : lcGo f fYes E γ (l.map g) μ = .ok (l.map e) μ := by
  have q := lc_on (f := f) (T := fYes) (E := E) (γ := γ) (μ := μ) g (fun _ => true) e (l := l) fun a m => let ⟨γ1, h1, h2⟩ := h a m; ⟨γ1, h1, rfl, fun _ => h2⟩
  rw [q, List.filter_eq_self.mpr fun _ _ => rfl]
theorem dc_on {α : Type} {f : GF} {T : TF} {Ek Ev : EF} {γ : Γ} {μ : Μ} (g : α → P) (t : α → Bool) (k : α → Key) (v : α → P) : ∀ {l : List α} {acc : List (Key × P)}, (∀ a ∈ l, ∃ γ1 kp, f (g a) γ = some γ1 ∧ T γ1 μ = .ok (t a) μ ∧ (t a = true → Ek γ1 μ = .ok (.v kp) μ ∧ keyP kp = some (k a) ∧ Ev γ1 μ = .ok (.v (v a)) μ)) →
    dcGo f T Ek Ev γ (l.map g) acc μ = .ok ((l.filter t).foldl (fun a p => putP a (k p) (v p)) acc) μ
  | [], acc, _ => rfl
  | p :: r, acc, h => by
    obtain ⟨γ1, kp, h1, h2, h3⟩ := h p List.mem_cons_self
    have ih := fun acc => dc_on (l := r) (acc := acc) g t k v fun q m => h q (List.mem_cons_of_mem _ m)
    rw [List.map_cons, dcGo, h1]
    simp only [h2, O.nx, O.bind_ok]
    by_cases c : t p = true
    · obtain ⟨h4, h5, h6⟩ := h3 c
      rw [if_pos c, h4]
      simp only [O.bind_ok, h6, dcW, h5, ih, List.filter_cons, c, if_true, List.foldl_cons]
    · rw [if_neg c, ih]
      simp only [List.filter_cons, c, Bool.false_eq_true, if_false]
/-- a dict by unlike keys -/
theorem dc_all {α : Type} {f : GF} {Ek Ev : EF} {γ : Γ} {μ : Μ} (g : α → P) (k : α → Key) (v : α → P) {l : List α} (nd : (l.map k).Nodup) (h : ∀ a ∈ l, ∃ γ1 kp, f (g a) γ = some γ1 ∧ Ek γ1 μ = .ok (.v kp) μ ∧ keyP kp = some (k a) ∧ Ev γ1 μ = .ok (.v (v a)) μ) :
    dcGo f fYes Ek Ev γ (l.map g) [] μ = .ok (l.map fun a => (k a, v a)) μ := by
  have q := dc_on (f := f) (T := fYes) (Ek := Ek) (Ev := Ev) (γ := γ) (μ := μ) g (fun _ => true) k v (l := l) (acc := []) fun a m => let ⟨γ1, kp, h1, h2, h3, h4⟩ := h a m; ⟨γ1, kp, h1, rfl, fun _ => ⟨h2, h3, h4⟩⟩
  rw [q, List.filter_eq_self.mpr fun _ _ => rfl, put_all k v (by simpa using nd)]
  rfl
/-! ### tables of ints by names -/
abbrev Tb := List (Str × Int)
def rowP (p : Str × Int) : Key × P := (Sum.inr p.1, .int p.2)
def dctP (t : Tb) : P := .dct (t.map rowP)
def keys (t : Tb) : List Str := t.map (·.1)
def get (t : Tb) (z : Str) : Option Int := (t.find? fun p => decide (p.1 = z)).map (·.2)
theorem val_dct (t : Tb) (z : Str) : valP (t.map rowP) (Sum.inr z) = (get t z).map P.int := by
  unfold valP get
  rw [List.find?_map, Option.map_map, Option.map_map]
  have e : ((fun kv : Key × P => decide (kv.1 = Sum.inr z)) ∘ rowP) = fun p : Str × Int => decide (p.1 = z) := by
    funext p
    show decide ((Sum.inr p.1 : Key) = Sum.inr z) = _
    congr 1
    exact propext ⟨fun h => by cases h; rfl, fun h => by rw [h]⟩
  rw [e]
  rfl
theorem get_mem {t : Tb} {z : Str} : (get t z).isSome = true ↔ z ∈ keys t := by
  unfold get keys
  rw [Option.isSome_map, List.find?_isSome]
  constructor
  · rintro ⟨p, m, e⟩
    exact List.mem_map.mpr ⟨p, m, of_decide_eq_true e⟩
  · intro m
    obtain ⟨p, m, e⟩ := List.mem_map.mp m
    exact ⟨p, m, decide_eq_true e⟩
theorem get_of {t : Tb} (nd : (keys t).Nodup) {p : Str × Int} (m : p ∈ t) : get t p.1 = some p.2 := by
  induction t with
  | nil => cases m
  | cons q r ih =>
    have nd' := List.nodup_cons.mp (show (q.1 :: keys r).Nodup from nd)
    unfold get
    rw [List.find?_cons]
    rcases List.mem_cons.mp m with rfl | m
    · simp
    · have ne : q.1 ≠ p.1 := fun e => nd'.1 (e ▸ List.mem_map.mpr ⟨p, m, rfl⟩)
      rw [decide_eq_false ne]
      exact ih nd'.2 m
theorem get_in {t : Tb} {z : Str} {v : Int} (h : get t z = some v) : (z, v) ∈ t := by
  unfold get at h
  obtain ⟨p, h1, h2⟩ := Option.map_eq_some_iff.mp h
  have e := List.find?_some h1
  have m := List.mem_of_find?_eq_some h1
  have e2 : p.1 = z := of_decide_eq_true e
  have e3 : p = (z, v) := by rw [← e2, ← h2]
  rw [e3] at m
  exact m
theorem keysS_rows : ∀ t : Tb, keysS (t.map rowP) = some (keys t)
  | [] => rfl
  | p :: t => by
    show (keysS (t.map rowP)).map (p.1 :: ·) = _
    rw [keysS_rows t]
    rfl
theorem keys_rows (t : Tb) : (t.map rowP).map (fun kp => keyOf kp.1) = (keys t).map P.str := by
  unfold keys
  rw [List.map_map, List.map_map]
  rfl
theorem dget_ok {t : Tb} {z : Str} {v : Int} {μ : Μ} (h : get t z = some v) : gIx (.v (dctP t)) (.v (.str z)) μ = .ok (.v (.int v)) μ := by
  show (O.bad.or (O.bad.or (O.bad.or (fDGet (.v (dctP t)) (.v (.str z)) μ)))) = _
  simp only [O.or_bad]
  show (match valP (t.map rowP) (Sum.inr z) with
      | some p => O.ok (W.v p) μ
      | none => .bad) = _
  rw [val_dct, h]
  rfl
theorem din_ok {t : Tb} {z : Str} {μ : Μ} (neg : Bool) : gIn neg (.v (.str z)) (.v (dctP t)) μ = .ok (.v (.bl (decide (z ∈ keys t) != neg))) μ := by
  show (O.bad.or (O.ok (W.v (.bl ((valP (t.map rowP) (Sum.inr z)).isSome != neg))) μ)) = _
  rw [O.or_bad, val_dct, Option.isSome_map]
  congr 4
  by_cases c : z ∈ keys t
  · rw [decide_eq_true c, get_mem.mpr c]
  · rw [decide_eq_false c]
    cases e : (get t z).isSome with
    | false => rfl
    | true => exact absurd (get_mem.mp e) c
section
variable {t : Tb} {μ : Μ}
theorem it_d (le : t.length ≤ 100000) : itP (.v (dctP t)) μ = .ok ((keys t).map P.str) μ := by
  show few ((t.map rowP).map fun kp => keyOf kp.1) μ = _
  rw [few_le (by rw [List.length_map, List.length_map]; exact le), keys_rows]
theorem it_v (le : t.length ≤ 100000) : itV (.v (dctP t)) μ = .ok (t.map fun p => P.int p.2) μ := by
  show few ((t.map rowP).map fun kp => kp.2) μ = _
  rw [few_le (by rw [List.length_map, List.length_map]; exact le), List.map_map]
  rfl
theorem it_i (le : t.length ≤ 100000) : itI (.v (dctP t)) μ = .ok (t.map fun p => P.tup [.str p.1, .int p.2]) μ := by
  show few ((t.map rowP).map fun kp => P.tup [keyOf kp.1, kp.2]) μ = _
  rw [few_le (by rw [List.length_map, List.length_map]; exact le), List.map_map]
  rfl
theorem len_t : gLen [.v (dctP t)] μ = .ok (.v (.int t.length)) μ := by
  show gLen [.v (.dct (t.map rowP))] μ = _
  rw [len_d, List.length_map]
theorem isi_t {cs : List Addr} : fIsi cs [.v (dctP t), .v (.ty "dict")] μ = .ok (.v (.bl true)) μ := isi_dd _
theorem sort_t {S : SF'} (le : t.length < 64) : gSort' S [.v (dctP t)] μ = .ok (.v (.lst ((srt (keys t)).map P.str))) μ := by
  show O.or .bad (O.or (match keysS (t.map rowP) with
    | some zs => if zs.length < 64 then O.ok (W.v (.lst ((srt zs).map .str))) μ else .bad
    | none => .bad) _) = _
  rw [O.or_bad, keysS_rows]
  simp only [show (keys t).length < 64 from by unfold keys; rw [List.length_map]; exact le, ↓reduceIte, O.or_ok]
theorem set_t {S : SF'} (le : t.length < 32) : gSet S [.v (dctP t)] μ = .ok (.v (.set S (insAll [] (keys t)))) μ := by
  show O.or .bad (O.or (match keysS (t.map rowP) with
    | some zs => if zs.length < 32 then O.ok (W.v (.set S (insAll [] zs))) μ else .bad
    | none => .bad) _) = _
  rw [O.or_bad, keysS_rows]
  simp only [show (keys t).length < 32 from by unfold keys; rw [List.length_map]; exact le, ↓reduceIte, O.or_ok]
theorem dict_t {c : Kind} : gDict c [.v (dctP t)] μ = mkD c (t.map rowP) μ := by
  show O.or (mkD c (t.map rowP) μ) _ = _
  cases c <;> rfl
end
end Pu

set_option Elab.async false
set_option linter.all false
set_option maxRecDepth 100000
set_option maxHeartbeats 4000000
namespace Pu
open L2 PySem PySem.Spec PyProof.Rows E10
open He (ga ma)
section
variable {Pg : Program} {w : World} {K : PySem.W.Frag} {μ : Μ}
theorem len_chr (z : Str) : (chrP z).length = z.length := by
  unfold chrP
  rw [List.length_map, Array.length_toList]
  rfl
theorem e_is_name {z : Str} (h : Nm z) : D_is_name Pg w K [.v (.str z)] μ = .ok (.v (.bl true)) μ := by
  have hl := h.hi
  have h1 : decide ((1 : Int) ≤ ((z.length : Nat) : Int)) = true := decide_eq_true (by have := h.lo; omega)
  have h8 : decide (((z.length : Nat) : Int) ≤ 8) = true := decide_eq_true (by omega)
  unfold D_is_name
  have hz := len_chr z
  simp (config := { zeta := true }) only [fDef, sSeq, sIfS, sRet, sSet, sNext, sDrop, sFor, sPar, sPar3, sAsgP, sSubName, sDPutP, sLPutP, sFldP, sBad, fCall, fCons, fNil, fVar, fC, fOp, fUn, fTest, fNotT, fAndT, fOrT, fAndV, fOrV, fNotV, fIf, fChain, fSeq, fLstC, fLc, fDc, iAny_eq, iVals_eq, iItems_eq, iKeys_eq, iRg1, iRg2, vals, wipeG, O.bind_ok, O.s_ok, O.or_bad, O.or_ok, O.nx, leave, mkL, mkD, rdL, rdD, rdI, seqP, wD, wI, tgName, tgTup, tgCons, tgNil, fMeth_eq, fFld_eq, fFrz_eq, fMake_eq, fCallO, fYes, PC.p, le_ii, lt_ii, gt_ii, le_ss, add_ii, sub_ii, neg_i, eq_ii, ne_bb, eq_bb, eq_ss, ne_ss, List.map_cons, List.map_nil, List.length_cons, List.length_nil, List.replicate_succ, List.replicate_zero, List.cons_append, List.nil_append, List.getElem?_cons_zero, List.getElem?_cons_succ, List.getElem?_nil, List.set_cons_zero, List.set_cons_succ, Option.bind_some, Option.map_some, Nat.reduceAdd, Nat.reduceSub, Nat.reduceEqDiff, ↓reduceIte, Bool.not_true, Bool.not_false, Bool.false_eq_true, and_self, and_true, true_and, List.take_append_of_le_length, List.take_length, isi_ss, len_s (show z.length ≤ 100000 by omega), h1, h8, it_s (show (chrP z).length ≤ 100000 by omega)]
  have go : lcGo (tgName 1) fYes (fChain gLe gLe (fC (.str "a")) (fVar 1) (fC (.str "z"))) [some (W.v (.str z)), none] (chrP z) μ = .ok ((chrP z).map fun _ => P.bl true) μ := by
    have e := lc_val (f := tgName 1) (T := fYes) (E := fChain gLe gLe (fC (.str "a")) (fVar 1) (fC (.str "z"))) (γ := [some (W.v (.str z)), none]) (μ := μ) (fun _ => true) (fun _ => P.bl true) (ps := chrP z) fun p hp => by
      obtain ⟨c, hc, rfl⟩ := List.mem_map.mp hp
      obtain ⟨a1, a2⟩ := h.az c hc
      refine ⟨_, rfl, rfl, fun _ => ?_⟩
      have l1 : leS ("a" : Str) ⟨#[c]⟩ = true := (le_one 97 c).trans (decide_eq_true a1)
      have l2 : leS ⟨#[c]⟩ ("z" : Str) = true := (le_one c 122).trans (decide_eq_true a2)
      simp (config := { zeta := true }) only [fDef, sSeq, sIfS, sRet, sSet, sNext, sDrop, sFor, sPar, sPar3, sAsgP, sSubName, sDPutP, sLPutP, sFldP, sBad, fCall, fCons, fNil, fVar, fC, fOp, fUn, fTest, fNotT, fAndT, fOrT, fAndV, fOrV, fNotV, fIf, fChain, fSeq, fLstC, fLc, fDc, iAny_eq, iVals_eq, iItems_eq, iKeys_eq, iRg1, iRg2, vals, wipeG, O.bind_ok, O.s_ok, O.or_bad, O.or_ok, O.nx, leave, mkL, mkD, rdL, rdD, rdI, seqP, wD, wI, tgName, tgTup, tgCons, tgNil, fMeth_eq, fFld_eq, fFrz_eq, fMake_eq, fCallO, fYes, PC.p, le_ii, lt_ii, gt_ii, le_ss, add_ii, sub_ii, neg_i, eq_ii, ne_bb, eq_bb, eq_ss, ne_ss, List.map_cons, List.map_nil, List.length_cons, List.length_nil, List.replicate_succ, List.replicate_zero, List.cons_append, List.nil_append, List.getElem?_cons_zero, List.getElem?_cons_succ, List.getElem?_nil, List.set_cons_zero, List.set_cons_succ, Option.bind_some, Option.map_some, Nat.reduceAdd, Nat.reduceSub, Nat.reduceEqDiff, ↓reduceIte, Bool.not_true, Bool.not_false, Bool.false_eq_true, and_self, and_true, true_and, List.take_append_of_le_length, List.take_length, l1, l2]
    rw [e]
    congr 1
    rw [List.filter_eq_self.mpr fun _ _ => rfl]
  rw [go]
  simp (config := { zeta := true }) only [fDef, sSeq, sIfS, sRet, sSet, sNext, sDrop, sFor, sPar, sPar3, sAsgP, sSubName, sDPutP, sLPutP, sFldP, sBad, fCall, fCons, fNil, fVar, fC, fOp, fUn, fTest, fNotT, fAndT, fOrT, fAndV, fOrV, fNotV, fIf, fChain, fSeq, fLstC, fLc, fDc, iAny_eq, iVals_eq, iItems_eq, iKeys_eq, iRg1, iRg2, vals, wipeG, O.bind_ok, O.s_ok, O.or_bad, O.or_ok, O.nx, leave, mkL, mkD, rdL, rdD, rdI, seqP, wD, wI, tgName, tgTup, tgCons, tgNil, fMeth_eq, fFld_eq, fFrz_eq, fMake_eq, fCallO, fYes, PC.p, le_ii, lt_ii, gt_ii, le_ss, add_ii, sub_ii, neg_i, eq_ii, ne_bb, eq_bb, eq_ss, ne_ss, List.map_cons, List.map_nil, List.length_cons, List.length_nil, List.replicate_succ, List.replicate_zero, List.cons_append, List.nil_append, List.getElem?_cons_zero, List.getElem?_cons_succ, List.getElem?_nil, List.set_cons_zero, List.set_cons_succ, Option.bind_some, Option.map_some, Nat.reduceAdd, Nat.reduceSub, Nat.reduceEqDiff, ↓reduceIte, Bool.not_true, Bool.not_false, Bool.false_eq_true, and_self, and_true, true_and, List.take_append_of_le_length, List.take_length, bls_all (bls_map (fun _ => true) (chrP z))]
  simp
end
end Pu

set_option Elab.async false
set_option linter.all false
set_option maxRecDepth 100000
set_option maxHeartbeats 4000000
namespace Pu
open L2 PySem PySem.Spec PyProof.Rows E10
open He (ga ma)
/-- shifts as an Earliest takes them -/
structure Ok (t : Tb) : Prop where
  ne : t ≠ []
  nm : ∀ z ∈ keys t, Nm z
  nd : (keys t).Nodup
  le : t.length ≤ 8
theorem len_keys (t : Tb) : (keys t).length = t.length := List.length_map ..
section
variable {Pg : Program} {w : World} {K : PySem.W.Frag} {μ : Μ}
theorem e_is_integer (i : Int) : D_is_integer Pg w K [.v (.int i)] μ = .ok (.v (.bl true)) μ := by
  unfold D_is_integer
  simp (config := { zeta := true }) only [fDef, sSeq, sIfS, sRet, sSet, sNext, sDrop, sFor, sPar, sPar3, sAsgP, sSubName, sDPutP, sLPutP, sFldP, sBad, fCall, fCons, fNil, fVar, fC, fOp, fUn, fTest, fNotT, fAndT, fOrT, fAndV, fOrV, fNotV, fIf, fChain, fSeq, fLstC, fLc, fDc, iAny_eq, iVals_eq, iItems_eq, iKeys_eq, iRg1, iRg2, vals, wipeG, O.bind_ok, O.s_ok, O.or_bad, O.or_ok, O.nx, leave, mkL, mkD, rdL, rdD, rdI, seqP, wD, wI, tgName, tgTup, tgCons, tgNil, fMeth_eq, fFld_eq, fFrz_eq, fMake_eq, fCallO, fYes, PC.p, le_ii, lt_ii, gt_ii, le_ss, add_ii, sub_ii, neg_i, eq_ii, ne_bb, eq_bb, eq_ss, ne_ss, List.map_cons, List.map_nil, List.length_cons, List.length_nil, List.replicate_succ, List.replicate_zero, List.cons_append, List.nil_append, List.getElem?_cons_zero, List.getElem?_cons_succ, List.getElem?_nil, List.set_cons_zero, List.set_cons_succ, Option.bind_some, Option.map_some, Nat.reduceAdd, Nat.reduceSub, Nat.reduceEqDiff, ↓reduceIte, Bool.not_true, Bool.not_false, Bool.false_eq_true, and_self, and_true, true_and, List.take_append_of_le_length, List.take_length, isi_ii, isi_ib]
theorem e_has_names {t : Tb} (h : t ≠ []) (nm : ∀ z ∈ keys t, Nm z) (le : t.length ≤ 64) : D_has_names Pg w K [.v (dctP t)] μ = .ok (.v (.bl true)) μ := by
  have h0 : decide ((0 : Int) < ((t.length : Nat) : Int)) = true := decide_eq_true (by have := List.length_pos_iff.mpr h; omega)
  unfold D_has_names
  simp (config := { zeta := true }) only [fDef, sSeq, sIfS, sRet, sSet, sNext, sDrop, sFor, sPar, sPar3, sAsgP, sSubName, sDPutP, sLPutP, sFldP, sBad, fCall, fCons, fNil, fVar, fC, fOp, fUn, fTest, fNotT, fAndT, fOrT, fAndV, fOrV, fNotV, fIf, fChain, fSeq, fLstC, fLc, fDc, iAny_eq, iVals_eq, iItems_eq, iKeys_eq, iRg1, iRg2, vals, wipeG, O.bind_ok, O.s_ok, O.or_bad, O.or_ok, O.nx, leave, mkL, mkD, rdL, rdD, rdI, seqP, wD, wI, tgName, tgTup, tgCons, tgNil, fMeth_eq, fFld_eq, fFrz_eq, fMake_eq, fCallO, fYes, PC.p, le_ii, lt_ii, gt_ii, le_ss, add_ii, sub_ii, neg_i, eq_ii, ne_bb, eq_bb, eq_ss, ne_ss, List.map_cons, List.map_nil, List.length_cons, List.length_nil, List.replicate_succ, List.replicate_zero, List.cons_append, List.nil_append, List.getElem?_cons_zero, List.getElem?_cons_succ, List.getElem?_nil, List.set_cons_zero, List.set_cons_succ, Option.bind_some, Option.map_some, Nat.reduceAdd, Nat.reduceSub, Nat.reduceEqDiff, ↓reduceIte, Bool.not_true, Bool.not_false, Bool.false_eq_true, and_self, and_true, true_and, List.take_append_of_le_length, List.take_length, isi_t, len_t, h0, it_d (show t.length ≤ 100000 by omega)]
  rw [lc_all P.str (fun _ => P.bl true) (l := keys t) fun z m => ⟨_, rfl, by simp (config := { zeta := true }) only [fDef, sSeq, sIfS, sRet, sSet, sNext, sDrop, sFor, sPar, sPar3, sAsgP, sSubName, sDPutP, sLPutP, sFldP, sBad, fCall, fCons, fNil, fVar, fC, fOp, fUn, fTest, fNotT, fAndT, fOrT, fAndV, fOrV, fNotV, fIf, fChain, fSeq, fLstC, fLc, fDc, iAny_eq, iVals_eq, iItems_eq, iKeys_eq, iRg1, iRg2, vals, wipeG, O.bind_ok, O.s_ok, O.or_bad, O.or_ok, O.nx, leave, mkL, mkD, rdL, rdD, rdI, seqP, wD, wI, tgName, tgTup, tgCons, tgNil, fMeth_eq, fFld_eq, fFrz_eq, fMake_eq, fCallO, fYes, PC.p, le_ii, lt_ii, gt_ii, le_ss, add_ii, sub_ii, neg_i, eq_ii, ne_bb, eq_bb, eq_ss, ne_ss, List.map_cons, List.map_nil, List.length_cons, List.length_nil, List.replicate_succ, List.replicate_zero, List.cons_append, List.nil_append, List.getElem?_cons_zero, List.getElem?_cons_succ, List.getElem?_nil, List.set_cons_zero, List.set_cons_succ, Option.bind_some, Option.map_some, Nat.reduceAdd, Nat.reduceSub, Nat.reduceEqDiff, ↓reduceIte, Bool.not_true, Bool.not_false, Bool.false_eq_true, and_self, and_true, true_and, List.take_append_of_le_length, List.take_length, e_is_name (nm z m)]⟩]
  simp (config := { zeta := true }) only [fDef, sSeq, sIfS, sRet, sSet, sNext, sDrop, sFor, sPar, sPar3, sAsgP, sSubName, sDPutP, sLPutP, sFldP, sBad, fCall, fCons, fNil, fVar, fC, fOp, fUn, fTest, fNotT, fAndT, fOrT, fAndV, fOrV, fNotV, fIf, fChain, fSeq, fLstC, fLc, fDc, iAny_eq, iVals_eq, iItems_eq, iKeys_eq, iRg1, iRg2, vals, wipeG, O.bind_ok, O.s_ok, O.or_bad, O.or_ok, O.nx, leave, mkL, mkD, rdL, rdD, rdI, seqP, wD, wI, tgName, tgTup, tgCons, tgNil, fMeth_eq, fFld_eq, fFrz_eq, fMake_eq, fCallO, fYes, PC.p, le_ii, lt_ii, gt_ii, le_ss, add_ii, sub_ii, neg_i, eq_ii, ne_bb, eq_bb, eq_ss, ne_ss, List.map_cons, List.map_nil, List.length_cons, List.length_nil, List.replicate_succ, List.replicate_zero, List.cons_append, List.nil_append, List.getElem?_cons_zero, List.getElem?_cons_succ, List.getElem?_nil, List.set_cons_zero, List.set_cons_succ, Option.bind_some, Option.map_some, Nat.reduceAdd, Nat.reduceSub, Nat.reduceEqDiff, ↓reduceIte, Bool.not_true, Bool.not_false, Bool.false_eq_true, and_self, and_true, true_and, List.take_append_of_le_length, List.take_length, bls_all (bls_map (fun _ => true) (keys t))]
  simp
theorem e_is_times {t : Tb} (h : t ≠ []) (nm : ∀ z ∈ keys t, Nm z) (le : t.length ≤ 64) : D_is_times Pg w K [.v (dctP t)] μ = .ok (.v (.bl true)) μ := by
  unfold D_is_times
  simp (config := { zeta := true }) only [fDef, sSeq, sIfS, sRet, sSet, sNext, sDrop, sFor, sPar, sPar3, sAsgP, sSubName, sDPutP, sLPutP, sFldP, sBad, fCall, fCons, fNil, fVar, fC, fOp, fUn, fTest, fNotT, fAndT, fOrT, fAndV, fOrV, fNotV, fIf, fChain, fSeq, fLstC, fLc, fDc, iAny_eq, iVals_eq, iItems_eq, iKeys_eq, iRg1, iRg2, vals, wipeG, O.bind_ok, O.s_ok, O.or_bad, O.or_ok, O.nx, leave, mkL, mkD, rdL, rdD, rdI, seqP, wD, wI, tgName, tgTup, tgCons, tgNil, fMeth_eq, fFld_eq, fFrz_eq, fMake_eq, fCallO, fYes, PC.p, le_ii, lt_ii, gt_ii, le_ss, add_ii, sub_ii, neg_i, eq_ii, ne_bb, eq_bb, eq_ss, ne_ss, List.map_cons, List.map_nil, List.length_cons, List.length_nil, List.replicate_succ, List.replicate_zero, List.cons_append, List.nil_append, List.getElem?_cons_zero, List.getElem?_cons_succ, List.getElem?_nil, List.set_cons_zero, List.set_cons_succ, Option.bind_some, Option.map_some, Nat.reduceAdd, Nat.reduceSub, Nat.reduceEqDiff, ↓reduceIte, Bool.not_true, Bool.not_false, Bool.false_eq_true, and_self, and_true, true_and, List.take_append_of_le_length, List.take_length, e_has_names h nm le, it_v (show t.length ≤ 100000 by omega)]
  rw [lc_all (fun p : Str × Int => P.int p.2) (fun _ => P.bl true) (l := t) fun z m => ⟨_, rfl, by simp (config := { zeta := true }) only [fDef, sSeq, sIfS, sRet, sSet, sNext, sDrop, sFor, sPar, sPar3, sAsgP, sSubName, sDPutP, sLPutP, sFldP, sBad, fCall, fCons, fNil, fVar, fC, fOp, fUn, fTest, fNotT, fAndT, fOrT, fAndV, fOrV, fNotV, fIf, fChain, fSeq, fLstC, fLc, fDc, iAny_eq, iVals_eq, iItems_eq, iKeys_eq, iRg1, iRg2, vals, wipeG, O.bind_ok, O.s_ok, O.or_bad, O.or_ok, O.nx, leave, mkL, mkD, rdL, rdD, rdI, seqP, wD, wI, tgName, tgTup, tgCons, tgNil, fMeth_eq, fFld_eq, fFrz_eq, fMake_eq, fCallO, fYes, PC.p, le_ii, lt_ii, gt_ii, le_ss, add_ii, sub_ii, neg_i, eq_ii, ne_bb, eq_bb, eq_ss, ne_ss, List.map_cons, List.map_nil, List.length_cons, List.length_nil, List.replicate_succ, List.replicate_zero, List.cons_append, List.nil_append, List.getElem?_cons_zero, List.getElem?_cons_succ, List.getElem?_nil, List.set_cons_zero, List.set_cons_succ, Option.bind_some, Option.map_some, Nat.reduceAdd, Nat.reduceSub, Nat.reduceEqDiff, ↓reduceIte, Bool.not_true, Bool.not_false, Bool.false_eq_true, and_self, and_true, true_and, List.take_append_of_le_length, List.take_length, e_is_integer]⟩]
  simp (config := { zeta := true }) only [fDef, sSeq, sIfS, sRet, sSet, sNext, sDrop, sFor, sPar, sPar3, sAsgP, sSubName, sDPutP, sLPutP, sFldP, sBad, fCall, fCons, fNil, fVar, fC, fOp, fUn, fTest, fNotT, fAndT, fOrT, fAndV, fOrV, fNotV, fIf, fChain, fSeq, fLstC, fLc, fDc, iAny_eq, iVals_eq, iItems_eq, iKeys_eq, iRg1, iRg2, vals, wipeG, O.bind_ok, O.s_ok, O.or_bad, O.or_ok, O.nx, leave, mkL, mkD, rdL, rdD, rdI, seqP, wD, wI, tgName, tgTup, tgCons, tgNil, fMeth_eq, fFld_eq, fFrz_eq, fMake_eq, fCallO, fYes, PC.p, le_ii, lt_ii, gt_ii, le_ss, add_ii, sub_ii, neg_i, eq_ii, ne_bb, eq_bb, eq_ss, ne_ss, List.map_cons, List.map_nil, List.length_cons, List.length_nil, List.replicate_succ, List.replicate_zero, List.cons_append, List.nil_append, List.getElem?_cons_zero, List.getElem?_cons_succ, List.getElem?_nil, List.set_cons_zero, List.set_cons_succ, Option.bind_some, Option.map_some, Nat.reduceAdd, Nat.reduceSub, Nat.reduceEqDiff, ↓reduceIte, Bool.not_true, Bool.not_false, Bool.false_eq_true, and_self, and_true, true_and, List.take_append_of_le_length, List.take_length, bls_all (bls_map (fun _ => true) t)]
  simp
theorem e_check_shift (i : Int) : D_check_shift Pg w K [.v (.int i)] μ = .ok (.v .non) μ := by
  unfold D_check_shift
  simp (config := { zeta := true }) only [fDef, sSeq, sIfS, sRet, sSet, sNext, sDrop, sFor, sPar, sPar3, sAsgP, sSubName, sDPutP, sLPutP, sFldP, sBad, fCall, fCons, fNil, fVar, fC, fOp, fUn, fTest, fNotT, fAndT, fOrT, fAndV, fOrV, fNotV, fIf, fChain, fSeq, fLstC, fLc, fDc, iAny_eq, iVals_eq, iItems_eq, iKeys_eq, iRg1, iRg2, vals, wipeG, O.bind_ok, O.s_ok, O.or_bad, O.or_ok, O.nx, leave, mkL, mkD, rdL, rdD, rdI, seqP, wD, wI, tgName, tgTup, tgCons, tgNil, fMeth_eq, fFld_eq, fFrz_eq, fMake_eq, fCallO, fYes, PC.p, le_ii, lt_ii, gt_ii, le_ss, add_ii, sub_ii, neg_i, eq_ii, ne_bb, eq_bb, eq_ss, ne_ss, List.map_cons, List.map_nil, List.length_cons, List.length_nil, List.replicate_succ, List.replicate_zero, List.cons_append, List.nil_append, List.getElem?_cons_zero, List.getElem?_cons_succ, List.getElem?_nil, List.set_cons_zero, List.set_cons_succ, Option.bind_some, Option.map_some, Nat.reduceAdd, Nat.reduceSub, Nat.reduceEqDiff, ↓reduceIte, Bool.not_true, Bool.not_false, Bool.false_eq_true, and_self, and_true, true_and, List.take_append_of_le_length, List.take_length, e_is_integer]
theorem e_check_times {t s : Tb} (h : t ≠ []) (nm : ∀ z ∈ keys t, Nm z) (le : t.length ≤ 64) (ls : s.length ≤ 64) (sub : ∀ z ∈ keys s, z ∈ keys t) : D_check_times Pg w K [.v (dctP t), .v (dctP s)] μ = .ok (.v .non) μ := by
  unfold D_check_times
  simp (config := { zeta := true }) only [fDef, sSeq, sIfS, sRet, sSet, sNext, sDrop, sFor, sPar, sPar3, sAsgP, sSubName, sDPutP, sLPutP, sFldP, sBad, fCall, fCons, fNil, fVar, fC, fOp, fUn, fTest, fNotT, fAndT, fOrT, fAndV, fOrV, fNotV, fIf, fChain, fSeq, fLstC, fLc, fDc, iAny_eq, iVals_eq, iItems_eq, iKeys_eq, iRg1, iRg2, vals, wipeG, O.bind_ok, O.s_ok, O.or_bad, O.or_ok, O.nx, leave, mkL, mkD, rdL, rdD, rdI, seqP, wD, wI, tgName, tgTup, tgCons, tgNil, fMeth_eq, fFld_eq, fFrz_eq, fMake_eq, fCallO, fYes, PC.p, le_ii, lt_ii, gt_ii, le_ss, add_ii, sub_ii, neg_i, eq_ii, ne_bb, eq_bb, eq_ss, ne_ss, List.map_cons, List.map_nil, List.length_cons, List.length_nil, List.replicate_succ, List.replicate_zero, List.cons_append, List.nil_append, List.getElem?_cons_zero, List.getElem?_cons_succ, List.getElem?_nil, List.set_cons_zero, List.set_cons_succ, Option.bind_some, Option.map_some, Nat.reduceAdd, Nat.reduceSub, Nat.reduceEqDiff, ↓reduceIte, Bool.not_true, Bool.not_false, Bool.false_eq_true, and_self, and_true, true_and, List.take_append_of_le_length, List.take_length, e_is_times h nm le, it_d (show s.length ≤ 100000 by omega)]
  rw [lc_all P.str (fun _ => P.bl true) (l := keys s) fun z m => ⟨_, rfl, by
    simp (config := { zeta := true }) only [fDef, sSeq, sIfS, sRet, sSet, sNext, sDrop, sFor, sPar, sPar3, sAsgP, sSubName, sDPutP, sLPutP, sFldP, sBad, fCall, fCons, fNil, fVar, fC, fOp, fUn, fTest, fNotT, fAndT, fOrT, fAndV, fOrV, fNotV, fIf, fChain, fSeq, fLstC, fLc, fDc, iAny_eq, iVals_eq, iItems_eq, iKeys_eq, iRg1, iRg2, vals, wipeG, O.bind_ok, O.s_ok, O.or_bad, O.or_ok, O.nx, leave, mkL, mkD, rdL, rdD, rdI, seqP, wD, wI, tgName, tgTup, tgCons, tgNil, fMeth_eq, fFld_eq, fFrz_eq, fMake_eq, fCallO, fYes, PC.p, le_ii, lt_ii, gt_ii, le_ss, add_ii, sub_ii, neg_i, eq_ii, ne_bb, eq_bb, eq_ss, ne_ss, List.map_cons, List.map_nil, List.length_cons, List.length_nil, List.replicate_succ, List.replicate_zero, List.cons_append, List.nil_append, List.getElem?_cons_zero, List.getElem?_cons_succ, List.getElem?_nil, List.set_cons_zero, List.set_cons_succ, Option.bind_some, Option.map_some, Nat.reduceAdd, Nat.reduceSub, Nat.reduceEqDiff, ↓reduceIte, Bool.not_true, Bool.not_false, Bool.false_eq_true, and_self, and_true, true_and, List.take_append_of_le_length, List.take_length, din_ok]
    rw [decide_eq_true (sub z m)]
    rfl⟩]
  simp (config := { zeta := true }) only [fDef, sSeq, sIfS, sRet, sSet, sNext, sDrop, sFor, sPar, sPar3, sAsgP, sSubName, sDPutP, sLPutP, sFldP, sBad, fCall, fCons, fNil, fVar, fC, fOp, fUn, fTest, fNotT, fAndT, fOrT, fAndV, fOrV, fNotV, fIf, fChain, fSeq, fLstC, fLc, fDc, iAny_eq, iVals_eq, iItems_eq, iKeys_eq, iRg1, iRg2, vals, wipeG, O.bind_ok, O.s_ok, O.or_bad, O.or_ok, O.nx, leave, mkL, mkD, rdL, rdD, rdI, seqP, wD, wI, tgName, tgTup, tgCons, tgNil, fMeth_eq, fFld_eq, fFrz_eq, fMake_eq, fCallO, fYes, PC.p, le_ii, lt_ii, gt_ii, le_ss, add_ii, sub_ii, neg_i, eq_ii, ne_bb, eq_bb, eq_ss, ne_ss, List.map_cons, List.map_nil, List.length_cons, List.length_nil, List.replicate_succ, List.replicate_zero, List.cons_append, List.nil_append, List.getElem?_cons_zero, List.getElem?_cons_succ, List.getElem?_nil, List.set_cons_zero, List.set_cons_succ, Option.bind_some, Option.map_some, Nat.reduceAdd, Nat.reduceSub, Nat.reduceEqDiff, ↓reduceIte, Bool.not_true, Bool.not_false, Bool.false_eq_true, and_self, and_true, true_and, List.take_append_of_le_length, List.take_length, bls_all (bls_map (fun _ => true) (keys s))]
  simp
/-- a table in the order of its names -/
def val (t : Tb) (z : Str) : Int := (get t z).getD 0
def ord (t : Tb) : Tb := (srt (keys t)).map fun z => (z, val t z)
theorem val_of {t : Tb} {z : Str} (m : z ∈ keys t) : get t z = some (val t z) := by
  unfold val
  obtain ⟨v, e⟩ := Option.isSome_iff_exists.mp (get_mem.mpr m)
  rw [e]
  rfl
theorem keys_ord (t : Tb) : keys (ord t) = srt (keys t) := by
  unfold keys ord
  rw [List.map_map]
  exact List.map_id _
theorem e_in_order {t : Tb} (nd : (keys t).Nodup) (le : t.length < 64) : D_in_order Pg w K [.v (dctP t)] μ = .ok (.v (dctP (ord t))) μ := by
  have hs : ((srt (keys t)).map P.str).length ≤ 100000 := by rw [List.length_map, (srt_perm _).length_eq, len_keys]; omega
  unfold D_in_order
  simp (config := { zeta := true }) only [fDef, sSeq, sIfS, sRet, sSet, sNext, sDrop, sFor, sPar, sPar3, sAsgP, sSubName, sDPutP, sLPutP, sFldP, sBad, fCall, fCons, fNil, fVar, fC, fOp, fUn, fTest, fNotT, fAndT, fOrT, fAndV, fOrV, fNotV, fIf, fChain, fSeq, fLstC, fLc, fDc, iAny_eq, iVals_eq, iItems_eq, iKeys_eq, iRg1, iRg2, vals, wipeG, O.bind_ok, O.s_ok, O.or_bad, O.or_ok, O.nx, leave, mkL, mkD, rdL, rdD, rdI, seqP, wD, wI, tgName, tgTup, tgCons, tgNil, fMeth_eq, fFld_eq, fFrz_eq, fMake_eq, fCallO, fYes, PC.p, le_ii, lt_ii, gt_ii, le_ss, add_ii, sub_ii, neg_i, eq_ii, ne_bb, eq_bb, eq_ss, ne_ss, List.map_cons, List.map_nil, List.length_cons, List.length_nil, List.replicate_succ, List.replicate_zero, List.cons_append, List.nil_append, List.getElem?_cons_zero, List.getElem?_cons_succ, List.getElem?_nil, List.set_cons_zero, List.set_cons_succ, Option.bind_some, Option.map_some, Nat.reduceAdd, Nat.reduceSub, Nat.reduceEqDiff, ↓reduceIte, Bool.not_true, Bool.not_false, Bool.false_eq_true, and_self, and_true, true_and, List.take_append_of_le_length, List.take_length, sort_t le, it_l hs]
  rw [dc_all P.str (fun z => Sum.inr z) (fun z => P.int (val t z)) (l := srt (keys t)) (List.Pairwise.map _ (fun a b h e => h (Sum.inr.inj e)) ((srt_perm _).nodup_iff.mpr nd)) fun z m => ⟨_, .str z, rfl, by simp (config := { zeta := true }) only [fDef, sSeq, sIfS, sRet, sSet, sNext, sDrop, sFor, sPar, sPar3, sAsgP, sSubName, sDPutP, sLPutP, sFldP, sBad, fCall, fCons, fNil, fVar, fC, fOp, fUn, fTest, fNotT, fAndT, fOrT, fAndV, fOrV, fNotV, fIf, fChain, fSeq, fLstC, fLc, fDc, iAny_eq, iVals_eq, iItems_eq, iKeys_eq, iRg1, iRg2, vals, wipeG, O.bind_ok, O.s_ok, O.or_bad, O.or_ok, O.nx, leave, mkL, mkD, rdL, rdD, rdI, seqP, wD, wI, tgName, tgTup, tgCons, tgNil, fMeth_eq, fFld_eq, fFrz_eq, fMake_eq, fCallO, fYes, PC.p, le_ii, lt_ii, gt_ii, le_ss, add_ii, sub_ii, neg_i, eq_ii, ne_bb, eq_bb, eq_ss, ne_ss, List.map_cons, List.map_nil, List.length_cons, List.length_nil, List.replicate_succ, List.replicate_zero, List.cons_append, List.nil_append, List.getElem?_cons_zero, List.getElem?_cons_succ, List.getElem?_nil, List.set_cons_zero, List.set_cons_succ, Option.bind_some, Option.map_some, Nat.reduceAdd, Nat.reduceSub, Nat.reduceEqDiff, ↓reduceIte, Bool.not_true, Bool.not_false, Bool.false_eq_true, and_self, and_true, true_and, List.take_append_of_le_length, List.take_length], rfl, by simp (config := { zeta := true }) only [fDef, sSeq, sIfS, sRet, sSet, sNext, sDrop, sFor, sPar, sPar3, sAsgP, sSubName, sDPutP, sLPutP, sFldP, sBad, fCall, fCons, fNil, fVar, fC, fOp, fUn, fTest, fNotT, fAndT, fOrT, fAndV, fOrV, fNotV, fIf, fChain, fSeq, fLstC, fLc, fDc, iAny_eq, iVals_eq, iItems_eq, iKeys_eq, iRg1, iRg2, vals, wipeG, O.bind_ok, O.s_ok, O.or_bad, O.or_ok, O.nx, leave, mkL, mkD, rdL, rdD, rdI, seqP, wD, wI, tgName, tgTup, tgCons, tgNil, fMeth_eq, fFld_eq, fFrz_eq, fMake_eq, fCallO, fYes, PC.p, le_ii, lt_ii, gt_ii, le_ss, add_ii, sub_ii, neg_i, eq_ii, ne_bb, eq_bb, eq_ss, ne_ss, List.map_cons, List.map_nil, List.length_cons, List.length_nil, List.replicate_succ, List.replicate_zero, List.cons_append, List.nil_append, List.getElem?_cons_zero, List.getElem?_cons_succ, List.getElem?_nil, List.set_cons_zero, List.set_cons_succ, Option.bind_some, Option.map_some, Nat.reduceAdd, Nat.reduceSub, Nat.reduceEqDiff, ↓reduceIte, Bool.not_true, Bool.not_false, Bool.false_eq_true, and_self, and_true, true_and, List.take_append_of_le_length, List.take_length, dget_ok (val_of (srt_mem.mp m))]⟩]
  simp (config := { zeta := true }) only [fDef, sSeq, sIfS, sRet, sSet, sNext, sDrop, sFor, sPar, sPar3, sAsgP, sSubName, sDPutP, sLPutP, sFldP, sBad, fCall, fCons, fNil, fVar, fC, fOp, fUn, fTest, fNotT, fAndT, fOrT, fAndV, fOrV, fNotV, fIf, fChain, fSeq, fLstC, fLc, fDc, iAny_eq, iVals_eq, iItems_eq, iKeys_eq, iRg1, iRg2, vals, wipeG, O.bind_ok, O.s_ok, O.or_bad, O.or_ok, O.nx, leave, mkL, mkD, rdL, rdD, rdI, seqP, wD, wI, tgName, tgTup, tgCons, tgNil, fMeth_eq, fFld_eq, fFrz_eq, fMake_eq, fCallO, fYes, PC.p, le_ii, lt_ii, gt_ii, le_ss, add_ii, sub_ii, neg_i, eq_ii, ne_bb, eq_bb, eq_ss, ne_ss, List.map_cons, List.map_nil, List.length_cons, List.length_nil, List.replicate_succ, List.replicate_zero, List.cons_append, List.nil_append, List.getElem?_cons_zero, List.getElem?_cons_succ, List.getElem?_nil, List.set_cons_zero, List.set_cons_succ, Option.bind_some, Option.map_some, Nat.reduceAdd, Nat.reduceSub, Nat.reduceEqDiff, ↓reduceIte, Bool.not_true, Bool.not_false, Bool.false_eq_true, and_self, and_true, true_and, List.take_append_of_le_length, List.take_length]
  unfold dctP ord rowP
  rw [List.map_map]
  rfl
def shf (t : Tb) (n : Int) : Tb := t.map fun p => (p.1, p.2 + n)
theorem e_moved {t : Tb} (nd : (keys t).Nodup) (le : t.length < 64) (n : Int) : D_moved Pg w K [.v (dctP t), .v (.int n)] μ = .ok (.v (dctP (shf t n))) μ := by
  unfold D_moved
  simp (config := { zeta := true }) only [fDef, sSeq, sIfS, sRet, sSet, sNext, sDrop, sFor, sPar, sPar3, sAsgP, sSubName, sDPutP, sLPutP, sFldP, sBad, fCall, fCons, fNil, fVar, fC, fOp, fUn, fTest, fNotT, fAndT, fOrT, fAndV, fOrV, fNotV, fIf, fChain, fSeq, fLstC, fLc, fDc, iAny_eq, iVals_eq, iItems_eq, iKeys_eq, iRg1, iRg2, vals, wipeG, O.bind_ok, O.s_ok, O.or_bad, O.or_ok, O.nx, leave, mkL, mkD, rdL, rdD, rdI, seqP, wD, wI, tgName, tgTup, tgCons, tgNil, fMeth_eq, fFld_eq, fFrz_eq, fMake_eq, fCallO, fYes, PC.p, le_ii, lt_ii, gt_ii, le_ss, add_ii, sub_ii, neg_i, eq_ii, ne_bb, eq_bb, eq_ss, ne_ss, List.map_cons, List.map_nil, List.length_cons, List.length_nil, List.replicate_succ, List.replicate_zero, List.cons_append, List.nil_append, List.getElem?_cons_zero, List.getElem?_cons_succ, List.getElem?_nil, List.set_cons_zero, List.set_cons_succ, Option.bind_some, Option.map_some, Nat.reduceAdd, Nat.reduceSub, Nat.reduceEqDiff, ↓reduceIte, Bool.not_true, Bool.not_false, Bool.false_eq_true, and_self, and_true, true_and, List.take_append_of_le_length, List.take_length, it_d (show t.length ≤ 100000 by omega)]
  have q := dc_all (f := tgName 2) (Ek := fVar 2) (Ev := fOp gAdd (fOp gIx (fVar 0) (fVar 2)) (fVar 1)) (γ := [some (W.v (dctP t)), some (W.v (.int n)), none]) (μ := μ) P.str (fun z => Sum.inr z) (fun z => P.int (val t z + n)) (l := keys t) (List.Pairwise.map _ (fun a b h e => h (Sum.inr.inj e)) nd) fun z m => ⟨_, .str z, rfl, by simp (config := { zeta := true }) only [fDef, sSeq, sIfS, sRet, sSet, sNext, sDrop, sFor, sPar, sPar3, sAsgP, sSubName, sDPutP, sLPutP, sFldP, sBad, fCall, fCons, fNil, fVar, fC, fOp, fUn, fTest, fNotT, fAndT, fOrT, fAndV, fOrV, fNotV, fIf, fChain, fSeq, fLstC, fLc, fDc, iAny_eq, iVals_eq, iItems_eq, iKeys_eq, iRg1, iRg2, vals, wipeG, O.bind_ok, O.s_ok, O.or_bad, O.or_ok, O.nx, leave, mkL, mkD, rdL, rdD, rdI, seqP, wD, wI, tgName, tgTup, tgCons, tgNil, fMeth_eq, fFld_eq, fFrz_eq, fMake_eq, fCallO, fYes, PC.p, le_ii, lt_ii, gt_ii, le_ss, add_ii, sub_ii, neg_i, eq_ii, ne_bb, eq_bb, eq_ss, ne_ss, List.map_cons, List.map_nil, List.length_cons, List.length_nil, List.replicate_succ, List.replicate_zero, List.cons_append, List.nil_append, List.getElem?_cons_zero, List.getElem?_cons_succ, List.getElem?_nil, List.set_cons_zero, List.set_cons_succ, Option.bind_some, Option.map_some, Nat.reduceAdd, Nat.reduceSub, Nat.reduceEqDiff, ↓reduceIte, Bool.not_true, Bool.not_false, Bool.false_eq_true, and_self, and_true, true_and, List.take_append_of_le_length, List.take_length], rfl, by simp (config := { zeta := true }) only [fDef, sSeq, sIfS, sRet, sSet, sNext, sDrop, sFor, sPar, sPar3, sAsgP, sSubName, sDPutP, sLPutP, sFldP, sBad, fCall, fCons, fNil, fVar, fC, fOp, fUn, fTest, fNotT, fAndT, fOrT, fAndV, fOrV, fNotV, fIf, fChain, fSeq, fLstC, fLc, fDc, iAny_eq, iVals_eq, iItems_eq, iKeys_eq, iRg1, iRg2, vals, wipeG, O.bind_ok, O.s_ok, O.or_bad, O.or_ok, O.nx, leave, mkL, mkD, rdL, rdD, rdI, seqP, wD, wI, tgName, tgTup, tgCons, tgNil, fMeth_eq, fFld_eq, fFrz_eq, fMake_eq, fCallO, fYes, PC.p, le_ii, lt_ii, gt_ii, le_ss, add_ii, sub_ii, neg_i, eq_ii, ne_bb, eq_bb, eq_ss, ne_ss, List.map_cons, List.map_nil, List.length_cons, List.length_nil, List.replicate_succ, List.replicate_zero, List.cons_append, List.nil_append, List.getElem?_cons_zero, List.getElem?_cons_succ, List.getElem?_nil, List.set_cons_zero, List.set_cons_succ, Option.bind_some, Option.map_some, Nat.reduceAdd, Nat.reduceSub, Nat.reduceEqDiff, ↓reduceIte, Bool.not_true, Bool.not_false, Bool.false_eq_true, and_self, and_true, true_and, List.take_append_of_le_length, List.take_length, dget_ok (val_of m)]⟩
  rw [q]
  simp (config := { zeta := true }) only [fDef, sSeq, sIfS, sRet, sSet, sNext, sDrop, sFor, sPar, sPar3, sAsgP, sSubName, sDPutP, sLPutP, sFldP, sBad, fCall, fCons, fNil, fVar, fC, fOp, fUn, fTest, fNotT, fAndT, fOrT, fAndV, fOrV, fNotV, fIf, fChain, fSeq, fLstC, fLc, fDc, iAny_eq, iVals_eq, iItems_eq, iKeys_eq, iRg1, iRg2, vals, wipeG, O.bind_ok, O.s_ok, O.or_bad, O.or_ok, O.nx, leave, mkL, mkD, rdL, rdD, rdI, seqP, wD, wI, tgName, tgTup, tgCons, tgNil, fMeth_eq, fFld_eq, fFrz_eq, fMake_eq, fCallO, fYes, PC.p, le_ii, lt_ii, gt_ii, le_ss, add_ii, sub_ii, neg_i, eq_ii, ne_bb, eq_bb, eq_ss, ne_ss, List.map_cons, List.map_nil, List.length_cons, List.length_nil, List.replicate_succ, List.replicate_zero, List.cons_append, List.nil_append, List.getElem?_cons_zero, List.getElem?_cons_succ, List.getElem?_nil, List.set_cons_zero, List.set_cons_succ, Option.bind_some, Option.map_some, Nat.reduceAdd, Nat.reduceSub, Nat.reduceEqDiff, ↓reduceIte, Bool.not_true, Bool.not_false, Bool.false_eq_true, and_self, and_true, true_and, List.take_append_of_le_length, List.take_length]
  unfold dctP shf rowP keys
  rw [List.map_map, List.map_map]
  congr 3
  refine List.map_congr_left fun p m => ?_
  show (Sum.inr p.1, P.int (val t p.1 + n)) = (Sum.inr p.1, P.int (p.2 + n))
  unfold val
  rw [get_of nd m]
  rfl
end
end Pu

set_option Elab.async false
set_option linter.all false
set_option maxRecDepth 100000
set_option maxHeartbeats 4000000
namespace Pu
open L2 PySem PySem.Spec PyProof.Rows E10
open He (ga ma)
/-- an Earliest, by its shifts in order -/
def ear (C : Addr) (t : Tb) : P := .ins C [("_shifts", dctP t)]
section
variable {C : Addr} {t s : Tb} {μ : Μ} {cs : List Addr} {FF' : FF} {A : AF} {γ : Γ}
theorem fld_e : fldP C "_shifts" (.v (ear C t)) μ = .ok (.v (dctP t)) μ := by
  show (if C = C then _ else O.bad) = _
  rw [if_pos rfl]
  rfl
theorem isC_e : isC C μ (.v (ear C t)) = true := decide_eq_true rfl
theorem meth_e {m : Str} (hm : (("_shifts" : Str) == m) = false) : methP C m FF' A γ (.v (ear C t)) μ = (A γ μ).bind fun ws m2 => FF' (.v (ear C t) :: ws) m2 := by
  show (if C = C ∧ ([("_shifts", dctP t)] : List (Str × P)).lookup m = none then _ else O.bad) = _
  rw [if_pos]
  refine ⟨rfl, ?_⟩
  rw [List.lookup_cons]
  have : (m == ("_shifts" : Str)) = false := by rw [Bool.beq_comm]; exact hm
  rw [this]
  rfl
theorem ownI_e {i : Int} : fOwnI C FF' (.v (ear C t)) (.v (.int i)) μ = (FF' [.v (ear C t), .v (.int i)] μ).nx := if_pos isC_e
theorem iown_e {i : Int} : fIOwn C FF' (.v (.int i)) (.v (ear C t)) μ = (FF' [.v (ear C t), .v (.int i)] μ).nx := if_pos isC_e
theorem own2_e : fOwn2 C FF' (.v (ear C t)) (.v (ear C s)) μ = (FF' [.v (ear C t), .v (ear C s)] μ).nx := if_pos ⟨isC_e, isC_e⟩
theorem ty_e (h : C ∈ cs) : tyP cs μ (.v (ear C t)) = some (.ref C) := if_pos h
theorem eqO_e (h : C ∈ cs) : fEqO C cs FF' (.v (ear C t)) (.v (ear C s)) μ = (FF' [.v (ear C t), .v (ear C s)] μ).nx := by
  unfold fEqO
  rw [if_pos isC_e, ty_e h]
  exact if_pos (decide_eq_true h)
theorem isi_e (h : C ∈ cs) : fIsi cs [.v (ear C t), .v (.ref C)] μ = .ok (.v (.bl true)) μ := isi_own h _
end
section
variable {Pg : Program} {w : World} {K : PySem.W.Frag} {μ : Μ}
abbrev cE (K : PySem.W.Frag) : Addr := ga K "Earliest"
theorem e_check_shifts {t : Tb} (h : Ok t) : D_check_shifts Pg w K [.v (dctP t)] μ = .ok (.v .non) μ := by
  have le := h.le
  have h8 : decide ((8 : Int) < ((t.length : Nat) : Int)) = false := decide_eq_false (by omega)
  have hs : ((srt (keys t)).map P.str).length ≤ 100000 := by rw [List.length_map, srt_len, len_keys]; omega
  unfold D_check_shifts
  simp (config := { zeta := true }) only [fDef, sSeq, sIfS, sRet, sSet, sNext, sDrop, sFor, sPar, sPar3, sAsgP, sSubName, sDPutP, sLPutP, sFldP, sBad, fCall, fCons, fNil, fVar, fC, fOp, fUn, fTest, fNotT, fAndT, fOrT, fAndV, fOrV, fNotV, fIf, fChain, fSeq, fLstC, fLc, fDc, iAny_eq, iVals_eq, iItems_eq, iKeys_eq, iRg1, iRg2, vals, wipeG, O.bind_ok, O.s_ok, O.or_bad, O.or_ok, O.nx, leave, mkL, mkD, rdL, rdD, rdI, seqP, wD, wI, tgName, tgTup, tgCons, tgNil, fMeth_eq, fFld_eq, fFrz_eq, fMake_eq, fCallO, fYes, PC.p, le_ii, lt_ii, gt_ii, le_ss, add_ii, sub_ii, neg_i, eq_ii, ne_bb, eq_bb, eq_ss, ne_ss, List.map_cons, List.map_nil, List.length_cons, List.length_nil, List.replicate_succ, List.replicate_zero, List.cons_append, List.nil_append, List.getElem?_cons_zero, List.getElem?_cons_succ, List.getElem?_nil, List.set_cons_zero, List.set_cons_succ, Option.bind_some, Option.map_some, Nat.reduceAdd, Nat.reduceSub, Nat.reduceEqDiff, ↓reduceIte, Bool.not_true, Bool.not_false, Bool.false_eq_true, and_self, and_true, true_and, List.take_append_of_le_length, List.take_length, e_has_names h.ne h.nm (show t.length ≤ 64 by omega), sort_t (show t.length < 64 by omega), it_l hs]
  obtain ⟨γ2, m2, e1, e2⟩ := for_run (f := tgName 1) (B := sIfS (fNotT (fTest (fCall (D_is_integer Pg w K) (fCons (fOp gIx (fVar 0) (fVar 1)) fNil)))) sBad sNext) (fun _ γ m => m = μ ∧ ∃ x, γ = [some (W.v (dctP t)), x]) (ps := (srt (keys t)).map P.str) (i := 0) (γ := [some (W.v (dctP t)), none]) (μ := μ) ⟨rfl, none, rfl⟩ fun j p γ m hp ⟨em, x, eg⟩ => by
    subst em
    subst eg
    obtain ⟨z, mz, rfl⟩ := List.mem_map.mp (List.mem_of_getElem? hp)
    refine ⟨_, rfl, [some (W.v (dctP t)), some (W.v (.str z))], m, .inl (by simp (config := { zeta := true }) only [fDef, sSeq, sIfS, sRet, sSet, sNext, sDrop, sFor, sPar, sPar3, sAsgP, sSubName, sDPutP, sLPutP, sFldP, sBad, fCall, fCons, fNil, fVar, fC, fOp, fUn, fTest, fNotT, fAndT, fOrT, fAndV, fOrV, fNotV, fIf, fChain, fSeq, fLstC, fLc, fDc, iAny_eq, iVals_eq, iItems_eq, iKeys_eq, iRg1, iRg2, vals, wipeG, O.bind_ok, O.s_ok, O.or_bad, O.or_ok, O.nx, leave, mkL, mkD, rdL, rdD, rdI, seqP, wD, wI, tgName, tgTup, tgCons, tgNil, fMeth_eq, fFld_eq, fFrz_eq, fMake_eq, fCallO, fYes, PC.p, le_ii, lt_ii, gt_ii, le_ss, add_ii, sub_ii, neg_i, eq_ii, ne_bb, eq_bb, eq_ss, ne_ss, List.map_cons, List.map_nil, List.length_cons, List.length_nil, List.replicate_succ, List.replicate_zero, List.cons_append, List.nil_append, List.getElem?_cons_zero, List.getElem?_cons_succ, List.getElem?_nil, List.set_cons_zero, List.set_cons_succ, Option.bind_some, Option.map_some, Nat.reduceAdd, Nat.reduceSub, Nat.reduceEqDiff, ↓reduceIte, Bool.not_true, Bool.not_false, Bool.false_eq_true, and_self, and_true, true_and, List.take_append_of_le_length, List.take_length, dget_ok (val_of (srt_mem.mp mz)), e_is_integer]), rfl, _, rfl⟩
  obtain ⟨rfl, x, rfl⟩ := e2
  rw [e1]
  simp (config := { zeta := true }) only [fDef, sSeq, sIfS, sRet, sSet, sNext, sDrop, sFor, sPar, sPar3, sAsgP, sSubName, sDPutP, sLPutP, sFldP, sBad, fCall, fCons, fNil, fVar, fC, fOp, fUn, fTest, fNotT, fAndT, fOrT, fAndV, fOrV, fNotV, fIf, fChain, fSeq, fLstC, fLc, fDc, iAny_eq, iVals_eq, iItems_eq, iKeys_eq, iRg1, iRg2, vals, wipeG, O.bind_ok, O.s_ok, O.or_bad, O.or_ok, O.nx, leave, mkL, mkD, rdL, rdD, rdI, seqP, wD, wI, tgName, tgTup, tgCons, tgNil, fMeth_eq, fFld_eq, fFrz_eq, fMake_eq, fCallO, fYes, PC.p, le_ii, lt_ii, gt_ii, le_ss, add_ii, sub_ii, neg_i, eq_ii, ne_bb, eq_bb, eq_ss, ne_ss, List.map_cons, List.map_nil, List.length_cons, List.length_nil, List.replicate_succ, List.replicate_zero, List.cons_append, List.nil_append, List.getElem?_cons_zero, List.getElem?_cons_succ, List.getElem?_nil, List.set_cons_zero, List.set_cons_succ, Option.bind_some, Option.map_some, Nat.reduceAdd, Nat.reduceSub, Nat.reduceEqDiff, ↓reduceIte, Bool.not_true, Bool.not_false, Bool.false_eq_true, and_self, and_true, true_and, List.take_append_of_le_length, List.take_length, len_t, h8]
theorem e_init {t : Tb} (h : Ok t) : D_Earliest___init__ Pg w K [.loc μ.length, .v (dctP t)] (μ ++ [.ins (cE K) []]) = .ok (.v .non) (μ ++ [.ins (cE K) [("_shifts", dctP (ord t))]]) := by
  have le := h.le
  unfold D_Earliest___init__
  simp (config := { zeta := true }) only [fDef, sSeq, sIfS, sRet, sSet, sNext, sDrop, sFor, sPar, sPar3, sAsgP, sSubName, sDPutP, sLPutP, sFldP, sBad, fCall, fCons, fNil, fVar, fC, fOp, fUn, fTest, fNotT, fAndT, fOrT, fAndV, fOrV, fNotV, fIf, fChain, fSeq, fLstC, fLc, fDc, iAny_eq, iVals_eq, iItems_eq, iKeys_eq, iRg1, iRg2, vals, wipeG, O.bind_ok, O.s_ok, O.or_bad, O.or_ok, O.nx, leave, mkL, mkD, rdL, rdD, rdI, seqP, wD, wI, tgName, tgTup, tgCons, tgNil, fMeth_eq, fFld_eq, fFrz_eq, fMake_eq, fCallO, fYes, PC.p, le_ii, lt_ii, gt_ii, le_ss, add_ii, sub_ii, neg_i, eq_ii, ne_bb, eq_bb, eq_ss, ne_ss, List.map_cons, List.map_nil, List.length_cons, List.length_nil, List.replicate_succ, List.replicate_zero, List.cons_append, List.nil_append, List.getElem?_cons_zero, List.getElem?_cons_succ, List.getElem?_nil, List.set_cons_zero, List.set_cons_succ, Option.bind_some, Option.map_some, Nat.reduceAdd, Nat.reduceSub, Nat.reduceEqDiff, ↓reduceIte, Bool.not_true, Bool.not_false, Bool.false_eq_true, and_self, and_true, true_and, List.take_append_of_le_length, List.take_length, e_check_shifts h, e_in_order h.nd (show t.length < 64 by omega), last_at]
  rw [if_pos (by decide), last_set]
  show O.ok (W.v .non) (List.take (μ ++ [PC.ins (cE K) []]).length (μ ++ [PC.ins (cE K) [("_shifts", dctP (ord t))]])) = _
  rw [List.take_of_length_le (by simp)]
/-- an Earliest made -/
theorem e_make {t : Tb} (h : Ok t) : (makeP (cE K) (D_Earliest___init__ Pg w K) [.v (dctP t)] μ).bind (frzP μ.length) = .ok (.v (ear (cE K) (ord t))) μ := by
  rw [make_ok (e_init h)]
  exact frz_l rfl
theorem e_shifts {t : Tb} : D_Earliest_shifts Pg w K [.v (ear (cE K) t)] μ = .ok (.v (dctP t)) μ := by
  unfold D_Earliest_shifts
  simp (config := { zeta := true }) only [fDef, sSeq, sIfS, sRet, sSet, sNext, sDrop, sFor, sPar, sPar3, sAsgP, sSubName, sDPutP, sLPutP, sFldP, sBad, fCall, fCons, fNil, fVar, fC, fOp, fUn, fTest, fNotT, fAndT, fOrT, fAndV, fOrV, fNotV, fIf, fChain, fSeq, fLstC, fLc, fDc, iAny_eq, iVals_eq, iItems_eq, iKeys_eq, iRg1, iRg2, vals, wipeG, O.bind_ok, O.s_ok, O.or_bad, O.or_ok, O.nx, leave, mkL, mkD, rdL, rdD, rdI, seqP, wD, wI, tgName, tgTup, tgCons, tgNil, fMeth_eq, fFld_eq, fFrz_eq, fMake_eq, fCallO, fYes, PC.p, le_ii, lt_ii, gt_ii, le_ss, add_ii, sub_ii, neg_i, eq_ii, ne_bb, eq_bb, eq_ss, ne_ss, List.map_cons, List.map_nil, List.length_cons, List.length_nil, List.replicate_succ, List.replicate_zero, List.cons_append, List.nil_append, List.getElem?_cons_zero, List.getElem?_cons_succ, List.getElem?_nil, List.set_cons_zero, List.set_cons_succ, Option.bind_some, Option.map_some, Nat.reduceAdd, Nat.reduceSub, Nat.reduceEqDiff, ↓reduceIte, Bool.not_true, Bool.not_false, Bool.false_eq_true, and_self, and_true, true_and, List.take_append_of_le_length, List.take_length, fld_e, dict_t]
  rfl
theorem ints_map {α : Type} (f : α → Int) : ∀ l : List α, intsP (l.map fun a => P.int (f a)) = some (l.map f)
  | [] => rfl
  | a :: r => by
    show (intsP (r.map fun a => P.int (f a))).map (f a :: ·) = _
    rw [ints_map f r]
    rfl
theorem min_l {ps : List P} {l : List Int} (h : intsP ps = some l) (ne : l ≠ []) : gMin [.v (.lst ps)] μ = .ok (.v (.int (minL l))) μ := by
  show O.or .bad (match intsP ps with
    | some (n :: ns) => O.ok (W.v (.int (minL (n :: ns)))) μ
    | _ => .bad) = _
  rw [h, O.or_bad]
  cases l with
  | nil => exact absurd rfl ne
  | cons n ns => rfl
/-- the least of what is told -/
def low (t times : Tb) : Int := minL ((keys t).map fun z => val times z + val t z)
theorem keys_ne {t : Tb} (h : t ≠ []) : keys t ≠ [] := by
  cases t with
  | nil => exact absurd rfl h
  | cons p r => exact List.cons_ne_nil _ _
theorem e_call {t s : Tb} (ne : t ≠ []) (le : t.length ≤ 64) (h : s ≠ []) (nm : ∀ z ∈ keys s, Nm z) (ls : s.length ≤ 64) (sub : ∀ z ∈ keys t, z ∈ keys s) : D_Earliest___call__ Pg w K [.v (ear (cE K) t), .v (dctP s)] μ = .ok (.v (.int (low t s))) μ := by
  unfold D_Earliest___call__
  simp (config := { zeta := true }) only [fDef, sSeq, sIfS, sRet, sSet, sNext, sDrop, sFor, sPar, sPar3, sAsgP, sSubName, sDPutP, sLPutP, sFldP, sBad, fCall, fCons, fNil, fVar, fC, fOp, fUn, fTest, fNotT, fAndT, fOrT, fAndV, fOrV, fNotV, fIf, fChain, fSeq, fLstC, fLc, fDc, iAny_eq, iVals_eq, iItems_eq, iKeys_eq, iRg1, iRg2, vals, wipeG, O.bind_ok, O.s_ok, O.or_bad, O.or_ok, O.nx, leave, mkL, mkD, rdL, rdD, rdI, seqP, wD, wI, tgName, tgTup, tgCons, tgNil, fMeth_eq, fFld_eq, fFrz_eq, fMake_eq, fCallO, fYes, PC.p, le_ii, lt_ii, gt_ii, le_ss, add_ii, sub_ii, neg_i, eq_ii, ne_bb, eq_bb, eq_ss, ne_ss, List.map_cons, List.map_nil, List.length_cons, List.length_nil, List.replicate_succ, List.replicate_zero, List.cons_append, List.nil_append, List.getElem?_cons_zero, List.getElem?_cons_succ, List.getElem?_nil, List.set_cons_zero, List.set_cons_succ, Option.bind_some, Option.map_some, Nat.reduceAdd, Nat.reduceSub, Nat.reduceEqDiff, ↓reduceIte, Bool.not_true, Bool.not_false, Bool.false_eq_true, and_self, and_true, true_and, List.take_append_of_le_length, List.take_length, fld_e, e_check_times h nm ls le sub, it_d (show t.length ≤ 100000 by omega)]
  rw [lc_all P.str (fun z => P.int (val s z + val t z)) (l := keys t) fun z m => ⟨_, rfl, by simp (config := { zeta := true }) only [fDef, sSeq, sIfS, sRet, sSet, sNext, sDrop, sFor, sPar, sPar3, sAsgP, sSubName, sDPutP, sLPutP, sFldP, sBad, fCall, fCons, fNil, fVar, fC, fOp, fUn, fTest, fNotT, fAndT, fOrT, fAndV, fOrV, fNotV, fIf, fChain, fSeq, fLstC, fLc, fDc, iAny_eq, iVals_eq, iItems_eq, iKeys_eq, iRg1, iRg2, vals, wipeG, O.bind_ok, O.s_ok, O.or_bad, O.or_ok, O.nx, leave, mkL, mkD, rdL, rdD, rdI, seqP, wD, wI, tgName, tgTup, tgCons, tgNil, fMeth_eq, fFld_eq, fFrz_eq, fMake_eq, fCallO, fYes, PC.p, le_ii, lt_ii, gt_ii, le_ss, add_ii, sub_ii, neg_i, eq_ii, ne_bb, eq_bb, eq_ss, ne_ss, List.map_cons, List.map_nil, List.length_cons, List.length_nil, List.replicate_succ, List.replicate_zero, List.cons_append, List.nil_append, List.getElem?_cons_zero, List.getElem?_cons_succ, List.getElem?_nil, List.set_cons_zero, List.set_cons_succ, Option.bind_some, Option.map_some, Nat.reduceAdd, Nat.reduceSub, Nat.reduceEqDiff, ↓reduceIte, Bool.not_true, Bool.not_false, Bool.false_eq_true, and_self, and_true, true_and, List.take_append_of_le_length, List.take_length, dget_ok (val_of (sub z m)), fld_e, dget_ok (val_of m)]⟩]
  simp (config := { zeta := true }) only [fDef, sSeq, sIfS, sRet, sSet, sNext, sDrop, sFor, sPar, sPar3, sAsgP, sSubName, sDPutP, sLPutP, sFldP, sBad, fCall, fCons, fNil, fVar, fC, fOp, fUn, fTest, fNotT, fAndT, fOrT, fAndV, fOrV, fNotV, fIf, fChain, fSeq, fLstC, fLc, fDc, iAny_eq, iVals_eq, iItems_eq, iKeys_eq, iRg1, iRg2, vals, wipeG, O.bind_ok, O.s_ok, O.or_bad, O.or_ok, O.nx, leave, mkL, mkD, rdL, rdD, rdI, seqP, wD, wI, tgName, tgTup, tgCons, tgNil, fMeth_eq, fFld_eq, fFrz_eq, fMake_eq, fCallO, fYes, PC.p, le_ii, lt_ii, gt_ii, le_ss, add_ii, sub_ii, neg_i, eq_ii, ne_bb, eq_bb, eq_ss, ne_ss, List.map_cons, List.map_nil, List.length_cons, List.length_nil, List.replicate_succ, List.replicate_zero, List.cons_append, List.nil_append, List.getElem?_cons_zero, List.getElem?_cons_succ, List.getElem?_nil, List.set_cons_zero, List.set_cons_succ, Option.bind_some, Option.map_some, Nat.reduceAdd, Nat.reduceSub, Nat.reduceEqDiff, ↓reduceIte, Bool.not_true, Bool.not_false, Bool.false_eq_true, and_self, and_true, true_and, List.take_append_of_le_length, List.take_length, min_l (ints_map (fun z => val s z + val t z) (keys t)) (show (keys t).map (fun z => val s z + val t z) ≠ [] from fun e => keys_ne ne (List.map_eq_nil_iff.mp e))]
  rfl
theorem keys_shf (t : Tb) (n : Int) : keys (shf t n) = keys t := by
  unfold keys shf
  rw [List.map_map]
  rfl
theorem Ok.shf {t : Tb} (h : Ok t) (n : Int) : Ok (shf t n) := ⟨fun e => h.ne (List.map_eq_nil_iff.mp e), by rw [keys_shf]; exact h.nm, by rw [keys_shf]; exact h.nd, by unfold Pu.shf; rw [List.length_map]; exact h.le⟩
theorem len_ord (t : Tb) : (ord t).length = t.length := by
  unfold ord
  rw [List.length_map, srt_len, len_keys]
theorem Ok.ord {t : Tb} (h : Ok t) : Ok (ord t) := ⟨fun e => h.ne (List.eq_nil_of_length_eq_zero (by rw [← len_ord, e]; rfl)), by rw [keys_ord]; exact fun z m => h.nm z (srt_mem.mp m), by rw [keys_ord]; exact srt_nodup h.nd, by rw [len_ord]; exact h.le⟩
theorem e_add {t : Tb} (h : Ok t) (n : Int) : D_Earliest___add__ Pg w K [.v (ear (cE K) t), .v (.int n)] μ = .ok (.v (ear (cE K) (ord (shf t n)))) μ := by
  have le := h.le
  unfold D_Earliest___add__
  simp (config := { zeta := true }) only [fDef, sSeq, sIfS, sRet, sSet, sNext, sDrop, sFor, sPar, sPar3, sAsgP, sSubName, sDPutP, sLPutP, sFldP, sBad, fCall, fCons, fNil, fVar, fC, fOp, fUn, fTest, fNotT, fAndT, fOrT, fAndV, fOrV, fNotV, fIf, fChain, fSeq, fLstC, fLc, fDc, iAny_eq, iVals_eq, iItems_eq, iKeys_eq, iRg1, iRg2, vals, wipeG, O.bind_ok, O.s_ok, O.or_bad, O.or_ok, O.nx, leave, mkL, mkD, rdL, rdD, rdI, seqP, wD, wI, tgName, tgTup, tgCons, tgNil, fMeth_eq, fFld_eq, fFrz_eq, fMake_eq, fCallO, fYes, PC.p, le_ii, lt_ii, gt_ii, le_ss, add_ii, sub_ii, neg_i, eq_ii, ne_bb, eq_bb, eq_ss, ne_ss, List.map_cons, List.map_nil, List.length_cons, List.length_nil, List.replicate_succ, List.replicate_zero, List.cons_append, List.nil_append, List.getElem?_cons_zero, List.getElem?_cons_succ, List.getElem?_nil, List.set_cons_zero, List.set_cons_succ, Option.bind_some, Option.map_some, Nat.reduceAdd, Nat.reduceSub, Nat.reduceEqDiff, ↓reduceIte, Bool.not_true, Bool.not_false, Bool.false_eq_true, and_self, and_true, true_and, List.take_append_of_le_length, List.take_length, e_check_shift, fld_e, e_moved h.nd (show t.length < 64 by omega), e_make (h.shf n)]
theorem e_radd {t : Tb} (h : Ok t) (n : Int) : D_Earliest___radd__ Pg w K [.v (ear (cE K) t), .v (.int n)] μ = .ok (.v (ear (cE K) (ord (shf t n)))) μ := by
  unfold D_Earliest___radd__
  simp (config := { zeta := true }) only [fDef, sSeq, sIfS, sRet, sSet, sNext, sDrop, sFor, sPar, sPar3, sAsgP, sSubName, sDPutP, sLPutP, sFldP, sBad, fCall, fCons, fNil, fVar, fC, fOp, fUn, fTest, fNotT, fAndT, fOrT, fAndV, fOrV, fNotV, fIf, fChain, fSeq, fLstC, fLc, fDc, iAny_eq, iVals_eq, iItems_eq, iKeys_eq, iRg1, iRg2, vals, wipeG, O.bind_ok, O.s_ok, O.or_bad, O.or_ok, O.nx, leave, mkL, mkD, rdL, rdD, rdI, seqP, wD, wI, tgName, tgTup, tgCons, tgNil, fMeth_eq, fFld_eq, fFrz_eq, fMake_eq, fCallO, fYes, PC.p, le_ii, lt_ii, gt_ii, le_ss, add_ii, sub_ii, neg_i, eq_ii, ne_bb, eq_bb, eq_ss, ne_ss, List.map_cons, List.map_nil, List.length_cons, List.length_nil, List.replicate_succ, List.replicate_zero, List.cons_append, List.nil_append, List.getElem?_cons_zero, List.getElem?_cons_succ, List.getElem?_nil, List.set_cons_zero, List.set_cons_succ, Option.bind_some, Option.map_some, Nat.reduceAdd, Nat.reduceSub, Nat.reduceEqDiff, ↓reduceIte, Bool.not_true, Bool.not_false, Bool.false_eq_true, and_self, and_true, true_and, List.take_append_of_le_length, List.take_length, ownI_e, e_add h, frz_v]
theorem e_sub {t : Tb} (h : Ok t) (n : Int) : D_Earliest___sub__ Pg w K [.v (ear (cE K) t), .v (.int n)] μ = .ok (.v (ear (cE K) (ord (shf t (-n))))) μ := by
  unfold D_Earliest___sub__
  simp (config := { zeta := true }) only [fDef, sSeq, sIfS, sRet, sSet, sNext, sDrop, sFor, sPar, sPar3, sAsgP, sSubName, sDPutP, sLPutP, sFldP, sBad, fCall, fCons, fNil, fVar, fC, fOp, fUn, fTest, fNotT, fAndT, fOrT, fAndV, fOrV, fNotV, fIf, fChain, fSeq, fLstC, fLc, fDc, iAny_eq, iVals_eq, iItems_eq, iKeys_eq, iRg1, iRg2, vals, wipeG, O.bind_ok, O.s_ok, O.or_bad, O.or_ok, O.nx, leave, mkL, mkD, rdL, rdD, rdI, seqP, wD, wI, tgName, tgTup, tgCons, tgNil, fMeth_eq, fFld_eq, fFrz_eq, fMake_eq, fCallO, fYes, PC.p, le_ii, lt_ii, gt_ii, le_ss, add_ii, sub_ii, neg_i, eq_ii, ne_bb, eq_bb, eq_ss, ne_ss, List.map_cons, List.map_nil, List.length_cons, List.length_nil, List.replicate_succ, List.replicate_zero, List.cons_append, List.nil_append, List.getElem?_cons_zero, List.getElem?_cons_succ, List.getElem?_nil, List.set_cons_zero, List.set_cons_succ, Option.bind_some, Option.map_some, Nat.reduceAdd, Nat.reduceSub, Nat.reduceEqDiff, ↓reduceIte, Bool.not_true, Bool.not_false, Bool.false_eq_true, and_self, and_true, true_and, List.take_append_of_le_length, List.take_length, e_check_shift, ownI_e, e_add h, frz_v]
/-- never later -/
def nl (t s : Tb) : Bool := (keys s).all fun z => decide (z ∈ keys t) && decide (val t z ≤ val s z)
theorem e_nl {t s : Tb} (le : s.length ≤ 64) : D_Earliest_is_never_later Pg w K [.v (ear (cE K) t), .v (ear (cE K) s)] μ = .ok (.v (.bl (nl t s))) μ := by
  unfold D_Earliest_is_never_later
  simp (config := { zeta := true }) only [fDef, sSeq, sIfS, sRet, sSet, sNext, sDrop, sFor, sPar, sPar3, sAsgP, sSubName, sDPutP, sLPutP, sFldP, sBad, fCall, fCons, fNil, fVar, fC, fOp, fUn, fTest, fNotT, fAndT, fOrT, fAndV, fOrV, fNotV, fIf, fChain, fSeq, fLstC, fLc, fDc, iAny_eq, iVals_eq, iItems_eq, iKeys_eq, iRg1, iRg2, vals, wipeG, O.bind_ok, O.s_ok, O.or_bad, O.or_ok, O.nx, leave, mkL, mkD, rdL, rdD, rdI, seqP, wD, wI, tgName, tgTup, tgCons, tgNil, fMeth_eq, fFld_eq, fFrz_eq, fMake_eq, fCallO, fYes, PC.p, le_ii, lt_ii, gt_ii, le_ss, add_ii, sub_ii, neg_i, eq_ii, ne_bb, eq_bb, eq_ss, ne_ss, List.map_cons, List.map_nil, List.length_cons, List.length_nil, List.replicate_succ, List.replicate_zero, List.cons_append, List.nil_append, List.getElem?_cons_zero, List.getElem?_cons_succ, List.getElem?_nil, List.set_cons_zero, List.set_cons_succ, Option.bind_some, Option.map_some, Nat.reduceAdd, Nat.reduceSub, Nat.reduceEqDiff, ↓reduceIte, Bool.not_true, Bool.not_false, Bool.false_eq_true, and_self, and_true, true_and, List.take_append_of_le_length, List.take_length, meth_e (C := cE K) (t := s) (m := "shifts") (by decide), e_shifts, it_d (show s.length ≤ 100000 by omega)]
  rw [lc_all P.str (fun z => P.bl (decide (z ∈ keys t) && decide (val t z ≤ val s z))) (l := keys s) fun z m => ⟨_, rfl, by
    simp (config := { zeta := true }) only [fDef, sSeq, sIfS, sRet, sSet, sNext, sDrop, sFor, sPar, sPar3, sAsgP, sSubName, sDPutP, sLPutP, sFldP, sBad, fCall, fCons, fNil, fVar, fC, fOp, fUn, fTest, fNotT, fAndT, fOrT, fAndV, fOrV, fNotV, fIf, fChain, fSeq, fLstC, fLc, fDc, iAny_eq, iVals_eq, iItems_eq, iKeys_eq, iRg1, iRg2, vals, wipeG, O.bind_ok, O.s_ok, O.or_bad, O.or_ok, O.nx, leave, mkL, mkD, rdL, rdD, rdI, seqP, wD, wI, tgName, tgTup, tgCons, tgNil, fMeth_eq, fFld_eq, fFrz_eq, fMake_eq, fCallO, fYes, PC.p, le_ii, lt_ii, gt_ii, le_ss, add_ii, sub_ii, neg_i, eq_ii, ne_bb, eq_bb, eq_ss, ne_ss, List.map_cons, List.map_nil, List.length_cons, List.length_nil, List.replicate_succ, List.replicate_zero, List.cons_append, List.nil_append, List.getElem?_cons_zero, List.getElem?_cons_succ, List.getElem?_nil, List.set_cons_zero, List.set_cons_succ, Option.bind_some, Option.map_some, Nat.reduceAdd, Nat.reduceSub, Nat.reduceEqDiff, ↓reduceIte, Bool.not_true, Bool.not_false, Bool.false_eq_true, and_self, and_true, true_and, List.take_append_of_le_length, List.take_length, fld_e, din_ok]
    by_cases c : z ∈ keys t
    · rw [decide_eq_true c]
      simp (config := { zeta := true }) only [fDef, sSeq, sIfS, sRet, sSet, sNext, sDrop, sFor, sPar, sPar3, sAsgP, sSubName, sDPutP, sLPutP, sFldP, sBad, fCall, fCons, fNil, fVar, fC, fOp, fUn, fTest, fNotT, fAndT, fOrT, fAndV, fOrV, fNotV, fIf, fChain, fSeq, fLstC, fLc, fDc, iAny_eq, iVals_eq, iItems_eq, iKeys_eq, iRg1, iRg2, vals, wipeG, O.bind_ok, O.s_ok, O.or_bad, O.or_ok, O.nx, leave, mkL, mkD, rdL, rdD, rdI, seqP, wD, wI, tgName, tgTup, tgCons, tgNil, fMeth_eq, fFld_eq, fFrz_eq, fMake_eq, fCallO, fYes, PC.p, le_ii, lt_ii, gt_ii, le_ss, add_ii, sub_ii, neg_i, eq_ii, ne_bb, eq_bb, eq_ss, ne_ss, List.map_cons, List.map_nil, List.length_cons, List.length_nil, List.replicate_succ, List.replicate_zero, List.cons_append, List.nil_append, List.getElem?_cons_zero, List.getElem?_cons_succ, List.getElem?_nil, List.set_cons_zero, List.set_cons_succ, Option.bind_some, Option.map_some, Nat.reduceAdd, Nat.reduceSub, Nat.reduceEqDiff, ↓reduceIte, Bool.not_true, Bool.not_false, Bool.false_eq_true, and_self, and_true, true_and, List.take_append_of_le_length, List.take_length, fld_e, dget_ok (val_of c), dget_ok (val_of m), bne_self_eq_false, Bool.true_and]
      rfl
    · rw [decide_eq_false c]
      rfl⟩]
  simp (config := { zeta := true }) only [fDef, sSeq, sIfS, sRet, sSet, sNext, sDrop, sFor, sPar, sPar3, sAsgP, sSubName, sDPutP, sLPutP, sFldP, sBad, fCall, fCons, fNil, fVar, fC, fOp, fUn, fTest, fNotT, fAndT, fOrT, fAndV, fOrV, fNotV, fIf, fChain, fSeq, fLstC, fLc, fDc, iAny_eq, iVals_eq, iItems_eq, iKeys_eq, iRg1, iRg2, vals, wipeG, O.bind_ok, O.s_ok, O.or_bad, O.or_ok, O.nx, leave, mkL, mkD, rdL, rdD, rdI, seqP, wD, wI, tgName, tgTup, tgCons, tgNil, fMeth_eq, fFld_eq, fFrz_eq, fMake_eq, fCallO, fYes, PC.p, le_ii, lt_ii, gt_ii, le_ss, add_ii, sub_ii, neg_i, eq_ii, ne_bb, eq_bb, eq_ss, ne_ss, List.map_cons, List.map_nil, List.length_cons, List.length_nil, List.replicate_succ, List.replicate_zero, List.cons_append, List.nil_append, List.getElem?_cons_zero, List.getElem?_cons_succ, List.getElem?_nil, List.set_cons_zero, List.set_cons_succ, Option.bind_some, Option.map_some, Nat.reduceAdd, Nat.reduceSub, Nat.reduceEqDiff, ↓reduceIte, Bool.not_true, Bool.not_false, Bool.false_eq_true, and_self, and_true, true_and, List.take_append_of_le_length, List.take_length, bls_all (bls_map (fun z => decide (z ∈ keys t) && decide (val t z ≤ val s z)) (keys s))]
  unfold nl
  rw [List.all_map]
  rfl
def same (a b : Tb) : Bool := eqK (a.map rowP) (b.map rowP)
theorem flat_rows (a : Tb) : (a.map rowP).all (fun x => flatP x.2) = true := by
  rw [List.all_map]
  exact List.all_eq_true.mpr fun _ _ => rfl
theorem eq_tt {a b : Tb} : gEq (.v (dctP a)) (.v (dctP b)) μ = .ok (.v (.bl (same a b))) μ := by
  show O.or .bad (O.or (if (a.map rowP).all (fun x => flatP x.2) = true ∧ (b.map rowP).all (fun x => flatP x.2) = true then O.ok (W.v (.bl (eqK (a.map rowP) (b.map rowP) != false))) μ else .bad) _) = _
  rw [if_pos ⟨flat_rows a, flat_rows b⟩, O.or_bad, O.or_ok]
  unfold same
  simp
theorem e_eq {a b : Tb} : D_Earliest___eq__ Pg w K [.v (ear (cE K) a), .v (ear (cE K) b)] μ = .ok (.v (.bl (same a b))) μ := by
  unfold D_Earliest___eq__
  simp (config := { zeta := true }) only [fDef, sSeq, sIfS, sRet, sSet, sNext, sDrop, sFor, sPar, sPar3, sAsgP, sSubName, sDPutP, sLPutP, sFldP, sBad, fCall, fCons, fNil, fVar, fC, fOp, fUn, fTest, fNotT, fAndT, fOrT, fAndV, fOrV, fNotV, fIf, fChain, fSeq, fLstC, fLc, fDc, iAny_eq, iVals_eq, iItems_eq, iKeys_eq, iRg1, iRg2, vals, wipeG, O.bind_ok, O.s_ok, O.or_bad, O.or_ok, O.nx, leave, mkL, mkD, rdL, rdD, rdI, seqP, wD, wI, tgName, tgTup, tgCons, tgNil, fMeth_eq, fFld_eq, fFrz_eq, fMake_eq, fCallO, fYes, PC.p, le_ii, lt_ii, gt_ii, le_ss, add_ii, sub_ii, neg_i, eq_ii, ne_bb, eq_bb, eq_ss, ne_ss, List.map_cons, List.map_nil, List.length_cons, List.length_nil, List.replicate_succ, List.replicate_zero, List.cons_append, List.nil_append, List.getElem?_cons_zero, List.getElem?_cons_succ, List.getElem?_nil, List.set_cons_zero, List.set_cons_succ, Option.bind_some, Option.map_some, Nat.reduceAdd, Nat.reduceSub, Nat.reduceEqDiff, ↓reduceIte, Bool.not_true, Bool.not_false, Bool.false_eq_true, and_self, and_true, true_and, List.take_append_of_le_length, List.take_length, isi_e (cs := [ga K "Earliest"]) (C := ga K "Earliest") (by simp), fld_e, eq_tt]
end
end Pu

set_option Elab.async false
set_option linter.all false
set_option maxRecDepth 100000
set_option maxHeartbeats 4000000
namespace Pu
open L2 PySem PySem.Spec PyProof.Rows E10
open He (ga ma)
theorem union_s {S : SF'} {a b : List Str} {μ : Μ} (na : a ≠ []) (hl : a.length + b.length < 32) : fUnion S (.v (.set S a)) (.v (.set S b)) μ = .ok (.v (.set S (insAll a b))) μ := by
  unfold fUnion
  rw [isS_set, isS_set]
  exact if_pos ⟨na, hl⟩
theorem sort_s {S : SF'} {a : List Str} {μ : Μ} (hl : a.length < 64) : gSort' S [.v (.set S a)] μ = .ok (.v (.lst ((srt a).map P.str))) μ := by
  show O.or .bad (O.or .bad (match isS S (.v (.set S a)) with
    | some zs => if zs.length < 64 then O.ok (W.v (.lst ((srt zs).map .str))) μ else .bad
    | none => .bad)) = _
  rw [isS_set, O.or_bad, O.or_bad]
  exact if_pos hl
def both (a b : Tb) : List Str := insAll (insAll [] (keys a)) (insAll [] (keys b))
theorem both_mem {a b : Tb} {z : Str} : z ∈ both a b ↔ z ∈ keys a ∨ z ∈ keys b := by
  unfold both
  rw [insAll_mem, insAll_mem, insAll_mem]
  simp
theorem both_nd (a b : Tb) : (both a b).Nodup := insAll_nd (insAll_nd List.nodup_nil)
theorem ins_len (l : List Str) : (insAll [] l).length ≤ l.length := by
  have := insAll_len [] l
  simpa using this
theorem ins_ne {l : List Str} (h : l ≠ []) : insAll [] l ≠ [] := fun e => by
  cases l with
  | nil => exact h rfl
  | cons z r =>
    have : z ∈ insAll [] (z :: r) := insAll_mem.mpr (.inr List.mem_cons_self)
    rw [e] at this
    cases this
def lst (a b : Tb) (z : Str) : Int := minL (([a, b].filter fun t => decide (z ∈ keys t)).map fun t => val t z)
def least (a b : Tb) : Tb := (srt (both a b)).map fun z => (z, lst a b z)
theorem keys_least (a b : Tb) : keys (least a b) = srt (both a b) := by
  unfold keys least
  rw [List.map_map]
  exact List.map_id _
section
variable {Pg : Program} {w : World} {K : PySem.W.Frag} {μ : Μ}
theorem e_least {a b : Tb} (na : a ≠ []) (la : a.length ≤ 8) (lb : b.length ≤ 8) : D_least_of Pg w K [.v (dctP a), .v (dctP b)] μ = .ok (.v (dctP (least a b))) μ := by
  have l1 := ins_len (keys a)
  have l2 := ins_len (keys b)
  rw [len_keys] at l1 l2
  have l3 : (both a b).length ≤ 16 := by
    have := insAll_len (insAll [] (keys a)) (insAll [] (keys b))
    unfold both
    omega
  have hs : ((srt (both a b)).map P.str).length ≤ 100000 := by rw [List.length_map, srt_len]; omega
  have l64 : (insAll (insAll [] (keys a)) (insAll [] (keys b))).length < 64 := by
    show (both a b).length < 64
    omega
  unfold D_least_of
  simp (config := { zeta := true }) only [fDef, sSeq, sIfS, sRet, sSet, sNext, sDrop, sFor, sPar, sPar3, sAsgP, sSubName, sDPutP, sLPutP, sFldP, sBad, fCall, fCons, fNil, fVar, fC, fOp, fUn, fTest, fNotT, fAndT, fOrT, fAndV, fOrV, fNotV, fIf, fChain, fSeq, fLstC, fLc, fDc, iAny_eq, iVals_eq, iItems_eq, iKeys_eq, iRg1, iRg2, vals, wipeG, O.bind_ok, O.s_ok, O.or_bad, O.or_ok, O.nx, leave, mkL, mkD, rdL, rdD, rdI, seqP, wD, wI, tgName, tgTup, tgCons, tgNil, fMeth_eq, fFld_eq, fFrz_eq, fMake_eq, fCallO, fYes, PC.p, le_ii, lt_ii, gt_ii, le_ss, add_ii, sub_ii, neg_i, eq_ii, ne_bb, eq_bb, eq_ss, ne_ss, List.map_cons, List.map_nil, List.length_cons, List.length_nil, List.replicate_succ, List.replicate_zero, List.cons_append, List.nil_append, List.getElem?_cons_zero, List.getElem?_cons_succ, List.getElem?_nil, List.set_cons_zero, List.set_cons_succ, Option.bind_some, Option.map_some, Nat.reduceAdd, Nat.reduceSub, Nat.reduceEqDiff, ↓reduceIte, Bool.not_true, Bool.not_false, Bool.false_eq_true, and_self, and_true, true_and, List.take_append_of_le_length, List.take_length, set_t (S := SetTO Pg w) (show a.length < 32 by omega), set_t (S := SetTO Pg w) (show b.length < 32 by omega), union_s (ins_ne (keys_ne na)) (show (insAll [] (keys a)).length + (insAll [] (keys b)).length < 32 by omega), sort_s l64, it_l (show ((srt (insAll (insAll [] (keys a)) (insAll [] (keys b)))).map P.str).length ≤ 100000 from hs)]
  have q := dc_all (f := tgName 3) (Ek := fVar 3) (Ev := fCall gMin (fCons (fLc (iAny (fSeq .tup (fCons (fVar 0) (fCons (fVar 1) fNil)))) (tgName 4) (fTest (fOp (gIn false) (fVar 3) (fVar 4))) (fOp gIx (fVar 4) (fVar 3)) [4]) fNil))
    (γ := [some (W.v (dctP a)), some (W.v (dctP b)), some (W.v (.lst ((srt (both a b)).map P.str))), none, none]) (μ := μ) P.str (fun z => Sum.inr z) (fun z => P.int (lst a b z)) (l := srt (both a b)) (List.Pairwise.map _ (fun a b h e => h (Sum.inr.inj e)) (srt_nodup (both_nd a b))) fun z m => ⟨_, .str z, rfl, by simp (config := { zeta := true }) only [fDef, sSeq, sIfS, sRet, sSet, sNext, sDrop, sFor, sPar, sPar3, sAsgP, sSubName, sDPutP, sLPutP, sFldP, sBad, fCall, fCons, fNil, fVar, fC, fOp, fUn, fTest, fNotT, fAndT, fOrT, fAndV, fOrV, fNotV, fIf, fChain, fSeq, fLstC, fLc, fDc, iAny_eq, iVals_eq, iItems_eq, iKeys_eq, iRg1, iRg2, vals, wipeG, O.bind_ok, O.s_ok, O.or_bad, O.or_ok, O.nx, leave, mkL, mkD, rdL, rdD, rdI, seqP, wD, wI, tgName, tgTup, tgCons, tgNil, fMeth_eq, fFld_eq, fFrz_eq, fMake_eq, fCallO, fYes, PC.p, le_ii, lt_ii, gt_ii, le_ss, add_ii, sub_ii, neg_i, eq_ii, ne_bb, eq_bb, eq_ss, ne_ss, List.map_cons, List.map_nil, List.length_cons, List.length_nil, List.replicate_succ, List.replicate_zero, List.cons_append, List.nil_append, List.getElem?_cons_zero, List.getElem?_cons_succ, List.getElem?_nil, List.set_cons_zero, List.set_cons_succ, Option.bind_some, Option.map_some, Nat.reduceAdd, Nat.reduceSub, Nat.reduceEqDiff, ↓reduceIte, Bool.not_true, Bool.not_false, Bool.false_eq_true, and_self, and_true, true_and, List.take_append_of_le_length, List.take_length], rfl, by
      simp (config := { zeta := true }) only [fDef, sSeq, sIfS, sRet, sSet, sNext, sDrop, sFor, sPar, sPar3, sAsgP, sSubName, sDPutP, sLPutP, sFldP, sBad, fCall, fCons, fNil, fVar, fC, fOp, fUn, fTest, fNotT, fAndT, fOrT, fAndV, fOrV, fNotV, fIf, fChain, fSeq, fLstC, fLc, fDc, iAny_eq, iVals_eq, iItems_eq, iKeys_eq, iRg1, iRg2, vals, wipeG, O.bind_ok, O.s_ok, O.or_bad, O.or_ok, O.nx, leave, mkL, mkD, rdL, rdD, rdI, seqP, wD, wI, tgName, tgTup, tgCons, tgNil, fMeth_eq, fFld_eq, fFrz_eq, fMake_eq, fCallO, fYes, PC.p, le_ii, lt_ii, gt_ii, le_ss, add_ii, sub_ii, neg_i, eq_ii, ne_bb, eq_bb, eq_ss, ne_ss, List.map_cons, List.map_nil, List.length_cons, List.length_nil, List.replicate_succ, List.replicate_zero, List.cons_append, List.nil_append, List.getElem?_cons_zero, List.getElem?_cons_succ, List.getElem?_nil, List.set_cons_zero, List.set_cons_succ, Option.bind_some, Option.map_some, Nat.reduceAdd, Nat.reduceSub, Nat.reduceEqDiff, ↓reduceIte, Bool.not_true, Bool.not_false, Bool.false_eq_true, and_self, and_true, true_and, List.take_append_of_le_length, List.take_length, it_t (show [dctP a, dctP b].length ≤ 100000 from (by decide : (2 : Nat) ≤ 100000)), show (2 : Nat) ≤ 100000 from by decide]
      have ne : ([a, b].filter fun t => decide (z ∈ keys t)).map (fun t => val t z) ≠ [] := fun e => by
        have e2 := List.map_eq_nil_iff.mp e
        rw [List.filter_eq_nil_iff] at e2
        rcases both_mem.mp (srt_mem.mp m) with h | h
        · exact e2 a (by simp) (decide_eq_true h)
        · exact e2 b (by simp) (decide_eq_true h)
      rw [show [dctP a, dctP b] = [a, b].map dctP from rfl, lc_on (f := tgName 4) (T := fTest (fOp (gIn false) (fVar 3) (fVar 4))) (E := fOp gIx (fVar 4) (fVar 3)) dctP (fun t => decide (z ∈ keys t)) (fun t => P.int (val t z)) (l := [a, b]) fun t mt => ⟨_, rfl, by
        simp (config := { zeta := true }) only [fDef, sSeq, sIfS, sRet, sSet, sNext, sDrop, sFor, sPar, sPar3, sAsgP, sSubName, sDPutP, sLPutP, sFldP, sBad, fCall, fCons, fNil, fVar, fC, fOp, fUn, fTest, fNotT, fAndT, fOrT, fAndV, fOrV, fNotV, fIf, fChain, fSeq, fLstC, fLc, fDc, iAny_eq, iVals_eq, iItems_eq, iKeys_eq, iRg1, iRg2, vals, wipeG, O.bind_ok, O.s_ok, O.or_bad, O.or_ok, O.nx, leave, mkL, mkD, rdL, rdD, rdI, seqP, wD, wI, tgName, tgTup, tgCons, tgNil, fMeth_eq, fFld_eq, fFrz_eq, fMake_eq, fCallO, fYes, PC.p, le_ii, lt_ii, gt_ii, le_ss, add_ii, sub_ii, neg_i, eq_ii, ne_bb, eq_bb, eq_ss, ne_ss, List.map_cons, List.map_nil, List.length_cons, List.length_nil, List.replicate_succ, List.replicate_zero, List.cons_append, List.nil_append, List.getElem?_cons_zero, List.getElem?_cons_succ, List.getElem?_nil, List.set_cons_zero, List.set_cons_succ, Option.bind_some, Option.map_some, Nat.reduceAdd, Nat.reduceSub, Nat.reduceEqDiff, ↓reduceIte, Bool.not_true, Bool.not_false, Bool.false_eq_true, and_self, and_true, true_and, List.take_append_of_le_length, List.take_length, din_ok]
        simp, fun h => by simp (config := { zeta := true }) only [fDef, sSeq, sIfS, sRet, sSet, sNext, sDrop, sFor, sPar, sPar3, sAsgP, sSubName, sDPutP, sLPutP, sFldP, sBad, fCall, fCons, fNil, fVar, fC, fOp, fUn, fTest, fNotT, fAndT, fOrT, fAndV, fOrV, fNotV, fIf, fChain, fSeq, fLstC, fLc, fDc, iAny_eq, iVals_eq, iItems_eq, iKeys_eq, iRg1, iRg2, vals, wipeG, O.bind_ok, O.s_ok, O.or_bad, O.or_ok, O.nx, leave, mkL, mkD, rdL, rdD, rdI, seqP, wD, wI, tgName, tgTup, tgCons, tgNil, fMeth_eq, fFld_eq, fFrz_eq, fMake_eq, fCallO, fYes, PC.p, le_ii, lt_ii, gt_ii, le_ss, add_ii, sub_ii, neg_i, eq_ii, ne_bb, eq_bb, eq_ss, ne_ss, List.map_cons, List.map_nil, List.length_cons, List.length_nil, List.replicate_succ, List.replicate_zero, List.cons_append, List.nil_append, List.getElem?_cons_zero, List.getElem?_cons_succ, List.getElem?_nil, List.set_cons_zero, List.set_cons_succ, Option.bind_some, Option.map_some, Nat.reduceAdd, Nat.reduceSub, Nat.reduceEqDiff, ↓reduceIte, Bool.not_true, Bool.not_false, Bool.false_eq_true, and_self, and_true, true_and, List.take_append_of_le_length, List.take_length, dget_ok (val_of (of_decide_eq_true h))]⟩]
      simp (config := { zeta := true }) only [fDef, sSeq, sIfS, sRet, sSet, sNext, sDrop, sFor, sPar, sPar3, sAsgP, sSubName, sDPutP, sLPutP, sFldP, sBad, fCall, fCons, fNil, fVar, fC, fOp, fUn, fTest, fNotT, fAndT, fOrT, fAndV, fOrV, fNotV, fIf, fChain, fSeq, fLstC, fLc, fDc, iAny_eq, iVals_eq, iItems_eq, iKeys_eq, iRg1, iRg2, vals, wipeG, O.bind_ok, O.s_ok, O.or_bad, O.or_ok, O.nx, leave, mkL, mkD, rdL, rdD, rdI, seqP, wD, wI, tgName, tgTup, tgCons, tgNil, fMeth_eq, fFld_eq, fFrz_eq, fMake_eq, fCallO, fYes, PC.p, le_ii, lt_ii, gt_ii, le_ss, add_ii, sub_ii, neg_i, eq_ii, ne_bb, eq_bb, eq_ss, ne_ss, List.map_cons, List.map_nil, List.length_cons, List.length_nil, List.replicate_succ, List.replicate_zero, List.cons_append, List.nil_append, List.getElem?_cons_zero, List.getElem?_cons_succ, List.getElem?_nil, List.set_cons_zero, List.set_cons_succ, Option.bind_some, Option.map_some, Nat.reduceAdd, Nat.reduceSub, Nat.reduceEqDiff, ↓reduceIte, Bool.not_true, Bool.not_false, Bool.false_eq_true, and_self, and_true, true_and, List.take_append_of_le_length, List.take_length, min_l (ints_map (fun t => val t z) ([a, b].filter fun t => decide (z ∈ keys t))) ne]
      rfl⟩
  have q' : dcGo (tgName 3) fYes (fVar 3) (fCall gMin (fCons (fLc (iAny (fSeq .tup (fCons (fVar 0) (fCons (fVar 1) fNil)))) (tgName 4) (fTest (fOp (gIn false) (fVar 3) (fVar 4))) (fOp gIx (fVar 4) (fVar 3)) [4]) fNil))
    [some (W.v (dctP a)), some (W.v (dctP b)), some (W.v (.lst ((srt (insAll (insAll [] (keys a)) (insAll [] (keys b)))).map P.str))), none, none] ((srt (insAll (insAll [] (keys a)) (insAll [] (keys b)))).map P.str) [] μ = _ := q
  rw [q']
  simp (config := { zeta := true }) only [fDef, sSeq, sIfS, sRet, sSet, sNext, sDrop, sFor, sPar, sPar3, sAsgP, sSubName, sDPutP, sLPutP, sFldP, sBad, fCall, fCons, fNil, fVar, fC, fOp, fUn, fTest, fNotT, fAndT, fOrT, fAndV, fOrV, fNotV, fIf, fChain, fSeq, fLstC, fLc, fDc, iAny_eq, iVals_eq, iItems_eq, iKeys_eq, iRg1, iRg2, vals, wipeG, O.bind_ok, O.s_ok, O.or_bad, O.or_ok, O.nx, leave, mkL, mkD, rdL, rdD, rdI, seqP, wD, wI, tgName, tgTup, tgCons, tgNil, fMeth_eq, fFld_eq, fFrz_eq, fMake_eq, fCallO, fYes, PC.p, le_ii, lt_ii, gt_ii, le_ss, add_ii, sub_ii, neg_i, eq_ii, ne_bb, eq_bb, eq_ss, ne_ss, List.map_cons, List.map_nil, List.length_cons, List.length_nil, List.replicate_succ, List.replicate_zero, List.cons_append, List.nil_append, List.getElem?_cons_zero, List.getElem?_cons_succ, List.getElem?_nil, List.set_cons_zero, List.set_cons_succ, Option.bind_some, Option.map_some, Nat.reduceAdd, Nat.reduceSub, Nat.reduceEqDiff, ↓reduceIte, Bool.not_true, Bool.not_false, Bool.false_eq_true, and_self, and_true, true_and, List.take_append_of_le_length, List.take_length]
  unfold dctP least rowP
  rw [List.map_map]
  rfl
theorem okLeast {a b : Tb} (ha : Ok a) (hb : Ok b) (h8 : (both a b).length ≤ 8) : Ok (least a b) := by
  refine ⟨fun e => ?_, ?_, ?_, ?_⟩
  · have e2 : keys (least a b) = [] := by rw [e]; rfl
    rw [keys_least] at e2
    obtain ⟨z, r, e3⟩ := List.exists_cons_of_ne_nil (keys_ne ha.ne)
    have : z ∈ srt (both a b) := srt_mem.mpr (both_mem.mpr (.inl (by rw [e3]; exact List.mem_cons_self)))
    rw [e2] at this
    cases this
  · rw [keys_least]
    intro z m
    rcases both_mem.mp (srt_mem.mp m) with h | h
    · exact ha.nm z h
    · exact hb.nm z h
  · rw [keys_least]
    exact srt_nodup (both_nd a b)
  · unfold least
    rw [List.length_map, srt_len]
    exact h8
theorem e_or {a b : Tb} (ha : Ok a) (hb : Ok b) (h8 : (both a b).length ≤ 8) : D_Earliest___or__ Pg w K [.v (ear (cE K) a), .v (ear (cE K) b)] μ = .ok (.v (ear (cE K) (ord (least a b)))) μ := by
  have la := ha.le
  have lb := hb.le
  unfold D_Earliest___or__
  simp (config := { zeta := true }) only [fDef, sSeq, sIfS, sRet, sSet, sNext, sDrop, sFor, sPar, sPar3, sAsgP, sSubName, sDPutP, sLPutP, sFldP, sBad, fCall, fCons, fNil, fVar, fC, fOp, fUn, fTest, fNotT, fAndT, fOrT, fAndV, fOrV, fNotV, fIf, fChain, fSeq, fLstC, fLc, fDc, iAny_eq, iVals_eq, iItems_eq, iKeys_eq, iRg1, iRg2, vals, wipeG, O.bind_ok, O.s_ok, O.or_bad, O.or_ok, O.nx, leave, mkL, mkD, rdL, rdD, rdI, seqP, wD, wI, tgName, tgTup, tgCons, tgNil, fMeth_eq, fFld_eq, fFrz_eq, fMake_eq, fCallO, fYes, PC.p, le_ii, lt_ii, gt_ii, le_ss, add_ii, sub_ii, neg_i, eq_ii, ne_bb, eq_bb, eq_ss, ne_ss, List.map_cons, List.map_nil, List.length_cons, List.length_nil, List.replicate_succ, List.replicate_zero, List.cons_append, List.nil_append, List.getElem?_cons_zero, List.getElem?_cons_succ, List.getElem?_nil, List.set_cons_zero, List.set_cons_succ, Option.bind_some, Option.map_some, Nat.reduceAdd, Nat.reduceSub, Nat.reduceEqDiff, ↓reduceIte, Bool.not_true, Bool.not_false, Bool.false_eq_true, and_self, and_true, true_and, List.take_append_of_le_length, List.take_length, isi_e (cs := [ga K "Earliest"]) (C := ga K "Earliest") (by simp), fld_e, e_least ha.ne la lb, e_make (okLeast ha hb h8)]
end
end Pu

set_option Elab.async false
set_option linter.all false
set_option maxRecDepth 100000
set_option maxHeartbeats 4000000
namespace Pu
open L2 PySem PySem.Spec PyProof.Rows E10
open He (ga ma)
section
variable {μ : Μ} {i j : Int}
theorem mod_ii (h : 0 < j) : fMod (.v (.int i)) (.v (.int j)) μ = .ok (.v (.int (i % j))) μ := if_pos (decide_eq_true h)
theorem div_ii (h : 0 < j ∧ j < 1073741824) : fDiv (.v (.int i)) (.v (.int j)) μ = .ok (.v (.int (i / j))) μ := if_pos (decide_eq_true h)
theorem pow_ii (h : 0 ≤ j ∧ j ≤ 1000000 ∧ i.natAbs < 2 ^ 64) : fPow (.v (.int i)) (.v (.int j)) μ = .ok (.v (.int (i ^ j.toNat))) μ := if_pos (decide_eq_true h)
theorem max_ii : gMax [.v (.int i), .v (.int j)] μ = .ok (.v (.int (max i j))) μ := rfl
theorem abs_i : fAbs [.v (.int i)] μ = .ok (.v (.int i.natAbs)) μ := rfl
theorem int_i : fInt [.v (.int i)] μ = .ok (.v (.int i)) μ := rfl
theorem divm (h : 0 < j ∧ j < 1073741824) : fDivmod [.v (.int i), .v (.int j)] μ = .ok (.v (.tup [.int (i / j), .int (i % j)])) μ := if_pos h
/-- the pot -/
def pc (a b : Int) : PC := .lst [.int a, .int b]
theorem pot0 {a b : Int} {r : Μ} : gIx (.loc 0) (.v (.int 0)) (pc a b :: r) = .ok (.v (.int a)) (pc a b :: r) := rfl
theorem pot1 {a b : Int} {r : Μ} : gIx (.loc 0) (.v (.int 1)) (pc a b :: r) = .ok (.v (.int b)) (pc a b :: r) := rfl
theorem wL_pc {a b : Int} {r : Μ} : wL (pc a b :: r) (.loc 0) = some (0, [.int a, .int b]) := rfl
theorem ixN20 : ixN 2 0 = some 0 := rfl
theorem ixN21 : ixN 2 1 = some 1 := rfl
theorem pc0 {a b c : Int} {r : Μ} : List.set (pc a b :: r) 0 (PC.lst (List.set [P.int a, P.int b] 0 (.int c))) = pc c b :: r := rfl
theorem pc1 {a b c : Int} {r : Μ} : List.set (pc a b :: r) 0 (PC.lst (List.set [P.int a, P.int b] 1 (.int c))) = pc a c :: r := rfl
theorem pcf {a b : Int} : PC.lst [.int a, .int b] = pc a b := rfl
theorem atI_nat {α : Type} {l : List α} {k : Nat} {v : α} (h : l[k]? = some v) : atI l (k : Int) = some v := by
  have lt := (List.getElem?_eq_some_iff.mp h).1
  unfold atI ixN
  rw [if_pos (by omega), if_pos (by omega)]
  exact h
theorem ix_l {ps : List P} {k : Nat} {v : P} (h : ps[k]? = some v) : gIx (.v (.lst ps)) (.v (.int k)) μ = .ok (.v v) μ := by
  show O.or (match atI ps (k : Int) with
    | some p => O.ok (W.v p) μ
    | none => .bad) _ = _
  rw [atI_nat h]
  rfl
end
structure PotOk (a b : Int) : Prop where
  a0 : 0 ≤ a
  b0 : 0 ≤ b
  b1 : b < 2147483630
section
variable {Pg : Program} {w : World} {K : PySem.W.Frag} {μ : Μ}
theorem e_draw {a b : Int} {r : Μ} (h : PotOk a b) {n : Int} (h0 : 0 < n) (h1 : n < 1073741824) : ∃ d a' b', 0 ≤ d ∧ d < n ∧ PotOk a' b' ∧ D__law_draw Pg w K [.loc 0, .v (.int n)] (pc a b :: r) = .ok (.v (.int d)) (pc a' b' :: r) := by
  have tk : ∀ c : PC, List.take (r.length + 1) (c :: r) = c :: r := fun c => List.take_of_length_le (Nat.le_refl _)
  by_cases c : 0 < a
  · refine ⟨a % n, a / n, b, Int.emod_nonneg _ (by omega), Int.emod_lt_of_pos _ h0, ⟨Int.ediv_nonneg h.a0 (by omega), h.b0, h.b1⟩, ?_⟩
    unfold D__law_draw
    simp (config := { zeta := true }) only [fDef, sSeq, sIfS, sRet, sSet, sNext, sDrop, sFor, sPar, sPar3, sAsgP, sSubName, sDPutP, sLPutP, sFldP, sBad, fCall, fCons, fNil, fVar, fC, fOp, fUn, fTest, fNotT, fAndT, fOrT, fAndV, fOrV, fNotV, fIf, fChain, fSeq, fLstC, fLc, fDc, iAny_eq, iVals_eq, iItems_eq, iKeys_eq, iRg1, iRg2, vals, wipeG, O.bind_ok, O.s_ok, O.or_bad, O.or_ok, O.nx, leave, mkL, mkD, rdL, rdD, rdI, seqP, wD, wI, tgName, tgTup, tgCons, tgNil, fMeth_eq, fFld_eq, fFrz_eq, fMake_eq, fCallO, fYes, PC.p, le_ii, lt_ii, gt_ii, le_ss, add_ii, sub_ii, neg_i, eq_ii, ne_bb, eq_bb, eq_ss, ne_ss, List.map_cons, List.map_nil, List.length_cons, List.length_nil, List.replicate_succ, List.replicate_zero, List.cons_append, List.nil_append, List.getElem?_cons_zero, List.getElem?_cons_succ, List.getElem?_nil, List.set_cons_zero, List.set_cons_succ, Option.bind_some, Option.map_some, Nat.reduceAdd, Nat.reduceSub, Nat.reduceEqDiff, ↓reduceIte, Bool.not_true, Bool.not_false, Bool.false_eq_true, and_self, and_true, true_and, List.take_append_of_le_length, List.take_length, pot0, decide_eq_true c, divm ⟨h0, h1⟩, wL_pc, ixN20, pcf, tk]
  · have b2 : (0 : Int) ≤ (b * 41999 + 28001) % 2147483629 := Int.emod_nonneg _ (by decide)
    have b3 : (b * 41999 + 28001) % 2147483629 < 2147483629 := Int.emod_lt_of_pos _ (by decide)
    refine ⟨((((b * 41999 + 28001) % 2147483629) * ((b * 41999 + 28001) % 2147483629)) % 2147483563 / 19) % n, a, (b * 41999 + 28001) % 2147483629, Int.emod_nonneg _ (by omega), Int.emod_lt_of_pos _ h0, ⟨h.a0, b2, by omega⟩, ?_⟩
    unfold D__law_draw
    simp (config := { zeta := true }) only [fDef, sSeq, sIfS, sRet, sSet, sNext, sDrop, sFor, sPar, sPar3, sAsgP, sSubName, sDPutP, sLPutP, sFldP, sBad, fCall, fCons, fNil, fVar, fC, fOp, fUn, fTest, fNotT, fAndT, fOrT, fAndV, fOrV, fNotV, fIf, fChain, fSeq, fLstC, fLc, fDc, iAny_eq, iVals_eq, iItems_eq, iKeys_eq, iRg1, iRg2, vals, wipeG, O.bind_ok, O.s_ok, O.or_bad, O.or_ok, O.nx, leave, mkL, mkD, rdL, rdD, rdI, seqP, wD, wI, tgName, tgTup, tgCons, tgNil, fMeth_eq, fFld_eq, fFrz_eq, fMake_eq, fCallO, fYes, PC.p, le_ii, lt_ii, gt_ii, le_ss, add_ii, sub_ii, neg_i, eq_ii, ne_bb, eq_bb, eq_ss, ne_ss, List.map_cons, List.map_nil, List.length_cons, List.length_nil, List.replicate_succ, List.replicate_zero, List.cons_append, List.nil_append, List.getElem?_cons_zero, List.getElem?_cons_succ, List.getElem?_nil, List.set_cons_zero, List.set_cons_succ, Option.bind_some, Option.map_some, Nat.reduceAdd, Nat.reduceSub, Nat.reduceEqDiff, ↓reduceIte, Bool.not_true, Bool.not_false, Bool.false_eq_true, and_self, and_true, true_and, List.take_append_of_le_length, List.take_length, pot0, pot1, decide_eq_false c, mul_ii (i := b) (j := 41999) (.inr (by decide)), int_i, mod_ii (j := 2147483629) (by decide), mod_ii (j := 2147483563) (by decide), div_ii (j := 19) (by decide), mod_ii (j := n) h0, wL_pc, ixN21, pcf, tk,
      mul_ii (i := (b * 41999 + 28001) % 2147483629) (j := (b * 41999 + 28001) % 2147483629) (.inl (by omega))]
theorem e_pot {ns : List Int} {k : Nat} (hk : k < 64) : ∃ a b, PotOk a b ∧ D__law_pot Pg w K [.v (.lst (ns.map P.int)), .v (.int k)] μ = .ok (.loc μ.length) (μ ++ [pc a b]) := by
  have fin : ∀ c : Int, ∃ a b, PotOk a b ∧ a = max 0 (c - 10 ^ 18) ∧ b = (c % 2147483563 * 37991 + 17011 * k + 59) % 2147483629 + 1 := fun c => ⟨_, _, ⟨Int.le_max_left .., by have := Int.emod_nonneg (c % 2147483563 * 37991 + 17011 * k + 59) (show (2147483629 : Int) ≠ 0 by decide); omega, by have := Int.emod_lt_of_pos (c % 2147483563 * 37991 + 17011 * k + 59) (show (0 : Int) < 2147483629 by decide); omega⟩, rfl, rfl⟩
  by_cases c : k < ns.length
  · obtain ⟨a, b, h, ea, eb⟩ := fin ((ns[k].natAbs : Nat) : Int)
    refine ⟨a, b, h, ?_⟩
    unfold D__law_pot
    simp (config := { zeta := true }) only [fDef, sSeq, sIfS, sRet, sSet, sNext, sDrop, sFor, sPar, sPar3, sAsgP, sSubName, sDPutP, sLPutP, sFldP, sBad, fCall, fCons, fNil, fVar, fC, fOp, fUn, fTest, fNotT, fAndT, fOrT, fAndV, fOrV, fNotV, fIf, fChain, fSeq, fLstC, fLc, fDc, iAny_eq, iVals_eq, iItems_eq, iKeys_eq, iRg1, iRg2, vals, wipeG, O.bind_ok, O.s_ok, O.or_bad, O.or_ok, O.nx, leave, mkL, mkD, rdL, rdD, rdI, seqP, wD, wI, tgName, tgTup, tgCons, tgNil, fMeth_eq, fFld_eq, fFrz_eq, fMake_eq, fCallO, fYes, PC.p, le_ii, lt_ii, gt_ii, le_ss, add_ii, sub_ii, neg_i, eq_ii, ne_bb, eq_bb, eq_ss, ne_ss, List.map_cons, List.map_nil, List.length_cons, List.length_nil, List.replicate_succ, List.replicate_zero, List.cons_append, List.nil_append, List.getElem?_cons_zero, List.getElem?_cons_succ, List.getElem?_nil, List.set_cons_zero, List.set_cons_succ, Option.bind_some, Option.map_some, Nat.reduceAdd, Nat.reduceSub, Nat.reduceEqDiff, ↓reduceIte, Bool.not_true, Bool.not_false, Bool.false_eq_true, and_self, and_true, true_and, List.take_append_of_le_length, List.take_length, mul_ii (i := 71) (j := (k : Int)) (.inl (by decide)), len_l, List.length_map, decide_eq_true (show ((k : Nat) : Int) < ((ns.length : Nat) : Int) by omega), ix_l (ps := ns.map P.int) (k := k) (v := P.int ns[k]) (by simp [c]), abs_i, int_i, pow_ii (i := 10) (j := 18) (by decide), max_ii, mod_ii (j := 2147483563) (by decide), mul_ii (i := ((ns[k].natAbs : Nat) : Int) % 2147483563) (j := 37991) (.inr (by decide)), mul_ii (i := 17011) (j := (k : Int)) (.inl (by decide)), mod_ii (j := 2147483629) (by decide)]
    rw [if_pos (show 2 ≤ 100000 by decide)]
    simp only [O.s_ok, Nat.lt_irrefl, if_false, last_at, List.take_left]
    rw [ea, eb]
    rfl
  · obtain ⟨a, b, h, ea, eb⟩ := fin (71 * (k : Int) + 23)
    refine ⟨a, b, h, ?_⟩
    unfold D__law_pot
    simp (config := { zeta := true }) only [fDef, sSeq, sIfS, sRet, sSet, sNext, sDrop, sFor, sPar, sPar3, sAsgP, sSubName, sDPutP, sLPutP, sFldP, sBad, fCall, fCons, fNil, fVar, fC, fOp, fUn, fTest, fNotT, fAndT, fOrT, fAndV, fOrV, fNotV, fIf, fChain, fSeq, fLstC, fLc, fDc, iAny_eq, iVals_eq, iItems_eq, iKeys_eq, iRg1, iRg2, vals, wipeG, O.bind_ok, O.s_ok, O.or_bad, O.or_ok, O.nx, leave, mkL, mkD, rdL, rdD, rdI, seqP, wD, wI, tgName, tgTup, tgCons, tgNil, fMeth_eq, fFld_eq, fFrz_eq, fMake_eq, fCallO, fYes, PC.p, le_ii, lt_ii, gt_ii, le_ss, add_ii, sub_ii, neg_i, eq_ii, ne_bb, eq_bb, eq_ss, ne_ss, List.map_cons, List.map_nil, List.length_cons, List.length_nil, List.replicate_succ, List.replicate_zero, List.cons_append, List.nil_append, List.getElem?_cons_zero, List.getElem?_cons_succ, List.getElem?_nil, List.set_cons_zero, List.set_cons_succ, Option.bind_some, Option.map_some, Nat.reduceAdd, Nat.reduceSub, Nat.reduceEqDiff, ↓reduceIte, Bool.not_true, Bool.not_false, Bool.false_eq_true, and_self, and_true, true_and, List.take_append_of_le_length, List.take_length, mul_ii (i := 71) (j := (k : Int)) (.inl (by decide)), len_l, List.length_map, decide_eq_false (show ¬ ((k : Nat) : Int) < ((ns.length : Nat) : Int) by omega), int_i, pow_ii (i := 10) (j := 18) (by decide), max_ii, mod_ii (j := 2147483563) (by decide), mul_ii (i := (71 * (k : Int) + 23) % 2147483563) (j := 37991) (.inr (by decide)), mul_ii (i := 17011) (j := (k : Int)) (.inl (by decide)), mod_ii (j := 2147483629) (by decide)]
    rw [if_pos (show 2 ≤ 100000 by decide)]
    simp only [O.s_ok, Nat.lt_irrefl, if_false, last_at, List.take_left]
    rw [ea, eb]
    rfl
theorem ix_s {z : Str} {k : Nat} {c : Nat} (hz : z.length ≤ 100000) (h : z.cps.toList[k]? = some c) : gIx (.v (.str z)) (.v (.int k)) μ = .ok (.v (.str ⟨#[c]⟩)) μ := by
  have hz2 : z.length ≤ sizeLine := Nat.le_trans hz (by decide)
  show O.or .bad (O.or .bad (O.or (if z.length ≤ sizeLine then match atI z.cps.toList (k : Int) with
    | some c => O.ok (W.v (.str ⟨#[c]⟩)) μ
    | none => .bad else .bad) _)) = _
  rw [if_pos hz2, atI_nat h]
  rfl
/-- one of some -/
theorem e_choiceL {a b : Int} {r : Μ} (h : PotOk a b) {ps : List P} (ne : ps ≠ []) (le : ps.length < 1000) : ∃ q a' b', q ∈ ps ∧ PotOk a' b' ∧ D__law_choice Pg w K [.loc 0, .v (.lst ps)] (pc a b :: r) = .ok (.v q) (pc a' b' :: r) := by
  have tk : ∀ c : PC, List.take (r.length + 1) (c :: r) = c :: r := fun c => List.take_of_length_le (Nat.le_refl _)
  have lp := List.length_pos_iff.mpr ne
  obtain ⟨d, a', b', h1, h2, h3, h4⟩ := e_draw (Pg := Pg) (w := w) (K := K) (r := r) h (n := ((ps.length : Nat) : Int)) (by omega) (by omega)
  obtain ⟨k, rfl⟩ := Int.eq_ofNat_of_zero_le h1
  have lt : k < ps.length := by omega
  refine ⟨ps[k], a', b', List.getElem_mem lt, h3, ?_⟩
  unfold D__law_choice
  simp (config := { zeta := true }) only [fDef, sSeq, sIfS, sRet, sSet, sNext, sDrop, sFor, sPar, sPar3, sAsgP, sSubName, sDPutP, sLPutP, sFldP, sBad, fCall, fCons, fNil, fVar, fC, fOp, fUn, fTest, fNotT, fAndT, fOrT, fAndV, fOrV, fNotV, fIf, fChain, fSeq, fLstC, fLc, fDc, iAny_eq, iVals_eq, iItems_eq, iKeys_eq, iRg1, iRg2, vals, wipeG, O.bind_ok, O.s_ok, O.or_bad, O.or_ok, O.nx, leave, mkL, mkD, rdL, rdD, rdI, seqP, wD, wI, tgName, tgTup, tgCons, tgNil, fMeth_eq, fFld_eq, fFrz_eq, fMake_eq, fCallO, fYes, PC.p, le_ii, lt_ii, gt_ii, le_ss, add_ii, sub_ii, neg_i, eq_ii, ne_bb, eq_bb, eq_ss, ne_ss, List.map_cons, List.map_nil, List.length_cons, List.length_nil, List.replicate_succ, List.replicate_zero, List.cons_append, List.nil_append, List.getElem?_cons_zero, List.getElem?_cons_succ, List.getElem?_nil, List.set_cons_zero, List.set_cons_succ, Option.bind_some, Option.map_some, Nat.reduceAdd, Nat.reduceSub, Nat.reduceEqDiff, ↓reduceIte, Bool.not_true, Bool.not_false, Bool.false_eq_true, and_self, and_true, true_and, List.take_append_of_le_length, List.take_length, len_l, h4, ix_l (ps := ps) (k := k) (List.getElem?_eq_getElem lt), tk]
theorem e_choiceS {a b : Int} {r : Μ} (h : PotOk a b) {z : Str} (ne : 0 < z.length) (le : z.length < 1000) : ∃ c a' b', c ∈ z.cps.toList ∧ PotOk a' b' ∧ D__law_choice Pg w K [.loc 0, .v (.str z)] (pc a b :: r) = .ok (.v (.str ⟨#[c]⟩)) (pc a' b' :: r) := by
  have tk : ∀ c : PC, List.take (r.length + 1) (c :: r) = c :: r := fun c => List.take_of_length_le (Nat.le_refl _)
  obtain ⟨d, a', b', h1, h2, h3, h4⟩ := e_draw (Pg := Pg) (w := w) (K := K) (r := r) h (n := ((z.length : Nat) : Int)) (by omega) (by omega)
  obtain ⟨k, rfl⟩ := Int.eq_ofNat_of_zero_le h1
  have lt : k < z.cps.toList.length := by
    rw [Array.length_toList]
    show k < z.length
    omega
  refine ⟨z.cps.toList[k], a', b', List.getElem_mem lt, h3, ?_⟩
  unfold D__law_choice
  simp (config := { zeta := true }) only [fDef, sSeq, sIfS, sRet, sSet, sNext, sDrop, sFor, sPar, sPar3, sAsgP, sSubName, sDPutP, sLPutP, sFldP, sBad, fCall, fCons, fNil, fVar, fC, fOp, fUn, fTest, fNotT, fAndT, fOrT, fAndV, fOrV, fNotV, fIf, fChain, fSeq, fLstC, fLc, fDc, iAny_eq, iVals_eq, iItems_eq, iKeys_eq, iRg1, iRg2, vals, wipeG, O.bind_ok, O.s_ok, O.or_bad, O.or_ok, O.nx, leave, mkL, mkD, rdL, rdD, rdI, seqP, wD, wI, tgName, tgTup, tgCons, tgNil, fMeth_eq, fFld_eq, fFrz_eq, fMake_eq, fCallO, fYes, PC.p, le_ii, lt_ii, gt_ii, le_ss, add_ii, sub_ii, neg_i, eq_ii, ne_bb, eq_bb, eq_ss, ne_ss, List.map_cons, List.map_nil, List.length_cons, List.length_nil, List.replicate_succ, List.replicate_zero, List.cons_append, List.nil_append, List.getElem?_cons_zero, List.getElem?_cons_succ, List.getElem?_nil, List.set_cons_zero, List.set_cons_succ, Option.bind_some, Option.map_some, Nat.reduceAdd, Nat.reduceSub, Nat.reduceEqDiff, ↓reduceIte, Bool.not_true, Bool.not_false, Bool.false_eq_true, and_self, and_true, true_and, List.take_append_of_le_length, List.take_length, len_s (show z.length ≤ 100000 by omega), h4, ix_s (z := z) (k := k) (by omega) (List.getElem?_eq_getElem lt), tk]
/-- numbers drawn -/
def Bg (n : Int) : Prop := n.natAbs < 10 ^ 60
theorem e_number {a b : Int} {r : Μ} (h : PotOk a b) : ∃ n a' b', PotOk a' b' ∧ D__law_number Pg w K [.loc 0] (pc a b :: r) = .ok (.v (.int n)) (pc a' b' :: r) := by
  have tk : ∀ c : PC, List.take (r.length + 1) (c :: r) = c :: r := fun c => List.take_of_length_le (Nat.le_refl _)
  obtain ⟨d1, a1, b1, p1, p2, p3, p4⟩ := e_draw (Pg := Pg) (w := w) (K := K) (r := r) h (n := 5) (by decide) (by decide)
  obtain ⟨d2, a2, b2, q1, q2, q3, q4⟩ := e_draw (Pg := Pg) (w := w) (K := K) (r := r) p3 (n := 9) (by decide) (by decide)
  by_cases c : d1 < 3
  · obtain ⟨k, rfl⟩ := Int.eq_ofNat_of_zero_le p1
    have hk : k < 3 := by omega
    have ex : ∃ n : Int, [P.int 0, P.int (d2 - 4), P.int (d2 - 4)][k]? = some (P.int n) := by
      match k, hk with
      | 0, _ => exact ⟨_, rfl⟩
      | 1, _ => exact ⟨_, rfl⟩
      | 2, _ => exact ⟨_, rfl⟩
    obtain ⟨n, en⟩ := ex
    refine ⟨n, a2, b2, q3, ?_⟩
    unfold D__law_number
    simp (config := { zeta := true }) only [fDef, sSeq, sIfS, sRet, sSet, sNext, sDrop, sFor, sPar, sPar3, sAsgP, sSubName, sDPutP, sLPutP, sFldP, sBad, fCall, fCons, fNil, fVar, fC, fOp, fUn, fTest, fNotT, fAndT, fOrT, fAndV, fOrV, fNotV, fIf, fChain, fSeq, fLstC, fLc, fDc, iAny_eq, iVals_eq, iItems_eq, iKeys_eq, iRg1, iRg2, vals, wipeG, O.bind_ok, O.s_ok, O.or_bad, O.or_ok, O.nx, leave, mkL, mkD, rdL, rdD, rdI, seqP, wD, wI, tgName, tgTup, tgCons, tgNil, fMeth_eq, fFld_eq, fFrz_eq, fMake_eq, fCallO, fYes, PC.p, le_ii, lt_ii, gt_ii, le_ss, add_ii, sub_ii, neg_i, eq_ii, ne_bb, eq_bb, eq_ss, ne_ss, List.map_cons, List.map_nil, List.length_cons, List.length_nil, List.replicate_succ, List.replicate_zero, List.cons_append, List.nil_append, List.getElem?_cons_zero, List.getElem?_cons_succ, List.getElem?_nil, List.set_cons_zero, List.set_cons_succ, Option.bind_some, Option.map_some, Nat.reduceAdd, Nat.reduceSub, Nat.reduceEqDiff, ↓reduceIte, Bool.not_true, Bool.not_false, Bool.false_eq_true, and_self, and_true, true_and, List.take_append_of_le_length, List.take_length, p4, q4, decide_eq_true c, show (3 : Nat) ≤ 100000 from by decide, ix_l en, tk]
  · obtain ⟨d3, a3, b3, s1, s2, s3, s4⟩ := e_draw (Pg := Pg) (w := w) (K := K) (r := r) q3 (n := 10 ^ 6) (by decide) (by decide)
    obtain ⟨d4, a4, b4, t1, t2, t3, t4⟩ := e_draw (Pg := Pg) (w := w) (K := K) (r := r) s3 (n := 10 ^ 6) (by decide) (by decide)
    have e6 : ((10 : Int) ^ Int.toNat 6) = 10 ^ 6 := rfl
    have fin : ∃ n, (if (d1 == 3) = true then n = d3 * 10 ^ 44 + d4 else n = -(d3 * 10 ^ 44 + d4)) := by
      by_cases e : (d1 == 3) = true
      · exact ⟨_, by rw [if_pos e]⟩
      · exact ⟨_, by rw [if_neg e]⟩
    obtain ⟨n, hn⟩ := fin
    refine ⟨n, a4, b4, t3, ?_⟩
    unfold D__law_number
    simp (config := { zeta := true }) only [fDef, sSeq, sIfS, sRet, sSet, sNext, sDrop, sFor, sPar, sPar3, sAsgP, sSubName, sDPutP, sLPutP, sFldP, sBad, fCall, fCons, fNil, fVar, fC, fOp, fUn, fTest, fNotT, fAndT, fOrT, fAndV, fOrV, fNotV, fIf, fChain, fSeq, fLstC, fLc, fDc, iAny_eq, iVals_eq, iItems_eq, iKeys_eq, iRg1, iRg2, vals, wipeG, O.bind_ok, O.s_ok, O.or_bad, O.or_ok, O.nx, leave, mkL, mkD, rdL, rdD, rdI, seqP, wD, wI, tgName, tgTup, tgCons, tgNil, fMeth_eq, fFld_eq, fFrz_eq, fMake_eq, fCallO, fYes, PC.p, le_ii, lt_ii, gt_ii, le_ss, add_ii, sub_ii, neg_i, eq_ii, ne_bb, eq_bb, eq_ss, ne_ss, List.map_cons, List.map_nil, List.length_cons, List.length_nil, List.replicate_succ, List.replicate_zero, List.cons_append, List.nil_append, List.getElem?_cons_zero, List.getElem?_cons_succ, List.getElem?_nil, List.set_cons_zero, List.set_cons_succ, Option.bind_some, Option.map_some, Nat.reduceAdd, Nat.reduceSub, Nat.reduceEqDiff, ↓reduceIte, Bool.not_true, Bool.not_false, Bool.false_eq_true, and_self, and_true, true_and, List.take_append_of_le_length, List.take_length, p4, q4, decide_eq_false c, pow_ii (i := 10) (j := 6) (by decide), pow_ii (i := 10) (j := 44) (by decide), e6, s4, t4, mul_ii (i := d3) (.inl (by omega))]
    by_cases e : (d1 == 3) = true
    · rw [if_pos e] at hn
      simp only [if_pos e, O.s_ok, tk]
      rw [hn]
      rfl
    · rw [if_neg e] at hn
      simp only [if_neg e, O.s_ok, tk]
      rw [hn]
      rfl
end
end Pu

set_option Elab.async false
set_option linter.all false
set_option maxRecDepth 100000
set_option maxHeartbeats 4000000
namespace Pu
open L2 PySem PySem.Spec PyProof.Rows E10
/-! ### names, mathematically -/
def ch (c : Nat) : Str := ⟨#[c]⟩
theorem fold_ch : ∀ (cs : List Nat) (acc : Array Nat), (cs.map ch).foldl (fun acc p => acc ++ ("" : Str).cps ++ p.cps) acc = acc ++ cs.toArray
  | [], acc => by simp
  | c :: cs, acc => by
    rw [List.map_cons, List.foldl_cons, fold_ch cs]
    have e : ("" : Str).cps = #[] := rfl
    rw [e]
    show acc ++ #[] ++ #[c] ++ cs.toArray = acc ++ (c :: cs).toArray
    simp
theorem join_ch (cs : List Nat) : Txt.join "" (cs.map ch) = ⟨cs.toArray⟩ := by
  unfold Txt.join
  rw [PySem.StrLaws.glued_eq_join]
  cases cs with
  | nil => rfl
  | cons c cs =>
    rw [List.map_cons, ← PySem.StrLaws.glued_cons, fold_ch]
    refine Str.ext' ?_
    show #[c] ++ cs.toArray = (c :: cs).toArray
    simp
theorem nm_of {cs : List Nat} (h0 : 0 < cs.length) (h8 : cs.length ≤ 8) (h : ∀ c ∈ cs, 97 ≤ c ∧ c ≤ 122) : Nm ⟨cs.toArray⟩ := ⟨by have : 1 ≤ cs.length := h0; simpa [Str.length] using this, by simpa [Str.length] using h8, by simpa using h⟩
theorem cut_six (z : Str) : (cutS z none (some 6)).cps.toList = z.cps.toList.take 6 := by
  unfold cutS
  rw [HT.sIx_none, show (some (6 : Int)) = some ((6 : Nat) : Int) from rfl, HT.sIx_nat]
  rw [List.drop_zero, Nat.sub_zero, List.toList_toArray]
  by_cases h : 6 ≤ z.length
  · rw [Nat.min_eq_left h]
  · rw [Nat.min_eq_right (by omega)]
    have e : z.length = z.cps.toList.length := by simp [Str.length]
    rw [List.take_of_length_le (by omega), List.take_of_length_le (by omega)]
/-- the further names that are drawn from a word -/
def vari (w : Str) (c : Nat) : Str := (cutS w none (some 6) ++ ch c) ++ ("q" : Str)
theorem vari_list (w : Str) (c : Nat) : (vari w c).cps.toList = w.cps.toList.take 6 ++ [c, 113] := by
  unfold vari
  rw [Str.cps_append, Str.cps_append, Array.toList_append, Array.toList_append, cut_six]
  show w.cps.toList.take 6 ++ [c] ++ [113] = _
  simp
theorem vari_nm {w : Str} {c : Nat} (h : Nm w) (hc : 97 ≤ c ∧ c ≤ 122) : Nm (vari w c) := by
  have e : vari w c = ⟨(w.cps.toList.take 6 ++ [c, 113]).toArray⟩ := by
    refine Str.ext' ?_
    apply Array.toList_inj.mp
    rw [vari_list]
  rw [e]
  refine nm_of (by simp) ?_ fun d hd => ?_
  · rw [List.length_append, List.length_take]
    simp
    omega
  · rcases List.mem_append.mp hd with q | q
    · exact h.az d (List.mem_of_mem_take q)
    · simp at q
      omega
theorem vari_inj {w : Str} {c d : Nat} (h : vari w c = vari w d) : c = d := by
  have e := congrArg (fun z : Str => z.cps.toList) h
  simp only [vari_list] at e
  have := List.append_cancel_left e
  simp at this
  exact this
theorem nodup_le : ∀ {l m : List Str}, l.Nodup → (∀ x ∈ l, x ∈ m) → l.length ≤ m.length
  | [], _, _, _ => Nat.zero_le _
  | x :: l, m, nd, h => by
    rw [List.nodup_cons] at nd
    have hx := h x List.mem_cons_self
    have e : (m.erase x).length = m.length - 1 := List.length_erase_of_mem hx
    have r := nodup_le (l := l) (m := m.erase x) nd.2 fun y hy => by
      have ne : y ≠ x := fun q => nd.1 (q ▸ hy)
      exact (List.mem_erase_of_ne ne).mpr (h y (List.mem_cons_of_mem _ hy))
    have : 0 < m.length := List.length_pos_of_mem hx
    rw [List.length_cons]
    omega
theorem nodup_vari (w : Str) : ∀ {l : List Nat}, l.Nodup → (l.map (vari w)).Nodup
  | [], _ => List.nodup_nil
  | c :: l, h => by
    rw [List.nodup_cons] at h
    rw [List.map_cons, List.nodup_cons]
    refine ⟨fun m => ?_, nodup_vari w h.2⟩
    obtain ⟨d, hd, e⟩ := List.mem_map.mp m
    exact h.1 (vari_inj e ▸ hd)
/-- of 26 further names one is not among twelve -/
theorem fresh_vari (w : Str) {l : List Nat} (nd : l.Nodup) (many : 12 < l.length) {zs : List Str} (few : zs.length ≤ 12) : ∃ c ∈ l, vari w c ∉ zs := by
  refine Classical.byContradiction fun no => ?_
  have all : ∀ x ∈ l.map (vari w), x ∈ zs := fun x hx => by
    obtain ⟨c, hc, rfl⟩ := List.mem_map.mp hx
    exact Classical.byContradiction fun q => no ⟨c, hc, q⟩
  have := nodup_le (nodup_vari w nd) all
  rw [List.length_map] at this
  omega
abbrev abc : Str := "abcdefghijklmnopqrstuvwxyz"
theorem abc_at {i c : Nat} (h : abc.cps[i]? = some c) : i < 26 ∧ c = 97 + i := by
  have hi : i < abc.cps.size := (Array.getElem?_eq_some_iff.mp h).1
  have e : abc.cps.size = 26 := by decide +kernel
  have all : ∀ k : Fin 26, abc.cps[k.val]? = some (97 + k.val) := by decide +kernel
  have := all ⟨i, by omega⟩
  simp only at this
  rw [this] at h
  exact ⟨by omega, (Option.some.inj h).symm⟩
theorem abc_mem {c : Nat} (h : c ∈ abc.cps.toList) : 97 ≤ c ∧ c ≤ 122 := by
  obtain ⟨i, hi⟩ := List.getElem?_of_mem h
  rw [Array.getElem?_toList] at hi
  have := abc_at hi
  omega
theorem sum_ch : ∀ cs : List Nat, ((cs.map ch).map (·.length)).sum = cs.length
  | [] => rfl
  | c :: cs => by
    rw [List.map_cons, List.map_cons, List.sum_cons, sum_ch cs, List.length_cons]
    show 1 + cs.length = cs.length + 1
    omega
end Pu

set_option Elab.async false
set_option linter.all false
set_option maxRecDepth 100000
set_option maxHeartbeats 8000000
namespace Pu
open L2 PySem PySem.Spec PyProof.Rows E10
open He (ga ma)
theorem rg1 {j : Nat} {μ : Μ} (h : j ≤ 100000) {A : AF} {γ : Γ} (e : A γ μ = .ok [.v (.int (j : Int))] μ) : iRg1 A γ μ = .ok (rngP 0 j) μ := by
  unfold iRg1
  rw [e]
  show (if ((j : Int)).toNat ≤ 100000 ∧ ((j : Int)).natAbs < 2 ^ 61 then O.ok (rngP 0 ((j : Int)).toNat) μ else O.bad) = _
  rw [if_pos ⟨by omega, by omega⟩, Int.toNat_natCast]
theorem strs_str : ∀ zs : List Str, strsP (zs.map P.str) = some zs
  | [] => rfl
  | z :: r => by
    show (strsP (r.map P.str)).map (z :: ·) = _
    rw [strs_str r]
    rfl
theorem in_strs {neg : Bool} {z : Str} {zs : List Str} {w : W} {μ : Μ} (h : seqP μ w = some (zs.map P.str)) : gIn neg (.v (.str z)) w μ = .ok (.v (.bl (decide (z ∈ zs) != neg))) μ := by
  have fl : (zs.map P.str).all flatP = true := by
    rw [List.all_map]
    exact List.all_eq_true.mpr fun _ _ => rfl
  have an : ((zs.map P.str).any fun q => eqF q (.str z)) = decide (z ∈ zs) := by
    rw [List.any_map]
    by_cases c : z ∈ zs
    · rw [decide_eq_true c]
      exact List.any_eq_true.mpr ⟨z, c, beq_self_eq_true z⟩
    · rw [decide_eq_false c]
      refine List.any_eq_false.mpr fun x hx e => c ?_
      have : x = z := eq_of_beq e
      exact this ▸ hx
  have e1 : fIn neg (.v (.str z)) w μ = .ok (.v (.bl (decide (z ∈ zs) != neg))) μ := by
    unfold fIn
    rw [h]
    simp only [an, fl, flatP, and_self, ↓reduceIte]
  show O.or (fIn neg (.v (.str z)) w μ) _ = _
  rw [e1]
  rfl
theorem add_ss {a b : Str} {μ : Μ} (h : a.length + b.length ≤ 100000) : gAdd (.v (.str a)) (.v (.str b)) μ = .ok (.v (.str (a ++ b))) μ := by
  have : a.length + b.length ≤ sizeLine := Nat.le_trans h (by decide)
  show O.or .bad (O.or (if decide (a.length + b.length ≤ sizeLine) = true then O.ok (W.v (.str (a ++ b))) μ else .bad) _) = _
  rw [decide_eq_true this]
  rfl
theorem add_ll {a b : List P} {μ : Μ} (h : a.length + b.length ≤ 100000) : gAdd (.v (.lst a)) (.v (.lst b)) μ = .ok (.v (.lst (a ++ b))) μ := by
  show O.or .bad (O.or .bad (if a.length + b.length ≤ 100000 then O.ok (W.v (.lst (a ++ b))) μ else .bad)) = _
  rw [if_pos h]
  rfl
theorem sl_s {z : Str} {lo hi : Option Int} {μ : Μ} (h : z.length ≤ 100000) : gSl (.v (.str z)) lo hi μ = .ok (.v (.str (cutS z lo hi))) μ := by
  have : z.length ≤ sizeLine := Nat.le_trans h (by decide)
  show O.or .bad (if z.length ≤ sizeLine then O.ok (W.v (.str (cutS z lo hi))) μ else .bad) = _
  rw [if_pos this]
  rfl
section
variable {Pg : Program} {w : World} {K : PySem.W.Frag}
/-- a word of so many letters -/
theorem e_word {a b : Int} {r : Μ} (h : PotOk a b) (k : Nat) {γ : Γ} (h8 : γ[8]? = some none) (h0 : γ[0]? = some (some (.loc 0))) (h2 : γ[2]? = some (some (.v (.str abc)))) : ∃ (cs : List Nat) (a' b' : Int), cs.length = k ∧ (∀ c ∈ cs, 97 ≤ c ∧ c ≤ 122) ∧ PotOk a' b' ∧
    lcGo (tgName 8) fYes (fCall (D__law_choice Pg w K) (fCons (fVar 0) (fCons (fVar 2) fNil))) γ (rngP 0 k) (pc a b :: r) = .ok (cs.map fun c => P.str (ch c)) (pc a' b' :: r) := by
  obtain ⟨qs, m, e1, ⟨a', b', h', rfl⟩, pr⟩ := lc_run (f := tgName 8) (T := fYes) (E := fCall (D__law_choice Pg w K) (fCons (fVar 0) (fCons (fVar 2) fNil))) (γ := γ) (fun m => ∃ a b, PotOk a b ∧ m = pc a b :: r) (fun _ q => ∃ c, (97 ≤ c ∧ c ≤ 122) ∧ q = P.str (ch c)) rfl (ps := rngP 0 k) ⟨a, b, h, rfl⟩ fun p hp m ⟨a, b, h, em⟩ => by
    subst em
    obtain ⟨c, a', b', hc, h', e⟩ := e_choiceS (Pg := Pg) (w := w) (K := K) (r := r) h (z := abc) (by decide) (by decide)
    have g0 : (γ.set 8 (some (W.v p)))[0]? = some (some (.loc 0)) := by rw [List.getElem?_set_ne (by decide)]; exact h0
    have g2 : (γ.set 8 (some (W.v p)))[2]? = some (some (.v (.str abc))) := by rw [List.getElem?_set_ne (by decide)]; exact h2
    refine ⟨_, _, _, rfl, ?_, ⟨a', b', h', rfl⟩, c, abc_mem hc, rfl⟩
    simp (config := { zeta := true }) only [fDef, sSeq, sIfS, sRet, sSet, sNext, sDrop, sFor, sPar, sPar3, sAsgP, sSubName, sDPutP, sLPutP, sFldP, sBad, fCall, fCons, fNil, fVar, fC, fOp, fUn, fTest, fNotT, fAndT, fOrT, fAndV, fOrV, fNotV, fIf, fChain, fSeq, fLstC, fLc, fDc, iAny_eq, iVals_eq, iItems_eq, iKeys_eq, iRg1, iRg2, vals, wipeG, O.bind_ok, O.s_ok, O.or_bad, O.or_ok, O.nx, leave, mkL, mkD, rdL, rdD, rdI, seqP, wD, wI, tgName, tgTup, tgCons, tgNil, fMeth_eq, fFld_eq, fFrz_eq, fMake_eq, fCallO, fYes, PC.p, le_ii, lt_ii, gt_ii, le_ss, add_ii, sub_ii, neg_i, eq_ii, ne_bb, eq_bb, eq_ss, ne_ss, List.map_cons, List.map_nil, List.length_cons, List.length_nil, List.replicate_succ, List.replicate_zero, List.cons_append, List.nil_append, List.getElem?_cons_zero, List.getElem?_cons_succ, List.getElem?_nil, List.set_cons_zero, List.set_cons_succ, Option.bind_some, Option.map_some, Nat.reduceAdd, Nat.reduceSub, Nat.reduceEqDiff, ↓reduceIte, Bool.not_true, Bool.not_false, Bool.false_eq_true, and_self, and_true, true_and, List.take_append_of_le_length, List.take_length, g0, g2, e]
    rfl
  have len : qs.length = k := by
    have := pr.length
    unfold rngP at this
    rw [List.length_map, List.length_range] at this
    exact this.symm
  have ex : ∀ {ps qs : List P}, Paired (fun (_ : P) q => ∃ c, (97 ≤ c ∧ c ≤ 122) ∧ q = P.str (ch c)) ps qs → ∃ cs : List Nat, qs = cs.map (fun c => P.str (ch c)) ∧ ∀ c ∈ cs, 97 ≤ c ∧ c ≤ 122 := fun p => by
    induction p with
    | nil => exact ⟨[], rfl, fun c m => by cases m⟩
    | cons hq t ih =>
      obtain ⟨c, hc, rfl⟩ := hq
      obtain ⟨cs, rfl, hcs⟩ := ih
      exact ⟨c :: cs, rfl, fun x m => by
        rcases List.mem_cons.mp m with rfl | m
        · exact hc
        · exact hcs x m⟩
  obtain ⟨cs, rfl, hcs⟩ := ex pr
  exact ⟨cs, a', b', by rw [List.length_map] at len; exact len, hcs, h', e1⟩
end
end Pu

set_option Elab.async false
set_option linter.all false
set_option maxRecDepth 100000
set_option maxHeartbeats 8000000
namespace Pu
open L2 PySem PySem.Spec PyProof.Rows E10
open He (ga ma)
section
variable {a b : Int} {r : Μ} {ps qs : List P}
theorem rd1 : rdL (pc a b :: (r ++ [.lst ps])) (.loc (r.length + 1)) = some ps := by
  unfold rdL
  simp
theorem wl1 : wL (pc a b :: (r ++ [.lst ps])) (.loc (r.length + 1)) = some (r.length + 1, ps) := by
  unfold wL
  simp
theorem ty1 : isTy "list" (pc a b :: (r ++ [.lst ps])) (.loc (r.length + 1)) = true := by
  show ("list" == "list" && (rdL (pc a b :: (r ++ [.lst ps])) (.loc (r.length + 1))).isSome || _) = true
  rw [rd1]
  rfl
theorem set1 : List.set (pc a b :: (r ++ [.lst ps])) (r.length + 1) (.lst qs) = pc a b :: (r ++ [.lst qs]) := by
  rw [List.set_cons_succ]
  simp
theorem ix_0 {v : P} {l : List P} {μ : Μ} : gIx (.v (.lst (v :: l))) (.v (.int 0)) μ = .ok (.v v) μ := ix_l (k := 0) rfl
end
section
variable {Pg : Program} {w : World} {K : PySem.W.Frag}
theorem e_name1 {a b : Int} {r : Μ} (h : PotOk a b) {zs : List Str} (few : zs.length ≤ 8) {n i : Int} {x4 x5 x6 x7 : Option W} : ∃ v a' b' γ', v ∉ zs ∧ Nm v ∧ PotOk a' b' ∧ (∃ y4 y5 y6 y7, γ' = [some (.loc 0), some (.v (.int n)), some (.v (.str abc)), some (.loc (r.length + 1)), y4, y5, y6, y7, none, none, none]) ∧
    sSeq (sSet 5 (fCall (D__law_choice Pg w K) (fCons (fVar 0) (fCons (fSeq .lst (fCons (fC (.int 1)) (fCons (fC (.int 1)) (fCons (fC (.int 2)) (fCons (fC (.int 3)) (fCons (fC (.int 8)) fNil)))))) fNil))))
        (sSeq (sSet 6 (fJoin (fC (.str "")) (fLc (iRg1 (fCons (fVar 5) fNil)) (tgName 8) fYes (fCall (D__law_choice Pg w K) (fCons (fVar 0) (fCons (fVar 2) fNil))) [8])))
        (sSeq (sSet 7 (fOp gAdd (fSeq .lst (fCons (fVar 6) fNil)) (fLc (iAny (fVar 2)) (tgName 9) fYes (fOp gAdd (fOp gAdd (fSl gSl (fVar 6) oNone (oSome (fC (.int 6)))) (fVar 9)) (fC (.str "q"))) [9])))
        (sDrop (fBM "list" mAppend (fVar 3) (fCons (fOp gIx (fLc (iAny (fVar 7)) (tgName 10) (fTest (fOp (gIn true) (fVar 10) (fVar 3))) (fVar 10) [10]) (fC (.int 0))) fNil)))))
      [some (.loc 0), some (.v (.int n)), some (.v (.str abc)), some (.loc (r.length + 1)), some (.v (.int i)), x5, x6, x7, none, none, none] (pc a b :: (r ++ [.lst (zs.map P.str)])) = .nx γ' (pc a' b' :: (r ++ [.lst ((zs ++ [v]).map P.str)])) := by
  obtain ⟨q, a1, b1, hq, h1, e1⟩ := e_choiceL (Pg := Pg) (w := w) (K := K) (r := r ++ [.lst (zs.map P.str)]) h (ps := [.int 1, .int 1, .int 2, .int 3, .int 8]) (by simp) (by decide)
  obtain ⟨s, rfl, s1, s8⟩ : ∃ s : Nat, q = .int (s : Int) ∧ 1 ≤ s ∧ s ≤ 8 := by
    simp only [List.mem_cons, List.not_mem_nil, or_false] at hq
    rcases hq with rfl | rfl | rfl | rfl | rfl
    · exact ⟨1, rfl, by decide, by decide⟩
    · exact ⟨1, rfl, by decide, by decide⟩
    · exact ⟨2, rfl, by decide, by decide⟩
    · exact ⟨3, rfl, by decide, by decide⟩
    · exact ⟨8, rfl, by decide, by decide⟩
  obtain ⟨cs, a2, b2, lc, hcs, h2, e2⟩ := e_word (Pg := Pg) (w := w) (K := K) (r := r ++ [.lst (zs.map P.str)]) h1 s (γ := [some (.loc 0), some (.v (.int n)), some (.v (.str abc)), some (.loc (r.length + 1)), some (.v (.int i)), some (.v (.int (s : Int))), x6, x7, none, none, none]) rfl rfl rfl
  have nw : Nm ⟨cs.toArray⟩ := nm_of (by omega) (by omega) hcs
  have hw := nw.hi
  have js : strsP (cs.map fun c => P.str (ch c)) = some (cs.map ch) := by
    have := strs_str (cs.map ch)
    rw [List.map_map] at this
    exact this
  have jl : ((cs.map ch).map (·.length)).sum + (cs.map ch).length * ("" : Str).length ≤ 16777216 := by
    rw [sum_ch, List.length_map, show ("" : Str).length = 0 from rfl]
    omega
  have hv : ∀ c, (cutS ⟨cs.toArray⟩ none (some 6) ++ ch c).length ≤ 100 ∧ (cutS ⟨cs.toArray⟩ none (some 6)).length ≤ 50 := fun c => by
    have e := cut_six ⟨cs.toArray⟩
    have l6 : (cutS ⟨cs.toArray⟩ none (some 6)).length ≤ 6 := by
      show (cutS ⟨cs.toArray⟩ none (some 6)).cps.size ≤ 6
      rw [← Array.length_toList, e, List.length_take]
      omega
    refine ⟨?_, by omega⟩
    rw [strLen_append]
    show _ + 1 ≤ 100
    omega
  have abl : (chrP abc).length ≤ 100000 := by decide
  have e3 : lcGo (tgName 9) fYes (fOp gAdd (fOp gAdd (fSl gSl (fVar 6) oNone (oSome (fC (.int 6)))) (fVar 9)) (fC (.str "q"))) [some (.loc 0), some (.v (.int n)), some (.v (.str abc)), some (.loc (r.length + 1)), some (.v (.int i)), some (.v (.int (s : Int))), some (.v (.str ⟨cs.toArray⟩)), x7, none, none, none]
      (chrP abc) (pc a2 b2 :: (r ++ [.lst (zs.map P.str)])) = .ok (abc.cps.toList.map fun c => P.str (vari ⟨cs.toArray⟩ c)) (pc a2 b2 :: (r ++ [.lst (zs.map P.str)])) := by
    refine lc_all (fun c => P.str ⟨#[c]⟩) (fun c => P.str (vari ⟨cs.toArray⟩ c)) (l := abc.cps.toList) fun c hc => ⟨_, rfl, ?_⟩
    have l1 : (cutS ⟨cs.toArray⟩ none (some 6)).length + (⟨#[c]⟩ : Str).length ≤ 100000 := by
      have := (hv c).2
      show _ + 1 ≤ 100000
      omega
    have l2 : (cutS ⟨cs.toArray⟩ none (some 6) ++ (⟨#[c]⟩ : Str)).length + ("q" : Str).length ≤ 100000 := by
      have := (hv c).1
      show (cutS ⟨cs.toArray⟩ none (some 6) ++ ch c).length + 1 ≤ 100000
      omega
    simp (config := { zeta := true }) only [fDef, sSeq, sIfS, sRet, sSet, sNext, sDrop, sFor, sPar, sPar3, sAsgP, sSubName, sDPutP, sLPutP, sFldP, sBad, fCall, fCons, fNil, fVar, fC, fOp, fUn, fTest, fNotT, fAndT, fOrT, fAndV, fOrV, fNotV, fIf, fChain, fSeq, fLstC, fLc, fDc, iAny_eq, iVals_eq, iItems_eq, iKeys_eq, iRg1, iRg2, vals, wipeG, O.bind_ok, O.s_ok, O.or_bad, O.or_ok, O.nx, leave, mkL, mkD, rdL, rdD, rdI, seqP, wD, wI, tgName, tgTup, tgCons, tgNil, fMeth_eq, fFld_eq, fFrz_eq, fMake_eq, fCallO, fYes, PC.p, le_ii, lt_ii, gt_ii, le_ss, add_ii, sub_ii, neg_i, eq_ii, ne_bb, eq_bb, eq_ss, ne_ss, List.map_cons, List.map_nil, List.length_cons, List.length_nil, List.replicate_succ, List.replicate_zero, List.cons_append, List.nil_append, List.getElem?_cons_zero, List.getElem?_cons_succ, List.getElem?_nil, List.set_cons_zero, List.set_cons_succ, Option.bind_some, Option.map_some, Nat.reduceAdd, Nat.reduceSub, Nat.reduceEqDiff, ↓reduceIte, Bool.not_true, Bool.not_false, Bool.false_eq_true, and_self, and_true, true_and, List.take_append_of_le_length, List.take_length, fSl, oNone, oSome, sl_s (z := ⟨cs.toArray⟩) (lo := none) (hi := some 6) (show (⟨cs.toArray⟩ : Str).length ≤ 100000 by omega), add_ss l1, add_ss l2]
    rfl
  have cl : (abc.cps.toList.map (vari ⟨cs.toArray⟩)).length = 26 := by rw [List.length_map]; decide +kernel
  have e4 : lcGo (tgName 10) (fTest (fOp (gIn true) (fVar 10) (fVar 3))) (fVar 10) [some (.loc 0), some (.v (.int n)), some (.v (.str abc)), some (.loc (r.length + 1)), some (.v (.int i)), some (.v (.int (s : Int))), some (.v (.str ⟨cs.toArray⟩)), some (.v (.lst ((Str.mk cs.toArray :: abc.cps.toList.map (vari ⟨cs.toArray⟩)).map P.str))), none, none, none]
      ((Str.mk cs.toArray :: abc.cps.toList.map (vari ⟨cs.toArray⟩)).map P.str) (pc a2 b2 :: (r ++ [.lst (zs.map P.str)])) = .ok (((Str.mk cs.toArray :: abc.cps.toList.map (vari ⟨cs.toArray⟩)).filter fun z => decide (z ∈ zs) != true).map P.str) (pc a2 b2 :: (r ++ [.lst (zs.map P.str)])) := by
    refine lc_on P.str (fun z => decide (z ∈ zs) != true) P.str fun z hz => ⟨_, rfl, ?_, fun _ => ?_⟩
    · simp (config := { zeta := true }) only [fDef, sSeq, sIfS, sRet, sSet, sNext, sDrop, sFor, sPar, sPar3, sAsgP, sSubName, sDPutP, sLPutP, sFldP, sBad, fCall, fCons, fNil, fVar, fC, fOp, fUn, fTest, fNotT, fAndT, fOrT, fAndV, fOrV, fNotV, fIf, fChain, fSeq, fLstC, fLc, fDc, iAny_eq, iVals_eq, iItems_eq, iKeys_eq, iRg1, iRg2, vals, wipeG, O.bind_ok, O.s_ok, O.or_bad, O.or_ok, O.nx, leave, mkL, mkD, rdL, rdD, rdI, seqP, wD, wI, tgName, tgTup, tgCons, tgNil, fMeth_eq, fFld_eq, fFrz_eq, fMake_eq, fCallO, fYes, PC.p, le_ii, lt_ii, gt_ii, le_ss, add_ii, sub_ii, neg_i, eq_ii, ne_bb, eq_bb, eq_ss, ne_ss, List.map_cons, List.map_nil, List.length_cons, List.length_nil, List.replicate_succ, List.replicate_zero, List.cons_append, List.nil_append, List.getElem?_cons_zero, List.getElem?_cons_succ, List.getElem?_nil, List.set_cons_zero, List.set_cons_succ, Option.bind_some, Option.map_some, Nat.reduceAdd, Nat.reduceSub, Nat.reduceEqDiff, ↓reduceIte, Bool.not_true, Bool.not_false, Bool.false_eq_true, and_self, and_true, true_and, List.take_append_of_le_length, List.take_length, in_strs (neg := true) (z := z) (zs := zs) (w := .loc (r.length + 1)) (μ := pc a2 b2 :: (r ++ [.lst (zs.map P.str)])) (show seqP (pc a2 b2 :: (r ++ [.lst (zs.map P.str)])) (.loc (r.length + 1)) = some (zs.map P.str) from rd1 (a := a2) (b := b2) (r := r) (ps := zs.map P.str))]
    · simp (config := { zeta := true }) only [fDef, sSeq, sIfS, sRet, sSet, sNext, sDrop, sFor, sPar, sPar3, sAsgP, sSubName, sDPutP, sLPutP, sFldP, sBad, fCall, fCons, fNil, fVar, fC, fOp, fUn, fTest, fNotT, fAndT, fOrT, fAndV, fOrV, fNotV, fIf, fChain, fSeq, fLstC, fLc, fDc, iAny_eq, iVals_eq, iItems_eq, iKeys_eq, iRg1, iRg2, vals, wipeG, O.bind_ok, O.s_ok, O.or_bad, O.or_ok, O.nx, leave, mkL, mkD, rdL, rdD, rdI, seqP, wD, wI, tgName, tgTup, tgCons, tgNil, fMeth_eq, fFld_eq, fFrz_eq, fMake_eq, fCallO, fYes, PC.p, le_ii, lt_ii, gt_ii, le_ss, add_ii, sub_ii, neg_i, eq_ii, ne_bb, eq_bb, eq_ss, ne_ss, List.map_cons, List.map_nil, List.length_cons, List.length_nil, List.replicate_succ, List.replicate_zero, List.cons_append, List.nil_append, List.getElem?_cons_zero, List.getElem?_cons_succ, List.getElem?_nil, List.set_cons_zero, List.set_cons_succ, Option.bind_some, Option.map_some, Nat.reduceAdd, Nat.reduceSub, Nat.reduceEqDiff, ↓reduceIte, Bool.not_true, Bool.not_false, Bool.false_eq_true, and_self, and_true, true_and, List.take_append_of_le_length, List.take_length]
  obtain ⟨c, hc, nc⟩ := fresh_vari ⟨cs.toArray⟩ (l := abc.cps.toList) (by decide +kernel) (by decide +kernel) (zs := zs) (by omega)
  obtain ⟨v, rest, ef⟩ := List.exists_cons_of_ne_nil (l := (Str.mk cs.toArray :: abc.cps.toList.map (vari ⟨cs.toArray⟩)).filter fun z => decide (z ∈ zs) != true) fun e => by
    have := List.filter_eq_nil_iff.mp e (vari ⟨cs.toArray⟩ c) (List.mem_cons_of_mem _ (List.mem_map.mpr ⟨c, hc, rfl⟩))
    rw [decide_eq_false nc] at this
    exact this rfl
  have mv : v ∈ (Str.mk cs.toArray :: abc.cps.toList.map (vari ⟨cs.toArray⟩)).filter fun z => decide (z ∈ zs) != true := by rw [ef]; exact List.mem_cons_self
  obtain ⟨mv1, mv2⟩ := List.mem_filter.mp mv
  have nv : v ∉ zs := fun m => by rw [decide_eq_true m] at mv2; cases mv2
  have okv : Nm v := by
    rcases List.mem_cons.mp mv1 with rfl | m
    · exact nw
    · obtain ⟨d, hd, rfl⟩ := List.mem_map.mp m
      exact vari_nm nw (abc_mem hd)
  rw [ef] at e4
  refine ⟨v, a2, b2, [some (.loc 0), some (.v (.int n)), some (.v (.str abc)), some (.loc (r.length + 1)), some (.v (.int i)), some (.v (.int (s : Int))), some (.v (.str ⟨cs.toArray⟩)), some (.v (.lst ((Str.mk cs.toArray :: abc.cps.toList.map (vari ⟨cs.toArray⟩)).map P.str))), none, none, none], nv, okv, h2, ⟨_, _, _, _, rfl⟩, ?_⟩
  have z1 : (List.map P.str zs).length < 100000 := by rw [List.length_map]; omega
  have st5 : sSet 5 (fCall (D__law_choice Pg w K) (fCons (fVar 0) (fCons (fSeq .lst (fCons (fC (.int 1)) (fCons (fC (.int 1)) (fCons (fC (.int 2)) (fCons (fC (.int 3)) (fCons (fC (.int 8)) fNil)))))) fNil))) [some (.loc 0), some (.v (.int n)), some (.v (.str abc)), some (.loc (r.length + 1)), some (.v (.int i)), x5, x6, x7, none, none, none] (pc a b :: (r ++ [.lst (zs.map P.str)])) = .nx [some (.loc 0), some (.v (.int n)), some (.v (.str abc)), some (.loc (r.length + 1)), some (.v (.int i)), some (.v (.int (s : Int))), x6, x7, none, none, none] (pc a1 b1 :: (r ++ [.lst (zs.map P.str)])) := by
    simp (config := { zeta := true }) only [fDef, sSeq, sIfS, sRet, sSet, sNext, sDrop, sFor, sPar, sPar3, sAsgP, sSubName, sDPutP, sLPutP, sFldP, sBad, fCall, fCons, fNil, fVar, fC, fOp, fUn, fTest, fNotT, fAndT, fOrT, fAndV, fOrV, fNotV, fIf, fChain, fSeq, fLstC, fLc, fDc, iAny_eq, iVals_eq, iItems_eq, iKeys_eq, iRg1, iRg2, vals, wipeG, O.bind_ok, O.s_ok, O.or_bad, O.or_ok, O.nx, leave, mkL, mkD, rdL, rdD, rdI, seqP, wD, wI, tgName, tgTup, tgCons, tgNil, fMeth_eq, fFld_eq, fFrz_eq, fMake_eq, fCallO, fYes, PC.p, le_ii, lt_ii, gt_ii, le_ss, add_ii, sub_ii, neg_i, eq_ii, ne_bb, eq_bb, eq_ss, ne_ss, List.map_cons, List.map_nil, List.length_cons, List.length_nil, List.replicate_succ, List.replicate_zero, List.cons_append, List.nil_append, List.getElem?_cons_zero, List.getElem?_cons_succ, List.getElem?_nil, List.set_cons_zero, List.set_cons_succ, Option.bind_some, Option.map_some, Nat.reduceAdd, Nat.reduceSub, Nat.reduceEqDiff, ↓reduceIte, Bool.not_true, Bool.not_false, Bool.false_eq_true, and_self, and_true, true_and, List.take_append_of_le_length, List.take_length, show (5 : Nat) ≤ 100000 from by decide, e1]
  have st6 : sSet 6 (fJoin (fC (.str "")) (fLc (iRg1 (fCons (fVar 5) fNil)) (tgName 8) fYes (fCall (D__law_choice Pg w K) (fCons (fVar 0) (fCons (fVar 2) fNil))) [8])) [some (.loc 0), some (.v (.int n)), some (.v (.str abc)), some (.loc (r.length + 1)), some (.v (.int i)), some (.v (.int (s : Int))), x6, x7, none, none, none] (pc a1 b1 :: (r ++ [.lst (zs.map P.str)])) = .nx [some (.loc 0), some (.v (.int n)), some (.v (.str abc)), some (.loc (r.length + 1)), some (.v (.int i)), some (.v (.int (s : Int))), some (.v (.str ⟨cs.toArray⟩)), x7, none, none, none] (pc a2 b2 :: (r ++ [.lst (zs.map P.str)])) := by
    have c1 : s ≤ 100000 := by omega
    have c2 : s < 2 ^ 61 := by omega
    simp (config := { zeta := true }) only [fDef, sSeq, sIfS, sRet, sSet, sNext, sDrop, sFor, sPar, sPar3, sAsgP, sSubName, sDPutP, sLPutP, sFldP, sBad, fCall, fCons, fNil, fVar, fC, fOp, fUn, fTest, fNotT, fAndT, fOrT, fAndV, fOrV, fNotV, fIf, fChain, fSeq, fLstC, fLc, fDc, iAny_eq, iVals_eq, iItems_eq, iKeys_eq, iRg1, iRg2, vals, wipeG, O.bind_ok, O.s_ok, O.or_bad, O.or_ok, O.nx, leave, mkL, mkD, rdL, rdD, rdI, seqP, wD, wI, tgName, tgTup, tgCons, tgNil, fMeth_eq, fFld_eq, fFrz_eq, fMake_eq, fCallO, fYes, PC.p, le_ii, lt_ii, gt_ii, le_ss, add_ii, sub_ii, neg_i, eq_ii, ne_bb, eq_bb, eq_ss, ne_ss, List.map_cons, List.map_nil, List.length_cons, List.length_nil, List.replicate_succ, List.replicate_zero, List.cons_append, List.nil_append, List.getElem?_cons_zero, List.getElem?_cons_succ, List.getElem?_nil, List.set_cons_zero, List.set_cons_succ, Option.bind_some, Option.map_some, Nat.reduceAdd, Nat.reduceSub, Nat.reduceEqDiff, ↓reduceIte, Bool.not_true, Bool.not_false, Bool.false_eq_true, and_self, and_true, true_and, List.take_append_of_le_length, List.take_length, fJoin, Int.toNat_natCast, Int.natAbs_natCast, c1, c2, e2, js, jl, join_ch]
  have st7 : sSet 7 (fOp gAdd (fSeq .lst (fCons (fVar 6) fNil)) (fLc (iAny (fVar 2)) (tgName 9) fYes (fOp gAdd (fOp gAdd (fSl gSl (fVar 6) oNone (oSome (fC (.int 6)))) (fVar 9)) (fC (.str "q"))) [9])) [some (.loc 0), some (.v (.int n)), some (.v (.str abc)), some (.loc (r.length + 1)), some (.v (.int i)), some (.v (.int (s : Int))), some (.v (.str ⟨cs.toArray⟩)), x7, none, none, none] (pc a2 b2 :: (r ++ [.lst (zs.map P.str)])) = .nx [some (.loc 0), some (.v (.int n)), some (.v (.str abc)), some (.loc (r.length + 1)), some (.v (.int i)), some (.v (.int (s : Int))), some (.v (.str ⟨cs.toArray⟩)), some (.v (.lst ((Str.mk cs.toArray :: abc.cps.toList.map (vari ⟨cs.toArray⟩)).map P.str))), none, none, none] (pc a2 b2 :: (r ++ [.lst (zs.map P.str)])) := by
    have e3' : (abc.cps.toList.map fun c => P.str (vari ⟨cs.toArray⟩ c)) = (abc.cps.toList.map (vari ⟨cs.toArray⟩)).map P.str := by rw [List.map_map]; rfl
    rw [e3'] at e3
    have l27 : [P.str ⟨cs.toArray⟩].length + ((abc.cps.toList.map (vari ⟨cs.toArray⟩)).map P.str).length ≤ 100000 := by
      rw [List.length_map, cl]
      show 1 + 26 ≤ 100000
      decide
    simp (config := { zeta := true }) only [fDef, sSeq, sIfS, sRet, sSet, sNext, sDrop, sFor, sPar, sPar3, sAsgP, sSubName, sDPutP, sLPutP, sFldP, sBad, fCall, fCons, fNil, fVar, fC, fOp, fUn, fTest, fNotT, fAndT, fOrT, fAndV, fOrV, fNotV, fIf, fChain, fSeq, fLstC, fLc, fDc, iAny_eq, iVals_eq, iItems_eq, iKeys_eq, iRg1, iRg2, vals, wipeG, O.bind_ok, O.s_ok, O.or_bad, O.or_ok, O.nx, leave, mkL, mkD, rdL, rdD, rdI, seqP, wD, wI, tgName, tgTup, tgCons, tgNil, fMeth_eq, fFld_eq, fFrz_eq, fMake_eq, fCallO, fYes, PC.p, le_ii, lt_ii, gt_ii, le_ss, add_ii, sub_ii, neg_i, eq_ii, ne_bb, eq_bb, eq_ss, ne_ss, List.map_cons, List.map_nil, List.length_cons, List.length_nil, List.replicate_succ, List.replicate_zero, List.cons_append, List.nil_append, List.getElem?_cons_zero, List.getElem?_cons_succ, List.getElem?_nil, List.set_cons_zero, List.set_cons_succ, Option.bind_some, Option.map_some, Nat.reduceAdd, Nat.reduceSub, Nat.reduceEqDiff, ↓reduceIte, Bool.not_true, Bool.not_false, Bool.false_eq_true, and_self, and_true, true_and, List.take_append_of_le_length, List.take_length, show (1 : Nat) ≤ 100000 from by decide, it_s (z := abc) abl, e3, add_ll l27]
  have st8 : sDrop (fBM "list" mAppend (fVar 3) (fCons (fOp gIx (fLc (iAny (fVar 7)) (tgName 10) (fTest (fOp (gIn true) (fVar 10) (fVar 3))) (fVar 10) [10]) (fC (.int 0))) fNil)) [some (.loc 0), some (.v (.int n)), some (.v (.str abc)), some (.loc (r.length + 1)), some (.v (.int i)), some (.v (.int (s : Int))), some (.v (.str ⟨cs.toArray⟩)), some (.v (.lst ((Str.mk cs.toArray :: abc.cps.toList.map (vari ⟨cs.toArray⟩)).map P.str))), none, none, none] (pc a2 b2 :: (r ++ [.lst (zs.map P.str)])) = .nx [some (.loc 0), some (.v (.int n)), some (.v (.str abc)), some (.loc (r.length + 1)), some (.v (.int i)), some (.v (.int (s : Int))), some (.v (.str ⟨cs.toArray⟩)), some (.v (.lst ((Str.mk cs.toArray :: abc.cps.toList.map (vari ⟨cs.toArray⟩)).map P.str))), none, none, none] (pc a2 b2 :: (r ++ [.lst ((zs ++ [v]).map P.str)])) := by
    have cl2 : ((Str.mk cs.toArray :: abc.cps.toList.map (vari ⟨cs.toArray⟩)).map P.str).length ≤ 100000 := by
      rw [List.length_map, List.length_cons, cl]
      decide
    have ap : mAppend (.loc (r.length + 1)) [.v (.str v)] (pc a2 b2 :: (r ++ [.lst (zs.map P.str)])) = .ok (.v .non) (pc a2 b2 :: (r ++ [.lst ((zs ++ [v]).map P.str)])) := by
      unfold mAppend
      rw [wl1]
      simp only [z1, ↓reduceIte]
      rw [set1, List.map_append]
      rfl
    have i4 := it_l (μ := pc a2 b2 :: (r ++ [.lst (zs.map P.str)])) cl2
    simp only [sDrop, fBM, fCons, fVar, fNil, fOp, fC, fLc, iAny_eq, List.getElem?_cons_succ, List.getElem?_cons_zero, O.bind_ok, ty1, if_true, i4, wipeG, List.set_cons_succ, List.set_cons_zero, e4]
    have ix := ix_0 (v := P.str v) (l := rest.map P.str) (μ := pc a2 b2 :: (r ++ [.lst (zs.map P.str)]))
    have e5 : List.map P.str (v :: rest) = P.str v :: rest.map P.str := rfl
    rw [e5]
    simp only [ix, O.bind_ok, ap, O.s_ok]
  unfold sSeq
  rw [st5]
  simp only []
  rw [st6]
  simp only []
  rw [st7]
  simp only []
  rw [st8]
end
end Pu

set_option Elab.async false
set_option linter.all false
set_option maxRecDepth 100000
set_option maxHeartbeats 8000000
namespace Pu
open L2 PySem PySem.Spec PyProof.Rows E10
open He (ga ma)
section
variable {Pg : Program} {w : World} {K : PySem.W.Frag}
theorem rng_at {n j : Nat} {p : P} (h : (rngP 0 n)[j]? = some p) : j < n ∧ p = .int (j : Int) := by
  unfold rngP at h
  rw [List.getElem?_map] at h
  obtain ⟨k, e, rfl⟩ := Option.map_eq_some_iff.mp h
  obtain ⟨lt, e2⟩ := List.getElem?_eq_some_iff.mp e
  rw [List.length_range] at lt
  rw [List.getElem_range] at e2
  subst e2
  exact ⟨lt, by rw [Int.zero_add]⟩
theorem rng_len (n : Nat) : (rngP 0 n).length = n := by
  unfold rngP
  rw [List.length_map, List.length_range]
/-- the names drawn, let go as a list -/
theorem e_names {a b : Int} {r : Μ} (h : PotOk a b) {n : Nat} (hn : n ≤ 8) : ∃ (zs : List Str) (a' b' : Int), zs.length = n ∧ zs.Nodup ∧ (∀ z ∈ zs, Nm z) ∧ PotOk a' b' ∧
    D__law_names Pg w K [.loc 0, .v (.int (n : Int))] (pc a b :: r) = .ok (.loc (r.length + 1)) (pc a' b' :: (r ++ [.lst (zs.map P.str)])) := by
  obtain ⟨γ2, m2, e1, zs, a', b', x4, x5, x6, x7, l, nd, nm, h', rfl, rfl⟩ := for_run (f := tgName 4) (B := sSeq (sSet 5 (fCall (D__law_choice Pg w K) (fCons (fVar 0) (fCons (fSeq .lst (fCons (fC (.int 1)) (fCons (fC (.int 1)) (fCons (fC (.int 2)) (fCons (fC (.int 3)) (fCons (fC (.int 8)) fNil)))))) fNil))))
        (sSeq (sSet 6 (fJoin (fC (.str "")) (fLc (iRg1 (fCons (fVar 5) fNil)) (tgName 8) fYes (fCall (D__law_choice Pg w K) (fCons (fVar 0) (fCons (fVar 2) fNil))) [8])))
        (sSeq (sSet 7 (fOp gAdd (fSeq .lst (fCons (fVar 6) fNil)) (fLc (iAny (fVar 2)) (tgName 9) fYes (fOp gAdd (fOp gAdd (fSl gSl (fVar 6) oNone (oSome (fC (.int 6)))) (fVar 9)) (fC (.str "q"))) [9])))
        (sDrop (fBM "list" mAppend (fVar 3) (fCons (fOp gIx (fLc (iAny (fVar 7)) (tgName 10) (fTest (fOp (gIn true) (fVar 10) (fVar 3))) (fVar 10) [10]) (fC (.int 0))) fNil))))))
    (fun i γ m => ∃ (zs : List Str) (a b : Int) (x4 x5 x6 x7 : Option W), zs.length = i ∧ zs.Nodup ∧ (∀ z ∈ zs, Nm z) ∧ PotOk a b ∧ γ = [some (.loc 0), some (.v (.int (n : Int))), some (.v (.str abc)), some (.loc (r.length + 1)), x4, x5, x6, x7, none, none, none] ∧ m = pc a b :: (r ++ [.lst (zs.map P.str)]))
    (ps := rngP 0 n) (i := 0) (γ := [some (.loc 0), some (.v (.int (n : Int))), some (.v (.str abc)), some (.loc (r.length + 1)), none, none, none, none, none, none, none]) (μ := pc a b :: (r ++ [.lst []]))
    ⟨[], a, b, _, _, _, _, rfl, List.nodup_nil, (fun z m => by cases m), h, rfl, rfl⟩ fun j p γ m hp ⟨zs, a, b, x4, x5, x6, x7, l, nd, nm, h, eg, em⟩ => by
      subst eg
      subst em
      obtain ⟨lt, rfl⟩ := rng_at hp
      obtain ⟨v, a', b', γ', nv, okv, h', ⟨y4, y5, y6, y7, rfl⟩, e⟩ := e_name1 (Pg := Pg) (w := w) (K := K) (r := r) h (zs := zs) (by omega) (n := (n : Int)) (i := (j : Int)) (x4 := x4) (x5 := x5) (x6 := x6) (x7 := x7)
      refine ⟨_, rfl, _, _, .inl e, zs ++ [v], a', b', y4, y5, y6, y7, by rw [List.length_append, l]; rfl, ?_, ?_, h', rfl, rfl⟩
      · rw [List.nodup_append]
        exact ⟨nd, List.nodup_cons.mpr ⟨List.not_mem_nil, List.nodup_nil⟩, fun x hx y hy e => nv (by rw [List.mem_singleton.mp hy] at e; exact e ▸ hx)⟩
      · intro z hz
        rcases List.mem_append.mp hz with m | m
        · exact nm z m
        · rw [List.mem_singleton.mp m]
          exact okv
  rw [rng_len, Nat.zero_add] at l
  refine ⟨zs, a', b', l, nd, nm, h', ?_⟩
  unfold D__law_names
  have c1 : n ≤ 100000 := by omega
  have c2 : n < 2 ^ 61 := by omega
  simp (config := { zeta := true }) only [fDef, sSeq, sIfS, sRet, sSet, sNext, sDrop, sFor, sPar, sPar3, sAsgP, sSubName, sDPutP, sLPutP, sFldP, sBad, fCall, fCons, fNil, fVar, fC, fOp, fUn, fTest, fNotT, fAndT, fOrT, fAndV, fOrV, fNotV, fIf, fChain, fSeq, fLstC, fLc, fDc, iAny_eq, iVals_eq, iItems_eq, iKeys_eq, iRg1, iRg2, vals, wipeG, O.bind_ok, O.s_ok, O.or_bad, O.or_ok, O.nx, leave, mkL, mkD, rdL, rdD, rdI, seqP, wD, wI, tgName, tgTup, tgCons, tgNil, fMeth_eq, fFld_eq, fFrz_eq, fMake_eq, fCallO, fYes, PC.p, le_ii, lt_ii, gt_ii, le_ss, add_ii, sub_ii, neg_i, eq_ii, ne_bb, eq_bb, eq_ss, ne_ss, List.map_cons, List.map_nil, List.length_cons, List.length_nil, List.replicate_succ, List.replicate_zero, List.cons_append, List.nil_append, List.getElem?_cons_zero, List.getElem?_cons_succ, List.getElem?_nil, List.set_cons_zero, List.set_cons_succ, Option.bind_some, Option.map_some, Nat.reduceAdd, Nat.reduceSub, Nat.reduceEqDiff, ↓reduceIte, Bool.not_true, Bool.not_false, Bool.false_eq_true, and_self, and_true, true_and, List.take_append_of_le_length, List.take_length, Nat.zero_le, Int.toNat_natCast, Int.natAbs_natCast, c1, c2, List.length_append]
  have tk : List.take (r.length + 1) (pc a' b' :: (r ++ [.lst (zs.map P.str)])) = pc a' b' :: r := by
    rw [List.take_succ_cons, List.take_left]
  have at1 : (pc a' b' :: (r ++ [PC.lst (zs.map P.str)]))[r.length + 1]? = some (.lst (zs.map P.str)) := by simp
  rw [e1]
  simp only [List.getElem?_cons_succ, List.getElem?_cons_zero, O.s_ok, Nat.lt_irrefl, if_false, at1, tk]
  simp
end
end Pu

set_option Elab.async false
set_option linter.all false
set_option maxRecDepth 100000
set_option maxHeartbeats 8000000
namespace Pu
open L2 PySem PySem.Spec PyProof.Rows E10
open He (ga ma)
/-- a row put -/
def putT (t : Tb) (z : Str) (v : Int) : Tb := if z ∈ keys t then t.map (fun p => if p.1 = z then (p.1, v) else p) else t ++ [(z, v)]
theorem put_rows (t : Tb) (z : Str) (v : Int) : putP (t.map rowP) (Sum.inr z) (.int v) = (putT t z v).map rowP := by
  have an : ((t.map rowP).any fun kv => decide (kv.1 = (Sum.inr z : Key))) = decide (z ∈ keys t) := by
    rw [List.any_map]
    by_cases c : z ∈ keys t
    · rw [decide_eq_true c]
      obtain ⟨p, m, e⟩ := List.mem_map.mp c
      exact List.any_eq_true.mpr ⟨p, m, decide_eq_true (by show (Sum.inr p.1 : Key) = _; rw [e])⟩
    · rw [decide_eq_false c]
      refine List.any_eq_false.mpr fun p m e => c ?_
      have := of_decide_eq_true e
      exact List.mem_map.mpr ⟨p, m, Sum.inr.inj this⟩
  unfold putP putT
  rw [an]
  by_cases c : z ∈ keys t
  · rw [decide_eq_true c, if_pos rfl, if_pos c, List.map_map, List.map_map]
    refine List.map_congr_left fun p _ => ?_
    show (if (Sum.inr p.1 : Key) = Sum.inr z then ((Sum.inr p.1 : Key), P.int v) else (Sum.inr p.1, .int p.2)) = rowP (if p.1 = z then (p.1, v) else p)
    by_cases e : p.1 = z
    · rw [if_pos (by rw [e]), if_pos e]
      rfl
    · rw [if_neg (fun h => e (Sum.inr.inj h)), if_neg e]
      rfl
  · rw [decide_eq_false c, if_neg (by decide), if_neg c, List.map_append]
    rfl
theorem put_keys (t : Tb) (z : Str) (v : Int) : keys (putT t z v) = if z ∈ keys t then keys t else keys t ++ [z] := by
  unfold putT
  by_cases c : z ∈ keys t
  · rw [if_pos c, if_pos c]
    unfold keys
    rw [List.map_map]
    refine List.map_congr_left fun p _ => ?_
    show (if p.1 = z then (p.1, v) else p).1 = p.1
    split <;> rfl
  · rw [if_neg c, if_neg c]
    unfold keys
    rw [List.map_append]
    rfl
theorem put_nd {t : Tb} (nd : (keys t).Nodup) (z : Str) (v : Int) : (keys (putT t z v)).Nodup := by
  rw [put_keys]
  split
  · exact nd
  · rename_i c
    rw [List.nodup_append]
    exact ⟨nd, List.nodup_cons.mpr ⟨List.not_mem_nil, List.nodup_nil⟩, fun x hx y hy e => c (by rw [List.mem_singleton.mp hy] at e; exact e ▸ hx)⟩
theorem put_sub {t : Tb} {ns : List Str} (h : ∀ x ∈ keys t, x ∈ ns) {z : Str} (hz : z ∈ ns) (v : Int) : ∀ x ∈ keys (putT t z v), x ∈ ns := by
  rw [put_keys]
  split
  · exact h
  · intro x hx
    rcases List.mem_append.mp hx with m | m
    · exact h x m
    · rw [List.mem_singleton.mp m]
      exact hz
section
variable {a b : Int} {r : Μ} {t s : Tb}
theorem wd1 : wD (pc a b :: (r ++ [.dct (t.map rowP)])) (.loc (r.length + 1)) = some (r.length + 1, t.map rowP) := by
  unfold wD
  simp
theorem rdd1 : rdD (pc a b :: (r ++ [.dct (t.map rowP)])) (.loc (r.length + 1)) = some (t.map rowP) := by
  unfold rdD
  simp
theorem setd1 : List.set (pc a b :: (r ++ [.dct (t.map rowP)])) (r.length + 1) (.dct (s.map rowP)) = pc a b :: (r ++ [.dct (s.map rowP)]) := by
  rw [List.set_cons_succ]
  simp
theorem ned1 : gNe (.loc (r.length + 1)) (.v (.dct [])) (pc a b :: (r ++ [.dct (t.map rowP)])) = .ok (.v (.bl (!t.isEmpty))) (pc a b :: (r ++ [.dct (t.map rowP)])) := by
  have e1 : fEqK true (.loc (r.length + 1)) (.v (.dct [])) (pc a b :: (r ++ [.dct (t.map rowP)])) = .ok (.v (.bl (!t.isEmpty))) (pc a b :: (r ++ [.dct (t.map rowP)])) := by
    unfold fEqK
    rw [rdd1]
    simp only [rdD, flat_rows, List.all_nil, and_self, ↓reduceIte]
    cases t <;> rfl
  show O.or (fEqS true (.loc (r.length + 1)) (.v (.dct [])) _) (O.or (fEqK true _ _ _) _) = _
  rw [show fEqS true (.loc (r.length + 1)) (.v (.dct [])) (pc a b :: (r ++ [.dct (t.map rowP)])) = .bad from rfl, e1]
  rfl
end
structure Sub (t : Tb) (ns : List Str) : Prop where
  nd : (keys t).Nodup
  sub : ∀ z ∈ keys t, z ∈ ns
theorem Sub.put {t : Tb} {ns : List Str} (h : Sub t ns) {z : Str} (hz : z ∈ ns) (v : Int) : Sub (putT t z v) ns := ⟨put_nd h.nd z v, put_sub h.sub hz v⟩
theorem Sub.len {t : Tb} {ns : List Str} (h : Sub t ns) : t.length ≤ ns.length := by
  have := nodup_le h.nd h.sub
  rw [len_keys] at this
  exact this
section
variable {Pg : Program} {w : World} {K : PySem.W.Frag}
theorem dput1 {a b : Int} {r : Μ} {t : Tb} {z : Str} {v : Int} {γ : Γ} {Fd Fk Fv : EF} {a' b' : Int} (e3 : Fv γ (pc a b :: (r ++ [.dct (t.map rowP)])) = .ok (.v (.int v)) (pc a' b' :: (r ++ [.dct (t.map rowP)]))) (e1 : Fd γ (pc a' b' :: (r ++ [.dct (t.map rowP)])) = .ok (.loc (r.length + 1)) (pc a' b' :: (r ++ [.dct (t.map rowP)]))) (e2 : Fk γ (pc a' b' :: (r ++ [.dct (t.map rowP)])) = .ok (.v (.str z)) (pc a' b' :: (r ++ [.dct (t.map rowP)]))) (le : t.length < 1000) :
    sDPutP Fd Fk Fv γ (pc a b :: (r ++ [.dct (t.map rowP)])) = .nx γ (pc a' b' :: (r ++ [.dct ((putT t z v).map rowP)])) := by
  unfold sDPutP
  rw [e3]
  simp only [O.s_ok]
  rw [e1]
  simp only [O.s_ok]
  rw [e2]
  simp only [O.s_ok, wd1]
  show (if (t.map rowP).length < 100000 then OS.nx γ ((pc a' b' :: (r ++ [PC.dct (t.map rowP)])).set (r.length + 1) (.dct (putP (t.map rowP) (Sum.inr z) (.int v)))) else OS.bad) = _
  rw [if_pos (by rw [List.length_map]; omega), put_rows, setd1]
end
end Pu

set_option Elab.async false
set_option linter.all false
set_option maxRecDepth 100000
set_option maxHeartbeats 8000000
namespace Pu
open L2 PySem PySem.Spec PyProof.Rows E10
open He (ga ma)
section
variable {Pg : Program} {w : World} {K : PySem.W.Frag}
abbrev γC (n : Nat) (t : Tb) (ns : List Str) (x4 x5 x6 : Option W) : Γ := [some (.loc 0), some (.v (dctP t)), some (.v (.lst (ns.map P.str))), some (.loc n), x4, x5, x6]
theorem six (k : Nat) (h : k < 6) : ∃ v : Int, [P.int 0, P.int 0, P.int 0, P.int 1, P.int (-1), P.int (10 ^ Int.toNat 40)][k]? = some (.int v) := by
  match k, h with
  | 0, _ => exact ⟨_, rfl⟩
  | 1, _ => exact ⟨_, rfl⟩
  | 2, _ => exact ⟨_, rfl⟩
  | 3, _ => exact ⟨_, rfl⟩
  | 4, _ => exact ⟨_, rfl⟩
  | 5, _ => exact ⟨_, rfl⟩
theorem e_chg1 {a b : Int} {r : Μ} (h : PotOk a b) {t acc : Tb} {ns : List Str} (ha : Sub acc ns) (ln : ns.length ≤ 8) {z : Str} {v : Int} (hz : z ∈ ns) {x6 : Option W} : ∃ acc' a' b' y6, Sub acc' ns ∧ PotOk a' b' ∧
    sSeq (sSet 6 (fCall (D__law_draw Pg w K) (fCons (fVar 0) (fCons (fC (.int 6)) fNil))))
        (sIfS (fTest (fOp gGt (fVar 6) (fC (.int 0)))) (sDPutP (fVar 3) (fVar 4) (fOp gAdd (fVar 5) (fOp gIx (fSeq .lst (fCons (fC (.int 0)) (fCons (fC (.int 0)) (fCons (fC (.int 0)) (fCons (fC (.int 1)) (fCons (fUn fNeg (fC (.int 1))) (fCons (fOp fPow (fC (.int 10)) (fC (.int 40))) fNil))))))) (fVar 6)))) sNext)
      (γC (r.length + 1) t ns (some (.v (.str z))) (some (.v (.int v))) x6) (pc a b :: (r ++ [.dct (acc.map rowP)])) = .nx (γC (r.length + 1) t ns (some (.v (.str z))) (some (.v (.int v))) y6) (pc a' b' :: (r ++ [.dct (acc'.map rowP)])) := by
  have la := ha.len
  obtain ⟨d, a1, b1, p1, p2, p3, p4⟩ := e_draw (Pg := Pg) (w := w) (K := K) (r := r ++ [.dct (acc.map rowP)]) h (n := 6) (by decide) (by decide)
  obtain ⟨k, rfl⟩ := Int.eq_ofNat_of_zero_le p1
  obtain ⟨u, eu⟩ := six k (by omega)
  by_cases c : (0 : Int) < (k : Int)
  · refine ⟨putT acc z (v + u), a1, b1, some (.v (.int (k : Int))), ha.put hz _, p3, ?_⟩
    have q := dput1 (r := r) (t := acc) (z := z) (v := v + u) (γ := γC (r.length + 1) t ns (some (.v (.str z))) (some (.v (.int v))) (some (.v (.int (k : Int))))) (Fd := fVar 3) (Fk := fVar 4) (Fv := fOp gAdd (fVar 5) (fOp gIx (fSeq .lst (fCons (fC (.int 0)) (fCons (fC (.int 0)) (fCons (fC (.int 0)) (fCons (fC (.int 1)) (fCons (fUn fNeg (fC (.int 1))) (fCons (fOp fPow (fC (.int 10)) (fC (.int 40))) fNil))))))) (fVar 6))) (a := a1) (b := b1) (a' := a1) (b' := b1)
      (by simp (config := { zeta := true }) only [fDef, sSeq, sIfS, sRet, sSet, sNext, sDrop, sFor, sPar, sPar3, sAsgP, sSubName, sDPutP, sLPutP, sFldP, sBad, fCall, fCons, fNil, fVar, fC, fOp, fUn, fTest, fNotT, fAndT, fOrT, fAndV, fOrV, fNotV, fIf, fChain, fSeq, fLstC, fLc, fDc, iAny_eq, iVals_eq, iItems_eq, iKeys_eq, iRg1, iRg2, vals, wipeG, O.bind_ok, O.s_ok, O.or_bad, O.or_ok, O.nx, leave, mkL, mkD, rdL, rdD, rdI, seqP, wD, wI, tgName, tgTup, tgCons, tgNil, fMeth_eq, fFld_eq, fFrz_eq, fMake_eq, fCallO, fYes, PC.p, le_ii, lt_ii, gt_ii, le_ss, add_ii, sub_ii, neg_i, eq_ii, ne_bb, eq_bb, eq_ss, ne_ss, List.map_cons, List.map_nil, List.length_cons, List.length_nil, List.replicate_succ, List.replicate_zero, List.cons_append, List.nil_append, List.getElem?_cons_zero, List.getElem?_cons_succ, List.getElem?_nil, List.set_cons_zero, List.set_cons_succ, Option.bind_some, Option.map_some, Nat.reduceAdd, Nat.reduceSub, Nat.reduceEqDiff, ↓reduceIte, Bool.not_true, Bool.not_false, Bool.false_eq_true, and_self, and_true, true_and, List.take_append_of_le_length, List.take_length, pow_ii (i := 10) (j := 40) (by decide), show (6 : Nat) ≤ 100000 from by decide, ix_l eu]) rfl rfl (by omega)
    simp (config := { zeta := true }) only [fDef, sSeq, sIfS, sRet, sSet, sNext, sDrop, sFor, sPar, sPar3, sAsgP, sSubName, sDPutP, sLPutP, sFldP, sBad, fCall, fCons, fNil, fVar, fC, fOp, fUn, fTest, fNotT, fAndT, fOrT, fAndV, fOrV, fNotV, fIf, fChain, fSeq, fLstC, fLc, fDc, iAny_eq, iVals_eq, iItems_eq, iKeys_eq, iRg1, iRg2, vals, wipeG, O.bind_ok, O.s_ok, O.or_bad, O.or_ok, O.nx, leave, mkL, mkD, rdL, rdD, rdI, seqP, wD, wI, tgName, tgTup, tgCons, tgNil, fMeth_eq, fFld_eq, fFrz_eq, fMake_eq, fCallO, fYes, PC.p, le_ii, lt_ii, gt_ii, le_ss, add_ii, sub_ii, neg_i, eq_ii, ne_bb, eq_bb, eq_ss, ne_ss, List.map_cons, List.map_nil, List.length_cons, List.length_nil, List.replicate_succ, List.replicate_zero, List.cons_append, List.nil_append, List.getElem?_cons_zero, List.getElem?_cons_succ, List.getElem?_nil, List.set_cons_zero, List.set_cons_succ, Option.bind_some, Option.map_some, Nat.reduceAdd, Nat.reduceSub, Nat.reduceEqDiff, ↓reduceIte, Bool.not_true, Bool.not_false, Bool.false_eq_true, and_self, and_true, true_and, List.take_append_of_le_length, List.take_length, p4, decide_eq_true c]
    exact q
  · refine ⟨acc, a1, b1, some (.v (.int (k : Int))), ha, p3, ?_⟩
    simp (config := { zeta := true }) only [fDef, sSeq, sIfS, sRet, sSet, sNext, sDrop, sFor, sPar, sPar3, sAsgP, sSubName, sDPutP, sLPutP, sFldP, sBad, fCall, fCons, fNil, fVar, fC, fOp, fUn, fTest, fNotT, fAndT, fOrT, fAndV, fOrV, fNotV, fIf, fChain, fSeq, fLstC, fLc, fDc, iAny_eq, iVals_eq, iItems_eq, iKeys_eq, iRg1, iRg2, vals, wipeG, O.bind_ok, O.s_ok, O.or_bad, O.or_ok, O.nx, leave, mkL, mkD, rdL, rdD, rdI, seqP, wD, wI, tgName, tgTup, tgCons, tgNil, fMeth_eq, fFld_eq, fFrz_eq, fMake_eq, fCallO, fYes, PC.p, le_ii, lt_ii, gt_ii, le_ss, add_ii, sub_ii, neg_i, eq_ii, ne_bb, eq_bb, eq_ss, ne_ss, List.map_cons, List.map_nil, List.length_cons, List.length_nil, List.replicate_succ, List.replicate_zero, List.cons_append, List.nil_append, List.getElem?_cons_zero, List.getElem?_cons_succ, List.getElem?_nil, List.set_cons_zero, List.set_cons_succ, Option.bind_some, Option.map_some, Nat.reduceAdd, Nat.reduceSub, Nat.reduceEqDiff, ↓reduceIte, Bool.not_true, Bool.not_false, Bool.false_eq_true, and_self, and_true, true_and, List.take_append_of_le_length, List.take_length, p4, decide_eq_false c]
theorem e_chg2 {a b : Int} {r : Μ} (h : PotOk a b) {t acc : Tb} {ns : List Str} (ha : Sub acc ns) (ln : ns.length ≤ 8) {z : Str} (hz : z ∈ ns) {x5 x6 : Option W} : ∃ acc' a' b', Sub acc' ns ∧ PotOk a' b' ∧
    sIfS (fAndT (fTest (fOp (gIn true) (fVar 4) (fVar 1))) (fTest (fOp gEq (fCall (D__law_draw Pg w K) (fCons (fVar 0) (fCons (fC (.int 5)) fNil))) (fC (.int 0))))) (sDPutP (fVar 3) (fVar 4) (fCall (D__law_number Pg w K) (fCons (fVar 0) fNil))) sNext
      (γC (r.length + 1) t ns (some (.v (.str z))) x5 x6) (pc a b :: (r ++ [.dct (acc.map rowP)])) = .nx (γC (r.length + 1) t ns (some (.v (.str z))) x5 x6) (pc a' b' :: (r ++ [.dct (acc'.map rowP)])) := by
  have la := ha.len
  by_cases c : z ∈ keys t
  · refine ⟨acc, a, b, ha, h, ?_⟩
    simp (config := { zeta := true }) only [fDef, sSeq, sIfS, sRet, sSet, sNext, sDrop, sFor, sPar, sPar3, sAsgP, sSubName, sDPutP, sLPutP, sFldP, sBad, fCall, fCons, fNil, fVar, fC, fOp, fUn, fTest, fNotT, fAndT, fOrT, fAndV, fOrV, fNotV, fIf, fChain, fSeq, fLstC, fLc, fDc, iAny_eq, iVals_eq, iItems_eq, iKeys_eq, iRg1, iRg2, vals, wipeG, O.bind_ok, O.s_ok, O.or_bad, O.or_ok, O.nx, leave, mkL, mkD, rdL, rdD, rdI, seqP, wD, wI, tgName, tgTup, tgCons, tgNil, fMeth_eq, fFld_eq, fFrz_eq, fMake_eq, fCallO, fYes, PC.p, le_ii, lt_ii, gt_ii, le_ss, add_ii, sub_ii, neg_i, eq_ii, ne_bb, eq_bb, eq_ss, ne_ss, List.map_cons, List.map_nil, List.length_cons, List.length_nil, List.replicate_succ, List.replicate_zero, List.cons_append, List.nil_append, List.getElem?_cons_zero, List.getElem?_cons_succ, List.getElem?_nil, List.set_cons_zero, List.set_cons_succ, Option.bind_some, Option.map_some, Nat.reduceAdd, Nat.reduceSub, Nat.reduceEqDiff, ↓reduceIte, Bool.not_true, Bool.not_false, Bool.false_eq_true, and_self, and_true, true_and, List.take_append_of_le_length, List.take_length, din_ok, decide_eq_true c, bne_self_eq_false]
  · obtain ⟨d, a1, b1, p1, p2, p3, p4⟩ := e_draw (Pg := Pg) (w := w) (K := K) (r := r ++ [.dct (acc.map rowP)]) h (n := 5) (by decide) (by decide)
    by_cases e : (d == 0) = true
    · obtain ⟨v, a2, b2, q1, q2⟩ := e_number (Pg := Pg) (w := w) (K := K) (r := r ++ [.dct (acc.map rowP)]) p3
      refine ⟨putT acc z v, a2, b2, ha.put hz _, q1, ?_⟩
      have q := dput1 (r := r) (t := acc) (z := z) (v := v) (γ := γC (r.length + 1) t ns (some (.v (.str z))) x5 x6) (Fd := fVar 3) (Fk := fVar 4) (Fv := fCall (D__law_number Pg w K) (fCons (fVar 0) fNil)) (a := a1) (b := b1) (a' := a2) (b' := b2) (by simp (config := { zeta := true }) only [fDef, sSeq, sIfS, sRet, sSet, sNext, sDrop, sFor, sPar, sPar3, sAsgP, sSubName, sDPutP, sLPutP, sFldP, sBad, fCall, fCons, fNil, fVar, fC, fOp, fUn, fTest, fNotT, fAndT, fOrT, fAndV, fOrV, fNotV, fIf, fChain, fSeq, fLstC, fLc, fDc, iAny_eq, iVals_eq, iItems_eq, iKeys_eq, iRg1, iRg2, vals, wipeG, O.bind_ok, O.s_ok, O.or_bad, O.or_ok, O.nx, leave, mkL, mkD, rdL, rdD, rdI, seqP, wD, wI, tgName, tgTup, tgCons, tgNil, fMeth_eq, fFld_eq, fFrz_eq, fMake_eq, fCallO, fYes, PC.p, le_ii, lt_ii, gt_ii, le_ss, add_ii, sub_ii, neg_i, eq_ii, ne_bb, eq_bb, eq_ss, ne_ss, List.map_cons, List.map_nil, List.length_cons, List.length_nil, List.replicate_succ, List.replicate_zero, List.cons_append, List.nil_append, List.getElem?_cons_zero, List.getElem?_cons_succ, List.getElem?_nil, List.set_cons_zero, List.set_cons_succ, Option.bind_some, Option.map_some, Nat.reduceAdd, Nat.reduceSub, Nat.reduceEqDiff, ↓reduceIte, Bool.not_true, Bool.not_false, Bool.false_eq_true, and_self, and_true, true_and, List.take_append_of_le_length, List.take_length, q2]) rfl rfl (by omega)
      simp (config := { zeta := true }) only [fDef, sSeq, sIfS, sRet, sSet, sNext, sDrop, sFor, sPar, sPar3, sAsgP, sSubName, sDPutP, sLPutP, sFldP, sBad, fCall, fCons, fNil, fVar, fC, fOp, fUn, fTest, fNotT, fAndT, fOrT, fAndV, fOrV, fNotV, fIf, fChain, fSeq, fLstC, fLc, fDc, iAny_eq, iVals_eq, iItems_eq, iKeys_eq, iRg1, iRg2, vals, wipeG, O.bind_ok, O.s_ok, O.or_bad, O.or_ok, O.nx, leave, mkL, mkD, rdL, rdD, rdI, seqP, wD, wI, tgName, tgTup, tgCons, tgNil, fMeth_eq, fFld_eq, fFrz_eq, fMake_eq, fCallO, fYes, PC.p, le_ii, lt_ii, gt_ii, le_ss, add_ii, sub_ii, neg_i, eq_ii, ne_bb, eq_bb, eq_ss, ne_ss, List.map_cons, List.map_nil, List.length_cons, List.length_nil, List.replicate_succ, List.replicate_zero, List.cons_append, List.nil_append, List.getElem?_cons_zero, List.getElem?_cons_succ, List.getElem?_nil, List.set_cons_zero, List.set_cons_succ, Option.bind_some, Option.map_some, Nat.reduceAdd, Nat.reduceSub, Nat.reduceEqDiff, ↓reduceIte, Bool.not_true, Bool.not_false, Bool.false_eq_true, and_self, and_true, true_and, List.take_append_of_le_length, List.take_length, din_ok, decide_eq_false c, show (false != true) = true from rfl, p4, e]
      exact q
    · have e' : (d == 0) = false := by simpa using e
      refine ⟨acc, a1, b1, ha, p3, ?_⟩
      simp (config := { zeta := true }) only [fDef, sSeq, sIfS, sRet, sSet, sNext, sDrop, sFor, sPar, sPar3, sAsgP, sSubName, sDPutP, sLPutP, sFldP, sBad, fCall, fCons, fNil, fVar, fC, fOp, fUn, fTest, fNotT, fAndT, fOrT, fAndV, fOrV, fNotV, fIf, fChain, fSeq, fLstC, fLc, fDc, iAny_eq, iVals_eq, iItems_eq, iKeys_eq, iRg1, iRg2, vals, wipeG, O.bind_ok, O.s_ok, O.or_bad, O.or_ok, O.nx, leave, mkL, mkD, rdL, rdD, rdI, seqP, wD, wI, tgName, tgTup, tgCons, tgNil, fMeth_eq, fFld_eq, fFrz_eq, fMake_eq, fCallO, fYes, PC.p, le_ii, lt_ii, gt_ii, le_ss, add_ii, sub_ii, neg_i, eq_ii, ne_bb, eq_bb, eq_ss, ne_ss, List.map_cons, List.map_nil, List.length_cons, List.length_nil, List.replicate_succ, List.replicate_zero, List.cons_append, List.nil_append, List.getElem?_cons_zero, List.getElem?_cons_succ, List.getElem?_nil, List.set_cons_zero, List.set_cons_succ, Option.bind_some, Option.map_some, Nat.reduceAdd, Nat.reduceSub, Nat.reduceEqDiff, ↓reduceIte, Bool.not_true, Bool.not_false, Bool.false_eq_true, and_self, and_true, true_and, List.take_append_of_le_length, List.take_length, din_ok, decide_eq_false c, show (false != true) = true from rfl, p4, e']
end
end Pu

set_option Elab.async false
set_option linter.all false
set_option maxRecDepth 100000
set_option maxHeartbeats 8000000
namespace Pu
open L2 PySem PySem.Spec PyProof.Rows E10
open He (ga ma)
section
variable {Pg : Program} {w : World} {K : PySem.W.Frag}
theorem e_changed {a b : Int} {r : Μ} (h : PotOk a b) {t : Tb} {ns : List Str} (ht : Sub t ns) (ne : t ≠ []) (ln : ns.length ≤ 8) : ∃ (t' : Tb) (a' b' : Int), t' ≠ [] ∧ Sub t' ns ∧ PotOk a' b' ∧
    D__law_changed Pg w K [.loc 0, .v (dctP t), .v (.lst (ns.map P.str))] (pc a b :: r) = .ok (.loc (r.length + 1)) (pc a' b' :: (r ++ [.dct (t'.map rowP)])) := by
  have lt := ht.len
  obtain ⟨γ1, m1, e1, acc1, a1, b1, x4, x5, x6, s1, h1, rfl, rfl⟩ := for_run (f := tgTup 2 (tgCons (tgName 4) (tgCons (tgName 5) tgNil))) (B := sSeq (sSet 6 (fCall (D__law_draw Pg w K) (fCons (fVar 0) (fCons (fC (.int 6)) fNil))))
        (sIfS (fTest (fOp gGt (fVar 6) (fC (.int 0)))) (sDPutP (fVar 3) (fVar 4) (fOp gAdd (fVar 5) (fOp gIx (fSeq .lst (fCons (fC (.int 0)) (fCons (fC (.int 0)) (fCons (fC (.int 0)) (fCons (fC (.int 1)) (fCons (fUn fNeg (fC (.int 1))) (fCons (fOp fPow (fC (.int 10)) (fC (.int 40))) fNil))))))) (fVar 6)))) sNext))
    (fun _ γ m => ∃ (acc : Tb) (a b : Int) (x4 x5 x6 : Option W), Sub acc ns ∧ PotOk a b ∧ γ = γC (r.length + 1) t ns x4 x5 x6 ∧ m = pc a b :: (r ++ [.dct (acc.map rowP)]))
    (ps := t.map fun p => P.tup [.str p.1, .int p.2]) (i := 0) (γ := γC (r.length + 1) t ns none none none) (μ := pc a b :: (r ++ [.dct (([] : Tb).map rowP)]))
    ⟨[], a, b, _, _, _, ⟨List.nodup_nil, fun z m => by cases m⟩, h, rfl, rfl⟩ fun j p γ m hp ⟨acc, a, b, x4, x5, x6, ha, h, eg, em⟩ => by
      subst eg
      subst em
      obtain ⟨p', mp, rfl⟩ := List.mem_map.mp (List.mem_of_getElem? hp)
      obtain ⟨acc', a', b', y6, ha', h', e⟩ := e_chg1 (Pg := Pg) (w := w) (K := K) (r := r) h (t := t) ha ln (z := p'.1) (v := p'.2) (ht.sub _ (List.mem_map.mpr ⟨p', mp, rfl⟩)) (x6 := x6)
      exact ⟨_, rfl, _, _, .inl e, acc', a', b', _, _, _, ha', h', rfl, rfl⟩
  obtain ⟨γ2, m2, e2, acc2, a2, b2, y4, y5, y6, s2, h2, rfl, rfl⟩ := for_run (f := tgName 4) (B := sIfS (fAndT (fTest (fOp (gIn true) (fVar 4) (fVar 1))) (fTest (fOp gEq (fCall (D__law_draw Pg w K) (fCons (fVar 0) (fCons (fC (.int 5)) fNil))) (fC (.int 0))))) (sDPutP (fVar 3) (fVar 4) (fCall (D__law_number Pg w K) (fCons (fVar 0) fNil))) sNext)
    (fun _ γ m => ∃ (acc : Tb) (a b : Int) (x4 x5 x6 : Option W), Sub acc ns ∧ PotOk a b ∧ γ = γC (r.length + 1) t ns x4 x5 x6 ∧ m = pc a b :: (r ++ [.dct (acc.map rowP)]))
    (ps := ns.map P.str) (i := 0) (γ := γC (r.length + 1) t ns x4 x5 x6) (μ := pc a1 b1 :: (r ++ [.dct (acc1.map rowP)]))
    ⟨acc1, a1, b1, _, _, _, s1, h1, rfl, rfl⟩ fun j p γ m hp ⟨acc, a, b, x4, x5, x6, ha, h, eg, em⟩ => by
      subst eg
      subst em
      obtain ⟨z, mz, rfl⟩ := List.mem_map.mp (List.mem_of_getElem? hp)
      obtain ⟨acc', a', b', ha', h', e⟩ := e_chg2 (Pg := Pg) (w := w) (K := K) (r := r) h (t := t) ha ln mz (x5 := x5) (x6 := x6)
      exact ⟨_, rfl, _, _, .inl e, acc', a', b', _, _, _, ha', h', rfl, rfl⟩
  have i2 : itP (.v (.lst (ns.map P.str))) (pc a1 b1 :: (r ++ [.dct (acc1.map rowP)])) = .ok (ns.map P.str) (pc a1 b1 :: (r ++ [.dct (acc1.map rowP)])) := it_l (by rw [List.length_map]; omega)
  have tk : List.take (r.length + 1) (pc a2 b2 :: (r ++ [.dct (acc2.map rowP)])) = pc a2 b2 :: r := by
    rw [List.take_succ_cons, List.take_left]
  have at1 : (pc a2 b2 :: (r ++ [PC.dct (acc2.map rowP)]))[r.length + 1]? = some (.dct (acc2.map rowP)) := by simp
  by_cases c : acc2.isEmpty = true
  · have hc : (!acc2.isEmpty) = false := by rw [c]; rfl
    refine ⟨t, a2, b2, ne, ht, h2, ?_⟩
    unfold D__law_changed
    simp (config := { zeta := true }) only [fDef, sSeq, sIfS, sRet, sSet, sNext, sDrop, sFor, sPar, sPar3, sAsgP, sSubName, sDPutP, sLPutP, sFldP, sBad, fCall, fCons, fNil, fVar, fC, fOp, fUn, fTest, fNotT, fAndT, fOrT, fAndV, fOrV, fNotV, fIf, fChain, fSeq, fLstC, fLc, fDc, iAny_eq, iVals_eq, iItems_eq, iKeys_eq, iRg1, iRg2, vals, wipeG, O.bind_ok, O.s_ok, O.or_bad, O.or_ok, O.nx, leave, mkL, mkD, rdL, rdD, rdI, seqP, wD, wI, tgName, tgTup, tgCons, tgNil, fMeth_eq, fFld_eq, fFrz_eq, fMake_eq, fCallO, fYes, PC.p, le_ii, lt_ii, gt_ii, le_ss, add_ii, sub_ii, neg_i, eq_ii, ne_bb, eq_bb, eq_ss, ne_ss, List.map_cons, List.map_nil, List.length_cons, List.length_nil, List.replicate_succ, List.replicate_zero, List.cons_append, List.nil_append, List.getElem?_cons_zero, List.getElem?_cons_succ, List.getElem?_nil, List.set_cons_zero, List.set_cons_succ, Option.bind_some, Option.map_some, Nat.reduceAdd, Nat.reduceSub, Nat.reduceEqDiff, ↓reduceIte, Bool.not_true, Bool.not_false, Bool.false_eq_true, and_self, and_true, true_and, List.take_append_of_le_length, List.take_length, List.length_append, it_i (show t.length ≤ 100000 by omega)]
    rw [show (PC.dct ([] : List (Key × P))) = .dct (([] : Tb).map rowP) from rfl, e1]
    simp (config := { zeta := true }) only [fDef, sSeq, sIfS, sRet, sSet, sNext, sDrop, sFor, sPar, sPar3, sAsgP, sSubName, sDPutP, sLPutP, sFldP, sBad, fCall, fCons, fNil, fVar, fC, fOp, fUn, fTest, fNotT, fAndT, fOrT, fAndV, fOrV, fNotV, fIf, fChain, fSeq, fLstC, fLc, fDc, iAny_eq, iVals_eq, iItems_eq, iKeys_eq, iRg1, iRg2, vals, wipeG, O.bind_ok, O.s_ok, O.or_bad, O.or_ok, O.nx, leave, mkL, mkD, rdL, rdD, rdI, seqP, wD, wI, tgName, tgTup, tgCons, tgNil, fMeth_eq, fFld_eq, fFrz_eq, fMake_eq, fCallO, fYes, PC.p, le_ii, lt_ii, gt_ii, le_ss, add_ii, sub_ii, neg_i, eq_ii, ne_bb, eq_bb, eq_ss, ne_ss, List.map_cons, List.map_nil, List.length_cons, List.length_nil, List.replicate_succ, List.replicate_zero, List.cons_append, List.nil_append, List.getElem?_cons_zero, List.getElem?_cons_succ, List.getElem?_nil, List.set_cons_zero, List.set_cons_succ, Option.bind_some, Option.map_some, Nat.reduceAdd, Nat.reduceSub, Nat.reduceEqDiff, ↓reduceIte, Bool.not_true, Bool.not_false, Bool.false_eq_true, and_self, and_true, true_and, List.take_append_of_le_length, List.take_length, i2]
    rw [e2]
    simp (config := { zeta := true }) only [fDef, sSeq, sIfS, sRet, sSet, sNext, sDrop, sFor, sPar, sPar3, sAsgP, sSubName, sDPutP, sLPutP, sFldP, sBad, fCall, fCons, fNil, fVar, fC, fOp, fUn, fTest, fNotT, fAndT, fOrT, fAndV, fOrV, fNotV, fIf, fChain, fSeq, fLstC, fLc, fDc, iAny_eq, iVals_eq, iItems_eq, iKeys_eq, iRg1, iRg2, vals, wipeG, O.bind_ok, O.s_ok, O.or_bad, O.or_ok, O.nx, leave, mkL, mkD, rdL, rdD, rdI, seqP, wD, wI, tgName, tgTup, tgCons, tgNil, fMeth_eq, fFld_eq, fFrz_eq, fMake_eq, fCallO, fYes, PC.p, le_ii, lt_ii, gt_ii, le_ss, add_ii, sub_ii, neg_i, eq_ii, ne_bb, eq_bb, eq_ss, ne_ss, List.map_cons, List.map_nil, List.length_cons, List.length_nil, List.replicate_succ, List.replicate_zero, List.cons_append, List.nil_append, List.getElem?_cons_zero, List.getElem?_cons_succ, List.getElem?_nil, List.set_cons_zero, List.set_cons_succ, Option.bind_some, Option.map_some, Nat.reduceAdd, Nat.reduceSub, Nat.reduceEqDiff, ↓reduceIte, Bool.not_true, Bool.not_false, Bool.false_eq_true, and_self, and_true, true_and, List.take_append_of_le_length, List.take_length, ned1, hc, dict_t]
    rw [if_neg (by rw [List.length_append]; simp), last_at]
    simp
  · have hc : (!acc2.isEmpty) = true := by cases z : acc2.isEmpty <;> simp_all
    refine ⟨acc2, a2, b2, fun e => c (by rw [e]; rfl), s2, h2, ?_⟩
    unfold D__law_changed
    simp (config := { zeta := true }) only [fDef, sSeq, sIfS, sRet, sSet, sNext, sDrop, sFor, sPar, sPar3, sAsgP, sSubName, sDPutP, sLPutP, sFldP, sBad, fCall, fCons, fNil, fVar, fC, fOp, fUn, fTest, fNotT, fAndT, fOrT, fAndV, fOrV, fNotV, fIf, fChain, fSeq, fLstC, fLc, fDc, iAny_eq, iVals_eq, iItems_eq, iKeys_eq, iRg1, iRg2, vals, wipeG, O.bind_ok, O.s_ok, O.or_bad, O.or_ok, O.nx, leave, mkL, mkD, rdL, rdD, rdI, seqP, wD, wI, tgName, tgTup, tgCons, tgNil, fMeth_eq, fFld_eq, fFrz_eq, fMake_eq, fCallO, fYes, PC.p, le_ii, lt_ii, gt_ii, le_ss, add_ii, sub_ii, neg_i, eq_ii, ne_bb, eq_bb, eq_ss, ne_ss, List.map_cons, List.map_nil, List.length_cons, List.length_nil, List.replicate_succ, List.replicate_zero, List.cons_append, List.nil_append, List.getElem?_cons_zero, List.getElem?_cons_succ, List.getElem?_nil, List.set_cons_zero, List.set_cons_succ, Option.bind_some, Option.map_some, Nat.reduceAdd, Nat.reduceSub, Nat.reduceEqDiff, ↓reduceIte, Bool.not_true, Bool.not_false, Bool.false_eq_true, and_self, and_true, true_and, List.take_append_of_le_length, List.take_length, List.length_append, it_i (show t.length ≤ 100000 by omega)]
    rw [show (PC.dct ([] : List (Key × P))) = .dct (([] : Tb).map rowP) from rfl, e1]
    simp (config := { zeta := true }) only [fDef, sSeq, sIfS, sRet, sSet, sNext, sDrop, sFor, sPar, sPar3, sAsgP, sSubName, sDPutP, sLPutP, sFldP, sBad, fCall, fCons, fNil, fVar, fC, fOp, fUn, fTest, fNotT, fAndT, fOrT, fAndV, fOrV, fNotV, fIf, fChain, fSeq, fLstC, fLc, fDc, iAny_eq, iVals_eq, iItems_eq, iKeys_eq, iRg1, iRg2, vals, wipeG, O.bind_ok, O.s_ok, O.or_bad, O.or_ok, O.nx, leave, mkL, mkD, rdL, rdD, rdI, seqP, wD, wI, tgName, tgTup, tgCons, tgNil, fMeth_eq, fFld_eq, fFrz_eq, fMake_eq, fCallO, fYes, PC.p, le_ii, lt_ii, gt_ii, le_ss, add_ii, sub_ii, neg_i, eq_ii, ne_bb, eq_bb, eq_ss, ne_ss, List.map_cons, List.map_nil, List.length_cons, List.length_nil, List.replicate_succ, List.replicate_zero, List.cons_append, List.nil_append, List.getElem?_cons_zero, List.getElem?_cons_succ, List.getElem?_nil, List.set_cons_zero, List.set_cons_succ, Option.bind_some, Option.map_some, Nat.reduceAdd, Nat.reduceSub, Nat.reduceEqDiff, ↓reduceIte, Bool.not_true, Bool.not_false, Bool.false_eq_true, and_self, and_true, true_and, List.take_append_of_le_length, List.take_length, i2]
    rw [e2]
    simp (config := { zeta := true }) only [fDef, sSeq, sIfS, sRet, sSet, sNext, sDrop, sFor, sPar, sPar3, sAsgP, sSubName, sDPutP, sLPutP, sFldP, sBad, fCall, fCons, fNil, fVar, fC, fOp, fUn, fTest, fNotT, fAndT, fOrT, fAndV, fOrV, fNotV, fIf, fChain, fSeq, fLstC, fLc, fDc, iAny_eq, iVals_eq, iItems_eq, iKeys_eq, iRg1, iRg2, vals, wipeG, O.bind_ok, O.s_ok, O.or_bad, O.or_ok, O.nx, leave, mkL, mkD, rdL, rdD, rdI, seqP, wD, wI, tgName, tgTup, tgCons, tgNil, fMeth_eq, fFld_eq, fFrz_eq, fMake_eq, fCallO, fYes, PC.p, le_ii, lt_ii, gt_ii, le_ss, add_ii, sub_ii, neg_i, eq_ii, ne_bb, eq_bb, eq_ss, ne_ss, List.map_cons, List.map_nil, List.length_cons, List.length_nil, List.replicate_succ, List.replicate_zero, List.cons_append, List.nil_append, List.getElem?_cons_zero, List.getElem?_cons_succ, List.getElem?_nil, List.set_cons_zero, List.set_cons_succ, Option.bind_some, Option.map_some, Nat.reduceAdd, Nat.reduceSub, Nat.reduceEqDiff, ↓reduceIte, Bool.not_true, Bool.not_false, Bool.false_eq_true, and_self, and_true, true_and, List.take_append_of_le_length, List.take_length, ned1, hc]
    rw [if_neg (Nat.lt_irrefl _), last_at]
    simp
end
end Pu

set_option Elab.async false
set_option linter.all false
set_option maxRecDepth 100000
set_option maxHeartbeats 8000000
namespace Pu
open L2 PySem PySem.Spec PyProof.Rows E10
open He (ga ma)
section
variable {Pg : Program} {w : World} {K : PySem.W.Frag} {μ : Μ}
def tellB (t : Tb) (p : Str × Int) : Bool := !decide (p.1 ∈ keys t) || decide (p.2 < val t p.1)
def tell (t s : Tb) : List Str := (s.filter (tellB t)).map (·.1)
theorem e_tell {t s : Tb} (ls : s.length ≤ 64) : D__law_telling Pg w K [.v (dctP t), .v (dctP s)] μ = .ok (.v (.lst ((tell t s).map P.str))) μ := by
  unfold D__law_telling
  simp (config := { zeta := true }) only [fDef, sSeq, sIfS, sRet, sSet, sNext, sDrop, sFor, sPar, sPar3, sAsgP, sSubName, sDPutP, sLPutP, sFldP, sBad, fCall, fCons, fNil, fVar, fC, fOp, fUn, fTest, fNotT, fAndT, fOrT, fAndV, fOrV, fNotV, fIf, fChain, fSeq, fLstC, fLc, fDc, iAny_eq, iVals_eq, iItems_eq, iKeys_eq, iRg1, iRg2, vals, wipeG, O.bind_ok, O.s_ok, O.or_bad, O.or_ok, O.nx, leave, mkL, mkD, rdL, rdD, rdI, seqP, wD, wI, tgName, tgTup, tgCons, tgNil, fMeth_eq, fFld_eq, fFrz_eq, fMake_eq, fCallO, fYes, PC.p, le_ii, lt_ii, gt_ii, le_ss, add_ii, sub_ii, neg_i, eq_ii, ne_bb, eq_bb, eq_ss, ne_ss, List.map_cons, List.map_nil, List.length_cons, List.length_nil, List.replicate_succ, List.replicate_zero, List.cons_append, List.nil_append, List.getElem?_cons_zero, List.getElem?_cons_succ, List.getElem?_nil, List.set_cons_zero, List.set_cons_succ, Option.bind_some, Option.map_some, Nat.reduceAdd, Nat.reduceSub, Nat.reduceEqDiff, ↓reduceIte, Bool.not_true, Bool.not_false, Bool.false_eq_true, and_self, and_true, true_and, List.take_append_of_le_length, List.take_length, it_i (show s.length ≤ 100000 by omega)]
  rw [lc_on (fun p : Str × Int => P.tup [.str p.1, .int p.2]) (tellB t) (fun p => P.str p.1) (l := s) fun p m => ⟨_, rfl, by
    by_cases c : p.1 ∈ keys t
    · simp (config := { zeta := true }) only [fDef, sSeq, sIfS, sRet, sSet, sNext, sDrop, sFor, sPar, sPar3, sAsgP, sSubName, sDPutP, sLPutP, sFldP, sBad, fCall, fCons, fNil, fVar, fC, fOp, fUn, fTest, fNotT, fAndT, fOrT, fAndV, fOrV, fNotV, fIf, fChain, fSeq, fLstC, fLc, fDc, iAny_eq, iVals_eq, iItems_eq, iKeys_eq, iRg1, iRg2, vals, wipeG, O.bind_ok, O.s_ok, O.or_bad, O.or_ok, O.nx, leave, mkL, mkD, rdL, rdD, rdI, seqP, wD, wI, tgName, tgTup, tgCons, tgNil, fMeth_eq, fFld_eq, fFrz_eq, fMake_eq, fCallO, fYes, PC.p, le_ii, lt_ii, gt_ii, le_ss, add_ii, sub_ii, neg_i, eq_ii, ne_bb, eq_bb, eq_ss, ne_ss, List.map_cons, List.map_nil, List.length_cons, List.length_nil, List.replicate_succ, List.replicate_zero, List.cons_append, List.nil_append, List.getElem?_cons_zero, List.getElem?_cons_succ, List.getElem?_nil, List.set_cons_zero, List.set_cons_succ, Option.bind_some, Option.map_some, Nat.reduceAdd, Nat.reduceSub, Nat.reduceEqDiff, ↓reduceIte, Bool.not_true, Bool.not_false, Bool.false_eq_true, and_self, and_true, true_and, List.take_append_of_le_length, List.take_length, din_ok, decide_eq_true c, bne_self_eq_false, dget_ok (val_of c)]
      unfold tellB
      rw [decide_eq_true c]
      rfl
    · simp (config := { zeta := true }) only [fDef, sSeq, sIfS, sRet, sSet, sNext, sDrop, sFor, sPar, sPar3, sAsgP, sSubName, sDPutP, sLPutP, sFldP, sBad, fCall, fCons, fNil, fVar, fC, fOp, fUn, fTest, fNotT, fAndT, fOrT, fAndV, fOrV, fNotV, fIf, fChain, fSeq, fLstC, fLc, fDc, iAny_eq, iVals_eq, iItems_eq, iKeys_eq, iRg1, iRg2, vals, wipeG, O.bind_ok, O.s_ok, O.or_bad, O.or_ok, O.nx, leave, mkL, mkD, rdL, rdD, rdI, seqP, wD, wI, tgName, tgTup, tgCons, tgNil, fMeth_eq, fFld_eq, fFrz_eq, fMake_eq, fCallO, fYes, PC.p, le_ii, lt_ii, gt_ii, le_ss, add_ii, sub_ii, neg_i, eq_ii, ne_bb, eq_bb, eq_ss, ne_ss, List.map_cons, List.map_nil, List.length_cons, List.length_nil, List.replicate_succ, List.replicate_zero, List.cons_append, List.nil_append, List.getElem?_cons_zero, List.getElem?_cons_succ, List.getElem?_nil, List.set_cons_zero, List.set_cons_succ, Option.bind_some, Option.map_some, Nat.reduceAdd, Nat.reduceSub, Nat.reduceEqDiff, ↓reduceIte, Bool.not_true, Bool.not_false, Bool.false_eq_true, and_self, and_true, true_and, List.take_append_of_le_length, List.take_length, din_ok, decide_eq_false c, show (false != true) = true from rfl]
      unfold tellB
      rw [decide_eq_false c]
      rfl, fun _ => by simp (config := { zeta := true }) only [fDef, sSeq, sIfS, sRet, sSet, sNext, sDrop, sFor, sPar, sPar3, sAsgP, sSubName, sDPutP, sLPutP, sFldP, sBad, fCall, fCons, fNil, fVar, fC, fOp, fUn, fTest, fNotT, fAndT, fOrT, fAndV, fOrV, fNotV, fIf, fChain, fSeq, fLstC, fLc, fDc, iAny_eq, iVals_eq, iItems_eq, iKeys_eq, iRg1, iRg2, vals, wipeG, O.bind_ok, O.s_ok, O.or_bad, O.or_ok, O.nx, leave, mkL, mkD, rdL, rdD, rdI, seqP, wD, wI, tgName, tgTup, tgCons, tgNil, fMeth_eq, fFld_eq, fFrz_eq, fMake_eq, fCallO, fYes, PC.p, le_ii, lt_ii, gt_ii, le_ss, add_ii, sub_ii, neg_i, eq_ii, ne_bb, eq_bb, eq_ss, ne_ss, List.map_cons, List.map_nil, List.length_cons, List.length_nil, List.replicate_succ, List.replicate_zero, List.cons_append, List.nil_append, List.getElem?_cons_zero, List.getElem?_cons_succ, List.getElem?_nil, List.set_cons_zero, List.set_cons_succ, Option.bind_some, Option.map_some, Nat.reduceAdd, Nat.reduceSub, Nat.reduceEqDiff, ↓reduceIte, Bool.not_true, Bool.not_false, Bool.false_eq_true, and_self, and_true, true_and, List.take_append_of_le_length, List.take_length]⟩]
  simp (config := { zeta := true }) only [fDef, sSeq, sIfS, sRet, sSet, sNext, sDrop, sFor, sPar, sPar3, sAsgP, sSubName, sDPutP, sLPutP, sFldP, sBad, fCall, fCons, fNil, fVar, fC, fOp, fUn, fTest, fNotT, fAndT, fOrT, fAndV, fOrV, fNotV, fIf, fChain, fSeq, fLstC, fLc, fDc, iAny_eq, iVals_eq, iItems_eq, iKeys_eq, iRg1, iRg2, vals, wipeG, O.bind_ok, O.s_ok, O.or_bad, O.or_ok, O.nx, leave, mkL, mkD, rdL, rdD, rdI, seqP, wD, wI, tgName, tgTup, tgCons, tgNil, fMeth_eq, fFld_eq, fFrz_eq, fMake_eq, fCallO, fYes, PC.p, le_ii, lt_ii, gt_ii, le_ss, add_ii, sub_ii, neg_i, eq_ii, ne_bb, eq_bb, eq_ss, ne_ss, List.map_cons, List.map_nil, List.length_cons, List.length_nil, List.replicate_succ, List.replicate_zero, List.cons_append, List.nil_append, List.getElem?_cons_zero, List.getElem?_cons_succ, List.getElem?_nil, List.set_cons_zero, List.set_cons_succ, Option.bind_some, Option.map_some, Nat.reduceAdd, Nat.reduceSub, Nat.reduceEqDiff, ↓reduceIte, Bool.not_true, Bool.not_false, Bool.false_eq_true, and_self, and_true, true_and, List.take_append_of_le_length, List.take_length]
  unfold tell
  rw [List.map_map]
  rfl
def size (t s : Tb) : Int := ((t.map fun p => ((p.2.natAbs : Nat) : Int)) ++ (s.map fun p => ((p.2.natAbs : Nat) : Int))).sum
def early (ns : List Str) (t s : Tb) (z : Str) : Tb := ns.map fun n => (n, if n == z then -4 * size t s - 5 else 0)
theorem lv_t {F : EF} {γ : Γ} {t : Tb} (h : F γ μ = .ok (.v (dctP t)) μ) : fListVals F γ μ = .ok (.v (.lst (t.map fun p => P.int p.2))) μ := by
  unfold fListVals
  rw [h]
  show O.ok (W.v (.lst ((t.map rowP).map (·.2)))) μ = _
  rw [List.map_map]
  rfl
theorem sum_l {ps : List P} {l : List Int} (h : intsP ps = some l) : fSum [.v (.lst ps)] μ = .ok (.v (.int l.sum)) μ := by
  show (match intsP ps with
    | some ns => O.ok (W.v (.int ns.sum)) μ
    | none => .bad) = _
  rw [h]
theorem pairs_map {α : Type} (k : α → Str) (v : α → P) : ∀ l : List α, pairsP (l.map fun a => P.tup [.str (k a), v a]) = some (l.map fun a => (Sum.inr (k a), v a))
  | [] => rfl
  | a :: r => by
    show (match keyP (.str (k a)), pairsP (r.map fun a => P.tup [.str (k a), v a]) with
      | some k, some l => some ((k, v a) :: l)
      | _, _ => none) = _
    rw [pairs_map k v r]
    rfl
theorem merge_fold : ∀ (l : List (Key × P)) (acc : List (Key × P)), mergeP acc l = l.foldl (fun a p => putP a p.1 p.2) acc
  | [], _ => rfl
  | p :: r, acc => by
    show mergeP (putP acc p.1 p.2) r = _
    rw [merge_fold r]
    rfl
/-- dict([(z, n), ..]) of unlike names -/
theorem dict_pairs {α : Type} (k : α → Str) (v : α → Int) {l : List α} (nd : (l.map k).Nodup) : gDict .val [.v (.lst (l.map fun a => P.tup [.str (k a), .int (v a)]))] μ = .ok (.v (dctP (l.map fun a => (k a, v a)))) μ := by
  show O.or .bad (match pairsP (l.map fun a => P.tup [.str (k a), .int (v a)]) with
    | some l => mkD .val (mergeP [] l) μ
    | none => .bad) = _
  rw [pairs_map k (fun a => P.int (v a)) l, O.or_bad]
  show O.ok (W.v (.dct (mergeP [] (l.map fun a => (Sum.inr (k a), P.int (v a)))))) μ = _
  rw [merge_fold, put_all (fun p : Key × P => p.1) (fun p => p.2)]
  · unfold dctP
    rw [List.nil_append, List.map_map, List.map_map]
    rfl
  · rw [List.map_nil, List.nil_append, List.map_map]
    have : (l.map ((fun p : Key × P => p.1) ∘ fun a => (Sum.inr (k a), P.int (v a)))) = (l.map k).map Sum.inr := by
      rw [List.map_map]
      rfl
    rw [this]
    exact List.Pairwise.map _ (fun a b h e => h (Sum.inr.inj e)) nd
theorem e_early {ns : List Str} {t s : Tb} (nd : ns.Nodup) (ln : ns.length ≤ 64) (lt : t.length ≤ 64) (ls : s.length ≤ 64) (z : Str) : D__law_early Pg w K [.v (.lst (ns.map P.str)), .v (dctP t), .v (dctP s), .v (.str z)] μ = .ok (.v (dctP (early ns t s z))) μ := by
  have ln2 : (ns.map P.str).length ≤ 100000 := by rw [List.length_map]; omega
  have e1 : (t.map fun p => P.int p.2) ++ (s.map fun p => P.int p.2) = (t ++ s).map fun p => P.int p.2 := by rw [List.map_append]
  have l1 : (t.map fun p => P.int p.2).length + (s.map fun p => P.int p.2).length ≤ 100000 := by rw [List.length_map, List.length_map]; omega
  have l2 : ((t ++ s).map fun p => P.int p.2).length ≤ 100000 := by rw [List.length_map, List.length_append]; omega
  have ez : size t s = ((t ++ s).map fun p => ((p.2.natAbs : Nat) : Int)).sum := by
    unfold size
    rw [List.map_append]
  have q1 : ∀ γ : Γ, γ[1]? = some (some (.v (dctP t))) → fListVals (fVar 1) γ μ = .ok (.v (.lst (t.map fun p => P.int p.2))) μ := fun γ e => lv_t (by unfold fVar; rw [e])
  have q2 : ∀ γ : Γ, γ[2]? = some (some (.v (dctP s))) → fListVals (fVar 2) γ μ = .ok (.v (.lst (s.map fun p => P.int p.2))) μ := fun γ e => lv_t (by unfold fVar; rw [e])
  unfold D__law_early
  simp (config := { zeta := true }) only [fDef, sSeq, sIfS, sRet, sSet, sNext, sDrop, sFor, sPar, sPar3, sAsgP, sSubName, sDPutP, sLPutP, sFldP, sBad, fCall, fCons, fNil, fVar, fC, fOp, fUn, fTest, fNotT, fAndT, fOrT, fAndV, fOrV, fNotV, fIf, fChain, fSeq, fLstC, fLc, fDc, iAny_eq, iVals_eq, iItems_eq, iKeys_eq, iRg1, iRg2, vals, wipeG, O.bind_ok, O.s_ok, O.or_bad, O.or_ok, O.nx, leave, mkL, mkD, rdL, rdD, rdI, seqP, wD, wI, tgName, tgTup, tgCons, tgNil, fMeth_eq, fFld_eq, fFrz_eq, fMake_eq, fCallO, fYes, PC.p, le_ii, lt_ii, gt_ii, le_ss, add_ii, sub_ii, neg_i, eq_ii, ne_bb, eq_bb, eq_ss, ne_ss, List.map_cons, List.map_nil, List.length_cons, List.length_nil, List.replicate_succ, List.replicate_zero, List.cons_append, List.nil_append, List.getElem?_cons_zero, List.getElem?_cons_succ, List.getElem?_nil, List.set_cons_zero, List.set_cons_succ, Option.bind_some, Option.map_some, Nat.reduceAdd, Nat.reduceSub, Nat.reduceEqDiff, ↓reduceIte, Bool.not_true, Bool.not_false, Bool.false_eq_true, and_self, and_true, true_and, List.take_append_of_le_length, List.take_length, q1 [some (.v (.lst (ns.map P.str))), some (.v (dctP t)), some (.v (dctP s)), some (.v (.str z)), none, none, none] rfl, q2 [some (.v (.lst (ns.map P.str))), some (.v (dctP t)), some (.v (dctP s)), some (.v (.str z)), none, none, none] rfl, add_ll l1, e1, it_l l2]
  rw [lc_all (fun p : Str × Int => P.int p.2) (fun p => P.int ((p.2.natAbs : Nat) : Int)) (l := t ++ s) fun p m => ⟨_, rfl, by simp (config := { zeta := true }) only [fDef, sSeq, sIfS, sRet, sSet, sNext, sDrop, sFor, sPar, sPar3, sAsgP, sSubName, sDPutP, sLPutP, sFldP, sBad, fCall, fCons, fNil, fVar, fC, fOp, fUn, fTest, fNotT, fAndT, fOrT, fAndV, fOrV, fNotV, fIf, fChain, fSeq, fLstC, fLc, fDc, iAny_eq, iVals_eq, iItems_eq, iKeys_eq, iRg1, iRg2, vals, wipeG, O.bind_ok, O.s_ok, O.or_bad, O.or_ok, O.nx, leave, mkL, mkD, rdL, rdD, rdI, seqP, wD, wI, tgName, tgTup, tgCons, tgNil, fMeth_eq, fFld_eq, fFrz_eq, fMake_eq, fCallO, fYes, PC.p, le_ii, lt_ii, gt_ii, le_ss, add_ii, sub_ii, neg_i, eq_ii, ne_bb, eq_bb, eq_ss, ne_ss, List.map_cons, List.map_nil, List.length_cons, List.length_nil, List.replicate_succ, List.replicate_zero, List.cons_append, List.nil_append, List.getElem?_cons_zero, List.getElem?_cons_succ, List.getElem?_nil, List.set_cons_zero, List.set_cons_succ, Option.bind_some, Option.map_some, Nat.reduceAdd, Nat.reduceSub, Nat.reduceEqDiff, ↓reduceIte, Bool.not_true, Bool.not_false, Bool.false_eq_true, and_self, and_true, true_and, List.take_append_of_le_length, List.take_length, abs_i]⟩]
  simp (config := { zeta := true }) only [fDef, sSeq, sIfS, sRet, sSet, sNext, sDrop, sFor, sPar, sPar3, sAsgP, sSubName, sDPutP, sLPutP, sFldP, sBad, fCall, fCons, fNil, fVar, fC, fOp, fUn, fTest, fNotT, fAndT, fOrT, fAndV, fOrV, fNotV, fIf, fChain, fSeq, fLstC, fLc, fDc, iAny_eq, iVals_eq, iItems_eq, iKeys_eq, iRg1, iRg2, vals, wipeG, O.bind_ok, O.s_ok, O.or_bad, O.or_ok, O.nx, leave, mkL, mkD, rdL, rdD, rdI, seqP, wD, wI, tgName, tgTup, tgCons, tgNil, fMeth_eq, fFld_eq, fFrz_eq, fMake_eq, fCallO, fYes, PC.p, le_ii, lt_ii, gt_ii, le_ss, add_ii, sub_ii, neg_i, eq_ii, ne_bb, eq_bb, eq_ss, ne_ss, List.map_cons, List.map_nil, List.length_cons, List.length_nil, List.replicate_succ, List.replicate_zero, List.cons_append, List.nil_append, List.getElem?_cons_zero, List.getElem?_cons_succ, List.getElem?_nil, List.set_cons_zero, List.set_cons_succ, Option.bind_some, Option.map_some, Nat.reduceAdd, Nat.reduceSub, Nat.reduceEqDiff, ↓reduceIte, Bool.not_true, Bool.not_false, Bool.false_eq_true, and_self, and_true, true_and, List.take_append_of_le_length, List.take_length, sum_l (ints_map (fun p : Str × Int => ((p.2.natAbs : Nat) : Int)) (t ++ s)), it_l ln2]
  rw [← ez]
  rw [lc_all P.str (fun n => P.tup [.str n, .int (if n == z then -4 * size t s - 5 else 0)]) (l := ns) fun n m => ⟨_, rfl, by
    by_cases c : (n == z) = true
    · simp (config := { zeta := true }) only [fDef, sSeq, sIfS, sRet, sSet, sNext, sDrop, sFor, sPar, sPar3, sAsgP, sSubName, sDPutP, sLPutP, sFldP, sBad, fCall, fCons, fNil, fVar, fC, fOp, fUn, fTest, fNotT, fAndT, fOrT, fAndV, fOrV, fNotV, fIf, fChain, fSeq, fLstC, fLc, fDc, iAny_eq, iVals_eq, iItems_eq, iKeys_eq, iRg1, iRg2, vals, wipeG, O.bind_ok, O.s_ok, O.or_bad, O.or_ok, O.nx, leave, mkL, mkD, rdL, rdD, rdI, seqP, wD, wI, tgName, tgTup, tgCons, tgNil, fMeth_eq, fFld_eq, fFrz_eq, fMake_eq, fCallO, fYes, PC.p, le_ii, lt_ii, gt_ii, le_ss, add_ii, sub_ii, neg_i, eq_ii, ne_bb, eq_bb, eq_ss, ne_ss, List.map_cons, List.map_nil, List.length_cons, List.length_nil, List.replicate_succ, List.replicate_zero, List.cons_append, List.nil_append, List.getElem?_cons_zero, List.getElem?_cons_succ, List.getElem?_nil, List.set_cons_zero, List.set_cons_succ, Option.bind_some, Option.map_some, Nat.reduceAdd, Nat.reduceSub, Nat.reduceEqDiff, ↓reduceIte, Bool.not_true, Bool.not_false, Bool.false_eq_true, and_self, and_true, true_and, List.take_append_of_le_length, List.take_length, c, mul_ii (i := -4) (.inl (by decide)), show (2 : Nat) ≤ 100000 from by decide]
    · have c' : (n == z) = false := by simpa using c
      simp (config := { zeta := true }) only [fDef, sSeq, sIfS, sRet, sSet, sNext, sDrop, sFor, sPar, sPar3, sAsgP, sSubName, sDPutP, sLPutP, sFldP, sBad, fCall, fCons, fNil, fVar, fC, fOp, fUn, fTest, fNotT, fAndT, fOrT, fAndV, fOrV, fNotV, fIf, fChain, fSeq, fLstC, fLc, fDc, iAny_eq, iVals_eq, iItems_eq, iKeys_eq, iRg1, iRg2, vals, wipeG, O.bind_ok, O.s_ok, O.or_bad, O.or_ok, O.nx, leave, mkL, mkD, rdL, rdD, rdI, seqP, wD, wI, tgName, tgTup, tgCons, tgNil, fMeth_eq, fFld_eq, fFrz_eq, fMake_eq, fCallO, fYes, PC.p, le_ii, lt_ii, gt_ii, le_ss, add_ii, sub_ii, neg_i, eq_ii, ne_bb, eq_bb, eq_ss, ne_ss, List.map_cons, List.map_nil, List.length_cons, List.length_nil, List.replicate_succ, List.replicate_zero, List.cons_append, List.nil_append, List.getElem?_cons_zero, List.getElem?_cons_succ, List.getElem?_nil, List.set_cons_zero, List.set_cons_succ, Option.bind_some, Option.map_some, Nat.reduceAdd, Nat.reduceSub, Nat.reduceEqDiff, ↓reduceIte, Bool.not_true, Bool.not_false, Bool.false_eq_true, and_self, and_true, true_and, List.take_append_of_le_length, List.take_length, c', show (2 : Nat) ≤ 100000 from by decide]⟩]
  simp (config := { zeta := true }) only [fDef, sSeq, sIfS, sRet, sSet, sNext, sDrop, sFor, sPar, sPar3, sAsgP, sSubName, sDPutP, sLPutP, sFldP, sBad, fCall, fCons, fNil, fVar, fC, fOp, fUn, fTest, fNotT, fAndT, fOrT, fAndV, fOrV, fNotV, fIf, fChain, fSeq, fLstC, fLc, fDc, iAny_eq, iVals_eq, iItems_eq, iKeys_eq, iRg1, iRg2, vals, wipeG, O.bind_ok, O.s_ok, O.or_bad, O.or_ok, O.nx, leave, mkL, mkD, rdL, rdD, rdI, seqP, wD, wI, tgName, tgTup, tgCons, tgNil, fMeth_eq, fFld_eq, fFrz_eq, fMake_eq, fCallO, fYes, PC.p, le_ii, lt_ii, gt_ii, le_ss, add_ii, sub_ii, neg_i, eq_ii, ne_bb, eq_bb, eq_ss, ne_ss, List.map_cons, List.map_nil, List.length_cons, List.length_nil, List.replicate_succ, List.replicate_zero, List.cons_append, List.nil_append, List.getElem?_cons_zero, List.getElem?_cons_succ, List.getElem?_nil, List.set_cons_zero, List.set_cons_succ, Option.bind_some, Option.map_some, Nat.reduceAdd, Nat.reduceSub, Nat.reduceEqDiff, ↓reduceIte, Bool.not_true, Bool.not_false, Bool.false_eq_true, and_self, and_true, true_and, List.take_append_of_le_length, List.take_length, dict_pairs (μ := μ) (fun n : Str => n) (fun n => if n == z then -4 * size t s - 5 else 0) (l := ns) (by rw [List.map_id']; exact nd)]
  rfl
end
end Pu

set_option Elab.async false
set_option linter.all false
set_option maxRecDepth 100000
set_option maxHeartbeats 8000000
namespace Pu
open L2 PySem PySem.Spec PyProof.Rows E10
open He (ga ma)
def Nl (t s : Tb) : Prop := ∀ z ∈ keys s, z ∈ keys t ∧ val t z ≤ val s z
theorem nl_iff {t s : Tb} : nl t s = true ↔ Nl t s := by
  unfold nl Nl
  rw [List.all_eq_true]
  constructor
  · intro h z m
    have := h z m
    rw [Bool.and_eq_true] at this
    exact ⟨of_decide_eq_true this.1, of_decide_eq_true this.2⟩
  · intro h z m
    obtain ⟨a, b⟩ := h z m
    rw [decide_eq_true a, decide_eq_true b]
    rfl
theorem nl_congr {t s t' s' : Tb} (h : Nl t s ↔ Nl t' s') : nl t s = nl t' s' := by
  cases a : nl t s with
  | true => exact (nl_iff.mpr (h.mp (nl_iff.mp a))).symm
  | false =>
    cases b : nl t' s' with
    | false => rfl
    | true => rw [nl_iff.mpr (h.mpr (nl_iff.mp b))] at a; cases a
theorem mem_ord {t : Tb} {z : Str} : z ∈ keys (ord t) ↔ z ∈ keys t := by rw [keys_ord, srt_mem]
theorem val_none {t : Tb} {z : Str} (h : z ∉ keys t) : val t z = 0 := by
  unfold val
  cases e : get t z with
  | none => rfl
  | some v => exact absurd (get_mem.mp (by rw [e]; rfl)) h
theorem val_at {t : Tb} (nd : (keys t).Nodup) {z : Str} {v : Int} (m : (z, v) ∈ t) : val t z = v := by
  unfold val
  rw [get_of nd m]
  rfl
theorem val_ord {t : Tb} (nd : (keys t).Nodup) (z : Str) : val (ord t) z = val t z := by
  by_cases c : z ∈ keys t
  · exact val_at (by rw [keys_ord]; exact srt_nodup nd) (List.mem_map.mpr ⟨z, srt_mem.mpr c, rfl⟩)
  · rw [val_none c, val_none (fun m => c (mem_ord.mp m))]
theorem nl_ord {t s : Tb} (nt : (keys t).Nodup) (ns : (keys s).Nodup) : nl (ord t) (ord s) = nl t s := nl_congr ⟨fun h z m => by
    have := h z (mem_ord.mpr m)
    rw [val_ord nt, val_ord ns, mem_ord] at this
    exact this, fun h z m => by
    have := h z (mem_ord.mp m)
    rw [val_ord nt, val_ord ns, mem_ord]
    exact this⟩
theorem tell_nl {t s : Tb} (ns : (keys s).Nodup) : (tell t s).isEmpty = nl t s := by
  have key : ∀ p ∈ s, tellB t p = false ↔ (p.1 ∈ keys t ∧ val t p.1 ≤ val s p.1) := fun p m => by
    unfold tellB
    rw [val_at ns (show (p.1, p.2) ∈ s from m), Bool.or_eq_false_iff]
    simp
  cases e : nl t s with
  | true =>
    have h := nl_iff.mp e
    unfold tell
    rw [List.filter_eq_nil_iff.mpr fun p m => by rw [(key p m).mpr (h p.1 (List.mem_map.mpr ⟨p, m, rfl⟩))]; exact Bool.false_ne_true]
    rfl
  | false =>
    cases q : (tell t s).isEmpty with
    | false => rfl
    | true =>
      have q1 := List.filter_eq_nil_iff.mp (List.map_eq_nil_iff.mp (List.isEmpty_iff.mp q))
      rw [nl_iff.mpr fun z m => by
        obtain ⟨p, mp, rfl⟩ := List.mem_map.mp m
        exact (key p mp).mp (by simpa using q1 p mp)] at e
      cases e
theorem tell_mem {t s : Tb} (ns : (keys s).Nodup) {z : Str} (h : z ∈ tell t s) : z ∈ keys s ∧ (z ∈ keys t → val s z < val t z) := by
  obtain ⟨p, m, rfl⟩ := List.mem_map.mp h
  obtain ⟨m1, m2⟩ := List.mem_filter.mp m
  refine ⟨List.mem_map.mpr ⟨p, m1, rfl⟩, fun c => ?_⟩
  unfold tellB at m2
  rw [decide_eq_true c] at m2
  rw [val_at ns (show (p.1, p.2) ∈ s from m1)]
  simpa using m2
theorem low_le {t x : Tb} {z : Str} (m : z ∈ keys t) : low t x ≤ val x z + val t z := minL_le (List.mem_map.mpr ⟨z, m, rfl⟩)
theorem low_at {t x : Tb} (ne : t ≠ []) : ∃ z ∈ keys t, low t x = val x z + val t z := by
  have := minL_mem (l := (keys t).map fun z => val x z + val t z) fun e => keys_ne ne (List.map_eq_nil_iff.mp e)
  obtain ⟨z, m, e⟩ := List.mem_map.mp this
  exact ⟨z, m, e.symm⟩
theorem nl_low {t s x : Tb} (ne : s ≠ []) (h : Nl t s) : low t x ≤ low s x := by
  obtain ⟨z, m, e⟩ := low_at (x := x) ne
  obtain ⟨a, b⟩ := h z m
  have := low_le (x := x) a
  omega
theorem size_le {t s : Tb} : (∀ z ∈ keys t, (val t z).natAbs ≤ size t s) ∧ (∀ z ∈ keys s, (val s z).natAbs ≤ size t s) ∧ 0 ≤ size t s := by
  have sl : ∀ (l : List Int), (∀ x ∈ l, 0 ≤ x) → 0 ≤ l.sum ∧ ∀ x ∈ l, x ≤ l.sum := fun l => by
    induction l with
    | nil => exact fun _ => ⟨Int.le_refl _, fun x m => by cases m⟩
    | cons a r ih =>
      intro h
      obtain ⟨i1, i2⟩ := ih fun x m => h x (List.mem_cons_of_mem _ m)
      have ha := h a List.mem_cons_self
      rw [List.sum_cons]
      refine ⟨by omega, fun x m => ?_⟩
      rcases List.mem_cons.mp m with rfl | m
      · omega
      · have := i2 x m
        omega
  obtain ⟨z0, z1⟩ := sl ((t.map fun p => ((p.2.natAbs : Nat) : Int)) ++ (s.map fun p => ((p.2.natAbs : Nat) : Int))) fun x m => by
    rcases List.mem_append.mp m with m | m <;> (obtain ⟨p, _, rfl⟩ := List.mem_map.mp m; omega)
  refine ⟨fun z m => ?_, fun z m => ?_, z0⟩
  · exact z1 _ (List.mem_append.mpr (.inl (List.mem_map.mpr ⟨(z, val t z), get_in (val_of m), rfl⟩)))
  · exact z1 _ (List.mem_append.mpr (.inr (List.mem_map.mpr ⟨(z, val s z), get_in (val_of m), rfl⟩)))
theorem keys_early (ns : List Str) (t s : Tb) (z : Str) : keys (early ns t s z) = ns := by
  unfold keys early
  rw [List.map_map]
  exact List.map_id _
theorem val_early {ns : List Str} (nd : ns.Nodup) {t s : Tb} {z n : Str} (m : n ∈ ns) : val (early ns t s z) n = if n == z then -4 * size t s - 5 else 0 := val_at (by rw [keys_early]; exact nd) (List.mem_map.mpr ⟨n, m, rfl⟩)
theorem early_low {ns : List Str} (nd : ns.Nodup) {t s : Tb} (ne : t ≠ []) (nds : (keys s).Nodup) (st : ∀ z ∈ keys t, z ∈ ns) (ss : ∀ z ∈ keys s, z ∈ ns) {z : Str} (h : z ∈ tell t s) : low s (early ns t s z) < low t (early ns t s z) := by
  obtain ⟨h1, h2⟩ := tell_mem nds h
  obtain ⟨b1, b2, b3⟩ := size_le (t := t) (s := s)
  have l1 := low_le (x := early ns t s z) h1
  rw [val_early nd (ss z h1), if_pos (beq_self_eq_true z)] at l1
  obtain ⟨y, my, ey⟩ := low_at (x := early ns t s z) ne
  rw [val_early nd (st y my)] at ey
  have c2 := b2 z h1
  by_cases c : y = z
  · subst c
    have := h2 my
    rw [if_pos (beq_self_eq_true y)] at ey
    omega
  · rw [if_neg (by simpa using c)] at ey
    have c1 := b1 y my
    omega
theorem Nl.refl (t : Tb) : Nl t t := fun z m => ⟨m, Int.le_refl _⟩
theorem Nl.trans {a b c : Tb} (h : Nl a b) (h2 : Nl b c) : Nl a c := fun z m => by
  obtain ⟨m1, l1⟩ := h2 z m
  obtain ⟨m2, l2⟩ := h z m1
  exact ⟨m2, Int.le_trans l2 l1⟩
end Pu

set_option Elab.async false
set_option linter.all false
set_option maxRecDepth 100000
set_option maxHeartbeats 8000000
namespace Pu
open L2 PySem PySem.Spec PyProof.Rows E10
open He (ga ma)
theorem val_least {a b : Tb} {z : Str} (m : z ∈ keys (least a b)) : val (least a b) z = lst a b z := by
  rw [keys_least] at m
  exact val_at (by rw [keys_least]; exact srt_nodup (both_nd a b)) (List.mem_map.mpr ⟨z, m, rfl⟩)
theorem mem_least {a b : Tb} {z : Str} : z ∈ keys (least a b) ↔ z ∈ keys a ∨ z ∈ keys b := by rw [keys_least, srt_mem, both_mem]
theorem least_l (a b : Tb) : Nl (least a b) a := fun z m => by
  have c := mem_least.mpr (.inl m : z ∈ keys a ∨ z ∈ keys b)
  refine ⟨c, ?_⟩
  rw [val_least c]
  exact minL_le (List.mem_map.mpr ⟨a, List.mem_filter.mpr ⟨by simp, decide_eq_true m⟩, rfl⟩)
theorem least_r (a b : Tb) : Nl (least a b) b := fun z m => by
  have c := mem_least.mpr (.inr m : z ∈ keys a ∨ z ∈ keys b)
  refine ⟨c, ?_⟩
  rw [val_least c]
  exact minL_le (List.mem_map.mpr ⟨b, List.mem_filter.mpr ⟨by simp, decide_eq_true m⟩, rfl⟩)
theorem nd_least (a b : Tb) : (keys (least a b)).Nodup := by rw [keys_least]; exact srt_nodup (both_nd a b)
theorem val_shf {t : Tb} (nd : (keys t).Nodup) (n : Int) {z : Str} (m : z ∈ keys t) : val (shf t n) z = val t z + n := by
  have e := get_in (val_of m)
  exact val_at (by rw [keys_shf]; exact nd) (List.mem_map.mpr ⟨(z, val t z), e, rfl⟩)
theorem shf_nl {t s : Tb} (nt : (keys t).Nodup) (ns : (keys s).Nodup) (n k : Int) (h : n ≤ k) (hn : Nl t s) : Nl (shf t n) (shf s k) := fun z m => by
  rw [keys_shf] at m ⊢
  obtain ⟨a, b⟩ := hn z m
  rw [val_shf nt n a, val_shf ns k m]
  exact ⟨a, by omega⟩
theorem nl_shf {t s : Tb} (nt : (keys t).Nodup) (ns : (keys s).Nodup) (n : Int) : nl (shf t n) (shf s n) = nl t s := nl_congr ⟨fun h z m => by
    obtain ⟨a, b⟩ := h z (by rw [keys_shf]; exact m)
    rw [keys_shf] at a
    rw [val_shf nt n a, val_shf ns n m] at b
    exact ⟨a, by omega⟩, shf_nl nt ns n n (Int.le_refl _)⟩
theorem hit_iff {l : Tb} : ∀ {r : Tb}, hitP (l.map rowP) (r.map rowP) = true ↔ ∀ p ∈ r, get l p.1 = some p.2
  | [] => ⟨fun _ p m => (nomatch m), fun _ => rfl⟩
  | p :: r => by
    show (match valP (l.map rowP) (Sum.inr p.1) with
      | some q => eqF (.int p.2) q && hitP (l.map rowP) (r.map rowP)
      | none => false) = true ↔ _
    rw [val_dct]
    constructor
    · intro h q m
      cases e : get l p.1 with
      | none => rw [e] at h; cases h
      | some v =>
        rw [e] at h
        have h : (p.2 == v && hitP (l.map rowP) (r.map rowP)) = true := h
        rw [Bool.and_eq_true] at h
        rcases List.mem_cons.mp m with rfl | m
        · rw [e, eq_of_beq h.1]
        · exact hit_iff.mp h.2 q m
    · intro h
      rw [h p List.mem_cons_self]
      show (p.2 == p.2 && hitP (l.map rowP) (r.map rowP)) = true
      rw [beq_self_eq_true, Bool.true_and]
      exact hit_iff.mpr fun q m => h q (List.mem_cons_of_mem _ m)
theorem same_nl {a b : Tb} (na : (keys a).Nodup) (nb : (keys b).Nodup) : same a b = (nl a b && nl b a) := by
  have key : same a b = true ↔ (Nl a b ∧ Nl b a) := by
    unfold same eqK
    rw [Bool.and_eq_true, List.length_map, List.length_map, hit_iff]
    constructor
    · rintro ⟨hl, h⟩
      have hl : a.length = b.length := eq_of_beq hl
      have sub : ∀ z ∈ keys a, z ∈ keys b := fun z m => by
        obtain ⟨p, mp, rfl⟩ := List.mem_map.mp m
        exact get_mem.mp (by rw [h p mp]; rfl)
      have va : ∀ z ∈ keys a, val b z = val a z := fun z m => by
        have := h (z, val a z) (get_in (val_of m))
        unfold val at this ⊢
        rw [this]
        rfl
      have sub2 : ∀ z ∈ keys b, z ∈ keys a := by
        intro z m
        by_cases c : z ∈ keys a
        · exact c
        · have := nodup_le (l := z :: keys a) (m := keys b) (List.nodup_cons.mpr ⟨c, na⟩) fun x hx => by
            rcases List.mem_cons.mp hx with rfl | hx
            · exact m
            · exact sub x hx
          rw [List.length_cons, len_keys, len_keys] at this
          omega
      exact ⟨fun z m => ⟨sub2 z m, by rw [va z (sub2 z m)]; exact Int.le_refl _⟩, fun z m => ⟨sub z m, by rw [va z m]; exact Int.le_refl _⟩⟩
    · rintro ⟨h1, h2⟩
      have l1 : a.length ≤ b.length := by
        have := nodup_le na fun z m => (h2 z m).1
        rwa [len_keys, len_keys] at this
      have l2 : b.length ≤ a.length := by
        have := nodup_le nb fun z m => (h1 z m).1
        rwa [len_keys, len_keys] at this
      refine ⟨beq_iff_eq.mpr (by omega), fun p m => ?_⟩
      have mk : p.1 ∈ keys a := List.mem_map.mpr ⟨p, m, rfl⟩
      obtain ⟨c1, c2⟩ := h2 p.1 mk
      have c3 := (h1 p.1 c1).2
      rw [val_of c1]
      have := val_at na (show (p.1, p.2) ∈ a from m)
      congr 1
      omega
  cases e : same a b with
  | true =>
    obtain ⟨x, y⟩ := key.mp e
    rw [nl_iff.mpr x, nl_iff.mpr y]
    rfl
  | false =>
    cases q : nl a b && nl b a with
    | false => rfl
    | true =>
      rw [Bool.and_eq_true] at q
      rw [key.mpr ⟨nl_iff.mp q.1, nl_iff.mp q.2⟩] at e
      cases e
end Pu

set_option Elab.async false
set_option linter.all false
set_option maxRecDepth 100000
set_option maxHeartbeats 8000000
namespace Pu
open L2 PySem PySem.Spec PyProof.Rows E10
open He (ga ma)
/-- a table within the names -/
structure In8 (ns : List Str) (t : Tb) : Prop where
  s : Sub t ns
  ne : t ≠ []
structure Ns (ns : List Str) : Prop where
  nd : ns.Nodup
  nm : ∀ z ∈ ns, Nm z
  le : ns.length ≤ 8
  ne : ns ≠ []
theorem In8.ok {ns : List Str} {t : Tb} (h : In8 ns t) (n : Ns ns) : Ok t := ⟨h.ne, fun z m => n.nm z (h.s.sub z m), h.s.nd, Nat.le_trans h.s.len n.le⟩
theorem In8.ord {ns : List Str} {t : Tb} (h : In8 ns t) : In8 ns (ord t) := ⟨⟨by rw [keys_ord]; exact srt_nodup h.s.nd, fun z m => h.s.sub z (mem_ord.mp m)⟩, fun e => h.ne (List.eq_nil_of_length_eq_zero (by rw [← len_ord, e]; rfl))⟩
theorem In8.shf {ns : List Str} {t : Tb} (h : In8 ns t) (n : Int) : In8 ns (shf t n) := ⟨⟨by rw [keys_shf]; exact h.s.nd, by rw [keys_shf]; exact h.s.sub⟩, fun e => h.ne (List.map_eq_nil_iff.mp e)⟩
theorem In8.least {ns : List Str} {a b : Tb} (ha : In8 ns a) (hb : In8 ns b) : In8 ns (least a b) := ⟨⟨nd_least a b, fun z m => (mem_least.mp m).elim (ha.s.sub z) (hb.s.sub z)⟩, fun e => by
  obtain ⟨z, r, e3⟩ := List.exists_cons_of_ne_nil (keys_ne ha.ne)
  have := mem_least.mpr (.inl (by rw [e3]; exact List.mem_cons_self) : z ∈ keys a ∨ z ∈ keys b)
  rw [e] at this
  cases this⟩
theorem both8 {ns : List Str} {a b : Tb} (n : Ns ns) (ha : In8 ns a) (hb : In8 ns b) : (both a b).length ≤ 8 := Nat.le_trans (nodup_le (both_nd a b) fun z m => (both_mem.mp m).elim (ha.s.sub z) (hb.s.sub z)) n.le
section
variable {Pg : Program} {w : World} {K : PySem.W.Frag} {ns : List Str}
theorem repr_told (c : Bool) {μ : Μ} : fRepr [.v (.lst [.bl c, .bl c])] μ = .ok (.v (.str (PyData.list [.bool c, .bool c]).shown)) μ := rfl
theorem mapO_strs : ∀ zs : List Str, mapO (toD 5) (zs.map P.str) = some (zs.map PyData.str)
  | [] => rfl
  | z :: r => by
    show (some (PyData.str z)).bind (fun y => (mapO (toD 5) (r.map P.str)).map (y :: ·)) = _
    rw [mapO_strs r]
    rfl
theorem nm_ok {z : Str} (h : Nm z) : PyData.strOk z = true := by
  unfold PyData.strOk
  rw [← Array.all_toList]
  refine List.all_eq_true.mpr fun c m => decide_eq_true ?_
  have := (h.az c m).2
  omega
theorem strs_lay : ∀ l : List Str, (∀ z ∈ l, Nm z) → PyData.canLayAll0 (l.map PyData.str) = true ∧ PyData.depthAll (l.map PyData.str) = 0
  | [], _ => ⟨rfl, rfl⟩
  | z :: r, h => by
    obtain ⟨a, b⟩ := strs_lay r fun x m => h x (List.mem_cons_of_mem _ m)
    refine ⟨?_, ?_⟩
    · show PyData.canLayAll0 (PyData.str z :: r.map PyData.str) = true
      simp only [PyData.canLayAll0, PyData.canLay0, a, nm_ok (h z List.mem_cons_self), Bool.and_self]
    · show max _ _ = 0
      rw [b]
      rfl
theorem eq_strs {zs : List Str} {μ : Μ} (hz : ∀ z ∈ zs, Nm z) : gEq (.v (.lst (zs.map P.str))) (.v (.lst [])) μ = .ok (.v (.bl zs.isEmpty)) μ := by
  have sh : SeqAt.shaped (.list (zs.map PyData.str)) = true := by
    unfold SeqAt.shaped
    rw [Bool.and_eq_true]
    refine ⟨?_, decide_eq_true ?_⟩
    · show PyData.canLay0 (.list (zs.map PyData.str)) = true
      simp only [PyData.canLay0, (strs_lay zs hz).1]
    · show PyData.depthAll (zs.map PyData.str) + 1 ≤ 64
      rw [(strs_lay zs hz).2]
      decide
  show O.or .bad (O.or .bad (match (mapO (toD 5) (zs.map P.str)).map PyData.list, some (PyData.list []) with
    | some d, some e => if SeqAt.shaped d = true ∧ SeqAt.shaped e = true then O.ok (W.v (.bl (PyData.eqv d e != false))) μ else .bad
    | _, _ => .bad)) = _
  rw [O.or_bad, O.or_bad, mapO_strs]
  show (if SeqAt.shaped (.list (zs.map PyData.str)) = true ∧ SeqAt.shaped (.list []) = true then O.ok (W.v (.bl (PyData.eqv (.list (zs.map PyData.str)) (.list []) != false))) μ else .bad) = _
  rw [if_pos ⟨sh, by decide +kernel⟩]
  cases zs <;> rfl
/-- numbers for all names -/
theorem e_times {a b : Int} {r : Μ} (h : PotOk a b) (zs : List Str) (nd : zs.Nodup) {γ : Γ} (h8 : γ[8]? = some none) (h0 : γ[0]? = some (some (.loc 0))) : ∃ (x : Tb) (a' b' : Int), keys x = zs ∧ PotOk a' b' ∧
    lcGo (tgName 8) fYes (fSeq .tup (fCons (fVar 8) (fCons (fCall (D__law_number Pg w K) (fCons (fVar 0) fNil)) fNil))) γ (zs.map P.str) (pc a b :: r) = .ok (x.map fun p => P.tup [.str p.1, .int p.2]) (pc a' b' :: r) := by
  induction zs generalizing a b with
  | nil => exact ⟨[], a, b, rfl, h, rfl⟩
  | cons z zs ih =>
    obtain ⟨n, a1, b1, h1, e1⟩ := e_number (Pg := Pg) (w := w) (K := K) (r := r) h
    obtain ⟨x, a2, b2, kx, h2, e2⟩ := ih h1 (List.nodup_cons.mp nd).2
    refine ⟨(z, n) :: x, a2, b2, by show z :: keys x = _; rw [kx], h2, ?_⟩
    have g8 : (γ.set 8 (some (W.v (.str z))))[8]? = some (some (.v (.str z))) := List.getElem?_set_self (List.getElem?_eq_some_iff.mp h8).1
    have g0 : (γ.set 8 (some (W.v (.str z))))[0]? = some (some (.loc 0)) := by rw [List.getElem?_set_ne (by decide)]; exact h0
    have eE : fSeq .tup (fCons (fVar 8) (fCons (fCall (D__law_number Pg w K) (fCons (fVar 0) fNil)) fNil)) (γ.set 8 (some (W.v (.str z)))) (pc a b :: r) = .ok (.v (.tup [.str z, .int n])) (pc a1 b1 :: r) := by
      simp (config := { zeta := true }) only [fDef, sSeq, sIfS, sRet, sSet, sNext, sDrop, sFor, sPar, sPar3, sAsgP, sSubName, sDPutP, sLPutP, sFldP, sBad, fCall, fCons, fNil, fVar, fC, fOp, fUn, fTest, fNotT, fAndT, fOrT, fAndV, fOrV, fNotV, fIf, fChain, fSeq, fLstC, fLc, fDc, iAny_eq, iVals_eq, iItems_eq, iKeys_eq, iRg1, iRg2, vals, wipeG, O.bind_ok, O.s_ok, O.or_bad, O.or_ok, O.nx, leave, mkL, mkD, rdL, rdD, rdI, seqP, wD, wI, tgName, tgTup, tgCons, tgNil, fMeth_eq, fFld_eq, fFrz_eq, fMake_eq, fCallO, fYes, PC.p, le_ii, lt_ii, gt_ii, le_ss, add_ii, sub_ii, neg_i, eq_ii, ne_bb, eq_bb, eq_ss, ne_ss, List.map_cons, List.map_nil, List.length_cons, List.length_nil, List.replicate_succ, List.replicate_zero, List.cons_append, List.nil_append, List.getElem?_cons_zero, List.getElem?_cons_succ, List.getElem?_nil, List.set_cons_zero, List.set_cons_succ, Option.bind_some, Option.map_some, Nat.reduceAdd, Nat.reduceSub, Nat.reduceEqDiff, ↓reduceIte, Bool.not_true, Bool.not_false, Bool.false_eq_true, and_self, and_true, true_and, List.take_append_of_le_length, List.take_length, g8, g0, e1, show (2 : Nat) ≤ 100000 from by decide]
    rw [List.map_cons, lcGo]
    show ((O.ok true (pc a b :: r)).bind fun b m1 => if b = true then (fSeq .tup (fCons (fVar 8) (fCons (fCall (D__law_number Pg w K) (fCons (fVar 0) fNil)) fNil)) (γ.set 8 (some (W.v (.str z)))) m1).nx.bind (lcW (lcGo _ _ _ γ (zs.map P.str))) else _) = _
    rw [O.bind_ok, if_pos rfl, eE]
    simp only [O.nx, O.bind_ok, lcW, e2, List.map_cons]
end
end Pu

set_option Elab.async false
set_option linter.all false
set_option maxRecDepth 100000
set_option maxHeartbeats 8000000
namespace Pu
open L2 PySem PySem.Spec PyProof.Rows E10
open He (ga ma)
theorem low_ord {t x : Tb} (nd : (keys t).Nodup) (ne : t ≠ []) : low (ord t) x = low t x := by
  have a : low (ord t) x ≤ low t x := nl_low ne fun z m => ⟨mem_ord.mpr m, by rw [val_ord nd]; exact Int.le_refl _⟩
  have b : low t x ≤ low (ord t) x := nl_low (fun e => ne (List.eq_nil_of_length_eq_zero (by rw [← len_ord, e]; rfl))) fun z m => ⟨mem_ord.mp m, by rw [val_ord nd]; exact Int.le_refl _⟩
  omega
section
variable {Pg : Program} {w : World} {K : PySem.W.Frag} {ns : List Str}
abbrev γP (K : PySem.W.Frag) (t s : Tb) (ns : List Str) (x6 x7 x8 x9 x10 : Option W) : Γ := [some (.loc 0), some (.v (ear (cE K) (ord t))), some (.v (ear (cE K) (ord s))), some (.v (dctP t)), some (.v (dctP s)), some (.v (.lst (ns.map P.str))), x6, x7, x8, x9, x10]
theorem len_early (ns : List Str) (t s : Tb) (z : Str) : (early ns t s z).length = ns.length := by
  unfold early
  rw [List.length_map]
theorem call_in {t x : Tb} {μ : Μ} (n : Ns ns) (ht : In8 ns t) (kx : keys x = ns) : D_Earliest___call__ Pg w K [.v (ear (cE K) (ord t)), .v (dctP x)] μ = .ok (.v (.int (low t x))) μ := by
  have lx : x.length = ns.length := by rw [← len_keys, kx]
  have h8 := n.le
  have ho := ht.ord
  have lo := ho.s.len
  rw [e_call ho.ne (by omega) (fun e => n.ne (by rw [← kx, e]; rfl)) (by rw [kx]; exact n.nm) (by omega) (by rw [kx]; exact ho.s.sub), low_ord ht.s.nd ht.ne]
theorem e_pair1 {m : Μ} (n : Ns ns) {t s : Tb} (ht : In8 ns t) (hs : In8 ns s) {x6 x7 x8 x9 x10 : Option W} {z : Str} (hz : z ∈ tell t s) :
    sSeq (sSet 9 (fCall (D__law_early Pg w K) (fCons (fVar 5) (fCons (fVar 3) (fCons (fVar 4) (fCons (fVar 8) fNil))))))
        (sIfS (fTest (fOp gLe (fCallO (ga K "Earliest") (D_Earliest___call__ Pg w K) (fVar 1) (fCons (fVar 9) fNil)) (fCallO (ga K "Earliest") (D_Earliest___call__ Pg w K) (fVar 2) (fCons (fVar 9) fNil)))) (sRet (fC (.bl false))) sNext)
      (γP K t s ns x6 x7 (some (.v (.str z))) x9 x10) m = .nx (γP K t s ns x6 x7 (some (.v (.str z))) (some (.v (dctP (early ns t s z)))) x10) m := by
  have h8 := n.le
  have l1 := ht.s.len
  have l2 := hs.s.len
  have lt := early_low n.nd ht.ne hs.s.nd ht.s.sub hs.s.sub hz
  have nle : decide (low t (early ns t s z) ≤ low s (early ns t s z)) = false := decide_eq_false (by omega)
  simp (config := { zeta := true }) only [fDef, sSeq, sIfS, sRet, sSet, sNext, sDrop, sFor, sPar, sPar3, sAsgP, sSubName, sDPutP, sLPutP, sFldP, sBad, fCall, fCons, fNil, fVar, fC, fOp, fUn, fTest, fNotT, fAndT, fOrT, fAndV, fOrV, fNotV, fIf, fChain, fSeq, fLstC, fLc, fDc, iAny_eq, iVals_eq, iItems_eq, iKeys_eq, iRg1, iRg2, vals, wipeG, O.bind_ok, O.s_ok, O.or_bad, O.or_ok, O.nx, leave, mkL, mkD, rdL, rdD, rdI, seqP, wD, wI, tgName, tgTup, tgCons, tgNil, fMeth_eq, fFld_eq, fFrz_eq, fMake_eq, fCallO, fYes, PC.p, le_ii, lt_ii, gt_ii, le_ss, add_ii, sub_ii, neg_i, eq_ii, ne_bb, eq_bb, eq_ss, ne_ss, List.map_cons, List.map_nil, List.length_cons, List.length_nil, List.replicate_succ, List.replicate_zero, List.cons_append, List.nil_append, List.getElem?_cons_zero, List.getElem?_cons_succ, List.getElem?_nil, List.set_cons_zero, List.set_cons_succ, Option.bind_some, Option.map_some, Nat.reduceAdd, Nat.reduceSub, Nat.reduceEqDiff, ↓reduceIte, Bool.not_true, Bool.not_false, Bool.false_eq_true, and_self, and_true, true_and, List.take_append_of_le_length, List.take_length, e_early n.nd (show ns.length ≤ 64 by omega) (show t.length ≤ 64 by omega) (show s.length ≤ 64 by omega), isC_e, call_in n ht (keys_early ns t s z), call_in n hs (keys_early ns t s z), nle]
theorem e_pair2 {a b : Int} {r : Μ} (h : PotOk a b) (n : Ns ns) {t s : Tb} (ht : In8 ns t) (hs : In8 ns s) {x7 x9 x10 : Option W} {x8 : Option W} : ∃ a' b' y9, PotOk a' b' ∧
    sSeq (sSet 9 (fCall (gDict .val) (fCons (fLc (iAny (fVar 5)) (tgName 8) fYes (fSeq .tup (fCons (fVar 8) (fCons (fCall (D__law_number Pg w K) (fCons (fVar 0) fNil)) fNil))) [8]) fNil)))
        (sIfS (fAndT (fTest (fOp gEq (fVar 6) (fSeq .lst fNil))) (fTest (fOp gGt (fCallO (ga K "Earliest") (D_Earliest___call__ Pg w K) (fVar 1) (fCons (fVar 9) fNil)) (fCallO (ga K "Earliest") (D_Earliest___call__ Pg w K) (fVar 2) (fCons (fVar 9) fNil))))) (sRet (fC (.bl false))) sNext)
      (γP K t s ns (some (.v (.lst ((tell t s).map P.str)))) x7 x8 x9 x10) (pc a b :: r) = .nx (γP K t s ns (some (.v (.lst ((tell t s).map P.str)))) x7 x8 y9 x10) (pc a' b' :: r) := by
  have h8 := n.le
  have ln2 : (ns.map P.str).length ≤ 100000 := by rw [List.length_map]; omega
  obtain ⟨x, a1, b1, kx, h1, e1⟩ := e_times (Pg := Pg) (w := w) (K := K) (r := r) h ns n.nd (γ := γP K t s ns (some (.v (.lst ((tell t s).map P.str)))) x7 none x9 x10) rfl rfl
  have dp := dict_pairs (μ := pc a1 b1 :: r) (fun p : Str × Int => p.1) (fun p => p.2) (l := x) (by show (keys x).Nodup; rw [kx]; exact n.nd)
  have ex : (x.map fun p : Str × Int => (p.1, p.2)) = x := List.map_id' x
  rw [ex] at dp
  have tz : ∀ z ∈ tell t s, Nm z := fun z m => n.nm z (hs.s.sub z (tell_mem hs.s.nd m).1)
  refine ⟨a1, b1, some (.v (dctP x)), h1, ?_⟩
  have te := tell_nl (t := t) hs.s.nd
  have i5 : ∀ μ : Μ, itP (.v (.lst (ns.map P.str))) μ = .ok (ns.map P.str) μ := fun μ => it_l ln2
  cases c : nl t s with
  | false =>
    rw [c] at te
    simp (config := { zeta := true }) only [fDef, sSeq, sIfS, sRet, sSet, sNext, sDrop, sFor, sPar, sPar3, sAsgP, sSubName, sDPutP, sLPutP, sFldP, sBad, fCall, fCons, fNil, fVar, fC, fOp, fUn, fTest, fNotT, fAndT, fOrT, fAndV, fOrV, fNotV, fIf, fChain, fSeq, fLstC, fLc, fDc, iAny_eq, iVals_eq, iItems_eq, iKeys_eq, iRg1, iRg2, vals, wipeG, O.bind_ok, O.s_ok, O.or_bad, O.or_ok, O.nx, leave, mkL, mkD, rdL, rdD, rdI, seqP, wD, wI, tgName, tgTup, tgCons, tgNil, fMeth_eq, fFld_eq, fFrz_eq, fMake_eq, fCallO, fYes, PC.p, le_ii, lt_ii, gt_ii, le_ss, add_ii, sub_ii, neg_i, eq_ii, ne_bb, eq_bb, eq_ss, ne_ss, List.map_cons, List.map_nil, List.length_cons, List.length_nil, List.replicate_succ, List.replicate_zero, List.cons_append, List.nil_append, List.getElem?_cons_zero, List.getElem?_cons_succ, List.getElem?_nil, List.set_cons_zero, List.set_cons_succ, Option.bind_some, Option.map_some, Nat.reduceAdd, Nat.reduceSub, Nat.reduceEqDiff, ↓reduceIte, Bool.not_true, Bool.not_false, Bool.false_eq_true, and_self, and_true, true_and, List.take_append_of_le_length, List.take_length, i5, e1, dp, eq_strs tz, te, show (0 : Nat) ≤ 100000 from by decide]
  | true =>
    rw [c] at te
    have ll := nl_low (x := x) hs.ne (nl_iff.mp c)
    have ng : decide (low s x < low t x) = false := decide_eq_false (by omega)
    simp (config := { zeta := true }) only [fDef, sSeq, sIfS, sRet, sSet, sNext, sDrop, sFor, sPar, sPar3, sAsgP, sSubName, sDPutP, sLPutP, sFldP, sBad, fCall, fCons, fNil, fVar, fC, fOp, fUn, fTest, fNotT, fAndT, fOrT, fAndV, fOrV, fNotV, fIf, fChain, fSeq, fLstC, fLc, fDc, iAny_eq, iVals_eq, iItems_eq, iKeys_eq, iRg1, iRg2, vals, wipeG, O.bind_ok, O.s_ok, O.or_bad, O.or_ok, O.nx, leave, mkL, mkD, rdL, rdD, rdI, seqP, wD, wI, tgName, tgTup, tgCons, tgNil, fMeth_eq, fFld_eq, fFrz_eq, fMake_eq, fCallO, fYes, PC.p, le_ii, lt_ii, gt_ii, le_ss, add_ii, sub_ii, neg_i, eq_ii, ne_bb, eq_bb, eq_ss, ne_ss, List.map_cons, List.map_nil, List.length_cons, List.length_nil, List.replicate_succ, List.replicate_zero, List.cons_append, List.nil_append, List.getElem?_cons_zero, List.getElem?_cons_succ, List.getElem?_nil, List.set_cons_zero, List.set_cons_succ, Option.bind_some, Option.map_some, Nat.reduceAdd, Nat.reduceSub, Nat.reduceEqDiff, ↓reduceIte, Bool.not_true, Bool.not_false, Bool.false_eq_true, and_self, and_true, true_and, List.take_append_of_le_length, List.take_length, i5, e1, dp, eq_strs tz, te, isC_e, call_in n ht kx, call_in n hs kx, ng, show (0 : Nat) ≤ 100000 from by decide]
end
end Pu

set_option Elab.async false
set_option linter.all false
set_option maxRecDepth 100000
set_option maxHeartbeats 8000000
namespace Pu
open L2 PySem PySem.Spec PyProof.Rows E10
open He (ga ma)
section
variable {Pg : Program} {w : World} {K : PySem.W.Frag} {ns : List Str}
theorem mul2 {p : P} {μ : Μ} : gMul (.v (.lst [p])) (.v (.int 2)) μ = .ok (.v (.lst [p, p])) μ := rfl
theorem nl_in {t s : Tb} {μ : Μ} (n : Ns ns) (ht : In8 ns t) (hs : In8 ns s) : D_Earliest_is_never_later Pg w K [.v (ear (cE K) (ord t)), .v (ear (cE K) (ord s))] μ = .ok (.v (.bl (nl t s))) μ := by
  have := hs.ord.s.len
  have h8 := n.le
  rw [e_nl (by omega), nl_ord ht.s.nd hs.s.nd]
theorem e_pair {a b : Int} {r : Μ} (h : PotOk a b) (n : Ns ns) {t s : Tb} (ht : In8 ns t) (hs : In8 ns s) : ∃ a' b', PotOk a' b' ∧
    D__law_pair_right Pg w K [.loc 0, .v (ear (cE K) (ord t)), .v (ear (cE K) (ord s)), .v (dctP t), .v (dctP s), .v (.lst (ns.map P.str))] (pc a b :: r) = .ok (.v (.bl true)) (pc a' b' :: r) := by
  have h8 := n.le
  have l2 := hs.s.len
  have lte : ((tell t s).map P.str).length ≤ 100000 := by
    rw [List.length_map]
    unfold tell
    rw [List.length_map]
    have := List.length_filter_le (tellB t) s
    omega
  have tz : ∀ z ∈ tell t s, Nm z := fun z m => n.nm z (hs.s.sub z (tell_mem hs.s.nd m).1)
  obtain ⟨γ1, m1, e1, ⟨x8, x9, rfl⟩, rfl⟩ := for_run (f := tgName 8) (B := sSeq (sSet 9 (fCall (D__law_early Pg w K) (fCons (fVar 5) (fCons (fVar 3) (fCons (fVar 4) (fCons (fVar 8) fNil))))))
        (sIfS (fTest (fOp gLe (fCallO (ga K "Earliest") (D_Earliest___call__ Pg w K) (fVar 1) (fCons (fVar 9) fNil)) (fCallO (ga K "Earliest") (D_Earliest___call__ Pg w K) (fVar 2) (fCons (fVar 9) fNil)))) (sRet (fC (.bl false))) sNext))
    (fun _ γ m => (∃ x8 x9, γ = γP K t s ns (some (.v (.lst ((tell t s).map P.str)))) (some (.v (.lst [.bl (nl t s), .bl (nl t s)]))) x8 x9 none) ∧ m = pc a b :: r)
    (ps := (tell t s).map P.str) (i := 0) (γ := γP K t s ns (some (.v (.lst ((tell t s).map P.str)))) (some (.v (.lst [.bl (nl t s), .bl (nl t s)]))) none none none) (μ := pc a b :: r) ⟨⟨_, _, rfl⟩, rfl⟩ fun j p γ m hp ⟨⟨x8, x9, eg⟩, em⟩ => by
      subst eg
      subst em
      obtain ⟨z, mz, rfl⟩ := List.mem_map.mp (List.mem_of_getElem? hp)
      exact ⟨_, rfl, _, _, .inl (e_pair1 (x8 := x8) n ht hs mz), ⟨_, _, rfl⟩, rfl⟩
  obtain ⟨γ2, m2, e2, a2, b2, h2, ⟨y8, y9, y10, rfl⟩, rfl⟩ := for_run (f := tgName 10) (B := sSeq (sSet 9 (fCall (gDict .val) (fCons (fLc (iAny (fVar 5)) (tgName 8) fYes (fSeq .tup (fCons (fVar 8) (fCons (fCall (D__law_number Pg w K) (fCons (fVar 0) fNil)) fNil))) [8]) fNil)))
        (sIfS (fAndT (fTest (fOp gEq (fVar 6) (fSeq .lst fNil))) (fTest (fOp gGt (fCallO (ga K "Earliest") (D_Earliest___call__ Pg w K) (fVar 1) (fCons (fVar 9) fNil)) (fCallO (ga K "Earliest") (D_Earliest___call__ Pg w K) (fVar 2) (fCons (fVar 9) fNil))))) (sRet (fC (.bl false))) sNext))
    (fun _ γ m => ∃ a b, PotOk a b ∧ (∃ x8 x9 x10, γ = γP K t s ns (some (.v (.lst ((tell t s).map P.str)))) (some (.v (.lst [.bl (nl t s), .bl (nl t s)]))) x8 x9 x10) ∧ m = pc a b :: r)
    (ps := rngP 0 4) (i := 0) (γ := γP K t s ns (some (.v (.lst ((tell t s).map P.str)))) (some (.v (.lst [.bl (nl t s), .bl (nl t s)]))) x8 x9 none) (μ := pc a b :: r) ⟨a, b, h, ⟨_, _, _, rfl⟩, rfl⟩ fun j p γ m hp ⟨a, b, h, ⟨x8, x9, x10, eg⟩, em⟩ => by
      subst eg
      subst em
      obtain ⟨a', b', y9, h', e⟩ := e_pair2 (Pg := Pg) (w := w) (K := K) (r := r) h n ht hs (x7 := some (.v (.lst [.bl (nl t s), .bl (nl t s)]))) (x8 := x8) (x9 := x9) (x10 := some (.v p))
      exact ⟨_, rfl, _, _, .inl e, a', b', h', ⟨_, _, _, rfl⟩, rfl⟩
  refine ⟨a2, b2, h2, ?_⟩
  have tk : List.take (r.length + 1) (pc a2 b2 :: r) = pc a2 b2 :: r := List.take_of_length_le (Nat.le_refl _)
  have me : ∀ γ : Γ, γ[1]? = some (some (.v (ear (cE K) (ord t)))) → γ[2]? = some (some (.v (ear (cE K) (ord s)))) → fMeth (ga K "Earliest") "is_never_later" (D_Earliest_is_never_later Pg w K) (fVar 1) (fCons (fVar 2) fNil) γ (pc a b :: r) = .ok (.v (.bl (nl t s))) (pc a b :: r) := fun γ g1 g2 => by
    simp (config := { zeta := true }) only [fDef, sSeq, sIfS, sRet, sSet, sNext, sDrop, sFor, sPar, sPar3, sAsgP, sSubName, sDPutP, sLPutP, sFldP, sBad, fCall, fCons, fNil, fVar, fC, fOp, fUn, fTest, fNotT, fAndT, fOrT, fAndV, fOrV, fNotV, fIf, fChain, fSeq, fLstC, fLc, fDc, iAny_eq, iVals_eq, iItems_eq, iKeys_eq, iRg1, iRg2, vals, wipeG, O.bind_ok, O.s_ok, O.or_bad, O.or_ok, O.nx, leave, mkL, mkD, rdL, rdD, rdI, seqP, wD, wI, tgName, tgTup, tgCons, tgNil, fMeth_eq, fFld_eq, fFrz_eq, fMake_eq, fCallO, fYes, PC.p, le_ii, lt_ii, gt_ii, le_ss, add_ii, sub_ii, neg_i, eq_ii, ne_bb, eq_bb, eq_ss, ne_ss, List.map_cons, List.map_nil, List.length_cons, List.length_nil, List.replicate_succ, List.replicate_zero, List.cons_append, List.nil_append, List.getElem?_cons_zero, List.getElem?_cons_succ, List.getElem?_nil, List.set_cons_zero, List.set_cons_succ, Option.bind_some, Option.map_some, Nat.reduceAdd, Nat.reduceSub, Nat.reduceEqDiff, ↓reduceIte, Bool.not_true, Bool.not_false, Bool.false_eq_true, and_self, and_true, true_and, List.take_append_of_le_length, List.take_length, g1, g2, meth_e (C := ga K "Earliest") (t := ord t) (m := "is_never_later") (by decide), nl_in n ht hs]
  unfold D__law_pair_right
  have st6 : sSet 6 (fCall (D__law_telling Pg w K) (fCons (fVar 3) (fCons (fVar 4) fNil))) (γP K t s ns none none none none none) (pc a b :: r) = .nx (γP K t s ns (some (.v (.lst ((tell t s).map P.str)))) none none none none) (pc a b :: r) := by
    simp (config := { zeta := true }) only [fDef, sSeq, sIfS, sRet, sSet, sNext, sDrop, sFor, sPar, sPar3, sAsgP, sSubName, sDPutP, sLPutP, sFldP, sBad, fCall, fCons, fNil, fVar, fC, fOp, fUn, fTest, fNotT, fAndT, fOrT, fAndV, fOrV, fNotV, fIf, fChain, fSeq, fLstC, fLc, fDc, iAny_eq, iVals_eq, iItems_eq, iKeys_eq, iRg1, iRg2, vals, wipeG, O.bind_ok, O.s_ok, O.or_bad, O.or_ok, O.nx, leave, mkL, mkD, rdL, rdD, rdI, seqP, wD, wI, tgName, tgTup, tgCons, tgNil, fMeth_eq, fFld_eq, fFrz_eq, fMake_eq, fCallO, fYes, PC.p, le_ii, lt_ii, gt_ii, le_ss, add_ii, sub_ii, neg_i, eq_ii, ne_bb, eq_bb, eq_ss, ne_ss, List.map_cons, List.map_nil, List.length_cons, List.length_nil, List.replicate_succ, List.replicate_zero, List.cons_append, List.nil_append, List.getElem?_cons_zero, List.getElem?_cons_succ, List.getElem?_nil, List.set_cons_zero, List.set_cons_succ, Option.bind_some, Option.map_some, Nat.reduceAdd, Nat.reduceSub, Nat.reduceEqDiff, ↓reduceIte, Bool.not_true, Bool.not_false, Bool.false_eq_true, and_self, and_true, true_and, List.take_append_of_le_length, List.take_length, e_tell (show s.length ≤ 64 by omega)]
  have st7 : sSet 7 (fSeq .lst (fCons (fMeth (ga K "Earliest") "is_never_later" (D_Earliest_is_never_later Pg w K) (fVar 1) (fCons (fVar 2) fNil)) (fCons (fMeth (ga K "Earliest") "is_never_later" (D_Earliest_is_never_later Pg w K) (fVar 1) (fCons (fVar 2) fNil)) fNil))) (γP K t s ns (some (.v (.lst ((tell t s).map P.str)))) none none none none) (pc a b :: r) = .nx (γP K t s ns (some (.v (.lst ((tell t s).map P.str)))) (some (.v (.lst [.bl (nl t s), .bl (nl t s)]))) none none none) (pc a b :: r) := by
    simp (config := { zeta := true }) only [fDef, sSeq, sIfS, sRet, sSet, sNext, sDrop, sFor, sPar, sPar3, sAsgP, sSubName, sDPutP, sLPutP, sFldP, sBad, fCall, fCons, fNil, fVar, fC, fOp, fUn, fTest, fNotT, fAndT, fOrT, fAndV, fOrV, fNotV, fIf, fChain, fSeq, fLstC, fLc, fDc, iAny_eq, iVals_eq, iItems_eq, iKeys_eq, iRg1, iRg2, vals, wipeG, O.bind_ok, O.s_ok, O.or_bad, O.or_ok, O.nx, leave, mkL, mkD, rdL, rdD, rdI, seqP, wD, wI, tgName, tgTup, tgCons, tgNil, fMeth_eq, fFld_eq, fFrz_eq, fMake_eq, fCallO, fYes, PC.p, le_ii, lt_ii, gt_ii, le_ss, add_ii, sub_ii, neg_i, eq_ii, ne_bb, eq_bb, eq_ss, ne_ss, List.map_cons, List.map_nil, List.length_cons, List.length_nil, List.replicate_succ, List.replicate_zero, List.cons_append, List.nil_append, List.getElem?_cons_zero, List.getElem?_cons_succ, List.getElem?_nil, List.set_cons_zero, List.set_cons_succ, Option.bind_some, Option.map_some, Nat.reduceAdd, Nat.reduceSub, Nat.reduceEqDiff, ↓reduceIte, Bool.not_true, Bool.not_false, Bool.false_eq_true, and_self, and_true, true_and, List.take_append_of_le_length, List.take_length, meth_e (C := ga K "Earliest") (t := ord t) (m := "is_never_later") (by decide), nl_in n ht hs, show (2 : Nat) ≤ 100000 from by decide]
  have te := tell_nl (t := t) hs.s.nd
  have st8 : sIfS (fTest (fOp gNe (fCall fRepr (fCons (fVar 7) fNil)) (fCall fRepr (fCons (fOp gMul (fSeq .lst (fCons (fOp gEq (fVar 6) (fSeq .lst fNil)) fNil)) (fC (.int 2))) fNil)))) (sRet (fC (.bl false))) sNext (γP K t s ns (some (.v (.lst ((tell t s).map P.str)))) (some (.v (.lst [.bl (nl t s), .bl (nl t s)]))) none none none) (pc a b :: r) = .nx (γP K t s ns (some (.v (.lst ((tell t s).map P.str)))) (some (.v (.lst [.bl (nl t s), .bl (nl t s)]))) none none none) (pc a b :: r) := by
    simp (config := { zeta := true }) only [fDef, sSeq, sIfS, sRet, sSet, sNext, sDrop, sFor, sPar, sPar3, sAsgP, sSubName, sDPutP, sLPutP, sFldP, sBad, fCall, fCons, fNil, fVar, fC, fOp, fUn, fTest, fNotT, fAndT, fOrT, fAndV, fOrV, fNotV, fIf, fChain, fSeq, fLstC, fLc, fDc, iAny_eq, iVals_eq, iItems_eq, iKeys_eq, iRg1, iRg2, vals, wipeG, O.bind_ok, O.s_ok, O.or_bad, O.or_ok, O.nx, leave, mkL, mkD, rdL, rdD, rdI, seqP, wD, wI, tgName, tgTup, tgCons, tgNil, fMeth_eq, fFld_eq, fFrz_eq, fMake_eq, fCallO, fYes, PC.p, le_ii, lt_ii, gt_ii, le_ss, add_ii, sub_ii, neg_i, eq_ii, ne_bb, eq_bb, eq_ss, ne_ss, List.map_cons, List.map_nil, List.length_cons, List.length_nil, List.replicate_succ, List.replicate_zero, List.cons_append, List.nil_append, List.getElem?_cons_zero, List.getElem?_cons_succ, List.getElem?_nil, List.set_cons_zero, List.set_cons_succ, Option.bind_some, Option.map_some, Nat.reduceAdd, Nat.reduceSub, Nat.reduceEqDiff, ↓reduceIte, Bool.not_true, Bool.not_false, Bool.false_eq_true, and_self, and_true, true_and, List.take_append_of_le_length, List.take_length, eq_strs tz, te, mul2, repr_told, show (0 : Nat) ≤ 100000 from by decide, show (1 : Nat) ≤ 100000 from by decide, beq_self_eq_true]
  have i6 : itP (.v (.lst ((tell t s).map P.str))) (pc a b :: r) = .ok ((tell t s).map P.str) (pc a b :: r) := it_l lte
  have st9 : sFor (iAny (fVar 6)) (tgName 8) (sSeq (sSet 9 (fCall (D__law_early Pg w K) (fCons (fVar 5) (fCons (fVar 3) (fCons (fVar 4) (fCons (fVar 8) fNil))))))
        (sIfS (fTest (fOp gLe (fCallO (ga K "Earliest") (D_Earliest___call__ Pg w K) (fVar 1) (fCons (fVar 9) fNil)) (fCallO (ga K "Earliest") (D_Earliest___call__ Pg w K) (fVar 2) (fCons (fVar 9) fNil)))) (sRet (fC (.bl false))) sNext)) (γP K t s ns (some (.v (.lst ((tell t s).map P.str)))) (some (.v (.lst [.bl (nl t s), .bl (nl t s)]))) none none none) (pc a b :: r) = .nx (γP K t s ns (some (.v (.lst ((tell t s).map P.str)))) (some (.v (.lst [.bl (nl t s), .bl (nl t s)]))) x8 x9 none) (pc a b :: r) := by
    simp only [sFor, iAny_eq, fVar, List.getElem?_cons_succ, List.getElem?_cons_zero, O.bind_ok, i6, O.s_ok]
    exact e1
  have st10 : sFor (iRg1 (fCons (fC (.int 4)) fNil)) (tgName 10) (sSeq (sSet 9 (fCall (gDict .val) (fCons (fLc (iAny (fVar 5)) (tgName 8) fYes (fSeq .tup (fCons (fVar 8) (fCons (fCall (D__law_number Pg w K) (fCons (fVar 0) fNil)) fNil))) [8]) fNil)))
        (sIfS (fAndT (fTest (fOp gEq (fVar 6) (fSeq .lst fNil))) (fTest (fOp gGt (fCallO (ga K "Earliest") (D_Earliest___call__ Pg w K) (fVar 1) (fCons (fVar 9) fNil)) (fCallO (ga K "Earliest") (D_Earliest___call__ Pg w K) (fVar 2) (fCons (fVar 9) fNil))))) (sRet (fC (.bl false))) sNext)) (γP K t s ns (some (.v (.lst ((tell t s).map P.str)))) (some (.v (.lst [.bl (nl t s), .bl (nl t s)]))) x8 x9 none) (pc a b :: r) = .nx (γP K t s ns (some (.v (.lst ((tell t s).map P.str)))) (some (.v (.lst [.bl (nl t s), .bl (nl t s)]))) y8 y9 y10) (pc a2 b2 :: r) := by
    have rg : iRg1 (fCons (fC (.int 4)) fNil) (γP K t s ns (some (.v (.lst ((tell t s).map P.str)))) (some (.v (.lst [.bl (nl t s), .bl (nl t s)]))) x8 x9 none) (pc a b :: r) = .ok (rngP 0 4) (pc a b :: r) := rfl
    unfold sFor
    rw [rg]
    exact e2
  unfold fDef
  rw [if_pos (by rfl)]
  show leave _ (sSeq _ _ (γP K t s ns none none none none none) _) = _
  simp only [sSeq, st6, st7, st8, st9, st10]
  simp (config := { zeta := true }) only [fDef, sSeq, sIfS, sRet, sSet, sNext, sDrop, sFor, sPar, sPar3, sAsgP, sSubName, sDPutP, sLPutP, sFldP, sBad, fCall, fCons, fNil, fVar, fC, fOp, fUn, fTest, fNotT, fAndT, fOrT, fAndV, fOrV, fNotV, fIf, fChain, fSeq, fLstC, fLc, fDc, iAny_eq, iVals_eq, iItems_eq, iKeys_eq, iRg1, iRg2, vals, wipeG, O.bind_ok, O.s_ok, O.or_bad, O.or_ok, O.nx, leave, mkL, mkD, rdL, rdD, rdI, seqP, wD, wI, tgName, tgTup, tgCons, tgNil, fMeth_eq, fFld_eq, fFrz_eq, fMake_eq, fCallO, fYes, PC.p, le_ii, lt_ii, gt_ii, le_ss, add_ii, sub_ii, neg_i, eq_ii, ne_bb, eq_bb, eq_ss, ne_ss, List.map_cons, List.map_nil, List.length_cons, List.length_nil, List.replicate_succ, List.replicate_zero, List.cons_append, List.nil_append, List.getElem?_cons_zero, List.getElem?_cons_succ, List.getElem?_nil, List.set_cons_zero, List.set_cons_succ, Option.bind_some, Option.map_some, Nat.reduceAdd, Nat.reduceSub, Nat.reduceEqDiff, ↓reduceIte, Bool.not_true, Bool.not_false, Bool.false_eq_true, and_self, and_true, true_and, List.take_append_of_le_length, List.take_length, tk]
end
end Pu

set_option Elab.async false
set_option linter.all false
set_option maxRecDepth 100000
set_option maxHeartbeats 8000000
namespace Pu
open L2 PySem PySem.Spec PyProof.Rows E10
open He (ga ma)
theorem ord_l {t : Tb} (nd : (keys t).Nodup) : Nl (ord t) t := fun z m => ⟨mem_ord.mpr m, by rw [val_ord nd]; exact Int.le_refl _⟩
theorem ord_r {t : Tb} (nd : (keys t).Nodup) : Nl t (ord t) := fun z m => ⟨mem_ord.mp m, by rw [val_ord nd]; exact Int.le_refl _⟩
section
variable {Pg : Program} {w : World} {K : PySem.W.Frag} {ns : List Str} {μ : Μ}
theorem or_in {t s : Tb} (n : Ns ns) (ht : In8 ns t) (hs : In8 ns s) : D_Earliest___or__ Pg w K [.v (ear (cE K) (ord t)), .v (ear (cE K) (ord s))] μ = .ok (.v (ear (cE K) (ord (least (ord t) (ord s))))) μ := e_or (ht.ord.ok n) (hs.ord.ok n) (both8 n ht.ord hs.ord)
theorem e_near (n : Ns ns) {t s : Tb} (ht : In8 ns t) (hs : In8 ns s) : D__law_near_right Pg w K [.v (ear (cE K) (ord t)), .v (ear (cE K) (ord s))] μ = .ok (.v (.bl true)) μ := by
  have hb := In8.least ht.ord hs.ord
  have hm := ht.ord.shf (-1)
  have hp := ht.ord.shf 1
  have hN := ht.ord.shf ((10 : Int) ^ Int.toNat 45)
  have hM := hs.ord.shf ((10 : Int) ^ Int.toNat 45)
  have nt := ht.ord.s.nd
  have nst := hs.ord.s.nd
  have v1 : nl (least (ord t) (ord s)) t = true := nl_iff.mpr ((least_l _ _).trans (ord_l ht.s.nd))
  have v2 : nl (least (ord t) (ord s)) s = true := nl_iff.mpr ((least_r _ _).trans (ord_l hs.s.nd))
  have v3 : nl t t = true := nl_iff.mpr (Nl.refl t)
  have v4 : nl (shf (ord t) (-1)) t = true := nl_iff.mpr fun z m => by
    have c := mem_ord.mpr m
    rw [keys_shf]
    rw [val_shf nt _ c, val_ord ht.s.nd]
    exact ⟨c, by omega⟩
  have v5 : nl t (shf (ord t) (-1)) = false := by
    cases e : nl t (shf (ord t) (-1)) with
    | false => rfl
    | true =>
      obtain ⟨z, rr, e3⟩ := List.exists_cons_of_ne_nil (keys_ne ht.ne)
      have m : z ∈ keys t := by rw [e3]; exact List.mem_cons_self
      have c := mem_ord.mpr m
      have := (nl_iff.mp e z (by rw [keys_shf]; exact c)).2
      rw [val_shf nt _ c, val_ord ht.s.nd] at this
      omega
  have v6 : nl t (shf (ord t) 1) = true := nl_iff.mpr fun z m => by
    rw [keys_shf] at m
    rw [val_shf nt _ m, val_ord ht.s.nd]
    exact ⟨mem_ord.mp m, by omega⟩
  have v7 : nl (shf (ord t) ((10 : Int) ^ Int.toNat 45)) (shf (ord s) ((10 : Int) ^ Int.toNat 45)) = nl t s := by rw [nl_shf nt nst, nl_ord ht.s.nd hs.s.nd]
  have v8 : same (ord t) (ord s) = (nl t s && nl s t) := by rw [same_nl nt nst, nl_ord ht.s.nd hs.s.nd, nl_ord hs.s.nd ht.s.nd]
  have mt : ∀ {t : Tb} {A : AF} {γ : Γ} {μ : Μ}, methP (ga K "Earliest") "is_never_later" (D_Earliest_is_never_later Pg w K) A γ (.v (ear (ga K "Earliest") t)) μ = (A γ μ).bind fun ws m2 => D_Earliest_is_never_later Pg w K (.v (ear (ga K "Earliest") t) :: ws) m2 := meth_e (by decide)
  have ot := ht.ord.ok n
  have os := hs.ord.ok n
  unfold D__law_near_right
  cases c1 : nl t s with
  | false =>
    rw [c1] at v7 v8
    simp (config := { zeta := true }) only [fDef, sSeq, sIfS, sRet, sSet, sNext, sDrop, sFor, sPar, sPar3, sAsgP, sSubName, sDPutP, sLPutP, sFldP, sBad, fCall, fCons, fNil, fVar, fC, fOp, fUn, fTest, fNotT, fAndT, fOrT, fAndV, fOrV, fNotV, fIf, fChain, fSeq, fLstC, fLc, fDc, iAny_eq, iVals_eq, iItems_eq, iKeys_eq, iRg1, iRg2, vals, wipeG, O.bind_ok, O.s_ok, O.or_bad, O.or_ok, O.nx, leave, mkL, mkD, rdL, rdD, rdI, seqP, wD, wI, tgName, tgTup, tgCons, tgNil, fMeth_eq, fFld_eq, fFrz_eq, fMake_eq, fCallO, fYes, PC.p, le_ii, lt_ii, gt_ii, le_ss, add_ii, sub_ii, neg_i, eq_ii, ne_bb, eq_bb, eq_ss, ne_ss, List.map_cons, List.map_nil, List.length_cons, List.length_nil, List.replicate_succ, List.replicate_zero, List.cons_append, List.nil_append, List.getElem?_cons_zero, List.getElem?_cons_succ, List.getElem?_nil, List.set_cons_zero, List.set_cons_succ, Option.bind_some, Option.map_some, Nat.reduceAdd, Nat.reduceSub, Nat.reduceEqDiff, ↓reduceIte, Bool.not_true, Bool.not_false, Bool.false_eq_true, and_self, and_true, true_and, List.take_append_of_le_length, List.take_length, own2_e, or_in n ht hs, frz_v, mt, nl_in n hb ht, nl_in n hb hs, nl_in n ht ht, v1, v2, v3, ownI_e, e_sub ot, nl_in n hm ht, nl_in n ht hm, nl_in n ht hp, iown_e, e_radd ot, e_radd os, e_add ot, v4, v5, v6, eqO_e (cs := [ga K "Earliest"]) (C := ga K "Earliest") (by simp), e_eq, v8, nl_in n ht hs, nl_in n hs ht, c1, Bool.false_and, bne_self_eq_false, pow_ii (i := 10) (j := 45) (by decide), nl_in n hN hM, v7, beq_self_eq_true]
  | true =>
    rw [c1] at v7 v8
    rw [Bool.true_and] at v8
    simp (config := { zeta := true }) only [fDef, sSeq, sIfS, sRet, sSet, sNext, sDrop, sFor, sPar, sPar3, sAsgP, sSubName, sDPutP, sLPutP, sFldP, sBad, fCall, fCons, fNil, fVar, fC, fOp, fUn, fTest, fNotT, fAndT, fOrT, fAndV, fOrV, fNotV, fIf, fChain, fSeq, fLstC, fLc, fDc, iAny_eq, iVals_eq, iItems_eq, iKeys_eq, iRg1, iRg2, vals, wipeG, O.bind_ok, O.s_ok, O.or_bad, O.or_ok, O.nx, leave, mkL, mkD, rdL, rdD, rdI, seqP, wD, wI, tgName, tgTup, tgCons, tgNil, fMeth_eq, fFld_eq, fFrz_eq, fMake_eq, fCallO, fYes, PC.p, le_ii, lt_ii, gt_ii, le_ss, add_ii, sub_ii, neg_i, eq_ii, ne_bb, eq_bb, eq_ss, ne_ss, List.map_cons, List.map_nil, List.length_cons, List.length_nil, List.replicate_succ, List.replicate_zero, List.cons_append, List.nil_append, List.getElem?_cons_zero, List.getElem?_cons_succ, List.getElem?_nil, List.set_cons_zero, List.set_cons_succ, Option.bind_some, Option.map_some, Nat.reduceAdd, Nat.reduceSub, Nat.reduceEqDiff, ↓reduceIte, Bool.not_true, Bool.not_false, Bool.false_eq_true, and_self, and_true, true_and, List.take_append_of_le_length, List.take_length, own2_e, or_in n ht hs, frz_v, mt, nl_in n hb ht, nl_in n hb hs, nl_in n ht ht, v1, v2, v3, ownI_e, e_sub ot, nl_in n hm ht, nl_in n ht hm, nl_in n ht hp, iown_e, e_radd ot, e_radd os, e_add ot, v4, v5, v6, eqO_e (cs := [ga K "Earliest"]) (C := ga K "Earliest") (by simp), e_eq, v8, nl_in n ht hs, nl_in n hs ht, c1, bne_self_eq_false, pow_ii (i := 10) (j := 45) (by decide), nl_in n hN hM, v7, beq_self_eq_true]
end
end Pu

set_option Elab.async false
set_option linter.all false
set_option maxRecDepth 100000
set_option maxHeartbeats 8000000
namespace Pu
open L2 PySem PySem.Spec PyProof.Rows E10
open He (ga ma)
section
variable {Pg : Program} {w : World} {K : PySem.W.Frag} {ns : List Str} {μ : Μ}
theorem e_three (n : Ns ns) {ts : List Tb} (h : ∀ t ∈ ts, In8 ns t) (lt : ts.length ≤ 100) : D__law_three_right Pg w K [.v (.lst (ts.map fun t => ear (cE K) (ord t)))] μ = .ok (.v (.bl true)) μ := by
  have mt : ∀ {t : Tb} {A : AF} {γ : Γ} {μ : Μ}, methP (ga K "Earliest") "is_never_later" (D_Earliest_is_never_later Pg w K) A γ (.v (ear (ga K "Earliest") t)) μ = (A γ μ).bind fun ws m2 => D_Earliest_is_never_later Pg w K (.v (ear (ga K "Earliest") t) :: ws) m2 := meth_e (by decide)
  have body : ∀ {L : W} {a b c : Tb}, In8 ns a → In8 ns b → In8 ns c → sIfS (fAndT (fTest (fMeth (ga K "Earliest") "is_never_later" (D_Earliest_is_never_later Pg w K) (fVar 1) (fCons (fVar 2) fNil))) (fAndT (fTest (fMeth (ga K "Earliest") "is_never_later" (D_Earliest_is_never_later Pg w K) (fVar 2) (fCons (fVar 3) fNil))) (fNotT (fTest (fMeth (ga K "Earliest") "is_never_later" (D_Earliest_is_never_later Pg w K) (fVar 1) (fCons (fVar 3) fNil)))))) (sRet (fC (.bl false))) sNext
      [some L, some (.v (ear (cE K) (ord a))), some (.v (ear (cE K) (ord b))), some (.v (ear (cE K) (ord c)))] μ = .nx [some L, some (.v (ear (cE K) (ord a))), some (.v (ear (cE K) (ord b))), some (.v (ear (cE K) (ord c)))] μ := fun {L a b c} ha hb hc => by
    cases c1 : nl a b with
    | false => simp (config := { zeta := true }) only [fDef, sSeq, sIfS, sRet, sSet, sNext, sDrop, sFor, sPar, sPar3, sAsgP, sSubName, sDPutP, sLPutP, sFldP, sBad, fCall, fCons, fNil, fVar, fC, fOp, fUn, fTest, fNotT, fAndT, fOrT, fAndV, fOrV, fNotV, fIf, fChain, fSeq, fLstC, fLc, fDc, iAny_eq, iVals_eq, iItems_eq, iKeys_eq, iRg1, iRg2, vals, wipeG, O.bind_ok, O.s_ok, O.or_bad, O.or_ok, O.nx, leave, mkL, mkD, rdL, rdD, rdI, seqP, wD, wI, tgName, tgTup, tgCons, tgNil, fMeth_eq, fFld_eq, fFrz_eq, fMake_eq, fCallO, fYes, PC.p, le_ii, lt_ii, gt_ii, le_ss, add_ii, sub_ii, neg_i, eq_ii, ne_bb, eq_bb, eq_ss, ne_ss, List.map_cons, List.map_nil, List.length_cons, List.length_nil, List.replicate_succ, List.replicate_zero, List.cons_append, List.nil_append, List.getElem?_cons_zero, List.getElem?_cons_succ, List.getElem?_nil, List.set_cons_zero, List.set_cons_succ, Option.bind_some, Option.map_some, Nat.reduceAdd, Nat.reduceSub, Nat.reduceEqDiff, ↓reduceIte, Bool.not_true, Bool.not_false, Bool.false_eq_true, and_self, and_true, true_and, List.take_append_of_le_length, List.take_length, mt, nl_in n ha hb, c1]
    | true =>
      cases c2 : nl b c with
      | false => simp (config := { zeta := true }) only [fDef, sSeq, sIfS, sRet, sSet, sNext, sDrop, sFor, sPar, sPar3, sAsgP, sSubName, sDPutP, sLPutP, sFldP, sBad, fCall, fCons, fNil, fVar, fC, fOp, fUn, fTest, fNotT, fAndT, fOrT, fAndV, fOrV, fNotV, fIf, fChain, fSeq, fLstC, fLc, fDc, iAny_eq, iVals_eq, iItems_eq, iKeys_eq, iRg1, iRg2, vals, wipeG, O.bind_ok, O.s_ok, O.or_bad, O.or_ok, O.nx, leave, mkL, mkD, rdL, rdD, rdI, seqP, wD, wI, tgName, tgTup, tgCons, tgNil, fMeth_eq, fFld_eq, fFrz_eq, fMake_eq, fCallO, fYes, PC.p, le_ii, lt_ii, gt_ii, le_ss, add_ii, sub_ii, neg_i, eq_ii, ne_bb, eq_bb, eq_ss, ne_ss, List.map_cons, List.map_nil, List.length_cons, List.length_nil, List.replicate_succ, List.replicate_zero, List.cons_append, List.nil_append, List.getElem?_cons_zero, List.getElem?_cons_succ, List.getElem?_nil, List.set_cons_zero, List.set_cons_succ, Option.bind_some, Option.map_some, Nat.reduceAdd, Nat.reduceSub, Nat.reduceEqDiff, ↓reduceIte, Bool.not_true, Bool.not_false, Bool.false_eq_true, and_self, and_true, true_and, List.take_append_of_le_length, List.take_length, mt, nl_in n ha hb, nl_in n hb hc, c1, c2]
      | true =>
        have c3 : nl a c = true := nl_iff.mpr ((nl_iff.mp c1).trans (nl_iff.mp c2))
        simp (config := { zeta := true }) only [fDef, sSeq, sIfS, sRet, sSet, sNext, sDrop, sFor, sPar, sPar3, sAsgP, sSubName, sDPutP, sLPutP, sFldP, sBad, fCall, fCons, fNil, fVar, fC, fOp, fUn, fTest, fNotT, fAndT, fOrT, fAndV, fOrV, fNotV, fIf, fChain, fSeq, fLstC, fLc, fDc, iAny_eq, iVals_eq, iItems_eq, iKeys_eq, iRg1, iRg2, vals, wipeG, O.bind_ok, O.s_ok, O.or_bad, O.or_ok, O.nx, leave, mkL, mkD, rdL, rdD, rdI, seqP, wD, wI, tgName, tgTup, tgCons, tgNil, fMeth_eq, fFld_eq, fFrz_eq, fMake_eq, fCallO, fYes, PC.p, le_ii, lt_ii, gt_ii, le_ss, add_ii, sub_ii, neg_i, eq_ii, ne_bb, eq_bb, eq_ss, ne_ss, List.map_cons, List.map_nil, List.length_cons, List.length_nil, List.replicate_succ, List.replicate_zero, List.cons_append, List.nil_append, List.getElem?_cons_zero, List.getElem?_cons_succ, List.getElem?_nil, List.set_cons_zero, List.set_cons_succ, Option.bind_some, Option.map_some, Nat.reduceAdd, Nat.reduceSub, Nat.reduceEqDiff, ↓reduceIte, Bool.not_true, Bool.not_false, Bool.false_eq_true, and_self, and_true, true_and, List.take_append_of_le_length, List.take_length, mt, nl_in n ha hb, nl_in n hb hc, nl_in n ha hc, c1, c2, c3]
  have il : ∀ μ : Μ, itP (.v (.lst (ts.map fun t => ear (cE K) (ord t)))) μ = .ok (ts.map fun t => ear (cE K) (ord t)) μ := fun μ => it_l (by rw [List.length_map]; omega)
  have l3 : ∀ {a b : Tb} {x : Option W}, In8 ns a → In8 ns b → ∃ y, sFor (iAny (fVar 0)) (tgName 3) (sIfS (fAndT (fTest (fMeth (ga K "Earliest") "is_never_later" (D_Earliest_is_never_later Pg w K) (fVar 1) (fCons (fVar 2) fNil))) (fAndT (fTest (fMeth (ga K "Earliest") "is_never_later" (D_Earliest_is_never_later Pg w K) (fVar 2) (fCons (fVar 3) fNil))) (fNotT (fTest (fMeth (ga K "Earliest") "is_never_later" (D_Earliest_is_never_later Pg w K) (fVar 1) (fCons (fVar 3) fNil)))))) (sRet (fC (.bl false))) sNext)
      [some (.v (.lst (ts.map fun t => ear (cE K) (ord t)))), some (.v (ear (cE K) (ord a))), some (.v (ear (cE K) (ord b))), x] μ = .nx [some (.v (.lst (ts.map fun t => ear (cE K) (ord t)))), some (.v (ear (cE K) (ord a))), some (.v (ear (cE K) (ord b))), y] μ := fun {a b x} ha hb => by
    obtain ⟨γ2, m2, e1, ⟨y, rfl⟩, rfl⟩ := for_run (f := tgName 3) (B := sIfS (fAndT (fTest (fMeth (ga K "Earliest") "is_never_later" (D_Earliest_is_never_later Pg w K) (fVar 1) (fCons (fVar 2) fNil))) (fAndT (fTest (fMeth (ga K "Earliest") "is_never_later" (D_Earliest_is_never_later Pg w K) (fVar 2) (fCons (fVar 3) fNil))) (fNotT (fTest (fMeth (ga K "Earliest") "is_never_later" (D_Earliest_is_never_later Pg w K) (fVar 1) (fCons (fVar 3) fNil)))))) (sRet (fC (.bl false))) sNext)
      (fun _ γ m => (∃ y, γ = [some (.v (.lst (ts.map fun t => ear (cE K) (ord t)))), some (.v (ear (cE K) (ord a))), some (.v (ear (cE K) (ord b))), y]) ∧ m = μ) (ps := ts.map fun t => ear (cE K) (ord t)) (i := 0) (γ := [some (.v (.lst (ts.map fun t => ear (cE K) (ord t)))), some (.v (ear (cE K) (ord a))), some (.v (ear (cE K) (ord b))), x]) (μ := μ) ⟨⟨_, rfl⟩, rfl⟩ fun j p γ m hp ⟨⟨y, eg⟩, em⟩ => by
        subst eg
        subst em
        obtain ⟨c, mc, rfl⟩ := List.mem_map.mp (List.mem_of_getElem? hp)
        exact ⟨_, rfl, _, _, .inl (body ha hb (h c mc)), ⟨_, rfl⟩, rfl⟩
    refine ⟨y, ?_⟩
    simp only [sFor, iAny_eq, fVar, List.getElem?_cons_zero, O.bind_ok, il, O.s_ok]
    exact e1
  have l2 : ∀ {a : Tb} {x1 x2 : Option W}, In8 ns a → ∃ y1 y2, sFor (iAny (fVar 0)) (tgName 2) (sFor (iAny (fVar 0)) (tgName 3) (sIfS (fAndT (fTest (fMeth (ga K "Earliest") "is_never_later" (D_Earliest_is_never_later Pg w K) (fVar 1) (fCons (fVar 2) fNil))) (fAndT (fTest (fMeth (ga K "Earliest") "is_never_later" (D_Earliest_is_never_later Pg w K) (fVar 2) (fCons (fVar 3) fNil))) (fNotT (fTest (fMeth (ga K "Earliest") "is_never_later" (D_Earliest_is_never_later Pg w K) (fVar 1) (fCons (fVar 3) fNil)))))) (sRet (fC (.bl false))) sNext))
      [some (.v (.lst (ts.map fun t => ear (cE K) (ord t)))), some (.v (ear (cE K) (ord a))), x1, x2] μ = .nx [some (.v (.lst (ts.map fun t => ear (cE K) (ord t)))), some (.v (ear (cE K) (ord a))), y1, y2] μ := fun {a x1 x2} ha => by
    obtain ⟨γ2, m2, e1, ⟨y1, y2, rfl⟩, rfl⟩ := for_run (f := tgName 2) (B := sFor (iAny (fVar 0)) (tgName 3) (sIfS (fAndT (fTest (fMeth (ga K "Earliest") "is_never_later" (D_Earliest_is_never_later Pg w K) (fVar 1) (fCons (fVar 2) fNil))) (fAndT (fTest (fMeth (ga K "Earliest") "is_never_later" (D_Earliest_is_never_later Pg w K) (fVar 2) (fCons (fVar 3) fNil))) (fNotT (fTest (fMeth (ga K "Earliest") "is_never_later" (D_Earliest_is_never_later Pg w K) (fVar 1) (fCons (fVar 3) fNil)))))) (sRet (fC (.bl false))) sNext))
      (fun _ γ m => (∃ y1 y2, γ = [some (.v (.lst (ts.map fun t => ear (cE K) (ord t)))), some (.v (ear (cE K) (ord a))), y1, y2]) ∧ m = μ) (ps := ts.map fun t => ear (cE K) (ord t)) (i := 0) (γ := [some (.v (.lst (ts.map fun t => ear (cE K) (ord t)))), some (.v (ear (cE K) (ord a))), x1, x2]) (μ := μ) ⟨⟨_, _, rfl⟩, rfl⟩ fun j p γ m hp ⟨⟨y1, y2, eg⟩, em⟩ => by
        subst eg
        subst em
        obtain ⟨c, mc, rfl⟩ := List.mem_map.mp (List.mem_of_getElem? hp)
        obtain ⟨z, e⟩ := l3 (x := y2) ha (h c mc)
        exact ⟨_, rfl, _, _, .inl e, ⟨_, _, rfl⟩, rfl⟩
    refine ⟨y1, y2, ?_⟩
    simp only [sFor, iAny_eq, fVar, List.getElem?_cons_zero, O.bind_ok, il, O.s_ok]
    exact e1
  obtain ⟨γ2, m2, e1, ⟨y1, y2, y3, rfl⟩, rfl⟩ := for_run (f := tgName 1) (B := sFor (iAny (fVar 0)) (tgName 2) (sFor (iAny (fVar 0)) (tgName 3) (sIfS (fAndT (fTest (fMeth (ga K "Earliest") "is_never_later" (D_Earliest_is_never_later Pg w K) (fVar 1) (fCons (fVar 2) fNil))) (fAndT (fTest (fMeth (ga K "Earliest") "is_never_later" (D_Earliest_is_never_later Pg w K) (fVar 2) (fCons (fVar 3) fNil))) (fNotT (fTest (fMeth (ga K "Earliest") "is_never_later" (D_Earliest_is_never_later Pg w K) (fVar 1) (fCons (fVar 3) fNil)))))) (sRet (fC (.bl false))) sNext)))
    (fun _ γ m => (∃ y1 y2 y3, γ = [some (.v (.lst (ts.map fun t => ear (cE K) (ord t)))), y1, y2, y3]) ∧ m = μ) (ps := ts.map fun t => ear (cE K) (ord t)) (i := 0) (γ := [some (.v (.lst (ts.map fun t => ear (cE K) (ord t)))), none, none, none]) (μ := μ) ⟨⟨_, _, _, rfl⟩, rfl⟩ fun j p γ m hp ⟨⟨y1, y2, y3, eg⟩, em⟩ => by
      subst eg
      subst em
      obtain ⟨c, mc, rfl⟩ := List.mem_map.mp (List.mem_of_getElem? hp)
      obtain ⟨z1, z2, e⟩ := l2 (x1 := y2) (x2 := y3) (h c mc)
      exact ⟨_, rfl, _, _, .inl e, ⟨_, _, _, rfl⟩, rfl⟩
  unfold D__law_three_right fDef
  rw [if_pos (by rfl)]
  have st : sFor (iAny (fVar 0)) (tgName 1) (sFor (iAny (fVar 0)) (tgName 2) (sFor (iAny (fVar 0)) (tgName 3) (sIfS (fAndT (fTest (fMeth (ga K "Earliest") "is_never_later" (D_Earliest_is_never_later Pg w K) (fVar 1) (fCons (fVar 2) fNil))) (fAndT (fTest (fMeth (ga K "Earliest") "is_never_later" (D_Earliest_is_never_later Pg w K) (fVar 2) (fCons (fVar 3) fNil))) (fNotT (fTest (fMeth (ga K "Earliest") "is_never_later" (D_Earliest_is_never_later Pg w K) (fVar 1) (fCons (fVar 3) fNil)))))) (sRet (fC (.bl false))) sNext)))
      [some (.v (.lst (ts.map fun t => ear (cE K) (ord t)))), none, none, none] m2 = .nx [some (.v (.lst (ts.map fun t => ear (cE K) (ord t)))), y1, y2, y3] m2 := by
    unfold sFor
    rw [show iAny (fVar 0) [some (.v (.lst (ts.map fun t => ear (cE K) (ord t)))), none, none, none] m2 = .ok (ts.map fun t => ear (cE K) (ord t)) m2 from il m2]
    exact e1
  show leave m2.length (sSeq _ _ [some (.v (.lst (ts.map fun t => ear (cE K) (ord t)))), none, none, none] m2) = _
  simp only [sSeq, st]
  simp (config := { zeta := true }) only [fDef, sSeq, sIfS, sRet, sSet, sNext, sDrop, sFor, sPar, sPar3, sAsgP, sSubName, sDPutP, sLPutP, sFldP, sBad, fCall, fCons, fNil, fVar, fC, fOp, fUn, fTest, fNotT, fAndT, fOrT, fAndV, fOrV, fNotV, fIf, fChain, fSeq, fLstC, fLc, fDc, iAny_eq, iVals_eq, iItems_eq, iKeys_eq, iRg1, iRg2, vals, wipeG, O.bind_ok, O.s_ok, O.or_bad, O.or_ok, O.nx, leave, mkL, mkD, rdL, rdD, rdI, seqP, wD, wI, tgName, tgTup, tgCons, tgNil, fMeth_eq, fFld_eq, fFrz_eq, fMake_eq, fCallO, fYes, PC.p, le_ii, lt_ii, gt_ii, le_ss, add_ii, sub_ii, neg_i, eq_ii, ne_bb, eq_bb, eq_ss, ne_ss, List.map_cons, List.map_nil, List.length_cons, List.length_nil, List.replicate_succ, List.replicate_zero, List.cons_append, List.nil_append, List.getElem?_cons_zero, List.getElem?_cons_succ, List.getElem?_nil, List.set_cons_zero, List.set_cons_succ, Option.bind_some, Option.map_some, Nat.reduceAdd, Nat.reduceSub, Nat.reduceEqDiff, ↓reduceIte, Bool.not_true, Bool.not_false, Bool.false_eq_true, and_self, and_true, true_and, List.take_append_of_le_length, List.take_length]
end
end Pu

set_option Elab.async false
set_option linter.all false
set_option maxRecDepth 100000
set_option maxHeartbeats 8000000
namespace Pu
open L2 PySem PySem.Spec PyProof.Rows E10
open He (ga ma)
section
variable {Pg : Program} {w : World} {K : PySem.W.Frag} {ns : List Str}
theorem drop_rep (zs : List Str) (lo hi : Option Int) : cutP (zs.map P.str) lo hi = (cutP zs lo hi).map P.str := by
  unfold cutP
  rw [List.length_map, List.map_take, List.map_drop]
theorem sl_l {ps : List P} {lo hi : Option Int} {μ : Μ} : gSl (.v (.lst ps)) lo hi μ = .ok (.v (.lst (cutP ps lo hi))) μ := rfl
theorem cut_to {zs : List Str} {k : Nat} : cutP zs none (some (k : Int)) = zs.take k := by
  unfold cutP
  rw [HT.sIx_nat]
  show (zs.drop 0).take _ = _
  rw [List.drop_zero]
  show zs.take (min k zs.length - 0) = _
  rw [Nat.sub_zero]
  by_cases c : k ≤ zs.length
  · rw [Nat.min_eq_left c]
  · rw [Nat.min_eq_right (by omega), List.take_of_length_le (Nat.le_refl _), List.take_of_length_le (by omega)]
theorem cut_from {zs : List Str} {k : Nat} (h : k ≤ zs.length) : cutP zs (some (k : Int)) none = zs.drop k := by
  unfold cutP
  rw [HT.sIx_nat, Nat.min_eq_left h]
  show (zs.drop k).take (zs.length - k) = _
  rw [List.take_of_length_le (by rw [List.length_drop]; exact Nat.le_refl _)]
/-- a table of drawn numbers for some of the names -/
theorem e_drawn {a b : Int} {r : Μ} (h : PotOk a b) (n : Ns ns) {zs : List Str} (nd : zs.Nodup) (sub : ∀ z ∈ zs, z ∈ ns) (ne : zs ≠ []) {γ : Γ} (h8 : γ[8]? = some none) (h0 : γ[0]? = some (some (.loc 0))) : ∃ (x : Tb) (a' b' : Int), In8 ns x ∧ PotOk a' b' ∧
    lcGo (tgName 8) fYes (fSeq .tup (fCons (fVar 8) (fCons (fCall (D__law_number Pg w K) (fCons (fVar 0) fNil)) fNil))) γ (zs.map P.str) (pc a b :: r) = .ok (x.map fun p => P.tup [.str p.1, .int p.2]) (pc a' b' :: r) ∧ ∀ μ : Μ, gDict .val [.v (.lst (x.map fun p => P.tup [.str p.1, .int p.2]))] μ = .ok (.v (dctP x)) μ := by
  obtain ⟨x, a1, b1, kx, h1, e1⟩ := e_times (Pg := Pg) (w := w) (K := K) (r := r) h zs nd h8 h0
  refine ⟨x, a1, b1, ⟨⟨by rw [kx]; exact nd, by rw [kx]; exact sub⟩, fun e => ne (by rw [← kx, e]; rfl)⟩, h1, e1, fun μ => ?_⟩
  have dp := dict_pairs (μ := μ) (fun p : Str × Int => p.1) (fun p => p.2) (l := x) (by show (keys x).Nodup; rw [kx]; exact nd)
  have ex : (x.map fun p : Str × Int => (p.1, p.2)) = x := List.map_id' x
  rw [ex] at dp
  exact dp
end
end Pu

set_option Elab.async false
set_option linter.all false
set_option maxRecDepth 100000
set_option maxHeartbeats 8000000
namespace Pu
open L2 PySem PySem.Spec PyProof.Rows E10
open He (ga ma)
section
variable {Pg : Program} {w : World} {K : PySem.W.Frag} {ns : List Str}
theorem same_refl {t : Tb} (nd : (keys t).Nodup) : same t t = true := by
  rw [same_nl nd nd, nl_iff.mpr (Nl.refl t)]
  rfl
theorem eqGo_one {ps qs : List P} {t : Tb} {μ : Μ} (nd : (keys t).Nodup) : eqGo (cE K) [cE K] (D_Earliest___eq__ Pg w K) (ear (cE K) t :: ps) (ear (cE K) t :: qs) μ = eqGo (cE K) [cE K] (D_Earliest___eq__ Pg w K) ps qs μ := by
  have e : D_Earliest___eq__ Pg w K [.v (ear (cE K) t), .v (ear (cE K) t)] μ = .ok (.v (.bl true)) μ := by rw [e_eq, same_refl nd]
  rw [eqGo, if_pos ⟨isC_e, isC_e, decide_eq_true (by simp)⟩, e]
  exact if_pos ⟨rfl, rfl⟩
theorem eqlo {a b c : Tb} {μ : Μ} (na : (keys a).Nodup) (nb : (keys b).Nodup) (nc : (keys c).Nodup) : fEqLO (ga K "Earliest") [ga K "Earliest"] (D_Earliest___eq__ Pg w K) (.v (.lst [ear (cE K) a, ear (cE K) b, ear (cE K) c])) (.v (.lst [ear (cE K) a, ear (cE K) b, ear (cE K) c])) μ = .ok (.v (.bl true)) μ := by
  unfold fEqLO
  show (if (3 : Nat) = 3 then eqGo (cE K) [cE K] (D_Earliest___eq__ Pg w K) _ _ μ else O.bad) = _
  rw [if_pos rfl, eqGo_one na, eqGo_one nb, eqGo_one nc]
  rfl
theorem frz_n {a b : Int} {r : Μ} {c : PC} {p : P} (h : c.p = some p) : frzP (r.length + 1) (.loc (r.length + 1)) (pc a b :: (r ++ [c])) = .ok (.v p) (pc a b :: r) := frz_l (μ := pc a b :: r) h
end
end Pu

set_option Elab.async false
set_option linter.all false
set_option maxRecDepth 100000
set_option maxHeartbeats 16000000
namespace Pu
open L2 PySem PySem.Spec PyProof.Rows E10
open He (ga ma)
section
variable {Pg : Program} {w : World} {K : PySem.W.Frag} {ns : List Str}
theorem e_make' {a b : Int} {r : Μ} {t : Tb} (h : Ok t) : (makeP (ga K "Earliest") (D_Earliest___init__ Pg w K) [.v (dctP t)] (pc a b :: r)).bind (frzP (r.length + 1)) = .ok (.v (ear (cE K) (ord t))) (pc a b :: r) := e_make (μ := pc a b :: r) h
abbrev γR (ns : List Str) (x2 x3 x4 x5 x6 x7 : Option W) : Γ := [some (.loc 0), some (.v (.lst (ns.map P.str))), x2, x3, x4, x5, x6, x7, none]
theorem r1 {a b : Int} {r : Μ} (h : PotOk a b) : ∃ (ns : List Str) (a' b' : Int), Ns ns ∧ PotOk a' b' ∧ sSet 1 (fFrz (fCall (D__law_names Pg w K) (fCons (fVar 0) (fCons (fOp gAdd (fC (.int 1)) (fCall (D__law_draw Pg w K) (fCons (fVar 0) (fCons (fC (.int 8)) fNil)))) fNil)))) [some (.loc 0), none, none, none, none, none, none, none, none] (pc a b :: r) = .nx (γR ns none none none none none none) (pc a' b' :: r) := by
  obtain ⟨d, a1, b1, p1, p2, p3, p4⟩ := e_draw (Pg := Pg) (w := w) (K := K) (r := r) h (n := 8) (by decide) (by decide)
  obtain ⟨k, rfl⟩ := Int.eq_ofNat_of_zero_le p1
  obtain ⟨zs, a2, b2, l, nd, nm, h2, e⟩ := e_names (Pg := Pg) (w := w) (K := K) (r := r) p3 (n := k + 1) (by omega)
  have ek : (1 + (k : Int)) = ((k + 1 : Nat) : Int) := by omega
  refine ⟨zs, a2, b2, ⟨nd, nm, by omega, fun e => by rw [e] at l; cases l⟩, h2, ?_⟩
  simp (config := { zeta := true }) only [fDef, sSeq, sIfS, sRet, sSet, sNext, sDrop, sFor, sPar, sPar3, sAsgP, sSubName, sDPutP, sLPutP, sFldP, sBad, fCall, fCons, fNil, fVar, fC, fOp, fUn, fTest, fNotT, fAndT, fOrT, fAndV, fOrV, fNotV, fIf, fChain, fSeq, fLstC, fLc, fDc, iAny_eq, iVals_eq, iItems_eq, iKeys_eq, iRg1, iRg2, vals, wipeG, O.bind_ok, O.s_ok, O.or_bad, O.or_ok, O.nx, leave, mkL, mkD, rdL, rdD, rdI, seqP, wD, wI, tgName, tgTup, tgCons, tgNil, fMeth_eq, fFld_eq, fFrz_eq, fMake_eq, fCallO, fYes, PC.p, le_ii, lt_ii, gt_ii, le_ss, add_ii, sub_ii, neg_i, eq_ii, ne_bb, eq_bb, eq_ss, ne_ss, List.map_cons, List.map_nil, List.length_cons, List.length_nil, List.replicate_succ, List.replicate_zero, List.cons_append, List.nil_append, List.getElem?_cons_zero, List.getElem?_cons_succ, List.getElem?_nil, List.set_cons_zero, List.set_cons_succ, Option.bind_some, Option.map_some, Nat.reduceAdd, Nat.reduceSub, Nat.reduceEqDiff, ↓reduceIte, Bool.not_true, Bool.not_false, Bool.false_eq_true, and_self, and_true, true_and, List.take_append_of_le_length, List.take_length, p4, ek, e, frz_n (c := .lst (zs.map P.str)) rfl]
theorem r2 {a b : Int} {r : Μ} (h : PotOk a b) (n : Ns ns) : ∃ (t : Tb) (a' b' : Int), In8 ns t ∧ PotOk a' b' ∧ sSet 2 (fCall (gDict .val) (fCons (fLc (iAny (fSl gSl (fVar 1) oNone (oSome (fOp gAdd (fC (.int 1)) (fCall (D__law_draw Pg w K) (fCons (fVar 0) (fCons (fCall gLen (fCons (fVar 1) fNil)) fNil))))))) (tgName 8) fYes (fSeq .tup (fCons (fVar 8) (fCons (fCall (D__law_number Pg w K) (fCons (fVar 0) fNil)) fNil))) [8]) fNil)) (γR ns none none none none none none) (pc a b :: r) = .nx (γR ns (some (.v (dctP t))) none none none none none) (pc a' b' :: r) := by
  have h8 := n.le
  have hp := List.length_pos_iff.mpr n.ne
  obtain ⟨d, a1, b1, p1, p2, p3, p4⟩ := e_draw (Pg := Pg) (w := w) (K := K) (r := r) h (n := ((ns.length : Nat) : Int)) (by omega) (by omega)
  obtain ⟨k, rfl⟩ := Int.eq_ofNat_of_zero_le p1
  have ek : (1 + (k : Int)) = ((k + 1 : Nat) : Int) := by omega
  have ec : cutP (ns.map P.str) none (some ((k + 1 : Nat) : Int)) = (ns.take (k + 1)).map P.str := by rw [drop_rep, cut_to]
  obtain ⟨x, a2, b2, hx, h2, e, ed⟩ := e_drawn (Pg := Pg) (w := w) (K := K) (r := r) p3 n (zs := ns.take (k + 1)) (n.nd.sublist (List.take_sublist ..)) (fun z m => List.mem_of_mem_take m) (fun e => by rw [List.take_eq_nil_iff] at e; rcases e with e | e; cases e; exact n.ne e) (γ := γR ns none none none none none none) rfl rfl
  have il : itP (.v (.lst ((ns.take (k + 1)).map P.str))) (pc a1 b1 :: r) = .ok ((ns.take (k + 1)).map P.str) (pc a1 b1 :: r) := it_l (by rw [List.length_map, List.length_take]; omega)
  refine ⟨x, a2, b2, hx, h2, ?_⟩
  simp (config := { zeta := true }) only [fDef, sSeq, sIfS, sRet, sSet, sNext, sDrop, sFor, sPar, sPar3, sAsgP, sSubName, sDPutP, sLPutP, sFldP, sBad, fCall, fCons, fNil, fVar, fC, fOp, fUn, fTest, fNotT, fAndT, fOrT, fAndV, fOrV, fNotV, fIf, fChain, fSeq, fLstC, fLc, fDc, iAny_eq, iVals_eq, iItems_eq, iKeys_eq, iRg1, iRg2, vals, wipeG, O.bind_ok, O.s_ok, O.or_bad, O.or_ok, O.nx, leave, mkL, mkD, rdL, rdD, rdI, seqP, wD, wI, tgName, tgTup, tgCons, tgNil, fMeth_eq, fFld_eq, fFrz_eq, fMake_eq, fCallO, fYes, PC.p, le_ii, lt_ii, gt_ii, le_ss, add_ii, sub_ii, neg_i, eq_ii, ne_bb, eq_bb, eq_ss, ne_ss, List.map_cons, List.map_nil, List.length_cons, List.length_nil, List.replicate_succ, List.replicate_zero, List.cons_append, List.nil_append, List.getElem?_cons_zero, List.getElem?_cons_succ, List.getElem?_nil, List.set_cons_zero, List.set_cons_succ, Option.bind_some, Option.map_some, Nat.reduceAdd, Nat.reduceSub, Nat.reduceEqDiff, ↓reduceIte, Bool.not_true, Bool.not_false, Bool.false_eq_true, and_self, and_true, true_and, List.take_append_of_le_length, List.take_length, fSl, oNone, oSome, len_l, List.length_map, p4, ek, sl_l, ec, il, e, ed]
theorem r3 {a b : Int} {r : Μ} (h : PotOk a b) (n : Ns ns) {t : Tb} (ht : In8 ns t) : ∃ (t' : Tb) (a' b' : Int), In8 ns t' ∧ PotOk a' b' ∧ sSet 3 (fFrz (fCall (D__law_changed Pg w K) (fCons (fVar 0) (fCons (fVar 2) (fCons (fVar 1) fNil))))) (γR ns (some (.v (dctP t))) none none none none none) (pc a b :: r) = .nx (γR ns (some (.v (dctP t))) (some (.v (dctP t'))) none none none none) (pc a' b' :: r) := by
  obtain ⟨t', a1, b1, ne, s, h1, e⟩ := e_changed (Pg := Pg) (w := w) (K := K) (r := r) h ht.s ht.ne n.le
  refine ⟨t', a1, b1, ⟨s, ne⟩, h1, ?_⟩
  simp (config := { zeta := true }) only [fDef, sSeq, sIfS, sRet, sSet, sNext, sDrop, sFor, sPar, sPar3, sAsgP, sSubName, sDPutP, sLPutP, sFldP, sBad, fCall, fCons, fNil, fVar, fC, fOp, fUn, fTest, fNotT, fAndT, fOrT, fAndV, fOrV, fNotV, fIf, fChain, fSeq, fLstC, fLc, fDc, iAny_eq, iVals_eq, iItems_eq, iKeys_eq, iRg1, iRg2, vals, wipeG, O.bind_ok, O.s_ok, O.or_bad, O.or_ok, O.nx, leave, mkL, mkD, rdL, rdD, rdI, seqP, wD, wI, tgName, tgTup, tgCons, tgNil, fMeth_eq, fFld_eq, fFrz_eq, fMake_eq, fCallO, fYes, PC.p, le_ii, lt_ii, gt_ii, le_ss, add_ii, sub_ii, neg_i, eq_ii, ne_bb, eq_bb, eq_ss, ne_ss, List.map_cons, List.map_nil, List.length_cons, List.length_nil, List.replicate_succ, List.replicate_zero, List.cons_append, List.nil_append, List.getElem?_cons_zero, List.getElem?_cons_succ, List.getElem?_nil, List.set_cons_zero, List.set_cons_succ, Option.bind_some, Option.map_some, Nat.reduceAdd, Nat.reduceSub, Nat.reduceEqDiff, ↓reduceIte, Bool.not_true, Bool.not_false, Bool.false_eq_true, and_self, and_true, true_and, List.take_append_of_le_length, List.take_length, e, frz_n (c := .dct (t'.map rowP)) (p := dctP t') rfl]
theorem r4 {a b : Int} {r : Μ} (h : PotOk a b) (n : Ns ns) {t s : Tb} (hs : In8 ns s) : ∃ (t' : Tb) (a' b' : Int), In8 ns t' ∧ PotOk a' b' ∧ sSet 4 (fFrz (fCall (D__law_changed Pg w K) (fCons (fVar 0) (fCons (fVar 3) (fCons (fVar 1) fNil))))) (γR ns (some (.v (dctP t))) (some (.v (dctP s))) none none none none) (pc a b :: r) = .nx (γR ns (some (.v (dctP t))) (some (.v (dctP s))) (some (.v (dctP t'))) none none none) (pc a' b' :: r) := by
  obtain ⟨t', a1, b1, ne, s, h1, e⟩ := e_changed (Pg := Pg) (w := w) (K := K) (r := r) h hs.s hs.ne n.le
  refine ⟨t', a1, b1, ⟨s, ne⟩, h1, ?_⟩
  simp (config := { zeta := true }) only [fDef, sSeq, sIfS, sRet, sSet, sNext, sDrop, sFor, sPar, sPar3, sAsgP, sSubName, sDPutP, sLPutP, sFldP, sBad, fCall, fCons, fNil, fVar, fC, fOp, fUn, fTest, fNotT, fAndT, fOrT, fAndV, fOrV, fNotV, fIf, fChain, fSeq, fLstC, fLc, fDc, iAny_eq, iVals_eq, iItems_eq, iKeys_eq, iRg1, iRg2, vals, wipeG, O.bind_ok, O.s_ok, O.or_bad, O.or_ok, O.nx, leave, mkL, mkD, rdL, rdD, rdI, seqP, wD, wI, tgName, tgTup, tgCons, tgNil, fMeth_eq, fFld_eq, fFrz_eq, fMake_eq, fCallO, fYes, PC.p, le_ii, lt_ii, gt_ii, le_ss, add_ii, sub_ii, neg_i, eq_ii, ne_bb, eq_bb, eq_ss, ne_ss, List.map_cons, List.map_nil, List.length_cons, List.length_nil, List.replicate_succ, List.replicate_zero, List.cons_append, List.nil_append, List.getElem?_cons_zero, List.getElem?_cons_succ, List.getElem?_nil, List.set_cons_zero, List.set_cons_succ, Option.bind_some, Option.map_some, Nat.reduceAdd, Nat.reduceSub, Nat.reduceEqDiff, ↓reduceIte, Bool.not_true, Bool.not_false, Bool.false_eq_true, and_self, and_true, true_and, List.take_append_of_le_length, List.take_length, e, frz_n (c := .dct (t'.map rowP)) (p := dctP t') rfl]
theorem r5 {a b : Int} {r : Μ} (h : PotOk a b) (n : Ns ns) {t s u : Tb} (hs : In8 ns s) : ∃ (s' : Tb) (a' b' : Int), In8 ns s' ∧ PotOk a' b' ∧ sIfS (fTest (fOp gEq (fCall (D__law_draw Pg w K) (fCons (fVar 0) (fCons (fC (.int 4)) fNil))) (fC (.int 0)))) (sSet 3 (fCall (gDict .val) (fCons (fLc (iAny (fSl gSl (fVar 1) (oSome (fCall (D__law_draw Pg w K) (fCons (fVar 0) (fCons (fCall gLen (fCons (fVar 1) fNil)) fNil)))) oNone)) (tgName 8) fYes (fSeq .tup (fCons (fVar 8) (fCons (fCall (D__law_number Pg w K) (fCons (fVar 0) fNil)) fNil))) [8]) fNil))) sNext
    (γR ns (some (.v (dctP t))) (some (.v (dctP s))) (some (.v (dctP u))) none none none) (pc a b :: r) = .nx (γR ns (some (.v (dctP t))) (some (.v (dctP s'))) (some (.v (dctP u))) none none none) (pc a' b' :: r) := by
  have h8 := n.le
  have hp := List.length_pos_iff.mpr n.ne
  obtain ⟨d, a1, b1, p1, p2, p3, p4⟩ := e_draw (Pg := Pg) (w := w) (K := K) (r := r) h (n := 4) (by decide) (by decide)
  by_cases c : (d == 0) = true
  · obtain ⟨d2, a2, b2, q1, q2, q3, q4⟩ := e_draw (Pg := Pg) (w := w) (K := K) (r := r) p3 (n := ((ns.length : Nat) : Int)) (by omega) (by omega)
    obtain ⟨k, rfl⟩ := Int.eq_ofNat_of_zero_le q1
    have ec : cutP (ns.map P.str) (some (k : Int)) none = (ns.drop k).map P.str := by rw [drop_rep, cut_from (by omega)]
    obtain ⟨x, a3, b3, hx, h3, e, ed⟩ := e_drawn (Pg := Pg) (w := w) (K := K) (r := r) q3 n (zs := ns.drop k) (n.nd.sublist (List.drop_sublist ..)) (fun z m => List.mem_of_mem_drop m) (fun e => by rw [List.drop_eq_nil_iff] at e; omega) (γ := γR ns (some (.v (dctP t))) (some (.v (dctP s))) (some (.v (dctP u))) none none none) rfl rfl
    have il : itP (.v (.lst ((ns.drop k).map P.str))) (pc a2 b2 :: r) = .ok ((ns.drop k).map P.str) (pc a2 b2 :: r) := it_l (by rw [List.length_map, List.length_drop]; omega)
    refine ⟨x, a3, b3, hx, h3, ?_⟩
    simp (config := { zeta := true }) only [fDef, sSeq, sIfS, sRet, sSet, sNext, sDrop, sFor, sPar, sPar3, sAsgP, sSubName, sDPutP, sLPutP, sFldP, sBad, fCall, fCons, fNil, fVar, fC, fOp, fUn, fTest, fNotT, fAndT, fOrT, fAndV, fOrV, fNotV, fIf, fChain, fSeq, fLstC, fLc, fDc, iAny_eq, iVals_eq, iItems_eq, iKeys_eq, iRg1, iRg2, vals, wipeG, O.bind_ok, O.s_ok, O.or_bad, O.or_ok, O.nx, leave, mkL, mkD, rdL, rdD, rdI, seqP, wD, wI, tgName, tgTup, tgCons, tgNil, fMeth_eq, fFld_eq, fFrz_eq, fMake_eq, fCallO, fYes, PC.p, le_ii, lt_ii, gt_ii, le_ss, add_ii, sub_ii, neg_i, eq_ii, ne_bb, eq_bb, eq_ss, ne_ss, List.map_cons, List.map_nil, List.length_cons, List.length_nil, List.replicate_succ, List.replicate_zero, List.cons_append, List.nil_append, List.getElem?_cons_zero, List.getElem?_cons_succ, List.getElem?_nil, List.set_cons_zero, List.set_cons_succ, Option.bind_some, Option.map_some, Nat.reduceAdd, Nat.reduceSub, Nat.reduceEqDiff, ↓reduceIte, Bool.not_true, Bool.not_false, Bool.false_eq_true, and_self, and_true, true_and, List.take_append_of_le_length, List.take_length, p4, c, fSl, oNone, oSome, len_l, List.length_map, q4, sl_l, ec, il, e, ed]
  · have c' : (d == 0) = false := by simpa using c
    refine ⟨s, a1, b1, hs, p3, ?_⟩
    simp (config := { zeta := true }) only [fDef, sSeq, sIfS, sRet, sSet, sNext, sDrop, sFor, sPar, sPar3, sAsgP, sSubName, sDPutP, sLPutP, sFldP, sBad, fCall, fCons, fNil, fVar, fC, fOp, fUn, fTest, fNotT, fAndT, fOrT, fAndV, fOrV, fNotV, fIf, fChain, fSeq, fLstC, fLc, fDc, iAny_eq, iVals_eq, iItems_eq, iKeys_eq, iRg1, iRg2, vals, wipeG, O.bind_ok, O.s_ok, O.or_bad, O.or_ok, O.nx, leave, mkL, mkD, rdL, rdD, rdI, seqP, wD, wI, tgName, tgTup, tgCons, tgNil, fMeth_eq, fFld_eq, fFrz_eq, fMake_eq, fCallO, fYes, PC.p, le_ii, lt_ii, gt_ii, le_ss, add_ii, sub_ii, neg_i, eq_ii, ne_bb, eq_bb, eq_ss, ne_ss, List.map_cons, List.map_nil, List.length_cons, List.length_nil, List.replicate_succ, List.replicate_zero, List.cons_append, List.nil_append, List.getElem?_cons_zero, List.getElem?_cons_succ, List.getElem?_nil, List.set_cons_zero, List.set_cons_succ, Option.bind_some, Option.map_some, Nat.reduceAdd, Nat.reduceSub, Nat.reduceEqDiff, ↓reduceIte, Bool.not_true, Bool.not_false, Bool.false_eq_true, and_self, and_true, true_and, List.take_append_of_le_length, List.take_length, p4, c']
end
end Pu

set_option Elab.async false
set_option linter.all false
set_option maxRecDepth 100000
set_option maxHeartbeats 16000000
namespace Pu
open L2 PySem PySem.Spec PyProof.Rows E10
open He (ga ma)
section
variable {Pg : Program} {w : World} {K : PySem.W.Frag} {ns : List Str}
theorem e_right {a b : Int} {r : Μ} (h : PotOk a b) : ∃ a' b', D__law_right Pg w K [.loc 0] (pc a b :: r) = .ok (.v (.bl true)) (pc a' b' :: r) := by
  obtain ⟨ns, a1, b1, n, h1, s1⟩ := r1 (Pg := Pg) (w := w) (K := K) (r := r) h
  obtain ⟨t, a2, b2, ht, h2, s2⟩ := r2 (Pg := Pg) (w := w) (K := K) (r := r) h1 n
  obtain ⟨s0, a3, b3, hs0, h3, s3⟩ := r3 (Pg := Pg) (w := w) (K := K) (r := r) h2 n ht
  obtain ⟨u, a4, b4, hu, h4, s4⟩ := r4 (Pg := Pg) (w := w) (K := K) (r := r) h3 n (t := t) hs0
  obtain ⟨s, a5, b5, hs, h5, s5⟩ := r5 (Pg := Pg) (w := w) (K := K) (r := r) h4 n (t := t) (u := u) hs0
  obtain ⟨a6, b6, h6, e6⟩ := e_pair (Pg := Pg) (w := w) (K := K) (r := r) h5 n ht hs
  obtain ⟨a7, b7, h7, e7⟩ := e_pair (Pg := Pg) (w := w) (K := K) (r := r) h6 n hs ht
  have tk : ∀ c : PC, List.take (r.length + 1) (c :: r) = c :: r := fun c => List.take_of_length_le (Nat.le_refl _)
  have s6 : sPar3 5 6 7 (fCons (fFrz (fMake (ga K "Earliest") (D_Earliest___init__ Pg w K) (fCons (fVar 2) fNil))) (fCons (fFrz (fMake (ga K "Earliest") (D_Earliest___init__ Pg w K) (fCons (fVar 3) fNil))) (fCons (fFrz (fMake (ga K "Earliest") (D_Earliest___init__ Pg w K) (fCons (fVar 4) fNil))) fNil))) (γR ns (some (.v (dctP t))) (some (.v (dctP s))) (some (.v (dctP u))) none none none) (pc a5 b5 :: r)
      = .nx (γR ns (some (.v (dctP t))) (some (.v (dctP s))) (some (.v (dctP u))) (some (.v (ear (cE K) (ord t)))) (some (.v (ear (cE K) (ord s)))) (some (.v (ear (cE K) (ord u))))) (pc a5 b5 :: r) := by
    simp (config := { zeta := true }) only [fDef, sSeq, sIfS, sRet, sSet, sNext, sDrop, sFor, sPar, sPar3, sAsgP, sSubName, sDPutP, sLPutP, sFldP, sBad, fCall, fCons, fNil, fVar, fC, fOp, fUn, fTest, fNotT, fAndT, fOrT, fAndV, fOrV, fNotV, fIf, fChain, fSeq, fLstC, fLc, fDc, iAny_eq, iVals_eq, iItems_eq, iKeys_eq, iRg1, iRg2, vals, wipeG, O.bind_ok, O.s_ok, O.or_bad, O.or_ok, O.nx, leave, mkL, mkD, rdL, rdD, rdI, seqP, wD, wI, tgName, tgTup, tgCons, tgNil, fMeth_eq, fFld_eq, fFrz_eq, fMake_eq, fCallO, fYes, PC.p, le_ii, lt_ii, gt_ii, le_ss, add_ii, sub_ii, neg_i, eq_ii, ne_bb, eq_bb, eq_ss, ne_ss, List.map_cons, List.map_nil, List.length_cons, List.length_nil, List.replicate_succ, List.replicate_zero, List.cons_append, List.nil_append, List.getElem?_cons_zero, List.getElem?_cons_succ, List.getElem?_nil, List.set_cons_zero, List.set_cons_succ, Option.bind_some, Option.map_some, Nat.reduceAdd, Nat.reduceSub, Nat.reduceEqDiff, ↓reduceIte, Bool.not_true, Bool.not_false, Bool.false_eq_true, and_self, and_true, true_and, List.take_append_of_le_length, List.take_length, e_make' (ht.ok n), e_make' (hs.ok n), e_make' (hu.ok n)]
  have s7 : sIfS (fNotT (fTest (fCall (D__law_pair_right Pg w K) (fCons (fVar 0) (fCons (fVar 5) (fCons (fVar 6) (fCons (fVar 2) (fCons (fVar 3) (fCons (fVar 1) fNil))))))))) (sRet (fC (.bl false))) sNext (γR ns (some (.v (dctP t))) (some (.v (dctP s))) (some (.v (dctP u))) (some (.v (ear (cE K) (ord t)))) (some (.v (ear (cE K) (ord s)))) (some (.v (ear (cE K) (ord u))))) (pc a5 b5 :: r)
      = .nx (γR ns (some (.v (dctP t))) (some (.v (dctP s))) (some (.v (dctP u))) (some (.v (ear (cE K) (ord t)))) (some (.v (ear (cE K) (ord s)))) (some (.v (ear (cE K) (ord u))))) (pc a6 b6 :: r) := by
    simp (config := { zeta := true }) only [fDef, sSeq, sIfS, sRet, sSet, sNext, sDrop, sFor, sPar, sPar3, sAsgP, sSubName, sDPutP, sLPutP, sFldP, sBad, fCall, fCons, fNil, fVar, fC, fOp, fUn, fTest, fNotT, fAndT, fOrT, fAndV, fOrV, fNotV, fIf, fChain, fSeq, fLstC, fLc, fDc, iAny_eq, iVals_eq, iItems_eq, iKeys_eq, iRg1, iRg2, vals, wipeG, O.bind_ok, O.s_ok, O.or_bad, O.or_ok, O.nx, leave, mkL, mkD, rdL, rdD, rdI, seqP, wD, wI, tgName, tgTup, tgCons, tgNil, fMeth_eq, fFld_eq, fFrz_eq, fMake_eq, fCallO, fYes, PC.p, le_ii, lt_ii, gt_ii, le_ss, add_ii, sub_ii, neg_i, eq_ii, ne_bb, eq_bb, eq_ss, ne_ss, List.map_cons, List.map_nil, List.length_cons, List.length_nil, List.replicate_succ, List.replicate_zero, List.cons_append, List.nil_append, List.getElem?_cons_zero, List.getElem?_cons_succ, List.getElem?_nil, List.set_cons_zero, List.set_cons_succ, Option.bind_some, Option.map_some, Nat.reduceAdd, Nat.reduceSub, Nat.reduceEqDiff, ↓reduceIte, Bool.not_true, Bool.not_false, Bool.false_eq_true, and_self, and_true, true_and, List.take_append_of_le_length, List.take_length, e6]
  have s8 : sIfS (fNotT (fTest (fCall (D__law_pair_right Pg w K) (fCons (fVar 0) (fCons (fVar 6) (fCons (fVar 5) (fCons (fVar 3) (fCons (fVar 2) (fCons (fVar 1) fNil))))))))) (sRet (fC (.bl false))) sNext (γR ns (some (.v (dctP t))) (some (.v (dctP s))) (some (.v (dctP u))) (some (.v (ear (cE K) (ord t)))) (some (.v (ear (cE K) (ord s)))) (some (.v (ear (cE K) (ord u))))) (pc a6 b6 :: r)
      = .nx (γR ns (some (.v (dctP t))) (some (.v (dctP s))) (some (.v (dctP u))) (some (.v (ear (cE K) (ord t)))) (some (.v (ear (cE K) (ord s)))) (some (.v (ear (cE K) (ord u))))) (pc a7 b7 :: r) := by
    simp (config := { zeta := true }) only [fDef, sSeq, sIfS, sRet, sSet, sNext, sDrop, sFor, sPar, sPar3, sAsgP, sSubName, sDPutP, sLPutP, sFldP, sBad, fCall, fCons, fNil, fVar, fC, fOp, fUn, fTest, fNotT, fAndT, fOrT, fAndV, fOrV, fNotV, fIf, fChain, fSeq, fLstC, fLc, fDc, iAny_eq, iVals_eq, iItems_eq, iKeys_eq, iRg1, iRg2, vals, wipeG, O.bind_ok, O.s_ok, O.or_bad, O.or_ok, O.nx, leave, mkL, mkD, rdL, rdD, rdI, seqP, wD, wI, tgName, tgTup, tgCons, tgNil, fMeth_eq, fFld_eq, fFrz_eq, fMake_eq, fCallO, fYes, PC.p, le_ii, lt_ii, gt_ii, le_ss, add_ii, sub_ii, neg_i, eq_ii, ne_bb, eq_bb, eq_ss, ne_ss, List.map_cons, List.map_nil, List.length_cons, List.length_nil, List.replicate_succ, List.replicate_zero, List.cons_append, List.nil_append, List.getElem?_cons_zero, List.getElem?_cons_succ, List.getElem?_nil, List.set_cons_zero, List.set_cons_succ, Option.bind_some, Option.map_some, Nat.reduceAdd, Nat.reduceSub, Nat.reduceEqDiff, ↓reduceIte, Bool.not_true, Bool.not_false, Bool.false_eq_true, and_self, and_true, true_and, List.take_append_of_le_length, List.take_length, e7]
  have s9 : sIfS (fOrT (fNotT (fTest (fCall (D__law_near_right Pg w K) (fCons (fVar 5) (fCons (fVar 6) fNil))))) (fNotT (fTest (fCall (D__law_near_right Pg w K) (fCons (fVar 6) (fCons (fVar 7) fNil)))))) (sRet (fC (.bl false))) sNext (γR ns (some (.v (dctP t))) (some (.v (dctP s))) (some (.v (dctP u))) (some (.v (ear (cE K) (ord t)))) (some (.v (ear (cE K) (ord s)))) (some (.v (ear (cE K) (ord u))))) (pc a7 b7 :: r)
      = .nx (γR ns (some (.v (dctP t))) (some (.v (dctP s))) (some (.v (dctP u))) (some (.v (ear (cE K) (ord t)))) (some (.v (ear (cE K) (ord s)))) (some (.v (ear (cE K) (ord u))))) (pc a7 b7 :: r) := by
    simp (config := { zeta := true }) only [fDef, sSeq, sIfS, sRet, sSet, sNext, sDrop, sFor, sPar, sPar3, sAsgP, sSubName, sDPutP, sLPutP, sFldP, sBad, fCall, fCons, fNil, fVar, fC, fOp, fUn, fTest, fNotT, fAndT, fOrT, fAndV, fOrV, fNotV, fIf, fChain, fSeq, fLstC, fLc, fDc, iAny_eq, iVals_eq, iItems_eq, iKeys_eq, iRg1, iRg2, vals, wipeG, O.bind_ok, O.s_ok, O.or_bad, O.or_ok, O.nx, leave, mkL, mkD, rdL, rdD, rdI, seqP, wD, wI, tgName, tgTup, tgCons, tgNil, fMeth_eq, fFld_eq, fFrz_eq, fMake_eq, fCallO, fYes, PC.p, le_ii, lt_ii, gt_ii, le_ss, add_ii, sub_ii, neg_i, eq_ii, ne_bb, eq_bb, eq_ss, ne_ss, List.map_cons, List.map_nil, List.length_cons, List.length_nil, List.replicate_succ, List.replicate_zero, List.cons_append, List.nil_append, List.getElem?_cons_zero, List.getElem?_cons_succ, List.getElem?_nil, List.set_cons_zero, List.set_cons_succ, Option.bind_some, Option.map_some, Nat.reduceAdd, Nat.reduceSub, Nat.reduceEqDiff, ↓reduceIte, Bool.not_true, Bool.not_false, Bool.false_eq_true, and_self, and_true, true_and, List.take_append_of_le_length, List.take_length, e_near n ht hs, e_near n hs hu]
  have e3 := e_three (Pg := Pg) (w := w) (K := K) (μ := pc a7 b7 :: r) n (ts := [t, s, u, least (ord t) (ord u), least (ord s) (ord t)]) (fun x hx => by
    simp only [List.mem_cons, List.not_mem_nil, or_false] at hx
    rcases hx with rfl | rfl | rfl | rfl | rfl
    · exact ht
    · exact hs
    · exact hu
    · exact ht.ord.least hu.ord
    · exact hs.ord.least ht.ord) (show (5 : Nat) ≤ 100 by decide)
  have s10 : sIfS (fNotT (fTest (fCall (D__law_three_right Pg w K) (fCons (fSeq .lst (fCons (fVar 5) (fCons (fVar 6) (fCons (fVar 7) (fCons (fFrz (fOp (fOwn2 (ga K "Earliest") (D_Earliest___or__ Pg w K)) (fVar 5) (fVar 7))) (fCons (fFrz (fOp (fOwn2 (ga K "Earliest") (D_Earliest___or__ Pg w K)) (fVar 6) (fVar 5))) fNil)))))) fNil)))) (sRet (fC (.bl false))) sNext (γR ns (some (.v (dctP t))) (some (.v (dctP s))) (some (.v (dctP u))) (some (.v (ear (cE K) (ord t)))) (some (.v (ear (cE K) (ord s)))) (some (.v (ear (cE K) (ord u))))) (pc a7 b7 :: r)
      = .nx (γR ns (some (.v (dctP t))) (some (.v (dctP s))) (some (.v (dctP u))) (some (.v (ear (cE K) (ord t)))) (some (.v (ear (cE K) (ord s)))) (some (.v (ear (cE K) (ord u))))) (pc a7 b7 :: r) := by
    simp only [List.map_cons, List.map_nil] at e3
    simp (config := { zeta := true }) only [fDef, sSeq, sIfS, sRet, sSet, sNext, sDrop, sFor, sPar, sPar3, sAsgP, sSubName, sDPutP, sLPutP, sFldP, sBad, fCall, fCons, fNil, fVar, fC, fOp, fUn, fTest, fNotT, fAndT, fOrT, fAndV, fOrV, fNotV, fIf, fChain, fSeq, fLstC, fLc, fDc, iAny_eq, iVals_eq, iItems_eq, iKeys_eq, iRg1, iRg2, vals, wipeG, O.bind_ok, O.s_ok, O.or_bad, O.or_ok, O.nx, leave, mkL, mkD, rdL, rdD, rdI, seqP, wD, wI, tgName, tgTup, tgCons, tgNil, fMeth_eq, fFld_eq, fFrz_eq, fMake_eq, fCallO, fYes, PC.p, le_ii, lt_ii, gt_ii, le_ss, add_ii, sub_ii, neg_i, eq_ii, ne_bb, eq_bb, eq_ss, ne_ss, List.map_cons, List.map_nil, List.length_cons, List.length_nil, List.replicate_succ, List.replicate_zero, List.cons_append, List.nil_append, List.getElem?_cons_zero, List.getElem?_cons_succ, List.getElem?_nil, List.set_cons_zero, List.set_cons_succ, Option.bind_some, Option.map_some, Nat.reduceAdd, Nat.reduceSub, Nat.reduceEqDiff, ↓reduceIte, Bool.not_true, Bool.not_false, Bool.false_eq_true, and_self, and_true, true_and, List.take_append_of_le_length, List.take_length, own2_e, or_in n ht hu, or_in n hs ht, frz_v, show (5 : Nat) ≤ 100000 from by decide, e3]
  have s11 : sRet (fOp (fEqLO (ga K "Earliest") [(ga K "Earliest")] (D_Earliest___eq__ Pg w K)) (fSeq .lst (fCons (fVar 5) (fCons (fVar 6) (fCons (fVar 7) fNil)))) (fSeq .lst (fCons (fFrz (fMake (ga K "Earliest") (D_Earliest___init__ Pg w K) (fCons (fVar 2) fNil))) (fCons (fFrz (fMake (ga K "Earliest") (D_Earliest___init__ Pg w K) (fCons (fVar 3) fNil))) (fCons (fFrz (fMake (ga K "Earliest") (D_Earliest___init__ Pg w K) (fCons (fVar 4) fNil))) fNil))))) (γR ns (some (.v (dctP t))) (some (.v (dctP s))) (some (.v (dctP u))) (some (.v (ear (cE K) (ord t)))) (some (.v (ear (cE K) (ord s)))) (some (.v (ear (cE K) (ord u))))) (pc a7 b7 :: r)
      = .ret (.v (.bl true)) (pc a7 b7 :: r) := by
    simp (config := { zeta := true }) only [fDef, sSeq, sIfS, sRet, sSet, sNext, sDrop, sFor, sPar, sPar3, sAsgP, sSubName, sDPutP, sLPutP, sFldP, sBad, fCall, fCons, fNil, fVar, fC, fOp, fUn, fTest, fNotT, fAndT, fOrT, fAndV, fOrV, fNotV, fIf, fChain, fSeq, fLstC, fLc, fDc, iAny_eq, iVals_eq, iItems_eq, iKeys_eq, iRg1, iRg2, vals, wipeG, O.bind_ok, O.s_ok, O.or_bad, O.or_ok, O.nx, leave, mkL, mkD, rdL, rdD, rdI, seqP, wD, wI, tgName, tgTup, tgCons, tgNil, fMeth_eq, fFld_eq, fFrz_eq, fMake_eq, fCallO, fYes, PC.p, le_ii, lt_ii, gt_ii, le_ss, add_ii, sub_ii, neg_i, eq_ii, ne_bb, eq_bb, eq_ss, ne_ss, List.map_cons, List.map_nil, List.length_cons, List.length_nil, List.replicate_succ, List.replicate_zero, List.cons_append, List.nil_append, List.getElem?_cons_zero, List.getElem?_cons_succ, List.getElem?_nil, List.set_cons_zero, List.set_cons_succ, Option.bind_some, Option.map_some, Nat.reduceAdd, Nat.reduceSub, Nat.reduceEqDiff, ↓reduceIte, Bool.not_true, Bool.not_false, Bool.false_eq_true, and_self, and_true, true_and, List.take_append_of_le_length, List.take_length, e_make' (ht.ok n), e_make' (hs.ok n), e_make' (hu.ok n), show (3 : Nat) ≤ 100000 from by decide, eqlo ht.ord.s.nd hs.ord.s.nd hu.ord.s.nd]
  refine ⟨a7, b7, ?_⟩
  unfold D__law_right fDef
  rw [if_pos (by rfl)]
  show leave _ (sSeq _ _ [some (.loc 0), none, none, none, none, none, none, none, none] _) = _
  simp only [sSeq, s1, s2, s3, s4, s5, s6, s7, s8, s9, s10, s11]
  simp (config := { zeta := true }) only [fDef, sSeq, sIfS, sRet, sSet, sNext, sDrop, sFor, sPar, sPar3, sAsgP, sSubName, sDPutP, sLPutP, sFldP, sBad, fCall, fCons, fNil, fVar, fC, fOp, fUn, fTest, fNotT, fAndT, fOrT, fAndV, fOrV, fNotV, fIf, fChain, fSeq, fLstC, fLc, fDc, iAny_eq, iVals_eq, iItems_eq, iKeys_eq, iRg1, iRg2, vals, wipeG, O.bind_ok, O.s_ok, O.or_bad, O.or_ok, O.nx, leave, mkL, mkD, rdL, rdD, rdI, seqP, wD, wI, tgName, tgTup, tgCons, tgNil, fMeth_eq, fFld_eq, fFrz_eq, fMake_eq, fCallO, fYes, PC.p, le_ii, lt_ii, gt_ii, le_ss, add_ii, sub_ii, neg_i, eq_ii, ne_bb, eq_bb, eq_ss, ne_ss, List.map_cons, List.map_nil, List.length_cons, List.length_nil, List.replicate_succ, List.replicate_zero, List.cons_append, List.nil_append, List.getElem?_cons_zero, List.getElem?_cons_succ, List.getElem?_nil, List.set_cons_zero, List.set_cons_succ, Option.bind_some, Option.map_some, Nat.reduceAdd, Nat.reduceSub, Nat.reduceEqDiff, ↓reduceIte, Bool.not_true, Bool.not_false, Bool.false_eq_true, and_self, and_true, true_and, List.take_append_of_le_length, List.take_length, tk]
theorem e_law (nsq : List Int) (hl : nsq.length ≤ 63) : ∃ m, D_law2 Pg w K [.v (.lst (nsq.map P.int))] [] = .ok (.v (.bl true)) m := by
  have hm : ∃ k : Nat, max (1 : Int) (min ((nsq.length : Nat) : Int) 3) = (k : Int) ∧ k ≤ 3 := ⟨(max (1 : Int) (min ((nsq.length : Nat) : Int) 3)).toNat, by omega, by omega⟩
  obtain ⟨k, ek, k3⟩ := hm
  have c1 : k ≤ 100000 := by omega
  have c2 : k < 2 ^ 61 := by omega
  have mn : gMin [.v (.int ((nsq.length : Nat) : Int)), .v (.int 3)] ([] : Μ) = .ok (.v (.int (min ((nsq.length : Nat) : Int) 3))) [] := rfl
  have go : lcGo (tgName 1) fYes (fDrop (fCall (D__law_right Pg w K) (fCons (fCall (D__law_pot Pg w K) (fCons (fVar 0) (fCons (fVar 1) fNil))) fNil))) [some (.v (.lst (nsq.map P.int))), none] (rngP 0 k) [] = .ok ((rngP 0 k).map fun _ => P.bl true) [] := by
    have e := lc_val (f := tgName 1) (T := fYes) (E := fDrop (fCall (D__law_right Pg w K) (fCons (fCall (D__law_pot Pg w K) (fCons (fVar 0) (fCons (fVar 1) fNil))) fNil))) (γ := [some (.v (.lst (nsq.map P.int))), none]) (μ := []) (fun _ => true) (fun _ => P.bl true) (ps := rngP 0 k) fun p hp => by
      obtain ⟨j, hj⟩ := List.getElem?_of_mem hp
      obtain ⟨lt, rfl⟩ := rng_at hj
      obtain ⟨a, b, ho, ep⟩ := e_pot (Pg := Pg) (w := w) (K := K) (μ := []) (ns := nsq) (k := j) (by omega)
      obtain ⟨a', b', er⟩ := e_right (Pg := Pg) (w := w) (K := K) (r := []) ho
      refine ⟨_, rfl, rfl, fun _ => ?_⟩
      unfold fDrop
      have ep' : D__law_pot Pg w K [.v (.lst (nsq.map P.int)), .v (.int (j : Int))] [] = .ok (.loc 0) [pc a b] := ep
      simp (config := { zeta := true }) only [fDef, sSeq, sIfS, sRet, sSet, sNext, sDrop, sFor, sPar, sPar3, sAsgP, sSubName, sDPutP, sLPutP, sFldP, sBad, fCall, fCons, fNil, fVar, fC, fOp, fUn, fTest, fNotT, fAndT, fOrT, fAndV, fOrV, fNotV, fIf, fChain, fSeq, fLstC, fLc, fDc, iAny_eq, iVals_eq, iItems_eq, iKeys_eq, iRg1, iRg2, vals, wipeG, O.bind_ok, O.s_ok, O.or_bad, O.or_ok, O.nx, leave, mkL, mkD, rdL, rdD, rdI, seqP, wD, wI, tgName, tgTup, tgCons, tgNil, fMeth_eq, fFld_eq, fFrz_eq, fMake_eq, fCallO, fYes, PC.p, le_ii, lt_ii, gt_ii, le_ss, add_ii, sub_ii, neg_i, eq_ii, ne_bb, eq_bb, eq_ss, ne_ss, List.map_cons, List.map_nil, List.length_cons, List.length_nil, List.replicate_succ, List.replicate_zero, List.cons_append, List.nil_append, List.getElem?_cons_zero, List.getElem?_cons_succ, List.getElem?_nil, List.set_cons_zero, List.set_cons_succ, Option.bind_some, Option.map_some, Nat.reduceAdd, Nat.reduceSub, Nat.reduceEqDiff, ↓reduceIte, Bool.not_true, Bool.not_false, Bool.false_eq_true, and_self, and_true, true_and, List.take_append_of_le_length, List.take_length, ep', er]
      rfl
    rw [e, List.filter_eq_self.mpr fun _ _ => rfl]
  refine ⟨[], ?_⟩
  unfold D_law2
  simp (config := { zeta := true }) only [fDef, sSeq, sIfS, sRet, sSet, sNext, sDrop, sFor, sPar, sPar3, sAsgP, sSubName, sDPutP, sLPutP, sFldP, sBad, fCall, fCons, fNil, fVar, fC, fOp, fUn, fTest, fNotT, fAndT, fOrT, fAndV, fOrV, fNotV, fIf, fChain, fSeq, fLstC, fLc, fDc, iAny_eq, iVals_eq, iItems_eq, iKeys_eq, iRg1, iRg2, vals, wipeG, O.bind_ok, O.s_ok, O.or_bad, O.or_ok, O.nx, leave, mkL, mkD, rdL, rdD, rdI, seqP, wD, wI, tgName, tgTup, tgCons, tgNil, fMeth_eq, fFld_eq, fFrz_eq, fMake_eq, fCallO, fYes, PC.p, le_ii, lt_ii, gt_ii, le_ss, add_ii, sub_ii, neg_i, eq_ii, ne_bb, eq_bb, eq_ss, ne_ss, List.map_cons, List.map_nil, List.length_cons, List.length_nil, List.replicate_succ, List.replicate_zero, List.cons_append, List.nil_append, List.getElem?_cons_zero, List.getElem?_cons_succ, List.getElem?_nil, List.set_cons_zero, List.set_cons_succ, Option.bind_some, Option.map_some, Nat.reduceAdd, Nat.reduceSub, Nat.reduceEqDiff, ↓reduceIte, Bool.not_true, Bool.not_false, Bool.false_eq_true, and_self, and_true, true_and, List.take_append_of_le_length, List.take_length, len_l, List.length_map, mn, max_ii, ek, Int.toNat_natCast, Int.natAbs_natCast, c1, c2]
  rw [go]
  simp (config := { zeta := true }) only [fDef, sSeq, sIfS, sRet, sSet, sNext, sDrop, sFor, sPar, sPar3, sAsgP, sSubName, sDPutP, sLPutP, sFldP, sBad, fCall, fCons, fNil, fVar, fC, fOp, fUn, fTest, fNotT, fAndT, fOrT, fAndV, fOrV, fNotV, fIf, fChain, fSeq, fLstC, fLc, fDc, iAny_eq, iVals_eq, iItems_eq, iKeys_eq, iRg1, iRg2, vals, wipeG, O.bind_ok, O.s_ok, O.or_bad, O.or_ok, O.nx, leave, mkL, mkD, rdL, rdD, rdI, seqP, wD, wI, tgName, tgTup, tgCons, tgNil, fMeth_eq, fFld_eq, fFrz_eq, fMake_eq, fCallO, fYes, PC.p, le_ii, lt_ii, gt_ii, le_ss, add_ii, sub_ii, neg_i, eq_ii, ne_bb, eq_bb, eq_ss, ne_ss, List.map_cons, List.map_nil, List.length_cons, List.length_nil, List.replicate_succ, List.replicate_zero, List.cons_append, List.nil_append, List.getElem?_cons_zero, List.getElem?_cons_succ, List.getElem?_nil, List.set_cons_zero, List.set_cons_succ, Option.bind_some, Option.map_some, Nat.reduceAdd, Nat.reduceSub, Nat.reduceEqDiff, ↓reduceIte, Bool.not_true, Bool.not_false, Bool.false_eq_true, and_self, and_true, true_and, List.take_append_of_le_length, List.take_length, bls_all (bls_map (fun _ => true) (rngP 0 k))]
  simp
end
end Pu

set_option Elab.async false
set_option linter.all false
set_option maxRecDepth 100000
set_option maxHeartbeats 4000000
namespace E10
open L2 PySem PySem.Spec PyProof.Rows
open He (ga ma)
abbrev lawLevel : Nat := 10
noncomputable def spLaw (P : Program) (w : World) (K : PySem.W.Frag) : Sp := Pu.noE (Pu.spP 1 (Pu.D_law2 P w K))
section
variable {P : Program} {w : World} {K : PySem.W.Frag} {mg : Str → Option Value} {base : Heap}
theorem law_of (X : K.In base) (G : base.Ns mainGlobals mg) (c : obsK K = val0) : ∃ fd, Fun K "law" "law" s_law (ga K "law") fd ∧ FnG P w K mg base lawLevel (ga K "law") fd ["_law_script"] (spLaw P w K) := by
  obtain ⟨fd, F⟩ := F_law c
  exact ⟨fd, F, (Pu.fx_law2 X G c F).g⟩
theorem law_wants (c : obsK K = val0) (H : Hp) (a : Addr) (ns : List Int) (hl : ns.length ≤ 63) (hS : SqL K H a (ns.map V.int)) : spLaw P w K [.ref a] H (fun v _ => v = .bl true) L2.E0 := Pu.law_want (bNol c) hS (Pu.e_law ns hl)
theorem binds_law {f : Addr} {fd : FuncData} (F : Fun K "law" "law" s_law f fd) (s : Shared) (u : Value) : BindsTo s fd ⟨[u], []⟩ [("_law_script", u)] := by
  obtain ⟨oc, od, kV, doc, pm, an, cdv, ct, osl, rfl, _⟩ := F.ex
  exact BindsTo.of_eq rfl
end
end E10

set_option Elab.async false
set_option maxRecDepth 100000
set_option maxHeartbeats 0
namespace E10
open L2 PySem PySem.Spec PyProof.Rows
theorem run (w : World) : HandSHeadRun.RunEq R qv hook ob 60000 names w := by
  intro os
  kernel_rfl
end E10

set_option Elab.async false
set_option linter.all false
set_option maxRecDepth 100000
set_option maxHeartbeats 4000000
open PySem PySem.W PySem.Calls PyProof.Rows
theorem PySem.Challenge.cw_anyofthese_k16_whole_never_later_holds : PySem.Challenge.rw_anyofthese_k16_whole_never_later.Holds := by
  w_on; o_law
  refine HandSHeadRun.head_any (r := E10.R) (q := E10.qv) (H := E10.hook) (ob := E10.ob) (M := 60000) (loose := E10.names) (d := HandSHeadRun.topDef E10.R.prog E10.iLaw) (kwd := []) E10.ob_eq
    (by kernel_rfl) (fun s => by kernel_rfl) E10.run (by kernel_rfl) (by kernel_rfl) (by kernel_rfl) (by rfl) (by first | assumption | decide +kernel) (by decide +kernel) ⟨rfl, rfl, rfl, rfl, rfl, by decide +kernel⟩ ?hw ?hc
  case hw => w_witness2
  case hc =>
    refine E10.walkG (l := PySem.Challenge.rw_anyofthese_k16_whole_never_later) (n := 63) (k := E10.lawLevel) (y := "_law_script") rfl (by decide) (by kernel_rfl) ⟨rfl, by decide, by decide⟩ ?F
    intro w mg f h Y G g
    obtain ⟨K, X, c⟩ := Y
    have g2 : mg ("law" : PySem.Str) = some (.ref f) := by
      have e : (HandSHeadRun.topDef E10.R.prog E10.iLaw).name = ("law" : PySem.Str) := by kernel_rfl
      rw [← e]
      exact g
    have g3 : mg ("law" : PySem.Str) = some (.ref (He.ga K "law")) := E10.g_law X G c
    have ef : f = He.ga K "law" := by
      have z := g2.symm.trans g3
      simpa using z
    subst ef
    obtain ⟨fd, F, _⟩ := E10.law_of (P := (PySem.Challenge.rw_anyofthese_k16_whole_never_later).prog) (w := w) X G c
    refine ⟨K, fd, E10.spLaw (PySem.Challenge.rw_anyofthese_k16_whole_never_later).prog w K, X, E10.binds_law F, fun H a ns hl hS => E10.law_wants c H a ns hl hS, fun base X2 G2 => ?_⟩
    obtain ⟨fd2, F2, L⟩ := E10.law_of (P := (PySem.Challenge.rw_anyofthese_k16_whole_never_later).prog) (w := w) X2 G2 c
    rw [E10.one_fd F F2] at L
    exact L

