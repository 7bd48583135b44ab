import PyProof.Rows.All
import Wide.All
import OpenK.AllK
import Wide.FinOn
import PyProof.InstEq
import KE.KOpsOwn
import HandS.Base
import HandS.Call
import HandS.List
import HandS.Words
import HandS.IsInst
import HandS.Defaults
import HandS.MakeKw
import HandS.Star
import HandS.FStr
import PyProof.Rows.StrIntSpec
import HandS.Dict
import HandS.DeepEq
import KE.KSortTup
import KE.KSortTupAny
import HandS.SortRule
import HandS.DictComp
import HandS.HeadHook2
import HandS.Property
import HandS.More
import HandS.OwnEq
import HandS.HeadNt
import KE.KExcInit
import KE.KExcIs
import KE.KIsAll
import HandS.ForMost
import HandS.Exc
import HandS.ExcInit
import HandS.ExcIs
import KE.KStateDown
import HandS.Head0
import HandS.Head1
import HandS.Head2
import PyProof.TupleCall
import PyProof.Rows.Range3
import KE.KDictSum
import KE.KDictList
import OpenK.KOps
import HandS.ClsMeth
import PyProof.DictKinds
import PyProof.DictUpdate
import HandS.Iter
import HandS.Walk
import HandS.Set
import HandS.SetFor
import HandS.Strs
import PyProof.Rows.SortStr
import PyProof.Walks
import PyProof.WalksMore
import PyProof.Rows.DictTallyStr
import HandS.WordsExc
import HandS.WordsDict
import PyProof.Rows.StrMeet
import HandS.Text
import HandS.RaiseMore
import PyProof.TupleOfSeq
import PyProof.FactsAll.set_2
import PyProof.FactsAll.subtypes_5
import HandS.ListItems
import HandS.Style
import KE.KEqNest
import HandS.NoneIn
import HandS.TupAny
import HandS.ExcField
import HandS.ExcOwn
import HandS.TryMany
import KE.KEqDict
import PyProof.NeKinds
import HandS.Finally
import KE.KDictZip
import HandS.Zip
import KE.KDictPairs
import HandS.Small
import PyProof.SetRoads
import PySem.Challenge.RW_anyofthese_k12_earliest_ones_made_and_to
set_option Elab.async false
set_option linter.all false
set_option maxRecDepth 100000
set_option maxHeartbeats 4000000
/-! Defs and methods called where no text of a container is being made; own operators. -/
namespace E10
open L2 PySem PySem.Spec PyProof.Rows
structure FnG (P : Program) (w : World) (K : PySem.W.Frag) (mg : Str → Option Value) (base : Heap) (k : Nat) (f : Addr) (fd : FuncData) (ps : List Str) (sp : Sp) : Prop where
  few : ∀ {vs H Q E}, sp vs H Q E → vs.length = ps.length
  goes : ∀ {A : Around} {fr : List Env} {s : Shared} {H : Hp} {ar : Args} {us : List Value} {vs : List V} {Q : VK} {E : XK}, A.guards = some [] → Room k A → Env0 P w K mg base A fr s H → BindsTo s fd ar (ps.zip us) → Vals vs us → sp vs H Q E →
    codeAny (model P w) A (.call (.ref f) ar) (CR CX0 fr P w H s Q E) s
section
variable {P : Program} {w : World} {K : PySem.W.Frag} {mg : Str → Option Value} {base : Heap} {k : Nat} {f : Addr} {fd : FuncData} {ps N : List Str} {sp : Sp}
theorem FnG.mono {j : Nat} (F : FnG P w K mg base j f fd ps sp) (h : j ≤ k) : FnG P w K mg base k f fd ps sp :=
  ⟨F.few, fun {A fr s H ar us vs Q E} g room env b v q => F.goes g (room.mono h) env b v q⟩
end
/-- the own class C has the def f under the name n -/
structure Has (K : PySem.W.Frag) (C f : Addr) (n : Str) : Prop where
  at_ : PySem.W.findIn K (.ref C) n = some (some (.ref f))
  fn : PySem.W.isFn K (.ref f) = true
section
variable {X : Cx} {A : Around} {E' : Value → Shared → Prop} {pins : List (Addr × Obj)} {σ : L2.St} {H : Hp} {s : Shared} {Q : VK} {us : List Value} {vs : List V} {k : Nat} {f C : Addr} {fd : FuncData} {ps : List Str} {sp : Sp}
theorem run_at (F : FnG X.prog X.w X.K X.mg X.base k f fd ps sp) (fr : A.frames = X.A.frames) (hG : A.guards = some []) (room : Room k A) (bi : Binds X.K fd ps []) (I : Inv X pins σ H s) (r : Vals vs us) (q : sp vs H Q E0) :
    wpAny (model X.prog X.w) A (call (.ref f) us) (EP X pins σ Q) E' s := by
  have n1 : us.length = ps.length := r.length.symm.trans (F.few q)
  have e0 : Env0 X.prog X.w X.K X.mg X.base A X.stack s H := by
    have e := I.env0
    exact ⟨by rw [fr]; exact e.frames, e.mod, e.bs, e.bsz, e.funs, e.frf, e.hok, e.bare⟩
  refine wpAny_call (codeAny_mono (F.goes (ar := ⟨us, []⟩) hG room e0 (by
    have := bi s us I.kIn (by simpa using n1)
    simpa using this) r q) fun res s2 ends => ?_)
  match res, ends with
  | .error _, z => exact z.elim
  | .ok (.ret _), z => exact I.after z
  | .ok .next, z => exact z.elim
  | .ok .brk, z => exact z.elim
  | .ok .cont, z => exact z.elim
theorem cmpBack {u : Value} {s' : Shared} (h : EP X pins σ Q u s') : PySem.W.CmpBack (EP X pins σ Q) u s' := by
  obtain ⟨v, H', I, r, q⟩ := h
  cases u <;> first | exact ⟨v, H', I, r, q⟩ | (cases v <;> first | (obtain ⟨_, e⟩ := r; cases e) | cases r)
/-- a op n: an own object and an int -/
def rOwnI (C : Addr) (sp : Sp) : R2 := fun x y H Q => ∃ (a dx : Addr) (fs : List (Str × V)) (i : Int), x = .ref a ∧ y = .int i ∧ H a = some (.ins C dx fs) ∧ sp [.ref a, .int i] H Q E0
theorem op_ownI {op : Operator} {fo ro rc : Option Value} (F : FnG X.prog X.w X.K X.mg X.base k f fd ps sp) (hG : X.A.guards = some []) (room : Room k X.A) (bi : Binds X.K fd ps []) (hc : PySem.W.selfFirst X.K C = true) (h : Has X.K C f (PySem.dunder op.info.2))
    (hr : PySem.W.findIn X.K (.ref C) (dunderR op.info.2) = some rc) (hp : rc = none ∨ ∃ g : Addr, rc = some (.ref g)) (h1 : PySem.W.findIn X.K (.type "int") (PySem.dunder op.info.2) = some fo) (h2 : PySem.W.findIn X.K (.type "int") (dunderR op.info.2) = some ro)
    (hsub : PySem.W.subIn X.K (.type "int") (.ref C) = some false) : OpR X (binaryOp op) (rOwnI C sp) := by
  intro pins s σ H x y v u Q I rx ry h0
  obtain ⟨a, dx, fs, i, rfl, rfl, ha, q⟩ := h0
  cases (show v = Value.ref a from rx)
  obtain ⟨t, rfl⟩ := (show ∃ t, u = Value.int i t from ry)
  obtain ⟨mA, O, _⟩ := ins_get I.hok ha
  obtain ⟨od, J, _⟩ := O.look
  obtain ⟨m, hF⟩ := I.fr
  refine PySem.W.ksp_binT (T := "int") hF I.ok.mod.kin J rfl hc h.at_ h.fn hr hp h1 h2 hsub ?_
  exact wpAny_mono (run_at (vs := [.ref a, .int i]) F rfl hG room bi I (.cons rfl (.cons ⟨t, rfl⟩ .nil)) q) (fun _ _ z => cmpBack z) fun _ _ z => z
end
end E10
set_option Elab.async false
set_option linter.all false
set_option maxRecDepth 100000
set_option maxHeartbeats 4000000
namespace E10
open L2 PySem PySem.Spec PyProof.Rows
open AutoSeq1 (wpAny_loadPart')
section
variable {prog : Program} {w : World} {A : Around} {E : Value → Shared → Prop} {s : Shared}
theorem try_int_add {i : Int} {t : Tok} {a : Addr} {ox : Obj} {Q : Option Value → Shared → Prop} (hx : s.heap.get? a = some ox) (pl : ox.data = .plain) (q : Q none s) : wpAny (model prog w) A (tryMethod (.int i t) (PySem.dunder "add") (.ref a)) Q E s := by
  unfold tryMethod
  refine wpAny_bind (wpAny_callSpecial?_slot (typeIs_int s i t) F.slot_int_add (wpAny_call (codeAny_call_builtin F.slot_int_add.plain F.entry_int_add (F.slot_int_add.check _ _ _ _ _ _ _ _ (typeIs_int s i t) (F.args_int_add_2 _ _) ?_))))
  obtain ⟨c, d, dt, sl⟩ := ox
  obtain rfl : dt = .plain := pl
  obtain ⟨hp, g, dr, tk, os⟩ := s
  have hx' : hp.get? a = some ⟨c, d, .plain, sl⟩ := hx
  wp_walk using wpAny_loadPart' hx'
  all_goals first | exact wpAny_pure q | exact q | skip
end
end E10
set_option Elab.async false
set_option linter.all false
set_option maxRecDepth 100000
set_option maxHeartbeats 4000000
namespace E10
open L2 PySem PySem.Spec PyProof.Rows
section
variable {X : Cx} {k : Nat} {f fr C : Addr} {fd : FuncData} {ps : List Str} {sp : Sp}
/-- n + a: an int and an own object -/
def rIOwn (C : Addr) (sp : Sp) : R2 := fun x y H Q => ∃ (a dx : Addr) (fs : List (Str × V)) (i : Int), x = .int i ∧ y = .ref a ∧ H a = some (.ins C dx fs) ∧ sp [.ref a, .int i] H Q E0
theorem op_iown {fo ro : Option Value} (F : FnG X.prog X.w X.K X.mg X.base k f fd ps sp) (hG : X.A.guards = some []) (room : Room k X.A) (bi : Binds X.K fd ps []) (hc : PySem.W.selfFirst X.K C = true) (ha : PySem.W.findIn X.K (.ref C) (PySem.dunder "add") = some (some (.ref fr))) (h : Has X.K C f (dunderR "add"))
    (h1 : PySem.W.findIn X.K (.type "int") (PySem.dunder "add") = some fo) (h2 : PySem.W.findIn X.K (.type "int") (dunderR "add") = some ro) (h3 : ((fo.isSome && !isSeqSlot fo) || (ro.isSome && !isSeqSlot ro)) = true)
    (hsub : PySem.W.subIn X.K (.ref C) (.type "int") = some false) : OpR X (binaryOp .Add) (rIOwn C sp) := by
  intro pins s σ H x y v u Q I rx ry h0
  obtain ⟨a, dx, fs, i, rfl, rfl, ea, q⟩ := h0
  cases (show u = Value.ref a from ry)
  obtain ⟨t, rfl⟩ := (show ∃ t, v = Value.int i t from rx)
  obtain ⟨mA, O, _⟩ := ins_get I.hok ea
  obtain ⟨od, J, _⟩ := O.look
  obtain ⟨m, hF⟩ := I.fr
  have KX := I.ok.mod.kin.keeps hF.keep
  obtain ⟨cd, rest, hcd, hm⟩ := PySem.W.ksp_first hc
  have two := PySem.W.ksp_try (E := X.xe) (b := .int i t) KX J h.at_ h.fn (wpAny_mono (run_at (vs := [.ref a, .int i]) F rfl hG room bi I (.cons rfl (.cons ⟨t, rfl⟩ .nil)) q) (fun _ _ z => cmpBack z) fun _ _ z => z)
  have J0 := J
  obtain ⟨hx, hcl, hdt, _⟩ := J0
  obtain ⟨hh, g, d, tt, os⟩ := s
  have one : ∀ {Q : Option Value → Shared → Prop}, Q none ⟨hh, g, d, tt, os⟩ → wpAny (model X.prog X.w) X.A (tryMethod (.int i t) (PySem.dunder "add") (.ref a)) Q X.xe ⟨hh, g, d, tt, os⟩ := fun q => try_int_add hx rfl q
  have L1 : PySem.W.Looks (model X.prog X.w) hh (typeOf (.int i t)) (.type "int") := PySem.W.Looks.of_pure rfl
  have L2 : PySem.W.Looks (model X.prog X.w) hh (typeOf (.ref a)) (.ref C) := J.type
  have L3 : PySem.W.Looks (model X.prog X.w) hh (fillsNumberSlot (.type "int") "add") true := by
    have z := PySem.W.ksp_fillsT (M := model X.prog X.w) (nm := "add") KX h1 h2
    rw [h3] at z
    exact z
  have L4 : PySem.W.Looks (model X.prog X.w) hh (fillsNumberSlot (.ref C) "add") true := PySem.W.fills_K KX hcd hm ha
  have L5 : PySem.W.Looks (model X.prog X.w) hh (isSubtype (.ref C) (.type "int")) false := PySem.W.looks_subIn KX hsub
  have L6 : PySem.W.Looks (model X.prog X.w) hh (numberSlotInPython (.type "int") "add") false := PySem.W.Looks.of_pure rfl
  have hne : (Value.type "int" == Value.ref C) = false := Bool.eq_false_iff.mpr fun q => by cases beq_iff_eq.mp q
  have hi : Operator.info .Add = ("+", "add") := rfl
  simp only [binaryOp, hi]
  refine wpAny_holding (wpAny_bind ?_)
  unfold binaryOp1
  refine wpAny_bind (L1.at (wpAny_bind (L2.at (wpAny_bind (L3.at ?_)))))
  simp only [hne, Bool.false_eq_true, if_false]
  repeat ((fail_if_success (with_reducible show wpAny _ _ (tryMethod _ _ _) _ _ _)); lk)
  refine one ?_
  repeat ((fail_if_success (with_reducible show wpAny _ _ (tryMethod _ _ _) _ _ _)); lk)
  refine wpAny_mono two (fun r s' hr' => ?_) fun _ _ e => e
  obtain ⟨v, rfl, hq⟩ := hr'
  repeat ((fail_if_success (with_reducible show wpAny _ _ (tryMethod _ _ _) _ _ _)); lk)
  exact hq
end
end E10
set_option Elab.async false
set_option linter.all false
set_option maxRecDepth 100000
set_option maxHeartbeats 4000000
namespace E10
open L2 PySem PySem.Spec PyProof.Rows
section
variable {X : Cx} {A : Around} {k : Nat} {f C : Addr} {fd : FuncData} {ps : List Str} {sp : Sp}
theorem cmp_at {op : CmpOp} {pins : List (Addr × Obj)} {σ : L2.St} {H : Hp} {s : Shared} {Q : VK} {E' : Value → Shared → Prop} {a dx : Addr} {fs : List (Str × V)} {y : V} {u tb : Value} (F : FnG X.prog X.w X.K X.mg X.base k f fd ps sp) (fr : A.frames = X.A.frames) (hG : A.guards = some []) (room : Room k A) (hu : A.units < cLine)
    (bi : Binds X.K fd ps []) (h : Has X.K C f (cmpInfo op).2.1) (I : Inv X pins σ H s) (ry : RelV y u) (ha : H a = some (.ins C dx fs)) (ty : TyX X.K H y tb) (nf : PySem.W.notFirst X.K C tb = true) (q : sp [.ref a, y] H Q E0) :
    wpAny (model X.prog X.w) A (richCompare op (.ref a) u) (EP X pins σ Q) E' s := by
  obtain ⟨mA, O, _⟩ := ins_get I.hok ha
  obtain ⟨od, J, _⟩ := O.look
  obtain ⟨m, hF⟩ := I.fr
  obtain ⟨P, Z, p, _⟩ := kit_of I ry ty
  refine PySem.W.cmp_K (op := op) (tb := tb) hu hF I.ok.mod.kin J (Z.ty _ _ I.kIn p) nf h.at_ h.fn ?_
  exact wpAny_mono (run_at (vs := [.ref a, y]) F fr hG room bi I (.cons rfl (.cons ry .nil)) q) (fun _ _ z => cmpBack z) fun _ _ z => z
/-- a == y: an own object with an own __eq__, and anything -/
def rEqO (K : PySem.W.Frag) (C : Addr) (sp : Sp) : R2 := fun x y H Q => ∃ (a dx : Addr) (fs : List (Str × V)) (tb : Value), x = .ref a ∧ H a = some (.ins C dx fs) ∧ TyX K H y tb ∧ PySem.W.notFirst K C tb = true ∧ sp [.ref a, y] H Q E0
theorem op_eqO (F : FnG X.prog X.w X.K X.mg X.base k f fd ps sp) (hG : X.A.guards = some []) (room : Room k X.A) (hu : X.A.units < cLine) (bi : Binds X.K fd ps []) (h : Has X.K C f "__eq__") : OpR X (compareOp .Eq) (rEqO X.K C sp) := by
  intro pins s σ H x y v u Q I rx ry h0
  obtain ⟨a, dx, fs, tb, rfl, ha, ty, nf, q⟩ := h0
  cases (show v = Value.ref a from rx)
  exact cmp_at (op := .Eq) F rfl hG room hu bi h I ry ha ty nf q
/-- what an own class has that != goes by its own __eq__ -/
structure NeBy (K : PySem.W.Frag) (C : Addr) : Prop where
  at_ : PySem.W.findIn K (.ref C) "__ne__" = some (some (.builtin "object.__ne__"))
  mro : PySem.W.mroIn K C (.type "object") = some true
  sub : PySem.W.subIn K (.ref C) (.type "object") = some true
/-- a != y -/
def rNeO (K : PySem.W.Frag) (C : Addr) (sp : Sp) : R2 := fun x y H Q => ∃ (a dx : Addr) (fs : List (Str × V)) (tb : Value), x = .ref a ∧ H a = some (.ins C dx fs) ∧ TyX K H y tb ∧ PySem.W.notFirst K C tb = true ∧ sp [.ref a, y] H (fun v H' => ∃ b, v = .bl b ∧ Q (.bl (!b)) H') E0
theorem op_neO (F : FnG X.prog X.w X.K X.mg X.base k f fd ps sp) (hG : X.A.guards = some []) (room : Room (k + 1) X.A) (hu : X.A.units + 1 < cLine) (bi : Binds X.K fd ps []) (h : Has X.K C f "__eq__") (n : NeBy X.K C) : OpR X (compareOp .NotEq) (rNeO X.K C sp) := by
  intro pins s σ H x y v u Q I rx ry h0
  obtain ⟨a, dx, fs, tb, rfl, ha, ty, nf, q⟩ := h0
  cases (show v = Value.ref a from rx)
  obtain ⟨mA, O, _⟩ := ins_get I.hok ha
  obtain ⟨od, J, _⟩ := O.look
  have KX := I.kIn
  obtain ⟨P, Z, p, _⟩ := kit_of I ry ty
  have hb := Z.ty (model X.prog X.w) _ I.kIn p
  have inner : wpAny (model X.prog X.w) X.A.in1 (call (.ref f) [.ref a, u]) (EP X pins σ fun v H' => ∃ b, v = .bl b ∧ Q (.bl (!b)) H') X.xe s :=
    run_at (vs := [.ref a, y]) F rfl hG room.in1 bi I (.cons rfl (.cons ry .nil)) q
  have body : ∀ {R : Result → Shared → Prop}, (∀ r s', EP X pins σ Q r s' → R (.ok (.ret r)) s') → (∀ e s', X.xe e s' → R (.error e) s') →
      wpAny (model X.prog X.w) X.A.in1 (Builtin.«object.__ne__» ⟨[.ref a, u], []⟩) (fun fin s' => match fin with | .done f => R (.ok f) s' | .again c' => c'.quiet = true ∧ codeAny (model X.prog X.w) X.A c' R s') (fun e s' => R (.error e) s') s := fun {R} hR hE => by
    unfold Builtin.«object.__ne__»
    repeat (first
      | with_reducible refine wpAny_cRoomFor (show X.A.in1.units < cLine from hu) ?_
      | (refine wpAny_bind (m := callSpecialIfBound? (.ref a) (Str.ofString "__eq__") [u]) (PySem.W.ifBound_K KX J h.at_ h.fn (wpAny_mono inner (fun r s' hr => by
          obtain ⟨v', H', I', rv, b, rfl, q'⟩ := hr
          cases (show r = Value.bool b from rv)
          repeat (first | exact hR _ _ ⟨.bl (!b), H', I', rfl, q'⟩ | exact wpAny_pure (hR _ _ ⟨.bl (!b), H', I', rfl, q'⟩) | (refine wpAny_bind (m := truthy (.bool _)) (wpAny_truthy_bool ?_)) | wp_step)) hE)))
      | wp_step)
  have chk : ∀ {Q' : Unit → Shared → Prop} {E' : Value → Shared → Prop}, Q' () s → wpAny (model X.prog X.w) X.A.in1 (checkBuiltinCall "object.__ne__" ⟨[.ref a, u], []⟩) Q' E' s := fun {Q' E'} q' => by
    simp only [checkBuiltinCall, PySem.F.cmpKind_ne, PySem.F.cmpSplit_ne]
    refine wpAny_bind ?_
    unfold isInstance
    refine wpAny_bind (J.type.here ((PySem.W.looks_subIn KX n.sub).here ?_))
    have ha := PySem.F.cmpArgs_ne (.ref a) u
    cases hsig : Manifest.signature? "object.__ne__" with
    | none => exact wpAny_pure q'
    | some sig =>
      simp only [argsOk, hsig] at ha
      have h2 : Bind.checkArgs "object.__ne__" sig ⟨[.ref a, u], []⟩ = pure () := ha
      show wpAny _ _ (Bind.checkArgs "object.__ne__" sig ⟨[.ref a, u], []⟩) Q' _ _
      rw [h2]
      exact wpAny_pure q'
  have called : wpAny (model X.prog X.w) X.A (call (.builtin "object.__ne__") [.ref a, u]) (EP X pins σ Q) X.xe s :=
    wpAny_call (codeAny_call_builtin PySem.F.cmp_object.ne.plain PySem.F.cmpEntry_ne (chk (body (R := fun r s' => match r with | .ok (.ret v) => EP X pins σ Q v s' | .ok _ => False | .error e => X.xe e s') (fun _ _ z => z) fun _ _ z => z)))
  have once : wpAny (model X.prog X.w) X.A (callSpecialIfBound? (.ref a) "__ne__" [u]) (fun r s' => ∃ v, r = some v ∧ EP X pins σ Q v s') X.xe s := by
    simp only [callSpecialIfBound?, bindSpecialIfBound?]
    refine wpAny_holding (wpAny_bind (wpAny_bind (wpAny_bind (J.type.here ((PySem.W.looks_findIn KX n.at_).here ?_)))))
    refine wpAny_bind (wpAny_askSetting (wpAny_ite ?_))
    simp only [PySem.F.cmp_object.ne.bind]
    have fin : wpAny (model X.prog X.w) X.A (call (.builtin "object.__ne__") ([.ref a] ++ [u]) >>= fun v => pure (some v)) (fun r s' => ∃ v, r = some v ∧ EP X pins σ Q v s') X.xe s :=
      wpAny_bind (wpAny_mono called (fun v s' h' => wpAny_pure ⟨v, rfl, h'⟩) fun _ _ h' => h')
    split
    · exact wpAny_bind (wpAny_pure (wpAny_pure fin))
    · exact wpAny_tryCatch (wpAny_bind (wpAny_pure (wpAny_pure fin)))
  have one : wpAny (model X.prog X.w) X.A (tryCompare (.ref a) "__ne__" u) (fun r s' => ∃ v, r = some v ∧ EP X pins σ Q v s') X.xe s := by
    unfold tryCompare
    refine wpAny_bind (wpAny_mono once (fun r s' z => ?_) fun _ _ e => e)
    obtain ⟨v, rfl, z⟩ := z
    have z' := cmpBack z
    cases v <;> first | exact z'.elim | exact wpAny_pure ⟨_, rfl, z⟩
  show wpAny _ _ (richCompare .NotEq (.ref a) u) _ _ _
  unfold richCompare
  simp only [oneThing_ref]
  refine wpAny_holding (wpAny_bind (wpAny_cRoomFor (Nat.lt_of_succ_lt hu) ?_))
  rw [cmpInfo_NotEq]
  dsimp only
  refine wpAny_bind (J.type.here (wpAny_bind (hb.here ?_)))
  split
  · rename_i z
    have e : PySem.W.subIn X.K tb (.ref C) = some false := by
      rcases Bool.or_eq_true_iff.mp nf with e | e
      · rw [beq_iff_eq.mp e] at z; simp at z
      · exact beq_iff_eq.mp e
    refine wpAny_bind ((PySem.W.looks_subIn KX e).here ?_)
    simp only [Bool.false_eq_true, if_false]
    refine wpAny_bind (wpAny_mono one (fun r s' z => ?_) fun _ _ e => e)
    obtain ⟨v, rfl, hq⟩ := z
    exact wpAny_pure hq
  · refine wpAny_bind (wpAny_pure ?_)
    simp only [Bool.false_eq_true, if_false]
    refine wpAny_bind (wpAny_mono one (fun r s' z => ?_) fun _ _ e => e)
    obtain ⟨v, rfl, hq⟩ := z
    exact wpAny_pure hq
end
end E10
set_option Elab.async false
set_option linter.all false
set_option maxRecDepth 100000
set_option maxHeartbeats 4000000
namespace E10
open L2 PySem PySem.Spec PyProof.Rows
section
variable {X : Cx} {k n : Nat} {f C : Addr} {fd : FuncData} {ps : List Str} {sp : Sp}
/-- repr(a), str(a): an own object by its own def -/
def rTextO (C : Addr) (sp : Sp) : List V → Hp → VK → Prop := fun xs H Q => ∃ (a dx : Addr) (fs : List (Str × V)), xs = [.ref a] ∧ H a = some (.ins C dx fs) ∧ sp [.ref a] H (fun v H' => ∃ z, v = .str z ∧ Q (.str z) H') E0
theorem strBack {pins : List (Addr × Obj)} {σ : L2.St} {Q : VK} {u : Value} {s' : Shared} (h : EP X pins σ (fun v H' => ∃ z, v = .str z ∧ Q (.str z) H') u s') : PySem.W.StrBack (EP X pins σ Q) u s' := by
  obtain ⟨v, H', I, r, z, rfl, q⟩ := h
  obtain ⟨t, rfl⟩ := (show ∃ t, u = Value.str z t from r)
  exact ⟨.str z, H', I, ⟨t, rfl⟩, q⟩
theorem call_reprO (F : FnG X.prog X.w X.K X.mg X.base k f fd ps sp) (hG : X.A.guards = some []) (room : Room (k + 1) X.A) (hu : X.A.units + 1 < cLine) (bi : Binds X.K fd ps []) (h : Has X.K C f "__repr__") : CallR X (.builtin "repr") (rTextO C sp) := by
  intro pins s σ H xs us Q I r h0
  obtain ⟨a, dx, fs, rfl, ha, q⟩ := h0
  obtain ⟨u, rfl, ru⟩ := vals1 r
  cases (show u = Value.ref a from ru)
  obtain ⟨mA, O, _⟩ := ins_get I.hok ha
  obtain ⟨od, J, _⟩ := O.look
  obtain ⟨m, hF⟩ := I.fr
  refine PySem.W.repr_K (show X.A.in1.units < cLine from hu) hF I.ok.mod.kin J h.at_ h.fn ?_
  exact wpAny_mono (run_at (vs := [.ref a]) F rfl hG room.in1 bi I (.cons rfl .nil) q) (fun _ _ z => strBack z) fun _ _ z => z
theorem call_strO (F : FnG X.prog X.w X.K X.mg X.base k f fd ps sp) (hG : X.A.guards = some []) (room : Room (k + 2) X.A) (hu : X.A.units + 2 < cLine) (bi : Binds X.K fd ps []) (h : Has X.K C f "__str__") : CallR X (.type "str") (rTextO C sp) := by
  intro pins s σ H xs us Q I r h0
  obtain ⟨a, dx, fs, rfl, ha, q⟩ := h0
  obtain ⟨u, rfl, ru⟩ := vals1 r
  cases (show u = Value.ref a from ru)
  obtain ⟨mA, O, _⟩ := ins_get I.hok ha
  obtain ⟨od, J, _⟩ := O.look
  refine PySem.W.kso_call (show X.A.in1.in1.units < cLine from hu) I.kIn J h.at_ h.fn ?_
  exact wpAny_mono (run_at (vs := [.ref a]) F rfl hG (Room.in1 (Room.in1 room)) bi I (.cons rfl .nil) q) (fun _ _ z => strBack z) fun _ _ z => z
/-! ### an own object, called -/
end
end E10
set_option Elab.async false
set_option linter.all false
set_option maxRecDepth 100000
set_option maxHeartbeats 4000000
namespace E10
open L2 PySem PySem.Spec PyProof.Rows Builtin Float
def okF (r : Except String FormatSpec) : FormatSpec := match r with
  | .ok f => f
  | .error _ => { fill := 32, align := 62 }
def plusF : FormatSpec := okF (parseFormatSpec ("+d" : Str).cps.toList "int" 62)
theorem plusF_ok : parseFormatSpec ("+d" : Str).cps.toList "int" 62 = .ok plusF := by
  first | rfl | decide +kernel
theorem plusF_facts : plusF.sign = some 43 ∧ plusF.width = none ∧ plusF.grouping = none ∧ plusF.precision = none ∧ plusF.noNeg0 = false ∧ plusF.alt = false ∧ plusF.fill = 32 ∧ plusF.align = 62 ∧ plusF.type.getD (if ("+d" : Str).cps.back? == some 0 then 0 else 100) = 100 := by
  refine ⟨?_, ?_, ?_, ?_, ?_, ?_, ?_, ?_, ?_⟩ <;> first | rfl | decide +kernel
/-- an int with its sign -/
def plusText (a : Int) : Str := if a < 0 then Str.ofString (toString a) else ("+" : Str) ++ Str.ofString (toString a)
theorem plus_text (a : Int) : intSpecText plusF a = plusText a := by
  obtain ⟨hs, hw, hg, _, _, _, hf, ha, _⟩ := plusF_facts
  have hd : ((Nat.toDigits 10 a.natAbs).map fun c => (if (100 : Nat) == 88 then c.toUpper else c).toNat) = (Nat.toDigits 10 a.natAbs).map Char.toNat := by
    refine List.map_congr_left fun c _ => ?_
    rfl
  have hne : ((Nat.toDigits 10 a.natAbs).map Char.toNat).isEmpty = false := by
    have := tDigits_len_ge 10 a.natAbs
    cases h : Nat.toDigits 10 a.natAbs with
    | nil => rw [h] at this; simp at this
    | cons _ _ => rfl
  unfold intSpecText intField'
  rw [hd]
  simp only [hs, hw, hg, hf, ha, hne, show ((32 : Nat) == 48) = false by decide, show ((62 : Nat) == 61) = false by decide, show ((62 : Nat) == 60) = false by decide, show ((62 : Nat) == 94) = false by decide, Bool.false_and, Bool.and_false,
    Bool.false_eq_true, if_false, List.length_nil, List.append_nil, Int.toNat_zero, Nat.zero_sub, List.replicate_zero, List.nil_append]
  have zero : ∀ (l : List Nat) (x : Nat), List.replicate (-1 - ((l.length : Int) + ((0 : Nat) : Int) + ((0 : Nat) : Int)) - (((List.map Char.toNat (Nat.toDigits 10 a.natAbs)).length : Nat) : Int)).toNat x = [] := fun l x => by
    rw [Int.toNat_eq_zero.mpr (by omega)]
    rfl
  by_cases h : a < 0
  · have e : plusText a = ⟨(45 :: (Nat.toDigits 10 a.natAbs).map Char.toNat).toArray⟩ := by
      unfold plusText
      rw [if_pos h]
      obtain ⟨n, rfl⟩ : ∃ n : Nat, a = Int.negSucc n := ⟨a.natAbs - 1, by omega⟩
      have t : Str.ofString (Nat.repr (n + 1)) = ⟨((Nat.toDigits 10 (n + 1)).map Char.toNat).toArray⟩ := text_ofNat (n + 1)
      have s : toString (Int.negSucc n) = "-" ++ Nat.repr (n + 1) := rfl
      rw [Str.ofString_eq_toList] at t
      rw [s, Str.ofString_eq_toList]
      refine Str.ext' ?_
      have t2 := congrArg Str.cps t
      simp only [String.toList_append, Int.natAbs_negSucc, List.map_append] at t2 ⊢
      have t3 := congrArg Array.toList t2
      simp only [List.toList_toArray] at t3
      rw [t3]
      rfl
    rw [e]
    simp only [decide_eq_true h, if_true]
    refine Str.ext' ?_
    rw [zero [45] 32]
    simp
  · have e : plusText a = ⟨(43 :: (Nat.toDigits 10 a.natAbs).map Char.toNat).toArray⟩ := by
      unfold plusText
      rw [if_neg h]
      obtain ⟨n, rfl⟩ := Int.eq_ofNat_of_zero_le (Int.not_lt.mp h)
      have t : Str.ofString (toString (n : Int)) = ⟨((Nat.toDigits 10 n).map Char.toNat).toArray⟩ := text_ofNat n
      rw [t]
      refine Str.ext' ?_
      rw [Str.cps_append]
      simp
      rfl
    rw [e]
    simp only [decide_eq_false h, Bool.false_eq_true, if_false]
    refine Str.ext' ?_
    rw [zero [43] 32]
    simp
section
variable {prog : Program} {w : World} {A : Around} {E : Value → Shared → Prop} {s : Shared}
theorem plus_len {a : Int} (h : a.natAbs.log2 < 1920) : (plusText a).length ≤ sizeLine := by
  have e := int_text_fits h
  unfold plusText
  split
  · exact e
  · rw [strLen_append]
    have e1 : (("+" : String) : Str).length = 1 := rfl
    have e2 := int_text_length_le (k := 1920) (by decide) h
    rw [e1, PySem.ofString_length, sizeLine_eq]
    omega
theorem field_signed {a : Int} {t : Tok} {f : FormatSpec} {Q : Value → Shared → Prop} (hd : a.natAbs.log2 < 1920) (hp : parseFormatSpec ("+d" : Str).cps.toList "int" 62 = .ok f) (hs : f.sign = some 43) (hw : f.width = none) (hgr : f.grouping = none) (hpr : f.precision = none) (hz : f.noNeg0 = false) (hal : f.alt = false)
    (hty : f.type.getD (if ("+d" : Str).cps.back? == some 0 then 0 else 100) = 100) (hlen : (intSpecText f a).length ≤ sizeLine) (h : Q (.str (intSpecText f a) (s.toks + 1)) { s with toks := s.toks + 1 + 1 }) : wpAny (model prog w) A (formatField (.int a t) "+d") Q E s := by
  have hne : ((("+d" : String) : Str).length == 0) = false := by decide
  have hasc : ((("+d" : Str).cps.toList.drop 1).any (· ≥ 128) || (("+d" : Str).cps.getD 0 0 ≥ 128 && !([60, 62, 61, 94] : List Nat).contains (("+d" : Str).cps.getD 1 0))) = false := by decide +kernel
  show wpAny _ _ (holding [.int a t] (pyFormat (.int a t) "+d")) Q E s
  refine wpAny_holding ?_
  unfold pyFormat
  refine wpAny_bind (wpAny_mkStr ?_ (by decide))
  refine wpAny_bind (m := callSpecial? (.int a t) (Str.ofString "__format__") [.str "+d" s.toks]) (wpAny_callSpecial?_slot (name := Str.ofString "__format__") (typeIs_int _ a t) slot_int_format ?_)
  refine wpAny_call (codeAny_call_builtin slot_int_format.plain entry_int_format (slot_int_format.check _ _ _ _ _ _ _ _ (typeIs_int _ a t) (args_int_format _ _) ?_))
  unfold Builtin.«int.__format__»
  simp only [selfAndOne, noKeywords, Int.intOfSelf, asInt?, asStr?, List.isEmpty_nil, if_true, pure_bind, bind_pure, bind_assoc, hne, hasc, Bool.false_eq_true, if_false,
    show (Value.str "+d" s.toks == Value.none) = false from rfl]
  refine wpAny_bind (wpAny_typeNameOf (T := "str") (typeIs_str _ _ _) (by decide) fun _ => ?_)
  first | refine wpAny_bind (wpAny_typeNameOfCut_int ?_) | refine wpAny_bind (wpAny_typeNameOf_int ?_)
  simp only [hp, hty]
  rw [if_pos (by decide)]
  show wpAny _ _ (if _ then _ else _) _ _ _
  rw [if_neg (by simp [hpr])]
  show wpAny _ _ (if _ then _ else _) _ _ _
  rw [if_neg (by simp [hz])]
  show wpAny _ _ (if _ then _ else _) _ _ _
  rw [if_neg (by decide)]
  show wpAny _ _ (do let r ← Builtin.overDigitLimit? a; _) _ _ _
  rw [PySem.overDigitLimit_small hd]
  refine wpAny_bind (wpAny_pure ?_)
  show wpAny _ _ (if _ then _ else _) _ _ _
  rw [if_neg (by simp [hw])]
  show wpAny _ _ (retStr _) _ _ _
  unfold retStr
  refine wpAny_bind (wpAny_mkStr (wpAny_pure ?_) ?hs2)
  case hs2 =>
    simp only [hal, Bool.false_eq_true, if_false, show ((10 : Nat) == 10) = true by decide, if_true]
    conv => lhs; arg 1; whnf
    simp only [intSpecText, intField', hgr, hs, hal, Bool.false_eq_true, if_false, show ((10 : Nat) == 10) = true by decide, if_true] at hlen ⊢
    exact hlen
  dsimp only
  refine wpAny_bind (wpAny_isInstance (typeIs_str _ _ _) isSubtype_str_str (wpAny_pure ?_))
  simp only [hal, Bool.false_eq_true, if_false, show ((10 : Nat) == 10) = true by decide, if_true]
  conv => arg 1; arg 1; whnf
  simp only [intSpecText, intField', hgr, hs, hal, Bool.false_eq_true, if_false, show ((10 : Nat) == 10) = true by decide, if_true] at h ⊢
  exact h
theorem formatField_plus {a : Int} {t : Tok} {Q : Value → Shared → Prop} (hd : a.natAbs.log2 < 1920) (h : Q (.str (plusText a) (s.toks + 1)) { s with toks := s.toks + 1 + 1 }) : wpAny (model prog w) A (formatField (.int a t) "+d") Q E s := by
  obtain ⟨hs, hw, hgr, hpr, hz, hal, hf, hli, hty⟩ := plusF_facts
  rw [← plus_text] at h
  exact field_signed hd plusF_ok hs hw hgr hpr hz hal hty (by rw [plus_text]; exact plus_len hd) h
end
section
variable {X : Cx}
/-- {n:+d} -/
def tFmtP (te : TE) : TE := fun σ H Q => te σ H fun x H1 => ∃ i : Int, x = .int i ∧ i.natAbs.log2 < 1920 ∧ Q (.str (plusText i)) H1
theorem pe_fmtP {e : Expr} {te : TE} {p1 p2 pos : Pos} {j : Nat} (he : PE X e te) : PE X (.FormattedValue e (-1) (some (.JoinedStr [.Constant (.str "+d") j p1] p2)) pos) (tFmtP te) := by
  refine ⟨fun pins s σ H Q I h => ?_⟩
  refine wpAny_FormattedValue_spec (thn (he.run pins s σ H _ I h) fun v s1 hv => ?_)
  obtain ⟨x, H1, I1, r1, i, rfl, hz, q⟩ := hv
  obtain ⟨t, rfl⟩ := (show ∃ t, v = Value.int i t from r1)
  refine wpAny_JoinedStr_one (thn ((pe_str (x := "+d") (j := j) (pos := p1)).run pins s1 σ H1 (fun y H2 => y = .str "+d" ∧ H2 = H1) I1 ⟨rfl, rfl⟩) fun u s2 hu => ?_)
  obtain ⟨y, H2, I2, r2, rfl, rfl⟩ := hu
  obtain ⟨t2, rfl⟩ := (show ∃ t, u = Value.str "+d" t from r2)
  exact ⟨_, t2, rfl, formatField_plus hz ⟨.str (plusText i), _, I2.tok _, ⟨_, rfl⟩, q⟩⟩
end
end E10
set_option Elab.async false
set_option linter.all false
set_option maxRecDepth 100000
set_option maxHeartbeats 4000000
namespace E10
open L2 PySem PySem.Spec PyProof.Rows
/-! ### repr of a list, a dict of small things -/
def tiny : V → Option PyData
  | .non => some .none
  | .bl b => some (.bool b)
  | .int i => if i.natAbs < 10 ^ 70 then some (.int i) else none
  | .str z => if (reprText z).length ≤ 100 then some (.str z) else none
  | _ => none
theorem log_small {i : Int} (h : i.natAbs < 10 ^ 70) : i.natAbs.log2 < 1920 := by
  by_cases z : i.natAbs = 0
  · rw [z]
    decide
  · exact (Nat.log2_lt z).mpr (Nat.lt_of_lt_of_le h (by decide +kernel))
theorem tiny_int {i : Int} {d : PyData} (h : tiny (.int i) = some d) : i.natAbs < 10 ^ 70 ∧ d = .int i := by
  have h' : (if i.natAbs < 10 ^ 70 then some (PyData.int i) else none) = some d := h
  by_cases c : i.natAbs < 10 ^ 70
  · rw [if_pos c] at h'
    exact ⟨c, (Option.some.inj h').symm⟩
  · rw [if_neg c] at h'
    cases h'
theorem tiny_str {z : Str} {d : PyData} (h : tiny (.str z) = some d) : (reprText z).length ≤ 100 ∧ d = .str z := by
  have h' : (if (reprText z).length ≤ 100 then some (PyData.str z) else none) = some d := h
  by_cases c : (reprText z).length ≤ 100
  · rw [if_pos c] at h'
    exact ⟨c, (Option.some.inj h').symm⟩
  · rw [if_neg c] at h'
    cases h'
theorem tiny_ok {x : V} {d : PyData} (h : tiny x = some d) : d.showable = true ∧ d.depth = 0 ∧ d.shown.length ≤ 100 ∧ d.hasDict = false := by
  cases x with
  | non =>
    cases h
    exact ⟨rfl, rfl, by decide, rfl⟩
  | bl b =>
    cases h
    cases b <;> exact ⟨rfl, rfl, by decide, rfl⟩
  | int i =>
    obtain ⟨hi, rfl⟩ := tiny_int h
    refine ⟨decide_eq_true (log_small hi), rfl, ?_, rfl⟩
    show (Str.ofString (toString i)).length ≤ 100
    have e := int_text_length_le10 (k := 70) (by decide) hi
    rw [PyProof.Rows.ofString_len]
    omega
  | str z =>
    obtain ⟨hz, rfl⟩ := tiny_str h
    exact ⟨rfl, rfl, hz, rfl⟩
  | _ => simp [tiny] at h
theorem tiny_reads {h : Heap} {x : V} {d : PyData} {u : Value} (t : tiny x = some d) (r : RelV x u) : Reads h u d [] := by
  cases x with
  | non =>
    cases t
    cases (show u = Value.none from r)
    exact .none
  | bl b =>
    cases t
    cases (show u = Value.bool b from r)
    exact .bool b
  | int i =>
    obtain ⟨_, rfl⟩ := tiny_int t
    obtain ⟨k, rfl⟩ := (show ∃ t, u = Value.int i t from r)
    exact .int i k
  | str z =>
    obtain ⟨_, rfl⟩ := tiny_str t
    obtain ⟨k, rfl⟩ := (show ∃ t, u = Value.str z t from r)
    exact .str z k
  | _ => simp [tiny] at t
abbrev TinyP (p : Key × V) (q : PyData × PyData) : Prop := tiny (kV p.1) = some q.1 ∧ tiny p.2 = some q.2
theorem listLen (ts : List Str) : (listText ts).length ≤ piled ts + 2 := by
  have e1 : ((("[" : String) : Str)).length = 1 := rfl
  have e2 : ((("]" : String) : Str)).length = 1 := rfl
  have e3 : ((("" : String) : Str)).length = 0 := rfl
  cases ts with
  | nil =>
    unfold listText
    rw [strLen_append, e2]
    show (("[" : String) : Str).length + 1 ≤ 0 + 2
    rw [e1]
    decide
  | cons t r =>
    unfold listText
    rw [strLen_append, e2]
    show (textFrom 1 (((("[" : String) : Str) ++ (("" : String) : Str)) ++ t) r).length + 1 ≤ _
    rw [textFrom_length_pos _ _ _ (by decide), strLen_append, strLen_append, e1, e3, piled_cons]
    omega
theorem dictLen (ts : List Str) : (dictText ts).length ≤ piled ts + 2 := by
  have e1 : ((("{" : String) : Str)).length = 1 := rfl
  have e2 : ((("}" : String) : Str)).length = 1 := rfl
  unfold dictText
  rw [strLen_append, strLen_append, e1, e2]
  by_cases h : ts = []
  · subst h
    have : (Str.join ", " []).length = 0 := rfl
    rw [this, piled_nil]
    omega
  · have := join_length_add ts h
    omega
theorem dict_ok : ∀ {ps : List (Key × V)} {qs : List (PyData × PyData)}, Paired TinyP ps qs → PyData.showableKv qs = true ∧ PyData.depthKv qs = 0 ∧ piled (PyData.shownKv qs) ≤ 204 * ps.length
  | _, _, .nil => ⟨rfl, rfl, Nat.zero_le _⟩
  | _, _, @Paired.cons _ _ _ p (kd, vd) l m r t => by
    obtain ⟨a1, b1, c1, _⟩ := tiny_ok r.1
    obtain ⟨a3, b3, c3, _⟩ := tiny_ok r.2
    obtain ⟨a2, b2, c2⟩ := dict_ok t
    refine ⟨?_, ?_, ?_⟩
    · show (_ && _ && _) = true
      rw [a1, a2, a3]
      rfl
    · show max (max _ _) _ = 0
      rw [b1, b2, b3]
      rfl
    · show piled (_ :: _) ≤ _
      have e : ((": " : String) : Str).length = 2 := rfl
      rw [piled_cons, List.length_cons, strLen_append, strLen_append, e]
      have : (kd, vd).1 = kd := rfl
      simp only at c1 c3
      omega
theorem dict_reads {P : Program} {w : World} {h : Heap} : ∀ {ps : List (Key × V)} {qs : List (PyData × PyData)} {vs : List (Key × Value)} {es : List DictEntry}, Paired TinyP ps qs → KV ps vs → Pairs (mixKind P w) es vs →
    ReadsAll h (es.map (·.key)) (qs.map (·.1)) [] ∧ ReadsAll h (es.map (·.val)) (qs.map (·.2)) []
  | _, _, _, _, .nil, .nil, .nil => ⟨.nil, .nil⟩
  | (k, v) :: _, (kd, vd) :: _, (k2, u) :: _, p :: _, .cons r t, .cons e n, .cons i1 i2 i3 => by
    obtain ⟨e1, e2⟩ := e
    simp only at e1 e2
    subst e1
    obtain ⟨a, b⟩ := dict_reads (h := h) t n i3
    have kr : Reads h p.key kd [] := by
      rcases keyIs_shape (show keyIs k p.key = true from i1) with ⟨i, t, e, e'⟩ | ⟨z, t, e, e'⟩
      · subst e
        exact tiny_reads r.1 ⟨t, e'⟩
      · subst e
        exact tiny_reads r.1 ⟨t, e'⟩
    exact ⟨.cons (as := []) (bs := []) kr a, .cons (as := []) (bs := []) (tiny_reads r.2 (show RelV v p.val by rw [i2]; exact e2)) b⟩
end E10
set_option Elab.async false
set_option linter.all false
set_option maxRecDepth 100000
set_option maxHeartbeats 4000000
/-! ### sorted of pairs of an int and a text -/
namespace E10
open L2 PySem PySem.Spec PyProof.Rows SrtO Srt
theorem codes_asym {a b : List Nat} (h : a < b) : ¬ b < a := fun z => List.lt_irrefl a (List.lt_trans h z)
theorem codes_tr {a b c : List Nat} (h1 : ¬ b < a) (h2 : ¬ c < b) : ¬ c < a := List.not_lt.mpr (List.le_trans (List.not_lt.mp h1) (List.not_lt.mp h2))
/-- v is a tuple of this int and this text -/
def IsIS (h : Heap) (v : Value) (x : Int) (y : Str) : Prop := ∃ a o t u n, v = .ref a ∧ h.get? a = some o ∧ o.cls = .type "tuple" ∧ o.data = .seq #[.int x t, .str y u] n
theorem IsIS.keeps {h h' : Heap} {v : Value} {x : Int} {y : Str} (p : IsIS h v x y) (k : ∀ b o, h.get? b = some o → o.cls = .type "tuple" → h'.get? b = some o) : IsIS h' v x y :=
  let ⟨a, o, t, u, n, e, ho, hc, hd⟩ := p
  ⟨a, o, t, u, n, e, k _ _ ho hc, hc, hd⟩
end E10
set_option Elab.async false
set_option linter.all false
set_option maxRecDepth 100000
set_option maxHeartbeats 4000000
namespace E10
open L2 PySem PySem.Spec PyProof.Rows
/-! ### repr of lists and tuples of small things, one in another -/
def Rdr (K : PySem.W.Frag) (H : Hp) : Nat → V → PyData → Prop
  | 0, x, d => tiny x = some d
  | n + 1, x, d => Rdr K H n x d ∨ (∃ a xs ds, x = .ref a ∧ d = .tuple ds ∧ SqT K H a xs ∧ xs.length ≤ 40 ∧ Paired (Rdr K H n) xs ds) ∨ (∃ a xs ds, x = .ref a ∧ d = .list ds ∧ SqL K H a xs ∧ xs.length ≤ 40 ∧ Paired (Rdr K H n) xs ds)
def bnd : Nat → Nat
  | 0 => 100
  | n + 1 => 40 * (bnd n + 2) + 10
theorem bnd_le (n : Nat) : bnd n ≤ bnd (n + 1) := by
  show _ ≤ 40 * (bnd n + 2) + 10
  omega
theorem piled_le {B : Nat} : ∀ {ts : List Str}, (∀ t ∈ ts, t.length ≤ B) → piled ts ≤ ts.length * (B + 2)
  | [], _ => by rw [piled_nil]; exact Nat.zero_le _
  | t :: r, h => by
    have a := h t (.head _)
    have b := piled_le (ts := r) fun z hz => h z (.tail _ hz)
    rw [piled_cons, List.length_cons, Nat.succ_mul]
    omega
theorem tupLen (ts : List Str) : (tupleText ts).length ≤ piled ts + 3 := by
  have e1 : ((("(" : String) : Str)).length = 1 := rfl
  have e2 : ((",)" : String) : Str).length = 2 := rfl
  have e3 : ((")" : String) : Str).length = 1 := rfl
  unfold tupleText
  rw [strLen_append, strLen_append, e1]
  have hj : (Str.join ", " ts).length ≤ piled ts := by
    by_cases h : ts = []
    · subst h
      exact Nat.le_refl 0
    · have := join_length_add ts h
      omega
  split
  · rw [e2]
    omega
  · rw [e3]
    omega
structure RdOk (n : Nat) (d : PyData) : Prop where
  sh : d.showable = true
  dp : d.depth ≤ n
  le : d.shown.length ≤ bnd n
  nd : d.hasDict = false
theorem RdOk.all {K : PySem.W.Frag} {H : Hp} {n : Nat} : ∀ {xs : List V} {ds : List PyData}, Paired (Rdr K H n) xs ds → (∀ x d, Rdr K H n x d → RdOk n d) →
    PyData.showableAll ds = true ∧ PyData.depthAll ds ≤ n ∧ (∀ t ∈ PyData.shownAll ds, t.length ≤ bnd n) ∧ (PyData.shownAll ds).length = xs.length ∧ PyData.hasDictAll ds = false
  | _, _, .nil, _ => ⟨rfl, Nat.zero_le _, nofun, rfl, rfl⟩
  | _, _, .cons r t, h => by
    obtain ⟨a1, a2, a3, a4⟩ := h _ _ r
    obtain ⟨b1, b2, b3, b4, b5⟩ := RdOk.all t h
    refine ⟨?_, ?_, fun z hz => ?_, ?_, ?_⟩
    · show (_ && _) = true
      rw [a1, b1]
      rfl
    · show max _ _ ≤ n
      omega
    · cases hz with
      | head => exact a3
      | tail _ hz => exact b3 z hz
    · show _ + 1 = _ + 1
      rw [b4]
    · show (_ || _) = false
      rw [a4, b5]
      rfl
theorem Rdr.ok {K : PySem.W.Frag} {H : Hp} : ∀ (n : Nat) {x : V} {d : PyData}, Rdr K H n x d → RdOk n d
  | 0, _, _, h => by
    obtain ⟨a, b, c, e⟩ := tiny_ok h
    exact ⟨a, by omega, c, e⟩
  | n + 1, _, _, h => by
    rcases h with h | ⟨a, xs, ds, rfl, rfl, _, l, p⟩ | ⟨a, xs, ds, rfl, rfl, _, l, p⟩
    · obtain ⟨a, b, c, e⟩ := Rdr.ok n h
      exact ⟨a, by omega, Nat.le_trans c (bnd_le n), e⟩
    · obtain ⟨b1, b2, b3, b4, b5⟩ := RdOk.all p fun _ _ => Rdr.ok n
      have pl := piled_le b3
      have tl := tupLen (PyData.shownAll ds)
      have m : (PyData.shownAll ds).length * (bnd n + 2) ≤ 40 * (bnd n + 2) := Nat.mul_le_mul_right _ (by omega)
      refine ⟨b1, show PyData.depthAll ds + 1 ≤ n + 1 by omega, ?_, b5⟩
      show (tupleText (PyData.shownAll ds)).length ≤ 40 * (bnd n + 2) + 10
      omega
    · obtain ⟨b1, b2, b3, b4, b5⟩ := RdOk.all p fun _ _ => Rdr.ok n
      have pl := piled_le b3
      have tl := listLen (PyData.shownAll ds)
      have m : (PyData.shownAll ds).length * (bnd n + 2) ≤ 40 * (bnd n + 2) := Nat.mul_le_mul_right _ (by omega)
      refine ⟨b1, show PyData.depthAll ds + 1 ≤ n + 1 by omega, ?_, b5⟩
      show (listText (PyData.shownAll ds)).length ≤ 40 * (bnd n + 2) + 10
      omega
section
variable {X : Cx} {pins : List (Addr × Obj)} {σ : L2.St} {H : Hp} {s : Shared}
theorem reads_all {n : Nat} (ih : ∀ {x : V} {d : PyData} {u : Value}, Rdr X.K H n x d → RelV x u → ∃ as, Reads s.heap u d as) : ∀ {xs : List V} {ds : List PyData} {us : List Value}, Paired (Rdr X.K H n) xs ds → Vals xs us → ∃ as, ReadsAll s.heap us ds as
  | _, _, _, .nil, .nil => ⟨_, .nil⟩
  | _, _, _, .cons r t, .cons q k => by
    obtain ⟨_, a⟩ := ih r q
    obtain ⟨_, b⟩ := reads_all ih t k
    exact ⟨_, .cons a b⟩
theorem Rdr.reads (I : Inv X pins σ H s) : ∀ (n : Nat) {x : V} {d : PyData} {u : Value}, Rdr X.K H n x d → RelV x u → ∃ as, Reads s.heap u d as
  | 0, _, _, _, h, r => ⟨_, tiny_reads h r⟩
  | n + 1, _, _, u, h, r => by
    rcases h with h | ⟨a, xs, ds, rfl, rfl, ht, _, p⟩ | ⟨a, xs, ds, rfl, rfl, hl, _, p⟩
    · exact Rdr.reads I n h r
    · cases (show u = Value.ref a from r)
      obtain ⟨its, rv, ⟨o, ho, hc, k, hd⟩, _⟩ := I.tuple ht
      obtain ⟨as, q⟩ := reads_all (fun h r => Rdr.reads I n h r) p rv
      exact ⟨_, .tuple ho hc hd (by simpa using q)⟩
    · cases (show u = Value.ref a from r)
      obtain ⟨its, rv, pl, _⟩ := I.list hl
      obtain ⟨o, ho, hc, k, hd⟩ := pl.isList
      obtain ⟨as, q⟩ := reads_all (fun h r => Rdr.reads I n h r) p rv
      exact ⟨_, .list ho hc hd (by simpa using q)⟩
end
theorem Rdr.tup {K : PySem.W.Frag} {H : Hp} {n : Nat} {a : Addr} {xs : List V} {ds : List PyData} (h : SqT K H a xs) (l : xs.length ≤ 40) (p : Paired (Rdr K H n) xs ds) : Rdr K H (n + 1) (.ref a) (.tuple ds) := .inr (.inl ⟨a, xs, ds, rfl, rfl, h, l, p⟩)
theorem Rdr.lst {K : PySem.W.Frag} {H : Hp} {n : Nat} {a : Addr} {xs : List V} {ds : List PyData} (h : SqL K H a xs) (l : xs.length ≤ 40) (p : Paired (Rdr K H n) xs ds) : Rdr K H (n + 1) (.ref a) (.list ds) := .inr (.inr ⟨a, xs, ds, rfl, rfl, h, l, p⟩)
theorem Rdr.sm {K : PySem.W.Frag} {H H' : Hp} (s : ∀ b o, H b = some o → H' b = some o) : ∀ (n : Nat) {x : V} {d : PyData}, Rdr K H n x d → Rdr K H' n x d
  | 0, _, _, h => h
  | n + 1, _, _, h => by
    have pm : ∀ {xs : List V} {ds : List PyData}, Paired (Rdr K H n) xs ds → Paired (Rdr K H' n) xs ds := fun {xs ds} p => by
      induction p with
      | nil => exact .nil
      | cons r _ ih => exact .cons (Rdr.sm s n r) ih
    rcases h with h | ⟨a, xs, ds, e1, e2, ht, l, p⟩ | ⟨a, xs, ds, e1, e2, hl, l, p⟩
    · exact .inl (Rdr.sm s n h)
    · refine .inr (.inl ⟨a, xs, ds, e1, e2, ?_, l, pm p⟩)
      rcases ht with (e | ⟨o, e⟩) | z
      · exact .inl (.inl (s _ _ e))
      · exact .inl (.inr ⟨o, s _ _ e⟩)
      · exact .inr z
    · refine .inr (.inr ⟨a, xs, ds, e1, e2, ?_, l, pm p⟩)
      rcases hl with (e | ⟨o, e⟩) | z
      · exact .inl (.inl (s _ _ e))
      · exact .inl (.inr ⟨o, s _ _ e⟩)
      · exact .inr z
end E10
set_option Elab.async false
set_option linter.all false
set_option maxRecDepth 100000
set_option maxHeartbeats 4000000
namespace E10
open L2 PySem PySem.Spec PyProof.Rows
section
variable {X : Cx} {k n : Nat} {f C : Addr} {fd : FuncData} {ps ks : List Str} {sp : Sp}
/-! ### a method called with keywords alone -/
/-! ### o[i], x in o of an own object -/
def rInO (C : Addr) (sp : Sp) (neg : Bool) : R2 := fun x y H Q => ∃ a dx fs, y = .ref a ∧ H a = some (.ins C dx fs) ∧ sp [y, x] H (fun v H' => ∃ b, v = .bl b ∧ Q (.bl (if neg then !b else b)) H') E0
theorem op_inO (F : FnG X.prog X.w X.K X.mg X.base k f fd ps sp) (hG : X.A.guards = some []) (room : Room k X.A) (bi : Binds X.K fd ps []) (h : Has X.K C f "__contains__") : OpR X (compareOp .In) (rInO C sp false) := by
  intro pins s σ H x y v u Q I rx ry h0
  obtain ⟨a, dx, fs, rfl, ha, q⟩ := h0
  cases (show u = Value.ref a from ry)
  obtain ⟨mA, O, _⟩ := ins_get I.hok ha
  obtain ⟨od, J, _⟩ := O.look
  obtain ⟨m, hF⟩ := I.fr
  refine PySem.W.in_K hF I.ok.mod.kin J h.at_ h.fn (wpAny_mono (run_at (vs := [.ref a, x]) F rfl hG room bi I (.cons rfl (.cons rx .nil)) q) (fun r s' hr => ?_) fun _ _ z => z)
  obtain ⟨v', H', I', rv, b, rfl, q'⟩ := hr
  cases (show r = Value.bool b from rv)
  exact wpAny_truthy_bool ⟨.bl b, H', I', rfl, q'⟩
theorem pe_ixO {a b : Expr} {ta tb : TE} {pos : Pos} (F : FnG X.prog X.w X.K X.mg X.base k f fd ps sp) (hG : X.A.guards = some []) (room : Room (k + 1) X.A) (bi : Binds X.K fd ps []) (h : Has X.K C f "__getitem__") (fi : PySem.W.fnIn X.K f = true) (ha : PE X a ta) (hb : PE X b tb)
    (hs : ∀ (x : Addr) (i : Value), subscripted b true (.ref x) i = runValue (.builtin "lifetime.subscript" ⟨[.ref x, i], []⟩) := by intro x i; with_unfolding_all rfl) :
    PE X (.Subscript a b pos) (tOp (fun x y H Q => ∃ a dx fs, x = .ref a ∧ H a = some (.ins C dx fs) ∧ sp [x, y] H Q E0) ta tb) := by
  refine ⟨fun pins s σ H Q I h => ?_⟩
  refine Subscript_ (binT ha hb I h fun v u s2 x y H2 I2 rx ry q => ?_)
  obtain ⟨a, dx, fs, rfl, ha, q⟩ := q
  cases (show v = Value.ref a from rx)
  obtain ⟨mA, O, _⟩ := ins_get I2.hok ha
  obtain ⟨od, J, _⟩ := O.look
  obtain ⟨m, hF⟩ := I2.fr
  exact PySem.W.sub_K hF I2.ok.mod.kin J ‹Has X.K C f "__getitem__"›.at_ fi ‹Has X.K C f "__getitem__"›.fn (run_at (vs := [.ref a, y]) F rfl hG room.in1 bi I2 (.cons rfl (.cons ry .nil)) q) (hs a u)
end
end E10
set_option Elab.async false
set_option linter.all false
set_option maxRecDepth 100000
set_option maxHeartbeats 8000000
namespace E10
open L2 PySem PySem.Spec PyProof.Rows
/-! ### the law's call, at the heap behind the top -/
/-- what is tracked there: the script, or nothing -/
structure Begins (K : PySem.W.Frag) (H : Hp) (a : Addr) (o : Obj) (xs : List V) : Prop where
  just : ∀ b u, H b = some u → b = a ∧ u = .frz o (.lst xs) ∧ K.lookup a = none
  seq : SqL K H a xs
theorem begins {K : PySem.W.Frag} {h : Heap} {a : Addr} {vs : List Value} {xs : List V} (inK : K.In h) (at_ : h.get? a = some { cls := .type "list", data := .seq vs.toArray }) (r : Vals xs vs) (few : xs.length ≤ sizeLine) :
    ∃ H, Begins K H a { cls := .type "list", data := .seq vs.toArray } xs := by
  cases z : K.lookup a with
  | none =>
    refine ⟨fun b => if b = a then some (.frz { cls := .type "list", data := .seq vs.toArray } (.lst xs)) else none, ⟨fun b u e => ?_, .inl (.inr ⟨_, if_pos rfl⟩)⟩⟩
    by_cases q : b = a
    · have e2 := (if_pos q).symm.trans e
      cases e2
      exact ⟨q, rfl, z⟩
    · have e2 := (if_neg q).symm.trans e
      cases e2
  | some o =>
    have same := inK _ _ z
    rw [at_] at same
    cases same
    refine ⟨fun _ => none, ⟨fun b u e => ?_, .inr ⟨_, vs.toArray, _, z, rfl, rfl, rfl, by rw [List.size_toArray, ← r.length]; exact few, r⟩⟩⟩
    cases (show (none : Option HO) = some u from e)
theorem goes_at {P : Program} {w : World} {K : PySem.W.Frag} {mg mb : Str → Option Value} {k : Nat} {f a : Addr} {fd : FuncData} {y : Str} {sp : Sp} {t : Shared} {vs : List Value} {xs : List V}
    (inK : K.In t.heap) (g : t.heap.Ns mainGlobals mg) (bn : t.heap.Ns builtinsNs mb) (bb : ∀ x : Str, x ≠ "__name__" → mb x = bootBuiltins x) (lim : t.heap.NoLimit) (no : t.gens = #[])
    (at_ : t.heap.get? a = some { cls := .type "list", data := .seq vs.toArray }) (r : Vals xs vs) (few : xs.length ≤ sizeLine) (room : Room k callerA)
    (F : ∀ base : Heap, K.In base → base.Ns mainGlobals mg → FnG P w K mg base k f fd [y] sp) (bi : ∀ (s : Shared) (u : Value), BindsTo s fd ⟨[u], []⟩ [(y, u)])
    (want : ∀ H : Hp, SqL K H a xs → sp [.ref a] H (fun v _ => v = .bl true) E0) :
    codeAny (model P w) callerA (.call (.ref f) ⟨[.ref a], []⟩) (fun res t' => res = .ok (.ret (.bool true)) ∧ OldK t.heap t'.heap ∧ t'.os = t.os ∧ AllBare t'.gens) t := by
  obtain ⟨H, B⟩ := begins inK at_ r few
  have ok : HOk P w H t.heap := fun b u e => by
    obtain ⟨rfl, rfl, _⟩ := B.just b u e
    exact ⟨at_, few, vs, _, r, at_⟩
  have out : ∀ {b : Addr} {m : Str → Option Value}, t.heap.Ns b m → (hidT t.heap H).Ns b m := fun {b m} ⟨o, es, ep, e, d, q⟩ => by
    refine ⟨o, es, ep, hidT_get e ?_, d, q⟩
    cases z : H b with
    | none => rfl
    | some u =>
      obtain ⟨rfl, _, _⟩ := B.just b u z
      rw [at_] at e
      cases e
      cases (show Data.seq vs.toArray _ = Data.dict es ep from d)
  have inB : K.In (hidT t.heap H) := fun b o e => by
    refine hidT_get (inK b o e) ?_
    cases z : H b with
    | none => rfl
    | some u =>
      obtain ⟨rfl, _, n⟩ := B.just b u z
      rw [n] at e
      cases e
  obtain ⟨mc, l1, l2⟩ := lim
  have env : Env0 P w K mg (hidT t.heap H) callerA [] t H := ⟨rfl, ⟨inB, out g, ⟨mb, out bn, bb⟩, ⟨mc, out l1, l2⟩⟩, fun _ _ e => of_hidT e, Nat.le_of_eq (hidT_size _ _), trivial, (fun b m => absurd (show b ∈ ([] : List Addr) from m) (List.not_mem_nil)), ok, .of_eq no⟩
  refine codeAny_mono ((F _ inB (out g)).goes (us := [.ref a]) (vs := [.ref a]) rfl room env (bi t (.ref a)) (.cons rfl .nil) (want H B.seq)) fun res t' ends => ?_
  match res, ends with
  | .error _, z => exact z.elim
  | .ok .next, z => exact z.elim
  | .ok .brk, z => exact z.elim
  | .ok .cont, z => exact z.elim
  | .ok (.ret u), ⟨v, H', os, bare, un, ok', rv, q⟩ =>
    cases (show v = V.bl true from q)
    cases (show u = Value.bool true from rv)
    refine ⟨rfl, OldK.of_keep fun b o e => ?_, os, bare⟩
    cases z : H b with
    | none => exact un.keep b o e z (fun m => by cases m) (fun m => by cases m)
    | some u =>
      obtain ⟨rfl, rfl, _⟩ := B.just b u z
      rw [at_] at e
      cases e
      exact (ok' _ _ (un.frzs _ _ _ z)).1
theorem walkG {l : PySem.W.OpenLaw} {n k : Nat} {q : Program} {loose : List Str} {XP : (Str → Option Value) → Heap → Prop} {YP : World → Heap → Prop} {d : DefRec} {y : Str} (most : l.most = some n) (line : n ≤ sizeLine) (df : d.params.defaults = []) (room : Room k callerA)
    (F : ∀ (w : World) (mg : Str → Option Value) (f : Addr) (h : Heap), YP w h → h.Ns mainGlobals mg → mg d.name = some (.ref f) → ∃ (K : PySem.W.Frag) (fd : FuncData) (sp : Sp), K.In h ∧ (∀ (s : Shared) (u : Value), BindsTo s fd ⟨[u], []⟩ [(y, u)]) ∧
      (∀ (H : Hp) (a : Addr) (ns : List Int), ns.length ≤ n → SqL K H a (ns.map V.int) → sp [.ref a] H (fun v _ => v = .bl true) E0) ∧ ∀ base : Heap, K.In base → base.Ns mainGlobals mg → FnG l.prog w K mg base k f fd [y] sp) :
    PySem.W.WalkO q loose XP YP l.row.toRowW d [] (fun f vs => PySem.call f vs) := by
  refine Att.attach_call most df fun w s0 t mg mb f o pm cd doc a vs ns G Y at_f is_f rec_f is_g at_a nums few no => ?_
  obtain ⟨K, fd, sp, inK, bi, want, G2⟩ := F w mg f _ Y G.T.g is_g
  exact goes_at inK G.T.g G.T.b G.T.builtins G.T.nolimit no at_a (vals_ints nums) (by rw [List.length_map]; exact Nat.le_trans few line) room G2 bi fun H S => want H a ns few S
end E10
set_option Elab.async false
set_option linter.all false
set_option maxRecDepth 100000
set_option maxHeartbeats 4000000
namespace E10
open L2 PySem PySem.Spec PyProof.Rows
open He (eqO eqO_ok ba ga ma)
/-! ### looks at the heap behind the top, and what follows from them -/
section
variable {K : PySem.W.Frag}
def gloB (K : PySem.W.Frag) (x : Str) : Bool := eqO (PySem.W.nsIn K mainGlobals x) (some (some (.ref (ga K x))))
def freeB (K : PySem.W.Frag) (x : Str) : Bool := eqO (PySem.W.nsIn K mainGlobals x) (some none)
def intB (K : PySem.W.Frag) (p : Str × Int) : Bool := (He.Fa.int p.1 p.2).ok K
def mB (K : PySem.W.Frag) (C : Addr) (m : Str) : Bool := eqO (PySem.W.findIn K (.ref C) m) (some (some (.ref (ma K C m)))) && PySem.W.isFn K (.ref (ma K C m))
theorem mB_ok {C : Addr} {m : Str} (h : mB K C m = true) : Has K C (ma K C m) m := ⟨eqO_ok (ba h).1, (ba h).2⟩
def clB (K : PySem.W.Frag) (C : Addr) : Bool := PySem.W.plainGet K C Str.empty && (PySem.W.hasDictIn K C && (PySem.W.plainOver K C && eqO (PySem.W.findIn K (.ref C) "__setattr__") (some (some (.builtin "object.__setattr__")))))
theorem clB_ok {C : Addr} (h : clB K C = true) : Cls K C := by
  obtain ⟨a, h⟩ := ba h
  obtain ⟨b, h⟩ := ba h
  obtain ⟨c, d⟩ := ba h
  exact ⟨a, b, c, eqO_ok d⟩
def noB (K : PySem.W.Frag) (C : Addr) (f : Str) : Bool := eqO (PySem.W.findIn K (.ref C) f) (some none)
def propB (K : PySem.W.Frag) (C : Addr) (f : Str) : Bool := eqO (PySem.W.findIn K (.ref C) f) (some (some (.ref (ma K C f)))) && (eqO (PySem.W.specialIn K (.ref (ma K C f)) "__get__") (some (some (.builtin "property.__get__"))) && (decide (PySem.W.takesIn K (.ref (ma K C f)) = some true) &&
  match PySem.W.recIn K (ma K C f) "property" with
  | some (.ref _ :: _) => true
  | _ => false))
theorem propB_ok {C : Addr} {f : Str} (h : propB K C f = true) : PropOf K C f (ma K C f) (He5.wf K C "property" f) := by
  obtain ⟨a, h⟩ := ba h
  obtain ⟨b, h⟩ := ba h
  obtain ⟨c, h⟩ := ba h
  refine ⟨eqO_ok a, eqO_ok b, of_decide_eq_true c, ?_⟩
  unfold He5.wf
  split at h
  · rename_i g r e
    exact ⟨r, by rw [e]⟩
  · cases h
def neB (K : PySem.W.Frag) (C : Addr) : Bool := eqO (PySem.W.findIn K (.ref C) "__ne__") (some (some (.builtin "object.__ne__"))) && (decide (PySem.W.mroIn K C (.type "object") = some true) && decide (PySem.W.subIn K (.ref C) (.type "object") = some true))
theorem neB_ok {C : Addr} (h : neB K C = true) : NeBy K C := by
  obtain ⟨a, h⟩ := ba h
  obtain ⟨b, c⟩ := ba h
  exact ⟨eqO_ok a, of_decide_eq_true b, of_decide_eq_true c⟩
def mkB (K : PySem.W.Frag) (C : Addr) : Bool := PySem.W.makesIn K C && (mB K C "__init__" && PySem.W.keepIn K (.ref C))
theorem mkB_ok {C : Addr} (h : mkB K C = true) : Mk K C (ma K C "__init__") := by
  obtain ⟨a, h⟩ := ba h
  obtain ⟨b, c⟩ := ba h
  exact ⟨a, (mB_ok b).at_, (mB_ok b).fn, c⟩
def intX (K : PySem.W.Frag) (C : Addr) : Bool := decide (PySem.W.subIn K (.type "int") (.ref C) = some false) && decide (PySem.W.subIn K (.ref C) (.type "int") = some false)
theorem intX_ok {C : Addr} (h : intX K C = true) : PySem.W.subIn K (.type "int") (.ref C) = some false ∧ PySem.W.subIn K (.ref C) (.type "int") = some false := ⟨of_decide_eq_true (ba h).1, of_decide_eq_true (ba h).2⟩
def metB (K : PySem.W.Frag) (C : Addr) (m : Str) : Bool := mB K C m && PySem.W.keepIn K (.ref (ma K C m))
theorem metB_ok {C : Addr} {m : Str} (h : metB K C m = true) : Meth K C m (ma K C m) := ⟨(mB_ok (ba h).1).at_, (mB_ok (ba h).1).fn, (ba h).2⟩
variable {x qual : Str} {params : Arguments} {body : List Stmt} {scope : Scope} {dvs : List V} {f : Addr} {fd : FuncData} {ps : List Str}
/-- every parameter is given, by place, to a def that has defaults -/
theorem binds_full (F : FunD K x qual params body scope dvs [] f fd) (hd : dvs ≠ [])
    (h : ∀ (T : Addr) (kV doc pm : Value) (an : Option Addr) (cdv ct : Value) (us its : List Value), us.length = ps.length → its.length = dvs.length →
      ∃ k, bindArgs (PySem.W.fnOf x qual params body scope (.ref T) kV doc pm an cdv ct) ⟨us, []⟩ = seqItems? (.ref T) >>= k ∧ k (some its.toArray) = pure (ps.zip us)) : Binds K fd ps [] := by
  obtain ⟨oc, od, dV, kV, doc, pm, an, cdv, ct, osl, rfl, lk, hcd, hD, _⟩ := F.ex
  rcases hD with ⟨e, _⟩ | ⟨_, T, o, its, m, rfl, lT, oT, rT⟩
  · exact absurd e hd
  · refine fun s us X hlen => ?_
    rw [List.append_nil] at hlen ⊢
    obtain ⟨k, e1, e2⟩ := h T kV doc pm an cdv ct us its hlen rT.length.symm
    refine BindsTo.of_looks fun M => ?_
    rw [e1]
    exact looks_items X lT oT (.of_pure e2)
end
section
variable {P : Program} {w : World} {K : PySem.W.Frag} {mg : Str → Option Value} {base : Heap}
theorem glo_of (X : K.In base) (G : base.Ns mainGlobals mg) {l : List Str} (h : l.all (gloB K) = true) (i : Nat) {x : Str} (e : l[i]? = some x := by rfl) : mg x = some (.ref (ga K x)) :=
  PySem.W.mg_of X G (eqO_ok (List.all_eq_true.mp h x (List.mem_of_getElem? e)))
theorem free_of (X : K.In base) (G : base.Ns mainGlobals mg) {l : List Str} (h : l.all (freeB K) = true) (i : Nat) {x : Str} (e : l[i]? = some x := by rfl) : mg x = none :=
  PySem.W.mg_none_of X G (eqO_ok (List.all_eq_true.mp h x (List.mem_of_getElem? e)))
theorem int_of (X : K.In base) (G : base.Ns mainGlobals mg) {l : List (Str × Int)} (h : l.all (intB K) = true) (i : Nat) {x : Str} {n : Int} (e : l[i]? = some (x, n) := by rfl) : ∃ t, mg x = some (.int n t) :=
  He.int_ok X G (List.all_eq_true.mp h _ (List.mem_of_getElem? e))
theorem fun_of {x qual : Str} {st : Stmt} {f : Addr} {fd : FuncData} (F : FunD K x qual (defArgs st) (defBody st) (defScope st) [] [] f fd) : Fun K x qual st f fd := He5.fun_of F
theorem one_fd {x q : Str} {st : Stmt} {f : Addr} {fd fd' : FuncData} (F : Fun K x q st f fd) (F' : Fun K x q st f fd') : fd' = fd := by
  obtain ⟨oc, od, _, _, _, _, _, _, osl, _, l, _⟩ := F.ex
  obtain ⟨oc', od', _, _, _, _, _, _, osl', _, l', _⟩ := F'.ex
  have e := l'.symm.trans l
  simp only [Option.some.injEq, Obj.mk.injEq, Data.func.injEq] at e
  exact e.2.2.1
end
/-- one parameter behind n given ones, passed by its name -/
theorem kb_one {K : PySem.W.Frag} {x qual : Str} {st : Stmt} {f : Addr} {fd : FuncData} {ps : List Str} (F : Fun K x qual st f fd) (n : Nat) (ks : List Str) (g : List Value → List Value → List Value) (gV : List V → List V → List V)
    (hrel : ∀ {vs zs : List V} {us ws : List Value}, Vals vs us → Vals zs ws → Vals (gV vs zs) (g us ws))
    (h : ∀ (kV doc pm : Value) (an : Option Addr) (cdv ct : Value) (us ws : List Value), us.length = n → ws.length = ks.length →
      bindArgs (PySem.W.fnOf x qual (defArgs st) (defBody st) (defScope st) .none kV doc pm an cdv ct) ⟨us, ks.zip ws⟩ = pure (ps.zip (g us ws))) : KBn K fd ps n ks g gV := by
  obtain ⟨oc, od, kV, doc, pm, an, cdv, ct, osl, rfl, lk, hcd⟩ := F.ex
  exact ⟨fun s us ws _ l1 l2 => BindsTo.of_eq (h kV doc pm an cdv ct us ws l1 l2), fun r1 r2 => hrel r1 r2⟩
end E10
set_option Elab.async false
set_option linter.all false
set_option maxRecDepth 100000
set_option maxHeartbeats 4000000
/-! ### what is looked at behind the top -/
namespace Pu
open L2 PySem PySem.Spec PyProof.Rows E10
open He (eqO eqO_ok ba ga ma)
def tyNs : List String := ["NoneType", "bool", "int", "str", "tuple", "list", "dict"]
def tyMs : List String := ["int", "str", "bool", "list", "tuple", "dict"]
def insB (K : PySem.W.Frag) (C : Addr) : Bool := clB K C && (eqO (PySem.W.findIn K (.ref C) "__class__") (some (some (.builtin "object.__class__"))) && (eqO (PySem.W.specialIn K (.builtin "object.__class__") "__get__") (some (some (.builtin "getset_descriptor.__get__"))) &&
  (decide (PySem.W.takesIn K (.builtin "object.__class__") = some true) && decide (PySem.W.mroIn K C (.type "object") = some true))))
def ownsB (K : PySem.W.Frag) (cs : List Addr) : Bool := (cs.all (insB K)) && ((cs.all fun C => tyNs.all fun a => decide (PySem.W.kitOne K (.type a) (.ref C) = some false)) && ((cs.all fun C => cs.all fun D => decide (PySem.W.kitOne K (.ref C) (.ref D) = some (decide (C = D)))) &&
  (cs.all fun C => tyMs.all fun a => decide (PySem.W.kitOne K (.ref C) (.type a) = some false))))
def eqsB (K : PySem.W.Frag) (C : Addr) (cs : List Addr) : Bool := (tyNs.all fun a => PySem.W.notFirst K C (.type a)) && ((cs.all fun D => PySem.W.notFirst K C (.ref D)) && neB K C)
def firB (K : PySem.W.Frag) (C : Addr) : Bool := PySem.W.selfFirst K C && intX K C
/-- no list is tracked behind the top -/
def nolB (K : PySem.W.Frag) : Bool := K.all fun p => match p.2.cls with
  | .type n => decide (n ≠ "list")
  | _ => true
def rdB (K : PySem.W.Frag) (C : Addr) : Bool := PySem.W.readsIn K C (.type "type") && He.eqO (PySem.W.specialIn K (.ref C) "__getattribute__") (some (some (.builtin "type.__getattribute__")))
end Pu
set_option Elab.async false
set_option linter.all false
set_option maxRecDepth 100000
set_option maxHeartbeats 4000000
/-! Errors as values: made by position and by keyword, their attributes, isinstance. -/
set_option Elab.async false
set_option linter.all false
set_option maxRecDepth 100000
set_option maxHeartbeats 4000000
set_option Elab.async false
set_option linter.all false
set_option maxRecDepth 100000
set_option maxHeartbeats 4000000
set_option Elab.async false
set_option linter.all false
set_option maxRecDepth 100000
set_option maxHeartbeats 4000000
set_option Elab.async false
set_option linter.all false
set_option maxRecDepth 100000
set_option maxHeartbeats 4000000
namespace E10
open L2 PySem PySem.Spec PyProof.Rows
/-! ### the text by places -/
abbrev top (i : Nat) : Stmt := PySem.Challenge.pw_anyofthese_k12_earliest_ones_made_and_to.main.body.getD i (.Pass ⟨0, 0, 0, 0⟩)
abbrev inC (i j : Nat) : Stmt := match top i with
  | .ClassDef (body := b) .. => b.getD j (.Pass ⟨0, 0, 0, 0⟩)
  | _ => .Pass ⟨0, 0, 0, 0⟩
abbrev s_is_name : Stmt := top 15
abbrev s_is_integer : Stmt := top 16
abbrev s_is_moment_of : Stmt := top 17
abbrev s_has_names : Stmt := top 18
abbrev s_check_shift : Stmt := top 21
abbrev s_check_moment : Stmt := top 23
abbrev s_in_order : Stmt := top 25
abbrev s_moved : Stmt := top 26
abbrev s_left_out : Stmt := top 27
abbrev s_term_text : Stmt := top 30
abbrev s_check_shifts : Stmt := top 33
abbrev s__law_pot : Stmt := top 38
abbrev s__law_draw : Stmt := top 39
abbrev s__law_choice : Stmt := top 40
abbrev s__law_names : Stmt := top 41
abbrev s__law_number : Stmt := top 42
abbrev s__law_text : Stmt := top 43
abbrev s__law_is_earliest : Stmt := top 44
abbrev s__law_in_right : Stmt := top 45
abbrev s__law_equals_right : Stmt := top 46
abbrev s__law_without_right : Stmt := top 47
abbrev s__law_right : Stmt := top 48
abbrev s_law : Stmt := top 49
abbrev m_Earliest___init__ : Stmt := inC 34 0
abbrev m_Earliest_of : Stmt := inC 34 1
abbrev m_Earliest_moments : Stmt := inC 34 2
abbrev m_Earliest_shifts : Stmt := inC 34 3
abbrev m_Earliest___getitem__ : Stmt := inC 34 4
abbrev m_Earliest___contains__ : Stmt := inC 34 5
abbrev m_Earliest___len__ : Stmt := inC 34 6
abbrev m_Earliest___add__ : Stmt := inC 34 10
abbrev m_Earliest___radd__ : Stmt := inC 34 11
abbrev m_Earliest___sub__ : Stmt := inC 34 12
abbrev m_Earliest_without : Stmt := inC 34 15
abbrev m_Earliest___eq__ : Stmt := inC 34 17
abbrev m_Earliest___str__ : Stmt := inC 34 18
abbrev m_Earliest___repr__ : Stmt := inC 34 19
abbrev m_Term___init__ : Stmt := inC 36 0
abbrev m_Term___eq__ : Stmt := inC 36 10
end E10
set_option Elab.async false
set_option linter.all false
set_option maxRecDepth 100000
set_option maxHeartbeats 4000000
namespace E10
open L2 PySem PySem.Spec PyProof.Rows
open He (ga ma)
/-! ### what is looked at behind the top -/
def nfree : List Str := (["isinstance", "all", "any", "len", "range", "int", "max", "min", "abs", "divmod", "repr", "str", "dict", "zip", "bool", "tuple", "sorted", "list", "sum", "set", "enumerate", "reversed"] : List Str)
def nglob : List Str := (["_law_pot", "_law_draw", "_law_choice", "_law_names", "_law_number", "is_name", "has_names", "is_integer", "check_shifts", "in_order", "is_moment_of", "check_moment", "_law_text", "term_text", "_law_is_earliest", "check_shift", "_law_in_right", "_law_equals_right", "moved", "left_out", "_law_without_right", "_law_right", "law", "Earliest", "Term"] : List Str)
def nints : List (Str × Int) := [("MOST_LETTERS", 8), ("MOST_TERMS", 8)]
def dfs0 : List He5.DefA := [⟨fun K => ga K "_law_pot", "_law_pot", "_law_pot", defArgs s__law_pot, defBody s__law_pot, defScope s__law_pot, [], []⟩,
  ⟨fun K => ga K "_law_draw", "_law_draw", "_law_draw", defArgs s__law_draw, defBody s__law_draw, defScope s__law_draw, [], []⟩,
  ⟨fun K => ga K "_law_choice", "_law_choice", "_law_choice", defArgs s__law_choice, defBody s__law_choice, defScope s__law_choice, [], []⟩,
  ⟨fun K => ga K "_law_names", "_law_names", "_law_names", defArgs s__law_names, defBody s__law_names, defScope s__law_names, [], []⟩,
  ⟨fun K => ga K "_law_number", "_law_number", "_law_number", defArgs s__law_number, defBody s__law_number, defScope s__law_number, [], []⟩,
  ⟨fun K => ga K "is_name", "is_name", "is_name", defArgs s_is_name, defBody s_is_name, defScope s_is_name, [], []⟩,
  ⟨fun K => ga K "has_names", "has_names", "has_names", defArgs s_has_names, defBody s_has_names, defScope s_has_names, [], []⟩,
  ⟨fun K => ga K "is_integer", "is_integer", "is_integer", defArgs s_is_integer, defBody s_is_integer, defScope s_is_integer, [], []⟩,
  ⟨fun K => ga K "check_shifts", "check_shifts", "check_shifts", defArgs s_check_shifts, defBody s_check_shifts, defScope s_check_shifts, [], []⟩,
  ⟨fun K => ga K "in_order", "in_order", "in_order", defArgs s_in_order, defBody s_in_order, defScope s_in_order, [], []⟩,
  ⟨fun K => ma K (ga K "Earliest") "__init__", "__init__", "Earliest.__init__", defArgs m_Earliest___init__, defBody m_Earliest___init__, defScope m_Earliest___init__, [], []⟩,
  ⟨fun K => He5.wf K (ga K "Earliest") "property" "moments", "moments", "Earliest.moments", defArgs m_Earliest_moments, defBody m_Earliest_moments, defScope m_Earliest_moments, [], []⟩,
  ⟨fun K => ma K (ga K "Earliest") "__len__", "__len__", "Earliest.__len__", defArgs m_Earliest___len__, defBody m_Earliest___len__, defScope m_Earliest___len__, [], []⟩,
  ⟨fun K => ma K (ga K "Earliest") "shifts", "shifts", "Earliest.shifts", defArgs m_Earliest_shifts, defBody m_Earliest_shifts, defScope m_Earliest_shifts, [], []⟩,
  ⟨fun K => ga K "is_moment_of", "is_moment_of", "is_moment_of", defArgs s_is_moment_of, defBody s_is_moment_of, defScope s_is_moment_of, [], []⟩,
  ⟨fun K => ga K "check_moment", "check_moment", "check_moment", defArgs s_check_moment, defBody s_check_moment, defScope s_check_moment, [], []⟩,
  ⟨fun K => ma K (ga K "Earliest") "__getitem__", "__getitem__", "Earliest.__getitem__", defArgs m_Earliest___getitem__, defBody m_Earliest___getitem__, defScope m_Earliest___getitem__, [], []⟩,
  ⟨fun K => ga K "_law_text", "_law_text", "_law_text", defArgs s__law_text, defBody s__law_text, defScope s__law_text, [], []⟩,
  ⟨fun K => ga K "term_text", "term_text", "term_text", defArgs s_term_text, defBody s_term_text, defScope s_term_text, [], []⟩,
  ⟨fun K => ma K (ga K "Earliest") "__str__", "__str__", "Earliest.__str__", defArgs m_Earliest___str__, defBody m_Earliest___str__, defScope m_Earliest___str__, [], []⟩]
def dfs1 : List He5.DefA := [⟨fun K => ma K (ga K "Earliest") "__repr__", "__repr__", "Earliest.__repr__", defArgs m_Earliest___repr__, defBody m_Earliest___repr__, defScope m_Earliest___repr__, [], []⟩,
  ⟨fun K => ga K "_law_is_earliest", "_law_is_earliest", "_law_is_earliest", defArgs s__law_is_earliest, defBody s__law_is_earliest, defScope s__law_is_earliest, [], []⟩,
  ⟨fun K => ga K "check_shift", "check_shift", "check_shift", defArgs s_check_shift, defBody s_check_shift, defScope s_check_shift, [], []⟩,
  ⟨fun K => ma K (ga K "Term") "__init__", "__init__", "Term.__init__", defArgs m_Term___init__, defBody m_Term___init__, defScope m_Term___init__, [.int 0], []⟩,
  ⟨fun K => ma K (ga K "Earliest") "__contains__", "__contains__", "Earliest.__contains__", defArgs m_Earliest___contains__, defBody m_Earliest___contains__, defScope m_Earliest___contains__, [], []⟩,
  ⟨fun K => ga K "_law_in_right", "_law_in_right", "_law_in_right", defArgs s__law_in_right, defBody s__law_in_right, defScope s__law_in_right, [], []⟩,
  ⟨fun K => ma K (ga K "Earliest") "__eq__", "__eq__", "Earliest.__eq__", defArgs m_Earliest___eq__, defBody m_Earliest___eq__, defScope m_Earliest___eq__, [], []⟩,
  ⟨fun K => ma K (ga K "Term") "__eq__", "__eq__", "Term.__eq__", defArgs m_Term___eq__, defBody m_Term___eq__, defScope m_Term___eq__, [], []⟩,
  ⟨fun K => ga K "_law_equals_right", "_law_equals_right", "_law_equals_right", defArgs s__law_equals_right, defBody s__law_equals_right, defScope s__law_equals_right, [], []⟩,
  ⟨fun K => ga K "moved", "moved", "moved", defArgs s_moved, defBody s_moved, defScope s_moved, [], []⟩,
  ⟨fun K => ma K (ga K "Earliest") "__add__", "__add__", "Earliest.__add__", defArgs m_Earliest___add__, defBody m_Earliest___add__, defScope m_Earliest___add__, [], []⟩,
  ⟨fun K => ma K (ga K "Earliest") "__radd__", "__radd__", "Earliest.__radd__", defArgs m_Earliest___radd__, defBody m_Earliest___radd__, defScope m_Earliest___radd__, [], []⟩,
  ⟨fun K => ma K (ga K "Earliest") "__sub__", "__sub__", "Earliest.__sub__", defArgs m_Earliest___sub__, defBody m_Earliest___sub__, defScope m_Earliest___sub__, [], []⟩,
  ⟨fun K => He5.wf K (ga K "Earliest") "staticmethod" "of", "of", "Earliest.of", defArgs m_Earliest_of, defBody m_Earliest_of, defScope m_Earliest_of, [], []⟩,
  ⟨fun K => ga K "left_out", "left_out", "left_out", defArgs s_left_out, defBody s_left_out, defScope s_left_out, [], []⟩,
  ⟨fun K => ma K (ga K "Earliest") "without", "without", "Earliest.without", defArgs m_Earliest_without, defBody m_Earliest_without, defScope m_Earliest_without, [], []⟩,
  ⟨fun K => ga K "_law_without_right", "_law_without_right", "_law_without_right", defArgs s__law_without_right, defBody s__law_without_right, defScope s__law_without_right, [], []⟩,
  ⟨fun K => ga K "_law_right", "_law_right", "_law_right", defArgs s__law_right, defBody s__law_right, defScope s__law_right, [], []⟩,
  ⟨fun K => ga K "law", "law", "law", defArgs s_law, defBody s_law, defScope s_law, [], []⟩]
def dfs : List He5.DefA := dfs0 ++ dfs1
def chks (K : PySem.W.Frag) : List Bool := [nfree.all (freeB K),
  nglob.all (gloB K),
  nints.all (intB K),
  Pu.ownsB K [(ga K "Earliest"), (ga K "Term")],
  Pu.firB K (ga K "Earliest"),
  noB K (ga K "Earliest") "_shifts",
  Pu.eqsB K (ga K "Earliest") [(ga K "Earliest"), (ga K "Term")],
  mB K (ga K "Earliest") (dunderR "add"),
  noB K (ga K "Earliest") (dunderR "sub"),
  mB K (ga K "Earliest") (PySem.dunder "add"),
  Pu.firB K (ga K "Term"),
  noB K (ga K "Term") "_moment",
  noB K (ga K "Term") "_shift",
  Pu.eqsB K (ga K "Term") [(ga K "Earliest"), (ga K "Term")],
  mB K (ga K "Term") (dunderR "add"),
  noB K (ga K "Term") (dunderR "sub"),
  mkB K (ga K "Earliest"),
  propB K (ga K "Earliest") "moments",
  mB K (ga K "Earliest") "__len__",
  metB K (ga K "Earliest") "shifts",
  mB K (ga K "Earliest") "__getitem__",
  PySem.W.fnIn K (ma K (ga K "Earliest") "__getitem__"),
  mB K (ga K "Earliest") "__str__",
  mB K (ga K "Earliest") "__repr__",
  mkB K (ga K "Term"),
  mB K (ga K "Earliest") "__contains__",
  mB K (ga K "Earliest") "__eq__",
  mB K (ga K "Term") "__eq__",
  mB K (ga K "Earliest") (PySem.dunder "add"),
  mB K (ga K "Earliest") (dunderR "add"),
  mB K (ga K "Earliest") (PySem.dunder "sub"),
  He5.wrapB K (ga K "Earliest") "staticmethod" "staticmethod.__get__" "of",
  Pu.rdB K (ga K "Earliest"),
  metB K (ga K "Earliest") "without",
  decide ((ga K "Earliest") ≠ (ga K "Term")),
  Pu.nolB K,
  dfs.all (He5.DefA.ok K)]
abbrev Al : Type := Bool × List He.FnW
def obsK (K : PySem.W.Frag) : Al := ((chks K).all id, dfs.map fun d => He5.fnA K (d.at_ K))
def val0 : Al := (true, dfs.map He5.DefA.val)
def frag (g : Addr → Option Obj) : PySem.W.Frag := He.frG g (cStatics :: He.asD g 5)
def hook : PySem.W.Hook where
  α := Al
  obs := fun s => obsK (frag s.heap.get?)
  val := fun _ => val0
  says := fun _ h => ∃ K : PySem.W.Frag, K.In h ∧ obsK K = val0
  of := fun _ _ e => ⟨_, He.frG_in, e⟩
  keeps := fun _ _ _ ⟨K, hK, c⟩ k => ⟨K, PySem.W.Frag.In.keeps hK k, c⟩
abbrev R : PySem.W.OpenRow := PySem.W.OpenLaw.row PySem.Challenge.rw_anyofthese_k12_earliest_ones_made_and_to
abbrev qv : Program := PySem.W.view R.prog [49]
abbrev iLaw : Nat := 49
def names0 : List Str := (["_wall", "AnyError", "InvalidName", "InvalidShift", "InvalidShifts", "InvalidTimes", "MissingError", "UnknownMoment", "StateError", "LastOne", "LimitError", "TooMany", "MOST_LETTERS", "is_name", "is_integer", "is_moment_of", "has_names", "is_times", "check_shift", "check_times"] : List Str)
def names1 : List Str := (["check_moment", "in_order", "moved", "left_out", "least_of", "term_text", "MOST_TERMS", "check_shifts", "Earliest", "Term", "_law_pot", "_law_draw", "_law_choice", "_law_names", "_law_number", "_law_text", "_law_is_earliest", "_law_in_right", "_law_equals_right", "_law_without_right"] : List Str)
def names2 : List Str := (["_law_right"] : List Str)
def names : List Str := names0 ++ names1 ++ names2
def ob (s : PySem.W.SharedT) : Al := obsK (frag (HandSHeadRun.getT s))
theorem ob_eq (s : PySem.W.SharedT) : ob s = hook.obs s.abs := by
  have e : HandSHeadRun.getT s = s.abs.heap.get? := funext (HandSHeadRun.getT_eq s)
  show obsK (frag (HandSHeadRun.getT s)) = _
  rw [e]
  rfl
section
variable {K : PySem.W.Frag}
theorem bit_of (c : obsK K = val0) (i : Nat) {b : Bool} (h : (chks K)[i]? = some b := by rfl) : b = true :=
  List.all_eq_true.mp (show (chks K).all id = true from congrArg (fun t : Al => t.1) c) _ (List.mem_of_getElem? h)
theorem bFree (c : obsK K = val0) : nfree.all (freeB K) = true := bit_of c 0
theorem bGlob (c : obsK K = val0) : nglob.all (gloB K) = true := bit_of c 1
theorem bInts (c : obsK K = val0) : nints.all (intB K) = true := bit_of c 2
theorem bOwns (c : obsK K = val0) : Pu.ownsB K [(ga K "Earliest"), (ga K "Term")] = true := bit_of c 3
theorem bFir_Earliest (c : obsK K = val0) : Pu.firB K (ga K "Earliest") = true := bit_of c 4
theorem bNo_Earliest__shifts (c : obsK K = val0) : noB K (ga K "Earliest") "_shifts" = true := bit_of c 5
theorem bEqs_Earliest (c : obsK K = val0) : Pu.eqsB K (ga K "Earliest") [(ga K "Earliest"), (ga K "Term")] = true := bit_of c 6
theorem bRadd_Earliest (c : obsK K = val0) : mB K (ga K "Earliest") (dunderR "add") = true := bit_of c 7
theorem bRsub_Earliest (c : obsK K = val0) : noB K (ga K "Earliest") (dunderR "sub") = true := bit_of c 8
theorem bHadd_Earliest (c : obsK K = val0) : mB K (ga K "Earliest") (PySem.dunder "add") = true := bit_of c 9
theorem bNo_Term__moment (c : obsK K = val0) : noB K (ga K "Term") "_moment" = true := bit_of c 11
theorem bNo_Term__shift (c : obsK K = val0) : noB K (ga K "Term") "_shift" = true := bit_of c 12
theorem bMk_Earliest (c : obsK K = val0) : mkB K (ga K "Earliest") = true := bit_of c 16
theorem bProp_Earliest_moments (c : obsK K = val0) : propB K (ga K "Earliest") "moments" = true := bit_of c 17
theorem bSp_Earliest___len__ (c : obsK K = val0) : mB K (ga K "Earliest") "__len__" = true := bit_of c 18
theorem bMet_Earliest_shifts (c : obsK K = val0) : metB K (ga K "Earliest") "shifts" = true := bit_of c 19
theorem bSp_Earliest___getitem__ (c : obsK K = val0) : mB K (ga K "Earliest") "__getitem__" = true := bit_of c 20
theorem bFi_Earliest (c : obsK K = val0) : PySem.W.fnIn K (ma K (ga K "Earliest") "__getitem__") = true := bit_of c 21
theorem bSp_Earliest___str__ (c : obsK K = val0) : mB K (ga K "Earliest") "__str__" = true := bit_of c 22
theorem bSp_Earliest___repr__ (c : obsK K = val0) : mB K (ga K "Earliest") "__repr__" = true := bit_of c 23
theorem bMk_Term (c : obsK K = val0) : mkB K (ga K "Term") = true := bit_of c 24
theorem bSp_Earliest___contains__ (c : obsK K = val0) : mB K (ga K "Earliest") "__contains__" = true := bit_of c 25
theorem bSp_Earliest___eq__ (c : obsK K = val0) : mB K (ga K "Earliest") "__eq__" = true := bit_of c 26
theorem bSp_Earliest___add__ (c : obsK K = val0) : mB K (ga K "Earliest") (PySem.dunder "add") = true := bit_of c 28
theorem bSp_Earliest___radd__ (c : obsK K = val0) : mB K (ga K "Earliest") (dunderR "add") = true := bit_of c 29
theorem bSp_Earliest___sub__ (c : obsK K = val0) : mB K (ga K "Earliest") (PySem.dunder "sub") = true := bit_of c 30
theorem bSt_Earliest_of (c : obsK K = val0) : He5.wrapB K (ga K "Earliest") "staticmethod" "staticmethod.__get__" "of" = true := bit_of c 31
theorem bRd_Earliest (c : obsK K = val0) : Pu.rdB K (ga K "Earliest") = true := bit_of c 32
theorem bMet_Earliest_without (c : obsK K = val0) : metB K (ga K "Earliest") "without" = true := bit_of c 33
theorem bNe_Earliest_Term (c : obsK K = val0) : decide ((ga K "Earliest") ≠ (ga K "Term")) = true := bit_of c 34
theorem bNol (c : obsK K = val0) : Pu.nolB K = true := bit_of c 35
theorem bDefs (c : obsK K = val0) : dfs.all (He5.DefA.ok K) = true := bit_of c 36
theorem def_of (c : obsK K = val0) (i : Nat) {d : He5.DefA} (h : dfs[i]? = some d := by rfl) : ∃ fd, FunD K d.name d.qual d.params d.body d.scope (d.dvs K) (d.kws K) (d.at_ K) fd := by
  have e : dfs.map (fun d => He5.fnA K (d.at_ K)) = dfs.map He5.DefA.val := congrArg (fun t : Al => t.2) c
  have e2 : (dfs.map fun d => He5.fnA K (d.at_ K))[i]? = (dfs.map He5.DefA.val)[i]? := by rw [e]
  rw [List.getElem?_map, List.getElem?_map, h] at e2
  exact He5.DefA.funD (Option.some.inj e2) (List.all_eq_true.mp (bDefs c) d (List.mem_of_getElem? h))
theorem F__law_pot (c : obsK K = val0) : ∃ fd, Fun K "_law_pot" "_law_pot" s__law_pot (ga K "_law_pot") fd := (def_of c 0).imp fun _ d => fun_of d
theorem F__law_draw (c : obsK K = val0) : ∃ fd, Fun K "_law_draw" "_law_draw" s__law_draw (ga K "_law_draw") fd := (def_of c 1).imp fun _ d => fun_of d
theorem F__law_choice (c : obsK K = val0) : ∃ fd, Fun K "_law_choice" "_law_choice" s__law_choice (ga K "_law_choice") fd := (def_of c 2).imp fun _ d => fun_of d
theorem F__law_names (c : obsK K = val0) : ∃ fd, Fun K "_law_names" "_law_names" s__law_names (ga K "_law_names") fd := (def_of c 3).imp fun _ d => fun_of d
theorem F__law_number (c : obsK K = val0) : ∃ fd, Fun K "_law_number" "_law_number" s__law_number (ga K "_law_number") fd := (def_of c 4).imp fun _ d => fun_of d
theorem F_is_name (c : obsK K = val0) : ∃ fd, Fun K "is_name" "is_name" s_is_name (ga K "is_name") fd := (def_of c 5).imp fun _ d => fun_of d
theorem F_has_names (c : obsK K = val0) : ∃ fd, Fun K "has_names" "has_names" s_has_names (ga K "has_names") fd := (def_of c 6).imp fun _ d => fun_of d
theorem F_is_integer (c : obsK K = val0) : ∃ fd, Fun K "is_integer" "is_integer" s_is_integer (ga K "is_integer") fd := (def_of c 7).imp fun _ d => fun_of d
theorem F_check_shifts (c : obsK K = val0) : ∃ fd, Fun K "check_shifts" "check_shifts" s_check_shifts (ga K "check_shifts") fd := (def_of c 8).imp fun _ d => fun_of d
theorem F_in_order (c : obsK K = val0) : ∃ fd, Fun K "in_order" "in_order" s_in_order (ga K "in_order") fd := (def_of c 9).imp fun _ d => fun_of d
theorem F_Earliest___init__ (c : obsK K = val0) : ∃ fd, Fun K "__init__" "Earliest.__init__" m_Earliest___init__ (ma K (ga K "Earliest") "__init__") fd := (def_of c 10).imp fun _ d => fun_of d
theorem F_Earliest_moments (c : obsK K = val0) : ∃ fd, Fun K "moments" "Earliest.moments" m_Earliest_moments (He5.wf K (ga K "Earliest") "property" "moments") fd := (def_of c 11).imp fun _ d => fun_of d
theorem F_Earliest___len__ (c : obsK K = val0) : ∃ fd, Fun K "__len__" "Earliest.__len__" m_Earliest___len__ (ma K (ga K "Earliest") "__len__") fd := (def_of c 12).imp fun _ d => fun_of d
theorem F_Earliest_shifts (c : obsK K = val0) : ∃ fd, Fun K "shifts" "Earliest.shifts" m_Earliest_shifts (ma K (ga K "Earliest") "shifts") fd := (def_of c 13).imp fun _ d => fun_of d
theorem F_is_moment_of (c : obsK K = val0) : ∃ fd, Fun K "is_moment_of" "is_moment_of" s_is_moment_of (ga K "is_moment_of") fd := (def_of c 14).imp fun _ d => fun_of d
theorem F_check_moment (c : obsK K = val0) : ∃ fd, Fun K "check_moment" "check_moment" s_check_moment (ga K "check_moment") fd := (def_of c 15).imp fun _ d => fun_of d
theorem F_Earliest___getitem__ (c : obsK K = val0) : ∃ fd, Fun K "__getitem__" "Earliest.__getitem__" m_Earliest___getitem__ (ma K (ga K "Earliest") "__getitem__") fd := (def_of c 16).imp fun _ d => fun_of d
theorem F__law_text (c : obsK K = val0) : ∃ fd, Fun K "_law_text" "_law_text" s__law_text (ga K "_law_text") fd := (def_of c 17).imp fun _ d => fun_of d
theorem F_term_text (c : obsK K = val0) : ∃ fd, Fun K "term_text" "term_text" s_term_text (ga K "term_text") fd := (def_of c 18).imp fun _ d => fun_of d
theorem F_Earliest___str__ (c : obsK K = val0) : ∃ fd, Fun K "__str__" "Earliest.__str__" m_Earliest___str__ (ma K (ga K "Earliest") "__str__") fd := (def_of c 19).imp fun _ d => fun_of d
theorem F_Earliest___repr__ (c : obsK K = val0) : ∃ fd, Fun K "__repr__" "Earliest.__repr__" m_Earliest___repr__ (ma K (ga K "Earliest") "__repr__") fd := (def_of c 20).imp fun _ d => fun_of d
theorem F__law_is_earliest (c : obsK K = val0) : ∃ fd, Fun K "_law_is_earliest" "_law_is_earliest" s__law_is_earliest (ga K "_law_is_earliest") fd := (def_of c 21).imp fun _ d => fun_of d
theorem F_check_shift (c : obsK K = val0) : ∃ fd, Fun K "check_shift" "check_shift" s_check_shift (ga K "check_shift") fd := (def_of c 22).imp fun _ d => fun_of d
theorem F_Term___init__ (c : obsK K = val0) : ∃ fd, FunD K "__init__" "Term.__init__" (defArgs m_Term___init__) (defBody m_Term___init__) (defScope m_Term___init__) [V.int 0] [] (ma K (ga K "Term") "__init__") fd := def_of c 23
theorem F_Earliest___contains__ (c : obsK K = val0) : ∃ fd, Fun K "__contains__" "Earliest.__contains__" m_Earliest___contains__ (ma K (ga K "Earliest") "__contains__") fd := (def_of c 24).imp fun _ d => fun_of d
theorem F__law_in_right (c : obsK K = val0) : ∃ fd, Fun K "_law_in_right" "_law_in_right" s__law_in_right (ga K "_law_in_right") fd := (def_of c 25).imp fun _ d => fun_of d
theorem F_Earliest___eq__ (c : obsK K = val0) : ∃ fd, Fun K "__eq__" "Earliest.__eq__" m_Earliest___eq__ (ma K (ga K "Earliest") "__eq__") fd := (def_of c 26).imp fun _ d => fun_of d
theorem F__law_equals_right (c : obsK K = val0) : ∃ fd, Fun K "_law_equals_right" "_law_equals_right" s__law_equals_right (ga K "_law_equals_right") fd := (def_of c 28).imp fun _ d => fun_of d
theorem F_moved (c : obsK K = val0) : ∃ fd, Fun K "moved" "moved" s_moved (ga K "moved") fd := (def_of c 29).imp fun _ d => fun_of d
theorem F_Earliest___add__ (c : obsK K = val0) : ∃ fd, Fun K "__add__" "Earliest.__add__" m_Earliest___add__ (ma K (ga K "Earliest") "__add__") fd := (def_of c 30).imp fun _ d => fun_of d
theorem F_Earliest___radd__ (c : obsK K = val0) : ∃ fd, Fun K "__radd__" "Earliest.__radd__" m_Earliest___radd__ (ma K (ga K "Earliest") "__radd__") fd := (def_of c 31).imp fun _ d => fun_of d
theorem F_Earliest___sub__ (c : obsK K = val0) : ∃ fd, Fun K "__sub__" "Earliest.__sub__" m_Earliest___sub__ (ma K (ga K "Earliest") "__sub__") fd := (def_of c 32).imp fun _ d => fun_of d
theorem F_Earliest_of (c : obsK K = val0) : ∃ fd, Fun K "of" "Earliest.of" m_Earliest_of (He5.wf K (ga K "Earliest") "staticmethod" "of") fd := (def_of c 33).imp fun _ d => fun_of d
theorem F_left_out (c : obsK K = val0) : ∃ fd, Fun K "left_out" "left_out" s_left_out (ga K "left_out") fd := (def_of c 34).imp fun _ d => fun_of d
theorem F_Earliest_without (c : obsK K = val0) : ∃ fd, Fun K "without" "Earliest.without" m_Earliest_without (ma K (ga K "Earliest") "without") fd := (def_of c 35).imp fun _ d => fun_of d
theorem F__law_without_right (c : obsK K = val0) : ∃ fd, Fun K "_law_without_right" "_law_without_right" s__law_without_right (ga K "_law_without_right") fd := (def_of c 36).imp fun _ d => fun_of d
theorem F__law_right (c : obsK K = val0) : ∃ fd, Fun K "_law_right" "_law_right" s__law_right (ga K "_law_right") fd := (def_of c 37).imp fun _ d => fun_of d
theorem F_law (c : obsK K = val0) : ∃ fd, Fun K "law" "law" s_law (ga K "law") fd := (def_of c 38).imp fun _ d => fun_of d
end
section
variable {K : PySem.W.Frag} {mg : Str → Option Value} {base : Heap}
theorem g__law_pot (X : K.In base) (G : base.Ns mainGlobals mg) (c : obsK K = val0) : mg "_law_pot" = some (.ref (ga K "_law_pot")) := glo_of X G (bGlob c) 0
theorem g__law_draw (X : K.In base) (G : base.Ns mainGlobals mg) (c : obsK K = val0) : mg "_law_draw" = some (.ref (ga K "_law_draw")) := glo_of X G (bGlob c) 1
theorem g__law_choice (X : K.In base) (G : base.Ns mainGlobals mg) (c : obsK K = val0) : mg "_law_choice" = some (.ref (ga K "_law_choice")) := glo_of X G (bGlob c) 2
theorem g__law_names (X : K.In base) (G : base.Ns mainGlobals mg) (c : obsK K = val0) : mg "_law_names" = some (.ref (ga K "_law_names")) := glo_of X G (bGlob c) 3
theorem g__law_number (X : K.In base) (G : base.Ns mainGlobals mg) (c : obsK K = val0) : mg "_law_number" = some (.ref (ga K "_law_number")) := glo_of X G (bGlob c) 4
theorem g_is_name (X : K.In base) (G : base.Ns mainGlobals mg) (c : obsK K = val0) : mg "is_name" = some (.ref (ga K "is_name")) := glo_of X G (bGlob c) 5
theorem g_has_names (X : K.In base) (G : base.Ns mainGlobals mg) (c : obsK K = val0) : mg "has_names" = some (.ref (ga K "has_names")) := glo_of X G (bGlob c) 6
theorem g_is_integer (X : K.In base) (G : base.Ns mainGlobals mg) (c : obsK K = val0) : mg "is_integer" = some (.ref (ga K "is_integer")) := glo_of X G (bGlob c) 7
theorem g_check_shifts (X : K.In base) (G : base.Ns mainGlobals mg) (c : obsK K = val0) : mg "check_shifts" = some (.ref (ga K "check_shifts")) := glo_of X G (bGlob c) 8
theorem g_in_order (X : K.In base) (G : base.Ns mainGlobals mg) (c : obsK K = val0) : mg "in_order" = some (.ref (ga K "in_order")) := glo_of X G (bGlob c) 9
theorem g_is_moment_of (X : K.In base) (G : base.Ns mainGlobals mg) (c : obsK K = val0) : mg "is_moment_of" = some (.ref (ga K "is_moment_of")) := glo_of X G (bGlob c) 10
theorem g_check_moment (X : K.In base) (G : base.Ns mainGlobals mg) (c : obsK K = val0) : mg "check_moment" = some (.ref (ga K "check_moment")) := glo_of X G (bGlob c) 11
theorem g__law_text (X : K.In base) (G : base.Ns mainGlobals mg) (c : obsK K = val0) : mg "_law_text" = some (.ref (ga K "_law_text")) := glo_of X G (bGlob c) 12
theorem g_term_text (X : K.In base) (G : base.Ns mainGlobals mg) (c : obsK K = val0) : mg "term_text" = some (.ref (ga K "term_text")) := glo_of X G (bGlob c) 13
theorem g__law_is_earliest (X : K.In base) (G : base.Ns mainGlobals mg) (c : obsK K = val0) : mg "_law_is_earliest" = some (.ref (ga K "_law_is_earliest")) := glo_of X G (bGlob c) 14
theorem g_check_shift (X : K.In base) (G : base.Ns mainGlobals mg) (c : obsK K = val0) : mg "check_shift" = some (.ref (ga K "check_shift")) := glo_of X G (bGlob c) 15
theorem g__law_in_right (X : K.In base) (G : base.Ns mainGlobals mg) (c : obsK K = val0) : mg "_law_in_right" = some (.ref (ga K "_law_in_right")) := glo_of X G (bGlob c) 16
theorem g__law_equals_right (X : K.In base) (G : base.Ns mainGlobals mg) (c : obsK K = val0) : mg "_law_equals_right" = some (.ref (ga K "_law_equals_right")) := glo_of X G (bGlob c) 17
theorem g_moved (X : K.In base) (G : base.Ns mainGlobals mg) (c : obsK K = val0) : mg "moved" = some (.ref (ga K "moved")) := glo_of X G (bGlob c) 18
theorem g_left_out (X : K.In base) (G : base.Ns mainGlobals mg) (c : obsK K = val0) : mg "left_out" = some (.ref (ga K "left_out")) := glo_of X G (bGlob c) 19
theorem g__law_without_right (X : K.In base) (G : base.Ns mainGlobals mg) (c : obsK K = val0) : mg "_law_without_right" = some (.ref (ga K "_law_without_right")) := glo_of X G (bGlob c) 20
theorem g__law_right (X : K.In base) (G : base.Ns mainGlobals mg) (c : obsK K = val0) : mg "_law_right" = some (.ref (ga K "_law_right")) := glo_of X G (bGlob c) 21
theorem g_law (X : K.In base) (G : base.Ns mainGlobals mg) (c : obsK K = val0) : mg "law" = some (.ref (ga K "law")) := glo_of X G (bGlob c) 22
theorem g_Earliest (X : K.In base) (G : base.Ns mainGlobals mg) (c : obsK K = val0) : mg "Earliest" = some (.ref (ga K "Earliest")) := glo_of X G (bGlob c) 23
theorem g_Term (X : K.In base) (G : base.Ns mainGlobals mg) (c : obsK K = val0) : mg "Term" = some (.ref (ga K "Term")) := glo_of X G (bGlob c) 24
theorem f_isinstance (X : K.In base) (G : base.Ns mainGlobals mg) (c : obsK K = val0) : mg "isinstance" = none := free_of X G (bFree c) 0
theorem f_all (X : K.In base) (G : base.Ns mainGlobals mg) (c : obsK K = val0) : mg "all" = none := free_of X G (bFree c) 1
theorem f_any (X : K.In base) (G : base.Ns mainGlobals mg) (c : obsK K = val0) : mg "any" = none := free_of X G (bFree c) 2
theorem f_len (X : K.In base) (G : base.Ns mainGlobals mg) (c : obsK K = val0) : mg "len" = none := free_of X G (bFree c) 3
theorem f_range (X : K.In base) (G : base.Ns mainGlobals mg) (c : obsK K = val0) : mg "range" = none := free_of X G (bFree c) 4
theorem f_int (X : K.In base) (G : base.Ns mainGlobals mg) (c : obsK K = val0) : mg "int" = none := free_of X G (bFree c) 5
theorem f_max (X : K.In base) (G : base.Ns mainGlobals mg) (c : obsK K = val0) : mg "max" = none := free_of X G (bFree c) 6
theorem f_min (X : K.In base) (G : base.Ns mainGlobals mg) (c : obsK K = val0) : mg "min" = none := free_of X G (bFree c) 7
theorem f_abs (X : K.In base) (G : base.Ns mainGlobals mg) (c : obsK K = val0) : mg "abs" = none := free_of X G (bFree c) 8
theorem f_divmod (X : K.In base) (G : base.Ns mainGlobals mg) (c : obsK K = val0) : mg "divmod" = none := free_of X G (bFree c) 9
theorem f_repr (X : K.In base) (G : base.Ns mainGlobals mg) (c : obsK K = val0) : mg "repr" = none := free_of X G (bFree c) 10
theorem f_str (X : K.In base) (G : base.Ns mainGlobals mg) (c : obsK K = val0) : mg "str" = none := free_of X G (bFree c) 11
theorem f_dict (X : K.In base) (G : base.Ns mainGlobals mg) (c : obsK K = val0) : mg "dict" = none := free_of X G (bFree c) 12
theorem f_bool (X : K.In base) (G : base.Ns mainGlobals mg) (c : obsK K = val0) : mg "bool" = none := free_of X G (bFree c) 14
theorem f_tuple (X : K.In base) (G : base.Ns mainGlobals mg) (c : obsK K = val0) : mg "tuple" = none := free_of X G (bFree c) 15
theorem f_sorted (X : K.In base) (G : base.Ns mainGlobals mg) (c : obsK K = val0) : mg "sorted" = none := free_of X G (bFree c) 16
theorem f_list (X : K.In base) (G : base.Ns mainGlobals mg) (c : obsK K = val0) : mg "list" = none := free_of X G (bFree c) 17
theorem n_MOST_LETTERS (X : K.In base) (G : base.Ns mainGlobals mg) (c : obsK K = val0) : ∃ t, mg "MOST_LETTERS" = some (.int 8 t) := int_of X G (bInts c) 0
theorem n_MOST_TERMS (X : K.In base) (G : base.Ns mainGlobals mg) (c : obsK K = val0) : ∃ t, mg "MOST_TERMS" = some (.int 8 t) := int_of X G (bInts c) 1
end
end E10
set_option Elab.async false
set_option maxRecDepth 100000
set_option maxHeartbeats 0
namespace E10
open L2 PySem PySem.Spec PyProof.Rows
theorem run (w : World) : HandSHeadRun.RunEq R qv hook ob 60000 names w := by
  intro os
  kernel_rfl
end E10
set_option Elab.async false
set_option linter.all false
set_option maxRecDepth 100000
set_option maxHeartbeats 4000000
/-! ### tuple(d): the keys of a dict -/
namespace E10
open L2 PySem PySem.Spec PyProof.Rows
section
variable {prog : Program} {w : World} {A : Around} {E : Value → Shared → Prop} {s : Shared}
theorem meets_tuple_src {d : Addr} {n : Nat} {Pv : Nat → Value → Prop} {OK : Heap → Prop} (KS : PySem.W.KdlSrc prog w "dict" d d n Pv OK) (hn : n ≤ sizeLine) :
    MeetsIn prog w (Builtin.«tuple.__new__» ⟨[.type "tuple", .ref d], []⟩)
      (fun A R s => A.handled = none ∧ OK s.heap ∧ ∀ (h' : Heap) (tk : Nat) (acc : Array Value), (∀ b o, s.heap.get? b = some o → h'.get? b = some o) → ItemsOf Pv acc n →
        R (.ok (.ret (.ref h'.objs.size))) { s with heap := h'.push { cls := .type "tuple", data := .seq acc }, toks := tk }) :=
  .of_wp fun A R s h => by
    obtain ⟨hh, ok, h⟩ := h
    have hsub := PySem.sub_tuple_self
    have hinit := PySem.init_tuple_lookup
    have hmh := PySem.madeHere_tuple
    have hT : s.TypeIs (.ref d) "dict" := KS.type _ ok
    have hh1 : A.in1.handled = none := hh
    have hcol : ∀ {R' : List Value → Shared → Prop} {E' : Value → Shared → Prop}, (∀ (h' : Heap) (tk : Nat) (acc : Array Value), (∀ b o, s.heap.get? b = some o → h'.get? b = some o) → ItemsOf Pv acc n → R' acc.toList { s with heap := h', toks := tk }) → wpAny (model prog w) A.in1 (collect (.ref d)) R' E' s :=
      fun h => PySem.W.kdu_collect KS hh1 ok hn h
    wp_walk using wpAny_typeOf hT, hcol
    intro h' tk acc hk hacc
    show wpAny _ _ (Builtin.Tuple.tupleExact acc.toList.toArray >>= fun v => ret v) _ _ _
    unfold Builtin.Tuple.tupleExact
    refine wpAny_bind (wpAny_newObj_type ?_ (show acc.toList.toArray.size ≤ sizeLine by simp only [Array.toArray_toList]; rw [hacc.1]; exact hn))
    refine wpAny_pure ⟨_, rfl, ?_⟩
    have e : acc.toList.toArray = acc := by simp
    rw [e]
    exact h h' tk acc hk hacc
theorem call_tuple_src {d : Addr} {n : Nat} {Pv : Nat → Value → Prop} {OK : Heap → Prop} {Q : Value → Shared → Prop} (KS : PySem.W.KdlSrc prog w "dict" d d n Pv OK) (hn : n ≤ sizeLine) (hh : A.handled = none) (ok : OK s.heap)
    (h : ∀ (h' : Heap) (tk : Nat) (acc : Array Value), (∀ b o, s.heap.get? b = some o → h'.get? b = some o) → ItemsOf Pv acc n → Q (.ref h'.objs.size) { s with heap := h'.push { cls := .type "tuple", data := .seq acc }, toks := tk }) :
    wpAny (model prog w) A (call (.type "tuple") [.ref d]) Q E s := by
  refine callType_newIn PySem.F.called_tuple (by decide) (PySem.F.typeCall_tuple_1 _) (PySem.F.newCall_tuple_1 _) (fun obj => PySem.F.args_object_init_2 obj _) PySem.F.entry_tuple_new (meets_tuple_src KS hn) ⟨hh, ok, fun h' tk acc hk hacc => ⟨⟨_, Heap.get?_push_size _ rfl, rfl⟩, h h' tk acc hk hacc⟩⟩
end
theorem new_same0 {H : Hp} {p : Addr} {o : HO} (np : H p = none) : Same H (upd H p o) := fun c u e => (upd_ne (ne_of_none e np)).trans e
/-- tuple(d): its keys -/
theorem call_tupleD {X : Cx} (hcalm : X.calm = true) : CallR X (.type "tuple") (fun xs H Q => ∃ (a : Addr) (kvs : List (Key × V)), xs = [.ref a] ∧ Rd H a (.dK kvs) ∧ ∀ p H', H p = none → Same H H' → H' p = some (.tup (kvs.map fun kv => kV kv.1)) → Q (.ref p) H') := by
  intro pins s σ H xs us Q I r q
  obtain ⟨a, kvs, ex, hd, q⟩ := q
  subst ex
  obtain ⟨u, eu, rx⟩ := vals1 r
  subst eu
  cases rx
  obtain ⟨z, lo, vs, rel, dd⟩ := dk_rd I.hok hd
  obtain ⟨ep, hat⟩ := dd.dictAt
  have ek : (kvs.map fun kv => kV kv.1) = vs.map fun p => kV p.1 := by
    have e := congrArg (List.map kV) rel.keys
    rw [List.map_map, List.map_map] at e
    exact e
  refine call_tuple_src (PySem.W.kdl_dict (knd := mixKind X.prog X.w) (kvs := vs) (ep := ep) lo) (by rw [← rel.length]; exact z) (I.ok.hd hcalm) hat fun h' tk acc hk hacc => ?_
  have hv : Vals (vs.map fun p => kV p.1) acc.toList := keys_at (by rw [Array.length_toList]; exact hacc.1) fun j v e => hacc.2 j v (by rw [← Array.getElem?_toList]; exact e)
  have I1 : Inv X pins σ H { s with heap := h', toks := tk } := I.kept (t' := tk) hk
  have I2 : Inv X pins σ (upd H h'.objs.size (.tup (kvs.map fun kv => kV kv.1))) { s with heap := h'.push { cls := .type "tuple", data := .seq acc }, toks := tk } :=
    I1.laid (t' := tk) (fun b o e => Heap.get?_push_of_some _ e) (Nat.le_refl _) (show ObjOk X.prog X.w _ _ _ (.tup (kvs.map fun kv => kV kv.1)) from ⟨by rw [List.length_map]; exact z, acc.toList, by rw [ek]; exact hv, by rw [Array.toArray_toList]; exact IsTup.new _ _⟩)
  have np := I1.hok.fresh (Nat.le_refl _)
  exact ⟨.ref h'.objs.size, _, I2, rfl, q _ _ np (new_same0 np) upd_same⟩
end E10
set_option Elab.async false
set_option linter.all false
set_option maxRecDepth 100000
set_option maxHeartbeats 4000000
/-! ### {d!r} of a dict of small things -/
namespace E10
open L2 PySem PySem.Spec PyProof.Rows
end E10
set_option Elab.async false
set_option linter.all false
set_option maxRecDepth 100000
set_option maxHeartbeats 4000000
/-! ### len(a), x in a: own objects -/
namespace E10
open L2 PySem PySem.Spec PyProof.Rows
section
variable {X : Cx} {k : Nat} {f C : Addr} {fd : FuncData} {ps : List Str} {sp : Sp}
theorem lenBack {pins : List (Addr × Obj)} {σ : L2.St} {Q : VK} {u : Value} {s' : Shared} (h : EP X pins σ (fun v H' => ∃ n : Nat, v = .int n ∧ n < 2 ^ 62 ∧ Q (.int n) H') u s') : PySem.W.LenBack (EP X pins σ Q) u s' := by
  obtain ⟨v, H', I, r, n, rfl, hn, q⟩ := h
  obtain ⟨t, rfl⟩ := (show ∃ t, u = Value.int n t from r)
  exact ⟨⟨by omega, by omega⟩, .int n, H', I.tok _, ⟨_, rfl⟩, q⟩
def rLenO (C : Addr) (sp : Sp) : List V → Hp → VK → Prop := fun xs H Q => ∃ (a dx : Addr) (fs : List (Str × V)), xs = [.ref a] ∧ H a = some (.ins C dx fs) ∧ sp [.ref a] H (fun v H' => ∃ n : Nat, v = .int n ∧ n < 2 ^ 62 ∧ Q (.int n) H') E0
theorem call_lenO (F : FnG X.prog X.w X.K X.mg X.base k f fd ps sp) (hG : X.A.guards = some []) (room : Room (k + 1) X.A) (bi : Binds X.K fd ps []) (h : Has X.K C f "__len__") : CallR X (.builtin "len") (rLenO C sp) := by
  intro pins s σ H xs us Q I r h0
  obtain ⟨a, dx, fs, rfl, ha, q⟩ := h0
  obtain ⟨u, rfl, ru⟩ := vals1 r
  cases (show u = Value.ref a from ru)
  obtain ⟨mA, O, _⟩ := ins_get I.hok ha
  obtain ⟨od, J, _⟩ := O.look
  obtain ⟨m, hF⟩ := I.fr
  refine PySem.W.len_K hF I.ok.mod.kin J h.at_ h.fn ?_
  exact wpAny_mono (run_at (vs := [.ref a]) F rfl hG room.in1 bi I (.cons rfl .nil) q) (fun _ _ z => lenBack z) fun _ _ z => z
end
end E10
set_option Elab.async false
set_option linter.all false
set_option maxRecDepth 100000
set_option maxHeartbeats 4000000
/-! ### methods where no text of a container is being made; a staticmethod with keywords alone -/
namespace E10
open L2 PySem PySem.Spec PyProof.Rows
section
variable {X : Cx} {k n : Nat} {f C : Addr} {fd : FuncData} {ps ks : List Str} {sp : Sp}
/-- C.m, m a staticmethod -/
structure SMet (K : PySem.W.Frag) (C : Addr) (mc : Value) (m : Str) (p g : Addr) : Prop where
  at_ : PySem.W.findCls K (.ref C) mc m = some (.get (.builtin "staticmethod.__get__") (.ref p) .none (.ref C))
  rc : ∃ rest, PySem.W.recIn K p "staticmethod" = some (.ref g :: rest)
  kp : PySem.W.keepIn K (.ref g) = true
theorem getmethsm_ok {pins : List (Addr × Obj)} {σ : L2.St} {H : Hp} {s : Shared} {p g : Addr} {mc : Value} {m : Str} {A : Around} {E : Value → Shared → Prop} {pl : Sem Bool} {Q : Value × List Value → Shared → Prop} (I : Inv X pins σ H s) (r : ClX.CRead X.K C mc) (k : SMet X.K C mc m p g)
    (h : ∀ s', Inv X pins σ H s' → Q (.ref g, []) s') : wpAny (model X.prog X.w) A (getMethod (.ref C) m pl) Q E s := by
  refine PySem.W.method_cls I.kIn r.ga ?_
  obtain ⟨rest, hp⟩ := k.rc
  refine PySem.W.cls_bind I.kIn r.rd k.at_ ?_
  refine wpAny_call (PySem.W.sm_get (s := { s with toks := s.toks + 1 }) I.kIn hp (PySem.W.handed_on rfl ?_))
  exact h _ (I.tok _)
end
/-! ### keywords into a dict -/
def kwLay (d : Addr) : List (Str × Value) → Sem Unit
  | [] => pure ()
  | (k, v) :: r => nsSet d k v >>= fun _ => kwLay d r
def kwBind (y : Str) (kvs : List (Str × Value)) : Sem (List (Str × Value)) := alloc { cls := .type "dict", data := .dict #[] } >>= fun d => kwLay d kvs >>= fun _ => pure [(y, .ref d)]
section
variable {P : Program} {w : World} {A : Around} {E : Value → Shared → Prop} {s : Shared}
theorem nsSet_dict {d : Addr} {name : Str} {v : Value} {kvs : List (Key × Value)} {Q : Unit → Shared → Prop} (dd : s.heap.DictOf (mixKind P w) d kvs) (new : ∀ p ∈ kvs, p.1 ≠ Sum.inr name)
    (hQ : ∀ h', h'.DictOf (mixKind P w) d (kvs ++ [(Sum.inr name, v)]) → Heap.SameBut d s.heap h' → Q () { s with heap := h', toks := s.toks + 1 }) : wpAny (model P w) A (nsSet d name v) Q E s := fun Γ p r => by
  obtain ⟨o, es, ep, ho, hex, hd, hk, hp, hnd⟩ := dd
  simp only [nsSet, strHash, Sem.wp_bind', Sem.wp_cmd_ask, Sem.wp_pure', Sem.wp_cmd_mkText]
  rw [Sem.wp_loadPart_of (model P w) Γ _ p { s with toks := s.toks + 1 } (o := o) _ ho]
  have shp : ∀ e ∈ es, ∃ k, keyIs k e.key = true ∧ e.hash = (mixKind P w).hash k := hk
  have hany : es.any (·.refKey) = false := by
    rw [Array.any_eq_false']
    intro e he
    obtain ⟨k, h, _⟩ := shp e he
    rcases keyIs_shape h with ⟨i, t, _, e2⟩ | ⟨z, t, _, e2⟩ <;> simp [DictEntry.refKey, e2]
  have hin : ∀ {es' : List DictEntry} {kvs' : List (Key × Value)}, Pairs (mixKind P w) es' kvs' → ∀ e ∈ es', ∃ q ∈ kvs', keyIs q.1 e.key = true := by
    intro es' kvs' h
    induction h with
    | nil => intro e he; cases he
    | cons h1 h2 h3 ih =>
      intro e he
      rcases List.mem_cons.mp he with rfl | he
      · exact ⟨_, .head _, h1⟩
      · obtain ⟨q, hq, z⟩ := ih e he
        exact ⟨q, .tail _ hq, z⟩
  have hno : es.findIdx? (·.key.isStr name) = none := by
    rw [Array.findIdx?_eq_none_iff]
    intro e he
    obtain ⟨q, hq, z⟩ := hin hp e (by simpa using he)
    have ne := new q hq
    rcases keyIs_shape z with ⟨i, t, _, e2⟩ | ⟨y, t, e1, e2⟩
    · simp [e2, Value.isStr]
    · rw [e2]
      have : ¬ y = name := fun c => ne (by rw [e1, c])
      simp [Value.isStr, this]
  simp only [hd, aRefKeyMayBeTheName_eq, aRefKeyMayBeTheNameByArray, hany, Bool.and_false, Bool.false_eq_true, if_false, Sem.wp_cmd_updatePart]
  refine ⟨by rw [ho]; rfl, hQ _ ?_ (Heap.SameBut.update ..)⟩
  obtain ⟨c, dd, dt, sl⟩ := o
  subst hd
  have hh : (if name.cps.isEmpty = true then 0 else reduceHash ((model P w).w.params.strHash name.cps)) = (mixKind P w).hash (Sum.inr name) := rfl
  rw [hh]
  have he : Obj.putName name ((mixKind P w).hash (Sum.inr name)) (Value.str name s.toks) v ⟨c, dd, .dict es ep, sl⟩ = ⟨c, dd, .dict (es.push ⟨(mixKind P w).hash (Sum.inr name), .str name s.toks, v⟩) (ep + 1), sl⟩ := by
    rw [Obj.putName_eq]
    simp only [Obj.putNameByArray, hno]
  refine ⟨_, _, _, Heap.get?_update_self _ ho (by rw [he]; rfl), by rw [he]; exact hex, by rw [he], ?_, ?_, ?_⟩
  · intro e hm
    rcases Array.mem_push.mp hm with hm | rfl
    · exact hk e hm
    · exact ⟨Sum.inr name, by show keyIs (Sum.inr name) (.str name s.toks) = true; simp [keyIs, Value.isStrOf], rfl⟩
  · have app : ∀ {es' : List DictEntry} {kvs' : List (Key × Value)} {e : DictEntry} {q : Key × Value}, Pairs (mixKind P w) es' kvs' → (mixKind P w).is q.1 e.key = true → e.val = q.2 → Pairs (mixKind P w) (es' ++ [e]) (kvs' ++ [q]) := by
      intro es' kvs' e q h h1 h2
      induction h with
      | nil => exact .cons h1 h2 .nil
      | cons a b c ih => exact .cons a b ih
    rw [Array.toList_push]
    exact app hp (by show keyIs (Sum.inr name) (.str name s.toks) = true; simp [keyIs, Value.isStrOf]) rfl
  · rw [List.map_append, List.nodup_append]
    refine ⟨hnd, by simp, fun a ha b hb c => ?_⟩
    have hb' : b = Sum.inr name := by simpa using hb
    obtain ⟨q, hq, rfl⟩ := List.mem_map.mp ha
    exact new q hq (c.trans hb')
theorem kwLay_dict {d : Addr} : ∀ {rows : List (Str × Value)} {kvs : List (Key × Value)} {s : Shared} {Q : Unit → Shared → Prop}, s.heap.DictOf (mixKind P w) d kvs → (kvs.map (fun q : Key × Value => q.1) ++ rows.map (fun r : Str × Value => (Sum.inr r.1 : Key))).Nodup →
    (∀ h' tk, h'.DictOf (mixKind P w) d (kvs ++ rows.map (fun r : Str × Value => ((Sum.inr r.1 : Key), r.2))) → Heap.SameBut d s.heap h' → Q () { s with heap := h', toks := tk }) → wpAny (model P w) A (kwLay d rows) Q E s
  | [], kvs, s, Q, dd, _, hQ => by
    have e : kvs ++ ([] : List (Str × Value)).map (fun r => ((Sum.inr r.1 : Key), r.2)) = kvs := List.append_nil _
    have := hQ s.heap s.toks (by rw [e]; exact dd) ⟨rfl, fun _ _ => rfl⟩
    exact wpAny_pure this
  | (k, v) :: r, kvs, s, Q, dd, nd, hQ => by
    refine wpAny_bind (nsSet_dict dd (fun p hp c => ?_) fun h' dd' sb => ?_)
    · rw [List.map_cons, List.nodup_append] at nd
      exact nd.2.2 _ (List.mem_map.mpr ⟨p, hp, rfl⟩) _ (.head _) c
    · refine kwLay_dict (rows := r) (s := { s with heap := h', toks := s.toks + 1 }) dd' ?_ fun h2 tk dd2 sb2 => ?_
      · rw [List.map_append, List.append_assoc]
        exact nd
      · rw [List.append_assoc] at dd2
        exact hQ h2 tk dd2 ⟨sb2.1.trans sb.1, fun b n => (sb2.2 b n).trans (sb.2 b n)⟩
end
/-- the rows as a dict -/
def kz (ks : List Str) (zs : List V) : List (Key × V) := (ks.zip zs).map fun p => (Sum.inr p.1, p.2)
theorem kz_kv {zs : List V} {ws : List Value} (r : Vals zs ws) : ∀ (ks : List Str), KV (kz ks zs) ((ks.zip ws).map fun r => ((Sum.inr r.1 : Key), r.2)) := by
  induction r with
  | nil => intro ks; cases ks <;> exact .nil
  | cons h _ ih =>
    intro ks
    cases ks with
    | nil => exact .nil
    | cons k ks => exact .cons ⟨rfl, h⟩ (ih ks)
end E10
set_option Elab.async false
set_option linter.all false
set_option maxRecDepth 100000
set_option maxHeartbeats 4000000
/-! ### {**d, k: v} -/
namespace E10
open L2 PySem PySem.Spec PyProof.Rows
section
variable {P : Program} {w : World} {A : Around} {E : Value → Shared → Prop} {s : Shared}
abbrev mk (P : Program) (w : World) := mixKind P w
end
end E10
set_option Elab.async false
set_option linter.all false
set_option maxRecDepth 100000
set_option maxHeartbeats 4000000
/-! ### enumerate(tuple) -/
namespace PySem
open Sem (wp)
open AutoSeq1 (wpAny_loadPart')
section
variable {prog : Program} {w : World} {A : Around} {E : Value → Shared → Prop} {s : Shared}
theorem wpAny_nextOf_tuple_item {it t : Addr} {i : Nat} {items} {x : Value} {Q : Value → Shared → Prop} (hit : s.heap.IsTupleIter it t i)
    (ht : s.heap.IsTuple t items) (hx : items[i]? = some x)
    (hQ : ∀ h', h'.IsTupleIter it t (i + 1) → Heap.SameBut it s.heap h' → Q x { s with heap := h' }) :
    wpAny (model prog w) A (Builtin.SmallTypes.nextOf (.ref it)) Q E s := by
  obtain ⟨o, ho, hc, hd⟩ := id hit
  obtain ⟨ol, hol, _, nl, hdl⟩ := ht
  unfold Builtin.SmallTypes.nextOf
  refine wpAny_bind (wpAny_callSpecial?_slot (name := Str.ofString "__next__") hit.typeIs F.slot_tuple_iterator_next
    (wpAny_call_entry F.slot_tuple_iterator_next hit.typeIs F.entry_tuple_iterator_next ?_ (F.args_tuple_iterator_next_1 _)))
  show wpAny _ _ (field (.ref it) 0 >>= _) _ _ s
  refine wpAny_bind (wpAny_field ho hd (x := .ref t) rfl ?_)
  show wpAny _ _ (if (Value.ref t == Value.none) = true then _ else _) _ _ s
  rw [if_neg (show ¬ ((Value.ref t == Value.none) = true) from Bool.false_ne_true)]
  show wpAny _ _ (field (.ref it) 1 >>= _) _ _ s
  refine wpAny_bind (wpAny_field ho hd (x := .int i 0) rfl ?_)
  show wpAny _ _ (seqItems? (.ref t) >>= _) _ _ s
  refine wpAny_bind (wpAny_seqItems hol hdl ?_)
  simp only [Int.toNat_natCast, hx]
  refine wpAny_bind (wpAny_setField ho hd (by simp) (wpAny_pure ⟨x, rfl, wpAny_pure (hQ _ ?_ (Heap.SameBut.update ..))⟩))
  exact ⟨_, Heap.get?_update_self _ ho (Obj.isFreed_of_fields (Obj.data_mapFields hd _)), (Obj.cls_mapFields ..).trans hc, by
    rw [Obj.data_mapFields hd]; simp [rawInt]⟩
theorem wpAny_nextOf_tuple_end {it t : Addr} {i : Nat} {items} {Q : Value → Shared → Prop} (hh : A.handled = none)
    (hit : s.heap.IsTupleIter it t i) (ht : s.heap.IsTuple t items) (hx : items[i]? = none)
    (hE : ∀ h' e, Heap.ExtBut it s.heap h' → (∃ o, h'.get? e = some o ∧ o.cls = .type "StopIteration") → E (.ref e) { s with heap := h' }) :
    wpAny (model prog w) A (Builtin.SmallTypes.nextOf (.ref it)) Q E s := by
  obtain ⟨o, ho, hc, hd⟩ := id hit
  obtain ⟨ol, hol, _, nl, hdl⟩ := ht
  unfold Builtin.SmallTypes.nextOf
  refine wpAny_bind (wpAny_callSpecial?_slot (name := Str.ofString "__next__") hit.typeIs F.slot_tuple_iterator_next
    (wpAny_call_entry F.slot_tuple_iterator_next hit.typeIs F.entry_tuple_iterator_next ?_ (F.args_tuple_iterator_next_1 _)))
  show wpAny _ _ (field (.ref it) 0 >>= _) _ _ s
  refine wpAny_bind (wpAny_field ho hd (x := .ref t) rfl ?_)
  show wpAny _ _ (if (Value.ref t == Value.none) = true then _ else _) _ _ s
  rw [if_neg (show ¬ ((Value.ref t == Value.none) = true) from Bool.false_ne_true)]
  show wpAny _ _ (field (.ref it) 1 >>= _) _ _ s
  refine wpAny_bind (wpAny_field ho hd (x := .int i 0) rfl ?_)
  show wpAny _ _ (seqItems? (.ref t) >>= _) _ _ s
  refine wpAny_bind (wpAny_seqItems hol hdl ?_)
  simp only [Int.toNat_natCast, hx]
  refine wpAny_bind (wpAny_rule (wpAny_bind (wpAny_setField ho hd (by simp) ?_)))
  show wpAny _ _ (newExc (.type "StopIteration") [] >>= _) _ _ _
  refine wpAny_bind ?_
  simp only [newExc, newTuple]
  refine wpAny_bind (wpAny_newObj_type ?_ (by size_fits))
  refine wpAny_bind (m := firstArgMember _ _) (wpAny_of_eq (a := Value.none) (by first | rfl | (simp only [firstArgMember]; rfl)) ?_)
  refine wpAny_newObj_type ?_ (by size_fits)
  simp only [raiseNew]
  refine wpAny_bind (wpAny_handled ?_)
  first | rw [show A.in1.handled = none from hh] | rw [hh]
  refine wpAny_bind (wpAny_pure (wpAny_throw ?_))
  exact hE _ _ (((Heap.SameBut.update ..).extBut.push _).push _) ⟨_, Heap.get?_push_size _ rfl, rfl⟩
end
theorem Draws.tuple {prog : Program} {w : World} {A : Around} (hh : A.handled = none) (it l : Addr) (hne : l ≠ it) (items : Array Value) :
    Draws prog w A it [it, l] items.size (fun i v => items[i]? = some v) (fun i h => h.IsTupleIter it l i ∧ h.IsTuple l items) where
  live := fun _ _ st => let ⟨o, ho, _⟩ := st.1; ⟨o, ho⟩
  frame := fun _ _ _ st hk => ⟨let ⟨o, ho, r⟩ := st.1; ⟨o, hk it (by simp) o ho, r⟩, let ⟨o, ho, r⟩ := st.2; ⟨o, hk l (by simp) o ho, r⟩⟩
  item := fun i s Q E hi st hQ => by
    refine wpAny_nextOf_tuple_item st.1 st.2 (x := items[i]) (by simp [hi]) fun h' hit' hs' => ?_
    exact hQ _ h' s.toks (by simp [hi]) ⟨hit', st.2.extBut hs'.extBut hne⟩ hs'
  done := fun s Q E st hE => wpAny_nextOf_tuple_end hh st.1 st.2 (by simp) hE
end PySem
namespace L2
open PySem PySem.Spec PyProof.Rows
end L2
set_option Elab.async false
set_option linter.all false
set_option maxRecDepth 100000
set_option maxHeartbeats 4000000
/-! ### an operator of two own objects of one class -/
namespace E10
open L2 PySem PySem.Spec PyProof.Rows
end E10
set_option Elab.async false
set_option linter.all false
set_option maxRecDepth 100000
set_option maxHeartbeats 4000000
/-! ### sets of texts: made, joined, sorted -/
namespace E10
open L2 PySem PySem.Spec PyProof.Rows
def txtOf (e : Int × Value) : Str := PyProof.Rows.strOf e.2
def GoodT (P : Program) (w : World) (e : Int × Value) : Prop := ∃ z tk, e.2 = Value.str z tk ∧ e.1 = (PySem.strKind P w).hash z
/-- what stands in the object of a set of texts: zs, each once, in whatever order -/
structure SetD (P : Program) (w : World) (es : Array (Int × Value)) (t : SetTable) (zs : List Str) : Prop where
  good : ∀ e ∈ es.toList, GoodT P w e
  perm : (es.toList.map txtOf).Perm zs
  nd : zs.Nodup
  few : zs.length < scanBound
  fits : t.fits es.size = true
  ris : Ris t.place.toList
  led : w.params.followText "set-order" = true ∨ t.led = true
def SetT (P : Program) (w : World) (h : Heap) (a : Addr) (zs : List Str) : Prop := ∃ o es ep t, h.get? a = some o ∧ o.ExactSet ∧ o.data = .set es ep t ∧ SetD P w es t zs
def insT (zs : List Str) (z : Str) : List Str := if z ∈ zs then zs else z :: zs
section
variable {P : Program} {w : World} {h h' : Heap} {a : Addr} {zs : List Str} {es : Array (Int × Value)} {t : SetTable}
theorem SetD.size (D : SetD P w es t zs) : es.size = zs.length := by
  have q := D.perm.length_eq
  rwa [List.length_map, Array.length_toList] at q
theorem good_txt {e : Int × Value} (g : GoodT P w e) (z : Str) : (PySem.strKind P w).is z e.2 = decide (z = txtOf e) := by
  obtain ⟨y, tk, q, _⟩ := g
  unfold txtOf
  rw [q]
  exact PySem.KeyKind.is_eq_decide (strKind_is P w y tk) z
theorem SetD.has (D : SetD P w es t zs) (z : Str) : z ∈ zs ↔ ∃ e ∈ es.toList, (PySem.strKind P w).is z e.2 = true := by
  rw [← D.perm.mem_iff, List.mem_map]
  constructor
  · rintro ⟨e, he, rfl⟩
    exact ⟨e, he, by rw [good_txt (D.good e he)]; exact decide_eq_true rfl⟩
  · rintro ⟨e, he, q⟩
    rw [good_txt (D.good e he)] at q
    exact ⟨e, he, (of_decide_eq_true q).symm⟩
theorem SetT.keep (R : SetT P w h a zs) (k : ∀ o, h.get? a = some o → h'.get? a = some o) : SetT P w h' a zs := by
  obtain ⟨o, es, ep, t, ho, r⟩ := R
  exact ⟨o, es, ep, t, k o ho, r⟩
end
section
variable {P : Program} {w : World} {A : Around} {E : Value → Shared → Prop} {s : Shared} {a : Addr} {zs : List Str}
/-! ### sorted -/
theorem SetD.strs {es : Array (Int × Value)} {t : SetTable} (D : SetD P w es t zs) {vs : List Value} (pm : vs.Perm (es.toList.map (·.2))) : StrsAre vs (vs.map PyProof.Rows.strOf) ∧ (vs.map PyProof.Rows.strOf).Perm zs := by
  refine ⟨strsAre_map vs fun v hv => ?_, ?_⟩
  · obtain ⟨e, he, rfl⟩ := List.mem_map.mp (pm.mem_iff.mp hv)
    obtain ⟨z, tk, q, _⟩ := D.good e he
    exact ⟨z, tk, q⟩
  · have q := pm.map PyProof.Rows.strOf
    rw [List.map_map] at q
    exact q.trans D.perm
theorem sortT {Q : Value → Shared → Prop} (R : SetT P w s.heap a zs) (hh : A.handled = none) (h64 : zs.length < 64)
    (hQ : ∀ s' p (out : Array Value) (c : Nat) (ys : List Str), (∀ b o, s.heap.get? b = some o → s'.heap.get? b = some o) → s'.gens = s.gens → s'.os = s.os → s.heap.objs.size ≤ p →
      s'.heap.get? p = some (seqObj "list" out c) → StrsAre out.toList ys → ys.Perm zs → sortedS ys = true → Q (.ref p) s') :
    wpAny (model P w) A (call (.builtin "sorted") [.ref a]) Q E s := by
  obtain ⟨o, es, ep, t, ho, hex, hd, D⟩ := R
  refine Calls.call_function_entry kind_sorted plain_sorted entry_sorted (args_sorted1 _) ?_
  unfold Builtin.«sorted»
  refine wpAny_bind (m := checkCount "sorted" 1 1 _) (wpAny_pure (wpAny_bind (collect_set (A := A.in1) hh ⟨o, ho, hex.1, hd⟩ D.fits (by rw [D.size]; exact D.few) D.ris D.led fun s1 vs k1 hz g1 o1 pm => ?_)))
  obtain ⟨hS, pz⟩ := D.strs pm
  have lv : vs.length < 64 := by
    have q := pz.length_eq
    rw [List.length_map] at q
    omega
  refine wpAny_bind (wpAny_newList ?_ (by rw [sizeLine_eq]; omega))
  have hoL : (s1.heap.push (seqObj "list" vs.toArray 0)).get? s1.heap.objs.size = some (seqObj "list" vs.toArray 0) := Heap.get?_push_size _ rfl
  refine wpAny_bind (wpAny_holding (wpAny_call_entry slot_list_sort ⟨_, hoL, rfl⟩ entry_list_sort
    (list_sort_treeK strKind_oneLt hoL hS.keysOf (fun v₁ v₂ rest e => keyKind_strs (by rw [← e]; exact hS)) lv fun st' a1 a2 => ⟨_, rfl, ?_⟩) (args_list_sort _)))
  obtain ⟨ys, h1, h2, h3⟩ := sorted_out_str hS a1 a2
  obtain ⟨c, hc⟩ := sortedHeap_at (vs := vs) (out := (arrOf st').map (·.2)) hoL
  refine wpAny_pure ⟨_, rfl, hQ _ s1.heap.objs.size _ c ys (fun b u e => ?_) g1 o1 hz hc h1 (h2.trans pz) h3⟩
  have q := k1 b u e
  have lt := Heap.lt_size q
  show (sortedHeap (s1.heap.push (seqObj "list" vs.toArray 0)) s1.heap.objs.size vs ((arrOf st').map (·.2))).get? b = some u
  rw [sortedHeap_old (Nat.ne_of_lt lt) (by rw [size_push']; exact Nat.lt_succ_of_lt lt)]
  exact Heap.get?_push_of_some _ q
end
/-- the set of the texts zs at a -/
def SetTO (P : Program) (w : World) (a : Addr) (zs : List Str) : HO := .ext fun h => SetT P w h a zs
section
variable {X : Cx}
theorem setT_at {pins : List (Addr × Obj)} {σ : L2.St} {H : Hp} {s : Shared} {a : Addr} {zs : List Str} (I : Inv X pins σ H s) (ha : H a = some (SetTO X.prog X.w a zs)) : SetT X.prog X.w s.heap a zs := (I.hok a _ ha).1
/-- sorted(set), fewer than 64 texts -/
def rSortT (P : Program) (w : World) : List V → Hp → VK → Prop := fun vs H Q => ∃ (a : Addr) (zs : List Str), vs = [V.ref a] ∧ H a = some (SetTO P w a zs) ∧ zs.length < 64 ∧
  ∀ (ys : List Str) (p : Addr), ys.Perm zs → sortedS ys = true → H p = none → Q (.ref p) (upd H p (.lst (ys.map V.str)))
theorem call_sortedT (hc : X.calm = true) : CallR X (.builtin "sorted") (rSortT X.prog X.w) := by
  intro pins s σ H vs us Q I r h
  obtain ⟨a, zs, rfl, ha, h64, q⟩ := h
  rw [Vals.ref1 r]
  refine sortT (setT_at I ha) (I.ok.hd hc) h64 fun s' p out c ys k g o hp hg hi pm so => ?_
  have len : (ys.map V.str).length ≤ sizeLine := by rw [List.length_map, pm.length_eq, sizeLine_eq]; omega
  have hn : H p = none := I.hok.fresh hp
  have J : Inv X pins σ (upd H p (.lst (ys.map V.str))) { s with heap := s'.heap, gens := s'.gens, drawn := s'.drawn, toks := s'.toks } :=
    I.call (ch := []) (Un.laid k hp hn) (I.hok.laid k hp ⟨len, out.toList, c, vals_of_strs hi, hg⟩) (by rw [g]; exact I.bare) (fun _ z => nomatch z)
  have e : s' = { s with heap := s'.heap, gens := s'.gens, drawn := s'.drawn, toks := s'.toks } := by
    cases s'
    cases s
    cases o
    rfl
  rw [e]
  exact ⟨.ref p, _, J, rfl, q ys p pm so hn⟩
end
end E10
set_option Elab.async false
set_option linter.all false
set_option maxRecDepth 100000
set_option maxHeartbeats 4000000
/-! ### set(x) of texts -/
namespace E10
open L2 PySem PySem.Spec PyProof.Rows
def insAll (acc xs : List Str) : List Str := xs.foldl insT acc
end E10
set_option Elab.async false
set_option linter.all false
set_option maxRecDepth 100000
set_option maxHeartbeats 4000000
namespace E10
open L2 PySem PySem.Spec PyProof.Rows
end E10
set_option Elab.async false
set_option linter.all false
set_option maxRecDepth 100000
set_option maxHeartbeats 4000000
/-! ### a set's table laid anew: every text finds a slot -/
namespace E10
open L2 PySem PySem.Spec PyProof.Rows
/-! ### laying all -/
theorem fm_congr {α β : Type} {f g : α → Option β} : ∀ {l : List α}, (∀ x ∈ l, g x = f x) → l.filterMap g = l.filterMap f
  | [], _ => rfl
  | x :: l, h => by
    have ih := fm_congr fun y hy => h y (.tail _ hy)
    have e := h x (.head _)
    cases c : f x with
    | none => rw [List.filterMap_cons_none c, List.filterMap_cons_none (e.trans c), ih]
    | some y => rw [List.filterMap_cons_some c, List.filterMap_cons_some (e.trans c), ih]
theorem fm_one {α β : Type} [DecidableEq α] {f g : α → Option β} {j : α} {b : β} : ∀ {l : List α}, l.Nodup → j ∈ l → f j = none → g j = some b → (∀ x, x ≠ j → g x = f x) → (l.filterMap g).Perm (b :: l.filterMap f)
  | [], _, h, _, _, _ => nomatch h
  | x :: l, nd, h, fj, gj, e => by
    obtain ⟨nx, nl⟩ := List.nodup_cons.mp nd
    by_cases q : x = j
    · subst q
      rw [List.filterMap_cons_some gj, List.filterMap_cons_none fj]
      have : l.filterMap g = l.filterMap f := fm_congr fun y hy => e y fun z => nx (z ▸ hy)
      rw [this]
    · have hl : j ∈ l := (List.mem_cons.mp h).resolve_left fun z => q z.symm
      have ih := fm_one nl hl fj gj e
      cases c : f x with
      | none =>
        rw [List.filterMap_cons_none (by rw [e x q]; exact c), List.filterMap_cons_none c]
        exact ih
      | some y =>
        rw [List.filterMap_cons_some (by rw [e x q]; exact c), List.filterMap_cons_some c]
        exact (List.Perm.cons y ih).trans (List.Perm.swap _ _ _)
/-- what is laid after k texts -/
structure Laid (m k : Nat) (owner : Array (Option Nat)) : Prop where
  sz : owner.size = m + 1
  pm : ((List.range (m + 1)).filterMap fun j => owner.getD j none).Perm (List.range k)
theorem Laid.next {m k j : Nat} {owner : Array (Option Nat)} (h : Laid m k owner) (fr : (owner.getD j (some 0)).isNone = true) : Laid m (k + 1) (owner.setIfInBounds j (some k)) := by
  have js : j < owner.size := by
    refine Classical.byContradiction fun no => ?_
    simp [Array.getD_eq_getD_getElem?, Array.getElem?_eq_none (Nat.le_of_not_lt no)] at fr
  have fj : owner.getD j none = none := by
    simp [Array.getD_eq_getD_getElem?, Array.getElem?_eq_getElem js] at fr ⊢
    exact fr
  refine ⟨by rw [Array.size_setIfInBounds]; exact h.sz, ?_⟩
  refine (fm_one (f := fun x => owner.getD x none) (g := fun x => (owner.setIfInBounds j (some k)).getD x none) (j := j) (b := k) List.nodup_range (List.mem_range.mpr (by rw [← h.sz]; exact js)) fj ?_ fun x nx => ?_).trans ?_
  · simp [Array.getD_eq_getD_getElem?, Array.getElem?_setIfInBounds, js]
  · simp [Array.getD_eq_getD_getElem?, Array.getElem?_setIfInBounds, Ne.symm nx]
  · rw [show List.range (k + 1) = List.range k ++ [k] from List.range_succ]
    exact (List.Perm.cons k h.pm).trans (List.perm_append_singleton _ _).symm
end E10
set_option Elab.async false
set_option linter.all false
set_option maxRecDepth 100000
set_option maxHeartbeats 4000000
namespace E10
open L2 PySem PySem.Spec PyProof.Rows
end E10
set_option Elab.async false
set_option linter.all false
set_option maxRecDepth 100000
set_option maxHeartbeats 4000000
/-! ### sets of texts: more room, a copy -/
namespace E10
open L2 PySem PySem.Spec PyProof.Rows
end E10
set_option Elab.async false
set_option linter.all false
set_option maxRecDepth 100000
set_option maxHeartbeats 4000000
/-! ### sets of texts: a copy, and joined with another -/
namespace E10
open L2 PySem PySem.Spec PyProof.Rows
end E10
set_option Elab.async false
set_option linter.all false
set_option maxRecDepth 100000
set_option maxHeartbeats 4000000
/-! ### a layer of values without addresses: what an expression is worth, as a function of the slots and of the few things that change -/
namespace Pu
open L2 PySem PySem.Spec PyProof.Rows E10
/-- a value that nothing changes any more -/
inductive P where
  | non | bl (b : Bool) | int (i : Int) | str (x : Str) | ref (a : Addr) | ty (n : String)
  | tup (xs : List P) | lst (xs : List P) | dct (ks : List (Key × P)) | ins (C : Addr) (fs : List (Str × P)) | set (f : Addr → List Str → HO) (zs : List Str)
/-- what stands as it is until it goes -/
def solid : HO → Bool
  | .lst _ | .dK _ | .dT _ | .set _ _ => false
  | _ => true
/-- a value, or the place of something that changes -/
inductive W where
  | v (p : P) | loc (j : Nat)
/-- what stands at a place -/
inductive PC where
  | lst (xs : List P) | dct (ks : List (Key × P)) | ins (C : Addr) (fs : List (Str × P)) | dead | lstL (xs : List P) | dctL (ks : List (Key × P))
abbrev Γ := List (Option W)
abbrev Μ := List PC
abbrev Ps := List (Option Addr)
mutual
inductive Rep (D : Addr → Prop) (H : Hp) : V → P → Prop
  | non : Rep D H .non .non
  | bl {b} : Rep D H (.bl b) (.bl b)
  | int {i} : Rep D H (.int i) (.int i)
  | str {x} : Rep D H (.str x) (.str x)
  | ref {a} : Rep D H (.ref a) (.ref a)
  | ty {n} : Rep D H (.ty n) (.ty n)
  | tup {a xs ps} : ¬ D a → Rd H a (.tup xs) → Reps D H xs ps → Rep D H (.ref a) (.tup ps)
  | lst {a xs ps} : ¬ D a → Rd H a (.lst xs) → Reps D H xs ps → Rep D H (.ref a) (.lst ps)
  | dct {a xs ps} : ¬ D a → Rd H a (.dK xs) → RepK D H xs ps → Rep D H (.ref a) (.dct ps)
  | ins {a C dx xs ps} : ¬ D a → H a = some (.ins C dx xs) → RepS D H xs ps → Rep D H (.ref a) (.ins C ps)
  | set {a f zs} : ¬ D a → H a = some (f a zs) → solid (f a zs) = true → Rep D H (.ref a) (.set f zs)
inductive Reps (D : Addr → Prop) (H : Hp) : List V → List P → Prop
  | nil : Reps D H [] []
  | cons {v p l m} : Rep D H v p → Reps D H l m → Reps D H (v :: l) (p :: m)
inductive RepK (D : Addr → Prop) (H : Hp) : List (Key × V) → List (Key × P) → Prop
  | nil : RepK D H [] []
  | cons {k v p l m} : Rep D H v p → RepK D H l m → RepK D H ((k, v) :: l) ((k, p) :: m)
inductive RepS (D : Addr → Prop) (H : Hp) : List (Str × V) → List (Str × P) → Prop
  | nil : RepS D H [] []
  | cons {k v p l m} : Rep D H v p → RepS D H l m → RepS D H ((k, v) :: l) ((k, p) :: m)
end
/-- what values lean on stands: from D, H to D', H' -/
structure Sd (D : Addr → Prop) (H : Hp) (D' : Addr → Prop) (H' : Hp) : Prop where
  d : ∀ a o, ¬ D a → H a = some o → ¬ D' a
  r : ∀ a u, ¬ D a → Rd H a u → Rd H' a u
  s : ∀ a o, ¬ D a → H a = some o → solid o = true → H' a = some o
/-- .. and what is locked stays so -/
structure SdL (D : Addr → Prop) (H : Hp) (D' : Addr → Prop) (H' : Hp) : Prop extends Sd D H D' H' where
  l : ∀ a o u, H a = some (.frz o u) → H' a = some (.frz o u)
section
variable {D D' : Addr → Prop} {H H' : Hp}
theorem Sd.rd (s : Sd D H D' H') {a : Addr} {u : HO} (n : ¬ D a) (h : Rd H a u) : ¬ D' a := by
  rcases h with h | ⟨o, h⟩
  · exact s.d a _ n h
  · exact s.d a _ n h
mutual
theorem Rep.sd (s : Sd D H D' H') : ∀ {v p}, Rep D H v p → Rep D' H' v p
  | _, _, .non => .non
  | _, _, .bl => .bl
  | _, _, .int => .int
  | _, _, .str => .str
  | _, _, .ref => .ref
  | _, _, .ty => .ty
  | _, _, .tup n h r => .tup (s.rd n h) (s.r _ _ n h) (Reps.sd s r)
  | _, _, .lst n h r => .lst (s.rd n h) (s.r _ _ n h) (Reps.sd s r)
  | _, _, .dct n h r => .dct (s.rd n h) (s.r _ _ n h) (RepK.sd s r)
  | _, _, .ins n h r => .ins (s.d _ _ n h) (s.s _ _ n h rfl) (RepS.sd s r)
  | _, _, .set n h r => .set (s.d _ _ n h) (s.s _ _ n h r) r
theorem Reps.sd (s : Sd D H D' H') : ∀ {v p}, Reps D H v p → Reps D' H' v p
  | _, _, .nil => .nil
  | _, _, .cons r t => .cons (Rep.sd s r) (Reps.sd s t)
theorem RepK.sd (s : Sd D H D' H') : ∀ {v p}, RepK D H v p → RepK D' H' v p
  | _, _, .nil => .nil
  | _, _, .cons r t => .cons (Rep.sd s r) (RepK.sd s t)
theorem RepS.sd (s : Sd D H D' H') : ∀ {v p}, RepS D H v p → RepS D' H' v p
  | _, _, .nil => .nil
  | _, _, .cons r t => .cons (Rep.sd s r) (RepS.sd s t)
end
theorem Reps.length : ∀ {v p}, Reps D H v p → v.length = p.length
  | _, _, .nil => rfl
  | _, _, .cons _ t => congrArg (· + 1) (Reps.length t)
theorem Reps.get : ∀ {vs ps} {i : Nat} {v : V}, Reps D H vs ps → vs[i]? = some v → ∃ p, ps[i]? = some p ∧ Rep D H v p
  | _, _, 0, _, .cons r _, e => ⟨_, rfl, (Option.some.inj e) ▸ r⟩
  | _, _, i + 1, _, .cons _ t, e => Reps.get (i := i) t e
theorem Reps.getP : ∀ {vs ps} {i : Nat} {p : P}, Reps D H vs ps → ps[i]? = some p → ∃ v, vs[i]? = some v ∧ Rep D H v p
  | _, _, 0, _, .cons r _, e => ⟨_, rfl, (Option.some.inj e) ▸ r⟩
  | _, _, i + 1, _, .cons _ t, e => Reps.getP (i := i) t e
theorem Reps.append : ∀ {vs ps ws qs}, Reps D H vs ps → Reps D H ws qs → Reps D H (vs ++ ws) (ps ++ qs)
  | _, _, _, _, .nil, s => s
  | _, _, _, _, .cons r t, s => .cons r (Reps.append t s)
theorem Reps.snoc {vs ps v p} (t : Reps D H vs ps) (r : Rep D H v p) : Reps D H (vs ++ [v]) (ps ++ [p]) := t.append (.cons r .nil)
theorem Reps.take : ∀ {vs ps} (n : Nat), Reps D H vs ps → Reps D H (vs.take n) (ps.take n)
  | _, _, 0, _ => .nil
  | _, _, _ + 1, .nil => .nil
  | _, _, n + 1, .cons r t => .cons r (Reps.take n t)
theorem Reps.drop : ∀ {vs ps} (n : Nat), Reps D H vs ps → Reps D H (vs.drop n) (ps.drop n)
  | _, _, 0, r => r
  | _, _, _ + 1, .nil => .nil
  | _, _, n + 1, .cons r t => Reps.drop n t
theorem Reps.set {v p} (r : Rep D H v p) : ∀ {vs ps} (n : Nat), Reps D H vs ps → Reps D H (vs.set n v) (ps.set n p)
  | _, _, _, .nil => .nil
  | _, _, 0, .cons _ t => .cons r t
  | _, _, n + 1, .cons q t => .cons q (Reps.set r n t)
theorem RepK.length : ∀ {v p}, RepK D H v p → v.length = p.length
  | _, _, .nil => rfl
  | _, _, .cons _ t => congrArg (· + 1) (RepK.length t)
theorem RepK.keys : ∀ {v p}, RepK D H v p → v.map (·.1) = p.map (·.1)
  | _, _, .nil => rfl
  | _, _, .cons _ t => congrArg (_ :: ·) (RepK.keys t)
theorem RepS.length : ∀ {v p}, RepS D H v p → v.length = p.length
  | _, _, .nil => rfl
  | _, _, .cons _ t => congrArg (· + 1) (RepS.length t)
theorem RepS.lookup {f : Str} : ∀ {vs ps}, RepS D H vs ps → ∀ {p}, ps.lookup f = some p → ∃ v, vs.lookup f = some v ∧ Rep D H v p
  | _, _, @RepS.cons _ _ k v p l m r t, q, e => by
    rw [List.lookup_cons] at e ⊢
    by_cases c : f == k
    · rw [c] at e ⊢
      exact ⟨v, rfl, (Option.some.inj e) ▸ r⟩
    · rw [Bool.not_eq_true] at c
      rw [c] at e ⊢
      exact RepS.lookup t e
theorem RepS.lookup_none {f : Str} : ∀ {vs ps}, RepS D H vs ps → ps.lookup f = none → vs.lookup f = none
  | _, _, .nil, _ => rfl
  | _, _, @RepS.cons _ _ k v p l m r t, e => by
    rw [List.lookup_cons] at e ⊢
    by_cases c : f == k
    · rw [c] at e
      cases e
    · rw [Bool.not_eq_true] at c
      rw [c] at e ⊢
      exact RepS.lookup_none t e
end
/-! ### places -/
def CellOk (D : Addr → Prop) (H : Hp) (a : Addr) : PC → Prop
  | .lst ps => ∃ xs, H a = some (.lst xs) ∧ Reps D H xs ps
  | .dct ps => ∃ xs, H a = some (.dK xs) ∧ RepK D H xs ps
  | .ins C ps => ∃ dx xs, H a = some (.ins C dx xs) ∧ RepS D H xs ps
  | .dead => False
  | .lstL ps => ∃ od xs, H a = some (.frz od (.lst xs)) ∧ Reps D H xs ps
  | .dctL ps => ∃ od xs, H a = some (.frz od (.dK xs)) ∧ RepK D H xs ps
structure Sk (D : Addr → Prop) (as : Ps) (H : Hp) (μ : Μ) : Prop where
  len : as.length = μ.length
  dn : ∀ a, D a → ∃ o, H a = some o
  inD : ∀ (j : Nat) (a : Addr), as[j]? = some (some a) → D a
  inj : ∀ (i j : Nat) (a : Addr), as[i]? = some (some a) → as[j]? = some (some a) → i = j
  ok : ∀ (j : Nat) (a : Addr), as[j]? = some (some a) → ∃ c, μ[j]? = some c ∧ CellOk D H a c
  dead : ∀ j : Nat, as[j]? = some none → μ[j]? = some .dead
def RepW (D : Addr → Prop) (as : Ps) (H : Hp) (v : V) : W → Prop
  | .v p => Rep D H v p
  | .loc j => ∃ x, as[j]? = some x ∧ ∀ a, x = some a → v = .ref a
def EnvR (D : Addr → Prop) (as : Ps) (H : Hp) (σ : L2.St) (γ : Γ) : Prop := γ.length = σ.length ∧ ∀ (i : Nat) (w : W), γ[i]? = some (some w) → ∃ v, σ[i]? = some (some v) ∧ RepW D as H v w
/-- from one state to a later one -/
structure Nx (D : Addr → Prop) (as : Ps) (H : Hp) (D' : Addr → Prop) (as' : Ps) (H' : Hp) : Prop where
  pre : ∀ (j : Nat) (x : Option Addr), as[j]? = some x → as'[j]? = some x ∨ as'[j]? = some none
  ex : ∀ a o, H a = some o → ∃ o', H' a = some o'
  mono : ∀ a, D a → (∀ j : Nat, as[j]? ≠ some (some a)) → D' a
  new : ∀ a, D' a → D a ∨ H a = none
  fresh : ∀ (j : Nat) (a : Addr), as'[j]? = some (some a) → as[j]? = some (some a) ∨ H a = none
  hid : ∀ a o, D a → (∀ j : Nat, as[j]? ≠ some (some a)) → H a = some o → H' a = some o
  rd : ∀ a u, ¬ D a → Rd H a u → Rd H' a u
  sol : ∀ a o, ¬ D a → H a = some o → solid o = true → H' a = some o
  lck : ∀ a o u, H a = some (.frz o u) → H' a = some (.frz o u)
section
variable {D D' D2 : Addr → Prop} {as as' as2 : Ps} {H H' H2 : Hp} {μ μ' : Μ} {σ : L2.St} {γ : Γ} {v : V} {w : W}
theorem Nx.refl : Nx D as H D as H := ⟨fun _ _ h => .inl h, fun _ o h => ⟨o, h⟩, fun _ h _ => h, fun _ h => .inl h, fun _ _ h => .inl h, fun _ _ _ _ h => h, fun _ _ _ h => h, fun _ _ _ h _ => h, fun _ _ _ h => h⟩
theorem get_pre {as t : Ps} {j : Nat} {x : Option Addr} (h : as[j]? = some x) : (as ++ t)[j]? = some x := by
  rw [List.getElem?_append_left (List.getElem?_eq_some_iff.mp h).1]
  exact h
theorem Nx.gone (n : Nx D as H D' as' H') {j : Nat} (h : as[j]? = some none) : as'[j]? = some none := (n.pre j none h).elim id id
theorem Nx.len (n : Nx D as H D' as' H') : as.length ≤ as'.length := by
  by_cases c : as.length = 0
  · omega
  · have e : as[as.length - 1]? = some as[as.length - 1] := List.getElem?_eq_getElem (by omega)
    have : as.length - 1 < as'.length := by
      rcases n.pre _ _ e with z | z
      · exact (List.getElem?_eq_some_iff.mp z).1
      · exact (List.getElem?_eq_some_iff.mp z).1
    omega
/-- a place that is alive, and what it was -/
theorem RepW.adr (k : Sk D as H μ) {j : Nat} {c : PC} (r : RepW D as H v (.loc j)) (h : μ[j]? = some c) (nd : c ≠ .dead) : ∃ a, as[j]? = some (some a) ∧ v = .ref a ∧ CellOk D H a c := by
  obtain ⟨x, e, q⟩ := r
  cases x with
  | none =>
    rw [k.dead j e] at h
    exact absurd (Option.some.inj h).symm nd
  | some a =>
    obtain ⟨c', e', ok⟩ := k.ok j a e
    rw [h] at e'
    exact ⟨a, e, q a rfl, (Option.some.inj e') ▸ ok⟩
theorem RepW.mk {j : Nat} {a : Addr} (h : as[j]? = some (some a)) : RepW D as H (.ref a) (.loc j) := ⟨some a, h, fun b e => by cases e; rfl⟩
theorem rd_some {a : Addr} {u : HO} (h : Rd H a u) : ∃ o, H a = some o := by
  rcases h with h | ⟨o, h⟩
  · exact ⟨_, h⟩
  · exact ⟨_, h⟩
theorem CellOk.at {a : Addr} {c : PC} (x : CellOk D H a c) : ∃ o, H a = some o := by
  cases c with
  | lst ps => exact let ⟨_, h, _⟩ := x; ⟨_, h⟩
  | dct ps => exact let ⟨_, h, _⟩ := x; ⟨_, h⟩
  | ins C ps => exact let ⟨_, _, h, _⟩ := x; ⟨_, h⟩
  | dead => exact x.elim
  | lstL ps => exact let ⟨_, _, h, _⟩ := x; ⟨_, h⟩
  | dctL ps => exact let ⟨_, _, h, _⟩ := x; ⟨_, h⟩
/-- what stood still stands, somehow -/
theorem Nx.there (k' : Sk D' as' H' μ') (n : Nx D as H D' as' H') {a : Addr} {o : HO} (h : H a = some o) : ∃ o', H' a = some o' := n.ex a o h
theorem Nx.back (k' : Sk D' as' H' μ') (n : Nx D as H D' as' H') {a : Addr} (h : H' a = none) : H a = none := by
  cases e : H a with
  | none => rfl
  | some o =>
    obtain ⟨o', q⟩ := n.there k' e
    rw [h] at q
    cases q
theorem Nx.trans (k : Sk D as H μ) (k' : Sk D' as' H' μ') (n : Nx D as H D' as' H') (m : Nx D' as' H' D2 as2 H2) : Nx D as H D2 as2 H2 where
  pre := fun j x h => by
    rcases n.pre j x h with z | z
    · exact m.pre j x z
    · exact .inr (m.gone z)
  ex := fun a o h => let ⟨o', h'⟩ := n.ex a o h; m.ex a o' h'
  mono := fun a h v => m.mono a (n.mono a h v) fun j e => by
    rcases n.fresh j a e with z | z
    · exact v j z
    · obtain ⟨o, q⟩ := k.dn a h
      rw [q] at z; cases z
  new := fun a h => by
    rcases m.new a h with h | h
    · exact n.new a h
    · exact .inr (n.back k' h)
  fresh := fun j a h => by
    rcases m.fresh j a h with h | h
    · exact n.fresh j a h
    · exact .inr (n.back k' h)
  hid := fun a o d h e => m.hid a o (n.mono a d h) (fun j q => by
    rcases n.fresh j a q with z | z
    · exact h j z
    · rw [e] at z; cases z) (n.hid a o d h e)
  rd := fun a u d r => m.rd a u (fun q => by
    obtain ⟨o, e⟩ := rd_some r
    rcases n.new a q with z | z
    · exact d z
    · rw [e] at z; cases z) (n.rd a u d r)
  sol := fun a o d e z => m.sol a o (fun q => by
    rcases n.new a q with y | y
    · exact d y
    · rw [e] at y; cases y) (n.sol a o d e z) z
  lck := fun a o u e => m.lck a o u (n.lck a o u e)
theorem Nx.sd (n : Nx D as H D' as' H') : Sd D H D' H' := by
  refine ⟨fun a o h e q => ?_, fun a u h r => n.rd a u h r, fun a o h e z => n.sol a o h e z⟩
  rcases n.new a q with z | z
  · exact h z
  · rw [e] at z; cases z
theorem Nx.sdl (n : Nx D as H D' as' H') : SdL D H D' H' := ⟨n.sd, n.lck⟩
theorem RepW.nx (n : Nx D as H D' as' H') (r : RepW D as H v w) : RepW D' as' H' v w := by
  cases w with
  | v p => exact Rep.sd n.sd r
  | loc j =>
    obtain ⟨x, e, q⟩ := r
    rcases n.pre j x e with z | z
    · exact ⟨x, z, q⟩
    · exact ⟨none, z, fun a h => by cases h⟩
theorem EnvR.nx (n : Nx D as H D' as' H') (r : EnvR D as H σ γ) : EnvR D' as' H' σ γ :=
  ⟨r.1, fun i w e => let ⟨v, q, z⟩ := r.2 i w e; ⟨v, q, z.nx n⟩⟩
theorem EnvR.set {i : Nat} (r : EnvR D as H σ γ) (q : RepW D as H v w) : EnvR D as H (σ.set i (some v)) (γ.set i (some w)) := by
  refine ⟨by rw [List.length_set, List.length_set]; exact r.1, fun j x e => ?_⟩
  by_cases c : i = j
  · subst c
    rw [List.getElem?_set_self'] at e ⊢
    cases g : γ[i]? with
    | none => rw [g] at e; cases e
    | some y =>
      rw [g] at e
      cases e
      have : i < σ.length := by
        rw [← r.1]
        exact (List.getElem?_eq_some_iff.mp g).1
      exact ⟨v, by rw [List.getElem?_eq_getElem this]; rfl, q⟩
  · rw [List.getElem?_set_ne c] at e ⊢
    exact r.2 j x e
theorem CellOk.sd {a : Addr} {c : PC} (s : Sd D H D' H') (e : H' a = H a) (x : CellOk D H a c) : CellOk D' H' a c := by
  cases c with
  | lst ps => obtain ⟨xs, h, r⟩ := x; exact ⟨xs, e.trans h, r.sd s⟩
  | dct ps => obtain ⟨xs, h, r⟩ := x; exact ⟨xs, e.trans h, r.sd s⟩
  | ins C ps => obtain ⟨dx, xs, h, r⟩ := x; exact ⟨dx, xs, e.trans h, r.sd s⟩
  | dead => exact x
  | lstL ps => obtain ⟨od, xs, h, r⟩ := x; exact ⟨od, xs, e.trans h, r.sd s⟩
  | dctL ps => obtain ⟨od, xs, h, r⟩ := x; exact ⟨od, xs, e.trans h, r.sd s⟩
theorem Nx.of_same (s : Same H H') : Nx D as H D as H' :=
  ⟨fun _ _ h => .inl h, fun a o h => ⟨o, s _ _ h⟩, fun _ h _ => h, fun _ h => .inl h, fun _ _ h => .inl h, fun a u _ _ e => s _ _ e, fun a u _ r => r.elim (fun r => .inl (s _ _ r)) fun ⟨o, r⟩ => .inr ⟨o, s _ _ r⟩, fun a o _ e _ => s _ _ e, fun a o u e => s _ _ e⟩
theorem Sk.same (k : Sk D as H μ) (s : Same H H') : Sk D as H' μ :=
  ⟨k.len, fun a d => let ⟨o, e⟩ := k.dn a d; ⟨o, s _ _ e⟩, k.inD, k.inj, fun j a e => let ⟨c, q, x⟩ := k.ok j a e; ⟨c, q, x.sd (Nx.of_same (as := as) s).sd (let ⟨o, z⟩ := k.dn a (k.inD j a e); (s _ _ z).trans z.symm)⟩, k.dead⟩
theorem Sd.trans {D1 D2 D3 : Addr → Prop} {H1 H2 H3 : Hp} (a : Sd D1 H1 D2 H2) (b : Sd D2 H2 D3 H3) : Sd D1 H1 D3 H3 := by
  have z : ∀ x o, ¬ D1 x → H1 x = some o → ∃ o', H2 x = some o' := fun x o d e => rd_some (a.r x o d (.inl e))
  exact ⟨fun x o d e q => let ⟨o', e'⟩ := z x o d e; b.d x o' (a.d x o d e) e' q, fun x u d r => b.r x u (a.rd d r) (a.r x u d r), fun x o d e y => b.s x o (a.d x _ d e) (a.s x o d e y) y⟩
theorem Sd.refl {D : Addr → Prop} {H : Hp} : Sd D H D H := ⟨fun _ _ h _ => h, fun _ _ _ h => h, fun _ _ _ h _ => h⟩
theorem Sd.same {D : Addr → Prop} {H H' : Hp} (s : Same H H') : Sd D H D H' := (Nx.of_same (as := []) s).sd
end
end Pu
set_option Elab.async false
set_option linter.all false
set_option maxRecDepth 100000
set_option maxHeartbeats 4000000
namespace Pu
open L2 PySem PySem.Spec PyProof.Rows E10
/-- what comes of it: a value and what changed; an own error with its attributes; or what no rule speaks of -/
inductive O (α : Type) where
  | ok (a : α) (m : Μ) | exc (C : Addr) (fs : List (Str × P)) (m : Μ) | bad
def O.bind {α β : Type} (o : O α) (f : α → Μ → O β) : O β := match o with
  | .ok a m => f a m
  | .exc C fs m => .exc C fs m
  | .bad => .bad
@[simp] theorem O.bind_ok {α β : Type} (a : α) (m : Μ) (f : α → Μ → O β) : (O.ok a m).bind f = f a m := rfl
@[simp] theorem O.bind_exc {α β : Type} (C fs m) (f : α → Μ → O β) : (O.exc C fs m).bind f = .exc C fs m := rfl
@[simp] theorem O.bind_bad {α β : Type} (f : α → Μ → O β) : O.bad.bind f = .bad := rfl
theorem O.bind_assoc {α β γ : Type} (o : O α) (f : α → Μ → O β) (g : β → Μ → O γ) : (o.bind f).bind g = o.bind fun a m => (f a m).bind g := by cases o <;> rfl
abbrev RL (β α : Type) := (Addr → Prop) → Ps → Hp → β → α → Prop
def G {α β : Type} (Wx : WX) (σ : L2.St) (R : RL β α) (D : Addr → Prop) (as : Ps) (H : Hp) (o : O α) (Q : β → Hp → Prop) : Prop := match o with
  | .ok a m => ∀ b D' as' H', Nx D as H D' as' H' → Sk D' as' H' m → R D' as' H' b a → Q b H'
  | .exc C fs m => ∀ d gs D' as' H', Nx D as H D' as' H' → Sk D' as' H' m → H' d = some (.xd gs) → RepS D' H' gs fs → Wx (.ref C) (some d) σ H'
  | .bad => False
section
variable {α β α' β' : Type} {Wx : WX} {σ : L2.St} {R : RL β α} {R' : RL β' α'} {D D' : Addr → Prop} {as as' : Ps} {H H' : Hp} {μ μ' : Μ} {o : O α} {Q Q' : β → Hp → Prop}
theorem G.nx (k : Sk D as H μ) (k' : Sk D' as' H' μ') (n : Nx D as H D' as' H') (g : G Wx σ R D as H o Q) : G Wx σ R D' as' H' o Q := by
  cases o with
  | ok a m => exact fun b D2 as2 H2 n2 k2 r => g b D2 as2 H2 (n.trans k k' n2) k2 r
  | exc C fs m => exact fun d gs D2 as2 H2 n2 k2 e r => g d gs D2 as2 H2 (n.trans k k' n2) k2 e r
  | bad => exact g
theorem G.mono (g : G Wx σ R D as H o Q) (h : ∀ b H', Q b H' → Q' b H') : G Wx σ R D as H o Q' := by
  cases o with
  | ok a m => exact fun b D2 as2 H2 n2 k2 r => h _ _ (g b D2 as2 H2 n2 k2 r)
  | exc C fs m => exact g
  | bad => exact g
theorem G.bind {f : α → Μ → O α'} {Q : β' → Hp → Prop} (R : RL β α) (k : Sk D as H μ) (g : G Wx σ R' D as H (o.bind f) Q) :
    G Wx σ R D as H o fun b H1 => ∃ D1 as1 μ1 a, Nx D as H D1 as1 H1 ∧ Sk D1 as1 H1 μ1 ∧ R D1 as1 H1 b a ∧ G Wx σ R' D1 as1 H1 (f a μ1) Q := by
  cases o with
  | ok a m => exact fun b D2 as2 H2 n2 k2 r => ⟨D2, as2, m, a, n2, k2, r, G.nx k k2 n2 g⟩
  | exc C fs m => exact g
  | bad => exact g
theorem G.now {a : α} {b : β} (k : Sk D as H μ) (r : R D as H b a) (g : G Wx σ R D as H (.ok a μ) Q) : Q b H := g b D as H .refl k r
end
theorem nowV {Wx : WX} {σ : L2.St} {D : Addr → Prop} {as : Ps} {H : Hp} {μ : Μ} {p : P} {x : V} {Q : VK} (k : Sk D as H μ) (g : G Wx σ RepW D as H (.ok (.v p) μ) Q) (r : Rep D H x p) : Q x H := G.now (R := RepW) k (show RepW D as H x (.v p) from r) g
abbrev EF := Γ → Μ → O W
abbrev AF := Γ → Μ → O (List W)
abbrev TF := Γ → Μ → O Bool
def RepB : RL Bool Bool := fun _ _ _ b a => b = a
inductive RepWs (D : Addr → Prop) (as : Ps) (H : Hp) : List V → List W → Prop
  | nil : RepWs D as H [] []
  | cons {v w l m} : RepW D as H v w → RepWs D as H l m → RepWs D as H (v :: l) (w :: m)
theorem RepWs.nx {D D' as as' H H'} (n : Nx D as H D' as' H') : ∀ {vs ws}, RepWs D as H vs ws → RepWs D' as' H' vs ws
  | _, _, .nil => .nil
  | _, _, .cons r t => .cons (r.nx n) (RepWs.nx n t)
theorem RepWs.length {D as H} : ∀ {vs ws}, RepWs D as H vs ws → vs.length = ws.length
  | _, _, .nil => rfl
  | _, _, .cons _ t => congrArg (· + 1) (RepWs.length t)
def Ad (Wx : WX) (te : TE) (F : EF) : Prop := ∀ D as γ μ σ H Q, Sk D as H μ → EnvR D as H σ γ → G Wx σ RepW D as H (F γ μ) Q → te σ H Q
def AdA (Wx : WX) (ta : TA) (F : AF) : Prop := ∀ D as γ μ σ H Q, Sk D as H μ → EnvR D as H σ γ → G Wx σ RepWs D as H (F γ μ) Q → ta σ H Q
def AdT (Wx : WX) (tt : TT) (F : TF) : Prop := ∀ D as γ μ σ H Q, Sk D as H μ → EnvR D as H σ γ → G Wx σ RepB D as H (F γ μ) Q → tt σ H Q
def PP (X : Cx) (Wx : WX) (e : Expr) (F : EF) : Prop := ∃ te, PE X e te ∧ Ad Wx te F
def PPA (X : Cx) (Wx : WX) (es : List Expr) (F : AF) : Prop := ∃ ta, PA X es ta ∧ AdA Wx ta F
def PPT (X : Cx) (Wx : WX) (e : Expr) (F : TF) : Prop := ∃ tt, PT X e tt ∧ AdT Wx tt F
def PPW (X : Cx) (Wx : WX) (e : Expr) (F : TF) : Prop := ∃ tt, PW X e tt ∧ AdT Wx tt F
/-! ### names, constants -/
def fVar (i : Nat) : EF := fun γ μ => match γ[i]? with
  | some (some w) => .ok w μ
  | _ => .bad
def fC (p : P) : EF := fun _ μ => .ok (.v p) μ
section
variable {X : Cx} {Wx : WX} {e a b c : Expr} {es rest : List Expr} {F F1 F2 F3 : EF} {FA : AF} {T T1 T2 : TF} {pos : Pos}
theorem ad_var {i : Nat} : Ad Wx (tVar i) (fVar i) := fun D as γ μ σ H Q k ev g => by
  unfold fVar at g
  split at g
  · rename_i w h
    obtain ⟨v, q, r⟩ := ev.2 i w h
    exact ⟨v, q, g.now k r⟩
  · exact g.elim
theorem ad_c {x : V} {p : P} (h : ∀ D H, Rep D H x p) : Ad Wx (tC x) (fC p) := fun D as γ μ σ H Q k ev g => nowV k g (h D H)
theorem pp_v (i : Nat) {x : Str} {pos : Pos} (hN : X.N[i]? = some x := by rfl) (hv : Vis X.env.scope x := by first | exact Or.inl rfl | exact Or.inr (Or.inl rfl) | exact Or.inr (Or.inr rfl)) (hd : (x == ("__debug__" : Str)) = false := by decide) (hcd : (x == ("__classdict__" : Str)) = false := by decide) :
    PP X Wx (.Name x pos) (fVar i) := ⟨_, pe_var hN hv hd hcd, ad_var⟩
theorem pp_int {i j pos} : PP X Wx (.Constant (.int i) j pos) (fC (.int i)) := ⟨_, pe_int, ad_c fun _ _ => .int⟩
theorem pp_bl {i j pos} : PP X Wx (.Constant (.bool i) j pos) (fC (.bl i)) := ⟨_, pe_bl, ad_c fun _ _ => .bl⟩
theorem pp_non {j pos} : PP X Wx (.Constant .none j pos) (fC .non) := ⟨_, pe_non, ad_c fun _ _ => .non⟩
theorem pp_str {i j pos} : PP X Wx (.Constant (.str i) j pos) (fC (.str i)) := ⟨_, pe_str, ad_c fun _ _ => .str⟩
theorem pp_c {x : V} {p : P} (h : PE X e (tC x)) (r : ∀ D H, Rep D H x p) : PP X Wx e (fC p) := ⟨_, h, ad_c r⟩
/-! ### operators -/
def AdR2 (Wx : WX) (r : R2) (f : W → W → Μ → O W) : Prop := ∀ D as μ σ H x y a b Q, Sk D as H μ → RepW D as H x a → RepW D as H y b → G Wx σ RepW D as H (f a b μ) Q → r x y H Q
def fOp (f : W → W → Μ → O W) (A B : EF) : EF := fun γ μ => (A γ μ).bind fun x m => (B γ m).bind fun y m => f x y m
def fUn (f : W → Μ → O W) (A : EF) : EF := fun γ μ => (A γ μ).bind fun x m => f x m
theorem ad_op {r : R2} {f} {ta tb} (h : AdR2 Wx r f) (ha : Ad Wx ta F1) (hb : Ad Wx tb F2) : Ad Wx (tOp r ta tb) (fOp f F1 F2) := fun D as γ μ σ H Q k ev g => by
  refine ha D as γ μ σ H _ k ev ((G.bind RepW k g).mono fun x H1 ⟨D1, as1, μ1, wx, n1, k1, r1, g1⟩ => ?_)
  refine hb D1 as1 γ μ1 σ H1 _ k1 (ev.nx n1) ((G.bind RepW k1 g1).mono fun y H2 ⟨D2, as2, μ2, wy, n2, k2, r2, g2⟩ => ?_)
  exact h D2 as2 μ2 σ H2 x y wx wy Q k2 (r1.nx n2) r2 g2
def AdU (Wx : WX) (r : V → Hp → VK → Prop) (f : W → Μ → O W) : Prop := ∀ D as μ σ H x a Q, Sk D as H μ → RepW D as H x a → G Wx σ RepW D as H (f a μ) Q → r x H Q
theorem ad_un {r} {f} {ta} (h : AdU Wx r f) (ha : Ad Wx ta F1) : Ad Wx (tUn r ta) (fUn f F1) := fun D as γ μ σ H Q k ev g => by
  refine ha D as γ μ σ H _ k ev ((G.bind RepW k g).mono fun x H1 ⟨D1, as1, μ1, wx, n1, k1, r1, g1⟩ => ?_)
  exact h D1 as1 μ1 σ H1 x wx Q k1 r1 g1
theorem pp_op {op : Operator} {r : R2} {f} (ho : OpR X (binaryOp op) r) (h : AdR2 Wx r f) (ha : PP X Wx a F1) (hb : PP X Wx b F2) : PP X Wx (.BinOp a op b pos) (fOp f F1 F2) :=
  let ⟨_, pa, aa⟩ := ha; let ⟨_, pb, ab⟩ := hb; ⟨_, pe_op ho pa pb, ad_op h aa ab⟩
theorem pp_un {op : UnaryOp} {r} {f} (ho : UnR X (unaryOp op) r) (h : AdU Wx r f) (ha : PP X Wx a F1) : PP X Wx (.UnaryOp op a pos) (fUn f F1) :=
  let ⟨_, pa, aa⟩ := ha; ⟨_, pe_un ho pa, ad_un h aa⟩
theorem pp_cmp {op : CmpOp} {r : R2} {f} (ho : OpR X (compareOp op) r) (h : AdR2 Wx r f) (ha : PP X Wx a F1) (hb : PP X Wx b F2) (hm : behindInMarks op b = false := by first | exact nobehind _ (by decide) (by decide) | rfl) : PP X Wx (.Compare a [op] [b] pos) (fOp f F1 F2) :=
  let ⟨_, pa, aa⟩ := ha; let ⟨_, pb, ab⟩ := hb; ⟨_, pe_cmpR ho pa pb hm, ad_op h aa ab⟩
theorem pp_ix {r : R2} {f} (hr : IxR X r) (h : AdR2 Wx r f) (ha : PP X Wx a F1) (hb : PP X Wx b F2) (hs : PlainIx b := by exact fun _ _ => rfl) : PP X Wx (.Subscript a b pos) (fOp f F1 F2) :=
  let ⟨_, pa, aa⟩ := ha; let ⟨_, pb, ab⟩ := hb; ⟨_, pe_ix hr pa pb hs, ad_op h aa ab⟩
def fI (c : Int → Int → Bool) (g : Int → Int → P) : W → W → Μ → O W := fun x y μ => match x, y with
  | .v (.int i), .v (.int j) => if c i j then .ok (.v (g i j)) μ else .bad
  | _, _ => .bad
def fI0 (g : Int → Int → P) : W → W → Μ → O W := fun x y μ => match x, y with
  | .v (.int i), .v (.int j) => .ok (.v (g i j)) μ
  | _, _ => .bad
theorem rep_int {D : Addr → Prop} {H : Hp} {x : V} {i : Int} (r : Rep D H x (.int i)) : x = .int i := by cases r; rfl
theorem rep_bl {D : Addr → Prop} {H : Hp} {x : V} {i : Bool} (r : Rep D H x (.bl i)) : x = .bl i := by cases r; rfl
theorem rep_str {D : Addr → Prop} {H : Hp} {x : V} {i : Str} (r : Rep D H x (.str i)) : x = .str i := by cases r; rfl
theorem rep_non {D : Addr → Prop} {H : Hp} {x : V} (r : Rep D H x .non) : x = .non := by cases r; rfl
theorem ad_I0 {g : Int → Int → V} {q : Int → Int → P} (h : ∀ D H i j, Rep D H (g i j) (q i j)) : AdR2 Wx (rI0 g) (fI0 q) := fun D as μ σ H x y a b Q k ra rb gg => by
  unfold fI0 at gg
  split at gg
  · obtain rfl := rep_int ra
    obtain rfl := rep_int rb
    exact ⟨_, _, rfl, rfl, nowV k gg (h _ _ _ _)⟩
  · exact gg.elim
theorem ad_I {C : Int → Int → Prop} {c : Int → Int → Bool} {g : Int → Int → V} {q : Int → Int → P} (hc : ∀ i j, c i j = true → C i j) (h : ∀ D H i j, Rep D H (g i j) (q i j)) : AdR2 Wx (rI C g) (fI c q) := fun D as μ σ H x y a b Q k ra rb gg => by
  unfold fI at gg
  split at gg
  · split at gg
    · rename_i cc
      obtain rfl := rep_int ra
      obtain rfl := rep_int rb
      exact ⟨_, _, rfl, rfl, hc _ _ cc, nowV k gg (h _ _ _ _)⟩
    · exact gg.elim
  · exact gg.elim
abbrev fAdd := fI0 fun i j => .int (i + j)
abbrev fSub := fI0 fun i j => .int (i - j)
abbrev fMul := fI (fun i j => decide (i.natAbs < 2 ^ 64 ∨ j.natAbs < 2 ^ 64)) fun i j => .int (i * j)
abbrev fDiv := fI (fun _ j => decide (0 < j ∧ j < 1073741824)) fun i j => .int (i / j)
abbrev fMod := fI (fun _ j => decide (0 < j)) fun i j => .int (i % j)
abbrev fPow := fI (fun i j => decide (0 ≤ j ∧ j ≤ 1000000 ∧ i.natAbs < 2 ^ 64)) fun i j => .int (i ^ j.toNat)
theorem ad_add : AdR2 Wx (rI0 fun i j => .int (i + j)) fAdd := ad_I0 fun _ _ _ _ => .int
theorem ad_sub : AdR2 Wx (rI0 fun i j => .int (i - j)) fSub := ad_I0 fun _ _ _ _ => .int
theorem ad_mul : AdR2 Wx (rI CMul fun i j => .int (i * j)) fMul := ad_I (fun i j h => by
  have h := of_decide_eq_true h
  unfold CMul
  omega) fun _ _ _ _ => .int
theorem ad_div : AdR2 Wx (rI CDiv fun i j => .int (i / j)) fDiv := ad_I (fun i j h => (of_decide_eq_true h : 0 < j ∧ j < 1073741824)) fun _ _ _ _ => .int
theorem ad_mod : AdR2 Wx (rI (fun _ j => 0 < j) fun i j => .int (i % j)) fMod := ad_I (fun i j h => of_decide_eq_true h) fun _ _ _ _ => .int
theorem ad_pow : AdR2 Wx (rI CPow fun i j => .int (i ^ j.toNat)) fPow := ad_I (fun i j h => (of_decide_eq_true h : 0 ≤ j ∧ j ≤ 1000000 ∧ i.natAbs < 2 ^ 64)) fun _ _ _ _ => .int
theorem ad_lt : AdR2 Wx (rI0 fun i j => .bl (decide (i < j))) (fI0 fun i j => .bl (decide (i < j))) := ad_I0 fun _ _ _ _ => .bl
theorem ad_le : AdR2 Wx (rI0 fun i j => .bl (decide (i ≤ j))) (fI0 fun i j => .bl (decide (i ≤ j))) := ad_I0 fun _ _ _ _ => .bl
theorem ad_gt : AdR2 Wx (rI0 fun i j => .bl (decide (j < i))) (fI0 fun i j => .bl (decide (j < i))) := ad_I0 fun _ _ _ _ => .bl
def fNeg : W → Μ → O W := fun x μ => match x with
  | .v (.int i) => .ok (.v (.int (-i))) μ
  | _ => .bad
theorem ad_neg : AdU Wx (rU fun i => .int (-i)) fNeg := fun D as μ σ H x a Q k ra gg => by
  unfold fNeg at gg
  split at gg
  · obtain rfl := rep_int ra
    exact ⟨_, rfl, nowV k gg .int⟩
  · exact gg.elim
/-- two texts -/
def fSS (c : Str → Str → Bool) (g : Str → Str → P) : W → W → Μ → O W := fun x y μ => match x, y with
  | .v (.str i), .v (.str j) => if c i j then .ok (.v (g i j)) μ else .bad
  | _, _ => .bad
theorem ad_SS {c : Str → Str → Bool} {g : Str → Str → P} {r : R2} (h : ∀ D H i j Q, c i j = true → (∀ v, Rep D H v (g i j) → Q v H) → r (.str i) (.str j) H Q) : AdR2 Wx r (fSS c g) := fun D as μ σ H x y a b Q k ra rb gg => by
  unfold fSS at gg
  split at gg
  · split at gg
    · rename_i cc
      obtain rfl := rep_str ra
      obtain rfl := rep_str rb
      exact h D H _ _ Q cc fun v r => nowV k gg r
    · exact gg.elim
  · exact gg.elim
abbrev fCatS := fSS (fun i j => decide (i.length + j.length ≤ sizeLine)) fun i j => .str (i ++ j)
theorem ad_catS : AdR2 Wx (fun x y H Q => ∃ i j, x = .str i ∧ y = .str j ∧ i.length + j.length ≤ sizeLine ∧ Q (.str (i ++ j)) H) fCatS := ad_SS fun D H i j Q c h => ⟨_, _, rfl, rfl, of_decide_eq_true c, h _ .str⟩
def strLt (i j : Str) : Bool := decide (i.cps.toList < j.cps.toList)
theorem ad_ltS : AdR2 Wx (fun x y H Q => ∃ i j, x = .str i ∧ y = .str j ∧ Q (.bl (decide (i.cps.toList < j.cps.toList))) H) (fSS (fun _ _ => true) fun i j => .bl (strLt i j)) := ad_SS fun D H i j Q c h => ⟨_, _, rfl, rfl, h _ .bl⟩
/-- flat things: equal or not -/
def eqS : P → P → Option Bool
  | .int i, .int j => some (i == j)
  | .str i, .str j => some (i == j)
  | .bl i, .bl j => some (i == j)
  | .non, .non => some true
  | .non, .int _ => some false | .non, .str _ => some false | .non, .bl _ => some false
  | .int _, .non => some false | .str _, .non => some false | .bl _, .non => some false
  | .int _, .str _ => some false | .str _, .int _ => some false
  | _, _ => none
def fEqS (neg : Bool) : W → W → Μ → O W := fun x y μ => match x, y with
  | .v p, .v q => match eqS p q with
    | some b => .ok (.v (.bl (b != neg))) μ
    | none => .bad
  | _, _ => .bad
end
end Pu
set_option Elab.async false
set_option linter.all false
set_option maxRecDepth 100000
set_option maxHeartbeats 4000000
namespace Pu
open L2 PySem PySem.Spec PyProof.Rows E10
theorem sz_of {n : Nat} (h : n ≤ 100000) : n ≤ sizeLine := Nat.le_trans h (by decide)
section
variable {X : Cx} {Wx : WX} {e a b c : Expr} {es rest : List Expr} {F F1 F2 F3 : EF} {FA : AF} {T T1 T2 : TF} {pos : Pos}
theorem eqS_ok {D : Addr → Prop} {H : Hp} {x y : V} {p q : P} {r : Bool} (ra : Rep D H x p) (rb : Rep D H y q) (h : eqS p q = some r) : scal x y = true ∧ decide (x = y) = r := by
  unfold eqS at h
  split at h <;> cases h <;> cases ra <;> cases rb <;> refine ⟨rfl, ?_⟩ <;> first | rfl | exact dec_int | exact dec_str | exact dec_bl | simp
theorem ad_eqS : AdR2 Wx rEq (fEqS false) := fun D as μ σ H x y wa wb Q k ra rb gg => by
  unfold fEqS at gg
  split at gg
  · split at gg
    · rename_i r h
      obtain ⟨s1, s2⟩ := eqS_ok ra rb h
      refine ⟨s1, ?_⟩
      rw [s2]
      have := nowV (x := .bl (r != false)) k gg .bl
      simpa using this
    · exact gg.elim
  · exact gg.elim
theorem ad_neS : AdR2 Wx rNe (fEqS true) := fun D as μ σ H x y wa wb Q k ra rb gg => by
  unfold fEqS at gg
  split at gg
  · split at gg
    · rename_i r h
      obtain ⟨s1, s2⟩ := eqS_ok ra rb h
      refine ⟨s1, ?_⟩
      rw [s2]
      have := nowV (x := .bl (r != true)) k gg .bl
      simpa using this
    · exact gg.elim
  · exact gg.elim
/-- alive -/
def liveC : PC → Bool
  | .dead => false
  | _ => true
theorem liveC_ne {c : PC} (h : liveC c = true) : c ≠ .dead := fun e => by rw [e] at h; cases h
def liveAt (μ : Μ) (j : Nat) : Bool := match μ[j]? with
  | some c => liveC c
  | none => false
theorem live_adr {D : Addr → Prop} {as : Ps} {H : Hp} {μ : Μ} {x : V} {j : Nat} (k : Sk D as H μ) (r : RepW D as H x (.loc j)) (h : liveAt μ j = true) : ∃ a c, μ[j]? = some c ∧ as[j]? = some (some a) ∧ x = .ref a ∧ CellOk D H a c := by
  unfold liveAt at h
  split at h
  · rename_i c e
    obtain ⟨a, e1, e2, e3⟩ := r.adr k e (liveC_ne h)
    exact ⟨a, c, e, e1, e2, e3⟩
  · cases h
/-! ### a chain -/
def fChain (f g : W → W → Μ → O W) (A B C : EF) : EF := fun γ μ => (A γ μ).bind fun x m => (B γ m).bind fun y m => (f x y m).bind fun z m => match z with
  | .v (.bl true) => (C γ m).bind fun u m => g y u m
  | .v (.bl false) => .ok (.v (.bl false)) m
  | _ => .bad
theorem ad_chain {r r' : R2} {f g} {ta tb tc} (h : AdR2 Wx r f) (h' : AdR2 Wx r' g) (ha : Ad Wx ta F1) (hb : Ad Wx tb F2) (hc : Ad Wx tc F3) : Ad Wx (tChain r r' ta tb tc) (fChain f g F1 F2 F3) := fun D as γ μ σ H Q k ev gg => by
  refine ha D as γ μ σ H _ k ev ((G.bind RepW k gg).mono fun x H1 ⟨D1, as1, μ1, wx, n1, k1, r1, g1⟩ => ?_)
  refine hb D1 as1 γ μ1 σ H1 _ k1 (ev.nx n1) ((G.bind RepW k1 g1).mono fun y H2 ⟨D2, as2, μ2, wy, n2, k2, r2, g2⟩ => ?_)
  refine h D2 as2 μ2 σ H2 x y wx wy _ k2 (r1.nx n2) r2 ((G.bind RepW k2 g2).mono fun z H3 ⟨D3, as3, μ3, wz, n3, k3, r3, g3⟩ => ?_)
  split at g3
  · obtain rfl := rep_bl r3
    refine ⟨true, rfl, ?_⟩
    simp only [if_true]
    exact hc D3 as3 γ μ3 σ H3 _ k3 (((ev.nx n1).nx n2).nx n3) ((G.bind RepW k3 g3).mono fun u H4 ⟨D4, as4, μ4, wu, n4, k4, r4, g4⟩ => h' D4 as4 μ4 σ H4 y u wy wu Q k4 ((r2.nx n3).nx n4) r4 g4)
  · obtain rfl := rep_bl r3
    refine ⟨false, rfl, ?_⟩
    exact nowV k3 g3 .bl
  · exact g3.elim
theorem pp_chain {op op' : CmpOp} {r r' : R2} {f g} (ho : OpR X (compareOp op) r) (ho' : OpR X (compareOp op') r') (h : AdR2 Wx r f) (h' : AdR2 Wx r' g) (ha : PP X Wx a F1) (hb : PP X Wx b F2) (hc : PP X Wx c F3)
    (hm : lastMarks [op, op'] [b, c] = false := by with_unfolding_all rfl) : PP X Wx (.Compare a [op, op'] [b, c] pos) (fChain f g F1 F2 F3) :=
  let ⟨_, pa, aa⟩ := ha; let ⟨_, pb, ab⟩ := hb; let ⟨_, pc, ac⟩ := hc; ⟨_, pe_chain ho ho' pa pb pc hm, ad_chain h h' aa ab ac⟩
/-! ### tests -/
def fTest (F : EF) : TF := fun γ μ => (F γ μ).bind fun w m => match w with
  | .v (.bl b) => .ok b m
  | _ => .bad
theorem ad_test {te} (h : Ad Wx te F) : AdT Wx (tB te) (fTest F) := fun D as γ μ σ H Q k ev g => by
  refine h D as γ μ σ H _ k ev ((G.bind RepW k g).mono fun x H1 ⟨D1, as1, μ1, wx, n1, k1, r1, g1⟩ => ?_)
  split at g1
  · obtain rfl := rep_bl r1
    exact ⟨_, rfl, g1.now (R := RepB) k1 rfl⟩
  · exact g1.elim
theorem pt_b (h : PP X Wx e F) (he : ∀ whole, isTrue e X.env whole = (do let v ← whole; standAt e.pos; holding [v] (truthy v)) := by intro _; rfl) : PPT X Wx e (fTest F) := let ⟨_, p, a⟩ := h; ⟨_, pt_val p he, ad_test a⟩
theorem ptt_cmp {op : CmpOp} {r : R2} {f} (ho : OpR X (compareOp op) r) (h : AdR2 Wx r f) (ha : PP X Wx a F1) (hb : PP X Wx b F2) (hm : behindInMarks op b = false := by first | exact nobehind _ (by decide) (by decide) | rfl) : PPT X Wx (.Compare a [op] [b] pos) (fTest (fOp f F1 F2)) :=
  let ⟨_, pa, aa⟩ := ha; let ⟨_, pb, ab⟩ := hb; ⟨_, pt_cmpR ho pa pb hm, ad_test (ad_op h aa ab)⟩
def fNotT (T : TF) : TF := fun γ μ => (T γ μ).bind fun b m => .ok (!b) m
theorem ptt_not (h : PPT X Wx a T) : PPT X Wx (.UnaryOp .Not a pos) (fNotT T) := let ⟨_, p, ad⟩ := h; ⟨_, pt_not p, fun D as γ μ σ H Q k ev g => by
  refine ad D as γ μ σ H _ k ev ((G.bind RepB k g).mono fun x H1 ⟨D1, as1, μ1, wx, n1, k1, r1, g1⟩ => ?_)
  obtain rfl : x = wx := r1
  exact g1.now (R := RepB) k1 rfl⟩
def fAndT (T U : TF) : TF := fun γ μ => (T γ μ).bind fun b m => if b = true then U γ m else .ok false m
def fOrT (T U : TF) : TF := fun γ μ => (T γ μ).bind fun b m => if b = true then .ok true m else U γ m
theorem ptw_or1 (h : PPT X Wx a T) : PPW X Wx (.BoolOp .Or [a] pos) T := let ⟨_, p, ad⟩ := h; ⟨_, pw_or1 p, ad⟩
theorem ptw_or (h : PPT X Wx a T1) (h2 : PPW X Wx (.BoolOp .Or (b :: rest) pos) T2) : PPW X Wx (.BoolOp .Or (a :: b :: rest) pos) (fOrT T1 T2) := let ⟨_, p, ad⟩ := h; let ⟨_, p2, ad2⟩ := h2; ⟨_, pw_or p p2, fun D as γ μ σ H Q k ev g => by
  refine ad D as γ μ σ H _ k ev ((G.bind RepB k g).mono fun x H1 ⟨D1, as1, μ1, wx, n1, k1, r1, g1⟩ => ?_)
  obtain rfl : x = wx := r1
  cases x with
  | true => exact g1.now (R := RepB) k1 rfl
  | false => exact ad2 D1 as1 γ μ1 σ H1 Q k1 (ev.nx n1) g1⟩
theorem PPW.pt (h : PPW X Wx a T) : PPT X Wx a T := let ⟨_, p, ad⟩ := h; ⟨_, p.pt, ad⟩
/-! ### and, or, not of bools, as values -/
def fAndV (F U : EF) : EF := fun γ μ => (F γ μ).bind fun w m => match w with
  | .v (.bl true) => U γ m
  | .v (.bl false) => .ok (.v (.bl false)) m
  | _ => .bad
def fOrV (F U : EF) : EF := fun γ μ => (F γ μ).bind fun w m => match w with
  | .v (.bl true) => .ok (.v (.bl true)) m
  | .v (.bl false) => U γ m
  | _ => .bad
def fNotV (F : EF) : EF := fun γ μ => (F γ μ).bind fun w m => match w with
  | .v (.bl b) => .ok (.v (.bl (!b))) m
  | _ => .bad
theorem pp_one {op} (h : PP X Wx a F) : PP X Wx (.BoolOp op [a] pos) F := let ⟨_, p, ad⟩ := h; ⟨_, pe_one p, ad⟩
theorem pp_and (h : PP X Wx a F1) (h2 : PP X Wx (.BoolOp .And (b :: rest) pos) F2) : PP X Wx (.BoolOp .And (a :: b :: rest) pos) (fAndV F1 F2) := let ⟨_, p, ad⟩ := h; let ⟨_, p2, ad2⟩ := h2; ⟨_, pe_and p p2, fun D as γ μ σ H Q k ev g => by
  refine ad D as γ μ σ H _ k ev ((G.bind RepW k g).mono fun x H1 ⟨D1, as1, μ1, wx, n1, k1, r1, g1⟩ => ?_)
  split at g1
  · obtain rfl := rep_bl r1
    exact ⟨true, rfl, ad2 D1 as1 γ μ1 σ H1 Q k1 (ev.nx n1) g1⟩
  · obtain rfl := rep_bl r1
    exact ⟨false, rfl, nowV k1 g1 .bl⟩
  · exact g1.elim⟩
theorem pp_not (h : PP X Wx a F1) : PP X Wx (.UnaryOp .Not a pos) (fNotV F1) := let ⟨_, p, ad⟩ := h; ⟨_, pe_not p, fun D as γ μ σ H Q k ev g => by
  refine ad D as γ μ σ H _ k ev ((G.bind RepW k g).mono fun x H1 ⟨D1, as1, μ1, wx, n1, k1, r1, g1⟩ => ?_)
  split at g1
  · obtain rfl := rep_bl r1
    exact ⟨_, rfl, nowV k1 g1 .bl⟩
  · exact g1.elim⟩
def fIf (T : TF) (A B : EF) : EF := fun γ μ => (T γ μ).bind fun b m => if b = true then A γ m else B γ m
theorem pp_if (h : PPT X Wx c T) (ha : PP X Wx a F1) (hb : PP X Wx b F2) : PP X Wx (.IfExp c a b pos) (fIf T F1 F2) := let ⟨_, p, ad⟩ := h; let ⟨_, pa, aa⟩ := ha; let ⟨_, pb, ab⟩ := hb; ⟨_, pe_ifExp p pa pb, fun D as γ μ σ H Q k ev g => by
  refine ad D as γ μ σ H _ k ev ((G.bind RepB k g).mono fun x H1 ⟨D1, as1, μ1, wx, n1, k1, r1, g1⟩ => ?_)
  obtain rfl : x = wx := r1
  cases x with
  | true => exact aa D1 as1 γ μ1 σ H1 Q k1 (ev.nx n1) g1
  | false => exact ab D1 as1 γ μ1 σ H1 Q k1 (ev.nx n1) g1⟩
/-! ### arguments, displays -/
def fNil : AF := fun _ μ => .ok [] μ
def fCons (F : EF) (A : AF) : AF := fun γ μ => (F γ μ).bind fun w m => (A γ m).bind fun ws m => .ok (w :: ws) m
theorem ppa_nil : PPA X Wx [] fNil := ⟨_, pa_nil, fun D as γ μ σ H Q k ev g => g.now (R := RepWs) k .nil⟩
theorem ad_cons {te ta} (h : Ad Wx te F) (h2 : AdA Wx ta FA) : AdA Wx (tCons te ta) (fCons F FA) := fun D as γ μ σ H Q k ev g => by
  refine h D as γ μ σ H _ k ev ((G.bind RepW k g).mono fun x H1 ⟨D1, as1, μ1, wx, n1, k1, r1, g1⟩ => ?_)
  refine h2 D1 as1 γ μ1 σ H1 _ k1 (ev.nx n1) ((G.bind RepWs k1 g1).mono fun xs H2 ⟨D2, as2, μ2, ws, n2, k2, r2, g2⟩ => ?_)
  exact g2.now (R := RepWs) k2 (.cons (r1.nx n2) r2)
theorem ppa_cons (h : PP X Wx e F) (h2 : PPA X Wx es FA) (hs : starEach (e :: es) X.env = (false, eval e X.env) :: starEach es X.env := by rfl) : PPA X Wx (e :: es) (fCons F FA) := let ⟨_, p, ad⟩ := h; let ⟨_, p2, ad2⟩ := h2; ⟨_, pa_cons p p2 hs, ad_cons ad ad2⟩
/-- all of them values -/
def vals : List W → Option (List P)
  | [] => some []
  | .v p :: r => (vals r).map (p :: ·)
  | .loc _ :: _ => none
theorem vals_ok {D as H} : ∀ {vs : List V} {ws : List W} {ps : List P}, RepWs D as H vs ws → vals ws = some ps → Reps D H vs ps
  | _, _, _, .nil, e => by cases e; exact .nil
  | _, _, _, @RepWs.cons _ _ _ v (.v p) l m r t, e => by
    cases q : vals m with
    | none =>
      rw [vals, q] at e
      cases e
    | some qs =>
      rw [vals, q] at e
      cases e
      exact .cons r (vals_ok t q)
  | _, _, _, @RepWs.cons _ _ _ v (.loc j) l m r t, e => by cases e
def fSeq (mk : List P → P) (A : AF) : EF := fun γ μ => (A γ μ).bind fun ws m => match vals ws with
  | some ps => if ps.length ≤ 100000 then .ok (.v (mk ps)) m else .bad
  | none => .bad
theorem new_same' {H : Hp} {p : Addr} {o : HO} (np : H p = none) : Same H (upd H p o) := fun c u e => (upd_ne (ne_of_none e np)).trans e
/-- a value whose object is just laid -/
theorem nowN {σ : L2.St} {D : Addr → Prop} {as : Ps} {H H' : Hp} {μ : Μ} {p : P} {x : V} {Q : VK} (k : Sk D as H μ) (s : Same H H') (g : G Wx σ RepW D as H (.ok (.v p) μ) Q) (r : Rep D H' x p) : Q x H' :=
  g x D as H' (.of_same s) (k.same s) r
theorem Sk.nd {D : Addr → Prop} {as : Ps} {H : Hp} {μ : Μ} (k : Sk D as H μ) {p : Addr} (h : H p = none) : ¬ D p := fun d => let ⟨o, e⟩ := k.dn p d; by rw [h] at e; cases e
theorem ad_tup {ta} (h : AdA Wx ta FA) : Ad Wx (tTup ta) (fSeq .tup FA) := fun D as γ μ σ H Q k ev g => by
  refine h D as γ μ σ H _ k ev ((G.bind RepWs k g).mono fun xs H1 ⟨D1, as1, μ1, ws, n1, k1, r1, g1⟩ => ?_)
  split at g1
  · split at g1
    · rename_i ps q hl
      have rs := vals_ok r1 q
      refine ⟨sz_of (by rw [rs.length]; exact hl), fun p np => ?_⟩
      have s := new_same' (o := .tup xs) np
      exact nowN k1 s g1 (.tup (k1.nd np) (.inl upd_same) (Reps.sd (.same s) rs))
    · exact g1.elim
  · exact g1.elim
theorem ad_lst {ta} (h : AdA Wx ta FA) : Ad Wx (tLst ta) (fSeq .lst FA) := fun D as γ μ σ H Q k ev g => by
  refine h D as γ μ σ H _ k ev ((G.bind RepWs k g).mono fun xs H1 ⟨D1, as1, μ1, ws, n1, k1, r1, g1⟩ => ?_)
  split at g1
  · split at g1
    · rename_i ps q hl
      have rs := vals_ok r1 q
      refine ⟨sz_of (by rw [rs.length]; exact hl), fun p np => ?_⟩
      have s := new_same' (o := .lst xs) np
      exact nowN k1 s g1 (.lst (k1.nd np) (.inl upd_same) (Reps.sd (.same s) rs))
    · exact g1.elim
  · exact g1.elim
theorem pp_tup {x1} (h : PPA X Wx es FA) : PP X Wx (.Tuple es x1 pos) (fSeq .tup FA) := let ⟨_, p, ad⟩ := h; ⟨_, pe_tup p, ad_tup ad⟩
theorem pp_lst (h : PPA X Wx es FA) : PP X Wx (.List es pos) (fSeq .lst FA) := let ⟨_, p, ad⟩ := h; ⟨_, pe_lst p, ad_lst ad⟩
/-! ### a list that will change: it stands at the end of the places -/
def fLstC (A : AF) : EF := fun γ μ => (A γ μ).bind fun ws m => match vals ws with
  | some ps => if ps.length ≤ 100000 then .ok (.loc m.length) (m ++ [.lst ps]) else .bad
  | none => .bad
def plusD (D : Addr → Prop) (p : Addr) : Addr → Prop := fun a => D a ∨ a = p
theorem cell_new {D : Addr → Prop} {as : Ps} {H : Hp} {μ : Μ} {p : Addr} {o : HO} {c : PC} (k : Sk D as H μ) (np : H p = none) (h : CellOk (plusD D p) (upd H p o) p c) :
    Nx D as H (plusD D p) (as ++ [some p]) (upd H p o) ∧ Sk (plusD D p) (as ++ [some p]) (upd H p o) (μ ++ [c]) := by
  have s := new_same' (o := o) np
  have at' : ∀ (j : Nat) (a : Addr), (as ++ [some p])[j]? = some (some a) → as[j]? = some (some a) ∨ (j = as.length ∧ a = p) := fun j a e => by
    by_cases c : j < as.length
    · rw [List.getElem?_append_left c] at e
      exact .inl e
    · rw [List.getElem?_append_right (Nat.le_of_not_lt c)] at e
      cases z : j - as.length with
      | zero =>
        rw [z] at e
        refine .inr ⟨by omega, ?_⟩
        have := Option.some.inj (Option.some.inj e)
        exact this.symm
      | succ n =>
        rw [z] at e
        cases e
  have n : Nx D as H (plusD D p) (as ++ [some p]) (upd H p o) :=
    ⟨fun j x e => .inl (get_pre e), fun a o e => ⟨o, s _ _ e⟩, fun a d _ => .inl d, fun a d => d.elim .inl fun e => .inr (e ▸ np), fun j a e => (at' j a e).elim .inl fun z => .inr (z.2 ▸ np), fun a u _ _ e => s _ _ e, fun a u _ r => r.elim (fun r => .inl (s _ _ r)) fun ⟨o, r⟩ => .inr ⟨o, s _ _ r⟩, fun a o _ e _ => s _ _ e, fun a o u e => s _ _ e⟩
  refine ⟨n, ?_, fun a d => ?_, fun j a e => ?_, fun i j a e1 e2 => ?_, fun j a e => ?_, fun j e => ?_⟩
  · rw [List.length_append, List.length_append, k.len]
    rfl
  · rcases d with d | rfl
    · exact let ⟨o, e⟩ := k.dn a d; ⟨o, s _ _ e⟩
    · exact ⟨_, upd_same⟩
  · rcases at' j a e with e | ⟨_, rfl⟩
    · exact .inl (k.inD j a e)
    · exact .inr rfl
  · rcases at' i a e1 with q1 | ⟨q1, z1⟩
    · rcases at' j a e2 with q2 | ⟨q2, z2⟩
      · exact k.inj i j a q1 q2
      · exact absurd (z2 ▸ k.inD i a q1) (k.nd np)
    · rcases at' j a e2 with q2 | ⟨q2, z2⟩
      · exact absurd (z1 ▸ k.inD j a q2) (k.nd np)
      · rw [q1, q2]
  · rcases at' j a e with e | ⟨rfl, rfl⟩
    · obtain ⟨c', q, x⟩ := k.ok j a e
      refine ⟨c', ?_, x.sd n.sd (upd_ne fun z => k.nd np (z ▸ k.inD j a e))⟩
      rw [List.getElem?_append_left (List.getElem?_eq_some_iff.mp q).1]
      exact q
    · refine ⟨c, ?_, h⟩
      rw [k.len, List.getElem?_append_right (Nat.le_refl _), Nat.sub_self]
      rfl
  · by_cases c : j < as.length
    · rw [List.getElem?_append_left c] at e
      rw [List.getElem?_append_left (by rw [← k.len]; exact c)]
      exact k.dead j e
    · rw [List.getElem?_append_right (Nat.le_of_not_lt c)] at e
      cases z : j - as.length with
      | zero => rw [z] at e; cases e
      | succ n => rw [z] at e; cases e
theorem last_get {as : Ps} {p : Addr} : (as ++ [some p])[as.length]? = some (some p) := by
  rw [List.getElem?_append_right (Nat.le_refl _), Nat.sub_self]
  rfl
theorem sd_plus {D : Addr → Prop} {H : Hp} {p : Addr} {o : HO} (np : H p = none) : Sd D H (plusD D p) (upd H p o) := by
  have s := new_same' (o := o) np
  refine ⟨fun a u d e q => ?_, fun a u _ r => r.elim (fun r => .inl (s _ _ r)) fun ⟨o, r⟩ => .inr ⟨o, s _ _ r⟩, fun a o _ e _ => s _ _ e⟩
  rcases q with q | rfl
  · exact d q
  · rw [np] at e; cases e
theorem ad_lstC {ta} (h : AdA Wx ta FA) : Ad Wx (tLst ta) (fLstC FA) := fun D as γ μ σ H Q k ev g => by
  refine h D as γ μ σ H _ k ev ((G.bind RepWs k g).mono fun xs H1 ⟨D1, as1, μ1, ws, n1, k1, r1, g1⟩ => ?_)
  split at g1
  · split at g1
    · rename_i ps q hl
      have rs := vals_ok r1 q
      refine ⟨sz_of (by rw [rs.length]; exact hl), fun p np => ?_⟩
      obtain ⟨n2, k2⟩ := cell_new (o := .lst xs) (c := .lst ps) k1 np ⟨xs, upd_same, Reps.sd (sd_plus np) rs⟩
      exact g1 _ _ _ _ n2 k2 (.mk (by rw [← k1.len]; exact last_get))
    · exact g1.elim
  · exact g1.elim
theorem pp_lstC (h : PPA X Wx es FA) : PP X Wx (.List es pos) (fLstC FA) := let ⟨_, p, ad⟩ := h; ⟨_, pe_lst p, ad_lstC ad⟩
end
end Pu
set_option Elab.async false
set_option linter.all false
set_option maxRecDepth 100000
set_option maxHeartbeats 4000000
namespace Pu
open L2 PySem PySem.Spec PyProof.Rows E10
/-! ### statements -/
inductive OS where
  | nx (γ : Γ) (m : Μ) | ret (w : W) (m : Μ) | bk (γ : Γ) (m : Μ) | ct (γ : Γ) (m : Μ) | exc (C : Addr) (fs : List (Str × P)) (γ : Γ) (m : Μ) | bad
abbrev SF := Γ → Μ → OS
def O.s {α : Type} (o : O α) (γ : Γ) (f : α → Μ → OS) : OS := match o with
  | .ok a m => f a m
  | .exc C fs m => .exc C fs γ m
  | .bad => .bad
@[simp] theorem O.s_ok {α : Type} (a : α) (m γ) (f : α → Μ → OS) : (O.ok a m).s γ f = f a m := rfl
@[simp] theorem O.s_exc {α : Type} (C fs m γ) (f : α → Μ → OS) : (O.exc C fs m : O α).s γ f = .exc C fs γ m := rfl
@[simp] theorem O.s_bad {α : Type} (γ) (f : α → Μ → OS) : (O.bad : O α).s γ f = .bad := rfl
def GS (Wx : WX) (D : Addr → Prop) (as : Ps) (H : Hp) (l : Nat) (o : OS) (E : Ends) : Prop := match o with
  | .nx γ m => ∀ σ' D' as' H', Nx D as H D' as' H' → Sk D' as' H' m → EnvR D' as' H' σ' γ → σ'.length = l → E.nx σ' H'
  | .bk γ m => ∀ σ' D' as' H', Nx D as H D' as' H' → Sk D' as' H' m → EnvR D' as' H' σ' γ → σ'.length = l → E.bk σ' H'
  | .ct γ m => ∀ σ' D' as' H', Nx D as H D' as' H' → Sk D' as' H' m → EnvR D' as' H' σ' γ → σ'.length = l → E.ct σ' H'
  | .ret w m => ∀ v D' as' H', Nx D as H D' as' H' → Sk D' as' H' m → RepW D' as' H' v w → E.rt v H'
  | .exc C fs γ m => ∀ σ' d gs D' as' H', Nx D as H D' as' H' → Sk D' as' H' m → EnvR D' as' H' σ' γ → σ'.length = l → H' d = some (.xd gs) → RepS D' H' gs fs → Wx (.ref C) (some d) σ' H'
  | .bad => False
def AdS (Wx : WX) (ts : TS) (S : SF) : Prop := ∀ D as γ μ σ H E, Sk D as H μ → EnvR D as H σ γ → GS Wx D as H σ.length (S γ μ) E → ts E σ H
def PPS (X : Cx) (Wx : WX) (st : Stmt) (S : SF) : Prop := ∃ ts, PS X st ts ∧ AdS Wx ts S
def PPSs (X : Cx) (Wx : WX) (st : List Stmt) (S : SF) : Prop := ∃ ts, PSs X st ts ∧ AdS Wx ts S
section
variable {Wx : WX} {D D' : Addr → Prop} {as as' : Ps} {H H' : Hp} {μ μ' : Μ} {l : Nat} {o : OS} {E E' : Ends}
theorem GS.nx' (k : Sk D as H μ) (k' : Sk D' as' H' μ') (n : Nx D as H D' as' H') (g : GS Wx D as H l o E) : GS Wx D' as' H' l o E := by
  cases o with
  | nx γ m => exact fun σ' D2 as2 H2 n2 k2 e q => g σ' D2 as2 H2 (n.trans k k' n2) k2 e q
  | bk γ m => exact fun σ' D2 as2 H2 n2 k2 e q => g σ' D2 as2 H2 (n.trans k k' n2) k2 e q
  | ct γ m => exact fun σ' D2 as2 H2 n2 k2 e q => g σ' D2 as2 H2 (n.trans k k' n2) k2 e q
  | ret w m => exact fun v D2 as2 H2 n2 k2 r => g v D2 as2 H2 (n.trans k k' n2) k2 r
  | exc C fs γ m => exact fun σ' d gs D2 as2 H2 n2 k2 e q r r' => g σ' d gs D2 as2 H2 (n.trans k k' n2) k2 e q r r'
  | bad => exact g
/-- behind an expression -/
theorem GS.of_s {α β : Type} {R : RL β α} {ox : O α} {γ : Γ} {σ : L2.St} {f : α → Μ → OS} (k : Sk D as H μ) (ev : EnvR D as H σ γ) (g : GS Wx D as H σ.length (ox.s γ f) E) :
    G Wx σ R D as H ox fun b H1 => ∃ D1 as1 μ1 a, Nx D as H D1 as1 H1 ∧ Sk D1 as1 H1 μ1 ∧ EnvR D1 as1 H1 σ γ ∧ R D1 as1 H1 b a ∧ GS Wx D1 as1 H1 σ.length (f a μ1) E := by
  cases ox with
  | ok a m => exact fun b D2 as2 H2 n2 k2 r => ⟨D2, as2, m, a, n2, k2, ev.nx n2, r, GS.nx' k k2 n2 g⟩
  | exc C fs m => exact fun d gs D2 as2 H2 n2 k2 r q => g σ d gs D2 as2 H2 n2 k2 (ev.nx n2) rfl r q
  | bad => exact g
end
def sNext : SF := fun γ μ => .nx γ μ
def sSeq (S T : SF) : SF := fun γ μ => match S γ μ with
  | .nx γ1 m => T γ1 m
  | o => o
def sDrop (F : EF) : SF := fun γ μ => (F γ μ).s γ fun _ m => .nx γ m
/-- what a changing thing is worth when nothing changes it any more -/
def PC.p : PC → Option P
  | .lst ps => some (.lst ps)
  | .dct ps => some (.dct ps)
  | .ins C fs => some (.ins C fs)
  | .dead => none
  | .lstL ps => some (.lst ps)
  | .dctL ps => some (.dct ps)
def sRet (F : EF) : SF := fun γ μ => (F γ μ).s γ fun w m => .ret w m
def sIfS (T : TF) (S U : SF) : SF := fun γ μ => (T γ μ).s γ fun b m => if b = true then S γ m else U γ m
def sSet (i : Nat) (F : EF) : SF := fun γ μ => (F γ μ).s γ fun w m => .nx (γ.set i (some w)) m
section
variable {X : Cx} {Wx : WX} {e a b c : Expr} {es : List Expr} {st : Stmt} {rest sts : List Stmt} {F F1 F2 : EF} {T : TF} {S S1 S2 : SF} {FA : AF} {pos : Pos}
theorem pps_nil : PPSs X Wx [] sNext := ⟨_, pss_nil, fun D as γ μ σ H E k ev g => g σ D as H .refl k ev rfl⟩
theorem ad_seq {t u : TS} (h1 : AdS Wx t S1) (h2 : AdS Wx u S2) : AdS Wx (tSeq t u) (sSeq S1 S2) := fun D as γ μ σ H E k ev g => by
  refine h1 D as γ μ σ H _ k ev ?_
  unfold sSeq at g
  cases q : S1 γ μ with
  | nx γ1 m =>
    rw [q] at g
    exact fun σ' D' as' H' n k' e z => h2 D' as' γ1 m σ' H' E k' e (z ▸ GS.nx' k k' n g)
  | bk γ1 m => rw [q] at g; exact g
  | ct γ1 m => rw [q] at g; exact g
  | ret w m => rw [q] at g; exact g
  | exc C fs γ m => rw [q] at g; exact g
  | bad => rw [q] at g; exact g
theorem pps_cons (h1 : PPS X Wx st S1) (h2 : PPSs X Wx rest S2) : PPSs X Wx (st :: rest) (sSeq S1 S2) := let ⟨_, p, ad⟩ := h1; let ⟨_, p2, ad2⟩ := h2; ⟨_, pss_cons p p2, ad_seq ad ad2⟩
theorem pps_one (h1 : PPS X Wx st S1) : PPSs X Wx [st] S1 := let ⟨_, p, ad⟩ := h1; ⟨_, pss_one p, ad⟩
def sBad : SF := fun _ _ => .bad
theorem ppq_never : PPS X Wx st sBad := ⟨_, ps_never, fun D as γ μ σ H E k ev g => g⟩
theorem ppq_expr (h : PP X Wx e F) (hs : swapsWith e none pos.line X.env = pure false := by rfl) : PPS X Wx (.Expr e pos) (sDrop F) := let ⟨_, p, ad⟩ := h; ⟨_, ps_expr p hs, fun D as γ μ σ H E k ev g => by
  refine ad D as γ μ σ H _ k ev ((GS.of_s (R := RepW) k ev g).mono fun x H1 ⟨D1, as1, μ1, w, n1, k1, e1, r1, g1⟩ => ?_)
  exact g1 σ D1 as1 H1 .refl k1 e1 rfl⟩
theorem ppq_ret (h : PP X Wx e F) : PPS X Wx (.Return (some e) pos) (sRet F) := let ⟨_, p, ad⟩ := h; ⟨_, ps_ret p, fun D as γ μ σ H E k ev g => by
  refine ad D as γ μ σ H _ k ev ((GS.of_s (R := RepW) k ev g).mono fun x H1 ⟨D1, as1, μ1, w, n1, k1, e1, r1, g1⟩ => ?_)
  exact g1 x D1 as1 H1 .refl k1 r1⟩
theorem ppq_if {A B : List Stmt} (h : PPT X Wx c T) (h1 : PPSs X Wx A S1) (h2 : PPSs X Wx B S2) : PPS X Wx (.If c A B pos) (sIfS T S1 S2) := let ⟨_, p, ad⟩ := h; let ⟨_, p1, ad1⟩ := h1; let ⟨_, p2, ad2⟩ := h2; ⟨_, ps_if p p1 p2, fun D as γ μ σ H E k ev g => by
  refine ad D as γ μ σ H _ k ev ((GS.of_s (R := RepB) k ev g).mono fun x H1 ⟨D1, as1, μ1, w, n1, k1, e1, r1, g1⟩ => ?_)
  obtain rfl : x = w := r1
  cases x with
  | true => exact ad1 D1 as1 γ μ1 σ H1 E k1 e1 g1
  | false => exact ad2 D1 as1 γ μ1 σ H1 E k1 e1 g1⟩
theorem ppq_set {i : Nat} {x : Str} {pos' : Pos} (hN : X.N.Nodup) (hi : X.N[i]? = some x) (hx : Loc X.env.scope x) (h : PP X Wx e F) (hs : swapsWith e (some (.Name x pos')) pos.line X.env = pure false := by rfl)
    (hf : X.fn x = true ∨ X.env.scope.names.lookup x = some .local := by first | exact .inl rfl | exact .inr rfl | assumption) : PPS X Wx (.Assign [.Name x pos'] e pos) (sSet i F) := let ⟨_, p, ad⟩ := h; ⟨_, ps_set hN hi hx p hs hf, fun D as γ μ σ H E k ev g => by
  refine ad D as γ μ σ H _ k ev ((GS.of_s (R := RepW) k ev g).mono fun x H1 ⟨D1, as1, μ1, w, n1, k1, e1, r1, g1⟩ => ?_)
  exact g1 _ D1 as1 H1 .refl k1 (e1.set r1) (List.length_set ..)⟩
end
/-! ### a def -/
abbrev FF := List W → Μ → O W
/-- the places made within fall away; one that is handed back stands at the end -/
def leave (n : Nat) : OS → O W
  | .ret (.v p) m => .ok (.v p) (m.take n)
  | .ret (.loc j) m => if j < n then .ok (.loc j) (m.take n) else match m[j]? with
    | some c => if liveC c = true then .ok (.loc n) (m.take n ++ [c]) else .bad
    | none => .bad
  | .nx _ m => .ok (.v .non) (m.take n)
  | .exc C fs _ m => .exc C fs (m.take n)
  | _ => .bad
/-- the body, run on its parameters -/
def fDef (n : Nat) (N : Nat) (S : SF) : FF := fun ws μ => if ws.length = n then leave μ.length (S (ws.map some ++ List.replicate (N - n) none) μ) else .bad
def spP (n : Nat) (F : FF) : Sp := fun vs H Q E => vs.length = n ∧ ∃ D as ws μ, Sk D as H μ ∧ RepWs D as H vs ws ∧ G (fun c d _ H' => E c d H') [] RepW D as H (F ws μ) Q
structure FnX (P : Program) (w : World) (K : PySem.W.Frag) (mg : Str → Option Value) (base : Heap) (k : Nat) (f : Addr) (fd : FuncData) (ps : List Str) (sp : Sp) : Prop where
  few : ∀ {vs H Q E}, sp vs H Q E → vs.length = ps.length
  goes : ∀ {A : Around} {fr : List Env} {s : Shared} {H : Hp} {ar : Args} {us : List Value} {vs : List V} {Q : VK} {E : XK}, A.guards = some [] → Room k A → Env0 P w K mg base A fr s H → BindsTo s fd ar (ps.zip us) → Vals vs us → sp vs H Q E →
    codeAny (model P w) A (.call (.ref f) ar) (CR (L2.CX P w) fr P w H s Q E) s
theorem FnX.mono {P w K mg base j k f fd ps sp} (F : FnX P w K mg base j f fd ps sp) (h : j ≤ k) : FnX P w K mg base k f fd ps sp :=
  ⟨F.few, fun {A fr s H ar us vs Q E} g room env b v q => F.goes g (room.mono h) env b v q⟩
/-- where no error leaves -/
def noE (sp : Sp) : Sp := fun vs H Q _ => sp vs H Q L2.E0
theorem cx_e0 {P : Program} {w : World} {fr : List Env} {H : Hp} {s s' : Shared} {u : Value} (h : L2.CX P w fr H s L2.E0 u s') : False := by
  obtain ⟨_, _, _, _, _, _, _, _, _, _, _, _, z⟩ := h
  exact z
theorem FnX.g {P w K mg base k f fd ps sp} (F : FnX P w K mg base k f fd ps sp) : FnG P w K mg base k f fd ps (noE sp) :=
  ⟨fun {vs H Q E} h => F.few h, fun {A fr s H ar us vs Q E} g room env b v q => codeAny_mono (F.goes g room env b v q) fun r s' z => by
    match r, z with
    | .error e, z => exact (cx_e0 z).elim
    | .ok (.ret _), z => exact z
    | .ok .next, z => exact z.elim
    | .ok .brk, z => exact z.elim
    | .ok .cont, z => exact z.elim⟩
theorem Fun.okGX {P : Program} {w : World} {K : PySem.W.Frag} {mg : Str → Option Value} {base : Heap} {x qual : Str} {st : Stmt} {f : Addr} {fd : FuncData} {N ps : List Str} {k : Nat} {sp : Sp} (F : Fun K x qual st f fd) (S : FnScope N ps (defScope st)) (few : ∀ {vs H Q E}, sp vs H Q E → vs.length = ps.length)
    (body : ∀ (cdv : Value) (A : Around) (fr : List Env) (s : Shared) (H : Hp) (vs : List V) (Q : VK) (E : XK), A.guards = some [] → Room k (A.deeper (envOfC qual (defScope st) s.heap.objs.size f cdv)) → sp vs H Q E →
      ∃ t, PSs (cxOf (L2.CX P w) P w K mg base N qual (defScope st) f cdv A fr s H E) (defBody st) t ∧ t { nx := fun _ H' => Q .non H', rt := Q } (start N vs) H) : FnX P w K mg base (k + 1) f fd ps sp := by
  obtain ⟨oc, od, kV, doc, pm, an, cdv, ct, osl, rfl, lk, code⟩ := F.ex
  refine ⟨few, fun {A fr s H ar us vs Q E} hG room env bind val want => ?_⟩
  have inK : K.In s.heap := env.mod.kin.keeps fun c o e => (env.bs c o e).1
  refine codeAny_call_function room.depth (inK _ _ lk) rfl S.co S.gen rfl (PySem.W.codeRec_of inK code) (bind _ _ _ _ ?_)
  refine wpAny_newFunctionEnv_cells S.kind (fun ⟨n, v⟩ hy => (S.par n (List.of_mem_zip hy).1).elim .inl fun q => .inr ⟨q, PySem.W.cellsFrom_some _ _ _ (.inl q)⟩) fun own same s1 x => ?_
  subst same
  obtain ⟨t, T, wish⟩ := body cdv A fr s H vs Q E hG (room.deeper _) want
  have begun : Inv (cxOf (L2.CX P w) P w K mg base N qual (defScope st) f cdv A fr s H E) [] (start N vs) H s1 := inv_start S room.hd env (few want) val x
  refine ⟨(env.mod.nolimit.keeps fun c o e => (env.bs c o e).1).keeps x.toInCall.keep, codeAny_func (wpAny_mono (T.run [] s1 _ H _ begun wish) (fun fl s2 ends => ?_) fun e s' z => z)⟩
  match fl, ends with
  | .ret _, ⟨v, _, H2, J, rv, q⟩ => exact ⟨v, H2, J.os, J.bare, J.base, J.hok, rv, q⟩
  | .next, ⟨_, H2, J, q⟩ => exact ⟨V.non, H2, J.os, J.bare, J.base, J.hok, rfl, q⟩
  | .brk, ⟨_, _, _, q⟩ => exact q.elim
  | .cont, ⟨_, _, _, q⟩ => exact q.elim
end Pu
set_option Elab.async false
set_option linter.all false
set_option maxRecDepth 100000
set_option maxHeartbeats 4000000
namespace Pu
open L2 PySem PySem.Spec PyProof.Rows E10
section
variable {D D' : Addr → Prop} {as as' : Ps} {H H' : Hp} {μ m : Μ}
theorem take_get {as : Ps} {n j : Nat} {x : Option Addr} (h : (as.take n)[j]? = some x) : j < n ∧ as[j]? = some x := by
  rw [List.getElem?_take] at h
  split at h
  · exact ⟨by assumption, h⟩
  · cases h
/-- the places made within are forgotten -/
theorem Sk.cut (k : Sk D as H μ) (k' : Sk D' as' H' m) (n : Nx D as H D' as' H') : Nx D as H D' (as'.take as.length) H' ∧ Sk D' (as'.take as.length) H' (m.take μ.length) := by
  have lt : ∀ {j : Nat} {x : Option Addr}, as[j]? = some x → j < as.length := fun e => (List.getElem?_eq_some_iff.mp e).1
  refine ⟨⟨fun j x e => ?_, n.ex, n.mono, n.new, fun j a e => n.fresh j a (take_get e).2, n.hid, n.rd, n.sol, n.lck⟩, ?_, k'.dn, fun j a q => k'.inD j a (take_get q).2, fun i j a q r => k'.inj i j a (take_get q).2 (take_get r).2, fun j a q => ?_, fun j e => ?_⟩
  · rw [List.getElem?_take_of_lt (lt e)]
    exact n.pre j x e
  · rw [List.length_take, List.length_take, k'.len, k.len]
  · obtain ⟨l, q⟩ := take_get q
    obtain ⟨c, q1, x⟩ := k'.ok j a q
    exact ⟨c, by rw [List.getElem?_take_of_lt (by rw [← k.len]; exact l)]; exact q1, x⟩
  · obtain ⟨l, q⟩ := take_get e
    rw [List.getElem?_take_of_lt (by rw [← k.len]; exact l)]
    exact k'.dead j q
/-- .. all but one -/
theorem Sk.cut1 (k : Sk D as H μ) (k' : Sk D' as' H' m) (n : Nx D as H D' as' H') {j : Nat} {a : Addr} {c : PC} (hj : μ.length ≤ j) (e : as'[j]? = some (some a)) (q : m[j]? = some c) :
    Nx D as H D' (as'.take as.length ++ [some a]) H' ∧ Sk D' (as'.take as.length ++ [some a]) H' (m.take μ.length ++ [c]) := by
  obtain ⟨n0, k0⟩ := k.cut k' n
  have na : H a = none := by
    rcases n.fresh j a e with z | z
    · have lt := (List.getElem?_eq_some_iff.mp z).1
      rw [k.len] at lt
      omega
    · exact z
  have at' : ∀ {i : Nat} {x : Option Addr}, (as'.take as.length ++ [some a])[i]? = some x → (as'.take as.length)[i]? = some x ∨ (i = (as'.take as.length).length ∧ x = some a) := fun {i x} z => by
    by_cases lt : i < (as'.take as.length).length
    · rw [List.getElem?_append_left lt] at z
      exact .inl z
    · rw [List.getElem?_append_right (Nat.le_of_not_lt lt)] at z
      cases y : i - (as'.take as.length).length with
      | zero =>
        rw [y] at z
        exact .inr ⟨by omega, (Option.some.inj z).symm⟩
      | succ x =>
        rw [y] at z
        cases z
  have anot : ∀ i : Nat, (as'.take as.length)[i]? ≠ some (some a) := fun i z => by
    obtain ⟨l, z⟩ := take_get z
    have := k'.inj i j a z e
    have := k.len
    omega
  obtain ⟨c', q', x⟩ := k'.ok j a e
  rw [q] at q'
  cases q'
  refine ⟨⟨fun j x e => (n0.pre j x e).imp get_pre get_pre, n.ex, n.mono, n.new, fun i b z => (at' z).elim (fun z => n0.fresh i b z) fun y => .inr ((Option.some.inj y.2) ▸ na), n.hid, n.rd, n.sol, n.lck⟩, ?_, k'.dn, fun i b z => ?_, fun i i' b z y => ?_, fun i b z => ?_, fun i z => ?_⟩
  · rw [List.length_append, List.length_append, k0.len]
    rfl
  · rcases at' z with z | ⟨_, z⟩
    · exact k0.inD i b z
    · cases z; exact k'.inD j _ e
  · rcases at' z with z | ⟨z1, z2⟩
    · rcases at' y with y | ⟨y1, y2⟩
      · exact k0.inj i i' b z y
      · cases y2; exact absurd z (anot i)
    · rcases at' y with y | ⟨y1, y2⟩
      · cases z2; exact absurd y (anot i')
      · rw [z1, y1]
  · rcases at' z with z | ⟨z1, z2⟩
    · obtain ⟨d, r, x'⟩ := k0.ok i b z
      refine ⟨d, ?_, x'⟩
      rw [List.getElem?_append_left (List.getElem?_eq_some_iff.mp r).1]
      exact r
    · cases z2
      refine ⟨c, ?_, x⟩
      rw [z1, k0.len, List.getElem?_append_right (Nat.le_refl _), Nat.sub_self]
      rfl
  · rcases at' z with z | ⟨_, z⟩
    · have y := k0.dead i z
      rw [List.getElem?_append_left (List.getElem?_eq_some_iff.mp y).1]
      exact y
    · cases z
theorem take_len {k : Sk D as H μ} {k' : Sk D' as' H' m} (n : Nx D as H D' as' H') : (as'.take as.length).length = as.length := by
  rw [List.length_take]
  have := n.len
  omega
theorem RepWs.env {vs : List V} {ws : List W} (r : RepWs D as H vs ws) (N : Nat) : EnvR D as H (vs.map some ++ List.replicate (N - vs.length) none) (ws.map some ++ List.replicate (N - ws.length) none) := by
  have hl := r.length
  refine ⟨by simp [hl], fun i w e => ?_⟩
  by_cases lt : i < ws.length
  · rw [List.getElem?_append_left (by simpa using lt), List.getElem?_map] at e
    rw [List.getElem?_append_left (by simpa [hl] using lt), List.getElem?_map]
    clear lt hl
    induction r generalizing i with
    | nil => simp at e
    | cons r t ih =>
      cases i with
      | zero =>
        simp only [List.getElem?_cons_zero, Option.map_some, Option.some.injEq] at e ⊢
        subst e
        exact ⟨_, rfl, r⟩
      | succ i => exact ih i (by simpa using e)
  · rw [List.getElem?_append_right (by simpa using Nat.le_of_not_lt lt), List.getElem?_replicate] at e
    split at e <;> cases e
end
section
variable {P : Program} {w : World} {K : PySem.W.Frag} {mg : Str → Option Value} {base : Heap}
/-- the body, from the slots as they are at first -/
theorem def_in {t : TS} {S : SF} {N ps : List Str} {vs : List V} {ws : List W} {D : Addr → Prop} {as : Ps} {H : Hp} {μ : Μ} {Q : VK} {E : XK} (ad : AdS (fun c d _ H' => E c d H') t S) (hl : vs.length = ps.length) (k : Sk D as H μ) (r : RepWs D as H vs ws)
    (g : G (fun c d _ H' => E c d H') [] RepW D as H (fDef ps.length N.length S ws μ) Q) : t { nx := fun _ H' => Q .non H', rt := Q } (L2.start N vs) H := by
  refine ad D as (ws.map some ++ List.replicate (N.length - ps.length) none) μ _ H _ k ?_ ?_
  · have := r.env N.length
    rw [← r.length, hl] at this
    unfold L2.start
    rw [hl]
    exact this
  · unfold fDef at g
    rw [if_pos (by rw [← r.length]; exact hl)] at g
    generalize S (ws.map some ++ List.replicate (N.length - ps.length) none) μ = o at g ⊢
    cases o with
    | nx γ m =>
      intro σ' D' as' H' n k' _ _
      obtain ⟨n0, k0⟩ := k.cut k' n
      exact g .non D' _ H' n0 k0 (show RepW D' as H' .non (.v .non) from .non)
    | bk γ m => exact g.elim
    | ct γ m => exact g.elim
    | bad => exact g.elim
    | exc C fs γ m =>
      intro σ' d gs D' as' H' n k' _ _ e q
      obtain ⟨n0, k0⟩ := k.cut k' n
      exact g d gs D' _ H' n0 k0 e q
    | ret v m =>
      cases v with
      | v p =>
        intro x D' as' H' n k' q
        obtain ⟨n0, k0⟩ := k.cut k' n
        exact g x D' _ H' n0 k0 (show RepW D' as H' x (.v p) from q)
      | loc j =>
        intro x D' as' H' n k' q
        unfold leave at g
        by_cases lt : j < μ.length
        · simp only [lt, if_true] at g
          obtain ⟨n0, k0⟩ := k.cut k' n
          refine g x D' _ H' n0 k0 ?_
          obtain ⟨y, e, q⟩ := q
          exact ⟨y, by rw [List.getElem?_take_of_lt (by rw [k.len]; exact lt)]; exact e, q⟩
        · simp only [lt, if_false] at g
          split at g
          · rename_i c q1
            split at g
            · rename_i hl
              obtain ⟨a, e, rfl, x⟩ := q.adr k' q1 (liveC_ne hl)
              obtain ⟨n0, k0⟩ := k.cut1 k' n (Nat.le_of_not_lt lt) e q1
              refine g (.ref a) D' _ H' n0 k0 (.mk ?_)
              have hg : (as'.take as.length ++ [some a])[(as'.take as.length).length]? = some (some a) := last_get
              rw [take_len (k := k) (k' := k') n] at hg
              rw [← k.len]
              exact hg
            · exact g.elim
          · exact g.elim
/-- THE RULE for a def -/
theorem Fun.pp {x qual : Str} {st : Stmt} {f : Addr} {fd : FuncData} {N ps : List Str} {k : Nat} {S : SF} (F : Fun K x qual st f fd) (Sc : FnScope N ps (defScope st))
    (body : ∀ (cdv : Value) (A : Around) (fr : List Env) (s : Shared) (H : Hp) (E : XK), A.guards = some [] → Room k (A.deeper (envOfC qual (defScope st) s.heap.objs.size f cdv)) →
      PPSs (cxOf (L2.CX P w) P w K mg base N qual (defScope st) f cdv A fr s H E) (fun c d _ H' => E c d H') (defBody st) S) : FnX P w K mg base (k + 1) f fd ps (spP ps.length (fDef ps.length N.length S)) := by
  refine Fun.okGX F Sc (fun h => h.1) (fun cdv A fr s H vs Q E hG hr h => ?_)
  obtain ⟨hl, D, as, ws, μ, k, r, g⟩ := h
  obtain ⟨t, p, ad⟩ := body cdv A fr s H E hG hr
  exact ⟨t, p, def_in ad hl k r g⟩
end
/-! ### calls -/
section
variable {X : Cx} {Wx : WX} {k : Nat} {f C : Addr} {fd : FuncData} {ps : List Str} {sp : Sp} {A : Around} {pins : List (Addr × Obj)} {σ : L2.St} {H : Hp} {s : Shared} {Q : VK} {us : List Value} {vs : List V}
theorem run_atX (F : FnX X.prog X.w X.K X.mg X.base k f fd ps sp) (fr : A.frames = X.A.frames) (hG : A.guards = some []) (room : Room k A) (bi : Binds X.K fd ps []) (tk : Takes X Wx) (I : Inv X pins σ H s) (r : Vals vs us) (q : sp vs H Q (WE Wx σ)) :
    wpAny (model X.prog X.w) A (call (.ref f) us) (EP X pins σ Q) X.xe s := by
  have n1 : us.length = ps.length := r.length.symm.trans (F.few q)
  have e0 : Env0 X.prog X.w X.K X.mg X.base A X.stack s H := by
    have e := I.env0
    exact ⟨by rw [fr]; exact e.frames, e.mod, e.bs, e.bsz, e.funs, e.frf, e.hok, e.bare⟩
  refine wpAny_call (codeAny_mono (F.goes (ar := ⟨us, []⟩) hG room e0 (by
    have := bi s us I.kIn (by simpa using n1)
    simpa using this) r q) fun res s2 ends => ?_)
  match res, ends with
  | .error e, z => exact passAt tk σ pins H s e s2 I z
  | .ok (.ret _), z => exact I.after z
  | .ok .next, z => exact z.elim
  | .ok .brk, z => exact z.elim
  | .ok .cont, z => exact z.elim
/-- a def of the module, with a pure promise -/
structure DP (P : Program) (w : World) (K : PySem.W.Frag) (mg : Str → Option Value) (base : Heap) (x : Str) (n : Nat) (k : Nat) (F : FF) : Prop where
  ex : ∃ (f : Addr) (fd : FuncData) (ps : List Str), ps.length = n ∧ FnX P w K mg base k f fd ps (spP n F) ∧ mg x = some (.ref f) ∧ PySem.W.keepIn K (.ref f) = true ∧ Binds K fd ps []
def fCall (F : FF) (A : AF) : EF := fun γ μ => (A γ μ).bind fun ws m => F ws m
theorem ad_callS {n : Nat} {F : FF} {ta : TA} {FA : AF} (h : AdA Wx ta FA) (hn : ∀ ws μ, ws.length ≠ n → F ws μ = .bad) : Ad Wx (tCallS (spP n F) (WE Wx) ta) (fCall F FA) := fun D as γ μ σ H Q k ev g => by
  refine h D as γ μ σ H _ k ev ((G.bind RepWs k g).mono fun xs H1 ⟨D1, as1, μ1, ws, n1, k1, r1, g1⟩ => ?_)
  refine ⟨?_, D1, as1, ws, μ1, k1, r1, ?_⟩
  · by_cases c : ws.length = n
    · rw [r1.length]; exact c
    · rw [hn ws μ1 c] at g1
      exact g1.elim
  · cases o : F ws μ1 with
    | ok w m => rw [o] at g1; exact g1
    | exc C fs m => rw [o] at g1; exact g1
    | bad => rw [o] at g1; exact g1
theorem fDef_len {n N : Nat} {S : SF} : ∀ ws μ, ws.length ≠ n → fDef n N S ws μ = .bad := fun ws μ h => by
  unfold fDef
  rw [if_neg h]
theorem pe_callX {x : Str} {e : Expr} {es : List Expr} {ta : TA} {p pos : Pos} (F : FnX X.prog X.w X.K X.mg X.base k f fd ps sp) (hG : X.A.guards = some []) (hr : Room k X.A) (hg : Gl X x) (hm : X.mg x = some (.ref f)) (hk : PySem.W.keepIn X.K (.ref f) = true) (hb : Binds X.K fd ps []) (tk : Takes X Wx)
    (ha : PA X (e :: es) ta) (hdb : (x == ("__debug__" : Str)) = false := by decide) (he : starEach (e :: es) X.env = (false, eval e X.env) :: starEach es X.env := by rfl) (hpl : (backTo pos (starEach es X.env)).any (·.1) = false := by rfl) :
    PE X (.Call (.Name x p) (e :: es) [] pos) (tCallS sp (WE Wx) ta) := by
  refine ⟨fun pins s σ H Q I h => ?_⟩
  refine wpAny_Call_Name_kw (ld_glob I hg hm ?_ hdb)
  refine PySem.W.callWith_K (h₀ := X.base) I.ok.mod.kin hk (thn (ha.run pos pins s σ H _ I h) fun us s1 ⟨vs, H1, I1, r, q⟩ => ⟨I1.kIn, ?_⟩) he hpl
  exact run_atX F rfl hG hr hb tk I1 r q
theorem pp_call {x : Str} {e : Expr} {es : List Expr} {FA : AF} {p pos : Pos} {n : Nat} {F : FF} (d : DP X.prog X.w X.K X.mg X.base x n k F) (hG : X.A.guards = some []) (hr : Room k X.A) (tk : Takes X Wx) (hg : Gl X x) (ha : PPA X Wx (e :: es) FA) (hn : ∀ ws μ, ws.length ≠ n → F ws μ = .bad := by exact fDef_len)
    (hdb : (x == ("__debug__" : Str)) = false := by decide) (he : starEach (e :: es) X.env = (false, eval e X.env) :: starEach es X.env := by rfl) (hpl : (backTo pos (starEach es X.env)).any (·.1) = false := by rfl) :
    PP X Wx (.Call (.Name x p) (e :: es) [] pos) (fCall F FA) := by
  obtain ⟨f, fd, ps, hl, FX, hm, hk, hb⟩ := d.ex
  obtain ⟨ta, pa, ad⟩ := ha
  exact ⟨_, pe_callX FX hG hr hg hm hk hb tk pa hdb he hpl, ad_callS ad hn⟩
end
end Pu
set_option Elab.async false
set_option linter.all false
set_option maxRecDepth 100000
set_option maxHeartbeats 4000000
namespace Pu
open L2 PySem PySem.Spec PyProof.Rows E10
/-! ### texts, sorted -/
def leS (a b : Str) : Bool := !decide (b.cps.toList < a.cps.toList)
theorem leS_tr (a b c : Str) (h1 : leS a b = true) (h2 : leS b c = true) : leS a c = true := by
  unfold leS at *
  simp only [Bool.not_eq_true', decide_eq_false_iff_not] at *
  exact codes_tr h1 h2
theorem leS_tot (a b : Str) : (leS a b || leS b a) = true := by
  unfold leS
  by_cases h : a.cps.toList < b.cps.toList
  · simp [codes_asym h]
  · simp [h]
theorem leS_anti {a b : Str} (h1 : leS a b = true) (h2 : leS b a = true) : a = b := by
  unfold leS at *
  simp only [Bool.not_eq_true', decide_eq_false_iff_not] at *
  have e : a.cps.toList = b.cps.toList := List.le_antisymm (List.not_lt.mp h1) (List.not_lt.mp h2)
  exact Str.ext' (Array.toList_inj.mp e)
def srt (l : List Str) : List Str := l.mergeSort leS
theorem srt_perm (l : List Str) : (srt l).Perm l := List.mergeSort_perm ..
theorem srt_pw (l : List Str) : (srt l).Pairwise fun a b => leS a b = true := List.pairwise_mergeSort leS_tr leS_tot l
theorem uniq_sorted : ∀ {l m : List Str}, l.Pairwise (fun a b => leS a b = true) → m.Pairwise (fun a b => leS a b = true) → l.Perm m → l = m
  | [], m, _, _, p => (List.Perm.eq_nil p.symm).symm
  | x :: l, [], _, _, p => absurd p.length_eq (by simp)
  | x :: l, y :: m, hl, hm, p => by
    rw [List.pairwise_cons] at hl hm
    have e : x = y := by
      rcases List.mem_cons.mp (p.mem_iff.mp (List.mem_cons_self (a := x) (l := l))) with e | hx
      · exact e
      · rcases List.mem_cons.mp (p.mem_iff.mpr (List.mem_cons_self (a := y) (l := m))) with e | hy
        · exact e.symm
        · exact leS_anti (hl.1 _ hy) (hm.1 _ hx)
    subst e
    rw [uniq_sorted hl.2 hm.2 p.cons_inv]
theorem pw_of_rising : ∀ {l : List Str} {p : Str}, risingS p l = true → (p :: l).Pairwise fun a b => leS a b = true
  | [], p, _ => List.pairwise_singleton ..
  | x :: r, p, h => by
    have h2 : (!ltCps x.cps.toList p.cps.toList && risingS x r) = true := h
    obtain ⟨a, b⟩ := Bool.and_eq_true_iff.mp h2
    have pw := pw_of_rising b
    have le : leS p x = true := by
      unfold leS
      rw [ltCps_eq] at a
      exact a
    rw [List.pairwise_cons]
    refine ⟨fun z hz => ?_, pw⟩
    rcases List.mem_cons.mp hz with rfl | hz
    · exact le
    · exact leS_tr _ _ _ le ((List.pairwise_cons.mp pw).1 z hz)
theorem pw_of_sortedS {l : List Str} (h : sortedS l = true) : l.Pairwise fun a b => leS a b = true := by
  cases l with
  | nil => exact .nil
  | cons x r => exact pw_of_rising h
theorem srt_uniq {ys l : List Str} (p : ys.Perm l) (h : sortedS ys = true) : ys = srt l := uniq_sorted (pw_of_sortedS h) (srt_pw l) (p.trans (srt_perm l).symm)
theorem srt_nodup {l : List Str} (h : l.Nodup) : (srt l).Nodup := (srt_perm l).nodup_iff.mpr h
theorem srt_mem {l : List Str} {z : Str} : z ∈ srt l ↔ z ∈ l := (srt_perm l).mem_iff
theorem srt_len (l : List Str) : (srt l).length = l.length := (srt_perm l).length_eq
theorem srt_eq {a b : List Str} (p : a.Perm b) : srt a = srt b := uniq_sorted (srt_pw a) (srt_pw b) ((srt_perm a).trans (p.trans (srt_perm b).symm))
theorem srt_id {a : List Str} (h : a.Pairwise fun a b => leS a b = true) : srt a = a := uniq_sorted (srt_pw a) h (srt_perm a)
/-! ### what is read of a value -/
def rdL (μ : Μ) : W → Option (List P)
  | .v (.lst ps) => some ps
  | .loc j => match μ[j]? with
    | some (.lst ps) => some ps
    | some (.lstL ps) => some ps
    | _ => none
  | _ => none
def rdD (μ : Μ) : W → Option (List (Key × P))
  | .v (.dct ps) => some ps
  | .loc j => match μ[j]? with
    | some (.dct ps) => some ps
    | some (.dctL ps) => some ps
    | _ => none
  | _ => none
def rdI (μ : Μ) : W → Option (Addr × List (Str × P))
  | .v (.ins C ps) => some (C, ps)
  | .loc j => match μ[j]? with
    | some (.ins C ps) => some (C, ps)
    | _ => none
  | _ => none
section
variable {D : Addr → Prop} {as : Ps} {H : Hp} {μ : Μ} {v : V} {w : W}
theorem rdL_ok {ps : List P} (k : Sk D as H μ) (r : RepW D as H v w) (h : rdL μ w = some ps) : ∃ a xs, v = .ref a ∧ Rd H a (.lst xs) ∧ Reps D H xs ps := by
  unfold rdL at h
  split at h
  · cases h
    cases r with
    | lst n hr rs => exact ⟨_, _, rfl, hr, rs⟩
  · split at h
    · rename_i q
      cases h
      obtain ⟨a, e, rfl, x⟩ := r.adr k q (by simp)
      obtain ⟨xs, hx, rs⟩ := x
      exact ⟨a, xs, rfl, .inl hx, rs⟩
    · rename_i q
      cases h
      obtain ⟨a, e, rfl, x⟩ := r.adr k q (by simp)
      obtain ⟨od, xs, hx, rs⟩ := x
      exact ⟨a, xs, rfl, .inr ⟨od, hx⟩, rs⟩
    · cases h
  · cases h
theorem rdD_ok {ps : List (Key × P)} (k : Sk D as H μ) (r : RepW D as H v w) (h : rdD μ w = some ps) : ∃ a xs, v = .ref a ∧ Rd H a (.dK xs) ∧ RepK D H xs ps := by
  unfold rdD at h
  split at h
  · cases h
    cases r with
    | dct n hr rs => exact ⟨_, _, rfl, hr, rs⟩
  · split at h
    · rename_i q
      cases h
      obtain ⟨a, e, rfl, x⟩ := r.adr k q (by simp)
      obtain ⟨xs, hx, rs⟩ := x
      exact ⟨a, xs, rfl, .inl hx, rs⟩
    · rename_i q
      cases h
      obtain ⟨a, e, rfl, x⟩ := r.adr k q (by simp)
      obtain ⟨od, xs, hx, rs⟩ := x
      exact ⟨a, xs, rfl, .inr ⟨od, hx⟩, rs⟩
    · cases h
  · cases h
theorem rdI_ok {C : Addr} {ps : List (Str × P)} (k : Sk D as H μ) (r : RepW D as H v w) (h : rdI μ w = some (C, ps)) : ∃ a dx xs, v = .ref a ∧ H a = some (.ins C dx xs) ∧ RepS D H xs ps := by
  unfold rdI at h
  split at h
  · cases h
    cases r with
    | ins n hr rs => exact ⟨_, _, _, rfl, hr, rs⟩
  · split at h
    · rename_i q
      cases h
      obtain ⟨a, e, rfl, x⟩ := r.adr k q (by simp)
      obtain ⟨dx, xs, hx, rs⟩ := x
      exact ⟨a, dx, xs, rfl, hx, rs⟩
    · cases h
  · cases h
theorem rep_tup {ps : List P} (r : Rep D H v (.tup ps)) : ∃ a xs, v = .ref a ∧ ¬ D a ∧ Rd H a (.tup xs) ∧ Reps D H xs ps := by
  cases r with
  | tup n hr rs => exact ⟨_, _, rfl, n, hr, rs⟩
theorem RepK.val {k : Key} : ∀ {vs : List (Key × V)} {ps : List (Key × P)}, RepK D H vs ps → ∀ {p}, (ps.find? fun kv => decide (kv.1 = k)).map (·.2) = some p → ∃ v, valV vs k = some v ∧ Rep D H v p
  | _, _, @RepK.cons _ _ k' v p l m r t, q, e => by
    by_cases c : k' = k
    · subst c
      simp only [List.find?_cons, decide_true, Option.map_some, Option.some.injEq] at e
      subst e
      exact ⟨v, by simp [valV], r⟩
    · simp only [List.find?_cons, decide_eq_false c] at e
      obtain ⟨v', h1, h2⟩ := RepK.val t e
      exact ⟨v', by simpa [valV, List.find?_cons, decide_eq_false c] using h1, h2⟩
theorem RepK.val_none {k : Key} : ∀ {vs : List (Key × V)} {ps : List (Key × P)}, RepK D H vs ps → (ps.find? fun kv => decide (kv.1 = k)).map (·.2) = none → valV vs k = none
  | _, _, .nil, _ => rfl
  | _, _, @RepK.cons _ _ k' v p l m r t, e => by
    by_cases c : k' = k
    · subst c
      simp at e
    · simp only [List.find?_cons, decide_eq_false c] at e
      have := RepK.val_none t e
      simpa [valV, List.find?_cons, decide_eq_false c] using this
end
/-- what a dict has for a key -/
def valP (ps : List (Key × P)) (k : Key) : Option P := (ps.find? fun kv => decide (kv.1 = k)).map (·.2)
def keyP : P → Option Key
  | .int i => some (.inl i)
  | .str x => some (.inr x)
  | _ => none
theorem keyP_ok {D : Addr → Prop} {H : Hp} {v : V} {p : P} {k : Key} (r : Rep D H v p) (h : keyP p = some k) : v = kV k := by
  cases p <;> cases h <;> cases r <;> rfl
/-! ### d[k], k in d -/
def fDGet : W → W → Μ → O W := fun x y μ => match rdD μ x, y with
  | some ps, .v q => match keyP q with
    | some k => match valP ps k with
      | some p => .ok (.v p) μ
      | none => .bad
    | none => .bad
  | _, _ => .bad
def fDIn (neg : Bool) : W → W → Μ → O W := fun y x μ => match rdD μ x, y with
  | some ps, .v q => match keyP q with
    | some k => .ok (.v (.bl ((valP ps k).isSome != neg))) μ
    | none => .bad
  | _, _ => .bad
section
variable {X : Cx} {Wx : WX} {e a b c : Expr} {es : List Expr} {F F1 F2 : EF} {FA : AF} {pos : Pos}
theorem ad_dget {td ty : TE} (h : Ad Wx td F1) (h2 : Ad Wx ty F2) : Ad Wx (tDGet td ty) (fOp fDGet F1 F2) := ad_op (r := fun x y H Q => ∃ a v, x = .ref a ∧ DGet H a y (some v) ∧ Q v H) (fun D as μ σ H x y a b Q k ra rb gg => by
  unfold fDGet at gg
  split at gg
  · rename_i ps q e1
    split at gg
    · rename_i kk e3
      split at gg
      · rename_i p e4
        obtain ⟨ad, xs, rfl, hr, rs⟩ := rdD_ok k ra e1
        obtain ⟨v, q1, q2⟩ := rs.val e4
        refine ⟨ad, v, rfl, .inl ⟨xs, kk, hr, keyP_ok rb e3, q1.symm⟩, nowV k gg q2⟩
      · exact gg.elim
    · exact gg.elim
  · exact gg.elim) h h2
theorem pp_dget (hu : X.A.units + 1 < cLine) (ho : PP X Wx a F1) (hi : PP X Wx b F2) (hs : NoSl b := by exact fun _ _ => rfl) : PP X Wx (.Subscript a b pos) (fOp fDGet F1 F2) :=
  let ⟨_, p, ad⟩ := ho; let ⟨_, p2, ad2⟩ := hi; ⟨_, pe_dget hu p p2 hs, ad_dget ad ad2⟩
theorem ad_dinR {neg : Bool} : AdR2 Wx (fun y x H Q => ∃ a o, x = .ref a ∧ DGet H a y o ∧ Q (.bl (o.isSome != neg)) H) (fDIn neg) := fun D as μ σ H y x b a Q k rb ra gg => by
  unfold fDIn at gg
  split at gg
  · rename_i ps q e1
    split at gg
    · rename_i kk e3
      obtain ⟨ad, xs, rfl, hr, rs⟩ := rdD_ok k ra e1
      refine ⟨ad, valV xs kk, rfl, .inl ⟨xs, kk, hr, keyP_ok rb e3, rfl⟩, ?_⟩
      have : (valV xs kk).isSome = (valP ps kk).isSome := by
        cases e4 : valP ps kk with
        | some p =>
          obtain ⟨v, q1, q2⟩ := rs.val e4
          rw [q1]
          rfl
        | none =>
          rw [rs.val_none e4]
          rfl
      rw [this]
      exact nowV k gg .bl
    · exact gg.elim
  · exact gg.elim
/-! ### xs[i] -/
def fIxL : W → W → Μ → O W := fun x y μ => match rdL μ x, y with
  | some ps, .v (.int i) => match atI ps i with
    | some p => .ok (.v p) μ
    | none => .bad
  | _, _ => .bad
def fIxT : W → W → Μ → O W := fun x y μ => match x, y with
  | .v (.tup ps), .v (.int i) => match atI ps i with
    | some p => .ok (.v p) μ
    | none => .bad
  | _, _ => .bad
def fIxS : W → W → Μ → O W := fun x y μ => match x, y with
  | .v (.str z), .v (.int i) => if z.length ≤ sizeLine then match atI z.cps.toList i with
    | some c => .ok (.v (.str ⟨#[c]⟩)) μ
    | none => .bad
    else .bad
  | _, _ => .bad
theorem atI_rep {D : Addr → Prop} {H : Hp} {xs : List V} {ps : List P} {i : Int} {p : P} (r : Reps D H xs ps) (h : atI ps i = some p) : ∃ v, atI xs i = some v ∧ Rep D H v p := by
  unfold atI at *
  rw [r.length]
  cases q : ixN ps.length i with
  | none => rw [q] at h; cases h
  | some j =>
    rw [q] at h
    exact r.getP h
theorem ad_ixL {K : PySem.W.Frag} : AdR2 Wx (rIxL K) fIxL := fun D as μ σ H x y a b Q k ra rb gg => by
  unfold fIxL at gg
  split at gg
  · rename_i ps i e1
    split at gg
    · rename_i p e4
      obtain ⟨ad, xs, rfl, hr, rs⟩ := rdL_ok k ra e1
      obtain ⟨v, q1, q2⟩ := atI_rep rs e4
      exact ⟨ad, xs, i, v, rfl, rep_int rb, .inl hr, q1, nowV k gg q2⟩
    · exact gg.elim
  · exact gg.elim
theorem ad_ixT {K : PySem.W.Frag} : AdR2 Wx (rIxT K) fIxT := fun D as μ σ H x y a b Q k ra rb gg => by
  unfold fIxT at gg
  split at gg
  · rename_i ps i
    split at gg
    · rename_i p e4
      obtain ⟨ad, xs, rfl, _, hr, rs⟩ := rep_tup ra
      obtain ⟨v, q1, q2⟩ := atI_rep rs e4
      exact ⟨ad, xs, i, v, rfl, rep_int rb, .inl hr, q1, nowV k gg q2⟩
    · exact gg.elim
  · exact gg.elim
theorem ad_ixS : AdR2 Wx rIxS fIxS := fun D as μ σ H x y a b Q k ra rb gg => by
  unfold fIxS at gg
  split at gg
  · rename_i z i
    split at gg
    · rename_i hz
      split at gg
      · rename_i c e4
        exact ⟨z, i, c, rep_str ra, rep_int rb, hz, e4, nowV k gg .str⟩
      · exact gg.elim
    · exact gg.elim
  · exact gg.elim
/-! ### calls of the built-in -/
def AdC (Wx : WX) (r : List V → Hp → VK → Prop) (f : List W → Μ → O W) : Prop := ∀ D as μ σ H vs ws Q, Sk D as H μ → RepWs D as H vs ws → G Wx σ RepW D as H (f ws μ) Q → r vs H Q
theorem ad_cb {r} {f} {ta} (h : AdC Wx r f) (ha : AdA Wx ta FA) : Ad Wx (tCB r ta) (fCall f FA) := fun D as γ μ σ H Q k ev g => by
  refine ha D as γ μ σ H _ k ev ((G.bind RepWs k g).mono fun xs H1 ⟨D1, as1, μ1, ws, n1, k1, r1, g1⟩ => ?_)
  exact h D1 as1 μ1 σ H1 xs ws Q k1 r1 g1
theorem pp_callB {id : String} {r} {f} {x : Str} {p : Pos} (hc : CallR X (.builtin id) r) (hg : Gl X x) (hm : X.mg x = none) (hv : bootBuiltins x = some (.builtin id)) (h : AdC Wx r f) (ha : PPA X Wx (e :: es) FA) (hn : x ≠ "__name__" := by decide) (hdb : (x == ("__debug__" : Str)) = false := by decide)
    (he : starEach (e :: es) X.env = (false, eval e X.env) :: starEach es X.env := by rfl) (hpl : (backTo pos (starEach es X.env)).any (·.1) = false := by rfl) : PP X Wx (.Call (.Name x p) (e :: es) [] pos) (fCall f FA) :=
  let ⟨_, pa, aa⟩ := ha; ⟨_, pe_callB hc hg hm hv pa hn hdb he hpl, ad_cb h aa⟩
theorem pp_callTy {id : String} {r} {f} {x : Str} {p : Pos} (hc : CallR X (.type id) r) (hg : Gl X x) (hm : X.mg x = none) (hv : bootBuiltins x = some (.type id)) (h : AdC Wx r f) (ha : PPA X Wx (e :: es) FA) (hn : x ≠ "__name__" := by decide) (hdb : (x == ("__debug__" : Str)) = false := by decide)
    (he : starEach (e :: es) X.env = (false, eval e X.env) :: starEach es X.env := by rfl) (hpl : (backTo pos (starEach es X.env)).any (·.1) = false := by rfl) : PP X Wx (.Call (.Name x p) (e :: es) [] pos) (fCall f FA) :=
  let ⟨_, pa, aa⟩ := ha; ⟨_, pe_callTy hc hg hm hv pa hn hdb he hpl, ad_cb h aa⟩
theorem repWs1 {D as H} {vs : List V} {w : W} (r : RepWs D as H vs [w]) : ∃ v, vs = [v] ∧ RepW D as H v w := by
  cases r with
  | cons r t => cases t; exact ⟨_, rfl, r⟩
theorem repWs2 {D as H} {vs : List V} {w u : W} (r : RepWs D as H vs [w, u]) : ∃ x y, vs = [x, y] ∧ RepW D as H x w ∧ RepW D as H y u := by
  cases r with
  | cons r t =>
    cases t with
    | cons r2 t => cases t; exact ⟨_, _, rfl, r, r2⟩
/-- len -/
def fLenS : List W → Μ → O W := fun ws μ => match ws with
  | [.v (.str z)] => if z.length ≤ sizeLine then .ok (.v (.int z.length)) μ else .bad
  | _ => .bad
theorem ad_lenS : AdC Wx (fun xs H Q => ∃ z, xs = [.str z] ∧ z.length ≤ sizeLine ∧ Q (.int z.length) H) fLenS := fun D as μ σ H vs ws Q k r gg => by
  unfold fLenS at gg
  split at gg
  · split at gg
    · rename_i hz
      obtain ⟨v, rfl, rv⟩ := repWs1 r
      obtain rfl := rep_str rv
      exact ⟨_, rfl, hz, nowV k gg .int⟩
    · exact gg.elim
  · exact gg.elim
def seqP (μ : Μ) : W → Option (List P)
  | .v (.tup ps) => some ps
  | w => rdL μ w
theorem seqP_ok {D as H} {μ : Μ} {v : V} {w : W} {ps : List P} {K : PySem.W.Frag} (k : Sk D as H μ) (r : RepW D as H v w) (h : seqP μ w = some ps) : ∃ a xs, v = .ref a ∧ (SqL K H a xs ∨ SqT K H a xs) ∧ Reps D H xs ps := by
  unfold seqP at h
  split at h
  · cases h
    obtain ⟨a, xs, rfl, _, hr, rs⟩ := rep_tup r
    exact ⟨a, xs, rfl, .inr (.inl hr), rs⟩
  · obtain ⟨a, xs, rfl, hr, rs⟩ := rdL_ok k r h
    exact ⟨a, xs, rfl, .inl (.inl hr), rs⟩
def fLenL : List W → Μ → O W := fun ws μ => match ws with
  | [w] => match seqP μ w with
    | some ps => .ok (.v (.int ps.length)) μ
    | none => .bad
  | _ => .bad
theorem ad_lenL {K : PySem.W.Frag} : AdC Wx (fun xs H Q => ∃ p ys, xs = [.ref p] ∧ (SqL K H p ys ∨ SqT K H p ys) ∧ Q (.int ys.length) H) fLenL := fun D as μ σ H vs ws Q k r gg => by
  unfold fLenL at gg
  split at gg
  · split at gg
    · rename_i ps e
      obtain ⟨v, rfl, rv⟩ := repWs1 r
      obtain ⟨a, xs, rfl, hs, rs⟩ := seqP_ok k rv e
      refine ⟨a, xs, rfl, hs, ?_⟩
      rw [rs.length]
      exact nowV k gg .int
    · exact gg.elim
  · exact gg.elim
def fLenD : List W → Μ → O W := fun ws μ => match ws with
  | [w] => match rdD μ w with
    | some ps => .ok (.v (.int ps.length)) μ
    | none => .bad
  | _ => .bad
theorem call_lenDr : CallR X (.builtin "len") (fun xs H Q => ∃ a kvs, xs = [V.ref a] ∧ Rd H a (.dK kvs) ∧ Q (.int kvs.length) H) := by
  intro pins s σ H xs us Q I r h
  obtain ⟨a, kvs, rfl, hd, q⟩ := h
  obtain ⟨u, rfl, ru⟩ := vals1 r
  cases ru
  exact d_len I hd fun t s' I' => ⟨.int kvs.length, H, I', ⟨t, rfl⟩, q⟩
theorem ad_lenD : AdC Wx (fun xs H Q => ∃ a kvs, xs = [V.ref a] ∧ Rd H a (.dK kvs) ∧ Q (.int kvs.length) H) fLenD := fun D as μ σ H vs ws Q k r gg => by
  unfold fLenD at gg
  split at gg
  · split at gg
    · rename_i ps e
      obtain ⟨v, rfl, rv⟩ := repWs1 r
      obtain ⟨a, xs, rfl, hs, rs⟩ := rdD_ok k rv e
      refine ⟨a, xs, rfl, hs, ?_⟩
      rw [rs.length]
      exact nowV k gg .int
    · exact gg.elim
  · exact gg.elim
/-- all, any -/
def blsP : List P → Option (List Bool)
  | [] => some []
  | .bl b :: r => (blsP r).map (b :: ·)
  | _ :: _ => none
theorem blsP_ok {D : Addr → Prop} {H : Hp} : ∀ {xs : List V} {ps : List P} {bs : List Bool}, Reps D H xs ps → blsP ps = some bs → xs = bs.map V.bl
  | _, _, _, .nil, e => by cases e; rfl
  | _, _, _, @Reps.cons _ _ v (.bl b) l m r t, e => by
    cases q : blsP m with
    | none => rw [blsP, q] at e; cases e
    | some cs =>
      rw [blsP, q] at e
      cases e
      rw [rep_bl r, blsP_ok t q]
      rfl
  | _, _, _, @Reps.cons _ _ v .non l m r t, e => by cases e
  | _, _, _, @Reps.cons _ _ v (.int _) l m r t, e => by cases e
  | _, _, _, @Reps.cons _ _ v (.str _) l m r t, e => by cases e
  | _, _, _, @Reps.cons _ _ v (.ref _) l m r t, e => by cases e
  | _, _, _, @Reps.cons _ _ v (.ty _) l m r t, e => by cases e
  | _, _, _, @Reps.cons _ _ v (.tup _) l m r t, e => by cases e
  | _, _, _, @Reps.cons _ _ v (.lst _) l m r t, e => by cases e
  | _, _, _, @Reps.cons _ _ v (.dct _) l m r t, e => by cases e
  | _, _, _, @Reps.cons _ _ v (.ins _ _) l m r t, e => by cases e
  | _, _, _, @Reps.cons _ _ v (.set _ _) l m r t, e => by cases e
def fBls (g : List Bool → Bool) : List W → Μ → O W := fun ws μ => match ws with
  | [w] => match (rdL μ w).bind blsP with
    | some bs => .ok (.v (.bl (g bs))) μ
    | none => .bad
  | _ => .bad
theorem ad_bls {K : PySem.W.Frag} {g : List Bool → Bool} : AdC Wx (fun vs H Q => ∃ (a : Addr) (bs : List Bool), vs = [V.ref a] ∧ SqL K H a (bs.map V.bl) ∧ Q (.bl (g bs)) H) (fBls g) := fun D as μ σ H vs ws Q k r gg => by
  unfold fBls at gg
  split at gg
  · split at gg
    · rename_i bs e
      obtain ⟨ps, e1, e2⟩ := Option.bind_eq_some_iff.mp e
      obtain ⟨v, rfl, rv⟩ := repWs1 r
      obtain ⟨a, xs, rfl, hs, rs⟩ := rdL_ok k rv e1
      obtain rfl := blsP_ok rs e2
      exact ⟨a, bs, rfl, .inl hs, nowV k gg .bl⟩
    · exact gg.elim
  · exact gg.elim
theorem ad_all {K : PySem.W.Frag} : AdC Wx (rAll K) (fBls fun bs => bs.all id) := ad_bls
theorem ad_any {K : PySem.W.Frag} : AdC Wx (rAny K) (fBls fun bs => bs.any id) := ad_bls
end
end Pu
set_option Elab.async false
set_option linter.all false
set_option maxRecDepth 100000
set_option maxHeartbeats 4000000
namespace Pu
open L2 PySem PySem.Spec PyProof.Rows E10
/-! ### what is walked -/
abbrev IF := Γ → Μ → O (List P)
/-- J walks ps -/
def RepI : RL It (List P) := fun D _ H J ps => ps.length ≤ 100000 ∧ ∃ (Gd : Hp → Prop) (Y : Nat → Hp → V → Hp → Prop), Walk J ps.length Gd Y ∧ (∀ D' H', SdL D H D' H' → Gd H') ∧
  ∀ i D' H' x H2, i < ps.length → SdL D H D' H' → (∀ a, D' a → ∃ o, H' a = some o) → Y i H' x H2 → Same H' H2 ∧ ∃ p, ps[i]? = some p ∧ Rep D' H2 x p
def AdI (Wx : WX) (wi : TI) (I : IF) : Prop := ∀ D as γ μ σ H R, Sk D as H μ → EnvR D as H σ γ → G Wx σ RepI D as H (I γ μ) R → wi σ H R
def PPI (X : Cx) (Wx : WX) (tg it : Expr) (I : IF) : Prop := ∃ wi, PI X tg it wi ∧ AdI Wx wi I
/-- small enough to be walked -/
def few (ps : List P) (μ : Μ) : O (List P) := if ps.length ≤ 100000 then .ok ps μ else .bad
def iLst (F : EF) : IF := fun γ μ => (F γ μ).bind fun w m => match w with
  | .v (.lst ps) => few ps m
  | _ => .bad
def iTupP (F : EF) : IF := fun γ μ => (F γ μ).bind fun w m => match w with
  | .v (.tup ps) => few ps m
  | _ => .bad
section
variable {X : Cx} {Wx : WX} {e tg : Expr} {es : List Expr} {F F1 F2 : EF} {FA : AF} {pos : Pos} {D : Addr → Prop} {as : Ps} {H : Hp} {μ : Μ}
theorem nowI {σ : L2.St} {ps : List P} {J : It} {R : It → Hp → Prop} (k : Sk D as H μ) (g : G Wx σ RepI D as H (few ps μ) R) (h : ps.length ≤ 100000 → ∃ (Gd : Hp → Prop) (Y : Nat → Hp → V → Hp → Prop), Walk J ps.length Gd Y ∧ (∀ D' H', SdL D H D' H' → Gd H') ∧
    ∀ i D' H' x H2, i < ps.length → SdL D H D' H' → (∀ a, D' a → ∃ o, H' a = some o) → Y i H' x H2 → Same H' H2 ∧ ∃ p, ps[i]? = some p ∧ Rep D' H2 x p) : R J H := by
  unfold few at g
  split at g
  · rename_i hl
    exact G.now (R := RepI) k ⟨hl, h hl⟩ g
  · exact g.elim
theorem rep_lst {v : V} {ps : List P} (r : Rep D H v (.lst ps)) : ∃ a xs, v = .ref a ∧ ¬ D a ∧ Rd H a (.lst xs) ∧ Reps D H xs ps := by
  cases r with
  | lst n hr rs => exact ⟨_, _, rfl, n, hr, rs⟩
theorem rep_dct {v : V} {ps : List (Key × P)} (r : Rep D H v (.dct ps)) : ∃ a xs, v = .ref a ∧ ¬ D a ∧ Rd H a (.dK xs) ∧ RepK D H xs ps := by
  cases r with
  | dct n hr rs => exact ⟨_, _, rfl, n, hr, rs⟩
/-- a list that can be walked: a value, or a place that is locked -/
def wkL (μ : Μ) : W → Option (List P)
  | .v (.lst ps) => some ps
  | .loc j => match μ[j]? with
    | some (.lstL ps) => some ps
    | _ => none
  | _ => none
theorem wkL_ok {v : V} {w : W} {ps : List P} (k : Sk D as H μ) (r : RepW D as H v w) (h : wkL μ w = some ps) : ∃ a xs, v = .ref a ∧ Rd H a (.lst xs) ∧ Reps D H xs ps ∧ ∀ D' H', SdL D H D' H' → Rd H' a (.lst xs) := by
  unfold wkL at h
  split at h
  · cases h
    obtain ⟨a, xs, rfl, nd, hr, rs⟩ := rep_lst r
    exact ⟨a, xs, rfl, hr, rs, fun D' H' s => s.r _ _ nd hr⟩
  · split at h
    · rename_i q
      cases h
      obtain ⟨a, e, rfl, od, xs, hr, rs⟩ := r.adr k q (by simp)
      exact ⟨a, xs, rfl, .inr ⟨od, hr⟩, rs, fun D' H' s => .inr ⟨od, s.l _ _ _ hr⟩⟩
    · cases h
  · cases h
def iLstW (F : EF) : IF := fun γ μ => (F γ μ).bind fun w m => match wkL m w with
  | some ps => few ps m
  | none => .bad
theorem ad_iLstW {K : PySem.W.Frag} {tl : TE} (h : Ad Wx tl F) : AdI Wx (iList K tl) (iLstW F) := fun D as γ μ σ H R k ev g => by
  refine h D as γ μ σ H _ k ev ((G.bind RepW k g).mono fun x H1 ⟨D1, as1, μ1, wx, n1, k1, r1, g1⟩ => ?_)
  split at g1
  · rename_i ps q
    obtain ⟨a, xs, rfl, hr, rs, stab⟩ := wkL_ok k1 r1 q
    refine ⟨a, rfl, ⟨xs, .inl hr⟩, nowI k1 g1 fun hl => ⟨fun H' => SqL K H' a xs, YAt xs, by rw [← rs.length]; exact walk_list, fun D' H' s => .inl (stab D' H' s), fun i D' H' x H2 lt s dn y => ?_⟩⟩
    obtain ⟨rfl, hx⟩ := y
    obtain ⟨p, hp, rp⟩ := rs.get hx
    exact ⟨Same.refl _, p, hp, rp.sd s.toSd⟩
  · exact g1.elim
theorem ad_iList {K : PySem.W.Frag} {tl : TE} (h : Ad Wx tl F) : AdI Wx (iList K tl) (iLst F) := fun D as γ μ σ H R k ev g => by
  refine h D as γ μ σ H _ k ev ((G.bind RepW k g).mono fun x H1 ⟨D1, as1, μ1, wx, n1, k1, r1, g1⟩ => ?_)
  split at g1
  · obtain ⟨a, xs, rfl, nd, hr, rs⟩ := rep_lst r1
    · refine ⟨a, rfl, ⟨xs, .inl hr⟩, nowI k1 g1 fun hl => ⟨fun H' => SqL K H' a xs, YAt xs, by rw [← rs.length]; exact walk_list, fun D' H' s => .inl (s.r _ _ nd hr), fun i D' H' x H2 lt s dn y => ?_⟩⟩
      obtain ⟨rfl, hx⟩ := y
      obtain ⟨p, hp, rp⟩ := rs.get hx
      exact ⟨Same.refl _, p, hp, rp.sd s.toSd⟩
  · exact g1.elim
theorem ad_iTup {K : PySem.W.Frag} {tl : TE} (h : Ad Wx tl F) : AdI Wx (iTup K tl) (iTupP F) := fun D as γ μ σ H R k ev g => by
  refine h D as γ μ σ H _ k ev ((G.bind RepW k g).mono fun x H1 ⟨D1, as1, μ1, wx, n1, k1, r1, g1⟩ => ?_)
  split at g1
  · obtain ⟨a, xs, rfl, nd, hr, rs⟩ := rep_tup r1
    · refine ⟨a, rfl, ⟨xs, .inl hr⟩, nowI k1 g1 fun hl => ⟨fun H' => SqT K H' a xs, YAt xs, by rw [← rs.length]; exact walk_tup, fun D' H' s => .inl (s.r _ _ nd hr), fun i D' H' x H2 lt s dn y => ?_⟩⟩
      obtain ⟨rfl, hx⟩ := y
      obtain ⟨p, hp, rp⟩ := rs.get hx
      exact ⟨Same.refl _, p, hp, rp.sd s.toSd⟩
  · exact g1.elim
/-- range -/
def rngP (lo : Int) (n : Nat) : List P := (List.range n).map fun i => .int (lo + (i : Nat))
def iRg1 (A : AF) : IF := fun γ μ => (A γ μ).bind fun ws m => match ws with
  | [.v (.int j)] => if j.toNat ≤ 100000 ∧ j.natAbs < 2 ^ 61 then .ok (rngP 0 j.toNat) m else .bad
  | _ => .bad
theorem rng_rep {lo : Int} {n : Nat} (hl : n ≤ 100000) : RepI D as H (Itr lo n) (rngP lo n) := by
  have hn : (rngP lo n).length = n := by unfold rngP; simp
  refine ⟨by rw [hn]; exact hl, fun _ => True, YFn fun i => .int (lo + i), by rw [hn]; exact walk_range, fun _ _ _ => True.intro, fun i D' H' x H2 lt s dn y => ?_⟩
  obtain ⟨rfl, rfl⟩ := y
  rw [hn] at lt
  refine ⟨Same.refl _, .int (lo + i), ?_, .int⟩
  unfold rngP
  simp [lt]
theorem ad_rng1 {ta : TA} (h : AdA Wx ta FA) : AdI Wx (iRng1 ta) (iRg1 FA) := fun D as γ μ σ H R k ev g => by
  refine h D as γ μ σ H _ k ev ((G.bind RepWs k g).mono fun xs H1 ⟨D1, as1, μ1, ws, n1, k1, r1, g1⟩ => ?_)
  split at g1
  · split at g1
    · rename_i j hl
      obtain ⟨v, rfl, rv⟩ := repWs1 r1
      obtain rfl := rep_int rv
      have : (2 : Nat) ^ 61 = 2305843009213693952 := by decide
      have : (2 : Int) ^ 62 = 4611686018427387904 := by decide
      exact ⟨j, rfl, by omega, by omega, G.now (R := RepI) k1 (rng_rep hl.1) g1⟩
    · exact g1.elim
  · exact g1.elim
theorem ppi_range1 {a : Expr} {p : Pos} (hg : Gl X "range") (hm : X.mg "range" = none) (ha : PPA X Wx [a] FA) (hs : starEach [a] X.env = [(false, eval a X.env)] := by rfl) : PPI X Wx tg (.Call (.Name "range" p) [a] [] pos) (iRg1 FA) :=
  let ⟨_, p, ad⟩ := ha; ⟨_, pi_range1 hg hm p hs, ad_rng1 ad⟩
/-- a text, sign by sign -/
def chrP (z : Str) : List P := z.cps.toList.map fun c => .str ⟨#[c]⟩
def iStrP (F : EF) : IF := fun γ μ => (F γ μ).bind fun w m => match w with
  | .v (.str z) => few (chrP z) m
  | _ => .bad
theorem ad_iStr {te : TE} (h : Ad Wx te F) : AdI Wx (iStr te) (iStrP F) := fun D as γ μ σ H R k ev g => by
  refine h D as γ μ σ H _ k ev ((G.bind RepW k g).mono fun x H1 ⟨D1, as1, μ1, wx, n1, k1, r1, g1⟩ => ?_)
  split at g1
  · rename_i z
    obtain rfl := rep_str r1
    have hn : (chrP z).length = z.cps.size := by unfold chrP; simp
    refine ⟨z, rfl, nowI k1 g1 fun hl => ⟨fun _ => True, _, by rw [hn]; exact walk_str, fun _ _ _ => True.intro, fun i D' H' x H2 lt s dn y => ?_⟩⟩
    obtain ⟨rfl, c, hc, rfl⟩ := y
    refine ⟨Same.refl _, .str ⟨#[c]⟩, ?_, .str⟩
    unfold chrP
    rw [List.getElem?_map, Array.getElem?_toList, hc]
    rfl
  · exact g1.elim
/-! ### a dict that is walked is known from then on -/
def tFrz (td : TE) : TE := fun σ H Q => td σ H fun x H1 => ∃ d kvs, x = .ref d ∧ ((H1 d = some (.dK kvs) ∧ ∀ o, Q x (upd H1 d (.frz o (.dK kvs)))) ∨ ∃ o, H1 d = some (.frz o (.dK kvs)) ∧ Q x H1)
theorem pe_frz {te : TE} (h : PE X e te) : PE X e (tFrz te) := by
  refine ⟨fun pins s σ H Q I hw => ?_⟩
  refine thn (h.run pins s σ H _ I hw) fun v s1 ⟨x, H1, I1, r, d, kvs, ex, q⟩ => ?_
  rcases q with ⟨hd, q⟩ | ⟨o, hd, q⟩
  · obtain ⟨od, I2⟩ := I1.lock hd True.intro
    exact ⟨x, _, I2, r, q od⟩
  · exact ⟨x, H1, I1, r, q⟩
/-- .. nothing else is different -/
theorem frz_nx {d : Addr} {kvs : List (Key × V)} {o : Obj} (nd : ¬ D d) (h : H d = some (.dK kvs)) : Nx D as H D as (upd H d (.frz o (.dK kvs))) := by
  refine ⟨fun _ _ h => .inl h, fun a u e => ?_, fun _ h _ => h, fun _ h => .inl h, fun _ _ h => .inl h, fun a u da _ e => ?_, fun a u _ r => ?_, fun a u _ e z => ?_, fun a x y e => ?_⟩
  · by_cases q : a = d
    · subst q; exact ⟨_, upd_same⟩
    · exact ⟨u, (upd_ne q).trans e⟩
  · rw [upd_ne (fun q : a = d => nd (q ▸ da))]
    exact e
  · by_cases q : a = d
    · subst q
      rcases r with r | ⟨o', r⟩
      · rw [h] at r
        cases r
        exact .inr ⟨o, upd_same⟩
      · rw [h] at r; cases r
    · rcases r with r | ⟨o', r⟩
      · exact .inl ((upd_ne q).trans r)
      · exact .inr ⟨o', (upd_ne q).trans r⟩
  · have q : a ≠ d := fun q => by
      subst q
      rw [h] at e
      cases e
      cases z
    exact (upd_ne q).trans e
  · have q : a ≠ d := fun q => by
      subst q
      rw [h] at e
      cases e
    exact (upd_ne q).trans e
theorem frz_sk {d : Addr} {kvs : List (Key × V)} {o : Obj} (k : Sk D as H μ) (nd : ¬ D d) (h : H d = some (.dK kvs)) : Sk D as (upd H d (.frz o (.dK kvs))) μ := by
  refine ⟨k.len, fun a da => ?_, k.inD, k.inj, fun j a e => ?_, k.dead⟩
  · rw [upd_ne (fun q : a = d => nd (q ▸ da))]
    exact k.dn a da
  · obtain ⟨c, q, x⟩ := k.ok j a e
    exact ⟨c, q, x.sd (frz_nx (as := as) nd h).sd (upd_ne fun z => nd (z ▸ k.inD j a e))⟩
def dctB {α : Type} (f : List (Key × P) → Μ → O α) : W → Μ → O α := fun w m => match w with
  | .v (.dct ps) => f ps m
  | .loc j => match m[j]? with
    | some (.dctL ps) => f ps m
    | _ => .bad
  | _ => .bad
/-- what the reading of a walked dict needs -/
theorem ad_frz {α β : Type} {td : TE} {σ : L2.St} {γ : Γ} {Q : VK} {f : List (Key × P) → Μ → O α} {R : RL β α} {Q' : β → Hp → Prop} (h : Ad Wx td F) (k : Sk D as H μ) (ev : EnvR D as H σ γ) (g : G Wx σ R D as H ((F γ μ).bind (dctB f)) Q')
    (hq : ∀ D1 as1 H1 μ1 d o xs ps, Nx D as H D1 as1 H1 → Sk D1 as1 H1 μ1 → (∀ D' H', SdL D1 H1 D' H' → H' d = some (.frz o (.dK xs))) → H1 d = some (.frz o (.dK xs)) → RepK D1 H1 xs ps → G Wx σ R D1 as1 H1 (f ps μ1) Q' → Q (.ref d) H1) : tFrz td σ H Q := by
  refine h D as γ μ σ H _ k ev ((G.bind RepW k g).mono fun x H1 ⟨D1, as1, μ1, wx, n1, k1, r1, g1⟩ => ?_)
  unfold dctB at g1
  split at g1
  · rename_i ps
    obtain ⟨d, xs, rfl, nd, hr, rs⟩ := rep_dct r1
    rcases hr with hr | ⟨o, hr⟩
    · refine ⟨d, xs, rfl, .inl ⟨hr, fun o => ?_⟩⟩
      have n2 := frz_nx (as := as1) (o := o) nd hr
      have k2 := frz_sk (o := o) k1 nd hr
      exact hq D1 as1 _ μ1 d o xs ps (n1.trans k k1 n2) k2 (fun D' H' s => s.l _ _ _ upd_same) upd_same (RepK.sd n2.sd rs) (g1.nx k1 k2 n2)
    · exact ⟨d, xs, rfl, .inr ⟨o, hr, hq D1 as1 _ μ1 d o xs ps n1 k1 (fun D' H' s => s.l _ _ _ hr) hr rs g1⟩⟩
  · split at g1
    · rename_i j ps q
      obtain ⟨d, e, rfl, od, xs, hr, rs⟩ := r1.adr k1 q (by simp)
      exact ⟨d, xs, rfl, .inr ⟨od, hr, hq D1 as1 _ μ1 d od xs ps n1 k1 (fun D' H' s => s.l _ _ _ hr) hr rs g1⟩⟩
    · exact g1.elim
  · exact g1.elim
def keyOf : Key → P
  | .inl i => .int i
  | .inr x => .str x
theorem keyOf_rep (k : Key) : Rep D H (kV k) (keyOf k) := by
  cases k
  · exact .int
  · exact .str
def iDct (g : List (Key × P) → List P) (F : EF) : IF := fun γ μ => (F γ μ).bind (dctB fun ps m => few (g ps) m)
abbrev iKeysP := iDct fun ps => ps.map fun kp => keyOf kp.1
abbrev iValsP := iDct fun ps => ps.map fun kp => kp.2
abbrev iItemsP := iDct fun ps => ps.map fun kp => .tup [keyOf kp.1, kp.2]
theorem RepK.get {D : Addr → Prop} {H : Hp} : ∀ {vs : List (Key × V)} {ps : List (Key × P)} {i : Nat} {k : Key} {v : V}, RepK D H vs ps → vs[i]? = some (k, v) → ∃ p, ps[i]? = some (k, p) ∧ Rep D H v p
  | _, _, 0, _, _, .cons r _, e => by cases e; exact ⟨_, rfl, r⟩
  | _, _, i + 1, _, _, .cons _ t, e => RepK.get (i := i) t e
theorem ad_iKeys {td : TE} (h : Ad Wx td F) : AdI Wx (iKeys (tFrz td)) (iKeysP F) := fun D as γ μ σ H R k ev g => by
  refine ad_frz (R := RepI) h k ev g fun D1 as1 H1 μ1 d o xs ps n1 k1 nd hd rs g1 => ⟨d, o, rfl, .inl ⟨xs, hd, nowI k1 g1 fun hl => ⟨_, _, by rw [List.length_map, ← rs.length]; exact walk_keys, nd, fun i D' H' x H2 lt s dn y => ?_⟩⟩⟩
  obtain ⟨rfl, kk, v, hx, rfl⟩ := y
  obtain ⟨p, hp, rp⟩ := rs.get hx
  exact ⟨Same.refl _, keyOf kk, by rw [List.getElem?_map, hp]; rfl, keyOf_rep kk⟩
/-- a new pair -/
theorem pair_rep {D' : Addr → Prop} {H' H2 : Hp} {T : Addr} {x y : V} {p q : P} (dn : ∀ a, D' a → ∃ o, H' a = some o) (nT : H' T = none) (e : H2 = upd H' T (.tup [x, y])) (rx : Rep D' H' x p) (ry : Rep D' H' y q) : Same H' H2 ∧ Rep D' H2 (.ref T) (.tup [p, q]) := by
  subst e
  have s := new_same' (o := .tup [x, y]) nT
  refine ⟨s, .tup (fun d => ?_) (.inl upd_same) (Reps.sd (.same s) (.cons rx (.cons ry .nil)))⟩
  obtain ⟨o, z⟩ := dn T d
  rw [nT] at z
  cases z
theorem ad_iItems {td : TE} (h : Ad Wx td F) : AdI Wx (iItems (tFrz td)) (iItemsP F) := fun D as γ μ σ H R k ev g => by
  refine ad_frz (R := RepI) h k ev g fun D1 as1 H1 μ1 d o xs ps n1 k1 nd hd rs g1 => ⟨d, o, xs, rfl, hd, nowI k1 g1 fun hl => ⟨_, _, by rw [List.length_map, ← rs.length]; exact walk_items, nd, fun i D' H' x H2 lt s dn y => ?_⟩⟩
  obtain ⟨T, x1, y1, rfl, nT, e2, h1, h2⟩ := y
  have lx : i < xs.length := by rw [rs.length]; rw [List.length_map] at lt; exact lt
  obtain ⟨kv, hkv⟩ : ∃ kv, xs[i]? = some kv := ⟨xs[i], List.getElem?_eq_getElem lx⟩
  obtain ⟨kk, v⟩ := kv
  simp only [hkv, Option.map_some, Option.some.injEq] at h1 h2
  subst h1
  subst h2
  obtain ⟨p, hp, rp⟩ := rs.get hkv
  obtain ⟨s2, r2⟩ := pair_rep dn nT e2 (keyOf_rep kk) (rp.sd s.toSd)
  exact ⟨s2, _, by rw [List.getElem?_map, hp]; rfl, r2⟩
theorem ppi_items {apos cpos tpos : Pos} {elts : List Expr} {kk : Nat} (h : PP X Wx e F) (hb : attributeBase e "items" X.env (eval e X.env) = eval e X.env := by rfl) (hl : (apos.endLine == cpos.line) = true := by rfl) : PPI X Wx (.Tuple elts kk tpos) (.Call (.Attribute e "items" apos) [] [] cpos) (iItemsP F) :=
  let ⟨_, p, ad⟩ := h; ⟨_, pi_items (pe_frz p) hb hl, ad_iItems ad⟩
end
end Pu
set_option Elab.async false
set_option linter.all false
set_option maxRecDepth 100000
set_option maxHeartbeats 4000000
namespace Pu
open L2 PySem PySem.Spec PyProof.Rows E10
/-! ### targets -/
abbrev GF := P → Γ → Option Γ
def AdG (vs : Option (List Nat)) (g : TG) (f : GF) : Prop := ∀ D as μ σ γ γ' H p x Q, Sk D as H μ → EnvR D as H σ γ → Rep D H x p → f p γ = some γ' → (∀ σ', EnvR D as H σ' γ' → (∀ l, vs = some l → wipe σ' l = wipe σ l) → σ'.length = σ.length → Q σ' H) → g x σ H Q
def tgName (i : Nat) : GF := fun p γ => some (γ.set i (some (.v p)))
theorem wipe_set (σ : L2.St) (i : Nat) (x : Option V) : ∀ {l : List Nat}, i ∈ l → wipe (σ.set i x) l = wipe σ l
  | v :: l, h => by
    unfold wipe
    by_cases c : i ∈ l
    · rw [wipe_set σ i x c]
    · have e : i = v := (List.mem_cons.mp h).resolve_right c
      subst e
      have : ∀ l : List Nat, i ∉ l → wipe (σ.set i x) l = (wipe σ l).set i x := fun l hl => by
        induction l with
        | nil => rfl
        | cons u r ih =>
          have hu : i ≠ u := fun q => hl (q ▸ .head _)
          unfold wipe
          rw [ih (fun q => hl (.tail _ q)), List.set_comm _ _ hu]
      rw [this l c, List.set_set]
theorem ad_gName {i : Nat} {vs : Option (List Nat)} (h : ∀ l, vs = some l → i ∈ l) : AdG vs (gName i) (tgName i) := fun D as μ σ γ γ' H p x Q k ev r e q => by
  cases e
  exact q _ (ev.set (w := .v p) r) (fun l hl => wipe_set σ i _ (h l hl)) (List.length_set ..)
abbrev GFs := List P → Γ → Option Γ
def AdGs (vs : Option (List Nat)) (g : TGs) (f : GFs) : Prop := ∀ D as μ σ γ γ' H ps xs Q, Sk D as H μ → EnvR D as H σ γ → Reps D H xs ps → f ps γ = some γ' → (∀ σ', EnvR D as H σ' γ' → (∀ l, vs = some l → wipe σ' l = wipe σ l) → σ'.length = σ.length → Q σ' H) → g xs σ H Q
def tgNil : GFs := fun ps γ => match ps with
  | [] => some γ
  | _ => none
def tgCons (f : GF) (g : GFs) : GFs := fun ps γ => match ps with
  | p :: r => (f p γ).bind fun γ1 => g r γ1
  | [] => none
def tgTup (n : Nat) (g : GFs) : GF := fun p γ => match p with
  | .tup ps => if ps.length = n then g ps γ else none
  | _ => none
theorem ad_gNil {vs} : AdGs vs gNil tgNil := fun D as μ σ γ γ' H ps xs Q k ev r e q => by
  cases r with
  | nil => cases e; exact ⟨rfl, q σ ev (fun _ _ => rfl) rfl⟩
  | cons => cases e
theorem ad_gCons {vs} {g f gs fs} (h : AdG vs g f) (hs : AdGs vs gs fs) : AdGs vs (gCons g gs) (tgCons f fs) := fun D as μ σ γ γ' H ps xs Q k ev r e q => by
  cases r with
  | nil => cases e
  | cons r t =>
    obtain ⟨γ1, e1, e2⟩ := Option.bind_eq_some_iff.mp e
    refine ⟨_, _, rfl, h D as μ σ γ γ1 H _ _ _ k ev r e1 fun σ1 ev1 w1 l1 => ?_⟩
    exact hs D as μ σ1 γ1 γ' H _ _ _ k ev1 t e2 fun σ2 ev2 w2 l2 => q σ2 ev2 (fun l hl => (w2 l hl).trans (w1 l hl)) (l2.trans l1)
theorem ad_gTup {vs} {K : PySem.W.Frag} {n : Nat} {gs fs} (hs : AdGs vs gs fs) : AdG vs (gTup K n gs) (tgTup n fs) := fun D as μ σ γ γ' H p x Q k ev r e q => by
  unfold tgTup at e
  split at e
  · split at e
    · rename_i hn
      obtain ⟨a, xs, rfl, _, hr, rs⟩ := rep_tup r
      exact ⟨a, xs, rfl, .inl hr, by rw [rs.length]; exact hn, hs D as μ σ γ γ' H _ _ _ k ev rs e q⟩
    · cases e
  · cases e
/-! ### comprehensions -/
def F0 : WX := fun _ _ _ _ => False
def O.nx {α : Type} : O α → O α
  | .exc _ _ _ => .bad
  | o => o
def wipeG (γ : Γ) : List Nat → Γ
  | [] => γ
  | v :: vs => (wipeG γ vs).set v none
theorem set_none {D as H} {σ : L2.St} {γ : Γ} {i : Nat} (r : EnvR D as H σ γ) : EnvR D as H (σ.set i none) (γ.set i none) := by
  refine ⟨by rw [List.length_set, List.length_set]; exact r.1, fun j w e => ?_⟩
  by_cases c : i = j
  · subst c
    rw [List.getElem?_set_self'] at e
    cases g : γ[i]? <;> rw [g] at e <;> cases e
  · rw [List.getElem?_set_ne c] at e ⊢
    exact r.2 j w e
theorem EnvR.wipe {D as H} {σ : L2.St} {γ : Γ} (r : EnvR D as H σ γ) : ∀ vs, EnvR D as H (L2.wipe σ vs) (wipeG γ vs)
  | [] => r
  | v :: vs => set_none (EnvR.wipe r vs)
def lcW (k : Μ → O (List P)) : W → Μ → O (List P)
  | .v q, m => (k m).bind fun qs m3 => .ok (q :: qs) m3
  | .loc _, _ => .bad
def lcGo (f : GF) (T : TF) (E : EF) (γ : Γ) : List P → Μ → O (List P)
  | [], m => .ok [] m
  | p :: r, m => match f p γ with
    | none => .bad
    | some γ1 => (T γ1 m).nx.bind fun b m1 => if b = true then (E γ1 m1).nx.bind (lcW (lcGo f T E γ r)) else lcGo f T E γ r m1
theorem wipe_in (σ : L2.St) {i : Nat} (lt : i < σ.length) : ∀ {vs : List Nat}, i ∈ vs → (wipe σ vs)[i]? = some none
  | v :: vs, h => by
    unfold wipe
    by_cases c : v = i
    · subst c
      exact List.getElem?_set_self (by rw [wipe_length]; exact lt)
    · rw [List.getElem?_set_ne c]
      exact wipe_in σ lt ((List.mem_cons.mp h).resolve_left fun q => c q.symm)
theorem wipe_wipe (σ : L2.St) (vs : List Nat) : wipe (wipe σ vs) vs = wipe σ vs := by
  apply List.ext_getElem?
  intro i
  by_cases h : i ∈ vs
  · by_cases lt : i < σ.length
    · rw [wipe_in _ (by rw [wipe_length]; exact lt) h, wipe_in _ lt h]
    · rw [List.getElem?_eq_none (by rw [wipe_length, wipe_length]; omega), List.getElem?_eq_none (by rw [wipe_length]; omega)]
  · rw [wipe_out h]
def fLc (I : IF) (f : GF) (T : TF) (E : EF) (vs : List Nat) : EF := fun γ μ => (I γ μ).bind fun ps m => (lcGo f T E (wipeG γ vs) ps m).bind fun qs m => .ok (.v (.lst qs)) m
def tE (Wx : WX) (F : EF) : TE := fun σ H Q => ∃ D as γ μ, Sk D as H μ ∧ EnvR D as H σ γ ∧ G Wx σ RepW D as H (F γ μ) Q
def tT (Wx : WX) (T : TF) : TT := fun σ H Q => ∃ D as γ μ, Sk D as H μ ∧ EnvR D as H σ γ ∧ G Wx σ RepB D as H (T γ μ) Q
theorem PP.can {X : Cx} {Wx : WX} {e : Expr} {F : EF} (h : PP X Wx e F) : PE X e (tE Wx F) := let ⟨_, p, ad⟩ := h; ⟨fun pins s σ H Q I ⟨D, as, γ, μ, k, ev, g⟩ => p.run pins s σ H Q I (ad D as γ μ σ H Q k ev g)⟩
theorem PPT.can {X : Cx} {Wx : WX} {e : Expr} {F : TF} (h : PPT X Wx e F) : PT X e (tT Wx F) := let ⟨_, p, ad⟩ := h; ⟨fun pins s σ H Q I ⟨D, as, γ, μ, k, ev, g⟩ => p.run pins s σ H Q I (ad D as γ μ σ H Q k ev g)⟩
def PPTs (X : Cx) (Wx : WX) (ifs : List Expr) (T : TF) : Prop := PTs X ifs (tT Wx T)
def fYes : TF := fun _ μ => .ok true μ
theorem ppts_nil {X : Cx} {Wx : WX} : PPTs X Wx [] fYes := ⟨fun pins s σ H Q I ⟨D, as, γ, μ, k, ev, g⟩ => pts_nil.run pins s σ H Q I (G.now (R := RepB) k rfl g)⟩
theorem ppts_one {X : Cx} {Wx : WX} {e : Expr} {F : TF} (h : PPT X Wx e F) : PPTs X Wx [e] F := pts_one h.can
section
variable {D D' : Addr → Prop} {as as' : Ps} {H H' : Hp} {μ μ' : Μ}
/-- something hidden is changed -/
theorem Sk.poke {a : Addr} {o : HO} (k : Sk D as H μ) (d : D a) (na : ∀ j : Nat, as[j]? ≠ some (some a)) : Sd D H D (upd H a o) ∧ Sk D as (upd H a o) μ := by
  have s : Sd D H D (upd H a o) := by
    have ne : ∀ b, ¬ D b → b ≠ a := fun b n z => n (z ▸ d)
    refine ⟨fun b u n e => n, fun b u n r => ?_, fun b u n e z => (upd_ne (ne b n)).trans e⟩
    rcases r with r | ⟨x, r⟩
    · exact .inl ((upd_ne (ne b n)).trans r)
    · exact .inr ⟨x, (upd_ne (ne b n)).trans r⟩
  refine ⟨s, k.len, fun b db => ?_, k.inD, k.inj, fun j b e => ?_, k.dead⟩
  · by_cases c : b = a
    · subst c
      exact ⟨o, upd_same⟩
    · rw [upd_ne c]
      exact k.dn b db
  · obtain ⟨c, q, x⟩ := k.ok j b e
    exact ⟨c, q, x.sd s (upd_ne fun z => na j (z ▸ e))⟩
theorem Nx.poke {a : Addr} {o : HO} (n : Nx D as H D' as' H') (d : D' a) (h : H a = none) (nd : ¬ D a) : Nx D as H D' as' (upd H' a o) := by
  have ne : ∀ b u, H b = some u → b ≠ a := fun b u e z => by rw [z, h] at e; cases e
  refine ⟨n.pre, fun b u e => ?_, n.mono, n.new, n.fresh, fun b u db na e => (upd_ne (ne b u e)).trans (n.hid b u db na e), fun b u nb r => ?_, fun b u nb e z => (upd_ne (ne b u e)).trans (n.sol b u nb e z), fun b x y e => (upd_ne (ne b _ e)).trans (n.lck b x y e)⟩
  · obtain ⟨u', e'⟩ := n.ex b u e
    exact ⟨u', (upd_ne (ne b u e)).trans e'⟩
  have nba : b ≠ a := let ⟨x, e⟩ := rd_some r; ne b x e
  rcases n.rd b u nb r with r | ⟨x, r⟩
  · exact .inl ((upd_ne nba).trans r)
  · exact .inr ⟨x, (upd_ne nba).trans r⟩
def lessD (D : Addr → Prop) (a : Addr) : Addr → Prop := fun b => D b ∧ b ≠ a
/-- something hidden is let go -/
theorem Sk.free {a : Addr} (k : Sk D' as' H' μ') (n : Nx D as H D' as' H') (na : ∀ j : Nat, as'[j]? ≠ some (some a)) (nd : ¬ D a) : Sd D' H' (lessD D' a) H' ∧ Nx D as H (lessD D' a) as' H' ∧ Sk (lessD D' a) as' H' μ' := by
  have s : Sd D' H' (lessD D' a) H' := ⟨fun b u n e z => n z.1, fun _ _ _ r => r, fun _ _ _ e _ => e⟩
  refine ⟨s, ⟨n.pre, n.ex, fun b db v => ⟨n.mono b db v, fun z => nd (z ▸ db)⟩, fun b z => n.new b z.1, n.fresh, n.hid, n.rd, n.sol, n.lck⟩, k.len, fun b z => k.dn b z.1, fun j b e => ⟨k.inD j b e, fun z => na j (z ▸ e)⟩, k.inj, fun j b e => ?_, k.dead⟩
  obtain ⟨c, q, x⟩ := k.ok j b e
  exact ⟨c, q, x.sd s rfl⟩
end
end Pu
set_option Elab.async false
set_option linter.all false
set_option maxRecDepth 100000
set_option maxHeartbeats 4000000
namespace Pu
open L2 PySem PySem.Spec PyProof.Rows E10
section
variable {D D' : Addr → Prop} {as as' : Ps} {H H' : Hp} {μ μ' : Μ} {α β : Type} {R : RL β α} {Wx : WX} {σ : L2.St}
/-- a thing laid aside: no place, yet written -/
theorem Sk.hide {a : Addr} {o : HO} (k : Sk D as H μ) (na : H a = none) : Nx D as H (plusD D a) as (upd H a o) ∧ Sk (plusD D a) as (upd H a o) μ ∧ ∀ j : Nat, as[j]? ≠ some (some a) := by
  have s := new_same' (o := o) na
  have nj : ∀ j : Nat, as[j]? ≠ some (some a) := fun j e => k.nd na (k.inD j a e)
  have n : Nx D as H (plusD D a) as (upd H a o) :=
    ⟨fun _ _ h => .inl h, fun b u e => ⟨u, s _ _ e⟩, fun b d _ => .inl d, fun b d => d.elim .inl fun e => .inr (e ▸ na), fun j b e => .inl e, fun b u _ _ e => s _ _ e, fun b u _ r => r.elim (fun r => .inl (s _ _ r)) fun ⟨x, r⟩ => .inr ⟨x, s _ _ r⟩, fun b u _ e _ => s _ _ e, fun b x y e => s _ _ e⟩
  refine ⟨n, ⟨k.len, fun b d => ?_, fun j b e => .inl (k.inD j b e), k.inj, fun j b e => ?_, k.dead⟩, nj⟩
  · rcases d with d | rfl
    · obtain ⟨x, e⟩ := k.dn b d
      exact ⟨x, s _ _ e⟩
    · exact ⟨_, upd_same⟩
  · obtain ⟨c, q, x⟩ := k.ok j b e
    exact ⟨c, q, x.sd n.sd (upd_ne fun z => nj j (z ▸ e))⟩
theorem Nx.notin {a : Addr} (n : Nx D as H D' as' H') (h : ∀ j : Nat, as[j]? ≠ some (some a)) {o : HO} (e : H a = some o) : ∀ j : Nat, as'[j]? ≠ some (some a) := fun j q => by
  rcases n.fresh j a q with z | z
  · exact h j z
  · rw [e] at z; cases z
theorem G.nobad {o : O α} {Q : β → Hp → Prop} (g : G Wx σ R D as H o Q) : o ≠ .bad := fun e => by
  rw [e] at g
  exact g
end
theorem nx_ok {α β : Type} {o : O α} {f : α → Μ → O β} (h : o.nx.bind f ≠ .bad) : ∃ a m, o = .ok a m := by
  cases o with
  | ok a m => exact ⟨a, m, rfl⟩
  | exc C fs m => exact absurd rfl h
  | bad => exact absurd rfl h
theorem bind_nb {α β : Type} {o : O α} {f : α → Μ → O β} (h : o.bind f ≠ .bad) : o ≠ .bad := fun e => h (by rw [e]; rfl)
/-- what stands in the course of a comprehension -/
structure LcAt (D1 : Addr → Prop) (as1 : Ps) (H1 : Hp) (tot : O (List P)) (go : List P → Μ → O (List P)) (Dl : Addr) (ps : List P) (i : Nat) (H' : Hp) : Prop where
  ex : ∃ D' as' acc qs m', Nx D1 as1 H1 D' as' H' ∧ Sk D' as' H' m' ∧ D' Dl ∧ (∀ j : Nat, as'[j]? ≠ some (some Dl)) ∧ H' Dl = some (.lst acc) ∧ Reps D' H' acc qs ∧ qs.length ≤ i ∧ tot = (go (ps.drop i) m').bind fun r m => .ok (qs ++ r) m
theorem ad_lc {Wx : WX} {wi : TI} {g : TG} {I : IF} {f : GF} {T : TF} {E : EF} {vs : List Nat} (hi : AdI Wx wi I) (hg : AdG (some vs) g f) : Ad Wx (tLc wi g (tT F0 T) (tE F0 E) vs) (fLc I f T E vs) := fun D as γ μ σ H Q k ev gg => by
  refine hi D as γ μ σ H _ k ev ((G.bind RepI k gg).mono fun J H1 ⟨D1, as1, μ1, ps, n1, k1, r1, g1⟩ => ?_)
  intro Dl nDl
  obtain ⟨hl, Gd, Y, wk, stab, yl⟩ := r1
  have ev1 := ev.nx n1
  have nd1 : ¬ D1 Dl := k1.nd nDl
  obtain ⟨n0, k0, nj0⟩ := k1.hide (o := .lst []) nDl
  have nb : lcGo f T E (wipeG γ vs) ps μ1 ≠ .bad := bind_nb g1.nobad
  refine lc_it wk (fun i H' => i ≤ ps.length ∧ LcAt D1 as1 H1 (lcGo f T E (wipeG γ vs) ps μ1) (lcGo f T E (wipeG γ vs)) Dl ps i H') ⟨Nat.zero_le _, ⟨_, _, [], [], μ1, n0, k0, .inr rfl, nj0, upd_same, .nil, Nat.le_refl _, ?_⟩⟩ (fun i H' _ h => ?_) ?_ ?_
  · rw [List.drop_zero]
    cases lcGo f T E (wipeG γ vs) ps μ1 <;> rfl
  · obtain ⟨D', as', acc, qs, m', n', _⟩ := h.2.ex
    exact stab D' H' n'.sdl
  · rintro i x H' H2 lt ⟨_, h⟩ y
    obtain ⟨D', as', acc, qs, m', n', k', dl, nj, hD, rs, lq, tot⟩ := h.ex
    obtain ⟨s2, p, hp, rp⟩ := yl i D' H' x H2 lt n'.sdl (fun a d => k'.dn a d) y
    have k2 : Sk D' as' H2 m' := k'.same s2
    have n2 : Nx D1 as1 H1 D' as' H2 := n'.trans k1 k' (.of_same s2)
    have hdrop : ps.drop i = p :: ps.drop (i + 1) := List.drop_eq_getElem?_toList_append.trans (by rw [hp]; rfl)
    rw [hdrop] at tot
    have nb2 : lcGo f T E (wipeG γ vs) (p :: ps.drop (i + 1)) m' ≠ .bad := by
      rw [tot] at nb
      exact bind_nb nb
    cases ef : f p (wipeG γ vs) with
    | none => exact absurd (by simp only [lcGo, ef]) nb2
    | some γ1 =>
      have e1 : lcGo f T E (wipeG γ vs) (p :: ps.drop (i + 1)) m' = (T γ1 m').nx.bind fun b m1 => if b = true then (E γ1 m1).nx.bind (lcW (lcGo f T E (wipeG γ vs) (ps.drop (i + 1)))) else lcGo f T E (wipeG γ vs) (ps.drop (i + 1)) m1 := by
        simp only [lcGo, ef]
      rw [e1] at nb2 tot
      refine hg D' as' m' (wipe σ vs) (wipeG γ vs) γ1 H2 p x _ k2 ((ev1.nx n2).wipe vs) rp ef fun σ2 ev2 w2 l2 => ⟨(w2 vs rfl).trans (wipe_wipe σ vs), ?_⟩
      obtain ⟨b, m1, eT⟩ := nx_ok nb2
      refine ⟨D', as', γ1, m', k2, ev2, ?_⟩
      rw [eT] at nb2 tot ⊢
      intro b' D3 as3 H3 n3 k3 eb
      obtain rfl : b' = b := eb
      have nj3 := n3.notin nj (s2 _ _ hD)
      have hD3 : H3 Dl = some (.lst acc) := n3.hid Dl _ dl nj (s2 _ _ hD)
      have dl3 := n3.mono Dl dl nj
      have n13 := n2.trans k1 k2 n3
      cases b' with
      | false =>
        exact ⟨lt, ⟨D3, as3, acc, qs, m1, n13, k3, dl3, nj3, hD3, Reps.sd n3.sd (Reps.sd (.same s2) rs), Nat.le_succ_of_le lq, tot⟩⟩
      | true =>
        simp only [if_true]
        have nb3 : (E γ1 m1).nx.bind (lcW (lcGo f T E (wipeG γ vs) (ps.drop (i + 1)))) ≠ .bad := nb2
        obtain ⟨w, m2, eE⟩ := nx_ok nb3
        refine ⟨D3, as3, γ1, m1, k3, ev2.nx n3, ?_⟩
        rw [eE] at nb3 ⊢
        have tot3 : lcGo f T E (wipeG γ vs) ps μ1 = ((E γ1 m1).nx.bind (lcW (lcGo f T E (wipeG γ vs) (ps.drop (i + 1))))).bind fun r m => .ok (qs ++ r) m := tot
        rw [eE] at tot3
        cases w with
        | loc j => exact absurd rfl nb3
        | v q =>
          intro yv D4 as4 H4 n4 k4 ry
          have nj4 := n4.notin nj3 hD3
          have hD4 : H4 Dl = some (.lst acc) := n4.hid Dl _ dl3 nj3 hD3
          have dl4 := n4.mono Dl dl3 nj3
          have n14 := n13.trans k1 k3 n4
          have racc := Reps.sd n4.sd (Reps.sd n3.sd (Reps.sd (.same s2) rs))
          obtain ⟨s5, k5⟩ := k4.poke (o := .lst (acc ++ [yv])) dl4 nj4
          refine ⟨acc, hD4, ?_, lt, ⟨D4, as4, acc ++ [yv], qs ++ [q], m2, n14.poke dl4 nDl nd1, k5, dl4, nj4, upd_same, Reps.sd s5 (racc.snoc ry), ?_, ?_⟩⟩
          · rw [racc.length]
            exact Nat.lt_of_lt_of_le (Nat.lt_of_le_of_lt lq (Nat.lt_of_lt_of_le lt hl)) (by decide)
          · rw [List.length_append]
            exact Nat.succ_le_succ lq
          · rw [tot3]
            simp only [O.nx, O.bind_ok, lcW]
            rw [O.bind_assoc]
            congr 1
            funext r m
            simp
  · rintro H' ⟨_, h⟩
    obtain ⟨D', as', acc, qs, m', n', k', dl, nj, hD, rs, lq, tot⟩ := h.ex
    rw [List.drop_length] at tot
    have tot2 : lcGo f T E (wipeG γ vs) ps μ1 = .ok qs m' := by
      rw [tot]
      simp [lcGo]
    rw [tot2] at g1
    obtain ⟨s3, n3, k3⟩ := k'.free n' nj nd1
    exact g1 (.ref Dl) _ as' H' n3 k3 (show Rep _ _ _ _ from .lst (fun z => z.2 rfl) (.inl hD) (Reps.sd s3 rs))
section
variable {X : Cx} {Wx : WX}
/-- [elt for tg in iter if ..] -/
theorem pp_lc {elt tg iter : Expr} {ifs : List Expr} {scope : Scope} {own : List (Str × Nat)} {pos : Pos} {I : IF} {g : TG} {f : GF} {T : TF} {E : EF} (hc : X.calm = true) (hN : X.N.Nodup) (hi : PPI X Wx tg iter I) (ok : BlkOk X.N X.env.scope scope own)
    (hg : ∀ (s : Shared) (H : Hp) (C : Addr) (cl : List (Str × Addr)) (fp : List Addr), PG (X.blk s H scope (compEnvC scope cl C X.env) fp) tg g) (hf : AdG (some (own.map (·.2))) g f)
    (ht : ∀ (s : Shared) (H : Hp) (C : Addr) (cl : List (Str × Addr)) (fp : List Addr), PPTs (X.blk s H scope (compEnvC scope cl C X.env) fp) F0 ifs T)
    (he : ∀ (s : Shared) (H : Hp) (C : Addr) (cl : List (Str × Addr)) (fp : List Addr), PP (X.blk s H scope (compEnvC scope cl C X.env) fp) F0 elt E) (hs : ∀ x, foldedSetIterable iter X.env x = pure x := by intro _; rfl) :
    PP X Wx (.ListComp elt [⟨tg, iter, ifs, 0⟩] scope pos) (fLc I f T E (own.map (·.2))) :=
  let ⟨wi, pi, ai⟩ := hi; ⟨_, pe_lc hc hN pi ok hg (fun s H C cl fp => ht s H C cl fp) (fun s H C cl fp => (he s H C cl fp).can) hs, ad_lc ai hf⟩
end
end Pu
set_option Elab.async false
set_option linter.all false
set_option maxRecDepth 100000
set_option maxHeartbeats 4000000
namespace Pu
open L2 PySem PySem.Spec PyProof.Rows E10
/-! ### comprehensions of dicts -/
/-- a dict comprehension over anything that is walked -/
theorem dc_itP {J : It} {n : Nat} {G : Hp → Prop} {Y : Nat → Hp → V → Hp → Prop} (w : Walk J n G Y) {g : TG} {tt : TT} {tk tv : TE} {vs : List Nat} {σ : L2.St} {H1 : Hp} {D : Addr} {Qd : Hp → Prop} (Pv : Nat → Hp → Prop) (h0 : Pv 0 (upd H1 D (.dK []))) (hG : ∀ i H, i ≤ n → Pv i H → G H)
    (hs : ∀ i x H H', i < n → Pv i H → Y i H x H' → g x (wipe σ vs) H' fun σ2 H2 => wipe σ2 vs = wipe σ vs ∧ tt σ2 H2 fun b H3 =>
      if b = true then tk σ2 H3 fun y H4 => tv σ2 H4 fun z H5 => ∃ kvs k, y = kV k ∧ H5 D = some (.dK kvs) ∧ kvs.length < sizeLine ∧ Pv (i + 1) (upd H5 D (.dK (putK kvs k z))) else Pv (i + 1) H3) (hd : ∀ H, Pv n H → Qd H) :
    ∃ W : Nat → Nat → Hp → Prop, (∃ m, W 0 m (upd H1 D (.dK []))) ∧ ∀ i m H, W i m H →
      (J.stop i H ∧ Qd H) ∨ (J.go i H ∧ ∃ Nx : Hp → Prop, (∀ H', Nx H' → ∃ m', m' < m ∧ W (i + 1) m' H') ∧ ∀ x H', J.yld i H x H' → g x (wipe σ vs) H' fun σ2 H2 => wipe σ2 vs = wipe σ vs ∧ tt σ2 H2 fun b H3 =>
        if b = true then tk σ2 H3 fun y H4 => tv σ2 H4 fun z H5 => ∃ kvs k, y = kV k ∧ H5 D = some (.dK kvs) ∧ kvs.length < sizeLine ∧ Nx (upd H5 D (.dK (putK kvs k z))) else Nx H3) := by
  refine ⟨fun i m H => m = n - i ∧ i ≤ n ∧ Pv i H, ⟨n, by simp, Nat.zero_le _, h0⟩, ?_⟩
  rintro i m H ⟨rfl, hi, p⟩
  have q := hG i H hi p
  by_cases hlt : i < n
  · refine .inr ⟨w.goes i H hlt q, Pv (i + 1), fun H' p' => ⟨n - (i + 1), by omega, rfl, hlt, p'⟩, fun x H' y => hs i x H H' hlt p (w.yields i H x H' hlt q y)⟩
  · have e : i = n := by omega
    subst e
    exact .inl ⟨w.stops H q, hd H p⟩
def putP (ps : List (Key × P)) (k : Key) (p : P) : List (Key × P) := if (ps.any fun kv => decide (kv.1 = k)) = true then ps.map (fun kv => if kv.1 = k then (kv.1, p) else kv) else ps ++ [(k, p)]
theorem RepK.append {D H} : ∀ {vs ps ws qs}, RepK D H vs ps → RepK D H ws qs → RepK D H (vs ++ ws) (ps ++ qs)
  | _, _, _, _, .nil, s => s
  | _, _, _, _, .cons r t, s => .cons r (RepK.append t s)
theorem RepK.any {D H} (k : Key) : ∀ {vs ps}, RepK D H vs ps → (vs.any fun kv => decide (kv.1 = k)) = (ps.any fun kv => decide (kv.1 = k))
  | _, _, .nil => rfl
  | _, _, .cons _ t => by rw [List.any_cons, List.any_cons, RepK.any k t]
theorem RepK.map {D H} {k : Key} {v : V} {p : P} (r : Rep D H v p) : ∀ {vs ps}, RepK D H vs ps → RepK D H (vs.map fun kv => if kv.1 = k then (kv.1, v) else kv) (ps.map fun kv => if kv.1 = k then (kv.1, p) else kv)
  | _, _, .nil => .nil
  | _, _, @RepK.cons _ _ k' v' p' l m r' t => by
    rw [List.map_cons, List.map_cons]
    by_cases c : k' = k
    · simp only [c, if_true]
      exact .cons r (RepK.map r t)
    · simp only [c, if_false]
      exact .cons r' (RepK.map r t)
theorem RepK.put {D H} {k : Key} {v : V} {p : P} {vs ps} (t : RepK D H vs ps) (r : Rep D H v p) : RepK D H (putK vs k v) (putP ps k p) := by
  unfold putK putP
  rw [t.any k]
  split
  · exact t.map r
  · exact t.append (.cons r .nil)
theorem putP_len (ps : List (Key × P)) (k : Key) (p : P) : (putP ps k p).length ≤ ps.length + 1 := by
  unfold putP
  split <;> simp
/-- the rows, then what comes of them -/
def dcW (k : Key → P → Μ → O (List (Key × P))) (kp : W) : W → Μ → O (List (Key × P))
  | .v q, m => match kp with
    | .v p => match keyP p with
      | some key => k key q m
      | none => .bad
    | .loc _ => .bad
  | .loc _, _ => .bad
def dcGo (f : GF) (T : TF) (Ek Ev : EF) (γ : Γ) : List P → List (Key × P) → Μ → O (List (Key × P))
  | [], acc, m => .ok acc m
  | p :: r, acc, m => match f p γ with
    | none => .bad
    | some γ1 => (T γ1 m).nx.bind fun b m1 => if b = true then (Ek γ1 m1).nx.bind fun wk m2 => (Ev γ1 m2).nx.bind (dcW (fun key q m3 => dcGo f T Ek Ev γ r (putP acc key q) m3) wk) else dcGo f T Ek Ev γ r acc m1
def fDc (I : IF) (f : GF) (T : TF) (Ek Ev : EF) (vs : List Nat) : EF := fun γ μ => (I γ μ).bind fun ps m => (dcGo f T Ek Ev (wipeG γ vs) ps [] m).bind fun qs m => .ok (.v (.dct qs)) m
structure DcAt (D1 : Addr → Prop) (as1 : Ps) (H1 : Hp) (tot : O (List (Key × P))) (go : List P → List (Key × P) → Μ → O (List (Key × P))) (Dl : Addr) (ps : List P) (i : Nat) (H' : Hp) : Prop where
  ex : ∃ D' as' acc qs m', Nx D1 as1 H1 D' as' H' ∧ Sk D' as' H' m' ∧ D' Dl ∧ (∀ j : Nat, as'[j]? ≠ some (some Dl)) ∧ H' Dl = some (.dK acc) ∧ RepK D' H' acc qs ∧ qs.length ≤ i ∧ tot = go (ps.drop i) qs m'
theorem ad_dc {Wx : WX} {wi : TI} {g : TG} {I : IF} {f : GF} {T : TF} {Ek Ev : EF} {vs : List Nat} (hi : AdI Wx wi I) (hg : AdG (some vs) g f) : Ad Wx (tDc wi g (tT F0 T) (tE F0 Ek) (tE F0 Ev) vs) (fDc I f T Ek Ev vs) := fun D as γ μ σ H Q k ev gg => by
  refine hi D as γ μ σ H _ k ev ((G.bind RepI k gg).mono fun J H1 ⟨D1, as1, μ1, ps, n1, k1, r1, g1⟩ => ?_)
  intro Dl nDl
  obtain ⟨hl, Gd, Y, wk, stab, yl⟩ := r1
  have ev1 := ev.nx n1
  have nd1 : ¬ D1 Dl := k1.nd nDl
  obtain ⟨n0, k0, nj0⟩ := k1.hide (o := .dK []) nDl
  have nb : dcGo f T Ek Ev (wipeG γ vs) ps [] μ1 ≠ .bad := bind_nb g1.nobad
  refine dc_itP wk (fun i H' => i ≤ ps.length ∧ DcAt D1 as1 H1 (dcGo f T Ek Ev (wipeG γ vs) ps [] μ1) (dcGo f T Ek Ev (wipeG γ vs)) Dl ps i H') ⟨Nat.zero_le _, ⟨_, _, [], [], μ1, n0, k0, .inr rfl, nj0, upd_same, .nil, Nat.le_refl _, ?_⟩⟩ (fun i H' _ h => ?_) ?_ ?_
  · rw [List.drop_zero]
  · obtain ⟨D', as', acc, qs, m', n', _⟩ := h.2.ex
    exact stab D' H' n'.sdl
  · rintro i x H' H2 lt ⟨_, h⟩ y
    obtain ⟨D', as', acc, qs, m', n', k', dl, nj, hD, rs, lq, tot⟩ := h.ex
    obtain ⟨s2, p, hp, rp⟩ := yl i D' H' x H2 lt n'.sdl (fun a d => k'.dn a d) y
    have k2 : Sk D' as' H2 m' := k'.same s2
    have n2 : Nx D1 as1 H1 D' as' H2 := n'.trans k1 k' (.of_same s2)
    have hdrop : ps.drop i = p :: ps.drop (i + 1) := List.drop_eq_getElem?_toList_append.trans (by rw [hp]; rfl)
    rw [hdrop] at tot
    have nb2 : dcGo f T Ek Ev (wipeG γ vs) (p :: ps.drop (i + 1)) qs m' ≠ .bad := by
      rw [tot] at nb
      exact nb
    cases ef : f p (wipeG γ vs) with
    | none => exact absurd (by simp only [dcGo, ef]) nb2
    | some γ1 =>
      have e1 : dcGo f T Ek Ev (wipeG γ vs) (p :: ps.drop (i + 1)) qs m' = (T γ1 m').nx.bind fun b m1 => if b = true then (Ek γ1 m1).nx.bind fun wk m2 => (Ev γ1 m2).nx.bind (dcW (fun key q m3 => dcGo f T Ek Ev (wipeG γ vs) (ps.drop (i + 1)) (putP qs key q) m3) wk) else dcGo f T Ek Ev (wipeG γ vs) (ps.drop (i + 1)) qs m1 := by
        simp only [dcGo, ef]
      rw [e1] at nb2 tot
      refine hg D' as' m' (wipe σ vs) (wipeG γ vs) γ1 H2 p x _ k2 ((ev1.nx n2).wipe vs) rp ef fun σ2 ev2 w2 l2 => ⟨(w2 vs rfl).trans (wipe_wipe σ vs), ?_⟩
      obtain ⟨b, m1, eT⟩ := nx_ok nb2
      refine ⟨D', as', γ1, m', k2, ev2, ?_⟩
      rw [eT] at nb2 tot ⊢
      intro b' D3 as3 H3 n3 k3 eb
      obtain rfl : b' = b := eb
      have nj3 := n3.notin nj (s2 _ _ hD)
      have hD3 : H3 Dl = some (.dK acc) := n3.hid Dl _ dl nj (s2 _ _ hD)
      have dl3 := n3.mono Dl dl nj
      have n13 := n2.trans k1 k2 n3
      cases b' with
      | false =>
        exact ⟨lt, ⟨D3, as3, acc, qs, m1, n13, k3, dl3, nj3, hD3, RepK.sd n3.sd (RepK.sd (.same s2) rs), Nat.le_succ_of_le lq, tot⟩⟩
      | true =>
        simp only [if_true]
        have nb3 : ((Ek γ1 m1).nx.bind fun wk m2 => (Ev γ1 m2).nx.bind (dcW (fun key q m3 => dcGo f T Ek Ev (wipeG γ vs) (ps.drop (i + 1)) (putP qs key q) m3) wk)) ≠ .bad := nb2
        have tot3 : dcGo f T Ek Ev (wipeG γ vs) ps [] μ1 = (Ek γ1 m1).nx.bind fun wk m2 => (Ev γ1 m2).nx.bind (dcW (fun key q m3 => dcGo f T Ek Ev (wipeG γ vs) (ps.drop (i + 1)) (putP qs key q) m3) wk) := tot
        obtain ⟨w1, m2, eK⟩ := nx_ok nb3
        refine ⟨D3, as3, γ1, m1, k3, ev2.nx n3, ?_⟩
        rw [eK] at nb3 tot3 ⊢
        intro yk D4 as4 H4 n4 k4 ry
        have nj4 := n4.notin nj3 hD3
        have hD4 : H4 Dl = some (.dK acc) := n4.hid Dl _ dl3 nj3 hD3
        have dl4 := n4.mono Dl dl3 nj3
        have n14 := n13.trans k1 k3 n4
        have nb4 : (Ev γ1 m2).nx.bind (dcW (fun key q m3 => dcGo f T Ek Ev (wipeG γ vs) (ps.drop (i + 1)) (putP qs key q) m3) w1) ≠ .bad := nb3
        have tot4 : dcGo f T Ek Ev (wipeG γ vs) ps [] μ1 = (Ev γ1 m2).nx.bind (dcW (fun key q m3 => dcGo f T Ek Ev (wipeG γ vs) (ps.drop (i + 1)) (putP qs key q) m3) w1) := tot3
        obtain ⟨w2', m3, eV⟩ := nx_ok nb4
        refine ⟨D4, as4, γ1, m2, k4, (ev2.nx n3).nx n4, ?_⟩
        rw [eV] at nb4 tot4 ⊢
        intro yv D5 as5 H5 n5 k5 rv
        have nb5 : dcW (fun key q m3 => dcGo f T Ek Ev (wipeG γ vs) (ps.drop (i + 1)) (putP qs key q) m3) w1 w2' m3 ≠ .bad := nb4
        have tot5 : dcGo f T Ek Ev (wipeG γ vs) ps [] μ1 = dcW (fun key q m3 => dcGo f T Ek Ev (wipeG γ vs) (ps.drop (i + 1)) (putP qs key q) m3) w1 w2' m3 := tot4
        have nj5 := n5.notin nj4 hD4
        have hD5 : H5 Dl = some (.dK acc) := n5.hid Dl _ dl4 nj4 hD4
        have dl5 := n5.mono Dl dl4 nj4
        have n15 := n14.trans k1 k4 n5
        have racc := RepK.sd n5.sd (RepK.sd n4.sd (RepK.sd n3.sd (RepK.sd (.same s2) rs)))
        cases w2' with
        | loc j => exact absurd rfl nb5
        | v q =>
          cases w1 with
          | loc j => exact absurd rfl nb5
          | v pk =>
            cases ek : keyP pk with
            | none => exact absurd (by simp only [dcW, ek]) nb5
            | some key =>
              have tot6 : dcGo f T Ek Ev (wipeG γ vs) ps [] μ1 = dcGo f T Ek Ev (wipeG γ vs) (ps.drop (i + 1)) (putP qs key q) m3 := by
                rw [tot5]
                simp only [dcW, ek]
              obtain ⟨s5, k6⟩ := k5.poke (o := .dK (putK acc key yv)) dl5 nj5
              refine ⟨acc, key, keyP_ok (show Rep D4 H4 yk pk from ry) ek, hD5, ?_, lt, ⟨D5, as5, putK acc key yv, putP qs key q, m3, n15.poke dl5 nDl nd1, k6, dl5, nj5, upd_same, RepK.sd s5 (racc.put rv), ?_, tot6⟩⟩
              · rw [racc.length]
                exact Nat.lt_of_lt_of_le (Nat.lt_of_le_of_lt lq (Nat.lt_of_lt_of_le lt hl)) (by decide)
              · exact Nat.le_trans (putP_len qs key q) (Nat.succ_le_succ lq)
  · rintro H' ⟨_, h⟩
    obtain ⟨D', as', acc, qs, m', n', k', dl, nj, hD, rs, lq, tot⟩ := h.ex
    rw [List.drop_length] at tot
    have tot2 : dcGo f T Ek Ev (wipeG γ vs) ps [] μ1 = .ok qs m' := tot
    rw [tot2] at g1
    obtain ⟨s3, n3, k3⟩ := k'.free n' nj nd1
    exact g1 (.ref Dl) _ as' H' n3 k3 (show Rep _ _ _ _ from .dct (fun z => z.2 rfl) (.inl hD) (RepK.sd s3 rs))
section
variable {X : Cx} {Wx : WX}
theorem pp_dc {kx vx tg iter : Expr} {ifs : List Expr} {scope : Scope} {own : List (Str × Nat)} {pos : Pos} {I : IF} {g : TG} {f : GF} {T : TF} {Ek Ev : EF} (hc : X.calm = true) (hN : X.N.Nodup) (hi : PPI X Wx tg iter I) (ok : BlkOk X.N X.env.scope scope own)
    (hg : ∀ (s : Shared) (H : Hp) (C : Addr) (cl : List (Str × Addr)) (fp : List Addr), PG (X.blk s H scope (compEnvC scope cl C X.env) fp) tg g) (hf : AdG (some (own.map (·.2))) g f)
    (ht : ∀ (s : Shared) (H : Hp) (C : Addr) (cl : List (Str × Addr)) (fp : List Addr), PPTs (X.blk s H scope (compEnvC scope cl C X.env) fp) F0 ifs T)
    (hk : ∀ (s : Shared) (H : Hp) (C : Addr) (cl : List (Str × Addr)) (fp : List Addr), PP (X.blk s H scope (compEnvC scope cl C X.env) fp) F0 kx Ek)
    (he : ∀ (s : Shared) (H : Hp) (C : Addr) (cl : List (Str × Addr)) (fp : List Addr), PP (X.blk s H scope (compEnvC scope cl C X.env) fp) F0 vx Ev) (hs : ∀ x, foldedSetIterable iter X.env x = pure x := by intro _; rfl) :
    PP X Wx (.DictComp kx vx [⟨tg, iter, ifs, 0⟩] scope pos) (fDc I f T Ek Ev (own.map (·.2))) :=
  let ⟨wi, pi, ai⟩ := hi; ⟨_, pe_dc hc hN pi ok hg (fun s H C cl fp => ht s H C cl fp) (fun s H C cl fp => (hk s H C cl fp).can) (fun s H C cl fp => (he s H C cl fp).can) hs, ad_dc ai hf⟩
end
end Pu
set_option Elab.async false
set_option linter.all false
set_option maxRecDepth 100000
set_option maxHeartbeats 4000000
namespace Pu
open L2 PySem PySem.Spec PyProof.Rows E10
/-! ### for -/
def forGo (f : GF) (B : SF) : List P → Γ → Μ → OS
  | [], γ, m => .nx γ m
  | p :: r, γ, m => match f p γ with
    | none => .bad
    | some γ1 => match B γ1 m with
      | .nx γ2 m2 => forGo f B r γ2 m2
      | .ct γ2 m2 => forGo f B r γ2 m2
      | .bk γ2 m2 => .nx γ2 m2
      | o => o
def sFor (I : IF) (f : GF) (B : SF) : SF := fun γ μ => (I γ μ).s γ fun ps m => forGo f B ps γ m
def tS (Wx : WX) (S : SF) : TS := fun E σ H => ∃ D as γ μ, Sk D as H μ ∧ EnvR D as H σ γ ∧ GS Wx D as H σ.length (S γ μ) E
theorem PPSs.can {X : Cx} {Wx : WX} {sts : List Stmt} {S : SF} (h : PPSs X Wx sts S) : PSs X sts (tS Wx S) := let ⟨_, p, ad⟩ := h; ⟨fun pins s σ H E I ⟨D, as, γ, μ, k, ev, g⟩ => p.run pins s σ H E I (ad D as γ μ σ H E k ev g)⟩
theorem ad_for {Wx : WX} {wi : TI} {g : TG} {I : IF} {f : GF} {B : SF} {tb : TS} (hi : AdI Wx wi I) (hg : AdG none g f) (hb : AdS Wx tb B) : AdS Wx (tFor wi g tb) (sFor I f B) := fun D as γ μ σ H E k ev gg => by
  refine hi D as γ μ σ H _ k ev ((GS.of_s (R := RepI) k ev gg).mono fun J H1 ⟨D1, as1, μ1, ps, n1, k1, ev1, r1, g1⟩ => ?_)
  obtain ⟨hl, Gd, Y, wk, stab, yl⟩ := r1
  refine for_it wk (fun i σ' H' => ∃ D' as' γ' m', Nx D1 as1 H1 D' as' H' ∧ Sk D' as' H' m' ∧ EnvR D' as' H' σ' γ' ∧ σ'.length = σ.length ∧ GS Wx D' as' H' σ.length (forGo f B (ps.drop i) γ' m') E) ⟨D1, as1, γ, μ1, .refl, k1, ev1, rfl, by rw [List.drop_zero]; exact g1⟩ (fun i σ' H' _ h => ?_) ?_ ?_
  · obtain ⟨D', as', γ', m', n', _⟩ := h
    exact stab D' H' n'.sdl
  · rintro i x σ' H' H2 lt ⟨D', as', γ', m', n', k', ev', l', g'⟩ y
    obtain ⟨s2, p, hp, rp⟩ := yl i D' H' x H2 lt n'.sdl (fun a d => k'.dn a d) y
    have k2 : Sk D' as' H2 m' := k'.same s2
    have n02 : Nx D' as' H' D' as' H2 := .of_same s2
    have n2 : Nx D1 as1 H1 D' as' H2 := n'.trans k1 k' n02
    have hdrop : ps.drop i = p :: ps.drop (i + 1) := List.drop_eq_getElem?_toList_append.trans (by rw [hp]; rfl)
    rw [hdrop] at g'
    cases ef : f p γ' with
    | none =>
      simp only [forGo, ef] at g'
      exact g'.elim
    | some γ1 =>
      simp only [forGo, ef] at g'
      refine hg D' as' m' σ' γ' γ1 H2 p x _ k2 (ev'.nx n02) rp ef fun σ2 ev2 _ l2 => ?_
      refine hb D' as' γ1 m' σ2 H2 _ k2 ev2 ?_
      have l3 : σ2.length = σ.length := l2.trans l'
      rw [l3]
      have up : ∀ {o}, GS Wx D' as' H' σ.length o E → GS Wx D' as' H2 σ.length o E := fun {o} z => GS.nx' k' k2 n02 z
      cases eB : B γ1 m' with
      | nx γ2 m2 =>
        rw [eB] at g'
        exact fun σ3 D3 as3 H3 n3 k3 ev3 l => ⟨D3, as3, γ2, m2, n2.trans k1 k2 n3, k3, ev3, l, GS.nx' k2 k3 n3 (up g')⟩
      | ct γ2 m2 =>
        rw [eB] at g'
        exact fun σ3 D3 as3 H3 n3 k3 ev3 l => ⟨D3, as3, γ2, m2, n2.trans k1 k2 n3, k3, ev3, l, GS.nx' k2 k3 n3 (up g')⟩
      | bk γ2 m2 => rw [eB] at g'; exact up g'
      | ret w m2 => rw [eB] at g'; exact up g'
      | exc C fs γ2 m2 => rw [eB] at g'; exact up g'
      | bad => rw [eB] at g'; exact g'.elim
  · rintro σ' H' ⟨D', as', γ', m', n', k', ev', l', g'⟩
    rw [List.drop_length] at g'
    exact g' σ' D' as' H' .refl k' ev' l'
section
variable {X : Cx} {Wx : WX}
theorem ppq_for {tg iter : Expr} {body : List Stmt} {pos : Pos} {I : IF} {g : TG} {f : GF} {B : SF} (hp : PassesOwn (model X.prog X.w) X.A X.env X.xe) (hc : X.calm = true) (hi : PPI X Wx tg iter I) (hg : PG X tg g) (hf : AdG none g f) (hb : PPSs X Wx body B)
    (hs : ∀ x, foldedSetIterable iter X.env x = pure x := by intro _; rfl) : PPS X Wx (.For tg iter body [] pos) (sFor I f B) :=
  let ⟨_, pi, ai⟩ := hi; let ⟨_, pb, ab⟩ := hb; ⟨_, ps_for hp hc pi hg pb hs, ad_for ai hf ab⟩
end
/-! ### while -/
end Pu
set_option Elab.async false
set_option linter.all false
set_option maxRecDepth 100000
set_option maxHeartbeats 4000000
namespace Pu
open L2 PySem PySem.Spec PyProof.Rows E10
/-! ### what changes -/
section
variable {D : Addr → Prop} {as : Ps} {H : Hp} {μ : Μ}
theorem cell_set {j : Nat} {a : Addr} {o u : HO} {c : PC} (k : Sk D as H μ) (e : as[j]? = some (some a)) (nf : ∀ x y, H a ≠ some (.frz x y)) (h : ∀ D' H', Sd D H D' H' → H' a = some o → CellOk D' H' a c) : Nx D as H D as (upd H a o) ∧ Sk D as (upd H a o) (μ.set j c) := by
  have da := k.inD j a e
  have ne : ∀ b, ¬ D b → b ≠ a := fun b n z => n (z ▸ da)
  have n : Nx D as H D as (upd H a o) := by
    refine ⟨fun _ _ h => .inl h, fun b x h => ?_, fun _ h _ => h, fun _ h => .inl h, fun _ _ h => .inl h, fun b x db nb e' => ?_, fun b x n r => ?_, fun b x n e' _ => (upd_ne (ne b n)).trans e', fun b x y e' => ?_⟩
    · by_cases z : b = a
      · subst z; exact ⟨o, upd_same⟩
      · exact ⟨x, (upd_ne z).trans h⟩
    · rw [upd_ne (fun z : b = a => nb j (z ▸ e))]
      exact e'
    · rcases r with r | ⟨y, r⟩
      · exact .inl ((upd_ne (ne b n)).trans r)
      · exact .inr ⟨y, (upd_ne (ne b n)).trans r⟩
    · rw [upd_ne (fun z : b = a => by rw [z] at e'; exact nf x y e')]
      exact e'
  refine ⟨n, by rw [List.length_set]; exact k.len, fun b d => ?_, k.inD, k.inj, fun i b e' => ?_, fun i e' => ?_⟩
  · by_cases z : b = a
    · subst z
      exact ⟨o, upd_same⟩
    · rw [upd_ne z]
      exact k.dn b d
  · by_cases z : i = j
    · subst z
      rw [e] at e'
      cases e'
      have lt : i < μ.length := by
        rw [← k.len]
        exact (List.getElem?_eq_some_iff.mp e).1
      exact ⟨c, List.getElem?_set_self lt, h D _ n.sd upd_same⟩
    · obtain ⟨c', q, x⟩ := k.ok i b e'
      have nab : b ≠ a := fun w => z (k.inj i j b e' (w ▸ e))
      exact ⟨c', by rw [List.getElem?_set_ne (Ne.symm z)]; exact q, x.sd n.sd (upd_ne nab)⟩
  · rw [List.getElem?_set_ne (fun z : j = i => by rw [← z, e] at e'; cases e')]
    exact k.dead i e'
theorem nofz {H : Hp} {a : Addr} {o : HO} (h : H a = some o) (n : ∀ x y, o ≠ .frz x y) : ∀ x y, H a ≠ some (.frz x y) := fun x y e => n x y (Option.some.inj (h.symm.trans e))
end
def wL (μ : Μ) : W → Option (Nat × List P)
  | .loc j => match μ[j]? with
    | some (.lst ps) => some (j, ps)
    | _ => none
  | _ => none
def wD (μ : Μ) : W → Option (Nat × List (Key × P))
  | .loc j => match μ[j]? with
    | some (.dct ps) => some (j, ps)
    | _ => none
  | _ => none
def wI (μ : Μ) : W → Option (Nat × Addr × List (Str × P))
  | .loc j => match μ[j]? with
    | some (.ins C ps) => some (j, C, ps)
    | _ => none
  | _ => none
section
variable {D : Addr → Prop} {as : Ps} {H : Hp} {μ : Μ} {v : V} {w : W}
theorem wL_ok {j : Nat} {ps : List P} (k : Sk D as H μ) (r : RepW D as H v w) (h : wL μ w = some (j, ps)) : ∃ a xs, v = .ref a ∧ as[j]? = some (some a) ∧ H a = some (.lst xs) ∧ Reps D H xs ps := by
  unfold wL at h
  split at h
  · split at h
    · rename_i q
      cases h
      obtain ⟨a, e, rfl, x⟩ := r.adr k q (by simp)
      obtain ⟨xs, hx, rs⟩ := x
      exact ⟨a, xs, rfl, e, hx, rs⟩
    · cases h
  · cases h
theorem wD_ok {j : Nat} {ps : List (Key × P)} (k : Sk D as H μ) (r : RepW D as H v w) (h : wD μ w = some (j, ps)) : ∃ a xs, v = .ref a ∧ as[j]? = some (some a) ∧ H a = some (.dK xs) ∧ RepK D H xs ps := by
  unfold wD at h
  split at h
  · split at h
    · rename_i q
      cases h
      obtain ⟨a, e, rfl, x⟩ := r.adr k q (by simp)
      obtain ⟨xs, hx, rs⟩ := x
      exact ⟨a, xs, rfl, e, hx, rs⟩
    · cases h
  · cases h
theorem wI_ok {j : Nat} {C : Addr} {ps : List (Str × P)} (k : Sk D as H μ) (r : RepW D as H v w) (h : wI μ w = some (j, C, ps)) : ∃ a dx xs, v = .ref a ∧ as[j]? = some (some a) ∧ H a = some (.ins C dx xs) ∧ RepS D H xs ps := by
  unfold wI at h
  split at h
  · split at h
    · rename_i q
      cases h
      obtain ⟨a, e, rfl, x⟩ := r.adr k q (by simp)
      obtain ⟨dx, xs, hx, rs⟩ := x
      exact ⟨a, dx, xs, rfl, e, hx, rs⟩
    · cases h
  · cases h
end
/-! ### methods of the built-in -/
def AdM (Wx : WX) (r : V → List V → Hp → VK → Prop) (f : W → List W → Μ → O W) : Prop := ∀ D as μ σ H x w vs ws Q, Sk D as H μ → RepW D as H x w → RepWs D as H vs ws → G Wx σ RepW D as H (f w ws μ) Q → r x vs H Q
def isTy (T : String) (μ : Μ) (w : W) : Bool := match w with
  | .v (.str _) => T == "str"
  | w => (T == "list" && (rdL μ w).isSome) || (T == "dict" && (wD μ w).isSome)
theorem isTy_ok {K : PySem.W.Frag} {D as H} {μ : Μ} {v : V} {w : W} {T : String} (k : Sk D as H μ) (r : RepW D as H v w) (h : isTy T μ w = true) : tyV K T v H := by
  unfold isTy at h
  split at h
  · obtain rfl := rep_str r
    exact beq_iff_eq.mp h
  · rcases Bool.or_eq_true_iff.mp h with h | h
    · obtain ⟨h1, h2⟩ := Bool.and_eq_true_iff.mp h
      obtain ⟨ps, e⟩ := Option.isSome_iff_exists.mp h2
      obtain ⟨a, xs, rfl, hr, _⟩ := rdL_ok k r e
      exact .inl ⟨beq_iff_eq.mp h1, xs, .inl hr⟩
    · obtain ⟨h1, h2⟩ := Bool.and_eq_true_iff.mp h
      obtain ⟨ps, e⟩ := Option.isSome_iff_exists.mp h2
      obtain ⟨a, xs, rfl, _, hr, _⟩ := wD_ok k r e
      exact .inr (.inr (.inl ⟨beq_iff_eq.mp h1, .inl ⟨xs, hr⟩⟩))
def fBM (T : String) (f : W → List W → Μ → O W) (F : EF) (A : AF) : EF := fun γ μ => (F γ μ).bind fun w m => if isTy T m w = true then (A γ m).bind fun ws m => f w ws m else .bad
theorem ad_bm {Wx : WX} {K : PySem.W.Frag} {T : String} {r} {f} {to : TE} {t : TA} {F : EF} {A : AF} (h : AdM Wx r f) (ho : Ad Wx to F) (ha : AdA Wx t A) : Ad Wx (tBM K T r to t) (fBM T f F A) := fun D as γ μ σ H Q k ev g => by
  refine ho D as γ μ σ H _ k ev ((G.bind RepW k g).mono fun x H1 ⟨D1, as1, μ1, w, n1, k1, r1, g1⟩ => ?_)
  split at g1
  · rename_i ty
    refine ⟨isTy_ok k1 r1 ty, ha D1 as1 γ μ1 σ H1 _ k1 (ev.nx n1) ((G.bind RepWs k1 g1).mono fun xs H2 ⟨D2, as2, μ2, ws, n2, k2, r2, g2⟩ => ?_)⟩
    exact h D2 as2 μ2 σ H2 x w xs ws Q k2 (r1.nx n2) r2 g2
  · exact g1.elim
theorem ad_bm0 {Wx : WX} {K : PySem.W.Frag} {T : String} {r} {f} {to : TE} {F : EF} (h : AdM Wx r f) (ho : Ad Wx to F) : Ad Wx (tBM0 K T r to) (fBM T f F fNil) := fun D as γ μ σ H Q k ev g => by
  refine ho D as γ μ σ H _ k ev ((G.bind RepW k g).mono fun x H1 ⟨D1, as1, μ1, w, n1, k1, r1, g1⟩ => ?_)
  split at g1
  · rename_i ty
    exact ⟨isTy_ok k1 r1 ty, h D1 as1 μ1 σ H1 x w [] [] Q k1 r1 .nil g1⟩
  · exact g1.elim
section
variable {X : Cx} {Wx : WX} {o e a b value : Expr} {es : List Expr} {F F1 F2 F3 : EF} {A : AF} {name : Str} {apos cpos pos pos' : Pos} {T id : String} {r : V → List V → Hp → VK → Prop} {f : W → List W → Μ → O W}
theorem pp_bm (pa : PlainAttrs T) (slot : Slot T name id) (hty : typeOf (.builtin id) = pure (.type "method_descriptor")) (hm : MtR X id r) (h : AdM Wx r f) (ho : PP X Wx o F) (ha : PPA X Wx (e :: es) A)
    (hbase : attributeBase o name X.env (eval o X.env) = eval o X.env := by rfl)
    (hfew : ((backTo cpos (starEach (e :: es) X.env)).all (fun x => !x.1) && (backToKw cpos (keywordEach [] X.env)).all (fun x => x.1.isSome)
      && decide ((e :: es).length + ([] : List Keyword).length + (if ([] : List Keyword).isEmpty then 0 else 1) < 30)) = true := by rfl)
    (hline : (apos.endLine == cpos.line) = true := by rfl) (hs : starEach (e :: es) X.env = (false, eval e X.env) :: starEach es X.env := by rfl) (hplain : (backTo cpos (starEach es X.env)).any (·.1) = false := by rfl) :
    PP X Wx (.Call (.Attribute o name apos) (e :: es) [] cpos) (fBM T f F A) := let ⟨_, po, ao⟩ := ho; let ⟨_, p, aa⟩ := ha; ⟨_, pe_bm pa slot hty hm po p hbase hfew hline hs hplain, ad_bm h ao aa⟩
theorem pp_bm0 (pa : PlainAttrs T) (slot : Slot T name id) (hty : typeOf (.builtin id) = pure (.type "method_descriptor")) (hm : MtR X id r) (h : AdM Wx r f) (ho : PP X Wx o F)
    (hbase : attributeBase o name X.env (eval o X.env) = eval o X.env := by rfl) (hline : (apos.endLine == cpos.line) = true := by rfl) : PP X Wx (.Call (.Attribute o name apos) [] [] cpos) (fBM T f F fNil) :=
  let ⟨_, po, ao⟩ := ho; ⟨_, pe_bm0 pa slot hty hm po hbase hline, ad_bm0 h ao⟩
/-- xs.append(p) -/
def mAppend : W → List W → Μ → O W := fun w ws μ => match wL μ w, ws with
  | some (j, ps), [.v p] => if ps.length < 100000 then .ok (.v .non) (μ.set j (.lst (ps ++ [p]))) else .bad
  | _, _ => .bad
theorem am_append : AdM Wx rAppend mAppend := fun D as μ σ H x w vs ws Q k rx rv g => by
  unfold mAppend at g
  split at g
  · rename_i j ps p e
    split at g
    · rename_i hl
      obtain ⟨a, xs, rfl, ea, ha, rs⟩ := wL_ok k rx e
      obtain ⟨v, rfl, rp⟩ := repWs1 rv
      refine ⟨a, xs, v, rfl, rfl, ha, ?_, ?_⟩
      · rw [rs.length]
        exact Nat.lt_of_lt_of_le hl (by decide)
      · obtain ⟨n, k'⟩ := cell_set (o := .lst (xs ++ [v])) (u := .lst []) (c := .lst (ps ++ [p])) k ea (nofz (by assumption) (fun _ _ z => by cases z)) fun D' H' s e' => ⟨_, e', (Reps.sd s rs).snoc (Rep.sd s rp)⟩
        exact g .non D as _ n k' (show Rep _ _ _ _ from .non)
    · exact g.elim
  · exact g.elim
/-- xs[i] = p -/
def sLPutP (Fv Fl Fi : EF) : SF := fun γ μ => (Fv γ μ).s γ fun wv m => (Fl γ m).s γ fun wl m => (Fi γ m).s γ fun wi m => match wL m wl, wi, wv with
  | some (j, ps), .v (.int i), .v p => match ixN ps.length i with
    | some n => .nx γ (m.set j (.lst (ps.set n p)))
    | none => .bad
  | _, _, _ => .bad
theorem ad_lput {tl ti tv : TE} (hv : Ad Wx tv F1) (hl : Ad Wx tl F2) (hi : Ad Wx ti F3) : AdS Wx (tAsg tv (gSub tl ti rSetL)) (sLPutP F1 F2 F3) := fun D as γ μ σ H E k ev g => by
  refine hv D as γ μ σ H _ k ev ((GS.of_s (R := RepW) k ev g).mono fun v H1 ⟨D1, as1, μ1, wv, n1, k1, ev1, r1, g1⟩ => ?_)
  refine hl D1 as1 γ μ1 σ H1 _ k1 ev1 ((GS.of_s (R := RepW) k1 ev1 g1).mono fun x H2 ⟨D2, as2, μ2, wd, n2, k2, ev2, r2, g2⟩ => ?_)
  refine hi D2 as2 γ μ2 σ H2 _ k2 ev2 ((GS.of_s (R := RepW) k2 ev2 g2).mono fun y H3 ⟨D3, as3, μ3, wk, n3, k3, ev3, r3, g3⟩ => ?_)
  generalize e : wL μ3 wd = od at g3
  match od, wk, wv, e, r3, r1, g3 with
  | some (j, ps), .v (.int i), .v p, e, r3, r1, g3 =>
    simp only at g3
    split at g3
    · rename_i n en
      obtain ⟨a, xs, rfl, ea, ha, rs⟩ := wL_ok k3 (r2.nx n3) e
      have rp : Rep D3 H3 v p := (r1.nx n2).nx n3
      refine ⟨a, xs, i, n, rfl, rep_int r3, ha, by rw [rs.length]; exact en, ?_⟩
      obtain ⟨n', k'⟩ := cell_set (o := .lst (xs.set n v)) (u := .lst []) (c := .lst (ps.set n p)) k3 ea (nofz (by assumption) (fun _ _ z => by cases z)) fun D' H' s e' => ⟨_, e', (Reps.sd s rs).set (Rep.sd s rp) n⟩
      exact g3 σ D3 as3 _ n' k' (ev3.nx n') rfl
    · exact g3.elim
  | none, _, _, _, _, _, g3 => exact g3.elim
  | some _, .loc _, _, _, _, _, g3 => exact g3.elim
  | some _, .v .non, _, _, _, _, g3 | some _, .v (.bl _), _, _, _, _, g3 | some _, .v (.str _), _, _, _, _, g3 | some _, .v (.ref _), _, _, _, _, g3 | some _, .v (.ty _), _, _, _, _, g3 | some _, .v (.tup _), _, _, _, _, g3 | some _, .v (.lst _), _, _, _, _, g3 | some _, .v (.dct _), _, _, _, _, g3 | some _, .v (.ins _ _), _, _, _, _, g3 | some _, .v (.set _ _), _, _, _, _, g3 => exact g3.elim
  | some _, .v (.int _), .loc _, _, _, _, g3 => exact g3.elim
theorem ppq_lput (hv : PP X Wx value F1) (hl : PP X Wx a F2) (hi : PP X Wx b F3) (hs : swapsWithSole [.Subscript a b pos'] value pos.line X.env = pure false := by rfl) (hw : swappedStores [.Subscript a b pos'] value X.env = pure none := by rfl)
    (h1 : (assignEach [.Subscript a b pos'] X.env).map (·.2) = [assign (.Subscript a b pos') X.env] := by rfl)
    (ha : ∀ v, assign (.Subscript a b pos') X.env v = (do
      let ov ← holding [v] (eval a X.env)
      let iv ← holding [v, ov] (eval b X.env)
      standAt pos'
      holding [v, ov, iv] (setItem ov iv v)
      release [v, ov, iv] []) := by intro _; rfl) : PPS X Wx (.Assign [.Subscript a b pos'] value pos) (sLPutP F1 F2 F3) :=
  let ⟨_, p1, a1⟩ := hv; let ⟨_, p2, a2⟩ := hl; let ⟨_, p3, a3⟩ := hi; ⟨_, ps_asg p1 (pg_sub p2 p3 set_list ha) hs hw h1, ad_lput a1 a2 a3⟩
/-- a, b = .. -/
def sAsgP (F : EF) (f : GF) : SF := fun γ μ => (F γ μ).s γ fun w m => match w with
  | .v p => match f p γ with
    | some γ' => .nx γ' m
    | none => .bad
  | .loc _ => .bad
/-- a, b = x, y: two names -/
def sPar (i j : Nat) (A : AF) : SF := fun γ μ => (A γ μ).s γ fun ws m => match ws with
  | [v, w] => .nx ((γ.set i (some v)).set j (some w)) m
  | _ => .bad
theorem ad_par {i j : Nat} {ta : TA} (h : AdA Wx ta A) : AdS Wx (tPar i j ta) (sPar i j A) := fun D as γ μ σ H E k ev gg => by
  refine h D as γ μ σ H _ k ev ((GS.of_s (R := RepWs) k ev gg).mono fun xs H1 ⟨D1, as1, μ1, ws, n1, k1, ev1, r1, g1⟩ => ?_)
  split at g1
  · obtain ⟨v, w, rfl, rv, rw'⟩ := repWs2 r1
    exact ⟨v, w, rfl, g1 _ D1 as1 H1 .refl k1 ((ev1.set rv).set rw') (by rw [List.length_set, List.length_set])⟩
  · exact g1.elim
theorem ppq_par {i j : Nat} {x y : Str} {a b : Expr} {px py pt : Pos} {kt k2 pt2} (hc : X.calm = true) (hN : X.N.Nodup) (hi : X.N[i]? = some x) (hj : X.N[j]? = some y) (hij : i ≠ j)
    (hx : X.env.scope.names.lookup x = some .local) (hy : X.env.scope.names.lookup y = some .local) (ha : PPA X Wx [a, b] A)
    (hw : swappedStores [.Tuple [.Name x px, .Name y py] kt pt] (.Tuple [a, b] k2 pt2) X.env = pure (some [x, y]))
    (hs : swapsWithSole [.Tuple [.Name x px, .Name y py] kt pt] (.Tuple [a, b] k2 pt2) pos.line X.env = pure false := by rfl) :
    PPS X Wx (.Assign [.Tuple [.Name x px, .Name y py] kt pt] (.Tuple [a, b] k2 pt2) pos) (sPar i j A) := let ⟨_, p, ad⟩ := ha; ⟨_, ps_par hc hN hi hj hij hx hy p hw hs, ad_par ad⟩
end
end Pu
set_option Elab.async false
set_option linter.all false
set_option maxRecDepth 100000
set_option maxHeartbeats 4000000
namespace Pu
open L2 PySem PySem.Spec PyProof.Rows E10
/-! ### the last place, let go as a value -/
def fFrz (F : EF) : EF := fun γ μ => (F γ μ).bind fun w m => match w with
  | .v p => .ok (.v p) m
  | .loc j => if j + 1 = m.length ∧ μ.length ≤ j then match (m[j]?).bind PC.p with
      | some p => .ok (.v p) (m.take j)
      | none => .bad
    else .bad
section
variable {D D' : Addr → Prop} {as as' : Ps} {H H' : Hp} {μ m : Μ}
theorem frz_last (k : Sk D as H μ) (k' : Sk D' as' H' m) (n : Nx D as H D' as' H') {j : Nat} {a : Addr} {c : PC} {p : P} (hj : j + 1 = m.length) (hl : μ.length ≤ j) (e : as'[j]? = some (some a)) (q : m[j]? = some c) (hp : c.p = some p) :
    ∃ D2 as2, Nx D as H D2 as2 H' ∧ Sk D2 as2 H' (m.take j) ∧ Rep D2 H' (.ref a) p := by
  have lj : j < m.length := by omega
  have at' : ∀ {i : Nat} {b : Addr}, (as'.take j)[i]? = some (some b) → i < j ∧ as'[i]? = some (some b) := fun {i b} z => by
    by_cases lt : i < j
    · rw [List.getElem?_take_of_lt lt] at z
      exact ⟨lt, z⟩
    · rw [List.getElem?_eq_none (by rw [List.length_take]; omega)] at z
      cases z
  have pre : ∀ (i : Nat) (x : Option Addr), as[i]? = some x → (as'.take j)[i]? = some x ∨ (as'.take j)[i]? = some none := fun i x e => by
    have := (List.getElem?_eq_some_iff.mp e).1
    rw [List.getElem?_take_of_lt (by rw [k.len] at this; omega)]
    exact n.pre i x e
  have s : Sd D' H' (lessD D' a) H' := ⟨fun b u nb _ z => nb z.1, fun _ _ _ r => r, fun _ _ _ e _ => e⟩
  have na : H a = none := by
    rcases n.fresh j a e with z | z
    · have lt := (List.getElem?_eq_some_iff.mp z).1
      rw [k.len] at lt
      omega
    · exact z
  refine ⟨lessD D' a, as'.take j, ⟨pre, n.ex, fun b d v => ⟨n.mono b d v, fun z => k.nd na (z ▸ d)⟩, fun b z => n.new b z.1, fun i b z => n.fresh i b (at' z).2, n.hid, n.rd, n.sol, n.lck⟩, ⟨?_, fun b z => k'.dn b z.1, fun i b z => ⟨k'.inD i b (at' z).2, fun w => ?_⟩, fun i i' b z y => k'.inj i i' b (at' z).2 (at' y).2, fun i b z => ?_, fun i z => ?_⟩, ?_⟩
  · rw [List.length_take, List.length_take, k'.len]
  · have := k'.inj i j b (at' z).2 (w ▸ e)
    have := (at' z).1
    omega
  · obtain ⟨d, r, x⟩ := k'.ok i b (at' z).2
    exact ⟨d, by rw [List.getElem?_take_of_lt (at' z).1]; exact r, x.sd s rfl⟩
  · obtain ⟨l, z⟩ := take_get z
    rw [List.getElem?_take_of_lt l]
    exact k'.dead i z
  · obtain ⟨c', q', x⟩ := k'.ok j a e
    rw [q] at q'
    cases q'
    cases c with
    | lst ps =>
      cases hp
      obtain ⟨xs, h, r⟩ := x
      exact .lst (fun z => z.2 rfl) (.inl h) (Reps.sd s r)
    | dct ps =>
      cases hp
      obtain ⟨xs, h, r⟩ := x
      exact .dct (fun z => z.2 rfl) (.inl h) (RepK.sd s r)
    | ins C ps =>
      cases hp
      obtain ⟨dx, xs, h, r⟩ := x
      exact .ins (fun z => z.2 rfl) h (RepS.sd s r)
    | dead => cases hp
    | lstL ps =>
      cases hp
      obtain ⟨od, xs, h, r⟩ := x
      exact .lst (fun z => z.2 rfl) (.inr ⟨od, h⟩) (Reps.sd s r)
    | dctL ps =>
      cases hp
      obtain ⟨od, xs, h, r⟩ := x
      exact .dct (fun z => z.2 rfl) (.inr ⟨od, h⟩) (RepK.sd s r)
theorem ad_frzL {Wx : WX} {te : TE} {F : EF} (h : Ad Wx te F) : Ad Wx te (fFrz F) := fun D as γ μ σ H Q k ev g => by
  refine h D as γ μ σ H Q k ev ?_
  unfold fFrz at g
  cases o : F γ μ with
  | bad => rw [o] at g; exact g
  | exc C fs m => rw [o] at g; exact g
  | ok w m =>
    rw [o] at g
    simp only [O.bind_ok] at g
    cases w with
    | v p => exact g
    | loc j =>
      intro x D' as' H' n k' r
      simp only at g
      split at g
      · rename_i hc
        split at g
        · rename_i p hp
          obtain ⟨c, q, ep⟩ := Option.bind_eq_some_iff.mp hp
          obtain ⟨a, e, rfl, _⟩ := r.adr k' q (fun z => by rw [z] at ep; cases ep)
          obtain ⟨D2, as2, n2, k2, r2⟩ := frz_last k k' n hc.1 hc.2 e q ep
          exact g (.ref a) D2 as2 H' n2 k2 r2
        · exact g.elim
      · exact g.elim
theorem pp_frz {X : Cx} {Wx : WX} {e : Expr} {F : EF} (h : PP X Wx e F) : PP X Wx e (fFrz F) := let ⟨_, p, ad⟩ := h; ⟨_, p, ad_frzL ad⟩
end
/-! ### attributes -/
def fFld (C : Addr) (f : Str) (F : EF) : EF := fun γ μ => (F γ μ).bind fun w m => match rdI m w with
  | some (C', ps) => if C' = C then match ps.lookup f with
      | some p => .ok (.v p) m
      | none => .bad
    else .bad
  | none => .bad
def putFP (f : Str) (p : P) : List (Str × P) → List (Str × P)
  | [] => [(f, p)]
  | (g, x) :: r => if g = f then (g, p) :: r else (g, x) :: putFP f p r
theorem RepS.put {D H} {f : Str} {v : V} {p : P} (r : Rep D H v p) : ∀ {vs ps}, RepS D H vs ps → RepS D H (putF f v vs) (putFP f p ps)
  | _, _, .nil => .cons r .nil
  | _, _, @RepS.cons _ _ g x q l m r' t => by
    unfold putF putFP
    by_cases c : g = f
    · simp only [c, if_true]
      exact .cons r t
    · simp only [c, if_false]
      exact .cons r' (RepS.put r t)
def sFldP (C : Addr) (f : Str) (Fo Fv : EF) : SF := fun γ μ => (Fv γ μ).s γ fun wv m => (Fo γ m).s γ fun wo m => match wI m wo with
  | some (j, C', ps) => match wv with
    | .v p => if C' = C ∧ ps.length < 900 then .nx γ (m.set j (.ins C' (putFP f p ps))) else .bad
    | .loc _ => .bad
  | none => .bad
section
variable {X : Cx} {Wx : WX} {o e value : Expr} {es : List Expr} {F F1 F2 : EF} {A : AF} {f : Str} {pos pos' apos : Pos} {C : Addr} {k : Nat}
theorem ad_fld {K : PySem.W.Frag} {ta : TE} (c : Cls K C) (na : NoAttr K C f) (h : Ad Wx ta F) : Ad Wx (tFld K ta f) (fFld C f F) := fun D as γ μ σ H Q k ev g => by
  refine h D as γ μ σ H _ k ev ((G.bind RepW k g).mono fun x H1 ⟨D1, as1, μ1, w, n1, k1, r1, g1⟩ => ?_)
  split at g1
  · rename_i C' ps e
    split at g1
    · rename_i hC
      subst hC
      split at g1
      · rename_i p hp
        obtain ⟨a, dx, xs, rfl, ha, rs⟩ := rdI_ok k1 r1 e
        obtain ⟨v, hv, rv⟩ := rs.lookup hp
        exact ⟨a, C', dx, xs, v, rfl, ha, c, na, hv, nowV k1 g1 rv⟩
      · exact g1.elim
    · exact g1.elim
  · exact g1.elim
theorem pp_fld (c : Cls X.K C) (na : NoAttr X.K C f) (h : PP X Wx e F) (hb : attributeBase e f X.env (eval e X.env) = eval e X.env := by rfl) : PP X Wx (.Attribute e f pos) (fFld C f F) := let ⟨_, p, ad⟩ := h; ⟨_, pe_fld p hb, ad_fld c na ad⟩
theorem ad_sfld {K : PySem.W.Frag} {ta tv : TE} (c : Cls K C) (na : NoAttr K C f) (ho : Ad Wx ta F1) (hv : Ad Wx tv F2) : AdS Wx (sFld K ta tv f) (sFldP C f F1 F2) := fun D as γ μ σ H E k ev g => by
  refine hv D as γ μ σ H _ k ev ((GS.of_s (R := RepW) k ev g).mono fun v H1 ⟨D1, as1, μ1, wv, n1, k1, ev1, r1, g1⟩ => ?_)
  refine ho D1 as1 γ μ1 σ H1 _ k1 ev1 ((GS.of_s (R := RepW) k1 ev1 g1).mono fun x H2 ⟨D2, as2, μ2, wo, n2, k2, ev2, r2, g2⟩ => ?_)
  split at g2
  · rename_i j C' ps e
    cases wv with
    | loc i => exact g2.elim
    | v p =>
      simp only at g2
      split at g2
      · rename_i hc
        obtain ⟨rfl, hl⟩ := hc
        obtain ⟨a, dx, xs, rfl, ea, ha, rs⟩ := wI_ok k2 r2 e
        refine ⟨a, C', dx, xs, rfl, ha, c, na, by rw [rs.length]; omega, ?_⟩
        have rp : Rep D2 H2 v p := r1.nx n2
        obtain ⟨n', k'⟩ := cell_set (o := .ins C' dx (putF f v xs)) (u := .lst []) (c := .ins C' (putFP f p ps)) k2 ea (nofz (by assumption) (fun _ _ z => by cases z)) fun D' H' s e' => ⟨_, _, e', (RepS.sd s rs).put (Rep.sd s rp)⟩
        exact g2 σ D2 as2 _ n' k' (ev2.nx n') rfl
      · exact g2.elim
  · exact g2.elim
theorem ppq_fld (c : Cls X.K C) (na : NoAttr X.K C f) (ho : PP X Wx o F1) (hv : PP X Wx value F2) (hs : swapsWith value (some (.Attribute o f pos')) pos.line X.env = pure false := by rfl) : PPS X Wx (.Assign [.Attribute o f pos'] value pos) (sFldP C f F1 F2) :=
  let ⟨_, p, ad⟩ := ho; let ⟨_, p2, ad2⟩ := hv; ⟨_, ps_fld p p2 hs, ad_sfld c na ad ad2⟩
/-! ### methods -/
def tMethX' (C : Addr) (m : Str) (sp : Sp) (W : WX) (ta : TE) (t : TA) : TE := fun σ H Q => ta σ H fun x H1 => ∃ a dx fs, x = .ref a ∧ H1 a = some (.ins C dx fs) ∧ fs.lookup m = none ∧ t σ H1 fun vs H2 => sp (.ref a :: vs) H2 Q (WE W σ)
theorem pe_methX' {m : Str} {g : Addr} {fd : FuncData} {ps : List Str} {sp : Sp} {ta : TE} {t : TA} {pl : Sem Bool} (tk : Takes X Wx) (he : PE X o ta) (c : Cls X.K C) (hm : Meth X.K C m g) (F : FnX X.prog X.w X.K X.mg X.base k g fd ps sp) (hG : X.A.guards = some []) (hr : Room k X.A) (hb : Binds X.K fd ps []) (ha : PA X (e :: es) t)
    (hst : starEach (e :: es) X.env = (false, eval e X.env) :: starEach es X.env := by rfl) (hpl : (backTo pos (starEach es X.env)).any (·.1) = false := by rfl)
    (ht : eval (.Call (.Attribute o m apos) (e :: es) [] pos) X.env = (do
      let ov ← eval o X.env
      standAt apos.atName
      let (f, first) ← holding [ov] (getMethod ov m pl)
      callWith pos f first (backTo pos (starEach (e :: es) X.env)) (backToKw pos (keywordEach [] X.env))) := by rfl) :
    PE X (.Call (.Attribute o m apos) (e :: es) [] pos) (tMethX' C m sp Wx ta t) := by
  refine ⟨fun pins s σ H Q I h => ?_⟩
  refine PySem.W.methodCall_KW (pl := pl) (thn (he.run pins s σ H _ I h) fun u s1 ⟨x, H1, I1, rx, a, dx, fs, ex, ea, l, q⟩ => ?_) ht
  subst ex
  obtain rfl : u = Value.ref a := rx
  refine getmeth_ok I1 ea c hm l ?_
  refine PySem.W.callWith_K (first := [.ref a]) (h₀ := X.base) I.ok.mod.kin hm.kp (thn (ha.run pos pins s1 σ H1 _ I1 q) fun us s2 ⟨vs, H2, I2, r, q2⟩ => ⟨I2.kIn, ?_⟩) hst hpl
  exact run_atX (vs := .ref a :: vs) F rfl hG hr hb tk I2 (.cons rfl r) q2
theorem pe_meth0X {m : Str} {g : Addr} {fd : FuncData} {ps : List Str} {sp : Sp} {ta : TE} {pl : Sem Bool} (tk : Takes X Wx) (he : PE X o ta) (c : Cls X.K C) (hm : Meth X.K C m g) (F : FnX X.prog X.w X.K X.mg X.base k g fd ps sp) (hG : X.A.guards = some []) (hr : Room k X.A) (hb : Binds X.K fd ps [])
    (ht : eval (.Call (.Attribute o m apos) [] [] pos) X.env = (do
      let ov ← eval o X.env
      standAt apos.atName
      let (f, first) ← holding [ov] (getMethod ov m pl)
      callWith pos f first (backTo pos (starEach [] X.env)) (backToKw pos (keywordEach [] X.env))) := by rfl) :
    PE X (.Call (.Attribute o m apos) [] [] pos) (tMethX' C m sp Wx ta tNil) := by
  refine ⟨fun pins s σ H Q I h => ?_⟩
  refine PySem.W.methodCall_KW (pl := pl) (thn (he.run pins s σ H _ I h) fun u s1 ⟨x, H1, I1, rx, a, dx, fs, ex, ea, l, q⟩ => ?_) ht
  subst ex
  obtain rfl : u = Value.ref a := rx
  refine getmeth_ok I1 ea c hm l ?_
  exact PySem.W.callWith_K0 (first := [.ref a]) I1.kIn hm.kp (run_atX (vs := [.ref a]) F rfl hG hr hb tk I1 (.cons rfl .nil) q)
/-- a method of the class C, with a pure promise -/
structure DM (P : Program) (w : World) (K : PySem.W.Frag) (mg : Str → Option Value) (base : Heap) (C : Addr) (m : Str) (n : Nat) (k : Nat) (F : FF) : Prop where
  ex : ∃ (f : Addr) (fd : FuncData) (ps : List Str), ps.length = n ∧ FnX P w K mg base k f fd ps (spP n F) ∧ Meth K C m f ∧ Binds K fd ps []
def fMeth (C : Addr) (m : Str) (F : FF) (Fo : EF) (A : AF) : EF := fun γ μ => (Fo γ μ).bind fun w m1 => match rdI m1 w with
  | some (C', ps) => if C' = C ∧ ps.lookup m = none then (A γ m1).bind fun ws m2 => F (w :: ws) m2 else .bad
  | none => .bad
theorem ad_methX {m : Str} {n : Nat} {FF' : FF} {ta : TE} {t : TA} (h : Ad Wx ta F) (ha : AdA Wx t A) (hn : ∀ ws μ, ws.length ≠ n → FF' ws μ = .bad) : Ad Wx (tMethX' C m (spP n FF') Wx ta t) (fMeth C m FF' F A) := fun D as γ μ σ H Q k ev g => by
  refine h D as γ μ σ H _ k ev ((G.bind RepW k g).mono fun x H1 ⟨D1, as1, μ1, w, n1, k1, r1, g1⟩ => ?_)
  split at g1
  · rename_i C' ps e
    split at g1
    · rename_i hc
      obtain ⟨rfl, hl⟩ := hc
      obtain ⟨a, dx, xs, rfl, hx, rs⟩ := rdI_ok k1 r1 e
      refine ⟨a, dx, xs, rfl, hx, rs.lookup_none hl, ha D1 as1 γ μ1 σ H1 _ k1 (ev.nx n1) ((G.bind RepWs k1 g1).mono fun vs H2 ⟨D2, as2, μ2, ws, n2, k2, r2, g2⟩ => ?_)⟩
      refine ⟨?_, D2, as2, w :: ws, μ2, k2, .cons (r1.nx n2) r2, ?_⟩
      · by_cases c : (w :: ws).length = n
        · rw [List.length_cons, r2.length]; exact c
        · rw [hn (w :: ws) μ2 c] at g2
          exact g2.elim
      · cases o : FF' (w :: ws) μ2 with
        | ok w' m' => rw [o] at g2; exact g2
        | exc C fs m' => rw [o] at g2; exact g2
        | bad => rw [o] at g2; exact g2
    · exact g1.elim
  · exact g1.elim
theorem pp_meth {m : Str} {n : Nat} {FF' : FF} {pl : Sem Bool} (d : DM X.prog X.w X.K X.mg X.base C m n k FF') (c : Cls X.K C) (hG : X.A.guards = some []) (hr : Room k X.A) (tk : Takes X Wx) (ho : PP X Wx o F) (ha : PPA X Wx (e :: es) A) (hn : ∀ ws μ, ws.length ≠ n → FF' ws μ = .bad := by exact fDef_len)
    (hst : starEach (e :: es) X.env = (false, eval e X.env) :: starEach es X.env := by rfl) (hpl : (backTo pos (starEach es X.env)).any (·.1) = false := by rfl)
    (ht : eval (.Call (.Attribute o m apos) (e :: es) [] pos) X.env = (do
      let ov ← eval o X.env
      standAt apos.atName
      let (f, first) ← holding [ov] (getMethod ov m pl)
      callWith pos f first (backTo pos (starEach (e :: es) X.env)) (backToKw pos (keywordEach [] X.env))) := by rfl) :
    PP X Wx (.Call (.Attribute o m apos) (e :: es) [] pos) (fMeth C m FF' F A) := by
  obtain ⟨f, fd, ps, hl, FX, hm, hb⟩ := d.ex
  obtain ⟨_, po, ao⟩ := ho
  obtain ⟨_, pa, aa⟩ := ha
  exact ⟨_, pe_methX' tk po c hm FX hG hr hb pa hst hpl ht, ad_methX ao aa hn⟩
theorem pp_meth0 {m : Str} {n : Nat} {FF' : FF} {pl : Sem Bool} (d : DM X.prog X.w X.K X.mg X.base C m n k FF') (c : Cls X.K C) (hG : X.A.guards = some []) (hr : Room k X.A) (tk : Takes X Wx) (ho : PP X Wx o F) (hn : ∀ ws μ, ws.length ≠ n → FF' ws μ = .bad := by exact fDef_len)
    (ht : eval (.Call (.Attribute o m apos) [] [] pos) X.env = (do
      let ov ← eval o X.env
      standAt apos.atName
      let (f, first) ← holding [ov] (getMethod ov m pl)
      callWith pos f first (backTo pos (starEach [] X.env)) (backToKw pos (keywordEach [] X.env))) := by rfl) :
    PP X Wx (.Call (.Attribute o m apos) [] [] pos) (fMeth C m FF' F fNil) := by
  obtain ⟨f, fd, ps, hl, FX, hm, hb⟩ := d.ex
  obtain ⟨_, po, ao⟩ := ho
  exact ⟨_, pe_meth0X tk po c hm FX hG hr hb ht, ad_methX ao (fun D as γ μ σ H Q k ev g => g.now (R := RepWs) k .nil) hn⟩
/-! ### properties (no error comes out) -/
theorem getpropG {pins : List (Addr × Obj)} {σ : L2.St} {H : Hp} {s : Shared} {Q : VK} {b : Bool} {E' : Value → Shared → Prop} {a dx p g : Addr} {fs : List (Str × V)} {fd : FuncData} {ps : List Str} {sp : Sp} (I : Inv X pins σ H s) (ea : H a = some (.ins C dx fs)) (c : Cls X.K C) (hp : PropOf X.K C f p g)
    (F : FnG X.prog X.w X.K X.mg X.base k g fd ps sp) (hG : X.A.guards = some []) (hr : Room (k + 1) X.A) (hb : Binds X.K fd ps []) (h : sp [.ref a] H Q L2.E0) :
    wpAny (model X.prog X.w) X.A (getAttr (.ref a) f b) (EP X pins σ Q) E' s := by
  obtain ⟨mA, O, _, _, _, _⟩ := ins_get I.hok ea
  obtain ⟨od, J, _⟩ := O.look
  obtain ⟨rest, hrec⟩ := hp.rec_
  have I1 := I.tok (s.toks + 1)
  have hl : ([Value.ref a] ++ []).length = ps.length := by
    rw [← F.few h]
    rfl
  have hc : (PySem.W.clsIn X.K C).isSome = true := by
    obtain ⟨cd, hc, _⟩ := PySem.W.any_some c.hd
    rw [hc]
    rfl
  refine PySem.W.get_bind I.kIn J (PySem.W.plainGet_of (c.get f)).1 (PySem.W.findObj_data hc hp.at_ hp.get hp.tak) (PySem.W.plainGet_of (c.get f)).2 (wpAny_call (PySem.W.prop_get (s := { s with toks := s.toks + 1 }) I.kIn hrec ?_))
  refine codeAny_mono (F.goes (A := X.A.in1) (fr := X.stack) (s := { s with toks := s.toks + 1 }) (H := H) (ar := ⟨[.ref a], []⟩) (us := [.ref a]) (vs := [.ref a]) (Q := Q) (E := L2.E0) hG hr.in1 I1.env0.in1 (by
    have := hb _ [.ref a] I1.kIn hl
    simpa using this) (.cons rfl .nil) h) fun r s' hq => ?_
  cases r with
  | error er => exact False.elim hq
  | ok fl =>
    cases fl with
    | ret u =>
      obtain ⟨v, H', I3, rv, q3⟩ := I1.after hq
      show wpAny _ _ (handedOut u) _ _ _
      rw [PySem.W.handedOut_of (handed_of rv)]
      exact wpAny_pure ⟨v, H', I3, rv, q3⟩
    | next => exact False.elim hq
    | brk => exact False.elim hq
    | cont => exact False.elim hq
structure DPr (P : Program) (w : World) (K : PySem.W.Frag) (mg : Str → Option Value) (base : Heap) (C : Addr) (m : Str) (k : Nat) (F : FF) : Prop where
  ex : ∃ (p f : Addr) (fd : FuncData) (ps : List Str), FnX P w K mg base k f fd ps (spP 1 F) ∧ PropOf K C m p f ∧ Binds K fd ps []
def fProp (C : Addr) (F : FF) (Fo : EF) : EF := fun γ μ => (Fo γ μ).bind fun w m1 => match rdI m1 w with
  | some (C', _) => if C' = C then (F [w] m1).nx else .bad
  | none => .bad
theorem G_nx {α β : Type} {R : RL β α} {Wx W' : WX} {σ σ' : L2.St} {D : Addr → Prop} {as : Ps} {H : Hp} {o : O α} {Q : β → Hp → Prop} (g : G Wx σ R D as H o.nx Q) : G W' σ' R D as H o Q := by
  cases o with
  | ok a m => exact g
  | exc C fs m => exact g.elim
  | bad => exact g
theorem pp_prop {FF' : FF} (d : DPr X.prog X.w X.K X.mg X.base C f k FF') (c : Cls X.K C) (hG : X.A.guards = some []) (hr : Room (k + 1) X.A) (ho : PP X Wx o F) (hab : attributeBase o f X.env (eval o X.env) = eval o X.env := by rfl) : PP X Wx (.Attribute o f pos) (fProp C FF' F) := by
  obtain ⟨p, g, fd, ps, FX, hp, hb⟩ := d.ex
  obtain ⟨te, po, ao⟩ := ho
  refine ⟨fun σ H Q => te σ H fun x H1 => ∃ a dx fs, x = .ref a ∧ H1 a = some (.ins C dx fs) ∧ noE (spP 1 FF') [.ref a] H1 Q L2.E0, ⟨fun pins s σ H Q I h => ?_⟩, fun D as γ μ σ H Q k ev g => ?_⟩
  · refine attr_of hab (thn (po.run pins s σ H _ I h) fun u s1 ⟨x, H1, I1, rx, a, dx, fs, ex, ea, q⟩ => ?_)
    subst ex
    obtain rfl : u = Value.ref a := rx
    exact getpropG I1 ea c hp FX.g hG hr hb q
  · refine ao D as γ μ σ H _ k ev ((G.bind RepW k g).mono fun x H1 ⟨D1, as1, μ1, w, n1, k1, r1, g1⟩ => ?_)
    split at g1
    · rename_i C' ps e
      split at g1
      · rename_i hc
        subst hc
        obtain ⟨a, dx, xs, rfl, hx, rs⟩ := rdI_ok k1 r1 e
        exact ⟨a, dx, xs, rfl, hx, rfl, D1, as1, [w], μ1, k1, .cons r1 .nil, G_nx g1⟩
      · exact g1.elim
    · exact g1.elim
end
end Pu
set_option Elab.async false
set_option linter.all false
set_option maxRecDepth 100000
set_option maxHeartbeats 4000000
namespace Pu
open L2 PySem PySem.Spec PyProof.Rows E10
/-! ### C(..) -/
theorem make_guards {A : Around} {C : Addr} {us : List Value} {kw : List (Str × Value)} (h : A.guards = some []) : (A.under (.builtin "type.__call__" ⟨.ref C :: us, kw⟩)).guards = some [] := by
  show pushGuards (Code.guards (.builtin "type.__call__" ⟨.ref C :: us, kw⟩)) A.guards = some []
  rw [h]
  have : Code.guards (.builtin "type.__call__" ⟨.ref C :: us, kw⟩) = [] := by
    unfold Code.guards
    rw [if_neg]
    simp [Code.isGuard, guardIds]
  rw [this]
  rfl
section
variable {X : Cx} {Wx : WX} {o e value : Expr} {es : List Expr} {F F1 F2 : EF} {A : AF} {f : Str} {p pos pos' apos : Pos} {C : Addr} {k : Nat}
theorem run_makeX {pins : List (Addr × Obj)} {σ : L2.St} {H : Hp} {s : Shared} {Q : VK} {us : List Value} {vs : List V} {g : Addr} {fd : FuncData} {ps : List Str} {sp : Sp} (M : Mk X.K C g) (F : FnX X.prog X.w X.K X.mg X.base k g fd ps sp) (hG : X.A.guards = some []) (hr : Room (k + 1) X.A) (hb : Binds X.K fd ps [])
    (tk : Takes X Wx) (I : Inv X pins σ H s) (r : Vals vs us)
    (h : ∀ x dx, H x = none → H dx = none → dx ≠ x → sp (.ref x :: vs) (upd (upd H dx (.own x)) x (.ins C dx [])) (fun v H2 => v = .non ∧ Q (.ref x) H2) (WE Wx σ)) :
    wpAny (model X.prog X.w) X.A (call (.ref C) us) (EP X pins σ Q) X.xe s := by
  have hq := h (s.heap.objs.size + 1) s.heap.objs.size (I.hok.fresh (Nat.le_succ _)) (I.hok.fresh (Nat.le_refl _)) (Nat.ne_of_lt (Nat.lt_succ_self _))
  have I2 := Inv.made (C := C) I
  have r2 : Vals (V.ref (s.heap.objs.size + 1) :: vs) (Value.ref (s.heap.objs.size + 1) :: us) := .cons rfl r
  have hl : ((Value.ref (s.heap.objs.size + 1) :: us) ++ []).length = ps.length := by
    have e := r2.length
    rw [F.few hq] at e
    rw [List.append_nil]
    exact e.symm
  have bb := hb _ (Value.ref (s.heap.objs.size + 1) :: us) I2.kIn hl
  rw [List.append_nil] at bb
  refine wpAny_call (make_map (f := g) I.kIn M.makes M.init (beq_iff_eq.mp M.fn) (codeAny_mono (F.goes (fr := X.stack) (ar := ⟨Value.ref (s.heap.objs.size + 1) :: us, []⟩) (us := Value.ref (s.heap.objs.size + 1) :: us) (make_guards hG) (hr.make C us [])
    (I2.env0.make C us []) bb r2 hq) fun r s' hq' => ?_))
  cases r with
  | error e => exact passAt tk σ pins _ _ e s' I2 hq'
  | ok fl =>
    cases fl with
    | ret u =>
      obtain ⟨v, H', I3, rv, ev, q3⟩ := I2.after hq'
      subst ev
      exact ⟨rv, ⟨V.ref (s.heap.objs.size + 1), H', I3, rfl, q3⟩⟩
    | next => exact False.elim hq'
    | brk => exact False.elim hq'
    | cont => exact False.elim hq'
def tMakeX (C : Addr) (sp : Sp) (W : WX) (t : TA) : TE := fun σ H Q => t σ H fun vs H1 => ∀ x dx, H1 x = none → H1 dx = none → dx ≠ x → sp (.ref x :: vs) (upd (upd H1 dx (.own x)) x (.ins C dx [])) (fun v H2 => v = .non ∧ Q (.ref x) H2) (WE W σ)
theorem pe_makeX {x : Str} {g : Addr} {fd : FuncData} {ps : List Str} {sp : Sp} {t : TA} (M : Mk X.K C g) (F : FnX X.prog X.w X.K X.mg X.base k g fd ps sp) (hG : X.A.guards = some []) (hr : Room (k + 1) X.A) (hb : Binds X.K fd ps []) (tk : Takes X Wx) (hg : Gl X x) (hm : X.mg x = some (.ref C))
    (ha : PA X (e :: es) t) (hdb : (x == ("__debug__" : Str)) = false := by decide) (he : starEach (e :: es) X.env = (false, eval e X.env) :: starEach es X.env := by rfl) (hpl : (backTo pos (starEach es X.env)).any (·.1) = false := by rfl) :
    PE X (.Call (.Name x p) (e :: es) [] pos) (tMakeX C sp Wx t) := by
  refine ⟨fun pins s σ H Q I h => ?_⟩
  refine wpAny_Call_Name_kw (ld_glob I hg hm ?_ hdb)
  refine PySem.W.callWith_K (h₀ := X.base) I.ok.mod.kin M.kp (thn (ha.run pos pins s σ H _ I h) fun us s1 ⟨vs, H1, I1, r, q⟩ => ⟨I1.kIn, ?_⟩) he hpl
  exact run_makeX M F hG hr hb tk I1 r q
/-- a class whose __init__ has a pure promise -/
structure DC (P : Program) (w : World) (K : PySem.W.Frag) (mg : Str → Option Value) (base : Heap) (x : Str) (C : Addr) (n : Nat) (k : Nat) (F : FF) : Prop where
  ex : ∃ (f : Addr) (fd : FuncData) (ps : List Str), ps.length = n ∧ FnX P w K mg base k f fd ps (spP n F) ∧ Mk K C f ∧ Binds K fd ps []
  g : mg x = some (.ref C)
def fMake (C : Addr) (F : FF) (A : AF) : EF := fun γ μ => (A γ μ).bind fun ws m => (F (.loc m.length :: ws) (m ++ [.ins C []])).bind fun w m' => match w with
  | .v .non => .ok (.loc m.length) m'
  | _ => .bad
theorem ad_make {n : Nat} {FF' : FF} {t : TA} (ha : AdA Wx t A) (hn : ∀ ws μ, ws.length ≠ n → FF' ws μ = .bad) : Ad Wx (tMakeX C (spP n FF') Wx t) (fMake C FF' A) := fun D as γ μ σ H Q k ev g => by
  refine ha D as γ μ σ H _ k ev ((G.bind RepWs k g).mono fun vs H1 ⟨D1, as1, μ1, ws, n1, k1, r1, g1⟩ => ?_)
  intro x dx nx ndx ne
  have nx2 : upd H1 dx (.own x) x = none := (upd_ne (Ne.symm ne)).trans nx
  have s1 := new_same' (o := .own x) ndx
  have k2 := k1.same s1
  obtain ⟨n3, k3⟩ := cell_new (o := .ins C dx []) (c := .ins C []) k2 nx2 ⟨dx, [], upd_same, .nil⟩
  have n13 : Nx D1 as1 H1 _ _ _ := (Nx.of_same s1).trans k1 k2 n3
  have e1 : (as1 ++ [some x])[μ1.length]? = some (some x) := by
    rw [← k1.len]
    exact last_get
  refine ⟨?_, _, _, .loc μ1.length :: ws, μ1 ++ [.ins C []], k3, .cons (.mk e1) (r1.nx n13), ?_⟩
  · by_cases c : (W.loc μ1.length :: ws).length = n
    · rw [← c, List.length_cons, List.length_cons, r1.length]
    · rw [hn _ (μ1 ++ [PC.ins C []]) c] at g1
      exact g1.elim
  · have g2 := G.nx k1 k3 n13 g1
    have := G.bind RepW k3 g2
    cases o : FF' (W.loc μ1.length :: ws) (μ1 ++ [PC.ins C []]) with
    | bad => rw [o] at g2; exact g2
    | exc C' fs m' => rw [o] at g2; exact g2
    | ok w m' =>
      rw [o] at g2
      intro v D' as' H' n' k' rv
      cases w with
      | loc j => exact g2.elim
      | v q =>
        cases q with
        | non =>
          obtain rfl := rep_non rv
          exact ⟨rfl, g2 (.ref x) D' as' H' n' k' ((RepW.mk e1).nx n')⟩
        | _ => exact g2.elim
theorem pp_make {x : Str} {n : Nat} {FF' : FF} (d : DC X.prog X.w X.K X.mg X.base x C n k FF') (hG : X.A.guards = some []) (hr : Room (k + 1) X.A) (tk : Takes X Wx) (hg : Gl X x) (ha : PPA X Wx (e :: es) A) (hn : ∀ ws μ, ws.length ≠ n → FF' ws μ = .bad := by exact fDef_len)
    (hdb : (x == ("__debug__" : Str)) = false := by decide) (he : starEach (e :: es) X.env = (false, eval e X.env) :: starEach es X.env := by rfl) (hpl : (backTo pos (starEach es X.env)).any (·.1) = false := by rfl) :
    PP X Wx (.Call (.Name x p) (e :: es) [] pos) (fFrz (fMake C FF' A)) := by
  obtain ⟨f, fd, ps, hl, FX, M, hb⟩ := d.ex
  obtain ⟨_, pa, aa⟩ := ha
  exact ⟨_, pe_makeX M FX hG hr hb tk hg d.g pa hdb he hpl, ad_frzL (ad_make aa hn)⟩
end
/-! ### isinstance -/
/-- the class of a value: tb tells of an own class that it is looked at -/
def tyP (cs : List Addr) (μ : Μ) : W → Option Value
  | .v .non => some (.type "NoneType")
  | .v (.bl _) => some (.type "bool")
  | .v (.int _) => some (.type "int")
  | .v (.str _) => some (.type "str")
  | .v (.tup _) => some (.type "tuple")
  | .v (.lst _) => some (.type "list")
  | .v (.dct _) => some (.type "dict")
  | .v (.ins C _) => if C ∈ cs then some (.ref C) else none
  | .loc j => match μ[j]? with
    | some (.lst _) => some (.type "list")
    | some (.dct _) => some (.type "dict")
    | some (.lstL _) => some (.type "list")
    | some (.dctL _) => some (.type "dict")
    | some (.ins C _) => if C ∈ cs then some (.ref C) else none
    | _ => none
  | _ => none
/-- what isinstance needs of an own class -/
structure InsK (K : PySem.W.Frag) (C : Addr) : Prop where
  cls : Cls K C
  ha : PySem.W.findIn K (.ref C) "__class__" = some (some (.builtin "object.__class__"))
  hn : PySem.W.specialIn K (.builtin "object.__class__") "__get__" = some (some (.builtin "getset_descriptor.__get__"))
  htk : PySem.W.takesIn K (.builtin "object.__class__") = some true
  hm : PySem.W.mroIn K C (.type "object") = some true
theorem tyP_ok {K : PySem.W.Frag} {D as H} {μ : Μ} {v : V} {w : W} {t : Value} {cs : List Addr} (hc : ∀ C ∈ cs, InsK K C) (k : Sk D as H μ) (r : RepW D as H v w) (h : tyP cs μ w = some t) : TyX K H v t := by
  have own : ∀ {a C dx fs}, C ∈ cs → H a = some (.ins C dx fs) → TyX K H (.ref a) (.ref C) := fun {a C dx fs} m e => let z := hc C m; .base (.ins e z.cls z.ha z.hn z.htk z.hm)
  unfold tyP at h
  split at h
  · cases h; obtain rfl := rep_non r; exact .base .non
  · cases h; obtain rfl := rep_bl r; exact .base (.bl _)
  · cases h; obtain rfl := rep_int r; exact .base (.int _)
  · cases h; obtain rfl := rep_str r; exact .base (.str _)
  · cases h
    obtain ⟨a, xs, rfl, _, hr, _⟩ := rep_tup r
    rcases hr with hr | ⟨o, hr⟩
    · exact .base (.tup hr)
    · exact .fTuple hr
  · cases h
    obtain ⟨a, xs, rfl, _, hr, _⟩ := rep_lst r
    rcases hr with hr | ⟨o, hr⟩
    · exact .base (.lst hr)
    · exact .base (.frz hr)
  · cases h
    obtain ⟨a, xs, rfl, _, hr, _⟩ := rep_dct r
    rcases hr with hr | ⟨o, hr⟩
    · exact .base (.dK hr)
    · exact .fDict hr
  · split at h
    · rename_i m
      cases h
      cases r with
      | ins _ e _ => exact own m e
    · cases h
  · rename_i j
    have hl : liveAt μ j = true := by
      unfold liveAt
      cases q : μ[j]? with
      | none => rw [q] at h; cases h
      | some c => rw [q] at h; cases c <;> first | rfl | cases h
    obtain ⟨a, c, q, e, rfl, x⟩ := live_adr k r hl
    rw [q] at h
    cases c with
    | lst ps => cases h; obtain ⟨xs, e', _⟩ := x; exact .base (.lst e')
    | dct ps => cases h; obtain ⟨xs, e', _⟩ := x; exact .base (.dK e')
    | lstL ps => cases h; obtain ⟨od, xs, e', _⟩ := x; exact .base (.frz e')
    | dctL ps => cases h; obtain ⟨od, xs, e', _⟩ := x; exact .fDict e'
    | ins C ps =>
      simp only at h
      split at h
      · rename_i m
        cases h
        obtain ⟨dx, xs, e', _⟩ := x
        exact own m e'
      · cases h
    | dead => exact x.elim
  · cases h
/-- a class that is asked for -/
def clsP : W → Option Value
  | .v (.ty n) => some (.type n)
  | .v (.ref C) => some (.ref C)
  | _ => none
/-- the answers that are known -/
def kitP (cs : List Addr) (t u : Value) : Option Bool := match t, u with
  | .type a, .type b => kitB a b
  | .type a, .ref C => if C ∈ cs ∧ a ∈ ["NoneType", "bool", "int", "str", "tuple", "list", "dict"] then some false else none
  | .ref C, .ref C' => if C ∈ cs ∧ C' ∈ cs then some (decide (C = C')) else none
  | .ref C, .type b => if C ∈ cs ∧ b ∈ ["int", "str", "bool", "list", "tuple", "dict"] then some false else none
  | _, _ => none
/-- own classes of which none is above another -/
structure Own (K : PySem.W.Frag) (cs : List Addr) : Prop where
  ins : ∀ C ∈ cs, InsK K C
  kit : ∀ t u b, kitP cs t u = some b → PySem.W.kitOne K t u = some b
def fIsi (cs : List Addr) : List W → Μ → O W := fun ws μ => match ws with
  | [w, c] => match tyP cs μ w, clsP c with
    | some t, some u => match kitP cs t u with
      | some b => .ok (.v (.bl b)) μ
      | none => .bad
    | _, _ => .bad
  | _ => .bad
theorem ad_isi {Wx : WX} {K : PySem.W.Frag} {cs : List Addr} (hc : Own K cs) : AdC Wx (rIsi K) (fIsi cs) := fun D as μ σ H vs ws Q k r gg => by
  unfold fIsi at gg
  split at gg
  · rename_i w c
    split at gg
    · rename_i t u e1 e2
      split at gg
      · rename_i b e3
        obtain ⟨x, y, rfl, rx, ry⟩ := repWs2 r
        have hu : ClsV y u := by
          unfold clsP at e2
          split at e2
          · cases e2
            cases ry
            exact .ty _
          · cases e2
            cases ry
            exact .own _
          · cases e2
        exact ⟨x, y, t, u, b, rfl, hu, tyP_ok hc.ins k rx e1, hc.kit t u b e3, nowV k gg .bl⟩
      · exact gg.elim
    · exact gg.elim
  · exact gg.elim
end Pu
set_option Elab.async false
set_option linter.all false
set_option maxRecDepth 100000
set_option maxHeartbeats 4000000
namespace Pu
open L2 PySem PySem.Spec PyProof.Rows E10
/-! ### sorted(x), x a list or a tuple of texts -/
section
variable {X : Cx}
def rSortTp (K : PySem.W.Frag) : List V → Hp → VK → Prop := fun vs H Q => ∃ (a : Addr) (xs : List Str), vs = [V.ref a] ∧ (SqL K H a (xs.map V.str) ∨ SqT K H a (xs.map V.str)) ∧ xs.length < 64 ∧
  ∀ (ys : List Str) (p : Addr), ys.Perm xs → sortedS ys = true → H p = none → Q (.ref p) (upd H p (.lst (ys.map V.str)))
theorem call_sortTp : CallR X (.builtin "sorted") (rSortTp X.K) := by
  intro pins s σ H vs us Q I r h
  obtain ⟨a, xs, rfl, hs, h64, q⟩ := h
  rcases hs with hs | hs
  · exact cr_sortedS pins s σ H _ us Q I r ⟨a, xs, rfl, hs, h64, q⟩
  obtain ⟨its, rv, ⟨o, ho, hc, n, hd⟩, _⟩ := I.tuple hs
  rw [Vals.ref1 r]
  have lv : its.length = xs.length := by rw [← rv.length, List.length_map]
  have big : (64 : Nat) ≤ sizeLine := by decide
  refine Calls.call_function_entry PyProof.Rows.kind_sorted PyProof.Rows.plain_sorted PyProof.Rows.entry_sorted (PyProof.Rows.args_sorted1 _) ?_
  unfold Builtin.«sorted»
  refine wpAny_bind (m := checkCount "sorted" 1 1 _) (wpAny_pure ?_)
  refine wpAny_bind (wpAny_collect_seq a (T := "tuple") (.inr rfl) ho hc hd (fun h' hk => ?_) (by rw [List.size_toArray]; omega))
  have hS : StrsAre its xs := rv.strs
  have I1 : Inv X pins σ H { s with heap := h', toks := s.toks } := I.kept hk
  show wpAny _ _ _ _ _ { s with heap := h' }
  have et : its.toArray.toList = its := by simp
  rw [et]
  refine wpAny_bind (wpAny_newList ?_ (by omega))
  have hoL : (h'.push (seqObj "list" its.toArray 0)).get? h'.objs.size = some (seqObj "list" its.toArray 0) := Heap.get?_push_size _ rfl
  show wpAny _ _ _ _ _ { s with heap := h'.push (seqObj "list" its.toArray 0) }
  refine wpAny_bind (wpAny_holding (wpAny_call_entry PyProof.Rows.slot_list_sort ⟨_, hoL, rfl⟩ PyProof.Rows.entry_list_sort
    (list_sort_treeK strKind_oneLt (s := { s with heap := h'.push (seqObj "list" its.toArray 0) }) hoL hS.keysOf (fun v₁ v₂ rest e => keyKind_strs (by rw [← e]; exact hS)) (by rw [lv]; exact h64) fun st' hp hs => ⟨_, rfl, ?_⟩)
    (PyProof.Rows.args_list_sort _)))
  obtain ⟨ys, g1, g2, g3⟩ := sorted_out_str hS hp hs
  obtain ⟨e', he'⟩ := PyProof.Rows.sortedHeap_at (vs := its) (out := (arrOf st').map (·.2)) hoL
  have hlen : (ys.map V.str).length ≤ sizeLine := by
    rw [List.length_map, g2.length_eq]
    exact Nat.le_trans (Nat.le_of_lt h64) big
  refine wpAny_pure ⟨_, rfl, .ref h'.objs.size, upd H h'.objs.size (.lst (ys.map V.str)), I1.laid (t' := s.toks) (fun b u e => ?_) (Nat.le_refl _)
    (show ObjOk X.prog X.w _ _ _ (.lst (ys.map V.str)) from ⟨hlen, ((arrOf st').map (·.2)).toList, e', vals_of_strs g1, by rw [Array.toArray_toList]; exact he'⟩), rfl, q ys _ g2 g3 (I1.hok.fresh (Nat.le_refl _))⟩
  have hb : b < h'.objs.size := Heap.lt_size e
  rw [PyProof.Rows.sortedHeap_old (Nat.ne_of_lt hb) (by rw [size_push']; exact Nat.lt_succ_of_lt hb)]
  exact Heap.get?_push_of_some _ e
end
end Pu
set_option Elab.async false
set_option linter.all false
set_option maxRecDepth 100000
set_option maxHeartbeats 4000000
namespace Pu
open L2 PySem PySem.Spec PyProof.Rows E10
/-! ### new things -/
section
variable {D : Addr → Prop} {as : Ps} {H : Hp} {μ : Μ} {Wx : WX} {σ : L2.St} {Q : VK}
theorem newL {xs : List V} {ps : List P} (k : Sk D as H μ) (g : G Wx σ RepW D as H (.ok (.v (.lst ps)) μ) Q) (rs : Reps D H xs ps) : ∀ p, H p = none → Q (.ref p) (upd H p (.lst xs)) := fun p np =>
  nowN k (new_same' np) g (.lst (k.nd np) (.inl upd_same) (Reps.sd (.same (new_same' np)) rs))
theorem newT {xs : List V} {ps : List P} (k : Sk D as H μ) (g : G Wx σ RepW D as H (.ok (.v (.tup ps)) μ) Q) (rs : Reps D H xs ps) : ∀ p, H p = none → Q (.ref p) (upd H p (.tup xs)) := fun p np =>
  nowN k (new_same' np) g (.tup (k.nd np) (.inl upd_same) (Reps.sd (.same (new_same' np)) rs))
theorem newD {xs : List (Key × V)} {ps : List (Key × P)} (k : Sk D as H μ) (g : G Wx σ RepW D as H (.ok (.v (.dct ps)) μ) Q) (rs : RepK D H xs ps) : ∀ p, H p = none → Q (.ref p) (upd H p (.dK xs)) := fun p np =>
  nowN k (new_same' np) g (.dct (k.nd np) (.inl upd_same) (RepK.sd (.same (new_same' np)) rs))
theorem newLC {xs : List V} {ps : List P} (k : Sk D as H μ) (g : G Wx σ RepW D as H (.ok (.loc μ.length) (μ ++ [.lst ps])) Q) (rs : Reps D H xs ps) : ∀ p, H p = none → Q (.ref p) (upd H p (.lst xs)) := fun p np => by
  obtain ⟨n2, k2⟩ := cell_new (o := .lst xs) (c := .lst ps) k np ⟨xs, upd_same, Reps.sd (sd_plus np) rs⟩
  exact g _ _ _ _ n2 k2 (.mk (by rw [← k.len]; exact last_get))
theorem newDC {xs : List (Key × V)} {ps : List (Key × P)} (k : Sk D as H μ) (g : G Wx σ RepW D as H (.ok (.loc μ.length) (μ ++ [.dct ps])) Q) (rs : RepK D H xs ps) : ∀ p, H p = none → Q (.ref p) (upd H p (.dK xs)) := fun p np => by
  obtain ⟨n2, k2⟩ := cell_new (o := .dK xs) (c := .dct ps) k np ⟨xs, upd_same, RepK.sd (sd_plus np) rs⟩
  exact g _ _ _ _ n2 k2 (.mk (by rw [← k.len]; exact last_get))
end
/-- a value or a place at the end: what a new thing is to be -/
inductive Kind where
  | val | cell
def mkL (c : Kind) (ps : List P) (μ : Μ) : O W := match c with
  | .val => .ok (.v (.lst ps)) μ
  | .cell => .ok (.loc μ.length) (μ ++ [.lst ps])
def mkD (c : Kind) (ps : List (Key × P)) (μ : Μ) : O W := match c with
  | .val => .ok (.v (.dct ps)) μ
  | .cell => .ok (.loc μ.length) (μ ++ [.dct ps])
section
variable {D : Addr → Prop} {as : Ps} {H : Hp} {μ : Μ} {Wx : WX} {σ : L2.St} {Q : VK}
theorem mkL_ok {c : Kind} {xs : List V} {ps : List P} (k : Sk D as H μ) (g : G Wx σ RepW D as H (mkL c ps μ) Q) (rs : Reps D H xs ps) : ∀ p, H p = none → Q (.ref p) (upd H p (.lst xs)) := by
  cases c with
  | val => exact newL k g rs
  | cell => exact newLC k g rs
theorem mkD_ok {c : Kind} {xs : List (Key × V)} {ps : List (Key × P)} (k : Sk D as H μ) (g : G Wx σ RepW D as H (mkD c ps μ) Q) (rs : RepK D H xs ps) : ∀ p, H p = none → Q (.ref p) (upd H p (.dK xs)) := by
  cases c with
  | val => exact newD k g rs
  | cell => exact newDC k g rs
end
section
variable {X : Cx} {Wx : WX} {a b e : Expr} {es : List Expr} {F F1 F2 : EF} {A : AF} {pos : Pos}
theorem pp_dnew (c : Kind) : PP X Wx (.Dict [] [] pos) (fun _ μ => mkD c [] μ) := ⟨_, pe_dnewK, fun D as γ μ σ H Q k ev g => mkD_ok k g .nil⟩
/-- list + list -/
def rCatR : R2 := fun x y H Q => ∃ l b xs zs, x = .ref l ∧ y = .ref b ∧ Rd H l (.lst xs) ∧ Rd H b (.lst zs) ∧ xs.length + zs.length ≤ sizeLine ∧ ∀ p, H p = none → Q (.ref p) (upd H p (.lst (xs ++ zs)))
theorem op_catR : OpR X (binaryOp .Add) rCatR := by
  intro pins s σ H x y v u Q I rx ry h
  obtain ⟨l, b, xs, zs, rfl, rfl, hH, hB, hz, q⟩ := h
  cases rx
  cases ry
  obtain ⟨z, its, n, r, e⟩ := hH.ok I.hok
  obtain ⟨z2, its2, n2, r2, e2⟩ := hB.ok I.hok
  have hl := r.length
  have hl2 := r2.length
  refine PySem.P.add_list e e2 ?_ (by rw [List.size_toArray, List.size_toArray]; omega)
  have ea : its.toArray ++ its2.toArray = (its ++ its2).toArray := by simp
  rw [ea]
  exact ⟨.ref _, _, I.lnew (t' := s.toks) (r.append r2) (by rw [List.length_append]; omega), rfl, q _ I.fresh⟩
def fCat : W → W → Μ → O W := fun x y μ => match rdL μ x, rdL μ y with
  | some ps, some qs => if ps.length + qs.length ≤ 100000 then .ok (.v (.lst (ps ++ qs))) μ else .bad
  | _, _ => .bad
theorem ad_cat : AdR2 Wx rCatR fCat := fun D as μ σ H x y a b Q k ra rb g => by
  unfold fCat at g
  split at g
  · rename_i ps qs e1 e2
    split at g
    · rename_i hl
      obtain ⟨l, xs, rfl, h1, r1⟩ := rdL_ok k ra e1
      obtain ⟨l2, ys, rfl, h2, r2⟩ := rdL_ok k rb e2
      exact ⟨l, l2, xs, ys, rfl, rfl, h1, h2, sz_of (by rw [r1.length, r2.length]; exact hl), newL k g (r1.append r2)⟩
    · exact g.elim
  · exact g.elim
/-- dict(d) -/
def fDictD (c : Kind) : List W → Μ → O W := fun ws μ => match ws with
  | [w] => match rdD μ w with
    | some ps => mkD c ps μ
    | none => .bad
  | _ => .bad
theorem ad_dictD {c : Kind} : AdC Wx (fun xs H Q => ∃ (a : Addr) (kvs : List (Key × V)), xs = [.ref a] ∧ Rd H a (.dK kvs) ∧ ∀ p, H p = none → Q (.ref p) (upd H p (.dK kvs))) (fDictD c) := fun D as μ σ H vs ws Q k r g => by
  unfold fDictD at g
  split at g
  · split at g
    · rename_i ps e
      obtain ⟨v, rfl, rv⟩ := repWs1 r
      obtain ⟨a, xs, rfl, hs, rs⟩ := rdD_ok k rv e
      exact ⟨a, xs, rfl, hs, mkD_ok k g rs⟩
    · exact g.elim
  · exact g.elim
/-- dict of pairs -/
def pairsP : List P → Option (List (Key × P))
  | [] => some []
  | .tup [a, b] :: r => match keyP a, pairsP r with
    | some k, some l => some ((k, b) :: l)
    | _, _ => none
  | _ => none
def mergeP (acc : List (Key × P)) : List (Key × P) → List (Key × P)
  | [] => acc
  | (k, p) :: r => mergeP (putP acc k p) r
theorem RepK.merge {D H} : ∀ {more : List (Key × V)} {mp : List (Key × P)}, RepK D H more mp → ∀ {acc ap}, RepK D H acc ap → RepK D H (mergeK acc more) (mergeP ap mp)
  | _, _, .nil, _, _, r => r
  | _, _, .cons q t, _, _, r => RepK.merge t (r.put q)
theorem pairs_rep {D : Addr → Prop} {H : Hp} {K : PySem.W.Frag} : ∀ {vs : List V} {ps : List P} {l : List (Key × P)}, Reps D H vs ps → pairsP ps = some l → ∃ (ads : List Addr) (kvs : List (Key × V)), vs = ads.map V.ref ∧ Paired (fun p kv => SqT K H p [kV kv.1, kv.2]) ads kvs ∧ RepK D H kvs l
  | _, _, _, .nil, e => by cases e; exact ⟨[], [], rfl, .nil, .nil⟩
  | _, _, l, @Reps.cons _ _ v (.tup [a, b]) vs ps r t, e => by
    unfold pairsP at e
    split at e
    · rename_i k l' e1 e2
      cases e
      obtain ⟨ads, kvs, rfl, h2, h3⟩ := pairs_rep (K := K) t e2
      obtain ⟨d, xs, rfl, _, hr, rs⟩ := rep_tup r
      cases rs with
      | cons ra rs =>
        cases rs with
        | cons rb rs =>
          cases rs
          rw [keyP_ok ra e1] at hr
          exact ⟨d :: ads, (k, _) :: kvs, rfl, .cons (.inl hr) h2, .cons rb h3⟩
    · cases e
  | _, _, _, @Reps.cons _ _ v (.tup []) vs ps r t, e => by cases e
  | _, _, _, @Reps.cons _ _ v (.tup [_]) vs ps r t, e => by cases e
  | _, _, _, @Reps.cons _ _ v (.tup (_ :: _ :: _ :: _)) vs ps r t, e => by cases e
  | _, _, _, @Reps.cons _ _ v .non vs ps r t, e => by cases e
  | _, _, _, @Reps.cons _ _ v (.bl _) vs ps r t, e => by cases e
  | _, _, _, @Reps.cons _ _ v (.int _) vs ps r t, e => by cases e
  | _, _, _, @Reps.cons _ _ v (.str _) vs ps r t, e => by cases e
  | _, _, _, @Reps.cons _ _ v (.ref _) vs ps r t, e => by cases e
  | _, _, _, @Reps.cons _ _ v (.ty _) vs ps r t, e => by cases e
  | _, _, _, @Reps.cons _ _ v (.lst _) vs ps r t, e => by cases e
  | _, _, _, @Reps.cons _ _ v (.dct _) vs ps r t, e => by cases e
  | _, _, _, @Reps.cons _ _ v (.ins _ _) vs ps r t, e => by cases e
  | _, _, _, @Reps.cons _ _ v (.set _ _) vs ps r t, e => by cases e
def fDictP (c : Kind) : List W → Μ → O W := fun ws μ => match ws with
  | [w] => match (rdL μ w).bind pairsP with
    | some l => mkD c (mergeP [] l) μ
    | none => .bad
  | _ => .bad
theorem ad_dictP {K : PySem.W.Frag} {c : Kind} : AdC Wx (fun xs H Q => ∃ (a : Addr) (ps : List Addr) (kvs : List (Key × V)), xs = [.ref a] ∧ SqL K H a (ps.map V.ref) ∧ Paired (fun p kv => SqT K H p [kV kv.1, kv.2]) ps kvs ∧
    ∀ p, H p = none → Q (.ref p) (upd H p (.dK (mergeK [] kvs)))) (fDictP c) := fun D as μ σ H vs ws Q k r g => by
  unfold fDictP at g
  split at g
  · split at g
    · rename_i l e
      obtain ⟨ps, e1, e2⟩ := Option.bind_eq_some_iff.mp e
      obtain ⟨v, rfl, rv⟩ := repWs1 r
      obtain ⟨a, xs, rfl, hs, rs⟩ := rdL_ok k rv e1
      obtain ⟨ads, kvs, rfl, h2, h3⟩ := pairs_rep (K := K) rs e2
      exact ⟨a, ads, kvs, rfl, .inl hs, h2, mkD_ok k g (RepK.merge h3 .nil)⟩
    · exact g.elim
  · exact g.elim
/-- list(xs), list(t) -/
def fListL (c : Kind) : List W → Μ → O W := fun ws μ => match ws with
  | [w] => match seqP μ w with
    | some ps => mkL c ps μ
    | none => .bad
  | _ => .bad
theorem ad_listL {K : PySem.W.Frag} {c : Kind} : AdC Wx (fun xs H Q => ∃ p ys, xs = [.ref p] ∧ (SqL K H p ys ∨ SqT K H p ys) ∧ ∀ l, H l = none → Q (.ref l) (upd H l (.lst ys))) (fListL c) := fun D as μ σ H vs ws Q k r g => by
  unfold fListL at g
  split at g
  · split at g
    · rename_i ps e
      obtain ⟨v, rfl, rv⟩ := repWs1 r
      obtain ⟨a, xs, rfl, hs, rs⟩ := seqP_ok (K := K) k rv e
      exact ⟨a, xs, rfl, hs, mkL_ok k g rs⟩
    · exact g.elim
  · exact g.elim
/-- tuple(xs), tuple(t) -/
def fTupL : List W → Μ → O W := fun ws μ => match ws with
  | [.v (.tup ps)] => .ok (.v (.tup ps)) μ
  | [w] => match rdL μ w with
    | some ps => .ok (.v (.tup ps)) μ
    | none => .bad
  | _ => .bad
theorem ad_tupL {K : PySem.W.Frag} : AdC Wx (fun xs H Q => ∃ p ys, xs = [.ref p] ∧ ((SqL K H p ys ∧ ∀ l, H l = none → Q (.ref l) (upd H l (.tup ys))) ∨ (SqT K H p ys ∧ Q (.ref p) H))) fTupL := fun D as μ σ H vs ws Q k r g => by
  unfold fTupL at g
  split at g
  · obtain ⟨v, rfl, rv⟩ := repWs1 r
    obtain ⟨a, xs, rfl, _, hr, rs⟩ := rep_tup rv
    exact ⟨a, xs, rfl, .inr ⟨.inl hr, nowV k g rv⟩⟩
  · split at g
    · rename_i ps e
      obtain ⟨v, rfl, rv⟩ := repWs1 r
      obtain ⟨a, xs, rfl, hs, rs⟩ := rdL_ok k rv e
      exact ⟨a, xs, rfl, .inl ⟨.inl hs, newT k g rs⟩⟩
    · exact g.elim
  · exact g.elim
/-- list(d), tuple(d), sorted(d) -/
theorem keys_rep {D : Addr → Prop} {H : Hp} : ∀ {xs : List (Key × V)} {ps : List (Key × P)}, RepK D H xs ps → Reps D H (xs.map fun kv => kV kv.1) (ps.map fun kp => keyOf kp.1)
  | _, _, .nil => .nil
  | _, _, .cons _ t => .cons (keyOf_rep _) (keys_rep t)
def fListD (c : Kind) : List W → Μ → O W := fun ws μ => match ws with
  | [w] => match rdD μ w with
    | some ps => mkL c (ps.map fun kp => keyOf kp.1) μ
    | none => .bad
  | _ => .bad
theorem ad_listD {c : Kind} : AdC Wx (fun xs H Q => ∃ (a : Addr) (kvs : List (Key × V)), xs = [.ref a] ∧ Rd H a (.dK kvs) ∧ ∀ p, H p = none → Q (.ref p) (upd H p (.lst (kvs.map fun kv => kV kv.1)))) (fListD c) := fun D as μ σ H vs ws Q k r g => by
  unfold fListD at g
  split at g
  · split at g
    · rename_i ps e
      obtain ⟨v, rfl, rv⟩ := repWs1 r
      obtain ⟨a, xs, rfl, hs, rs⟩ := rdD_ok k rv e
      exact ⟨a, xs, rfl, hs, mkL_ok k g (keys_rep rs)⟩
    · exact g.elim
  · exact g.elim
def fTupD : List W → Μ → O W := fun ws μ => match ws with
  | [w] => match rdD μ w with
    | some ps => .ok (.v (.tup (ps.map fun kp => keyOf kp.1))) μ
    | none => .bad
  | _ => .bad
theorem ad_tupD : AdC Wx (fun xs H Q => ∃ (a : Addr) (kvs : List (Key × V)), xs = [.ref a] ∧ Rd H a (.dK kvs) ∧ ∀ p H', H p = none → Same H H' → H' p = some (.tup (kvs.map fun kv => kV kv.1)) → Q (.ref p) H') fTupD := fun D as μ σ H vs ws Q k r g => by
  unfold fTupD at g
  split at g
  · split at g
    · rename_i ps e
      obtain ⟨v, rfl, rv⟩ := repWs1 r
      obtain ⟨a, xs, rfl, hs, rs⟩ := rdD_ok k rv e
      exact ⟨a, xs, rfl, hs, fun p H' np s hp => nowN k s g (.tup (k.nd np) (.inl hp) (Reps.sd (.same s) (keys_rep rs)))⟩
    · exact g.elim
  · exact g.elim
/-- texts alone -/
def strsP : List P → Option (List Str)
  | [] => some []
  | .str z :: r => (strsP r).map (z :: ·)
  | _ :: _ => none
theorem strsP_ok {D : Addr → Prop} {H : Hp} : ∀ {xs : List V} {ps : List P} {zs : List Str}, Reps D H xs ps → strsP ps = some zs → xs = zs.map V.str
  | _, _, _, .nil, e => by cases e; rfl
  | _, _, _, @Reps.cons _ _ v p l m r t, e => by
    cases p with
    | str z =>
      cases q : strsP m with
      | none => rw [strsP, q] at e; cases e
      | some cs =>
        rw [strsP, q] at e
        cases e
        rw [rep_str r, strsP_ok t q]
        rfl
    | _ => cases e
theorem strs_rep {D : Addr → Prop} {H : Hp} : ∀ zs : List Str, Reps D H (zs.map V.str) (zs.map P.str)
  | [] => .nil
  | _ :: r => .cons .str (strs_rep r)
def intsP : List P → Option (List Int)
  | [] => some []
  | .int z :: r => (intsP r).map (z :: ·)
  | _ :: _ => none
theorem intsP_ok {D : Addr → Prop} {H : Hp} : ∀ {xs : List V} {ps : List P} {zs : List Int}, Reps D H xs ps → intsP ps = some zs → xs = zs.map V.int
  | _, _, _, .nil, e => by cases e; rfl
  | _, _, _, @Reps.cons _ _ v p l m r t, e => by
    cases p with
    | int z =>
      cases q : intsP m with
      | none => rw [intsP, q] at e; cases e
      | some cs =>
        rw [intsP, q] at e
        cases e
        rw [rep_int r, intsP_ok t q]
        rfl
    | _ => cases e
theorem ints_rep {D : Addr → Prop} {H : Hp} : ∀ zs : List Int, Reps D H (zs.map V.int) (zs.map P.int)
  | [] => .nil
  | _ :: r => .cons .int (ints_rep r)
/-- sorted, of texts -/
def fSortS : List W → Μ → O W := fun ws μ => match ws with
  | [w] => match (seqP μ w).bind strsP with
    | some zs => if zs.length < 64 then .ok (.v (.lst ((srt zs).map .str))) μ else .bad
    | none => .bad
  | _ => .bad
theorem ad_sortS {K : PySem.W.Frag} : AdC Wx (rSortTp K) fSortS := fun D as μ σ H vs ws Q k r g => by
  unfold fSortS at g
  split at g
  · split at g
    · rename_i zs e
      split at g
      · rename_i hl
        obtain ⟨ps, e1, e2⟩ := Option.bind_eq_some_iff.mp e
        obtain ⟨v, rfl, rv⟩ := repWs1 r
        obtain ⟨a, xs, rfl, hs, rs⟩ := seqP_ok (K := K) k rv e1
        obtain rfl := strsP_ok rs e2
        refine ⟨a, zs, rfl, hs, hl, fun ys p pm so np => ?_⟩
        rw [srt_uniq pm so]
        exact newL k g (strs_rep _) p np
      · exact g.elim
    · exact g.elim
  · exact g.elim
def keysS : List (Key × P) → Option (List Str)
  | [] => some []
  | (.inr z, _) :: r => (keysS r).map (z :: ·)
  | (.inl _, _) :: _ => none
theorem keysS_ok : ∀ {ps : List (Key × P)} {zs : List Str}, keysS ps = some zs → ps.map (·.1) = zs.map Sum.inr
  | [], zs, e => by cases e; rfl
  | (.inr z, p) :: r, zs, e => by
    cases q : keysS r with
    | none => rw [keysS, q] at e; cases e
    | some cs =>
      rw [keysS, q] at e
      cases e
      rw [List.map_cons, keysS_ok q]
      rfl
  | (.inl _, _) :: r, zs, e => by cases e
def fSortD : List W → Μ → O W := fun ws μ => match ws with
  | [w] => match (rdD μ w).bind keysS with
    | some zs => if zs.length < 64 then .ok (.v (.lst ((srt zs).map .str))) μ else .bad
    | none => .bad
  | _ => .bad
theorem ad_sortD : AdC Wx (fun xs H Q => ∃ (a : Addr) (kvs : List (Key × V)) (ks : List Str), xs = [.ref a] ∧ Rd H a (.dK kvs) ∧ kvs.map (·.1) = ks.map Sum.inr ∧ ks.length < 64 ∧ ∀ (ys : List Str) (p : Addr), ys.Perm ks → sortedS ys = true → H p = none → Q (.ref p) (upd H p (.lst (ys.map V.str)))) fSortD := fun D as μ σ H vs ws Q k r g => by
  unfold fSortD at g
  split at g
  · split at g
    · rename_i zs e
      split at g
      · rename_i hl
        obtain ⟨ps, e1, e2⟩ := Option.bind_eq_some_iff.mp e
        obtain ⟨v, rfl, rv⟩ := repWs1 r
        obtain ⟨a, xs, rfl, hs, rs⟩ := rdD_ok k rv e1
        refine ⟨a, xs, zs, rfl, hs, rs.keys.trans (keysS_ok e2), hl, fun ys p pm so np => ?_⟩
        rw [srt_uniq pm so]
        exact newL k g (strs_rep _) p np
      · exact g.elim
    · exact g.elim
  · exact g.elim
/-- the least, the greatest -/
def minL : List Int → Int
  | [] => 0
  | [a] => a
  | a :: b :: r => min a (minL (b :: r))
def maxL : List Int → Int
  | [] => 0
  | [a] => a
  | a :: b :: r => max a (maxL (b :: r))
theorem minL_le : ∀ {l : List Int} {a : Int}, a ∈ l → minL l ≤ a
  | [x], a, h => by
    rw [List.mem_singleton.mp h]
    exact Int.le_refl _
  | x :: y :: r, a, h => by
    rcases List.mem_cons.mp h with rfl | h
    · exact Int.min_le_left _ _
    · exact Int.le_trans (Int.min_le_right _ _) (minL_le h)
theorem minL_mem : ∀ {l : List Int}, l ≠ [] → minL l ∈ l
  | [x], _ => .head _
  | x :: y :: r, _ => by
    have ih := minL_mem (l := y :: r) (by simp)
    show min x (minL (y :: r)) ∈ _
    rw [Int.min_def]
    split
    · exact .head _
    · exact .tail _ ih
theorem le_maxL : ∀ {l : List Int} {a : Int}, a ∈ l → a ≤ maxL l
  | [x], a, h => by
    rw [List.mem_singleton.mp h]
    exact Int.le_refl _
  | x :: y :: r, a, h => by
    rcases List.mem_cons.mp h with rfl | h
    · exact Int.le_max_left _ _
    · exact Int.le_trans (le_maxL h) (Int.le_max_right _ _)
theorem maxL_mem : ∀ {l : List Int}, l ≠ [] → maxL l ∈ l
  | [x], _ => .head _
  | x :: y :: r, _ => by
    have ih := maxL_mem (l := y :: r) (by simp)
    show max x (maxL (y :: r)) ∈ _
    rw [Int.max_def]
    split
    · exact .tail _ ih
    · exact .head _
def fMinL : List W → Μ → O W := fun ws μ => match ws with
  | [w] => match (rdL μ w).bind intsP with
    | some (n :: ns) => .ok (.v (.int (minL (n :: ns)))) μ
    | _ => .bad
  | _ => .bad
theorem ad_minL {K : PySem.W.Frag} : AdC Wx (rMin K) fMinL := fun D as μ σ H vs ws Q k r g => by
  unfold fMinL at g
  split at g
  · split at g
    · rename_i n ns e
      obtain ⟨ps, e1, e2⟩ := Option.bind_eq_some_iff.mp e
      obtain ⟨v, rfl, rv⟩ := repWs1 r
      obtain ⟨a, xs, rfl, hs, rs⟩ := rdL_ok k rv e1
      obtain rfl := intsP_ok rs e2
      refine ⟨a, n :: ns, rfl, .inl hs, Nat.succ_pos _, fun m hm hle => ?_⟩
      have : m = minL (n :: ns) := Int.le_antisymm (hle _ (minL_mem (by simp))) (minL_le hm)
      rw [this]
      exact nowV k g .int
    · exact g.elim
  · exact g.elim
def fMaxL : List W → Μ → O W := fun ws μ => match ws with
  | [w] => match (rdL μ w).bind intsP with
    | some (n :: ns) => .ok (.v (.int (maxL (n :: ns)))) μ
    | _ => .bad
  | _ => .bad
theorem ad_maxL {K : PySem.W.Frag} : AdC Wx (rMax K) fMaxL := fun D as μ σ H vs ws Q k r g => by
  unfold fMaxL at g
  split at g
  · split at g
    · rename_i n ns e
      obtain ⟨ps, e1, e2⟩ := Option.bind_eq_some_iff.mp e
      obtain ⟨v, rfl, rv⟩ := repWs1 r
      obtain ⟨a, xs, rfl, hs, rs⟩ := rdL_ok k rv e1
      obtain rfl := intsP_ok rs e2
      refine ⟨a, n :: ns, rfl, .inl hs, Nat.succ_pos _, fun m hm hle => ?_⟩
      have : m = maxL (n :: ns) := Int.le_antisymm (le_maxL hm) (hle _ (maxL_mem (by simp)))
      rw [this]
      exact nowV k g .int
    · exact g.elim
  · exact g.elim
/-- calls with one int, two ints -/
def fC1 (f : Int → P) : List W → Μ → O W := fun ws μ => match ws with
  | [.v (.int i)] => .ok (.v (f i)) μ
  | _ => .bad
def fC2 (f : Int → Int → P) : List W → Μ → O W := fun ws μ => match ws with
  | [.v (.int i), .v (.int j)] => .ok (.v (f i j)) μ
  | _ => .bad
abbrev fAbs := fC1 fun i => .int i.natAbs
abbrev fMax2 := fC2 fun i j => .int (max i j)
abbrev fMin2 := fC2 fun i j => .int (min i j)
theorem ad_C1 {r : List V → Hp → VK → Prop} {f : Int → P} (h : ∀ D H i Q, (∀ v, Rep D H v (f i) → Q v H) → r [.int i] H Q) : AdC Wx r (fC1 f) := fun D as μ σ H vs ws Q k r' g => by
  unfold fC1 at g
  split at g
  · obtain ⟨v, rfl, rv⟩ := repWs1 r'
    obtain rfl := rep_int rv
    exact h D H _ Q fun v rv => nowV k g rv
  · exact g.elim
theorem ad_C2 {r : List V → Hp → VK → Prop} {f : Int → Int → P} (h : ∀ D H i j Q, (∀ v, Rep D H v (f i j) → Q v H) → r [.int i, .int j] H Q) : AdC Wx r (fC2 f) := fun D as μ σ H vs ws Q k r' g => by
  unfold fC2 at g
  split at g
  · obtain ⟨v, u, rfl, rv, ru⟩ := repWs2 r'
    obtain rfl := rep_int rv
    obtain rfl := rep_int ru
    exact h D H _ _ Q fun v rv => nowV k g rv
  · exact g.elim
theorem ad_abs : AdC Wx (fun xs H Q => ∃ i, xs = [.int i] ∧ Q (.int (if i < 0 then -i else i)) H) fAbs := ad_C1 fun D H i Q h => ⟨i, rfl, by
  have e : (if i < 0 then -i else i) = (i.natAbs : Int) := by split <;> omega
  rw [e]
  exact h _ .int⟩
theorem ad_max2 : AdC Wx (fun xs H Q => ∃ i j, xs = [.int i, .int j] ∧ Q (.int (if j > i then j else i)) H) fMax2 := ad_C2 fun D H i j Q h => ⟨i, j, rfl, by
  have e : (if j > i then j else i) = max i j := by rw [Int.max_def]; split <;> split <;> omega
  rw [e]
  exact h _ .int⟩
theorem ad_min2 : AdC Wx (fun xs H Q => ∃ i j, xs = [.int i, .int j] ∧ Q (.int (if j < i then j else i)) H) fMin2 := ad_C2 fun D H i j Q h => ⟨i, j, rfl, by
  have e : (if j < i then j else i) = min i j := by rw [Int.min_def]; split <;> split <;> omega
  rw [e]
  exact h _ .int⟩
/-- int(i), int(b) -/
def fInt : List W → Μ → O W := fun ws μ => match ws with
  | [.v (.int i)] => .ok (.v (.int i)) μ
  | [.v (.bl b)] => .ok (.v (.int (if b then 1 else 0))) μ
  | _ => .bad
theorem ad_int : AdC Wx (fun xs H Q => (∃ i, xs = [.int i] ∧ Q (.int i) H) ∨ ∃ k, xs = [.bl k] ∧ Q (.int (if k then 1 else 0)) H) fInt := fun D as μ σ H vs ws Q k r' g => by
  unfold fInt at g
  split at g
  · obtain ⟨v, rfl, rv⟩ := repWs1 r'
    obtain rfl := rep_int rv
    exact .inl ⟨_, rfl, nowV k g .int⟩
  · obtain ⟨v, rfl, rv⟩ := repWs1 r'
    obtain rfl := rep_bl rv
    exact .inr ⟨_, rfl, nowV k g .int⟩
  · exact g.elim
/-- divmod -/
def fDivmod : List W → Μ → O W := fun ws μ => match ws with
  | [.v (.int i), .v (.int j)] => if 0 < j ∧ j < 1073741824 then .ok (.v (.tup [.int (i / j), .int (i % j)])) μ else .bad
  | _ => .bad
theorem ad_divmod : AdC Wx (fun xs H Q => ∃ i j, xs = [.int i, .int j] ∧ CDiv i j ∧ ∀ p, H p = none → Q (.ref p) (upd H p (.tup [.int (i / j), .int (i % j)]))) fDivmod := fun D as μ σ H vs ws Q k r' g => by
  unfold fDivmod at g
  split at g
  · split at g
    · rename_i hj
      obtain ⟨v, u, rfl, rv, ru⟩ := repWs2 r'
      obtain rfl := rep_int rv
      obtain rfl := rep_int ru
      exact ⟨_, _, rfl, hj, newT k g (.cons .int (.cons .int .nil))⟩
    · exact g.elim
  · exact g.elim
/-- str(i) -/
def fStrI : List W → Μ → O W := fun ws μ => match ws with
  | [.v (.int i)] => if i.natAbs.log2 < 1920 then .ok (.v (.str (toString i))) μ else .bad
  | _ => .bad
theorem ad_strI : AdC Wx (fun xs H Q => ∃ i : Int, xs = [.int i] ∧ i.natAbs.log2 < 1920 ∧ Q (.str (toString i)) H) fStrI := fun D as μ σ H vs ws Q k r' g => by
  unfold fStrI at g
  split at g
  · split at g
    · rename_i hj
      obtain ⟨v, rfl, rv⟩ := repWs1 r'
      obtain rfl := rep_int rv
      exact ⟨_, rfl, hj, nowV k g .str⟩
    · exact g.elim
  · exact g.elim
/-! ### slices -/
abbrev OF := Γ → Μ → O (Option Int)
def RepOI : RL (Option Int) (Option Int) := fun _ _ _ b a => b = a
def AdO (Wx : WX) (to : TO) (F : OF) : Prop := ∀ D as γ μ σ H Q, Sk D as H μ → EnvR D as H σ γ → G Wx σ RepOI D as H (F γ μ) Q → to σ H Q
def PPO (X : Cx) (Wx : WX) (e : Option Expr) (F : OF) : Prop := ∃ to, PO X e to ∧ AdO Wx to F
def oNone : OF := fun _ μ => .ok none μ
def oSome (F : EF) : OF := fun γ μ => (F γ μ).bind fun w m => match w with
  | .v (.int i) => .ok (some i) m
  | _ => .bad
theorem ppo_none : PPO X Wx none oNone := ⟨_, po_none, fun D as γ μ σ H Q k ev g => g.now (R := RepOI) k rfl⟩
theorem ppo_some (h : PP X Wx e F) : PPO X Wx (some e) (oSome F) := let ⟨_, p, ad⟩ := h; ⟨_, po_some p, fun D as γ μ σ H Q k ev g => by
  refine ad D as γ μ σ H _ k ev ((G.bind RepW k g).mono fun x H1 ⟨D1, as1, μ1, w, n1, k1, r1, g1⟩ => ?_)
  split at g1
  · obtain rfl := rep_int r1
    exact ⟨_, rfl, g1.now (R := RepOI) k1 rfl⟩
  · exact g1.elim⟩
def cutP {α : Type} (xs : List α) (lo hi : Option Int) : List α := (xs.drop (HT.sIx xs.length 0 lo)).take (HT.sIx xs.length xs.length hi - HT.sIx xs.length 0 lo)
theorem cut_rep {D : Addr → Prop} {H : Hp} {xs : List V} {ps : List P} (r : Reps D H xs ps) (lo hi : Option Int) : Reps D H (cutV xs lo hi) (cutP ps lo hi) := by
  unfold cutV cutP
  rw [r.length]
  exact (r.drop _).take _
def AdSl (Wx : WX) (r : V → Option Int → Option Int → Hp → VK → Prop) (f : W → Option Int → Option Int → Μ → O W) : Prop := ∀ D as μ σ H x w lo hi Q, Sk D as H μ → RepW D as H x w → G Wx σ RepW D as H (f w lo hi μ) Q → r x lo hi H Q
def fSl (f : W → Option Int → Option Int → Μ → O W) (F : EF) (L Hi : OF) : EF := fun γ μ => (F γ μ).bind fun w m => (L γ m).bind fun lo m => (Hi γ m).bind fun hi m => f w lo hi m
theorem pp_slice {r} {f} {lo hi : Option Expr} {L Hi : OF} {p2 : Pos} (hr : SlR X r) (h : AdSl Wx r f) (he : PP X Wx e F) (hl : PPO X Wx lo L) (hu : PPO X Wx hi Hi) : PP X Wx (.Subscript e (.Slice lo hi none p2) pos) (fSl f F L Hi) :=
  let ⟨_, p, a⟩ := he; let ⟨_, pl, al⟩ := hl; let ⟨_, ph, ah⟩ := hu; ⟨_, pe_slice hr p pl ph, fun D as γ μ σ H Q k ev g => by
    refine a D as γ μ σ H _ k ev ((G.bind RepW k g).mono fun x H1 ⟨D1, as1, μ1, w, n1, k1, r1, g1⟩ => ?_)
    refine al D1 as1 γ μ1 σ H1 _ k1 (ev.nx n1) ((G.bind RepOI k1 g1).mono fun l H2 ⟨D2, as2, μ2, l', n2, k2, r2, g2⟩ => ?_)
    obtain rfl : l = l' := r2
    refine ah D2 as2 γ μ2 σ H2 _ k2 ((ev.nx n1).nx n2) ((G.bind RepOI k2 g2).mono fun u H3 ⟨D3, as3, μ3, u', n3, k3, r3, g3⟩ => ?_)
    obtain rfl : u = u' := r3
    exact h D3 as3 μ3 σ H3 x w l u Q k3 ((r1.nx n2).nx n3) g3⟩
def fSlL : W → Option Int → Option Int → Μ → O W := fun w lo hi μ => match rdL μ w with
  | some ps => .ok (.v (.lst (cutP ps lo hi))) μ
  | none => .bad
theorem ad_slL {K : PySem.W.Frag} : AdSl Wx (rSlL K) fSlL := fun D as μ σ H x w lo hi Q k r g => by
  unfold fSlL at g
  split at g
  · rename_i ps e
    obtain ⟨a, xs, rfl, hs, rs⟩ := rdL_ok k r e
    exact ⟨a, xs, rfl, .inl hs, newL k g (cut_rep rs lo hi)⟩
  · exact g.elim
def fSlS : W → Option Int → Option Int → Μ → O W := fun w lo hi μ => match w with
  | .v (.str z) => if z.length ≤ sizeLine then .ok (.v (.str (cutS z lo hi))) μ else .bad
  | _ => .bad
theorem ad_slS : AdSl Wx rSlS fSlS := fun D as μ σ H x w lo hi Q k r g => by
  unfold fSlS at g
  split at g
  · split at g
    · rename_i hz
      exact ⟨_, rep_str r, hz, nowV k g .str⟩
    · exact g.elim
  · exact g.elim
/-! ### in a list -/
def flatP : P → Bool
  | .non | .bl _ | .int _ | .str _ => true
  | _ => false
def eqF : P → P → Bool
  | .non, .non => true
  | .bl a, .bl b => a == b
  | .bl a, .int b => (if a then 1 else 0) == b
  | .int a, .bl b => a == (if b then 1 else 0)
  | .int a, .int b => a == b
  | .str a, .str b => a == b
  | _, _ => false
theorem eqF_ok {D : Addr → Prop} {H : Hp} {x y : V} {p q : P} (rx : Rep D H x p) (ry : Rep D H y q) (fp : flatP p = true) (fq : flatP q = true) : flatV x = true ∧ eqV x y = eqF p q := by
  cases rx <;> cases ry <;> first | exact ⟨rfl, rfl⟩ | cases fp | cases fq
def fIn (neg : Bool) : W → W → Μ → O W := fun x y μ => match x, seqP μ y with
  | .v p, some ps => if flatP p = true ∧ ps.all flatP = true then .ok (.v (.bl ((ps.any fun q => eqF q p) != neg))) μ else .bad
  | _, _ => .bad
theorem all_flat {D : Addr → Prop} {H : Hp} {x : V} {p : P} (rx : Rep D H x p) (fp : flatP p = true) : ∀ {xs : List V} {ps : List P}, Reps D H xs ps → ps.all flatP = true → xs.all flatV = true ∧ inV x xs = ps.any fun q => eqF q p
  | _, _, .nil, _ => ⟨rfl, rfl⟩
  | _, _, .cons r t, h => by
    rw [List.all_cons, Bool.and_eq_true] at h
    obtain ⟨a, b⟩ := all_flat rx fp t h.2
    obtain ⟨c, d⟩ := eqF_ok r rx h.1 fp
    refine ⟨by rw [List.all_cons, c, a]; rfl, ?_⟩
    unfold inV at *
    rw [List.any_cons, List.any_cons, d, b]
theorem ad_in {K : PySem.W.Frag} {neg : Bool} : AdR2 Wx (rIn K neg) (fIn neg) := fun D as μ σ H x y a b Q k ra rb g => by
  unfold fIn at g
  split at g
  · rename_i p ps e
    split at g
    · rename_i hf
      obtain ⟨l, xs, rfl, hs, rs⟩ := seqP_ok (K := K) k rb e
      obtain ⟨h1, h2⟩ := all_flat ra hf.1 rs hf.2
      refine ⟨l, xs, rfl, hs, (eqF_ok ra ra hf.1 hf.1).1, h1, ?_⟩
      rw [h2]
      have := nowV (x := .bl ((ps.any fun q => eqF q p) != neg)) k g .bl
      cases neg <;> simpa using this
    · exact g.elim
  · exact g.elim
end
end Pu
set_option Elab.async false
set_option linter.all false
set_option maxRecDepth 100000
set_option maxHeartbeats 4000000
namespace Pu
open L2 PySem PySem.Spec PyProof.Rows E10
/-! ### operators of own objects (no error comes out) -/
/-- a special method of the class C, with a pure promise -/
structure DS (P : Program) (w : World) (K : PySem.W.Frag) (mg : Str → Option Value) (base : Heap) (C : Addr) (m : Str) (n : Nat) (k : Nat) (F : FF) : Prop where
  ex : ∃ (f : Addr) (fd : FuncData) (ps : List Str), ps.length = n ∧ FnX P w K mg base k f fd ps (spP n F) ∧ Has K C f m ∧ Binds K fd ps []
theorem DS.g {P w K mg base C m n k F} (d : DS P w K mg base C m n k F) : ∃ (f : Addr) (fd : FuncData) (ps : List Str), FnG P w K mg base k f fd ps (noE (spP n F)) ∧ Has K C f m ∧ Binds K fd ps [] :=
  let ⟨f, fd, ps, _, F, h, b⟩ := d.ex; ⟨f, fd, ps, F.g, h, b⟩
def isC (C : Addr) (μ : Μ) (w : W) : Bool := match rdI μ w with
  | some (C', _) => decide (C' = C)
  | none => false
theorem isC_ok {C : Addr} {D as H} {μ : Μ} {v : V} {w : W} (k : Sk D as H μ) (r : RepW D as H v w) (h : isC C μ w = true) : ∃ a dx fs, v = .ref a ∧ H a = some (.ins C dx fs) := by
  unfold isC at h
  split at h
  · rename_i C' ps e
    have := of_decide_eq_true h
    subst this
    obtain ⟨a, dx, xs, rfl, h, _⟩ := rdI_ok k r e
    exact ⟨a, dx, xs, rfl, h⟩
  · cases h
def fOwn2 (C : Addr) (F : FF) : W → W → Μ → O W := fun x y μ => if isC C μ x = true ∧ isC C μ y = true then (F [x, y] μ).nx else .bad
def fOwnI (C : Addr) (F : FF) : W → W → Μ → O W := fun x y μ => match y with
  | .v (.int i) => if isC C μ x = true then (F [x, .v (.int i)] μ).nx else .bad
  | _ => .bad
def fIOwn (C : Addr) (F : FF) : W → W → Μ → O W := fun x y μ => match x with
  | .v (.int i) => if isC C μ y = true then (F [y, .v (.int i)] μ).nx else .bad
  | _ => .bad
section
variable {X : Cx} {Wx : WX} {a b e o : Expr} {es : List Expr} {F F1 F2 : EF} {A : AF} {C : Addr} {FF' : FF} {k : Nat} {pos p : Pos}
theorem nowSp {D as H} {μ : Μ} {σ : L2.St} {Q : VK} {E : XK} {vs : List V} {ws : List W} {n : Nat} (k : Sk D as H μ) (r : RepWs D as H vs ws) (hl : vs.length = n) (g : G Wx σ RepW D as H (FF' ws μ).nx Q) : noE (spP n FF') vs H Q E := ⟨hl, D, as, ws, μ, k, r, G_nx g⟩
theorem ad_ownI : AdR2 Wx (rOwnI C (noE (spP 2 FF'))) (fOwnI C FF') := fun D as μ σ H x y wx wy Q k ra rb g => by
  unfold fOwnI at g
  split at g
  · split at g
    · rename_i i h
      obtain ⟨a, dx, fs, rfl, ha⟩ := isC_ok k ra h
      obtain rfl := rep_int rb
      exact ⟨a, dx, fs, i, rfl, rfl, ha, nowSp k (.cons ra (.cons rb .nil)) rfl g⟩
    · exact g.elim
  · exact g.elim
theorem ad_iown : AdR2 Wx (rIOwn C (noE (spP 2 FF'))) (fIOwn C FF') := fun D as μ σ H x y wx wy Q k ra rb g => by
  unfold fIOwn at g
  split at g
  · split at g
    · rename_i i h
      obtain ⟨a, dx, fs, rfl, ha⟩ := isC_ok k rb h
      obtain rfl := rep_int ra
      exact ⟨a, dx, fs, i, rfl, rfl, ha, nowSp k (.cons rb (.cons ra .nil)) rfl g⟩
    · exact g.elim
  · exact g.elim
/-- int and own object -/
structure IntK (K : PySem.W.Frag) (C : Addr) : Prop where
  sf : PySem.W.selfFirst K C = true
  s1 : PySem.W.subIn K (.type "int") (.ref C) = some false
  s2 : PySem.W.subIn K (.ref C) (.type "int") = some false
theorem pp_addI (hf : ∃ fo ro rc : Option Value, PySem.W.findIn X.K (.ref C) (dunderR Operator.Add.info.2) = some rc ∧ (rc = none ∨ ∃ g : Addr, rc = some (.ref g)) ∧ PySem.W.findIn X.K (.type "int") (PySem.dunder Operator.Add.info.2) = some fo ∧ PySem.W.findIn X.K (.type "int") (dunderR Operator.Add.info.2) = some ro)
    (d : DS X.prog X.w X.K X.mg X.base C (PySem.dunder Operator.Add.info.2) 2 k FF') (i : IntK X.K C) (hG : X.A.guards = some []) (hr : Room k X.A) (ha : PP X Wx a F1) (hb : PP X Wx b F2) : PP X Wx (.BinOp a .Add b pos) (fOp (fOwnI C FF') F1 F2) := by
  obtain ⟨fo, ro, rc, h1, h2, h3, h4⟩ := hf
  obtain ⟨f, fd, ps, FG, h, bi⟩ := d.g
  exact pp_op (op_ownI FG hG hr bi i.sf h h1 h2 h3 h4 i.s1) ad_ownI ha hb
theorem pp_subI (hf : ∃ fo ro rc : Option Value, PySem.W.findIn X.K (.ref C) (dunderR Operator.Sub.info.2) = some rc ∧ (rc = none ∨ ∃ g : Addr, rc = some (.ref g)) ∧ PySem.W.findIn X.K (.type "int") (PySem.dunder Operator.Sub.info.2) = some fo ∧ PySem.W.findIn X.K (.type "int") (dunderR Operator.Sub.info.2) = some ro)
    (d : DS X.prog X.w X.K X.mg X.base C (PySem.dunder Operator.Sub.info.2) 2 k FF') (i : IntK X.K C) (hG : X.A.guards = some []) (hr : Room k X.A) (ha : PP X Wx a F1) (hb : PP X Wx b F2) : PP X Wx (.BinOp a .Sub b pos) (fOp (fOwnI C FF') F1 F2) := by
  obtain ⟨fo, ro, rc, h1, h2, h3, h4⟩ := hf
  obtain ⟨f, fd, ps, FG, h, bi⟩ := d.g
  exact pp_op (op_ownI FG hG hr bi i.sf h h1 h2 h3 h4 i.s1) ad_ownI ha hb
/-! ### ==, != by an own __eq__ -/
def nfP (cs : List Addr) (t : Value) : Bool := match t with
  | .type n => n ∈ ["int", "str", "NoneType", "bool", "list", "tuple", "dict"]
  | .ref C => decide (C ∈ cs)
  | _ => false
structure EqK (K : PySem.W.Frag) (C : Addr) (cs : List Addr) : Prop where
  ins : ∀ C ∈ cs, InsK K C
  nf : ∀ t, nfP cs t = true → PySem.W.notFirst K C t = true
  ne : NeBy K C
def fEqO (C : Addr) (cs : List Addr) (F : FF) : W → W → Μ → O W := fun x y μ => if isC C μ x = true then match tyP cs μ y with
    | some t => if nfP cs t = true then (F [x, y] μ).nx else .bad
    | none => .bad
  else .bad
def notB : W → Μ → O W := fun w μ => match w with
  | .v (.bl b) => .ok (.v (.bl (!b))) μ
  | _ => .bad
def fNeO (C : Addr) (cs : List Addr) (F : FF) : W → W → Μ → O W := fun x y μ => (fEqO C cs F x y μ).bind notB
theorem ad_eqO {K : PySem.W.Frag} {cs : List Addr} (h : EqK K C cs) : AdR2 Wx (rEqO K C (noE (spP 2 FF'))) (fEqO C cs FF') := fun D as μ σ H x y wx wy Q k ra rb g => by
  unfold fEqO at g
  split at g
  · rename_i hx
    split at g
    · rename_i t e
      split at g
      · rename_i hn
        obtain ⟨a, dx, fs, rfl, ha⟩ := isC_ok k ra hx
        exact ⟨a, dx, fs, t, rfl, ha, tyP_ok h.ins k rb e, h.nf t hn, nowSp k (.cons ra (.cons rb .nil)) rfl g⟩
      · exact g.elim
    · exact g.elim
  · exact g.elim
theorem ad_neO {K : PySem.W.Frag} {cs : List Addr} (h : EqK K C cs) : AdR2 Wx (rNeO K C (noE (spP 2 FF'))) (fNeO C cs FF') := fun D as μ σ H x y wx wy Q k ra rb g => by
  have g2 := G.bind RepW k g
  unfold fEqO at g2
  split at g2
  · rename_i hx
    split at g2
    · rename_i t e
      split at g2
      · rename_i hn
        obtain ⟨a, dx, fs, rfl, ha⟩ := isC_ok k ra hx
        refine ⟨a, dx, fs, t, rfl, ha, tyP_ok h.ins k rb e, h.nf t hn, nowSp k (.cons ra (.cons rb .nil)) rfl (g2.mono fun v H1 ⟨D1, as1, μ1, w, n1, k1, r1, g1⟩ => ?_)⟩
        unfold notB at g1
        split at g1
        · obtain rfl := rep_bl r1
          exact ⟨_, rfl, nowV k1 g1 .bl⟩
        · exact g1.elim
      · exact g2.elim
    · exact g2.elim
  · exact g2.elim
theorem pp_eqO {cs : List Addr} (d : DS X.prog X.w X.K X.mg X.base C "__eq__" 2 k FF') (h : EqK X.K C cs) (hG : X.A.guards = some []) (hr : Room k X.A) (hu : X.A.units < cLine) (ha : PP X Wx a F1) (hb : PP X Wx b F2) : PP X Wx (.Compare a [.Eq] [b] pos) (fOp (fEqO C cs FF') F1 F2) := by
  obtain ⟨f, fd, ps, FG, hs, bi⟩ := d.g
  exact pp_cmp (op_eqO FG hG hr hu bi hs) (ad_eqO h) ha hb
theorem pp_neO {cs : List Addr} (d : DS X.prog X.w X.K X.mg X.base C "__eq__" 2 k FF') (h : EqK X.K C cs) (hG : X.A.guards = some []) (hr : Room (k + 1) X.A) (hu : X.A.units + 1 < cLine) (ha : PP X Wx a F1) (hb : PP X Wx b F2) : PP X Wx (.Compare a [.NotEq] [b] pos) (fOp (fNeO C cs FF') F1 F2) := by
  obtain ⟨f, fd, ps, FG, hs, bi⟩ := d.g
  exact pp_cmp (op_neO FG hG hr hu bi hs h.ne) (ad_neO h) ha hb
/-! ### len, in, [] -/
def fLenO (C : Addr) (F : FF) : List W → Μ → O W := fun ws μ => match ws with
  | [x] => if isC C μ x = true then ((F [x] μ).nx).bind fun w m => match w with
      | .v (.int n) => if 0 ≤ n ∧ n < 2 ^ 61 then .ok (.v (.int n)) m else .bad
      | _ => .bad
    else .bad
  | _ => .bad
theorem ad_lenO : AdC Wx (rLenO C (noE (spP 1 FF'))) (fLenO C FF') := fun D as μ σ H vs ws Q k r g => by
  unfold fLenO at g
  split at g
  · split at g
    · rename_i x hx
      obtain ⟨v, rfl, rv⟩ := repWs1 r
      obtain ⟨a, dx, fs, rfl, ha⟩ := isC_ok k rv hx
      refine ⟨a, dx, fs, rfl, ha, nowSp k (.cons rv .nil) rfl ((G.bind RepW k g).mono fun v H1 ⟨D1, as1, μ1, w, n1, k1, r1, g1⟩ => ?_)⟩
      split at g1
      · split at g1
        · rename_i n hn
          obtain rfl := rep_int r1
          have : (2 : Int) ^ 61 = 2305843009213693952 := by decide
          have : (2 : Nat) ^ 62 = 4611686018427387904 := by decide
          refine ⟨n.toNat, ?_, by omega, ?_⟩
          · congr 1
            omega
          · have e : ((n.toNat : Nat) : Int) = n := by omega
            rw [e]
            exact nowV k1 g1 .int
        · exact g1.elim
      · exact g1.elim
    · exact g.elim
  · exact g.elim
theorem pp_lenO {x : Str} (d : DS X.prog X.w X.K X.mg X.base C "__len__" 1 k FF') (hG : X.A.guards = some []) (hr : Room (k + 1) X.A) (hg : Gl X x) (hm : X.mg x = none) (hv : bootBuiltins x = some (.builtin "len")) (ha : PPA X Wx (e :: es) A) (hn : x ≠ "__name__" := by decide) (hdb : (x == ("__debug__" : Str)) = false := by decide)
    (he : starEach (e :: es) X.env = (false, eval e X.env) :: starEach es X.env := by rfl) (hpl : (backTo pos (starEach es X.env)).any (·.1) = false := by rfl) : PP X Wx (.Call (.Name x p) (e :: es) [] pos) (fCall (fLenO C FF') A) := by
  obtain ⟨f, fd, ps, FG, hs, bi⟩ := d.g
  exact pp_callB (call_lenO FG hG hr bi hs) hg hm hv ad_lenO ha hn hdb he hpl
def fInO (C : Addr) (neg : Bool) (F : FF) : W → W → Μ → O W := fun x y μ => if isC C μ y = true then ((F [y, x] μ).nx).bind fun w m => match w with
    | .v (.bl b) => .ok (.v (.bl (if neg then !b else b))) m
    | _ => .bad
  else .bad
theorem ad_inO {neg : Bool} : AdR2 Wx (rInO C (noE (spP 2 FF')) neg) (fInO C neg FF') := fun D as μ σ H x y wx wy Q k ra rb g => by
  unfold fInO at g
  split at g
  · rename_i hx
    obtain ⟨a, dx, fs, rfl, ha⟩ := isC_ok k rb hx
    refine ⟨a, dx, fs, rfl, ha, nowSp k (.cons rb (.cons ra .nil)) rfl ((G.bind RepW k g).mono fun v H1 ⟨D1, as1, μ1, w, n1, k1, r1, g1⟩ => ?_)⟩
    split at g1
    · obtain rfl := rep_bl r1
      exact ⟨_, rfl, nowV k1 g1 .bl⟩
    · exact g1.elim
  · exact g.elim
theorem pp_inO (d : DS X.prog X.w X.K X.mg X.base C "__contains__" 2 k FF') (hG : X.A.guards = some []) (hr : Room k X.A) (ha : PP X Wx a F1) (hb : PP X Wx b F2) (hm : behindInMarks .In b = false := by rfl) : PP X Wx (.Compare a [.In] [b] pos) (fOp (fInO C false FF') F1 F2) := by
  obtain ⟨f, fd, ps, FG, hs, bi⟩ := d.g
  exact pp_cmp (op_inO FG hG hr bi hs) ad_inO ha hb hm
def fIxO (C : Addr) (F : FF) : W → W → Μ → O W := fun x y μ => if isC C μ x = true then (F [x, y] μ).nx else .bad
theorem pp_ixO (d : DS X.prog X.w X.K X.mg X.base C "__getitem__" 2 k FF') (fi : ∀ f, Has X.K C f "__getitem__" → PySem.W.fnIn X.K f = true) (hG : X.A.guards = some []) (hr : Room (k + 1) X.A) (ha : PP X Wx a F1) (hb : PP X Wx b F2)
    (hs : ∀ (x : Addr) (i : Value), subscripted b true (.ref x) i = runValue (.builtin "lifetime.subscript" ⟨[.ref x, i], []⟩) := by intro x i; with_unfolding_all rfl) : PP X Wx (.Subscript a b pos) (fOp (fIxO C FF') F1 F2) := by
  obtain ⟨f, fd, ps, FG, h, bi⟩ := d.g
  obtain ⟨_, pa, aa⟩ := ha
  obtain ⟨_, pb, ab⟩ := hb
  refine ⟨_, pe_ixO FG hG hr bi h (fi f h) pa pb hs, ad_op (fun D as μ σ H x y wx wy Q k ra rb g => ?_) aa ab⟩
  unfold fIxO at g
  split at g
  · rename_i hx
    obtain ⟨a, dx, fs, rfl, ha⟩ := isC_ok k ra hx
    exact ⟨a, dx, fs, rfl, ha, nowSp k (.cons ra (.cons rb .nil)) rfl g⟩
  · exact g.elim
/-! ### an own object called -/
def fCallO (C : Addr) (F : FF) (Fo : EF) (A : AF) : EF := fun γ μ => (Fo γ μ).bind fun w m1 => if isC C m1 w = true then (A γ m1).bind fun ws m2 => if isC C m2 w = true then F (w :: ws) m2 else .bad else .bad
/-! ### str(x), repr(x) of own objects -/
def fTxtO (C : Addr) (F : FF) : List W → Μ → O W := fun ws μ => match ws with
  | [x] => if isC C μ x = true then ((F [x] μ).nx).bind fun w m => match w with
      | .v (.str z) => .ok (.v (.str z)) m
      | _ => .bad
    else .bad
  | _ => .bad
theorem ad_txtO : AdC Wx (rTextO C (noE (spP 1 FF'))) (fTxtO C FF') := fun D as μ σ H vs ws Q k r g => by
  unfold fTxtO at g
  split at g
  · split at g
    · rename_i x hx
      obtain ⟨v, rfl, rv⟩ := repWs1 r
      obtain ⟨a, dx, fs, rfl, ha⟩ := isC_ok k rv hx
      refine ⟨a, dx, fs, rfl, ha, nowSp k (.cons rv .nil) rfl ((G.bind RepW k g).mono fun v H1 ⟨D1, as1, μ1, w, n1, k1, r1, g1⟩ => ?_)⟩
      split at g1
      · obtain rfl := rep_str r1
        exact ⟨_, rfl, nowV k1 g1 .str⟩
      · exact g1.elim
    · exact g.elim
  · exact g.elim
end
end Pu
set_option Elab.async false
set_option linter.all false
set_option maxRecDepth 100000
set_option maxHeartbeats 4000000
namespace Pu
open L2 PySem PySem.Spec PyProof.Rows E10
/-! ### one rule for several kinds -/
def O.or {α : Type} (o p : O α) : O α := match o with
  | .bad => p
  | o => o
@[simp] theorem O.or_bad {α : Type} (p : O α) : O.bad.or p = p := rfl
@[simp] theorem O.or_ok {α : Type} (a m) (p : O α) : (O.ok a m).or p = .ok a m := rfl
@[simp] theorem O.or_exc {α : Type} (C fs m) (p : O α) : (O.exc C fs m : O α).or p = .exc C fs m := rfl
def f2or (f g : W → W → Μ → O W) : W → W → Μ → O W := fun x y μ => (f x y μ).or (g x y μ)
def fcor (f g : List W → Μ → O W) : List W → Μ → O W := fun ws μ => (f ws μ).or (g ws μ)
theorem G.or {α β : Type} {Wx : WX} {σ : L2.St} {R : RL β α} {D : Addr → Prop} {as : Ps} {H : Hp} {o p : O α} {Q : β → Hp → Prop} (g : G Wx σ R D as H (o.or p) Q) : G Wx σ R D as H o Q ∨ G Wx σ R D as H p Q := by
  cases o with
  | bad => exact .inr g
  | ok a m => exact .inl g
  | exc C fs m => exact .inl g
section
variable {X : Cx} {Wx : WX} {a b e : Expr} {es : List Expr} {F F1 F2 : EF} {A : AF} {pos : Pos}
theorem AdR2.or {r r' : R2} {f g} (h : AdR2 Wx r f) (h' : AdR2 Wx r' g) : AdR2 Wx (fun x y H Q => r x y H Q ∨ r' x y H Q) (f2or f g) := fun D as μ σ H x y a b Q k ra rb gg =>
  (G.or gg).elim (fun z => .inl (h D as μ σ H x y a b Q k ra rb z)) fun z => .inr (h' D as μ σ H x y a b Q k ra rb z)
theorem AdC.or {r r'} {f g} (h : AdC Wx r f) (h' : AdC Wx r' g) : AdC Wx (fun xs H Q => r xs H Q ∨ r' xs H Q) (fcor f g) := fun D as μ σ H vs ws Q k r gg =>
  (G.or gg).elim (fun z => .inl (h D as μ σ H vs ws Q k r z)) fun z => .inr (h' D as μ σ H vs ws Q k r z)
theorem AdSl.or {r r'} {f g : W → Option Int → Option Int → Μ → O W} (h : AdSl Wx r f) (h' : AdSl Wx r' g) : AdSl Wx (fun x lo hi H Q => r x lo hi H Q ∨ r' x lo hi H Q) (fun w lo hi μ => (f w lo hi μ).or (g w lo hi μ)) := fun D as μ σ H x w lo hi Q k r gg =>
  (G.or gg).elim (fun z => .inl (h D as μ σ H x w lo hi Q k r z)) fun z => .inr (h' D as μ σ H x w lo hi Q k r z)
/-! arithmetic -/
abbrev gAdd := f2or fAdd (f2or fCatS fCat)
theorem pp_add (ha : PP X Wx a F1) (hb : PP X Wx b F2) : PP X Wx (.BinOp a .Add b pos) (fOp gAdd F1 F2) := pp_op (op_add.or (op_add_str.or op_catR)) (ad_add.or (ad_catS.or ad_cat)) ha hb
theorem pp_sub (ha : PP X Wx a F1) (hb : PP X Wx b F2) : PP X Wx (.BinOp a .Sub b pos) (fOp fSub F1 F2) := pp_op op_sub ad_sub ha hb
theorem pp_mod (ha : PP X Wx a F1) (hb : PP X Wx b F2) : PP X Wx (.BinOp a .Mod b pos) (fOp fMod F1 F2) := pp_op op_mod ad_mod ha hb
theorem pp_div (ha : PP X Wx a F1) (hb : PP X Wx b F2) : PP X Wx (.BinOp a .FloorDiv b pos) (fOp fDiv F1 F2) := pp_op op_fdiv ad_div ha hb
theorem pp_pow (ha : PP X Wx a F1) (hb : PP X Wx b F2) : PP X Wx (.BinOp a .Pow b pos) (fOp fPow F1 F2) := pp_op op_pow ad_pow ha hb
theorem pp_neg (ha : PP X Wx a F1) : PP X Wx (.UnaryOp .USub a pos) (fUn fNeg F1) := pp_un un_neg ad_neg ha
/-! comparisons -/
abbrev gLt := f2or (fI0 fun i j => .bl (decide (i < j))) (fSS (fun _ _ => true) fun i j => .bl (strLt i j))
abbrev gLe := f2or (fI0 fun i j => .bl (decide (i ≤ j))) (fSS (fun _ _ => true) fun i j => .bl (leS i j))
abbrev gGt := f2or (fI0 fun i j => .bl (decide (j < i))) (fSS (fun _ _ => true) fun i j => .bl (strLt j i))
theorem or_lt : OpR X (compareOp .Lt) (fun x y H Q => rI0 (fun i j => .bl (decide (i < j))) x y H Q ∨ ∃ i j, x = .str i ∧ y = .str j ∧ Q (.bl (decide (i.cps.toList < j.cps.toList))) H) := op_lt.or op_lt_str
theorem ag_lt : AdR2 Wx (fun x y H Q => rI0 (fun i j => .bl (decide (i < j))) x y H Q ∨ ∃ i j, x = .str i ∧ y = .str j ∧ Q (.bl (decide (i.cps.toList < j.cps.toList))) H) gLt := ad_lt.or ad_ltS
theorem or_le : OpR X (compareOp .LtE) (fun x y H Q => rI0 (fun i j => .bl (decide (i ≤ j))) x y H Q ∨ ∃ i j, x = .str i ∧ y = .str j ∧ Q (.bl (!decide (j.cps.toList < i.cps.toList))) H) := op_le.or op_le_str
theorem ag_le : AdR2 Wx (fun x y H Q => rI0 (fun i j => .bl (decide (i ≤ j))) x y H Q ∨ ∃ i j, x = .str i ∧ y = .str j ∧ Q (.bl (!decide (j.cps.toList < i.cps.toList))) H) gLe :=
  ad_le.or (ad_SS fun D H i j Q c h => ⟨_, _, rfl, rfl, h _ .bl⟩)
theorem or_gt : OpR X (compareOp .Gt) (fun x y H Q => rI0 (fun i j => .bl (decide (j < i))) x y H Q ∨ ∃ i j, x = .str i ∧ y = .str j ∧ Q (.bl (decide (j.cps.toList < i.cps.toList))) H) := op_gt.or op_gt_str
theorem ag_gt : AdR2 Wx (fun x y H Q => rI0 (fun i j => .bl (decide (j < i))) x y H Q ∨ ∃ i j, x = .str i ∧ y = .str j ∧ Q (.bl (decide (j.cps.toList < i.cps.toList))) H) gGt :=
  ad_gt.or (ad_SS fun D H i j Q c h => ⟨_, _, rfl, rfl, h _ .bl⟩)
theorem pp_gt (ha : PP X Wx a F1) (hb : PP X Wx b F2) : PP X Wx (.Compare a [.Gt] [b] pos) (fOp gGt F1 F2) := pp_cmp or_gt ag_gt ha hb
/-! data, compared -/
def mapO {α β : Type} (f : α → Option β) : List α → Option (List β)
  | [] => some []
  | x :: r => (f x).bind fun y => (mapO f r).map (y :: ·)
def toD : Nat → P → Option PyData
  | _, .non => some .none
  | _, .bl b => some (.bool b)
  | _, .int i => some (.int i)
  | _, .str x => some (.str x)
  | n + 1, .lst ps => (mapO (toD n) ps).map .list
  | n + 1, .tup ps => (mapO (toD n) ps).map .tuple
  | _, _ => none
theorem toD_ok {K : PySem.W.Frag} {D : Addr → Prop} {H : Hp} : ∀ {n : Nat} {v : V} {p : P} {d : PyData}, Rep D H v p → toD n p = some d → Dp K H v d := by
  intro n
  induction n with
  | zero =>
    intro v p d r h
    cases r <;> cases h <;> first | exact .non | exact .bl _ | exact .int _ | exact .str _
  | succ n ih =>
    have all : ∀ {vs ps ds}, Reps D H vs ps → mapO (toD n) ps = some ds → DpAll K H vs ds := by
      intro vs ps ds r
      induction ps generalizing vs ds with
      | nil => intro h; cases r; cases h; exact .nil
      | cons p ps ih2 =>
        intro h
        cases r with
        | cons r t =>
          obtain ⟨d, e1, e2⟩ := Option.bind_eq_some_iff.mp h
          obtain ⟨ds', e3, rfl⟩ := Option.map_eq_some_iff.mp e2
          exact .cons (ih r e1) (ih2 t e3)
    intro v p d r h
    cases r with
    | non => cases h; exact .non
    | bl => cases h; exact .bl _
    | int => cases h; exact .int _
    | str => cases h; exact .str _
    | lst _ hr rs =>
      obtain ⟨ds, e, rfl⟩ := Option.map_eq_some_iff.mp h
      exact .lst (.inl hr) (all rs e)
    | tup _ hr rs =>
      obtain ⟨ds, e, rfl⟩ := Option.map_eq_some_iff.mp h
      exact .tup (.inl hr) (all rs e)
    | _ => cases h
def frzV (μ : Μ) : W → Option P
  | .v p => some p
  | .loc j => (μ[j]?).bind PC.p
theorem toD_okW {K : PySem.W.Frag} {D as H} {μ : Μ} {v : V} {w : W} {n : Nat} {d : PyData} (k : Sk D as H μ) (r : RepW D as H v w) (h : (frzV μ w).bind (toD n) = some d) : Dp K H v d := by
  obtain ⟨p, e1, e2⟩ := Option.bind_eq_some_iff.mp h
  cases w with
  | v q => cases e1; exact toD_ok r e2
  | loc j =>
    obtain ⟨c, q, e3⟩ := Option.bind_eq_some_iff.mp e1
    obtain ⟨a, ea, rfl, x⟩ := r.adr k q (fun z => by rw [z] at e3; cases e3)
    cases c with
    | lst ps =>
      cases e3
      obtain ⟨xs, hx, rs⟩ := x
      exact toD_ok (D := fun _ => False) (.lst (fun z => z) (.inl hx) (Reps.sd ⟨fun _ _ _ _ z => z, fun _ _ _ z => z, fun _ _ _ z _ => z⟩ rs)) e2
    | lstL ps =>
      cases e3
      obtain ⟨od, xs, hx, rs⟩ := x
      exact toD_ok (D := fun _ => False) (.lst (fun z => z) (.inr ⟨od, hx⟩) (Reps.sd ⟨fun _ _ _ _ z => z, fun _ _ _ z => z, fun _ _ _ z _ => z⟩ rs)) e2
    | dctL ps => cases e3; cases n <;> cases e2
    | dct ps => cases e3; cases n <;> cases e2
    | ins C ps => cases e3; cases n <;> cases e2
    | dead => cases e3
def fEqD (neg : Bool) : W → W → Μ → O W := fun x y μ => match (frzV μ x).bind (toD 6), (frzV μ y).bind (toD 6) with
  | some d, some e => if SeqAt.shaped d = true ∧ SeqAt.shaped e = true then .ok (.v (.bl (PyData.eqv d e != neg))) μ else .bad
  | _, _ => .bad
theorem ad_eqD {K : PySem.W.Frag} : AdR2 Wx (rEqD K) (fEqD false) := fun D as μ σ H x y wx wy Q k ra rb g => by
  unfold fEqD at g
  split at g
  · rename_i d e h1 h2
    split at g
    · rename_i hs
      refine ⟨d, e, toD_okW k ra h1, toD_okW k rb h2, hs.1, hs.2, ?_⟩
      have := nowV (x := .bl (PyData.eqv d e != false)) k g .bl
      simpa using this
    · exact g.elim
  · exact g.elim
theorem ad_neD {K : PySem.W.Frag} : AdR2 Wx (rNeD K) (fEqD true) := fun D as μ σ H x y wx wy Q k ra rb g => by
  unfold fEqD at g
  split at g
  · rename_i d e h1 h2
    split at g
    · rename_i hs
      refine ⟨d, e, toD_okW k ra h1, toD_okW k rb h2, hs.1, hs.2, ?_⟩
      have := nowV (x := .bl (PyData.eqv d e != true)) k g .bl
      simpa using this
    · exact g.elim
  · exact g.elim
/-! dicts of flat values, compared -/
def hitP (l : List (Key × P)) : List (Key × P) → Bool
  | [] => true
  | (k, p) :: r => match valP l k with
    | some q => eqF p q && hitP l r
    | none => false
def eqK (x y : List (Key × P)) : Bool := x.length == y.length && hitP y x
theorem hits_rep {D : Addr → Prop} {H : Hp} {A : Around} {s : Shared} {ls : List (Key × V)} {vb : List (Key × Value)} {lp : List (Key × P)} (rb : KV ls vb) (rl : RepK D H ls lp) (fl : lp.all (fun kp => flatP kp.2) = true) :
    ∀ {ks : List (Key × V)} {va : List (Key × Value)} {kp : List (Key × P)}, KV ks va → RepK D H ks kp → kp.all (fun x => flatP x.2) = true → PySem.W.KeqHits A s vb va (hitP lp kp)
  | _, _, _, .nil, .nil, _ => .nil
  | _, _, _, @Paired.cons _ _ _ (k, v) (k2, u) ps qs h t, @RepK.cons _ _ _ _ p _ m r t', fk => by
    obtain ⟨h1, h2⟩ := h
    simp only at h1 h2
    subst h1
    rw [List.all_cons, Bool.and_eq_true] at fk
    have ih := hits_rep (A := A) (s := s) rb rl fl t t' fk.2
    have ro := rb.val k
    cases e : valP lp k with
    | none =>
      have z := rl.val_none e
      rw [z] at ro
      have : valueAt vb k = none := by
        cases q : valueAt vb k with
        | none => rfl
        | some y => rw [q] at ro; exact ro.elim
      simp only [hitP, e]
      exact .miss this
    | some q =>
      obtain ⟨y, hy, ry⟩ := rl.val e
      rw [hy] at ro
      obtain ⟨u', hu', ru'⟩ := RelO.some_of ro
      simp only [hitP, e]
      have fq : flatP q = true := by
        unfold valP at e
        obtain ⟨kq, h3, rfl⟩ := Option.map_eq_some_iff.mp e
        exact List.all_eq_true.mp fl kq (List.mem_of_find?_eq_some h3)
      have e1 := (eqF_ok r ry fk.1 fq)
      have f2 := (eqF_ok ry ry fq fq).1
      rw [← e1.2]
      exact .hit hu' (eqAt_V h2 ru' e1.1 f2) ih
def rEqK : R2 := fun x y H Q => ∃ D a b xs ys ps qs, x = .ref a ∧ y = .ref b ∧ Rd H a (.dK xs) ∧ Rd H b (.dK ys) ∧ RepK D H xs ps ∧ RepK D H ys qs ∧ ps.all (fun x => flatP x.2) = true ∧ qs.all (fun x => flatP x.2) = true ∧ Q (.bl (eqK ps qs)) H
def rNeK : R2 := fun x y H Q => ∃ D a b xs ys ps qs, x = .ref a ∧ y = .ref b ∧ Rd H a (.dK xs) ∧ Rd H b (.dK ys) ∧ RepK D H xs ps ∧ RepK D H ys qs ∧ ps.all (fun x => flatP x.2) = true ∧ qs.all (fun x => flatP x.2) = true ∧ Q (.bl (!eqK ps qs)) H
theorem op_eqK (hu : X.A.units < cLine) : OpR X (compareOp .Eq) rEqK := by
  intro pins s σ H x y v u Q I rx ry h
  obtain ⟨D, a, b, xs, ys, ps, qs, rfl, rfl, ha, hb, rp, rq, fp, fq, q⟩ := h
  cases (show v = Value.ref a from rx)
  cases (show u = Value.ref b from ry)
  obtain ⟨_, za, va, ra, da⟩ := dk_rd I.hok ha
  obtain ⟨_, zb, vb, rb, db⟩ := dk_rd I.hok hb
  refine PySem.W.keq_eq (knd := mixKind X.prog X.w) za zb da db hu (fun _ => hits_rep rb rq fq ra rp fp) ⟨.bl (eqK ps qs), H, I, ?_, q⟩
  show Value.bool _ = Value.bool _
  unfold eqK
  rw [← rp.length, ← rq.length, ra.length, rb.length]
theorem op_neK (hu : X.A.units < cLine) : OpR X (compareOp .NotEq) rNeK := by
  intro pins s σ H x y v u Q I rx ry h
  obtain ⟨D, a, b, xs, ys, ps, qs, rfl, rfl, ha, hb, rp, rq, fp, fq, q⟩ := h
  cases (show v = Value.ref a from rx)
  cases (show u = Value.ref b from ry)
  obtain ⟨_, za, va, ra, da⟩ := dk_rd I.hok ha
  obtain ⟨_, zb, vb, rb, db⟩ := dk_rd I.hok hb
  refine PySem.W.keq_ne (knd := mixKind X.prog X.w) za zb da db hu (fun _ => hits_rep rb rq fq ra rp fp) ⟨.bl (!eqK ps qs), H, I, ?_, q⟩
  show Value.bool _ = Value.bool _
  unfold eqK
  rw [← rp.length, ← rq.length, ra.length, rb.length]
def fEqK (neg : Bool) : W → W → Μ → O W := fun x y μ => match rdD μ x, rdD μ y with
  | some ps, some qs => if ps.all (fun x => flatP x.2) = true ∧ qs.all (fun x => flatP x.2) = true then .ok (.v (.bl (eqK ps qs != neg))) μ else .bad
  | _, _ => .bad
theorem ad_eqK : AdR2 Wx rEqK (fEqK false) := fun D as μ σ H x y wx wy Q k ra rb g => by
  unfold fEqK at g
  split at g
  · rename_i ps qs h1 h2
    split at g
    · rename_i hs
      obtain ⟨a, xs, rfl, ha, rp⟩ := rdD_ok k ra h1
      obtain ⟨b, ys, rfl, hb, rq⟩ := rdD_ok k rb h2
      refine ⟨D, a, b, xs, ys, ps, qs, rfl, rfl, ha, hb, rp, rq, hs.1, hs.2, ?_⟩
      have := nowV (x := .bl (eqK ps qs != false)) k g .bl
      simpa using this
    · exact g.elim
  · exact g.elim
theorem ad_neK : AdR2 Wx rNeK (fEqK true) := fun D as μ σ H x y wx wy Q k ra rb g => by
  unfold fEqK at g
  split at g
  · rename_i ps qs h1 h2
    split at g
    · rename_i hs
      obtain ⟨a, xs, rfl, ha, rp⟩ := rdD_ok k ra h1
      obtain ⟨b, ys, rfl, hb, rq⟩ := rdD_ok k rb h2
      refine ⟨D, a, b, xs, ys, ps, qs, rfl, rfl, ha, hb, rp, rq, hs.1, hs.2, ?_⟩
      have := nowV (x := .bl (eqK ps qs != true)) k g .bl
      simpa using this
    · exact g.elim
  · exact g.elim
abbrev gNe := f2or (fEqS true) (f2or (fEqK true) (fEqD true))
/-! in -/
theorem op_dinR (hu : X.A.units + 1 < cLine) : OpR X (compareOp .In) (fun y x H Q => ∃ a o, x = .ref a ∧ DGet H a y o ∧ Q (.bl (o.isSome != false)) H) := by
  intro pins s σ H y x v u Q I ry rx h
  obtain ⟨a, o, rfl, g, q⟩ := h
  cases (show u = Value.ref a from rx)
  exact d_in hu I g ry fun s' I' => ⟨.bl o.isSome, H, I', rfl, by simpa using q⟩
theorem op_dnotinR (hu : X.A.units + 1 < cLine) : OpR X (compareOp .NotIn) (fun y x H Q => ∃ a o, x = .ref a ∧ DGet H a y o ∧ Q (.bl (o.isSome != true)) H) := by
  intro pins s σ H y x v u Q I ry rx h
  obtain ⟨a, o, rfl, g, q⟩ := h
  cases (show u = Value.ref a from rx)
  exact d_notIn hu I g ry fun s' I' => ⟨.bl (!o.isSome), H, I', rfl, by simpa using q⟩
end
end Pu
set_option Elab.async false
set_option linter.all false
set_option maxRecDepth 100000
set_option maxHeartbeats 4000000
namespace Pu
open L2 PySem PySem.Spec PyProof.Rows E10
section
variable {X : Cx} {Wx : WX} {a b e tg : Expr} {es : List Expr} {F F1 F2 : EF} {A : AF} {pos p : Pos}
abbrev gIn (neg : Bool) := f2or (fIn neg) (fDIn neg)
theorem pp_in (hu : X.A.units + 1 < cLine) (ha : PP X Wx a F1) (hb : PP X Wx b F2) (hm : behindInMarks .In b = false := by rfl) : PP X Wx (.Compare a [.In] [b] pos) (fOp (gIn false) F1 F2) := pp_cmp (op_in_seq.or (op_dinR hu)) (ad_in.or ad_dinR) ha hb hm
/-- a[b] -/
abbrev gIx := f2or fIxL (f2or fIxT (f2or fIxS fDGet))
theorem pe_or {t t' : TE} (h : PE X e t) (h' : PE X e t') : PE X e (fun σ H Q => t σ H Q ∨ t' σ H Q) := ⟨fun pins s σ H Q I z => z.elim (h.run pins s σ H Q I) (h'.run pins s σ H Q I)⟩
theorem pp_alt (h : PP X Wx e F1) (h' : PP X Wx e F2) : PP X Wx e (fun γ μ => (F1 γ μ).or (F2 γ μ)) := let ⟨_, p, a⟩ := h; let ⟨_, p', a'⟩ := h'; ⟨_, pe_or p p', fun D as γ μ σ H Q k ev g => (G.or g).elim (fun z => .inl (a D as γ μ σ H Q k ev z)) fun z => .inr (a' D as γ μ σ H Q k ev z)⟩
theorem pp_eqF (h : PP X Wx e F1) (q : F2 = F1) : PP X Wx e F2 := q ▸ h
theorem ad_ixOr : AdR2 Wx (fun x y H Q => rIxL X.K x y H Q ∨ rIxT X.K x y H Q ∨ rIxS x y H Q) (f2or fIxL (f2or fIxT fIxS)) := ad_ixL.or (ad_ixT.or ad_ixS)
theorem bind_or {α β : Type} (o : O α) (f g : α → Μ → O β) : (o.bind f).or (o.bind g) = o.bind fun a m => (f a m).or (g a m) := by
  cases o <;> rfl
theorem fOp_or (f g : W → W → Μ → O W) (A B : EF) : fOp (f2or f g) A B = fun γ μ => (fOp f A B γ μ).or (fOp g A B γ μ) := by
  funext γ μ
  unfold fOp f2or
  rw [bind_or]
  congr 1
  funext x m
  rw [bind_or]
theorem O.or_assoc {α : Type} (a b c : O α) : (a.or b).or c = a.or (b.or c) := by cases a <;> rfl
theorem pp_idx (hu : X.A.units + 1 < cLine) (ha : PP X Wx a F1) (hb : PP X Wx b F2) (hs : PlainIx b := by exact fun _ _ => rfl) (hs2 : NoSl b := by exact fun _ _ => rfl) : PP X Wx (.Subscript a b pos) (fOp gIx F1 F2) := by
  have h1 : PP X Wx (.Subscript a b pos) (fOp (f2or fIxL (f2or fIxT fIxS)) F1 F2) := pp_ix (ix_list.or (ix_tup.or ix_str)) ad_ixOr ha hb hs
  have h2 : PP X Wx (.Subscript a b pos) (fOp fDGet F1 F2) := pp_dget hu ha hb hs2
  refine pp_eqF (pp_alt h1 h2) ?_
  funext γ μ
  rw [← congrFun (congrFun (fOp_or (f2or fIxL (f2or fIxT fIxS)) fDGet F1 F2) γ) μ]
  congr 1
  funext x y m
  show ((fIxL x y m).or ((fIxT x y m).or ((fIxS x y m).or (fDGet x y m)))) = ((fIxL x y m).or ((fIxT x y m).or (fIxS x y m))).or (fDGet x y m)
  rw [O.or_assoc, O.or_assoc]
/-- len -/
abbrev gLen := fcor fLenS (fcor fLenL fLenD)
theorem pp_len {x : Str} (hg : Gl X x) (hm : X.mg x = none) (hv : bootBuiltins x = some (.builtin "len")) (ha : PPA X Wx (e :: es) A) (hn : x ≠ "__name__" := by decide) (hdb : (x == ("__debug__" : Str)) = false := by decide)
    (he : starEach (e :: es) X.env = (false, eval e X.env) :: starEach es X.env := by rfl) (hpl : (backTo pos (starEach es X.env)).any (·.1) = false := by rfl) : PP X Wx (.Call (.Name x p) (e :: es) [] pos) (fCall gLen A) :=
  pp_callB (call_len_str.or (call_len_seq.or call_lenDr)) hg hm hv (ad_lenS.or (ad_lenL.or ad_lenD)) ha hn hdb he hpl
/-- what is walked -/
def iAnyW : W → Μ → O (List P) := fun w m => match w with
  | .v (.lst ps) => few ps m
  | .v (.tup ps) => few ps m
  | .v (.str z) => few (chrP z) m
  | .v (.dct kvs) => few (kvs.map fun kp => keyOf kp.1) m
  | .loc j => match m[j]? with
    | some (.lstL ps) => few ps m
    | some (.dctL kvs) => few (kvs.map fun kp => keyOf kp.1) m
    | _ => .bad
  | _ => .bad
def iAny (F : EF) : IF := fun γ μ => (F γ μ).bind iAnyW
theorem ppi_any (h : PP X Wx e F) : PPI X Wx tg e (iAny F) := by
  obtain ⟨te, p, ad⟩ := h
  refine ⟨fun σ H R => iList X.K te σ H R ∨ iTup X.K te σ H R ∨ iStr te σ H R ∨ iKeys (tFrz te) σ H R, ⟨fun pins s σ H R I h => ?_⟩, fun D as γ μ σ H R k ev g => ?_⟩
  · rcases h with h | h | h | h
    · exact (pi_list p).run pins s σ H R I h
    · exact (pi_tup p).run pins s σ H R I h
    · exact (pi_str p).run pins s σ H R I h
    · exact (pi_keys (pe_frz p)).run pins s σ H R I h
  · unfold iAny at g
    cases o : F γ μ with
    | bad => rw [o] at g; exact g.elim
    | exc C fs m => refine .inl (ad_iList ad D as γ μ σ H R k ev ?_); unfold iLst; rw [o] at g ⊢; exact g
    | ok w m =>
      rw [o] at g
      simp only [O.bind_ok] at g
      unfold iAnyW at g
      split at g
      · exact .inl (ad_iList ad D as γ μ σ H R k ev (by unfold iLst; rw [o]; exact g))
      · exact .inr (.inl (ad_iTup ad D as γ μ σ H R k ev (by unfold iTupP; rw [o]; exact g)))
      · exact .inr (.inr (.inl (ad_iStr ad D as γ μ σ H R k ev (by unfold iStrP; rw [o]; exact g))))
      · exact .inr (.inr (.inr (ad_iKeys ad D as γ μ σ H R k ev (by unfold iKeysP iDct; rw [o]; exact g))))
      · split at g
        · rename_i j ps q
          refine .inl (ad_iLstW ad D as γ μ σ H R k ev ?_)
          unfold iLstW
          rw [o]
          simp only [O.bind_ok, wkL, q]
          exact g
        · rename_i j ps q
          refine .inr (.inr (.inr (ad_iKeys ad D as γ μ σ H R k ev ?_)))
          unfold iKeysP iDct
          rw [o]
          simp only [O.bind_ok, dctB, q]
          exact g
        · exact g.elim
      · exact g.elim
/-- slices -/
abbrev gSl : W → Option Int → Option Int → Μ → O W := fun w lo hi μ => (fSlL w lo hi μ).or (fSlS w lo hi μ)
/-- dict, list, tuple, sorted, min, max, int -/
abbrev gDict (c : Kind) := fcor (fDictD c) (fDictP c)
abbrev gList (c : Kind) := fcor (fListL c) (fListD c)
abbrev gTupB := fcor fTupL fTupD
abbrev gMin := fcor fMin2 fMinL
abbrev gMax := fcor fMax2 fMaxL
section
variable {x : Str}
theorem b_dict : bootBuiltins "dict" = some (.type "dict") := by decide +kernel
theorem b_list : bootBuiltins "list" = some (.type "list") := by decide +kernel
theorem b_tuple : bootBuiltins "tuple" = some (.type "tuple") := by decide +kernel
theorem b_int : bootBuiltins "int" = some (.type "int") := by decide +kernel
theorem b_str : bootBuiltins "str" = some (.type "str") := by decide +kernel
theorem b_bool : bootBuiltins "bool" = some (.type "bool") := by decide +kernel
theorem b_sorted : bootBuiltins "sorted" = some (.builtin "sorted") := by decide +kernel
theorem b_min : bootBuiltins "min" = some (.builtin "min") := by decide +kernel
theorem b_max : bootBuiltins "max" = some (.builtin "max") := by decide +kernel
theorem b_abs : bootBuiltins "abs" = some (.builtin "abs") := by decide +kernel
theorem b_len : bootBuiltins "len" = some (.builtin "len") := by decide +kernel
theorem b_all : bootBuiltins "all" = some (.builtin "all") := by decide +kernel
theorem b_any : bootBuiltins "any" = some (.builtin "any") := by decide +kernel
theorem b_divmod : bootBuiltins "divmod" = some (.builtin "divmod") := by decide +kernel
theorem b_isi : bootBuiltins "isinstance" = some (.builtin "isinstance") := by decide +kernel
theorem b_repr : bootBuiltins "repr" = some (.builtin "repr") := by decide +kernel
end
end
end Pu
set_option Elab.async false
set_option linter.all false
set_option maxRecDepth 100000
set_option maxHeartbeats 4000000
/-! ### sets of texts: filled from a dict, joined -/
namespace E10
open L2 PySem PySem.Spec PyProof.Rows
theorem SetT.perm {P : Program} {w : World} {h : Heap} {a : Addr} {zs ys : List Str} (R : SetT P w h a zs) (pm : zs.Perm ys) : SetT P w h a ys := by
  obtain ⟨o, es, ep, t, h1, h2, h3, D⟩ := R
  exact ⟨o, es, ep, t, h1, h2, h3, D.good, D.perm.trans pm, pm.nodup_iff.mp D.nd, pm.length_eq ▸ D.few, D.fits, D.ris, D.led⟩
end E10
set_option Elab.async false
set_option linter.all false
set_option maxRecDepth 100000
set_option maxHeartbeats 4000000
namespace E10
open L2 PySem PySem.Spec PyProof.Rows
end E10
set_option Elab.async false
set_option linter.all false
set_option maxRecDepth 100000
set_option maxHeartbeats 4000000
/-! ### sets of texts -/
namespace Pu
open L2 PySem PySem.Spec PyProof.Rows E10
abbrev SF' := Addr → List Str → HO
open Classical in
noncomputable def isS (S : SF') (w : W) : Option (List Str) := match w with
  | .v (.set f zs) => if f = S then some zs else none
  | _ => none
theorem isS_ok {S : SF'} {w : W} {zs : List Str} (h : isS S w = some zs) : w = .v (.set S zs) := by
  unfold isS at h
  split at h
  · rename_i f ys
    by_cases c : f = S
    · rw [if_pos c] at h
      cases h
      rw [c]
    · rw [if_neg c] at h
      cases h
  · cases h
section
variable {X : Cx} {Wx : WX} {a b e : Expr} {es : List Expr} {F F1 F2 : EF} {A : AF} {pos p : Pos}
variable {Pg : Program} {w : World} {K : PySem.W.Frag}
noncomputable def fSortT (S : SF') : List W → Μ → O W := fun ws μ => match ws with
  | [x] => match isS S x with
    | some zs => if zs.length < 64 then .ok (.v (.lst ((srt zs).map .str))) μ else .bad
    | none => .bad
  | _ => .bad
theorem ad_sortT : AdC Wx (rSortT Pg w) (fSortT (SetTO Pg w)) := fun D as μ σ H vs ws Q k r g => by
  unfold fSortT at g
  split at g
  · split at g
    · rename_i zs e
      split at g
      · rename_i hl
        cases isS_ok e
        obtain ⟨v, rfl, rv⟩ := repWs1 r
        cases rv with
        | set n1 h1 s1 =>
          refine ⟨_, zs, rfl, h1, hl, fun ys p pm so np => ?_⟩
          rw [srt_uniq pm so]
          exact newL k g (strs_rep _) p np
      · exact g.elim
    · exact g.elim
  · exact g.elim
/-! calls by the built-ins' names: whatever is given -/
variable {x : Str}
noncomputable abbrev gSort' (S : SF') := fcor fSortS (fcor fSortD (fSortT S))
theorem pp_sorted (hc : X.calm = true) (hg : Gl X "sorted") (hm : X.mg "sorted" = none) (ha : PPA X Wx (e :: es) A) (he : starEach (e :: es) X.env = (false, eval e X.env) :: starEach es X.env := by rfl) (hpl : (backTo pos (starEach es X.env)).any (·.1) = false := by rfl) :
    PP X Wx (.Call (.Name "sorted" p) (e :: es) [] pos) (fCall (gSort' (SetTO X.prog X.w)) A) := pp_callB (call_sortTp.or ((call_sortedD hc).or (call_sortedT hc))) hg hm b_sorted (ad_sortS.or (ad_sortD.or ad_sortT)) ha (by decide) (by decide) he hpl
theorem pp_dict (c : Kind) (hc : X.calm = true) (hg : Gl X "dict") (hm : X.mg "dict" = none) (ha : PPA X Wx (e :: es) A) (he : starEach (e :: es) X.env = (false, eval e X.env) :: starEach es X.env := by rfl) (hpl : (backTo pos (starEach es X.env)).any (·.1) = false := by rfl) :
    PP X Wx (.Call (.Name "dict" p) (e :: es) [] pos) (fCall (gDict c) A) := pp_callTy (call_dictD.or (call_dictP hc)) hg hm b_dict (ad_dictD.or ad_dictP) ha (by decide) (by decide) he hpl
theorem pp_list (c : Kind) (hc : X.calm = true) (hg : Gl X "list") (hm : X.mg "list" = none) (ha : PPA X Wx (e :: es) A) (he : starEach (e :: es) X.env = (false, eval e X.env) :: starEach es X.env := by rfl) (hpl : (backTo pos (starEach es X.env)).any (·.1) = false := by rfl) :
    PP X Wx (.Call (.Name "list" p) (e :: es) [] pos) (fCall (gList c) A) := pp_callTy (call_list_of.or (call_listD hc)) hg hm b_list (ad_listL.or ad_listD) ha (by decide) (by decide) he hpl
theorem pp_tuple (hc : X.calm = true) (hg : Gl X "tuple") (hm : X.mg "tuple" = none) (ha : PPA X Wx (e :: es) A) (he : starEach (e :: es) X.env = (false, eval e X.env) :: starEach es X.env := by rfl) (hpl : (backTo pos (starEach es X.env)).any (·.1) = false := by rfl) :
    PP X Wx (.Call (.Name "tuple" p) (e :: es) [] pos) (fCall gTupB A) := pp_callTy (call_tuple_of.or (call_tupleD hc)) hg hm b_tuple (ad_tupL.or ad_tupD) ha (by decide) (by decide) he hpl
theorem pp_min (hc : X.calm = true) (hg : Gl X "min") (hm : X.mg "min" = none) (ha : PPA X Wx (e :: es) A) (he : starEach (e :: es) X.env = (false, eval e X.env) :: starEach es X.env := by rfl) (hpl : (backTo pos (starEach es X.env)).any (·.1) = false := by rfl) :
    PP X Wx (.Call (.Name "min" p) (e :: es) [] pos) (fCall gMin A) := pp_callB ((call_min2 hc).or (cr_min hc)) hg hm b_min (ad_min2.or ad_minL) ha (by decide) (by decide) he hpl
theorem pp_max (hc : X.calm = true) (hg : Gl X "max") (hm : X.mg "max" = none) (ha : PPA X Wx (e :: es) A) (he : starEach (e :: es) X.env = (false, eval e X.env) :: starEach es X.env := by rfl) (hpl : (backTo pos (starEach es X.env)).any (·.1) = false := by rfl) :
    PP X Wx (.Call (.Name "max" p) (e :: es) [] pos) (fCall gMax A) := pp_callB ((call_max2 hc).or (cr_max hc)) hg hm b_max (ad_max2.or ad_maxL) ha (by decide) (by decide) he hpl
theorem pp_abs (hg : Gl X "abs") (hm : X.mg "abs" = none) (ha : PPA X Wx (e :: es) A) (he : starEach (e :: es) X.env = (false, eval e X.env) :: starEach es X.env := by rfl) (hpl : (backTo pos (starEach es X.env)).any (·.1) = false := by rfl) :
    PP X Wx (.Call (.Name "abs" p) (e :: es) [] pos) (fCall fAbs A) := pp_callB call_abs hg hm b_abs ad_abs ha (by decide) (by decide) he hpl
end
end Pu
set_option Elab.async false
set_option linter.all false
set_option maxRecDepth 100000
set_option maxHeartbeats 4000000
/-! ### == of two lists of own objects, where it gives True -/
namespace Pu
open L2 PySem PySem.Spec PyProof.Rows E10 HT PySem.SeqAt PySem.AutoSeq1 PySem.MeetsSeq PySem.MeetsSeq2 PySem.MeetsSeq3
section
variable {X : Cx} {Wx : WX} {a b e o : Expr} {es : List Expr} {F F1 F2 : EF} {A : AF} {C : Addr} {FF' : FF} {k : Nat} {pos p : Pos}
/-- str.join -/
def fJoin : EF → EF → EF := fun F1 F2 γ μ => (F1 γ μ).bind fun x m => match x with
  | .v (.str a) => (F2 γ m).bind fun y m2 => match (seqP m2 y).bind strsP with
    | some zs => if (zs.map (·.length)).sum + zs.length * a.length ≤ 16777216 then .ok (.v (.str (Txt.join a zs))) m2 else .bad
    | none => .bad
  | _ => .bad
theorem pp_join {apos : Pos} (ho : PP X Wx o F1) (he : PP X Wx e F2) (hs : starEach [e] X.env = [(false, eval e X.env)] := by rfl) (hbase : attributeBase o "join" X.env (eval o X.env) = eval o X.env := by rfl) (hline : (apos.endLine == pos.line) = true := by rfl) :
    PP X Wx (.Call (.Attribute o "join" apos) [e] [] pos) (fJoin F1 F2) := by
  obtain ⟨t1, p1, a1⟩ := ho
  obtain ⟨t2, p2, a2⟩ := he
  refine ⟨_, pe_join p1 p2 hs hbase hline, fun D as γ μ σ H Q k ev g => ?_⟩
  refine a1 D as γ μ σ H _ k ev ((G.bind RepW k g).mono fun x H1 ⟨D1, as1, μ1, wx, n1, k1, r1, g1⟩ => ?_)
  split at g1
  · rename_i z
    cases r1
    refine ⟨⟨z, rfl⟩, a2 D1 as1 γ μ1 σ H1 _ k1 (ev.nx n1) ((G.bind RepW k1 g1).mono fun y H2 ⟨D2, as2, μ2, wy, n2, k2, r2, g2⟩ => ?_)⟩
    split at g2
    · rename_i zs ez
      split at g2
      · rename_i hl
        obtain ⟨ps, e1, e2⟩ := Option.bind_eq_some_iff.mp ez
        obtain ⟨a, xs, rfl, hq, rs⟩ := seqP_ok (K := X.K) k2 r2 e1
        obtain rfl := strsP_ok rs e2
        exact ⟨z, a, zs, rfl, rfl, hq, hl, nowV k2 g2 .str⟩
      · exact g2.elim
    · exact g2.elim
  · exact g1.elim
/-- list * int -/
def rRepR' : R2 := fun x y H Q => ∃ l k xs, x = .ref l ∧ y = .int k ∧ Rd H l (.lst xs) ∧ -(2 ^ 63) ≤ k ∧ k < 2 ^ 63 ∧ xs.length * k.toNat ≤ sizeLine ∧ ∀ p, H p = none → Q (.ref p) (upd H p (.lst (List.replicate k.toNat xs).flatten))
theorem op_repR : OpR X (binaryOp .Mult) rRepR' := by
  intro pins s σ H x y v u Q I rx ry h
  obtain ⟨l, k, xs, rfl, rfl, hH, h1, h2, hz, q⟩ := h
  cases rx
  obtain ⟨t, rfl⟩ := ry
  obtain ⟨z, its, n, r, e⟩ := hH.ok I.hok
  have hl := r.length
  have hlen : its.toArray.size * k.toNat ≤ sizeLine := by rw [List.size_toArray, ← hl]; exact hz
  have hcap : ¬ its.toArray.size * k.toNat > (2 ^ 63 - 1) / 8 := by
    have : (sizeLine : Nat) ≤ (2 ^ 63 - 1) / 8 := by decide
    omega
  have hfit : ¬ (!Builtin.List.listFitsIndex k) = true := by
    rw [fitsIndex_both h1 h2]
    exact Bool.false_ne_true
  have hlong : ¬ Builtin.List.listTooLong (its.toArray.size * k.toNat) = true := by
    rw [notLongL hlen]
    exact Bool.false_ne_true
  have hnew : List.foldl (fun x1 x2 => x1 ++ x2) #[] (List.replicate (if its.toArray.isEmpty = true then 0 else k.toNat) its.toArray) = (List.replicate k.toNat its).flatten.toArray := by
    have f0 : ∀ m : Nat, List.foldl (fun x1 x2 => x1 ++ x2) #[] (List.replicate m its.toArray) = (List.replicate m its).flatten.toArray := fun m => by
      have := foldl_rep its m []
      rw [List.nil_append] at this
      exact this
    rw [f0]
    cases its with
    | nil => simp
    | cons a r' => rw [if_neg (by simp)]
  refine wpAny_binaryOp_repeat_ref (T := "list") (U := "int") (by decide) ⟨_, e, rfl⟩ (fun s' => typeIs_int s' k t) noFill_list_mul F.fills_int_mul F.slot_int_rmul repeat_list F.slot_int_index.lookup
    (call_meets F.slot_int_rmul (typeIs_int s k t) F.entry_int_rmul (F.args_int_rmul_2 _ _) (int___rmul___int_list k t l its.toArray n)
      ⟨e, rfl, ⟨_, e, rfl⟩, call_meets F.slot_list_mul ⟨_, e, rfl⟩ F.entry_list_mul (F.args_list_mul_2 _ _) (AutoListH.list___mul___list_int_3 l its.toArray n k t hfit hcap hlong) ⟨e, ?_⟩⟩)
  rw [hnew]
  exact ⟨.ref _, _, I.lnew (t' := s.toks) (r.rep k.toNat) (by rw [PyProof.Rows.lm_len_rep_flat, Nat.mul_comm]; exact hz), rfl, q _ I.fresh⟩
def fRepL : W → W → Μ → O W := fun x y μ => match rdL μ x, y with
  | some ps, .v (.int k) => if 0 ≤ k ∧ k < 100000 ∧ ps.length * k.toNat ≤ 100000 then .ok (.v (.lst (List.replicate k.toNat ps).flatten)) μ else .bad
  | _, _ => .bad
theorem Reps.rep {D : Addr → Prop} {H : Hp} {xs : List V} {ps : List P} (r : Reps D H xs ps) : ∀ k : Nat, Reps D H (List.replicate k xs).flatten (List.replicate k ps).flatten
  | 0 => .nil
  | k + 1 => by
    rw [List.replicate_succ, List.replicate_succ, List.flatten_cons, List.flatten_cons]
    exact r.append (Reps.rep r k)
theorem ad_repL : AdR2 Wx rRepR' fRepL := fun D as μ σ H x y a b Q k ra rb g => by
  unfold fRepL at g
  split at g
  · rename_i ps n e1
    split at g
    · rename_i hl
      obtain ⟨ad, xs, rfl, hr, rs⟩ := rdL_ok k ra e1
      obtain rfl := rep_int rb
      refine ⟨ad, n, xs, rfl, rfl, hr, by omega, by omega, ?_, newL k g (rs.rep _)⟩
      rw [rs.length]
      have : (100000 : Nat) ≤ sizeLine := by decide
      omega
    · exact g.elim
  · exact g.elim
/-- text * 0, text * 1 -/
def rMulS : R2 := fun x y H Q => ∃ z k, x = .str z ∧ y = .int k ∧ 0 ≤ k ∧ k ≤ 1 ∧ Q (.str (if k = 1 then z else Str.empty)) H
theorem op_mulS : OpR X (binaryOp .Mult) rMulS := by
  intro pins s σ H x y v u Q I rx ry h
  obtain ⟨z, k, rfl, rfl, h0, h1, q⟩ := h
  obtain ⟨t, rfl⟩ := rx
  obtain ⟨t2, rfl⟩ := ry
  by_cases c : k = 1
  · subst c
    rw [if_pos rfl] at q
    refine PySem.P.mul_str (by decide) (fun _ e => by cases e) (fun _ e => by cases e) ?_
    rw [if_neg (by decide), if_pos (show ((1 : Int) == 1 || z.length == 0) = true from rfl)]
    exact ⟨.str z, H, I, ⟨t, rfl⟩, q⟩
  · rw [if_neg c] at q
    exact PySem.P.mul_str_none (by omega) (by omega) ⟨.str Str.empty, H, I.tok _, ⟨s.toks, rfl⟩, q⟩
def fMulS : W → W → Μ → O W := fun x y μ => match x, y with
  | .v (.str z), .v (.int k) => if 0 ≤ k ∧ k ≤ 1 then .ok (.v (.str (if k = 1 then z else Str.empty))) μ else .bad
  | _, _ => .bad
theorem ad_mulS : AdR2 Wx rMulS fMulS := fun D as μ σ H x y a b Q k ra rb g => by
  unfold fMulS at g
  split at g
  · rename_i z n
    split at g
    · rename_i hl
      cases ra
      obtain rfl := rep_int rb
      exact ⟨z, n, rfl, rfl, hl.1, hl.2, nowV k g .str⟩
    · exact g.elim
  · exact g.elim
abbrev gMul := f2or fMul (f2or fRepL fMulS)
theorem pp_mul (ha : PP X Wx a F1) (hb : PP X Wx b F2) : PP X Wx (.BinOp a .Mult b pos) (fOp gMul F1 F2) := pp_op (op_mul.or (op_repR.or op_mulS)) (ad_mul.or (ad_repL.or ad_mulS)) ha hb
/-! repr of small things -/
def tinyP : P → Option PyData
  | .non => some .none
  | .bl b => some (.bool b)
  | .int i => if i.natAbs < 10 ^ 70 then some (.int i) else none
  | .str z => if (reprText z).length ≤ 100 then some (.str z) else none
  | _ => none
theorem tinyP_ok {D : Addr → Prop} {H : Hp} {v : V} {p : P} {d : PyData} (r : Rep D H v p) (h : tinyP p = some d) : tiny v = some d := by
  cases r <;> first | exact h | cases h
/-! ### a method called with keywords alone -/
theorem run_atXN {pins : List (Addr × Obj)} {σ : L2.St} {H : Hp} {s : Shared} {Q : VK} {f : Addr} {fd : FuncData} {ps ks : List Str} {sp : Sp} {n : Nat} {us ws : List Value} {vs zs : List V} {g : List Value → List Value → List Value} {gV : List V → List V → List V} (F : FnX X.prog X.w X.K X.mg X.base k f fd ps sp) (hG : X.A.guards = some []) (hr : Room k X.A) (hb : KBn X.K fd ps n ks g gV) (tk : Takes X Wx)
    (I : Inv X pins σ H s) (r : Vals vs us) (rz : Vals zs ws) (l1 : vs.length = n) (l2 : zs.length = ks.length) (h : sp (gV vs zs) H Q (WE Wx σ)) : wpAny (model X.prog X.w) X.A (call (.ref f) us (ks.zip ws)) (EP X pins σ Q) X.xe s := by
  have r2 := hb.rel r rz
  refine wpAny_call (codeAny_mono (F.goes (ar := ⟨us, ks.zip ws⟩) hG hr I.env0 (hb.to s us ws I.kIn (r.length.symm.trans l1) (rz.length.symm.trans l2)) r2 h) fun r s' hq => ?_)
  match r, hq with
  | .error e, z => exact passAt tk σ pins H s e s' I z
  | .ok (.ret _), z => exact I.after z
  | .ok .next, z => exact z.elim
  | .ok .brk, z => exact z.elim
  | .ok .cont, z => exact z.elim
structure DMk (P : Program) (w : World) (K : PySem.W.Frag) (mg : Str → Option Value) (base : Heap) (C : Addr) (m : Str) (ks : List Str) (k : Nat) (F : FF) : Prop where
  ex : ∃ (f : Addr) (fd : FuncData) (ps : List Str), FnX P w K mg base k f fd ps (spP (ks.length + 1) F) ∧ Meth K C m f ∧ KBn K fd ps 1 ks (fun us ws => us ++ ws) (fun vs zs => vs ++ zs)
def PPK (X : Cx) (Wx : WX) (kws : List Keyword) (F : AF) : Prop := ∃ ta, PK X kws ta ∧ AdA Wx ta F
theorem ppk_nil : PPK X Wx [] fNil := ⟨_, pk_nil, fun D as γ μ σ H Q k ev g => g.now (R := RepWs) k .nil⟩
theorem ppk_cons {kws : List Keyword} {kpos : Pos} {x : Str} (h : PP X Wx e F) (h2 : PPK X Wx kws A) : PPK X Wx (⟨some x, e, kpos⟩ :: kws) (fCons F A) := let ⟨_, p, ad⟩ := h; let ⟨_, p2, ad2⟩ := h2; ⟨_, pk_cons p p2, ad_cons ad ad2⟩
def tMethKX (C : Addr) (m : Str) (many : Nat) (sp : Sp) (W : WX) (ta : TE) (tk : TA) : TE := fun σ H Q => ta σ H fun x H1 => ∃ a dx fs, x = .ref a ∧ H1 a = some (.ins C dx fs) ∧ fs.lookup m = none ∧ tk σ H1 fun zs H2 => zs.length = many ∧ sp ([x] ++ zs) H2 Q (WE W σ)
theorem pp_methKw {m : Str} {ks : List Str} {kws : List Keyword} {apos : Pos} {FF' : FF} {pl : Sem Bool} (d : DMk X.prog X.w X.K X.mg X.base C m ks k FF') (c : Cls X.K C) (hG : X.A.guards = some []) (hr : Room k X.A) (tk : Takes X Wx) (ho : PP X Wx o F) (ha : PPK X Wx kws A) (hn : ∀ ws μ, ws.length ≠ ks.length + 1 → FF' ws μ = .bad := by exact fDef_len)
    (hall : (backToKw pos (keywordEach kws X.env)).all (·.1.isSome) = true := by rfl) (hks : (backToKw pos (keywordEach kws X.env)).filterMap (·.1) = ks := by rfl)
    (hpl : ((backTo pos (starEach [] X.env)).any (·.1) || (backToKw pos (keywordEach kws X.env)).any (·.1.isNone)) = false := by rfl)
    (ht : eval (.Call (.Attribute o m apos) [] kws pos) X.env = (do
      let ov ← eval o X.env
      standAt apos.atName
      let (f, first) ← holding [ov] (getMethod ov m pl)
      callWith pos f first (backTo pos (starEach [] X.env)) (backToKw pos (keywordEach kws X.env))) := by rfl) :
    PP X Wx (.Call (.Attribute o m apos) [] kws pos) (fMeth C m FF' F A) := by
  obtain ⟨f, fd, ps, FX, hm, hb⟩ := d.ex
  obtain ⟨ta, po, ao⟩ := ho
  obtain ⟨tk', pk, ak⟩ := ha
  refine ⟨tMethKX C m ks.length (spP (ks.length + 1) FF') Wx ta tk', ⟨fun pins s σ H Q I h => ?_⟩, fun D as γ μ σ H Q k ev g => ?_⟩
  · refine PySem.W.methodCall_KW (pl := pl) (thn (po.run pins s σ H _ I h) fun u s1 ⟨x, H1, I1, rx, a, dx, fs, ex, ea, l, q⟩ => ?_) ht
    subst ex
    obtain rfl : u = Value.ref a := rx
    refine getmeth_ok I1 ea c hm l ?_
    refine PySem.W.callWith_KW0 (first := [.ref a]) (h₀ := X.base) I.ok.mod.kin hm.kp hall (thn (pk.run pos pins s1 σ H1 _ I1 q) fun ws s2 ⟨zs, H2, I2, rz, l2, q2⟩ => ⟨I2.kIn, ?_⟩) hpl
    rw [hks]
    exact run_atXN (n := 1) (us := [.ref a]) (vs := [.ref a]) FX hG hr hb tk I2 (.cons rfl .nil) rz rfl l2 q2
  · refine ao D as γ μ σ H _ k ev ((G.bind RepW k g).mono fun x H1 ⟨D1, as1, μ1, w, n1, k1, r1, g1⟩ => ?_)
    split at g1
    · rename_i C' ps' e
      split at g1
      · rename_i hc
        obtain ⟨rfl, hl⟩ := hc
        obtain ⟨a, dx, xs, rfl, hx, rs⟩ := rdI_ok k1 r1 e
        refine ⟨a, dx, xs, rfl, hx, rs.lookup_none hl, ak D1 as1 γ μ1 σ H1 _ k1 (ev.nx n1) ((G.bind RepWs k1 g1).mono fun vs H2 ⟨D2, as2, μ2, ws, n2, k2, r2, g2⟩ => ?_)⟩
        have hlen : (w :: ws).length = ks.length + 1 := by
          by_cases c : (w :: ws).length = ks.length + 1
          · exact c
          · rw [hn (w :: ws) μ2 c] at g2
            exact g2.elim
        refine ⟨?_, ?_, D2, as2, w :: ws, μ2, k2, .cons (r1.nx n2) r2, ?_⟩
        · rw [r2.length]
          exact Nat.succ.inj hlen
        · show (V.ref a :: vs).length = _
          rw [List.length_cons, r2.length]
          exact hlen
        · cases o : FF' (w :: ws) μ2 with
          | ok w' m' => rw [o] at g2; exact g2
          | exc C fs m' => rw [o] at g2; exact g2
          | bad => rw [o] at g2; exact g2
      · exact g1.elim
    · exact g1.elim
end
end Pu
set_option Elab.async false
set_option linter.all false
set_option maxRecDepth 100000
set_option maxHeartbeats 4000000
/-! ### what is looked at behind the top, for the pure layer; small rules -/
namespace Pu
open L2 PySem PySem.Spec PyProof.Rows E10
open He (eqO eqO_ok ba ga ma)
theorem insB_ok {K : PySem.W.Frag} {C : Addr} (h : insB K C = true) : InsK K C := by
  obtain ⟨a, h⟩ := ba h
  obtain ⟨b, h⟩ := ba h
  obtain ⟨c, h⟩ := ba h
  obtain ⟨d, e⟩ := ba h
  exact ⟨clB_ok a, eqO_ok b, eqO_ok c, of_decide_eq_true d, of_decide_eq_true e⟩
theorem all_of {α : Type} {l : List α} {p : α → Bool} (h : l.all p = true) {x : α} (m : x ∈ l) : p x = true := List.all_eq_true.mp h x m
theorem ownsB_ins {K : PySem.W.Frag} {cs : List Addr} (h : ownsB K cs = true) : ∀ C ∈ cs, InsK K C := fun C m => insB_ok (all_of (ba h).1 m)
theorem ownsB_ok {K : PySem.W.Frag} {cs : List Addr} (h : ownsB K cs = true) : Own K cs := by
  refine ⟨ownsB_ins h, fun t u b e => ?_⟩
  obtain ⟨_, h⟩ := ba h
  obtain ⟨h1, h⟩ := ba h
  obtain ⟨h2, h3⟩ := ba h
  unfold kitP at e
  split at e
  · exact kit_ty e
  · split at e
    · rename_i hc
      cases e
      exact of_decide_eq_true (all_of (all_of h1 hc.1) (show _ ∈ tyNs from hc.2))
    · cases e
  · split at e
    · rename_i hc
      cases e
      exact of_decide_eq_true (all_of (all_of h2 hc.1) hc.2)
    · cases e
  · split at e
    · rename_i hc
      cases e
      exact of_decide_eq_true (all_of (all_of h3 hc.1) (show _ ∈ tyMs from hc.2))
    · cases e
  · cases e
theorem eqsB_ok {K : PySem.W.Frag} {C : Addr} {cs : List Addr} (ho : ownsB K cs = true) (h : eqsB K C cs = true) : EqK K C cs := by
  obtain ⟨h1, h⟩ := ba h
  obtain ⟨h2, h3⟩ := ba h
  refine ⟨ownsB_ins ho, fun t e => ?_, neB_ok h3⟩
  unfold nfP at e
  split at e
  · rename_i n
    have : n ∈ tyNs := by
      have := of_decide_eq_true e
      simp only [List.mem_cons, List.not_mem_nil, or_false] at this
      unfold tyNs
      simp only [List.mem_cons, List.not_mem_nil, or_false]
      rcases this with h | h | h | h | h | h | h <;> simp [h]
    exact all_of h1 this
  · exact all_of h2 (of_decide_eq_true e)
  · cases e
theorem firB_ok {K : PySem.W.Frag} {C : Addr} (h : firB K C = true) : IntK K C := ⟨(ba h).1, (intX_ok (ba h).2).1, (intX_ok (ba h).2).2⟩
theorem takes0 {X : Cx} : Takes X F0 := fun u s' ⟨_, _, _, _, _, _, _, _, _, _, _, _, _, _, _, _, w⟩ => w.elim
section
variable {X : Cx} {Wx : WX} {a b e o : Expr} {es : List Expr} {F F1 F2 : EF} {A : AF} {pos p : Pos} {x : Str}
/-- constants of the module -/
theorem pp_gint {i : Int} (hg : Gl X x) (hm : ∃ t, X.mg x = some (.int i t)) (hd : (x == ("__debug__" : Str)) = false := by decide) : PP X Wx (.Name x pos) (fC (.int i)) := pp_c (by obtain ⟨t, h⟩ := hm; exact pe_glob hg h ⟨t, rfl⟩ hd) fun _ _ => .int
theorem pp_gcls {C : Addr} (hg : Gl X x) (hm : X.mg x = some (.ref C)) (hd : (x == ("__debug__" : Str)) = false := by decide) : PP X Wx (.Name x pos) (fC (.ref C)) := pp_c (x := .ref C) (pe_glob hg hm rfl hd) fun _ _ => .ref
theorem pp_gty {n : String} (hg : Gl X x) (hm : X.mg x = none) (hv : bootBuiltins x = some (.type n)) (hn : x ≠ "__name__" := by decide) (hd : (x == ("__debug__" : Str)) = false := by decide) : PP X Wx (.Name x pos) (fC (.ty n)) := pp_c (x := .ty n) (pe_bltn hg hm hv rfl hn hd) fun _ _ => .ty
end
end Pu
set_option Elab.async false
set_option linter.all false
set_option maxRecDepth 100000
set_option maxHeartbeats 4000000
namespace Pu
open L2 PySem PySem.Spec PyProof.Rows E10
/-! ### list(d.values()), list(d.items()) -/
section
variable {X : Cx} {Wx : WX} {a b e o : Expr} {es : List Expr} {F F1 F2 : EF} {A : AF} {pos p : Pos} {x : Str} {C : Addr} {FF' : FF} {k : Nat}
def tListIts (te : TE) : TE := fun σ H Q => te σ H fun x H1 => ∃ (d : Addr) (kvs : List (Key × V)), x = .ref d ∧ Rd H1 d (.dK kvs) ∧
  ∀ (H' : Hp) (p : Addr) (ts : List Addr), (∀ b o, H1 b = some o → H' b = some o) → H1 p = none → (∀ t ∈ ts, H1 t = none) → p ∉ ts → H' p = some (.lst (ts.map V.ref)) → Paired (fun (t : Addr) (q : Key × V) => H' t = some (.tup [kV q.1, q.2])) ts kvs → Q (.ref p) H'
theorem pe_listItsR {te : TE} {apos cpos : Pos} (hc : X.calm = true) (he : PE X e te) (hg : Gl X "list") (hm : X.mg "list" = none) (hv : bootBuiltins "list" = some (.type "list")) (hbase : attributeBase e "items" X.env (eval e X.env) = eval e X.env := by rfl) (hline : (apos.endLine == cpos.line) = true := by rfl)
    (hs : starEach [.Call (.Attribute e "items" apos) [] [] cpos] X.env = (false, eval (.Call (.Attribute e "items" apos) [] [] cpos) X.env) :: starEach [] X.env := by rfl) :
    PE X (.Call (.Name "list" p) [.Call (.Attribute e "items" apos) [] [] cpos] [] pos) (tListIts te) := by
  refine ⟨fun pins s σ H Q I hq => ?_⟩
  refine wpAny_Call_Name_kw (ld_blt I hg hm hv ?_)
  refine PyProof.Rows.callWith_type1 ?_ hs rfl
  rw [hs]
  show wpAny _ _ (spliced ((false, eval (.Call (.Attribute e "items" apos) [] [] cpos) X.env) :: backTo pos (starEach [] X.env))) _ _ s
  refine Calls.spliced_cons ?_
  refine wpAny_Call_method (T := "dict") (id := "dict.items") hbase rfl hline F.plainAttrs_dict F.slot_dict_items F.type_dict_items (thn (he.run pins s σ H _ I hq) fun u s1 ⟨x, H1, I1, rx, d, kvs, ex, hd, q⟩ => ?_)
  subst ex
  obtain rfl : u = Value.ref d := rx
  obtain ⟨hz, hs0, vs, kv, hdo⟩ := dk_rd I1.hok hd
  obtain ⟨ep, hat⟩ := hdo.dictAt
  have lk : kvs.length = vs.length := Paired.length kv
  have I2 : Inv X pins σ H1 { s1 with heap := s1.heap.push { cls := .type "dict_items", data := .fields #[.ref d] } } := I1.kept (t' := s1.toks) fun b ob q => Heap.get?_push_of_some _ q
  refine ⟨hdo.typeIs, hdo.mapOf.noDict, ?_⟩
  show wpAny _ _ (callWith cpos (.builtin "dict.items") [.ref d] [] []) _ X.xe s1
  refine method_meetsIn F.slot_dict_items F.entry_dict_items rfl (PySem.evalArgs_none ⟨rfl, hdo.typeIs, F.args_dict_items_1 _, _, meets_dict_items (mixKind X.prog X.w) d hs0, ⟨vs, hdo⟩, ?_⟩)
  refine Calls.spliced_nil ?_
  refine PySem.W.kdx_call (knd := mixKind X.prog X.w) (kvs := vs) (ep := ep) (I1.ok.hd hc) ⟨_, Heap.get?_push_size _ rfl, rfl, rfl⟩ (hat.push _) (by omega) fun h' tk acc c as hk hS hl hG hacc => ?_
  obtain ⟨H', k1, k2, k3, k4, k5, k6, J⟩ := LiI.items_laid (tk := tk) I2 hz kv hk hS hl hG hacc
  exact ⟨.ref _, H', J, rfl, q H' _ as k1 k2 k3 k4 k5 k6⟩
def fListIts (F : EF) : EF := fun γ μ => (F γ μ).bind fun w m => match rdD m w with
  | some kvs => .ok (.v (.lst (kvs.map fun kp => .tup [keyOf kp.1, kp.2]))) m
  | none => .bad
theorem its_rep {D : Addr → Prop} {H H' : Hp} (sm : Same H H') (nd : ∀ t, H t = none → ¬ D t) : ∀ {xs : List (Key × V)} {ps : List (Key × P)} {ts : List Addr}, RepK D H xs ps → (∀ t ∈ ts, H t = none) → Paired (fun (t : Addr) (q : Key × V) => H' t = some (.tup [kV q.1, q.2])) ts xs → Reps D H' (ts.map V.ref) (ps.map fun kp => .tup [keyOf kp.1, kp.2])
  | _, _, _, .nil, _, .nil => .nil
  | _, _, _, .cons r t, h, .cons q u => .cons (.tup (nd _ (h _ List.mem_cons_self)) (.inl q) (.cons (keyOf_rep _) (.cons (Rep.sd (.same sm) r) .nil))) (its_rep sm nd t (fun z m => h z (List.mem_cons_of_mem _ m)) u)
theorem pp_listIts {apos cpos : Pos} (hc : X.calm = true) (hg : Gl X "list") (hm : X.mg "list" = none) (h : PP X Wx e F) (hbase : attributeBase e "items" X.env (eval e X.env) = eval e X.env := by rfl) (hline : (apos.endLine == cpos.line) = true := by rfl)
    (hs : starEach [.Call (.Attribute e "items" apos) [] [] cpos] X.env = (false, eval (.Call (.Attribute e "items" apos) [] [] cpos) X.env) :: starEach [] X.env := by rfl) :
    PP X Wx (.Call (.Name "list" p) [.Call (.Attribute e "items" apos) [] [] cpos] [] pos) (fListIts F) := by
  obtain ⟨te, pe, ad⟩ := h
  refine ⟨_, pe_listItsR hc pe hg hm b_list hbase hline hs, fun D as γ μ σ H Q k ev g => ?_⟩
  refine ad D as γ μ σ H _ k ev ((G.bind RepW k g).mono fun x H1 ⟨D1, as1, μ1, w, n1, k1, r1, g1⟩ => ?_)
  split at g1
  · rename_i kvs e
    obtain ⟨d, xs, rfl, hd, rs⟩ := rdD_ok k1 r1 e
    exact ⟨d, xs, rfl, hd, fun H' p ts sm np nt _ hp pr => nowN k1 sm g1 (.lst (k1.nd np) (.inl hp) (its_rep sm (fun t h => k1.nd h) rs nt pr))⟩
  · exact g1.elim
/-! ### built-ins by their names -/
theorem pp_all (hc : X.calm = true) (hg : Gl X "all") (hm : X.mg "all" = none) (ha : PPA X Wx (e :: es) A) (he : starEach (e :: es) X.env = (false, eval e X.env) :: starEach es X.env := by rfl) (hpl : (backTo pos (starEach es X.env)).any (·.1) = false := by rfl) :
    PP X Wx (.Call (.Name "all" p) (e :: es) [] pos) (fCall (fBls fun bs => bs.all id) A) := pp_callB (cr_all hc) hg hm b_all ad_all ha (by decide) (by decide) he hpl
theorem pp_any (hc : X.calm = true) (hg : Gl X "any") (hm : X.mg "any" = none) (ha : PPA X Wx (e :: es) A) (he : starEach (e :: es) X.env = (false, eval e X.env) :: starEach es X.env := by rfl) (hpl : (backTo pos (starEach es X.env)).any (·.1) = false := by rfl) :
    PP X Wx (.Call (.Name "any" p) (e :: es) [] pos) (fCall (fBls fun bs => bs.any id) A) := pp_callB (cr_any hc) hg hm b_any ad_any ha (by decide) (by decide) he hpl
theorem pp_intc (hg : Gl X "int") (hm : X.mg "int" = none) (ha : PPA X Wx (e :: es) A) (he : starEach (e :: es) X.env = (false, eval e X.env) :: starEach es X.env := by rfl) (hpl : (backTo pos (starEach es X.env)).any (·.1) = false := by rfl) :
    PP X Wx (.Call (.Name "int" p) (e :: es) [] pos) (fCall fInt A) := pp_callTy call_int1 hg hm b_int ad_int ha (by decide) (by decide) he hpl
theorem pp_strI (hg : Gl X "str") (hm : X.mg "str" = none) (ha : PPA X Wx (e :: es) A) (he : starEach (e :: es) X.env = (false, eval e X.env) :: starEach es X.env := by rfl) (hpl : (backTo pos (starEach es X.env)).any (·.1) = false := by rfl) :
    PP X Wx (.Call (.Name "str" p) (e :: es) [] pos) (fCall fStrI A) := pp_callTy call_str_int hg hm b_str ad_strI ha (by decide) (by decide) he hpl
theorem pp_divmod (hg : Gl X "divmod") (hm : X.mg "divmod" = none) (ha : PPA X Wx (e :: es) A) (he : starEach (e :: es) X.env = (false, eval e X.env) :: starEach es X.env := by rfl) (hpl : (backTo pos (starEach es X.env)).any (·.1) = false := by rfl) :
    PP X Wx (.Call (.Name "divmod" p) (e :: es) [] pos) (fCall fDivmod A) := pp_callB call_divmod hg hm b_divmod ad_divmod ha (by decide) (by decide) he hpl
theorem pp_isi {cs : List Addr} (ho : Own X.K cs) (hg : Gl X "isinstance") (hm : X.mg "isinstance" = none) (ha : PPA X Wx (e :: es) A) (he : starEach (e :: es) X.env = (false, eval e X.env) :: starEach es X.env := by rfl) (hpl : (backTo pos (starEach es X.env)).any (·.1) = false := by rfl) :
    PP X Wx (.Call (.Name "isinstance" p) (e :: es) [] pos) (fCall (fIsi cs) A) := pp_callB call_isi hg hm b_isi (ad_isi ho) ha (by decide) (by decide) he hpl
theorem pp_len' (hg : Gl X "len") (hm : X.mg "len" = none) (ha : PPA X Wx (e :: es) A) (he : starEach (e :: es) X.env = (false, eval e X.env) :: starEach es X.env := by rfl) (hpl : (backTo pos (starEach es X.env)).any (·.1) = false := by rfl) :
    PP X Wx (.Call (.Name "len" p) (e :: es) [] pos) (fCall gLen A) := pp_len hg hm b_len ha (by decide) (by decide) he hpl
/-! ### own and int -/
theorem int_add {K : PySem.W.Frag} : PySem.W.findIn K (.type "int") (PySem.dunder "add") = some (some (.builtin "int.__add__")) := by
  show PySem.fastLookup "int" (PySem.dunder "add") = _
  decide +kernel
theorem int_radd {K : PySem.W.Frag} : PySem.W.findIn K (.type "int") (dunderR "add") = some (some (.builtin "int.__radd__")) := by
  show PySem.fastLookup "int" (dunderR "add") = _
  decide +kernel
theorem int_sub {K : PySem.W.Frag} : PySem.W.findIn K (.type "int") (PySem.dunder "sub") = some (some (.builtin "int.__sub__")) := by
  show PySem.fastLookup "int" (PySem.dunder "sub") = _
  decide +kernel
theorem int_rsub {K : PySem.W.Frag} : PySem.W.findIn K (.type "int") (dunderR "sub") = some (some (.builtin "int.__rsub__")) := by
  show PySem.fastLookup "int" (dunderR "sub") = _
  decide +kernel
/-- the class has the reflected one, or has it not -/
inductive Refl (K : PySem.W.Frag) (C : Addr) (m : Str) : Prop where
  | has (g : Addr) (h : PySem.W.findIn K (.ref C) m = some (some (.ref g)))
  | no (h : PySem.W.findIn K (.ref C) m = some none)
theorem Refl.ex {K : PySem.W.Frag} {C : Addr} {m : Str} (r : Refl K C m) : ∃ rc, PySem.W.findIn K (.ref C) m = some rc ∧ (rc = none ∨ ∃ g : Addr, rc = some (.ref g)) := by
  cases r with
  | has g h => exact ⟨_, h, .inr ⟨g, rfl⟩⟩
  | no h => exact ⟨_, h, .inl rfl⟩
theorem refl_has {K : PySem.W.Frag} {C : Addr} {m : Str} (h : mB K C m = true) : Refl K C m := .has _ (mB_ok h).at_
theorem refl_no {K : PySem.W.Frag} {C : Addr} {m : Str} (h : noB K C m = true) : Refl K C m := .no (He.eqO_ok h)
theorem pp_plusI (r : Refl X.K C (dunderR "add")) (d : DS X.prog X.w X.K X.mg X.base C (PySem.dunder "add") 2 k FF') (i : IntK X.K C) (hG : X.A.guards = some []) (hr : Room k X.A) (ha : PP X Wx a F1) (hb : PP X Wx b F2) : PP X Wx (.BinOp a .Add b pos) (fOp (fOwnI C FF') F1 F2) := by
  obtain ⟨rc, h1, h2⟩ := r.ex
  exact pp_addI ⟨_, _, rc, h1, h2, int_add, int_radd⟩ d i hG hr ha hb
theorem pp_minusI (r : Refl X.K C (dunderR "sub")) (d : DS X.prog X.w X.K X.mg X.base C (PySem.dunder "sub") 2 k FF') (i : IntK X.K C) (hG : X.A.guards = some []) (hr : Room k X.A) (ha : PP X Wx a F1) (hb : PP X Wx b F2) : PP X Wx (.BinOp a .Sub b pos) (fOp (fOwnI C FF') F1 F2) := by
  obtain ⟨rc, h1, h2⟩ := r.ex
  exact pp_subI ⟨_, _, rc, h1, h2, int_sub, int_rsub⟩ d i hG hr ha hb
theorem pp_iplus {fr : Addr} (h : Has X.K C fr (PySem.dunder "add")) (d : DS X.prog X.w X.K X.mg X.base C (dunderR "add") 2 k FF') (i : IntK X.K C) (hG : X.A.guards = some []) (hr : Room k X.A) (ha : PP X Wx a F1) (hb : PP X Wx b F2) : PP X Wx (.BinOp a .Add b pos) (fOp (fIOwn C FF') F1 F2) := by
  obtain ⟨f, fd, ps, FG, hh, bi⟩ := d.g
  exact pp_op (op_iown FG hG hr bi i.sf h.at_ hh int_add int_radd rfl i.s2) ad_iown ha hb
end
end Pu
set_option Elab.async false
set_option linter.all false
set_option maxRecDepth 100000
set_option maxHeartbeats 4000000
namespace Pu
open L2 PySem PySem.Spec PyProof.Rows E10
section
variable {X : Cx} {Wx : WX} {a b c e o : Expr} {es : List Expr} {F F1 F2 F3 : EF} {A : AF} {pos p : Pos} {x : Str} {C : Addr} {FF' : FF} {k : Nat}
theorem ad_setLc {te : TE} {i : Nat} (ad : Ad Wx te F) : AdS Wx (tAsg te (gName i)) (sSet i F) := fun D as γ μ σ H E k ev g => by
  refine ad D as γ μ σ H _ k ev ((GS.of_s (R := RepW) k ev g).mono fun x H1 ⟨D1, as1, μ1, w, n1, k1, e1, r1, g1⟩ => ?_)
  exact g1 _ D1 as1 H1 .refl k1 (e1.set r1) (List.length_set ..)
theorem ppq_setLc {i : Nat} {y : Str} {py : Pos} {elt tg iter : Expr} {ifs : List Expr} {scope : Scope} {own : List (Str × Nat)} {spos : Pos} {I : IF} {g : TG} {f : GF} {T : TF} {E : EF} (hc : X.calm = true) (hN : X.N.Nodup) (hy : X.N[i]? = some y) (hyl : X.env.scope.names.lookup y = some .local)
    (hsw : swapsWith (.ListComp elt [⟨tg, iter, ifs, 0⟩] scope pos) (some (.Name y py)) spos.line X.env = pure true) (hi : PPI X Wx tg iter I) (ok : BlkOk X.N X.env.scope scope own)
    (hg : ∀ (s : Shared) (H : Hp) (C : Addr) (cl : List (Str × Addr)) (fp : List Addr), PG (X.blk s H scope (compEnvC scope cl C X.env) fp) tg g) (hf : AdG (some (own.map (·.2))) g f)
    (ht : ∀ (s : Shared) (H : Hp) (C : Addr) (cl : List (Str × Addr)) (fp : List Addr), PPTs (X.blk s H scope (compEnvC scope cl C X.env) fp) F0 ifs T)
    (he : ∀ (s : Shared) (H : Hp) (C : Addr) (cl : List (Str × Addr)) (fp : List Addr), PP (X.blk s H scope (compEnvC scope cl C X.env) fp) F0 elt E) (hs : ∀ x, foldedSetIterable iter X.env x = pure x := by intro _; rfl) :
    PPS X Wx (.Assign [.Name y py] (.ListComp elt [⟨tg, iter, ifs, 0⟩] scope pos) spos) (sSet i (fLc I f T E (own.map (·.2)))) :=
  let ⟨wi, pi, ai⟩ := hi; ⟨_, ps_setLc hc hN hy hyl hsw pi ok hg (fun s H C cl fp => ht s H C cl fp) (fun s H C cl fp => (he s H C cl fp).can) hs, ad_setLc (ad_lc ai hf)⟩
/-! ### tests -/
theorem pt_lt (ha : PP X Wx a F1) (hb : PP X Wx b F2) : PPT X Wx (.Compare a [.Lt] [b] pos) (fTest (fOp gLt F1 F2)) := ptt_cmp or_lt ag_lt ha hb
theorem pt_gt (ha : PP X Wx a F1) (hb : PP X Wx b F2) : PPT X Wx (.Compare a [.Gt] [b] pos) (fTest (fOp gGt F1 F2)) := ptt_cmp or_gt ag_gt ha hb
theorem pt_ne (hu : X.A.units + 64 < cLine) (ha : PP X Wx a F1) (hb : PP X Wx b F2) : PPT X Wx (.Compare a [.NotEq] [b] pos) (fTest (fOp gNe F1 F2)) := ptt_cmp (op_ne.or ((op_neK (by omega)).or (op_neD hu))) (ad_neS.or (ad_neK.or ad_neD)) ha hb
theorem pt_notIn (hu : X.A.units + 1 < cLine) (ha : PP X Wx a F1) (hb : PP X Wx b F2) (hm : behindInMarks .NotIn b = false := by rfl) : PPT X Wx (.Compare a [.NotIn] [b] pos) (fTest (fOp (gIn true) F1 F2)) := ptt_cmp (op_notIn_seq.or (op_dnotinR hu)) (ad_in.or ad_dinR) ha hb hm
theorem pt_eqO {cs : List Addr} (d : DS X.prog X.w X.K X.mg X.base C "__eq__" 2 k FF') (h : EqK X.K C cs) (hG : X.A.guards = some []) (hr : Room k X.A) (hu : X.A.units < cLine) (ha : PP X Wx a F1) (hb : PP X Wx b F2) : PPT X Wx (.Compare a [.Eq] [b] pos) (fTest (fOp (fEqO C cs FF') F1 F2)) := by
  obtain ⟨f, fd, ps, FG, hs, bi⟩ := d.g
  exact ptt_cmp (op_eqO FG hG hr hu bi hs) (ad_eqO h) ha hb
theorem pt_neO {cs : List Addr} (d : DS X.prog X.w X.K X.mg X.base C "__eq__" 2 k FF') (h : EqK X.K C cs) (hG : X.A.guards = some []) (hr : Room (k + 1) X.A) (hu : X.A.units + 1 < cLine) (ha : PP X Wx a F1) (hb : PP X Wx b F2) : PPT X Wx (.Compare a [.NotEq] [b] pos) (fTest (fOp (fNeO C cs FF') F1 F2)) := by
  obtain ⟨f, fd, ps, FG, hs, bi⟩ := d.g
  exact ptt_cmp (op_neO FG hG hr hu bi hs h.ne) (ad_neO h) ha hb
theorem ptt_chain {op op' : CmpOp} {r r' : R2} {f g} (ho : OpR X (compareOp op) r) (ho' : OpR X (compareOp op') r') (h : AdR2 Wx r f) (h' : AdR2 Wx r' g) (ha : PP X Wx a F1) (hb : PP X Wx b F2) (hc : PP X Wx c F3)
    (hm : lastMarks [op, op'] [b, c] = false := by with_unfolding_all rfl) : PPT X Wx (.Compare a [op, op'] [b, c] pos) (fTest (fChain f g F1 F2 F3)) :=
  let ⟨_, pa, aa⟩ := ha; let ⟨_, pb, ab⟩ := hb; let ⟨_, pc, ac⟩ := hc; ⟨_, pt_chain ho ho' pa pb pc hm, ad_test (ad_chain h h' aa ab ac)⟩
theorem pp_lele (ha : PP X Wx a F1) (hb : PP X Wx b F2) (hc : PP X Wx c F3) (hm : lastMarks [.LtE, .LtE] [b, c] = false := by with_unfolding_all rfl) : PP X Wx (.Compare a [.LtE, .LtE] [b, c] pos) (fChain gLe gLe F1 F2 F3) := pp_chain or_le or_le ag_le ag_le ha hb hc hm
theorem pt_lele (ha : PP X Wx a F1) (hb : PP X Wx b F2) (hc : PP X Wx c F3) (hm : lastMarks [.LtE, .LtE] [b, c] = false := by with_unfolding_all rfl) : PPT X Wx (.Compare a [.LtE, .LtE] [b, c] pos) (fTest (fChain gLe gLe F1 F2 F3)) := ptt_chain or_le or_le ag_le ag_le ha hb hc hm
/-! ### methods of built-ins -/
theorem pp_append {apos cpos : Pos} (ho : PP X Wx o F1) (he : PP X Wx e F2) (hbase : attributeBase o "append" X.env (eval o X.env) = eval o X.env := by rfl)
    (hfew : ((backTo cpos (starEach [e] X.env)).all (fun x => !x.1) && (backToKw cpos (keywordEach [] X.env)).all (fun x => x.1.isSome)
      && decide ([e].length + ([] : List Keyword).length + (if ([] : List Keyword).isEmpty then 0 else 1) < 30)) = true := by rfl)
    (hline : (apos.endLine == cpos.line) = true := by rfl) (hs : starEach [e] X.env = (false, eval e X.env) :: starEach [] X.env := by rfl) (hpl : (backTo cpos (starEach [] X.env)).any (·.1) = false := by rfl) :
    PP X Wx (.Call (.Attribute o "append" apos) [e] [] cpos) (fBM "list" mAppend F1 (fCons F2 fNil)) := by
  refine pp_bm PySem.F.plainAttrs_list PySem.F.slot_list_append PySem.F.type_list_append mt_append am_append ho (ppa_cons he ppa_nil hs) ?_ ?_ ?_ ?_ ?_
  all_goals assumption
end
end Pu
set_option Elab.async false
set_option linter.all false
set_option maxRecDepth 100000
set_option maxHeartbeats 4000000
namespace Pu
open L2 PySem PySem.Spec PyProof.Rows E10
section
variable {X : Cx} {Wx : WX} {a b e o : Expr} {F F1 F2 F3 : EF} {pos p : Pos}
/-- xs[i], x = a pair -/
def sSubName (i : Nat) (Fv Fl Fi : EF) : SF := fun γ μ => (Fv γ μ).s γ fun wv m => match wv with
  | .v (.tup [p, q]) => (Fl γ m).s γ fun wl m => (Fi γ m).s γ fun wi m => match wL m wl with
    | some (j, ps) => match wi with
      | .v (.int z) => match ixN ps.length z with
        | some n => .nx (γ.set i (some (.v q))) (m.set j (.lst (ps.set n p)))
        | none => .bad
      | _ => .bad
    | none => .bad
  | _ => .bad
theorem ad_subName {i : Nat} {K : PySem.W.Frag} {tl ti tv : TE} (hv : Ad Wx tv F1) (hl : Ad Wx tl F2) (hi : Ad Wx ti F3) : AdS Wx (tAsg tv (gTup K 2 (gCons (gSub tl ti rSetL) (gCons (gName i) gNil)))) (sSubName i F1 F2 F3) := fun D as γ μ σ H E k ev g => by
  refine hv D as γ μ σ H _ k ev ((GS.of_s (R := RepW) k ev g).mono fun v H1 ⟨D1, as1, μ1, wv, n1, k1, ev1, r1, g1⟩ => ?_)
  split at g1
  · rename_i p q
    obtain ⟨t, xs, rfl, _, ht, rs⟩ := rep_tup r1
    cases rs with
    | cons rp rs =>
      cases rs with
      | cons rq rs =>
        cases rs
        refine ⟨t, _, rfl, .inl ht, rfl, _, _, rfl, ?_⟩
        refine hl D1 as1 γ μ1 σ H1 _ k1 ev1 ((GS.of_s (R := RepW) k1 ev1 g1).mono fun x H2 ⟨D2, as2, μ2, wd, n2, k2, ev2, r2, g2⟩ => ?_)
        refine hi D2 as2 γ μ2 σ H2 _ k2 ev2 ((GS.of_s (R := RepW) k2 ev2 g2).mono fun y H3 ⟨D3, as3, μ3, wk, n3, k3, ev3, r3, g3⟩ => ?_)
        split at g3
        · rename_i j ps e
          split at g3
          · rename_i z
            split at g3
            · rename_i n en
              obtain ⟨a, xs, rfl, ea, ha, rl⟩ := wL_ok k3 (r2.nx n3) e
              have rp' := Rep.sd n3.sd (Rep.sd n2.sd rp)
              have rq' := Rep.sd n3.sd (Rep.sd n2.sd rq)
              refine ⟨a, xs, z, n, rfl, rep_int r3, ha, by rw [rl.length]; exact en, ?_⟩
              obtain ⟨n', k'⟩ := cell_set (o := .lst (xs.set n _)) (u := .lst []) (c := .lst (ps.set n p)) k3 ea (nofz (by assumption) (fun _ _ z => by cases z)) fun D' H' s e' => ⟨_, e', (Reps.sd s rl).set (Rep.sd s rp') n⟩
              refine ⟨_, _, rfl, rfl, ?_⟩
              exact g3 _ D3 as3 _ n' k' ((ev3.nx n').set (show RepW D3 as3 _ _ (.v q) from Rep.sd n'.sd rq')) (List.length_set ..)
            · exact g3.elim
          · exact g3.elim
        · exact g3.elim
  · exact g1.elim
theorem ppq_subName {i : Nat} {x : Str} {px ps pt : Pos} {kt} (hv : PP X Wx e F1) (hl : PP X Wx a F2) (hi : PP X Wx b F3) (hc : X.calm = true) (hN : X.N.Nodup) (hx : X.N[i]? = some x) (hlc : Loc X.env.scope x) (hf : X.fn x = true ∨ X.env.scope.names.lookup x = some .local := by first | exact .inl rfl | exact .inr rfl | assumption)
    (hs : swapsWithSole [.Tuple [.Subscript a b ps, .Name x px] kt pt] e pos.line X.env = pure false := by rfl) (hw : swappedStores [.Tuple [.Subscript a b ps, .Name x px] kt pt] e X.env = pure none := by rfl)
    (h1 : (assignEach [.Tuple [.Subscript a b ps, .Name x px] kt pt] X.env).map (·.2) = [assign (.Tuple [.Subscript a b ps, .Name x px] kt pt) X.env] := by rfl)
    (hn : (assignEach [.Subscript a b ps, .Name x px] X.env).length = 2 := by rfl) (hst : (assignEach [.Subscript a b ps, .Name x px] X.env).findIdx? (·.1) = none := by rfl)
    (h2 : (assignEach [.Subscript a b ps, .Name x px] X.env) = (false, assign (.Subscript a b ps) X.env) :: assignEach [.Name x px] X.env := by rfl)
    (ha : ∀ v, assign (.Subscript a b ps) X.env v = (do
      let ov ← holding [v] (eval a X.env)
      let iv ← holding [v, ov] (eval b X.env)
      standAt ps
      holding [v, ov, iv] (setItem ov iv v)
      release [v, ov, iv] []) := by intro _; rfl) : PPS X Wx (.Assign [.Tuple [.Subscript a b ps, .Name x px] kt pt] e pos) (sSubName i F1 F2 F3) := by
  obtain ⟨_, p1, a1⟩ := hv
  obtain ⟨_, p2, a2⟩ := hl
  obtain ⟨_, p3, a3⟩ := hi
  exact ⟨_, ps_asg p1 (pg_tup hc (pgs_cons (pg_sub p2 p3 set_list ha) (pgs_cons (pg_name hN hx hlc hf) pgs_nil)) hn hst) hs hw h1, ad_subName a1 a2 a3⟩
def sPar3 (i j l : Nat) (A : AF) : SF := fun γ μ => (A γ μ).s γ fun ws m => match ws with
  | [u, v, w] => .nx (((γ.set i (some u)).set j (some v)).set l (some w)) m
  | _ => .bad
/-- a, b = x, y by way of the tuple -/
theorem ad_parT {K : PySem.W.Frag} {i j : Nat} {ta : TA} {A : AF} (h : AdA Wx ta A) : AdS Wx (tAsg (tTup ta) (gTup K 2 (gCons (gName i) (gCons (gName j) gNil)))) (sPar i j A) := fun D as γ μ σ H E k ev gg => by
  refine h D as γ μ σ H _ k ev ((GS.of_s (R := RepWs) k ev gg).mono fun xs H1 ⟨D1, as1, μ1, ws, n1, k1, ev1, r1, g1⟩ => ?_)
  split at g1
  · obtain ⟨v, w, rfl, rv, rw'⟩ := repWs2 r1
    refine ⟨by show 2 ≤ sizeLine; decide, fun p np => ?_⟩
    have sm := new_same' (o := .tup [v, w]) np
    have n := Nx.of_same (D := D1) (as := as1) sm
    refine ⟨p, [v, w], rfl, .inl (.inl upd_same), rfl, v, [w], rfl, w, [], rfl, rfl, ?_⟩
    exact g1 _ D1 as1 _ n (k1.same sm) (((ev1.nx n).set (rv.nx n)).set (rw'.nx n)) (by rw [List.length_set, List.length_set])
  · exact g1.elim
theorem ppq_parT {i j : Nat} {x y : Str} {a b : Expr} {px py pt pos : Pos} {kt k2 pt2} {A : AF} (hc : X.calm = true) (hN : X.N.Nodup) (hi : X.N[i]? = some x) (hj : X.N[j]? = some y) (hx : Loc X.env.scope x) (hy : Loc X.env.scope y)
    (hf : X.fn x = true ∨ X.env.scope.names.lookup x = some .local) (hf2 : X.fn y = true ∨ X.env.scope.names.lookup y = some .local) (ha : PPA X Wx [a, b] A)
    (hs : swapsWithSole [.Tuple [.Name x px, .Name y py] kt pt] (.Tuple [a, b] k2 pt2) pos.line X.env = pure false := by rfl) (hw : swappedStores [.Tuple [.Name x px, .Name y py] kt pt] (.Tuple [a, b] k2 pt2) X.env = pure none := by rfl)
    (h1 : (assignEach [.Tuple [.Name x px, .Name y py] kt pt] X.env).map (·.2) = [assign (.Tuple [.Name x px, .Name y py] kt pt) X.env] := by rfl)
    (hn : (assignEach [.Name x px, .Name y py] X.env).length = 2 := by rfl) (hst : (assignEach [.Name x px, .Name y py] X.env).findIdx? (·.1) = none := by rfl) :
    PPS X Wx (.Assign [.Tuple [.Name x px, .Name y py] kt pt] (.Tuple [a, b] k2 pt2) pos) (sPar i j A) := by
  obtain ⟨_, p, ad⟩ := ha
  exact ⟨_, ps_asg (pe_tup p) (pg_tup hc (pgs_cons (pg_name hN hi hx hf) (pgs_cons (pg_name hN hj hy hf2) pgs_nil)) hn hst) hs hw h1, ad_parT ad⟩
end
end Pu
set_option Elab.async false
set_option linter.all false
set_option maxRecDepth 100000
set_option maxHeartbeats 4000000
/-! ### reckoning with what is denoted; the law's end -/
namespace Pu
open L2 PySem PySem.Spec PyProof.Rows E10
theorem nolB_ok : ∀ {K : PySem.W.Frag}, nolB K = true → ∀ {a : Addr} {o : Obj}, K.lookup a = some o → o.cls = .type "list" → False
  | [], _, a, o, h, _ => by cases h
  | (b, u) :: K, hn, a, o, h, hc => by
    unfold nolB at hn
    rw [List.all_cons] at hn
    obtain ⟨h1, h2⟩ := Bool.and_eq_true_iff.mp hn
    rw [List.lookup_cons] at h
    split at h
    · cases h
      simp only [hc] at h1
      exact absurd rfl (of_decide_eq_true h1)
    · exact nolB_ok (K := K) h2 h hc
theorem seq_rd {K : PySem.W.Frag} (hn : nolB K = true) {H : Hp} {a : Addr} {xs : List V} (h : SqL K H a xs) : Rd H a (.lst xs) := by
  rcases h with h | ⟨o, its, n, h1, h2, _⟩
  · exact h
  · exact (nolB_ok hn h1 h2).elim
theorem sk_nil {H : Hp} : Sk (fun _ => False) [] H [] := by
  refine ⟨rfl, fun _ h => h.elim, fun j a e => ?_, fun i j a e => ?_, fun i a e => ?_, fun i e => ?_⟩ <;> simp at e
theorem law_want {F : FF} {K : PySem.W.Frag} (hn : nolB K = true) {H : Hp} {a : Addr} {ns : List Int} (hq : SqL K H a (ns.map V.int)) (h : ∃ m, F [.v (.lst (ns.map P.int))] [] = .ok (.v (.bl true)) m) : noE (spP 1 F) [.ref a] H (fun v _ => v = .bl true) L2.E0 := by
  obtain ⟨m, h⟩ := h
  refine ⟨rfl, fun _ => False, [], [.v (.lst (ns.map P.int))], [], sk_nil, .cons (Rep.lst (fun h => h) (seq_rd hn hq) (ints_rep ns)) .nil, ?_⟩
  rw [h]
  exact fun v D2 as2 H2 n2 k2 r => rep_bl r
/-! ### comprehensions, loops -/
/-- with something that goes on: R says what stands, C what is made -/
theorem lc_run {f : GF} {T : TF} {E : EF} {γ : Γ} (R : Μ → Prop) (C : P → P → Prop) (hT : T = fYes) : ∀ {ps : List P} {μ : Μ}, R μ → (∀ p ∈ ps, ∀ m, R m → ∃ γ1 q m', f p γ = some γ1 ∧ E γ1 m = .ok (.v q) m' ∧ R m' ∧ C p q) → ∃ qs m', lcGo f T E γ ps μ = .ok qs m' ∧ R m' ∧ Paired C ps qs
  | [], μ, r, _ => ⟨[], μ, rfl, r, .nil⟩
  | p :: l, μ, r, h => by
    obtain ⟨γ1, q, m1, h1, h2, h3, h4⟩ := h p List.mem_cons_self μ r
    obtain ⟨qs, m2, h5, h6, h7⟩ := lc_run R C hT (ps := l) h3 fun p m => h p (List.mem_cons_of_mem _ m)
    refine ⟨q :: qs, m2, ?_, h6, .cons h4 h7⟩
    subst hT
    rw [lcGo, h1]
    simp only [fYes, O.nx, O.bind_ok, if_true, h2, lcW, h5]
theorem putP_new {acc : List (Key × P)} {k : Key} {v : P} (h : k ∉ acc.map (·.1)) : putP acc k v = acc ++ [(k, v)] := by
  unfold putP
  rw [if_neg]
  intro c
  obtain ⟨x, hx, e⟩ := List.any_eq_true.mp c
  exact h (List.mem_map.mpr ⟨x, hx, of_decide_eq_true e⟩)
theorem put_all {α : Type} (k : α → Key) (v : α → P) : ∀ {l : List α} {acc : List (Key × P)}, (acc.map (·.1) ++ l.map k).Nodup → l.foldl (fun a p => putP a (k p) (v p)) acc = acc ++ l.map fun p => (k p, v p)
  | [], acc, _ => by simp
  | p :: r, acc, h => by
    have h1 : k p ∉ acc.map (·.1) := fun m => by
      rw [List.map_cons] at h
      exact (List.nodup_append.mp h).2.2 _ m _ List.mem_cons_self rfl
    rw [List.foldl_cons, putP_new h1, put_all k v (by simpa using h)]
    simp
end Pu
set_option Elab.async false
set_option linter.all false
set_option maxRecDepth 100000
set_option maxHeartbeats 4000000
namespace Pu
open L2 PySem PySem.Spec PyProof.Rows E10
/-! ### the cells that a value's reckoning made fall away -/
def fDrop (F : EF) : EF := fun γ μ => (F γ μ).bind fun w m => match w with
  | .v p => .ok (.v p) (m.take μ.length)
  | .loc _ => .bad
theorem ad_drop {Wx : WX} {te : TE} {F : EF} (h : Ad Wx te F) : Ad Wx te (fDrop F) := fun D as γ μ σ H Q k ev g => by
  refine h D as γ μ σ H Q k ev ?_
  unfold fDrop at g
  cases e : F γ μ with
  | bad => rw [e] at g; exact g
  | exc C fs m => rw [e] at g; exact g
  | ok w m =>
    rw [e] at g
    intro b D2 as2 H2 n2 k2 r2
    cases w with
    | loc j => exact g.elim
    | v p =>
      obtain ⟨n3, k3⟩ := k.cut k2 n2
      exact g b D2 _ H2 n3 k3 r2
theorem pp_drop {X : Cx} {Wx : WX} {e : Expr} {F : EF} (h : PP X Wx e F) : PP X Wx e (fDrop F) := let ⟨_, p, ad⟩ := h; ⟨_, p, ad_drop ad⟩
end Pu
set_option Elab.async false
set_option linter.all false
set_option maxRecDepth 100000
set_option maxHeartbeats 4000000
set_option Elab.async false
set_option linter.all false
set_option maxRecDepth 100000
set_option maxHeartbeats 4000000
namespace Pu
open L2 PySem PySem.Spec PyProof.Rows E10
/-! ### a place that changes no more -/
section
variable {D D' : Addr → Prop} {as as' : Ps} {H H' : Hp} {μ m : Μ}
theorem Rep.of_cell {a : Addr} {c : PC} {p : P} (x : CellOk D H a c) (hp : c.p = some p) : Rep (lessD D a) H (.ref a) p := by
  have s : Sd D H (lessD D a) H := ⟨fun b u nb _ z => nb z.1, fun _ _ _ r => r, fun _ _ _ e _ => e⟩
  cases c with
  | lst ps => cases hp; obtain ⟨xs, h, r⟩ := x; exact .lst (fun z => z.2 rfl) (.inl h) (Reps.sd s r)
  | dct ps => cases hp; obtain ⟨xs, h, r⟩ := x; exact .dct (fun z => z.2 rfl) (.inl h) (RepK.sd s r)
  | ins C ps => cases hp; obtain ⟨dx, xs, h, r⟩ := x; exact .ins (fun z => z.2 rfl) h (RepS.sd s r)
  | dead => cases hp
  | lstL ps => cases hp; obtain ⟨od, xs, h, r⟩ := x; exact .lst (fun z => z.2 rfl) (.inr ⟨od, h⟩) (Reps.sd s r)
  | dctL ps => cases hp; obtain ⟨od, xs, h, r⟩ := x; exact .dct (fun z => z.2 rfl) (.inr ⟨od, h⟩) (RepK.sd s r)
theorem fix_at {j : Nat} {a : Addr} (k : Sk D as H μ) (e : as[j]? = some (some a)) : Nx D as H (lessD D a) (as.set j none) H ∧ Sk (lessD D a) (as.set j none) H (μ.set j .dead) := by
  have s : Sd D H (lessD D a) H := ⟨fun b u nb _ z => nb z.1, fun _ _ _ r => r, fun _ _ _ e _ => e⟩
  have lt := (List.getElem?_eq_some_iff.mp e).1
  have at' : ∀ {i : Nat} {b : Addr}, (as.set j none)[i]? = some (some b) → i ≠ j ∧ as[i]? = some (some b) := fun {i b} z => by
    by_cases c : j = i
    · subst c
      rw [List.getElem?_set_self lt] at z
      cases z
    · rw [List.getElem?_set_ne c] at z
      exact ⟨Ne.symm c, z⟩
  refine ⟨⟨fun i x z => ?_, fun b o h => ⟨o, h⟩, fun b d v => ⟨d, fun z => v j (z ▸ e)⟩, fun b d => .inl d.1, fun i b z => .inl (at' z).2, fun _ _ _ _ h => h, fun _ _ _ h => h, fun _ _ _ h _ => h, fun _ _ _ h => h⟩, ⟨?_, fun b d => k.dn b d.1, fun i b z => ⟨k.inD i b (at' z).2, fun w => (at' z).1 (k.inj i j b (at' z).2 (w ▸ e))⟩, fun i i' b z y => k.inj i i' b (at' z).2 (at' y).2, fun i b z => ?_, fun i z => ?_⟩⟩
  · by_cases c : j = i
    · subst c
      exact .inr (List.getElem?_set_self lt)
    · rw [List.getElem?_set_ne c]
      exact .inl z
  · rw [List.length_set, List.length_set, k.len]
  · obtain ⟨n, z⟩ := at' z
    obtain ⟨c, q, x⟩ := k.ok i b z
    exact ⟨c, by rw [List.getElem?_set_ne (Ne.symm n)]; exact q, x.sd s rfl⟩
  · by_cases c : j = i
    · subst c
      exact List.getElem?_set_self (by rw [← k.len]; exact lt)
    · rw [List.getElem?_set_ne c] at z ⊢
      exact k.dead i z
end
/-- before S, what variable i holds is let go as a value -/
def sFix (i : Nat) (S : SF) : SF := fun γ μ => match γ[i]? with
  | some (some (.loc j)) => match (μ[j]?).bind PC.p with
    | some p => S (γ.set i (some (.v p))) (μ.set j .dead)
    | none => .bad
  | _ => S γ μ
section
variable {X : Cx} {Wx : WX} {st : Stmt} {e : Expr} {S : SF} {F : EF}
theorem ad_fix {i : Nat} {ts : TS} (h : AdS Wx ts S) : AdS Wx ts (sFix i S) := fun D as γ μ σ H E k ev g => by
  unfold sFix at g
  split at g
  · rename_i j ej
    split at g
    · rename_i p ep
      obtain ⟨c, q, hp⟩ := Option.bind_eq_some_iff.mp ep
      obtain ⟨v, ev1, rv⟩ := ev.2 i _ ej
      obtain ⟨a, ea, rfl, x⟩ := rv.adr k q (fun z => by rw [z] at hp; cases hp)
      obtain ⟨n', k'⟩ := fix_at k ea
      refine h _ _ _ _ σ H E k' ⟨by rw [List.length_set]; exact ev.1, fun l w e => ?_⟩ (g.nx' k k' n')
      by_cases c : i = l
      · subst c
        rw [List.getElem?_set_self (List.getElem?_eq_some_iff.mp ej).1] at e
        cases e
        exact ⟨_, ev1, Rep.of_cell x hp⟩
      · rw [List.getElem?_set_ne c] at e
        obtain ⟨u, e1, r1⟩ := ev.2 l w e
        exact ⟨u, e1, r1.nx n'⟩
    · exact g.elim
  · exact h D as γ μ σ H E k ev g
theorem ppq_fix {i : Nat} (h : PPS X Wx st S) : PPS X Wx st (sFix i S) := let ⟨_, p, ad⟩ := h; ⟨_, p, ad_fix ad⟩
/-! ### a place that is locked while something runs -/
def lockC : PC → Option PC
  | .lst ps => some (.lstL ps)
  | .dct ps => some (.dctL ps)
  | _ => none
theorem lock_u {D : Addr → Prop} {H : Hp} {a : Addr} {c c' : PC} (h : lockC c = some c') (x : CellOk D H a c) : ∃ u, H a = some u ∧ Mut (some u) ∧ (∀ x y, u ≠ .frz x y) ∧ solid u = false ∧ (∀ D' H' od, Sd D H D' H' → H' a = some (.frz od u) → CellOk D' H' a c') ∧ ∀ D' H' od, H' a = some (.frz od u) → CellOk D' H' a c' → ∀ D2 H2, Sd D' H' D2 H2 → H2 a = some u → CellOk D2 H2 a c := by
  cases c with
  | lst ps =>
    cases h
    obtain ⟨xs, e, r⟩ := x
    exact ⟨_, e, True.intro, fun _ _ z => (by cases z), rfl, fun D' H' od s e' => ⟨od, xs, e', r.sd s⟩, fun D' H' od e' ⟨od', xs', e2, r2⟩ D2 H2 s e3 => by rw [e'] at e2; cases e2; exact ⟨_, e3, r2.sd s⟩⟩
  | dct ps =>
    cases h
    obtain ⟨xs, e, r⟩ := x
    exact ⟨_, e, True.intro, fun _ _ z => (by cases z), rfl, fun D' H' od s e' => ⟨od, xs, e', r.sd s⟩, fun D' H' od e' ⟨od', xs', e2, r2⟩ D2 H2 s e3 => by rw [e'] at e2; cases e2; exact ⟨_, e3, r2.sd s⟩⟩
  | _ => cases h
theorem lockC_live {c c' : PC} (h : lockC c = some c') : c ≠ .dead ∧ c' ≠ .dead := by
  cases c <;> cases h <;> exact ⟨by simp, by simp⟩
theorem lock_nx {D : Addr → Prop} {as : Ps} {H : Hp} {μ : Μ} {j : Nat} {a : Addr} {c' : PC} {u : HO} {od : Obj} (k : Sk D as H μ) (ea : as[j]? = some (some a)) (hu : H a = some u) (nf : ∀ x y, u ≠ .frz x y) (ok : ∀ D' H' od, Sd D H D' H' → H' a = some (.frz od u) → CellOk D' H' a c') :
    Nx D as H D as (upd H a (.frz od u)) ∧ Sk D as (upd H a (.frz od u)) (μ.set j c') := cell_set (u := u) k ea (nofz hu nf) fun D' H' s e => ok D' H' od s e
/-- the end of a lock -/
theorem unlock_nx {D D' : Addr → Prop} {as as' : Ps} {H H' : Hp} {μ m : Μ} {j : Nat} {a : Addr} {c c' : PC} {u : HO} {od : Obj} (k : Sk D as H μ) (ea : as[j]? = some (some a)) (hu : H a = some u) (nf : ∀ x y, u ≠ .frz x y)
    (n : Nx D as (upd H a (.frz od u)) D' as' H') (k' : Sk D' as' H' m) (hc : m[j]? = some c') (hd : c' ≠ .dead) (back : ∀ D' H' od, H' a = some (.frz od u) → CellOk D' H' a c' → ∀ D2 H2, Sd D' H' D2 H2 → H2 a = some u → CellOk D2 H2 a c) :
    H' a = some (.frz od u) ∧ Nx D as H D' as' (upd H' a u) ∧ Sk D' as' (upd H' a u) (m.set j c) ∧ Sd D' H' D' (upd H' a u) := by
  have eH : H' a = some (.frz od u) := n.lck a od u upd_same
  have ea' : as'[j]? = some (some a) := by
    rcases n.pre j _ ea with z | z
    · exact z
    · have := k'.dead j z
      rw [hc] at this
      exact absurd (Option.some.inj this) hd
  have da' := k'.inD j a ea'
  have da := k.inD j a ea
  have ne : ∀ b, ¬ D' b → b ≠ a := fun b nb z => nb (z ▸ da')
  have s : Sd D' H' D' (upd H' a u) := ⟨fun _ _ nb _ => nb, fun b v nb r => by
    rcases r with r | ⟨x, r⟩
    · exact .inl ((upd_ne (ne b nb)).trans r)
    · exact .inr ⟨x, (upd_ne (ne b nb)).trans r⟩, fun b v nb e _ => (upd_ne (ne b nb)).trans e⟩
  have up : ∀ {b v}, b ≠ a → H b = some v → upd H a (.frz od u) b = some v := fun nb e => (upd_ne nb).trans e
  have nd : ∀ b, ¬ D b → b ≠ a := fun b nb z => nb (z ▸ da)
  refine ⟨eH, ⟨n.pre, fun b o e => ?_, n.mono, fun b d => ?_, fun i b e => ?_, fun b o d v e => ?_, fun b v nb r => ?_, fun b o nb e z => ?_, fun b x y e => ?_⟩, ⟨by rw [List.length_set]; exact k'.len, fun b d => ?_, k'.inD, k'.inj, fun i b e => ?_, fun i e => ?_⟩, s⟩
  · by_cases z : b = a
    · subst z; exact ⟨u, upd_same⟩
    · obtain ⟨o', e'⟩ := n.ex b o (up z e)
      exact ⟨o', (upd_ne z).trans e'⟩
  · rcases n.new b d with z | z
    · exact .inl z
    · by_cases w : b = a
      · subst w; rw [upd_same] at z; cases z
      · rw [upd_ne w] at z; exact .inr z
  · rcases n.fresh i b e with z | z
    · exact .inl z
    · by_cases w : b = a
      · subst w; rw [upd_same] at z; cases z
      · rw [upd_ne w] at z; exact .inr z
  · have z : b ≠ a := fun z => v j (z ▸ ea)
    exact (upd_ne z).trans (n.hid b o d v (up z e))
  · have z := nd b nb
    have r' : Rd (upd H a (.frz od u)) b v := by
      rcases r with r | ⟨x, r⟩
      · exact .inl (up z r)
      · exact .inr ⟨x, up z r⟩
    rcases n.rd b v nb r' with r | ⟨x, r⟩
    · exact .inl ((upd_ne z).trans r)
    · exact .inr ⟨x, (upd_ne z).trans r⟩
  · exact (upd_ne (nd b nb)).trans (n.sol b o nb (up (nd b nb) e) z)
  · have z : b ≠ a := fun z => by subst z; rw [hu] at e; exact nf _ _ (Option.some.inj e)
    exact (upd_ne z).trans (n.lck b x y (up z e))
  · by_cases z : b = a
    · subst z; exact ⟨u, upd_same⟩
    · rw [upd_ne z]; exact k'.dn b d
  · by_cases z : i = j
    · subst z
      rw [ea'] at e
      cases e
      have lt : i < m.length := (List.getElem?_eq_some_iff.mp hc).1
      obtain ⟨c2, q2, x2⟩ := k'.ok i a ea'
      rw [hc] at q2
      cases q2
      exact ⟨c, List.getElem?_set_self lt, back D' H' od eH x2 _ _ s upd_same⟩
    · obtain ⟨c2, q, x⟩ := k'.ok i b e
      have nab : b ≠ a := fun w => z (k'.inj i j b e (w ▸ ea'))
      exact ⟨c2, by rw [List.getElem?_set_ne (Ne.symm z)]; exact q, x.sd s (upd_ne nab)⟩
  · rw [List.getElem?_set_ne (fun z : j = i => by rw [← z, ea'] at e; cases e)]
    exact k'.dead i e
open Classical in
noncomputable def fLock (i : Nat) (F : EF) : EF := fun γ μ => match γ[i]? with
  | some (some (.loc j)) => match (μ[j]?).bind fun c => (lockC c).map fun c' => (c, c') with
    | some (c, c') => (F γ (μ.set j c')).bind fun w m => if m[j]? = some c' then .ok w (m.set j c) else .bad
    | none => F γ μ
  | _ => F γ μ
theorem RepW.sd {D D' : Addr → Prop} {as : Ps} {H H' : Hp} {v : V} {w : W} (s : Sd D H D' H') (r : RepW D as H v w) : RepW D' as H' v w := by
  cases w with
  | v p => exact Rep.sd s r
  | loc j => exact r
open Classical in
theorem ad_lockE {i : Nat} {te : TE} (h : Ad Wx te F) : Ad Wx (fun σ H Q => te σ H Q ∨ tLockE te σ H Q) (fLock i F) := fun D as γ μ σ H Q k ev g => by
  unfold fLock at g
  split at g
  · rename_i j ej
    split at g
    · rename_i c c' e
      obtain ⟨c0, q, e2⟩ := Option.bind_eq_some_iff.mp e
      obtain ⟨c1, hl, e3⟩ := Option.map_eq_some_iff.mp e2
      cases e3
      obtain ⟨v, ev1, rv⟩ := ev.2 i _ ej
      obtain ⟨a, ea, rfl, x⟩ := rv.adr k q (lockC_live hl).1
      obtain ⟨u, hu, mu, nf, _, ok, back⟩ := lock_u hl x
      refine .inr ⟨a, u, hu, mu, fun od => ?_⟩
      obtain ⟨n1, k1⟩ := lock_nx (od := od) k ea hu nf ok
      refine h D as γ _ σ _ _ k1 (ev.nx n1) ?_
      have g1 := g.nx k k1 n1
      cases o : F γ (μ.set j c') with
      | bad => rw [o] at g; exact g.elim
      | exc C fs m => rw [o] at g1; exact g1
      | ok w m =>
        rw [o] at g
        simp only [O.bind_ok] at g
        split at g
        · rename_i hc
          intro b D2 as2 H2 n2 k2 r2
          obtain ⟨eH, n3, k3, s3⟩ := unlock_nx (c := c) k ea hu nf n2 k2 hc (lockC_live hl).2 back
          exact ⟨eH, g b D2 as2 _ n3 k3 (RepW.sd s3 r2)⟩
        · exact g.elim
    · exact .inl (h D as γ μ σ H Q k ev g)
  · exact .inl (h D as γ μ σ H Q k ev g)
theorem pp_lock {i : Nat} (h : PP X Wx e F) : PP X Wx e (fLock i F) := let ⟨_, p, ad⟩ := h; ⟨_, pe_or p (pe_lock p), ad_lockE ad⟩
/-- .. a statement -/
def OS.unlock (j : Nat) (c c' : PC) (f : Μ → Bool) : OS → OS
  | .nx γ m => if f m = true then .nx γ (m.set j c) else .bad
  | .bk γ m => if f m = true then .bk γ (m.set j c) else .bad
  | .ct γ m => if f m = true then .ct γ (m.set j c) else .bad
  | .ret w m => if f m = true then .ret w (m.set j c) else .bad
  | o => o
open Classical in
noncomputable def sLock (i : Nat) (S : SF) : SF := fun γ μ => match γ[i]? with
  | some (some (.loc j)) => match (μ[j]?).bind fun c => (lockC c).map fun c' => (c, c') with
    | some (c, c') => (S γ (μ.set j c')).unlock j c c' fun m => decide (m[j]? = some c')
    | none => S γ μ
  | _ => S γ μ
theorem EnvR.sd {D D' : Addr → Prop} {as : Ps} {H H' : Hp} {σ : L2.St} {γ : Γ} (s : Sd D H D' H') (r : EnvR D as H σ γ) : EnvR D' as H' σ γ := ⟨r.1, fun i w e => let ⟨v, q, z⟩ := r.2 i w e; ⟨v, q, z.sd s⟩⟩
end
end Pu
set_option Elab.async false
set_option linter.all false
set_option maxRecDepth 100000
set_option maxHeartbeats 4000000
/-! ### == of anything nested -/
namespace Pu
open L2 PySem PySem.Spec PyProof.Rows E10
def allO (f : P → P → Option Bool) : List P → List P → Option Bool
  | p :: ps, q :: qs => (f p q).bind fun a => (allO f ps qs).map fun b => a && b
  | _, _ => some true
def hitO (f : P → P → Option Bool) (ls : List (Key × P)) : List (Key × P) → Option Bool
  | [] => some true
  | (k, p) :: r => match valP ls k with
    | none => (hitO f ls r).map fun _ => false
    | some q => (f p q).bind fun a => (hitO f ls r).map fun b => a && b
/-- a list or a tuple, and what is no container -/
def seqFlat : P → P → Bool
  | .lst _, q => flatP q
  | .tup _, q => flatP q
  | q, .lst _ => flatP q
  | q, .tup _ => flatP q
  | _, _ => false
def eqX : Nat → P → P → Option Bool
  | 0, p, q => if flatP p = true ∧ flatP q = true then some (eqF p q) else none
  | n + 1, p, q => match p, q with
    | .lst ps, .lst qs => if ps.length = qs.length then allO (eqX n) ps qs else some false
    | .tup ps, .tup qs => (allO (eqX n) ps qs).map fun b => b && ps.length == qs.length
    | .dct ks, .dct ls => (hitO (eqX n) ls ks).map fun b => ks.length == ls.length && b
    | .lst _, .tup _ => some false
    | .tup _, .lst _ => some false
    | p, q => if flatP p = true ∧ flatP q = true then some (eqF p q) else if seqFlat p q = true then some false else none
theorem allO_range {f : P → P → Option Bool} : ∀ {ps qs : List P} {r : Bool}, allO f ps qs = some r →
    (∀ (j : Nat) p q, ps[j]? = some p → qs[j]? = some q → ∃ b, f p q = some b) ∧ r = (List.range (min ps.length qs.length)).all fun j => ((ps[j]?).bind fun p => (qs[j]?).bind fun q => f p q) == some true
  | [], qs, r, h => by
    cases h
    exact ⟨fun j p q e => by simp at e, by simp⟩
  | p :: ps, [], r, h => by
    cases h
    exact ⟨fun j p q _ e => by simp at e, by simp⟩
  | p :: ps, q :: qs, r, h => by
    obtain ⟨a, h1, h2⟩ := Option.bind_eq_some_iff.mp h
    obtain ⟨b, h3, rfl⟩ := Option.map_eq_some_iff.mp h2
    obtain ⟨i1, i2⟩ := allO_range h3
    refine ⟨fun j p' q' e1 e2 => ?_, ?_⟩
    · cases j with
      | zero => cases e1; cases e2; exact ⟨a, h1⟩
      | succ j => exact i1 j p' q' e1 e2
    · rw [List.length_cons, List.length_cons, Nat.succ_min_succ, List.range_succ_eq_map, List.all_cons, List.all_map]
      simp only [List.getElem?_cons_zero, Option.bind_some, h1]
      rw [i2]
      congr 1
      cases a <;> rfl
theorem hitO_all {f : P → P → Option Bool} {ls : List (Key × P)} (e : Key → Bool) : ∀ {ks : List (Key × P)} {r : Bool}, hitO f ls ks = some r → (∀ k p q, (k, p) ∈ ks → valP ls k = some q → ∀ b, f p q = some b → e k = b) →
    (∀ k p q, (k, p) ∈ ks → valP ls k = some q → ∃ b, f p q = some b) ∧ r = ks.all fun kp => (valP ls kp.1).isSome && e kp.1
  | [], r, h, _ => by cases h; exact ⟨fun _ _ _ m => absurd m (by simp), rfl⟩
  | (k, p) :: ks, r, h, he => by
    unfold hitO at h
    cases v : valP ls k with
    | none =>
      rw [v] at h
      obtain ⟨b, h3, rfl⟩ := Option.map_eq_some_iff.mp h
      obtain ⟨i1, i2⟩ := hitO_all e h3 fun k p q m => he k p q (List.mem_cons_of_mem _ m)
      refine ⟨fun k' p' q' m e' => ?_, by simp [v]⟩
      rcases List.mem_cons.mp m with m | m
      · cases m; rw [v] at e'; cases e'
      · exact i1 k' p' q' m e'
    | some q =>
      rw [v] at h
      obtain ⟨a, h1, h2⟩ := Option.bind_eq_some_iff.mp h
      obtain ⟨b, h3, rfl⟩ := Option.map_eq_some_iff.mp h2
      obtain ⟨i1, i2⟩ := hitO_all e h3 fun k p q m => he k p q (List.mem_cons_of_mem _ m)
      refine ⟨fun k' p' q' m e' => ?_, ?_⟩
      · rcases List.mem_cons.mp m with m | m
        · cases m; rw [v] at e'; cases e'; exact ⟨a, h1⟩
        · exact i1 k' p' q' m e'
      · rw [List.all_cons, ← i2]
        simp only [v, Option.isSome_some, Bool.true_and]
        rw [he k p q List.mem_cons_self v a h1]
theorem allO_true {f : P → P → Option Bool} : ∀ {ps qs : List P} {r : Bool}, allO f ps qs = some r → (∀ (j : Nat) p q b, ps[j]? = some p → qs[j]? = some q → f p q = some b → b = true) → r = true
  | [], qs, r, h, _ => by cases h; rfl
  | p :: ps, [], r, h, _ => by cases h; rfl
  | p :: ps, q :: qs, r, h, t => by
    obtain ⟨a, h1, h2⟩ := Option.bind_eq_some_iff.mp h
    obtain ⟨b, h3, rfl⟩ := Option.map_eq_some_iff.mp h2
    rw [t 0 p q a rfl rfl h1, allO_true h3 fun j p q b e1 e2 => t (j + 1) p q b e1 e2]
    rfl
section
variable {D : Addr → Prop} {H : Hp} {Pg : Program} {w : World} {h : Heap}
theorem RepK.nodup {xs : List (Key × V)} {vs : List (Key × Value)} (r : KV xs vs) : xs.map (·.1) = vs.map (·.1) := by
  induction r with
  | nil => rfl
  | cons h _ ih => rw [List.map_cons, List.map_cons, h.1, ih]
theorem val_mem {ks : List (Key × P)} (nd : (ks.map (·.1)).Nodup) {k : Key} {p : P} (m : (k, p) ∈ ks) : valP ks k = some p := by
  induction ks with
  | nil => cases m
  | cons q r ih =>
    have nd' := List.nodup_cons.mp (show (q.1 :: r.map (·.1)).Nodup from nd)
    unfold valP
    rw [List.find?_cons]
    rcases List.mem_cons.mp m with m | m
    · rw [← m]; simp
    · have ne : q.1 ≠ k := fun e => nd'.1 (e ▸ List.mem_map.mpr ⟨_, m, rfl⟩)
      simp only [ne, decide_false]
      exact ih nd'.2 m
theorem RepK.mem {k : Key} {p : P} : ∀ {xs : List (Key × V)} {ps : List (Key × P)}, RepK D H xs ps → (k, p) ∈ ps → ∃ v, (k, v) ∈ xs ∧ Rep D H v p
  | _, _, .nil, m => by cases m
  | _, _, .cons r t, m => by
    rcases List.mem_cons.mp m with m | m
    · cases m; exact ⟨_, List.mem_cons_self, r⟩
    · obtain ⟨v, m, r⟩ := RepK.mem t m; exact ⟨v, List.mem_cons_of_mem _ m, r⟩
theorem RepK.memV {k : Key} {v : V} : ∀ {xs : List (Key × V)} {ps : List (Key × P)}, RepK D H xs ps → (k, v) ∈ xs → ∃ p, (k, p) ∈ ps ∧ Rep D H v p
  | _, _, .nil, m => by cases m
  | _, _, .cons r t, m => by
    rcases List.mem_cons.mp m with m | m
    · cases m; exact ⟨_, List.mem_cons_self, r⟩
    · obtain ⟨v, m, r⟩ := RepK.memV t m; exact ⟨v, List.mem_cons_of_mem _ m, r⟩
theorem rd_same {a : Addr} {u v : HO} (nu : ∀ x y, u ≠ .frz x y) (nv : ∀ x y, v ≠ .frz x y) (h1 : Rd H a u) (h2 : Rd H a v) : u = v := by
  rcases h1 with h1 | ⟨o, h1⟩ <;> rcases h2 with h2 | ⟨o', h2⟩ <;> rw [h1] at h2 <;> cases h2
  · rfl
  · exact absurd rfl (nu _ _)
  · exact absurd rfl (nv _ _)
  · rfl
theorem flat_same {x : V} {p q : P} (r : Rep D H x p) (r' : Rep D H x q) (fp : flatP p = true) (fq : flatP q = true) : eqF p q = true := by
  cases r <;> cases r' <;> first | rfl | (cases fp; done) | exact beq_self_eq_true _
/-- the same thing is equal to itself -/
theorem eqX_same (ok : HOk Pg w H h) : ∀ {n : Nat} {x : V} {p q : P} {b : Bool}, Rep D H x p → Rep D H x q → eqX n p q = some b → b = true
  | 0, x, p, q, b, r, r', e => by
    unfold eqX at e
    split at e
    · rename_i f
      cases e
      exact flat_same r r' f.1 f.2
    · cases e
  | n + 1, x, p, q, b, r, r', e => by
    have flat : (if flatP p = true ∧ flatP q = true then some (eqF p q) else if seqFlat p q = true then some false else none) = some b → (seqFlat p q = true → False) → b = true := fun e ns => by
      split at e
      · rename_i f
        cases e
        exact flat_same r r' f.1 f.2
      · by_cases c : seqFlat p q = true
        · exact (ns c).elim
        · first | (rw [if_neg c] at e; cases e) | cases e
    unfold eqX at e
    split at e
    · rename_i ps qs
      split at e
      · obtain ⟨a, xs, rfl, _, h1, r1⟩ := rep_lst r
        obtain ⟨a', xs', ea, _, h2, r2⟩ := rep_lst r'
        cases ea
        cases rd_same (by simp) (by simp) h1 h2
        refine allO_true e fun j p q b e1 e2 e3 => ?_
        obtain ⟨v, hv, rv⟩ := r1.getP e1
        obtain ⟨v', hv', rv'⟩ := r2.getP e2
        rw [hv] at hv'
        cases hv'
        exact eqX_same ok rv rv' e3
      · rename_i hl
        obtain ⟨a, xs, rfl, _, h1, r1⟩ := rep_lst r
        obtain ⟨a', xs', ea, _, h2, r2⟩ := rep_lst r'
        cases ea
        cases rd_same (by simp) (by simp) h1 h2
        exact absurd (r1.length.symm.trans r2.length) hl
    · rename_i ps qs
      obtain ⟨a, xs, rfl, _, h1, r1⟩ := rep_tup r
      obtain ⟨a', xs', ea, _, h2, r2⟩ := rep_tup r'
      cases ea
      cases rd_same (by simp) (by simp) h1 h2
      obtain ⟨c, e1, rfl⟩ := Option.map_eq_some_iff.mp e
      have hl := r1.length.symm.trans r2.length
      rw [allO_true e1 fun j p q b e1 e2 e3 => by
        obtain ⟨v, hv, rv⟩ := r1.getP e1
        obtain ⟨v', hv', rv'⟩ := r2.getP e2
        rw [hv] at hv'
        cases hv'
        exact eqX_same ok rv rv' e3, hl]
      simp
    · rename_i ks ls
      obtain ⟨a, xs, rfl, _, h1, r1⟩ := rep_dct r
      obtain ⟨a', xs', ea, _, h2, r2⟩ := rep_dct r'
      cases ea
      cases rd_same (by simp) (by simp) h1 h2
      obtain ⟨c, e1, rfl⟩ := Option.map_eq_some_iff.mp e
      obtain ⟨_, _, vs, kv, _, _, _, _, _, _, _, _, nd⟩ := dk_rd ok h1
      have ndx : (xs.map (·.1)).Nodup := by rw [RepK.nodup kv]; exact nd
      have nk : (ks.map (·.1)).Nodup := by rw [← r1.keys]; exact ndx
      have nl : (ls.map (·.1)).Nodup := by rw [← r2.keys]; exact ndx
      have hl := r1.length.symm.trans r2.length
      have tr : ∀ k p q b, (k, p) ∈ ks → valP ls k = some q → eqX n p q = some b → b = true := fun k p q b m e1 e2 => by
        obtain ⟨v, mv, rv⟩ := r1.mem m
        obtain ⟨q', mq, rq⟩ := r2.memV mv
        have := val_mem nl mq
        rw [e1] at this
        cases this
        exact eqX_same ok rv rq e2
      obtain ⟨i1, i2⟩ := hitO_all (fun _ => true) e1 fun k p q m e1 b e2 => (tr k p q b m e1 e2).symm
      rw [i2, hl]
      simp only [beq_self_eq_true, Bool.true_and, Bool.and_true, List.all_eq_true]
      intro kp m
      obtain ⟨v, mv, rv⟩ := r1.mem (k := kp.1) (p := kp.2) m
      obtain ⟨q', mq, rq⟩ := r2.memV mv
      rw [val_mem nl mq]
      rfl
    · obtain ⟨a, xs, rfl, _, h1, r1⟩ := rep_lst r
      obtain ⟨a', xs', ea, _, h2, r2⟩ := rep_tup r'
      cases ea
      cases rd_same (by simp) (by simp) h1 h2
    · obtain ⟨a, xs, rfl, _, h1, r1⟩ := rep_tup r
      obtain ⟨a', xs', ea, _, h2, r2⟩ := rep_lst r'
      cases ea
      cases rd_same (by simp) (by simp) h1 h2
    · refine flat e fun s => ?_
      cases r <;> cases r' <;> simp [seqFlat, flatP] at s
end
section
variable {D : Addr → Prop} {H : Hp} {Pg : Program} {w : World} {s : Shared}
theorem isL_of {a : Addr} {xs : List V} (ok : HOk Pg w H s.heap) (h : Rd H a (.lst xs)) : ∃ its : List Value, Vals xs its ∧ s.heap.IsList a its.toArray := by
  obtain ⟨z1, its, n1, v1, e1⟩ := h.ok ok
  exact ⟨its, v1, PySem.IsL.isList e1⟩
theorem isT_of {a : Addr} {xs : List V} (ok : HOk Pg w H s.heap) (h : Rd H a (.tup xs)) : ∃ its : List Value, Vals xs its ∧ s.heap.IsTuple a its.toArray := by
  obtain ⟨z1, its, v1, e1⟩ := h.ok ok
  exact ⟨its, v1, e1⟩
theorem Vals.size {xs : List V} {its : List Value} (v : Vals xs its) : its.toArray.size = xs.length := by
  rw [List.size_toArray, v.length]
/-- element by element -/
theorem pairs_tree {n : Nat} {xs ys : List V} {ps qs : List P} {its its2 : List Value} (v1 : Vals xs its) (v2 : Vals ys its2) (r1 : Reps D H xs ps) (r2 : Reps D H ys qs)
    (ih : ∀ {x y p q u v b}, Rep D H x p → Rep D H y q → RelV x u → RelV y v → eqX n p q = some b → PySem.W.EqTree Pg w s n u v b)
    (all : ∀ (j : Nat) p q, ps[j]? = some p → qs[j]? = some q → ∃ b, eqX n p q = some b) (j : Nat) (h1 : j < its.toArray.size) (h2 : j < its2.toArray.size) :
    PySem.W.EqTree Pg w s n its.toArray[j] its2.toArray[j] (((ps[j]?).bind fun p => (qs[j]?).bind fun q => eqX n p q) == some true) := by
  have k1 : j < xs.length := by rw [← Vals.size v1]; exact h1
  have k2 : j < ys.length := by rw [← Vals.size v2]; exact h2
  obtain ⟨u1, hu1, ru1⟩ := v1.get (List.getElem?_eq_getElem k1)
  obtain ⟨u2, hu2, ru2⟩ := v2.get (List.getElem?_eq_getElem k2)
  have g1 : its.toArray[j] = u1 := by
    have h1' : j < its.length := by simpa using h1
    rw [List.getElem?_eq_getElem h1'] at hu1
    simpa using hu1
  have g2 : its2.toArray[j] = u2 := by
    have h1' : j < its2.length := by simpa using h2
    rw [List.getElem?_eq_getElem h1'] at hu2
    simpa using hu2
  rw [g1, g2]
  obtain ⟨p, ep, rp⟩ := r1.get (List.getElem?_eq_getElem k1)
  obtain ⟨q, eq, rq⟩ := r2.get (List.getElem?_eq_getElem k2)
  obtain ⟨b, eb⟩ := all j p q ep eq
  have := ih rp rq ru1 ru2 eb
  rw [ep, eq]
  simp only [Option.bind_some, eb]
  cases b <;> exact this
theorem KV.mem {k : Key} {u : Value} : ∀ {xs : List (Key × V)} {vs : List (Key × Value)}, KV xs vs → (k, u) ∈ vs → ∃ v, (k, v) ∈ xs ∧ RelV v u
  | _, _, .nil, m => by cases m
  | _, _, .cons (a := a) (b := b) h t, m => by
    rcases List.mem_cons.mp m with m | m
    · cases m; exact ⟨a.2, by have := h.1; simp only at this; rw [← this]; exact List.mem_cons_self, h.2⟩
    · obtain ⟨v, m, r⟩ := KV.mem t m; exact ⟨v, List.mem_cons_of_mem _ m, r⟩
theorem hits_tree {n : Nat} {xs ys : List (Key × V)} {ks ls : List (Key × P)} {va vb : List (Key × Value)} {c : Bool} (ra : KV xs va) (rb : KV ys vb) (r1 : RepK D H xs ks) (r2 : RepK D H ys ls) (nd : (xs.map (·.1)).Nodup)
    (ih : ∀ {x y p q u v b}, Rep D H x p → Rep D H y q → RelV x u → RelV y v → eqX n p q = some b → PySem.W.EqTree Pg w s n u v b) (e1 : hitO (eqX n) ls ks = some c) :
    ∃ e : Key → Bool, (∀ k v y, (k, v) ∈ va → valueAt vb k = some y → PySem.W.EqTree Pg w s n v y (e k)) ∧ c = va.all fun p => (valueAt vb p.1).isSome && e p.1 := by
  have nk : (ks.map (·.1)).Nodup := by rw [← r1.keys]; exact nd
  let e : Key → Bool := fun k => ((valP ks k).bind fun p => (valP ls k).bind fun q => eqX n p q) == some true
  have he : ∀ k p q, (k, p) ∈ ks → valP ls k = some q → ∀ b, eqX n p q = some b → e k = b := fun k p q m e1 b e2 => by
    show (((valP ks k).bind fun p => (valP ls k).bind fun q => eqX n p q) == some true) = b
    rw [val_mem nk m, e1]
    simp only [Option.bind_some, e2]
    cases b <;> rfl
  obtain ⟨i1, i2⟩ := hitO_all e e1 he
  refine ⟨e, fun k v y m hy => ?_, ?_⟩
  · obtain ⟨x, mx, rx⟩ := KV.mem ra m
    obtain ⟨p, mp, rp⟩ := r1.memV mx
    have ro := rb.val k
    rw [hy] at ro
    cases z : valV ys k with
    | none => rw [z] at ro; exact ro.elim
    | some yv =>
      rw [z] at ro
      cases q : valP ls k with
      | none =>
        have := r2.val_none q
        rw [z] at this; cases this
      | some q' =>
        obtain ⟨yv', hz, rq⟩ := r2.val q
        rw [z] at hz
        cases hz
        obtain ⟨b, eb⟩ := i1 k p q' mp q
        rw [he k p q' mp q b eb]
        exact ih rp rq rx ro eb
  · rw [i2]
    have h1 : ∀ k, (valP ls k).isSome = (valueAt vb k).isSome := fun k => by
      have ro := rb.val k
      cases q : valP ls k with
      | none =>
        have := r2.val_none q
        rw [this] at ro
        cases z : valueAt vb k with
        | none => rfl
        | some y => rw [z] at ro; exact ro.elim
      | some q' =>
        obtain ⟨yv', hz, rq⟩ := r2.val q
        rw [hz] at ro
        cases z : valueAt vb k with
        | none => rw [z] at ro; exact ro.elim
        | some y => rfl
    have h2 : ks.map (·.1) = va.map (·.1) := r1.keys.symm.trans (RepK.nodup ra)
    have g : ∀ {α : Type} (l : List (Key × α)), (l.all fun p => (valueAt vb p.1).isSome && e p.1) = (l.map (·.1)).all fun k => (valueAt vb k).isSome && e k := fun l => by rw [List.all_map]; rfl
    have g' : (ks.all fun kp => (valP ls kp.1).isSome && e kp.1) = (ks.all fun p => (valueAt vb p.1).isSome && e p.1) := by
      congr 1
      funext kp
      rw [h1]
    rw [g', g, g, h2]
theorem flat_tree {n : Nat} {x y : V} {p q : P} {u v : Value} {b : Bool} (ok : HOk Pg w H s.heap) (rp : Rep D H x p) (rq : Rep D H y q) (ru : RelV x u) (rv : RelV y v)
    (e : (if flatP p = true ∧ flatP q = true then some (eqF p q) else if seqFlat p q = true then some false else none) = some b) : PySem.W.EqTree Pg w s n u v b := by
  split at e
  · rename_i f
    cases e
    have e1 := eqF_ok rp rq f.1 f.2
    have f2 := (eqF_ok rq rp f.2 f.1).1
    rw [← e1.2]
    exact .leaf fun A hu => eqAt_V ru rv e1.1 f2
  · by_cases c : seqFlat p q = true
    · rw [if_pos c] at e
      cases e
      have lf : ∀ {A : Around}, A.units + n < cLine → A.units < cLine := fun h => Nat.lt_of_le_of_lt (Nat.le_add_right ..) h
      cases rp with
      | lst _ h _ =>
        obtain ⟨its, _, isl⟩ := isL_of ok h
        cases (show u = Value.ref _ from ru)
        cases rq with
        | non => cases (show v = Value.none from rv); exact .leaf fun A hu => SeqAt.EqAt.list_none isl (lf hu)
        | bl => cases (show v = Value.bool _ from rv); exact .leaf fun A hu => SeqAt.EqAt.list_bool _ isl (lf hu)
        | int => obtain ⟨t, rfl⟩ := rv; exact .leaf fun A hu => SeqAt.EqAt.list_int _ _ isl (lf hu)
        | str => obtain ⟨t, rfl⟩ := rv; exact .leaf fun A hu => SeqAt.EqAt.list_str _ _ isl (lf hu)
        | _ => cases c
      | tup _ h _ =>
        obtain ⟨its, _, isl⟩ := isT_of ok h
        cases (show u = Value.ref _ from ru)
        cases rq with
        | non => cases (show v = Value.none from rv); exact .leaf fun A hu => SeqAt.EqAt.tuple_none isl (lf hu)
        | bl => cases (show v = Value.bool _ from rv); exact .leaf fun A hu => SeqAt.EqAt.tuple_bool _ isl (lf hu)
        | int => obtain ⟨t, rfl⟩ := rv; exact .leaf fun A hu => SeqAt.EqAt.tuple_int _ _ isl (lf hu)
        | str => obtain ⟨t, rfl⟩ := rv; exact .leaf fun A hu => SeqAt.EqAt.tuple_str _ _ isl (lf hu)
        | _ => cases c
      | non =>
        cases (show u = Value.none from ru)
        cases rq with
        | lst _ h _ => obtain ⟨its, _, isl⟩ := isL_of ok h; cases (show v = Value.ref _ from rv); exact .leaf fun A hu => SeqAt.EqAt.none_list isl (lf hu)
        | tup _ h _ => obtain ⟨its, _, isl⟩ := isT_of ok h; cases (show v = Value.ref _ from rv); exact .leaf fun A hu => SeqAt.EqAt.none_tuple isl (lf hu)
        | _ => cases c
      | bl =>
        cases (show u = Value.bool _ from ru)
        cases rq with
        | lst _ h _ => obtain ⟨its, _, isl⟩ := isL_of ok h; cases (show v = Value.ref _ from rv); exact .leaf fun A hu => SeqAt.EqAt.bool_list _ isl (lf hu)
        | tup _ h _ => obtain ⟨its, _, isl⟩ := isT_of ok h; cases (show v = Value.ref _ from rv); exact .leaf fun A hu => SeqAt.EqAt.bool_tuple _ isl (lf hu)
        | _ => cases c
      | int =>
        obtain ⟨t, rfl⟩ := ru
        cases rq with
        | lst _ h _ => obtain ⟨its, _, isl⟩ := isL_of ok h; cases (show v = Value.ref _ from rv); exact .leaf fun A hu => SeqAt.EqAt.int_list _ _ isl (lf hu)
        | tup _ h _ => obtain ⟨its, _, isl⟩ := isT_of ok h; cases (show v = Value.ref _ from rv); exact .leaf fun A hu => SeqAt.EqAt.int_tuple _ _ isl (lf hu)
        | _ => cases c
      | str =>
        obtain ⟨t, rfl⟩ := ru
        cases rq with
        | lst _ h _ => obtain ⟨its, _, isl⟩ := isL_of ok h; cases (show v = Value.ref _ from rv); exact .leaf fun A hu => SeqAt.EqAt.str_list _ _ isl (lf hu)
        | tup _ h _ => obtain ⟨its, _, isl⟩ := isT_of ok h; cases (show v = Value.ref _ from rv); exact .leaf fun A hu => SeqAt.EqAt.str_tuple _ _ isl (lf hu)
        | _ => cases c
      | _ => cases rq <;> cases c
    · rw [if_neg c] at e; cases e
theorem eqX_tree (ok : HOk Pg w H s.heap) : ∀ {n : Nat} {x y : V} {p q : P} {u v : Value} {b : Bool}, Rep D H x p → Rep D H y q → RelV x u → RelV y v → eqX n p q = some b → PySem.W.EqTree Pg w s n u v b
  | 0, x, y, p, q, u, v, b, rp, rq, ru, rv, e => by
    unfold eqX at e
    refine flat_tree ok rp rq ru rv ?_
    split at e
    · rename_i f
      rw [if_pos f]
      exact e
    · cases e
  | n + 1, x, y, p, q, u, v, b, rp, rq, ru, rv, e => by
    have e0 := e
    by_cases same : x = y
    · subst same
      have hs := eqX_same ok rp rq e0
      subst hs
      have : u = v ∨ flatP p = true ∧ flatP q = true := by
        cases rp <;> cases rq <;> first | exact .inr ⟨rfl, rfl⟩ | exact .inl ((show u = _ from ru).trans (show v = _ from rv).symm)
      rcases this with z | z
      · rw [z]; exact .same
      · have e1 := eqF_ok rp rq z.1 z.2
        have f2 := (eqF_ok rq rp z.2 z.1).1
        have := flat_same rp rq z.1 z.2
        rw [← this, ← e1.2]
        exact .leaf fun A hu => eqAt_V ru rv e1.1 f2
    unfold eqX at e
    split at e
    · rename_i ps qs
      obtain ⟨a, xs, rfl, _, h1, r1⟩ := rep_lst rp
      obtain ⟨a', ys, rfl, _, h2, r2⟩ := rep_lst rq
      obtain ⟨its, v1, l1⟩ := isL_of ok h1
      obtain ⟨its2, v2, l2⟩ := isL_of ok h2
      cases (show u = Value.ref _ from ru)
      cases (show v = Value.ref _ from rv)
      have ne : a ≠ a' := fun z => same (by rw [z])
      split at e
      · rename_i hl
        obtain ⟨i1, i2⟩ := allO_range e
        have hsz : its.toArray.size = its2.toArray.size := by rw [Vals.size v1, Vals.size v2, r1.length, r2.length, hl]
        have := PySem.W.EqTree.lists (prog := Pg) (w := w) (n := n) ne l1 l2 hsz (pairs_tree v1 v2 r1 r2 (fun a b c d e => eqX_tree ok a b c d e) i1)
        rw [i2]
        rw [Vals.size v1, r1.length] at this
        rw [hl, Nat.min_self, ← hl]
        exact this
      · rename_i hl
        cases e
        exact .listsLen ne l1 l2 (by rw [Vals.size v1, Vals.size v2, r1.length, r2.length]; simpa using hl)
    · rename_i ps qs
      obtain ⟨a, xs, rfl, _, h1, r1⟩ := rep_tup rp
      obtain ⟨a', ys, rfl, _, h2, r2⟩ := rep_tup rq
      obtain ⟨its, v1, l1⟩ := isT_of ok h1
      obtain ⟨its2, v2, l2⟩ := isT_of ok h2
      cases (show u = Value.ref _ from ru)
      cases (show v = Value.ref _ from rv)
      have ne : a ≠ a' := fun z => same (by rw [z])
      obtain ⟨c, e1, rfl⟩ := Option.map_eq_some_iff.mp e
      obtain ⟨i1, i2⟩ := allO_range e1
      have := PySem.W.EqTree.tuples (prog := Pg) (w := w) (n := n) ne l1 l2 (pairs_tree v1 v2 r1 r2 (fun a b c d e => eqX_tree ok a b c d e) i1)
      rw [Vals.size v1, Vals.size v2, r1.length, r2.length] at this
      rw [i2]
      exact this
    · rename_i ks ls
      obtain ⟨a, xs, rfl, _, h1, r1⟩ := rep_dct rp
      obtain ⟨a', ys, rfl, _, h2, r2⟩ := rep_dct rq
      cases (show u = Value.ref _ from ru)
      cases (show v = Value.ref _ from rv)
      have ne : a ≠ a' := fun z => same (by rw [z])
      obtain ⟨c, e1, rfl⟩ := Option.map_eq_some_iff.mp e
      obtain ⟨_, za, va, ra, da⟩ := dk_rd ok h1
      obtain ⟨_, zb, vb, rb, db⟩ := dk_rd ok h2
      have nd : (xs.map (·.1)).Nodup := by
        rw [RepK.nodup ra]
        obtain ⟨_, _, _, _, _, _, _, _, nd⟩ := da
        exact nd
      obtain ⟨e', t, i2⟩ := hits_tree ra rb r1 r2 nd (fun a b c d e => eqX_tree ok a b c d e) e1
      have := PySem.W.EqTree.dicts ne za zb da db t
      rw [i2, ← r1.length, ← r2.length, ra.length, rb.length]
      exact this
    · obtain ⟨a, xs, rfl, _, h1, r1⟩ := rep_lst rp
      obtain ⟨a', ys, rfl, _, h2, r2⟩ := rep_tup rq
      obtain ⟨its, v1, l1⟩ := isL_of ok h1
      obtain ⟨its2, v2, l2⟩ := isT_of ok h2
      cases (show u = Value.ref _ from ru)
      cases (show v = Value.ref _ from rv)
      cases e
      exact .leaf fun A hu => SeqAt.EqAt.list_tuple l1 l2 (Nat.lt_of_le_of_lt (Nat.le_add_right ..) hu)
    · obtain ⟨a, xs, rfl, _, h1, r1⟩ := rep_tup rp
      obtain ⟨a', ys, rfl, _, h2, r2⟩ := rep_lst rq
      obtain ⟨its, v1, l1⟩ := isT_of ok h1
      obtain ⟨its2, v2, l2⟩ := isL_of ok h2
      cases (show u = Value.ref _ from ru)
      cases (show v = Value.ref _ from rv)
      cases e
      exact .leaf fun A hu => SeqAt.EqAt.tuple_list l1 l2 (Nat.lt_of_le_of_lt (Nat.le_add_right ..) hu)
    · exact flat_tree ok rp rq ru rv e
end
/-! .. as an operator: lists, tuples, dicts -/
section
variable {X : Cx} {Wx : WX} {a b : Expr} {F1 F2 : EF} {pos : Pos}
/-- two lists, two tuples, two dicts -/
def seqK : P → P → Bool
  | .lst _, .lst _ => true
  | .tup _, .tup _ => true
  | .dct _, .dct _ => true
  | _, _ => false
def rEqX : R2 := fun x y H Q => ∃ D p q c, Rep D H x p ∧ Rep D H y q ∧ seqK p q = true ∧ eqX 8 p q = some c ∧ Q (.bl c) H
theorem op_eqX (hu : X.A.units + 64 < cLine) : OpR X (compareOp .Eq) rEqX := by
  intro pins s σ H x y v u Q I rx ry h
  obtain ⟨D, p, q, c, rp, rq, sk, e, q'⟩ := h
  have ok := I.hok
  have fin : EP X pins σ Q (.bool c) s := ⟨.bl c, H, I, rfl, q'⟩
  unfold eqX at e
  split at e
  · rename_i ps qs
    obtain ⟨a, xs, rfl, _, h1, r1⟩ := rep_lst rp
    obtain ⟨a', ys, rfl, _, h2, r2⟩ := rep_lst rq
    obtain ⟨its, v1, l1⟩ := isL_of ok h1
    obtain ⟨its2, v2, l2⟩ := isL_of ok h2
    cases (show v = Value.ref _ from rx)
    cases (show u = Value.ref _ from ry)
    split at e
    · rename_i hl
      obtain ⟨i1, i2⟩ := allO_range e
      have hsz : its.toArray.size = its2.toArray.size := by rw [Vals.size v1, Vals.size v2, r1.length, r2.length, hl]
      refine PySem.W.eq_listsT (n := 7) l1 l2 hsz (pairs_tree v1 v2 r1 r2 (fun a b c d e => eqX_tree ok a b c d e) i1) (by omega) ?_
      rw [i2, hl, Nat.min_self, ← hl] at fin
      rw [Vals.size v1, r1.length]
      exact fin
    · rename_i hl
      cases e
      exact SeqAt.eq_list_lengthsAt l1 l2 (by rw [Vals.size v1, Vals.size v2, r1.length, r2.length]; simpa using hl) (by omega) fin
  · rename_i ps qs
    obtain ⟨a, xs, rfl, _, h1, r1⟩ := rep_tup rp
    obtain ⟨a', ys, rfl, _, h2, r2⟩ := rep_tup rq
    obtain ⟨its, v1, l1⟩ := isT_of ok h1
    obtain ⟨its2, v2, l2⟩ := isT_of ok h2
    cases (show v = Value.ref _ from rx)
    cases (show u = Value.ref _ from ry)
    obtain ⟨c, e1, rfl⟩ := Option.map_eq_some_iff.mp e
    obtain ⟨i1, i2⟩ := allO_range e1
    refine PySem.W.eq_tuplesT (n := 7) l1 l2 (pairs_tree v1 v2 r1 r2 (fun a b c d e => eqX_tree ok a b c d e) i1) (by omega) ?_
    rw [i2] at fin
    rw [Vals.size v1, Vals.size v2, r1.length, r2.length]
    exact fin
  · rename_i ks ls
    obtain ⟨a, xs, rfl, _, h1, r1⟩ := rep_dct rp
    obtain ⟨a', ys, rfl, _, h2, r2⟩ := rep_dct rq
    cases (show v = Value.ref _ from rx)
    cases (show u = Value.ref _ from ry)
    obtain ⟨c, e1, rfl⟩ := Option.map_eq_some_iff.mp e
    obtain ⟨_, za, va, ra, da⟩ := dk_rd ok h1
    obtain ⟨_, zb, vb, rb, db⟩ := dk_rd ok h2
    have nd : (xs.map (·.1)).Nodup := by
      rw [RepK.nodup ra]
      obtain ⟨_, _, _, _, _, _, _, _, nd⟩ := id da
      exact nd
    obtain ⟨e', t, i2⟩ := hits_tree ra rb r1 r2 nd (fun a b c d e => eqX_tree ok a b c d e) e1
    refine PySem.W.eq_dictsT (n := 7) za zb da db t (by omega) ?_
    rw [i2, ← r1.length, ← r2.length, ra.length, rb.length] at fin
    exact fin
  · cases sk
  · cases sk
  · rename_i p q n1 n2 n3 n4 n5
    cases p <;> cases q <;> simp_all [seqK]
/-- what a value, or a place, is worth now -/
def fEqX (neg : Bool) : W → W → Μ → O W := fun x y μ => match frzV μ x, frzV μ y with
  | some p, some q => if seqK p q = true then match eqX 8 p q with
      | some c => .ok (.v (.bl (c != neg))) μ
      | none => .bad
    else .bad
  | _, _ => .bad
theorem free_sd {D : Addr → Prop} {H : Hp} : Sd D H (fun _ => False) H := ⟨fun _ _ _ _ z => z, fun _ _ _ z => z, fun _ _ _ z _ => z⟩
theorem frzV_ok {D : Addr → Prop} {as : Ps} {H : Hp} {μ : Μ} {v : V} {w : W} {p : P} (k : Sk D as H μ) (r : RepW D as H v w) (h : frzV μ w = some p) : Rep (fun _ => False) H v p := by
  cases w with
  | v q => cases h; exact Rep.sd free_sd r
  | loc j =>
    obtain ⟨c, q, e3⟩ := Option.bind_eq_some_iff.mp h
    obtain ⟨a, ea, rfl, x⟩ := r.adr k q (fun z => by rw [z] at e3; cases e3)
    exact Rep.sd free_sd (Rep.of_cell x e3)
theorem ad_eqX : AdR2 Wx rEqX (fEqX false) := fun D as μ σ H x y wx wy Q k ra rb g => by
  unfold fEqX at g
  split at g
  · rename_i p q e1 e2
    split at g
    · rename_i sk
      split at g
      · rename_i c e
        refine ⟨_, p, q, c, frzV_ok k ra e1, frzV_ok k rb e2, sk, e, ?_⟩
        have := nowV (x := .bl (c != false)) k g .bl
        simpa using this
      · exact g.elim
    · exact g.elim
  · exact g.elim
abbrev gEqX (neg : Bool) : W → W → Μ → O W := match neg with
  | false => f2or (fEqS false) (f2or (fEqK false) (f2or (fEqD false) (fEqX false)))
  | true => f2or (fEqS true) (f2or (fEqK true) (fEqD true))
theorem pp_eqX (hu : X.A.units + 64 < cLine) (ha : PP X Wx a F1) (hb : PP X Wx b F2) : PP X Wx (.Compare a [.Eq] [b] pos) (fOp (gEqX false) F1 F2) := pp_cmp (op_eq.or ((op_eqK (by omega)).or ((op_eqD hu).or (op_eqX hu)))) (ad_eqS.or (ad_eqK.or (ad_eqD.or ad_eqX))) ha hb
end
end Pu
set_option Elab.async false
set_option linter.all false
set_option maxRecDepth 100000
set_option maxHeartbeats 4000000
namespace Pu
open L2 PySem PySem.Spec PyProof.Rows E10
section
variable {X : Cx} {Wx : WX} {a b c e f o : Expr} {es : List Expr} {F F1 F2 F3 : EF} {A FA : AF} {T : TF} {S : SF} {pos p : Pos}
/-! ### stars -/
theorem RepWs.append {D as H} : ∀ {vs : List V} {ws : List W} {us : List V} {xs : List W}, RepWs D as H vs ws → RepWs D as H us xs → RepWs D as H (vs ++ us) (ws ++ xs)
  | _, _, _, _, .nil, s => s
  | _, _, _, _, .cons r t, s => .cons r (RepWs.append t s)
/-! ### C.x, an int -/
/-! ### isinstance(x, (A, B)) -/
/-! ### slices of tuples too -/
def fSlT : W → Option Int → Option Int → Μ → O W := fun w lo hi μ => match w with
  | .v (.tup ps) => .ok (.v (.tup (cutP ps lo hi))) μ
  | _ => .bad
theorem ad_slT {K : PySem.W.Frag} : AdSl Wx (rSlA K) fSlT := fun D as μ σ H x w lo hi Q k r g => by
  unfold fSlT at g
  split at g
  · rename_i ps
    obtain ⟨a, xs, rfl, nd, hr, rs⟩ := rep_tup r
    refine ⟨a, xs, rfl, .inl hr, fun z => ?_, fun z p np => newT k g (cut_rep rs lo hi) p np⟩
    have e : cutP ps lo hi = ps := by
      unfold cutP
      rw [← rs.length, z.1, z.2, List.drop_zero, Nat.sub_zero, rs.length, List.take_length]
    rw [e] at g
    exact nowV k g (.tup nd hr rs)
  · exact g.elim
abbrev gSlX : W → Option Int → Option Int → Μ → O W := fun w lo hi μ => (gSl w lo hi μ).or (fSlT w lo hi μ)
theorem pp_slX {lo hi : Option Expr} {L Hi : OF} {p2 : Pos} (he : PP X Wx e F) (hl : PPO X Wx lo L) (hu : PPO X Wx hi Hi) : PP X Wx (.Subscript e (.Slice lo hi none p2) pos) (fSl gSlX F L Hi) := pp_slice ((sl_list.or sl_str).or sl_tupA) ((ad_slL.or ad_slS).or ad_slT) he hl hu
/-! ### d.get(k, v); xs.pop(i) -/
def mDGet2 : W → List W → Μ → O W := fun w ws μ => match rdD μ w, ws with
  | some ps, [.v q, z] => match keyP q with
    | some k => match valP ps k with
      | some p => .ok (.v p) μ
      | none => .ok z μ
    | none => .bad
  | _, _ => .bad
def fGet2 (F E Z : EF) : EF := fun γ μ => (F γ μ).bind fun w m => if (rdD m w).isSome = true then (E γ m).bind fun y m => (Z γ m).bind fun z m => mDGet2 w [y, z] m else .bad
/-! ### a list taken apart -/
/-! ### tests of several kinds -/
theorem pt_eqX (hu : X.A.units + 64 < cLine) (ha : PP X Wx a F1) (hb : PP X Wx b F2) : PPT X Wx (.Compare a [.Eq] [b] pos) (fTest (fOp (gEqX false) F1 F2)) := ptt_cmp (op_eq.or ((op_eqK (by omega)).or ((op_eqD hu).or (op_eqX hu)))) (ad_eqS.or (ad_eqK.or (ad_eqD.or ad_eqX))) ha hb
theorem pt_neX (hu : X.A.units + 64 < cLine) (ha : PP X Wx a F1) (hb : PP X Wx b F2) : PPT X Wx (.Compare a [.NotEq] [b] pos) (fTest (fOp (gEqX true) F1 F2)) := pt_ne hu ha hb
/-! ### a turn of a loop leaves no places behind -/
end
end Pu
set_option Elab.async false
set_option linter.all false
set_option maxRecDepth 100000
set_option maxHeartbeats 4000000
namespace Pu
open L2 PySem PySem.Spec PyProof.Rows E10
/-! ### defs with defaults -/
theorem FunD.okGX {P : Program} {w : World} {K : PySem.W.Frag} {mg : Str → Option Value} {base : Heap} {x qual : Str} {st : Stmt} {dvs : List V} {f : Addr} {fd : FuncData} {N ps : List Str} {k : Nat} {sp : Sp} (F : FunD K x qual (defArgs st) (defBody st) (defScope st) dvs [] f fd) (S : FnScope N ps (defScope st)) (few : ∀ {vs H Q E}, sp vs H Q E → vs.length = ps.length)
    (body : ∀ (cdv : Value) (A : Around) (fr : List Env) (s : Shared) (H : Hp) (vs : List V) (Q : VK) (E : XK), A.guards = some [] → Room k (A.deeper (envOfC qual (defScope st) s.heap.objs.size f cdv)) → sp vs H Q E →
      ∃ t, PSs (cxOf (L2.CX P w) P w K mg base N qual (defScope st) f cdv A fr s H E) (defBody st) t ∧ t { nx := fun _ H' => Q .non H', rt := Q } (start N vs) H) : FnX P w K mg base (k + 1) f fd ps sp := by
  obtain ⟨oc, od, dV, kV, doc, pm, an, cdv, ct, osl, rfl, lk, code, _, _⟩ := F.ex
  refine ⟨few, fun {A fr s H ar us vs Q E} hG room env bind val want => ?_⟩
  have inK : K.In s.heap := env.mod.kin.keeps fun c o e => (env.bs c o e).1
  refine codeAny_call_function room.depth (inK _ _ lk) rfl S.co S.gen rfl (PySem.W.codeRec_of inK code) (bind _ _ _ _ ?_)
  refine wpAny_newFunctionEnv_cells S.kind (fun ⟨n, v⟩ hy => (S.par n (List.of_mem_zip hy).1).elim .inl fun q => .inr ⟨q, PySem.W.cellsFrom_some _ _ _ (.inl q)⟩) fun own same s1 x => ?_
  subst same
  obtain ⟨t, T, wish⟩ := body cdv A fr s H vs Q E hG (room.deeper _) want
  have begun : Inv (cxOf (L2.CX P w) P w K mg base N qual (defScope st) f cdv A fr s H E) [] (start N vs) H s1 := inv_start S room.hd env (few want) val x
  refine ⟨(env.mod.nolimit.keeps fun c o e => (env.bs c o e).1).keeps x.toInCall.keep, codeAny_func (wpAny_mono (T.run [] s1 _ H _ begun wish) (fun fl s2 ends => ?_) fun e s' z => z)⟩
  match fl, ends with
  | .ret _, ⟨v, _, H2, J, rv, q⟩ => exact ⟨v, H2, J.os, J.bare, J.base, J.hok, rv, q⟩
  | .next, ⟨_, H2, J, q⟩ => exact ⟨V.non, H2, J.os, J.bare, J.base, J.hok, rfl, q⟩
  | .brk, ⟨_, _, _, q⟩ => exact q.elim
  | .cont, ⟨_, _, _, q⟩ => exact q.elim
section
variable {P : Program} {w : World} {K : PySem.W.Frag} {mg : Str → Option Value} {base : Heap}
theorem FunD.pp {x qual : Str} {st : Stmt} {dvs : List V} {f : Addr} {fd : FuncData} {N ps : List Str} {k : Nat} {S : SF} (F : FunD K x qual (defArgs st) (defBody st) (defScope st) dvs [] f fd) (Sc : FnScope N ps (defScope st))
    (body : ∀ (cdv : Value) (A : Around) (fr : List Env) (s : Shared) (H : Hp) (E : XK), A.guards = some [] → Room k (A.deeper (envOfC qual (defScope st) s.heap.objs.size f cdv)) →
      PPSs (cxOf (L2.CX P w) P w K mg base N qual (defScope st) f cdv A fr s H E) (fun c d _ H' => E c d H') (defBody st) S) : FnX P w K mg base (k + 1) f fd ps (spP ps.length (fDef ps.length N.length S)) := by
  refine FunD.okGX F Sc (fun h => h.1) (fun cdv A fr s H vs Q E hG hr h => ?_)
  obtain ⟨hl, D, as, ws, μ, k, r, g⟩ := h
  obtain ⟨t, p, ad⟩ := body cdv A fr s H E hG hr
  exact ⟨t, p, def_in ad hl k r g⟩
end
end Pu
set_option Elab.async false
set_option linter.all false
set_option maxRecDepth 100000
set_option maxHeartbeats 4000000
set_option Elab.async false
set_option linter.all false
set_option maxRecDepth 100000
set_option maxHeartbeats 4000000
namespace Pu
open L2 PySem PySem.Spec PyProof.Rows E10
/-! ### what lay aside becomes a place at the end -/
theorem Sk.show {D D' : Addr → Prop} {as as' : Ps} {H H' : Hp} {μ' : Μ} {a : Addr} {c : PC} (k : Sk D' as' H' μ') (n : Nx D as H D' as' H') (na : H a = none) (d : D' a) (nj : ∀ j : Nat, as'[j]? ≠ some (some a)) (h : CellOk D' H' a c) :
    Nx D as H D' (as' ++ [some a]) H' ∧ Sk D' (as' ++ [some a]) H' (μ' ++ [c]) := by
  have at' : ∀ (j : Nat) (b : Addr), (as' ++ [some a])[j]? = some (some b) → as'[j]? = some (some b) ∨ (j = as'.length ∧ b = a) := fun j b e => by
    by_cases c : j < as'.length
    · rw [List.getElem?_append_left c] at e
      exact .inl e
    · rw [List.getElem?_append_right (Nat.le_of_not_lt c)] at e
      cases z : j - as'.length with
      | zero =>
        rw [z] at e
        refine .inr ⟨by omega, ?_⟩
        have := Option.some.inj (Option.some.inj e)
        exact this.symm
      | succ n =>
        rw [z] at e
        cases e
  refine ⟨⟨fun j x e => (n.pre j x e).elim (fun z => .inl (get_pre z)) fun z => .inr (get_pre z), n.ex, n.mono, n.new, fun j b e => (at' j b e).elim (n.fresh j b) fun z => .inr (z.2 ▸ na), n.hid, n.rd, n.sol, n.lck⟩, ?_, k.dn, fun j b e => ?_, fun i j b e1 e2 => ?_, fun j b e => ?_, fun j e => ?_⟩
  · rw [List.length_append, List.length_append, k.len]
    rfl
  · rcases at' j b e with e | ⟨_, rfl⟩
    · exact k.inD j b e
    · exact d
  · rcases at' i b e1 with q1 | ⟨q1, z1⟩
    · rcases at' j b e2 with q2 | ⟨q2, z2⟩
      · exact k.inj i j b q1 q2
      · exact absurd (z2 ▸ q1) (nj i)
    · rcases at' j b e2 with q2 | ⟨q2, z2⟩
      · exact absurd (z1 ▸ q2) (nj j)
      · rw [q1, q2]
  · rcases at' j b e with e | ⟨rfl, rfl⟩
    · obtain ⟨c', q, x⟩ := k.ok j b e
      refine ⟨c', ?_, x⟩
      rw [List.getElem?_append_left (List.getElem?_eq_some_iff.mp q).1]
      exact q
    · refine ⟨c, ?_, h⟩
      rw [k.len, List.getElem?_append_right (Nat.le_refl _), Nat.sub_self]
      rfl
  · by_cases c : j < as'.length
    · rw [List.getElem?_append_left c] at e
      rw [List.getElem?_append_left (by rw [← k.len]; exact c)]
      exact k.dead j e
    · rw [List.getElem?_append_right (Nat.le_of_not_lt c)] at e
      cases z : j - as'.length with
      | zero => rw [z] at e; cases e
      | succ n => rw [z] at e; cases e
/-- a dict laid aside, then what it is to be: a value or a place -/
theorem asideD {Wx : WX} {σ : L2.St} {D D' : Addr → Prop} {as as' : Ps} {H H' : Hp} {μ' : Μ} {a : Addr} {c : Kind} {xs : List (Key × V)} {ps : List (Key × P)} {Q : VK} (k : Sk D' as' H' μ') (n : Nx D as H D' as' H') (na : H a = none) (nd : ¬ D a) (d : D' a) (nj : ∀ j : Nat, as'[j]? ≠ some (some a))
    (g : G Wx σ RepW D as H (mkD c ps μ') Q) (rs : RepK D' H' xs ps) : Q (.ref a) (upd H' a (.dK xs)) := by
  obtain ⟨s, k2⟩ := k.poke (o := .dK xs) d nj
  have n2 := n.poke (o := .dK xs) d na nd
  cases c with
  | val =>
    obtain ⟨s3, n3, k3⟩ := k2.free n2 nj nd
    exact g (.ref a) _ as' _ n3 k3 (show Rep _ _ _ _ from .dct (fun z => z.2 rfl) (.inl upd_same) (RepK.sd s3 (RepK.sd s rs)))
  | cell =>
    obtain ⟨n3, k3⟩ := k2.show n2 na d nj (c := .dct ps) ⟨xs, upd_same, RepK.sd s rs⟩
    exact g (.ref a) _ _ _ n3 k3 (.mk (by rw [← k2.len]; exact last_get))
/-! ### {k: v, ..} -/
abbrev DF := Γ → Μ → O (List (Key × P))
def RepD : RL (List (V × V)) (List (Key × P)) := fun D as H vs ps => ∃ kvs : List (Key × V), vs = kvs.map (fun kv => (kV kv.1, kv.2)) ∧ RepK D H kvs ps
def AdD (Wx : WX) (trs : List (TE × TE)) (F : DF) : Prop := ∀ D as γ μ σ H Q, Sk D as H μ → EnvR D as H σ γ → G Wx σ RepD D as H (F γ μ) Q → tPairs trs σ H Q
def PPD (X : Cx) (Wx : WX) (pos : Pos) (keys : List (Option Expr)) (values : List Expr) (F : DF) : Prop := ∃ trs, PPs X pos keys values trs ∧ AdD Wx trs F
def fDNil : DF := fun _ μ => .ok [] μ
def fDCons (Fk Fv : EF) (R : DF) : DF := fun γ μ => (Fk γ μ).bind fun wk m => (Fv γ m).bind fun wv m => (R γ m).bind fun l m => match wk, wv with
  | .v pk, .v p => match keyP pk with
    | some k => .ok ((k, p) :: l) m
    | none => .bad
  | _, _ => .bad
def fDisp (c : Kind) (R : DF) : EF := fun γ μ => (R γ μ).bind fun l m => if l.length ≤ 15 then mkD c (mergeP [] l) m else .bad
section
variable {X : Cx} {Wx : WX} {pos : Pos} {kx vx : Expr} {ks : List (Option Expr)} {vs : List Expr} {Fk Fv F Fe : EF} {R : DF} {e : Expr}
theorem ppd_nil : PPD X Wx pos [] [] fDNil := ⟨_, L2.pps_nil, fun D as γ μ σ H Q k ev g => g.now (R := RepD) k ⟨[], rfl, .nil⟩⟩
theorem ppd_cons (hk : PP X Wx kx Fk) (hv : PP X Wx vx Fv) (hr : PPD X Wx pos ks vs R) : PPD X Wx pos (some kx :: ks) (vx :: vs) (fDCons Fk Fv R) := by
  obtain ⟨tk, pk, ak⟩ := hk
  obtain ⟨tv, pv, av⟩ := hv
  obtain ⟨tr, pr, ar⟩ := hr
  refine ⟨_, L2.pps_cons pk pv pr, fun D as γ μ σ H Q k ev g => ?_⟩
  refine ak D as γ μ σ H _ k ev ((G.bind RepW k g).mono fun x H1 ⟨D1, as1, μ1, wk, n1, k1, r1, g1⟩ => ?_)
  refine av D1 as1 γ μ1 σ H1 _ k1 (ev.nx n1) ((G.bind RepW k1 g1).mono fun y H2 ⟨D2, as2, μ2, wv, n2, k2, r2, g2⟩ => ?_)
  refine ar D2 as2 γ μ2 σ H2 _ k2 ((ev.nx n1).nx n2) ((G.bind RepD k2 g2).mono fun z H3 ⟨D3, as3, μ3, l, n3, k3, r3, g3⟩ => ?_)
  split at g3
  · split at g3
    · rename_i key hk
      obtain ⟨kvs, rfl, rk⟩ := r3
      obtain rfl := keyP_ok (show Rep D1 H1 x _ from r1) hk
      exact g3.now (R := RepD) k3 ⟨(key, y) :: kvs, rfl, .cons (Rep.sd n3.sd (show Rep D2 H2 y _ from r2)) rk⟩
    · exact g3.elim
  · exact g3.elim
theorem pp_disp (c : Kind) (h : PPD X Wx pos ks vs R) (hall : ks.all (·.isSome) = true := by rfl) (hl : ks.length = vs.length := by rfl) (h0 : ks ≠ [] := by simp) (h15 : ks.length ≤ 15 := by decide) : PP X Wx (.Dict ks vs pos) (fDisp c R) := by
  obtain ⟨tr, pr, ar⟩ := h
  refine ⟨_, pe_disp pr hall hl h0 h15, fun D as γ μ σ H Q k ev g => ?_⟩
  intro p np
  obtain ⟨n0, k0, nj0⟩ := k.hide (o := .dK []) np
  have nd := k.nd np
  have g0 : G Wx σ RepW D as H ((R γ μ).bind fun l m => if l.length ≤ 15 then mkD c (mergeP [] l) m else .bad) Q := g
  have gx : G Wx σ RepD D as H (R γ μ) fun ps H1 => ∃ D1 as1 μ1 l, Nx D as H D1 as1 H1 ∧ Sk D1 as1 H1 μ1 ∧ RepD D1 as1 H1 ps l ∧ G Wx σ RepW D1 as1 H1 (if l.length ≤ 15 then mkD c (mergeP [] l) μ1 else .bad) Q := G.bind RepD k g0
  refine ar (plusD D p) as γ μ σ (upd H p (.dK [])) _ k0 (ev.nx n0) ?_
  cases o : R γ μ with
  | bad => rw [o] at g0; exact g0.elim
  | exc C fs m =>
    rw [o] at g0
    exact G.nx (R := RepW) (o := (.exc C fs m : O W)) (Q := Q) k k0 n0 g0
  | ok l m =>
    rw [o] at g0
    intro ps D1 as1 H1 n1 k1 r1
    obtain ⟨kvs, rfl, rk⟩ := r1
    have e1 : H1 p = some (.dK []) := n1.hid p _ (.inr rfl) nj0 upd_same
    have nj1 := n1.notin nj0 (o := .dK []) upd_same
    have d1 : D1 p := n1.mono p (.inr rfl) nj0
    have n01 := n0.trans k k0 n1
    have g1 : G Wx σ RepW D as H (if l.length ≤ 15 then mkD c (mergeP [] l) m else .bad) Q := g0
    split at g1
    · rename_i hl2
      refine ⟨e1, kvs, rfl, by rw [rk.length]; exact hl2, ?_⟩
      exact asideD k1 n01 np nd d1 nj1 g1 (RepK.merge rk .nil)
    · exact g1.elim
end
/-! ### xs.extend(ys) -/
end Pu
set_option Elab.async false
set_option linter.all false
set_option maxRecDepth 100000
set_option maxHeartbeats 4000000
set_option Elab.async false
set_option linter.all false
set_option maxRecDepth 100000
set_option maxHeartbeats 4000000
set_option Elab.async false
set_option linter.all false
set_option maxRecDepth 100000
set_option maxHeartbeats 4000000
set_option Elab.async false
set_option linter.all false
set_option maxRecDepth 100000
set_option maxHeartbeats 4000000
namespace Pu
open L2 PySem PySem.Spec PyProof.Rows E10
open PySem.W (InstAt findIn isFn StrBack)
/-! ### repr of data -/
def okR (d : PyData) : Bool := d.showable && (decide (d.depth ≤ 40) && (!d.hasDict && decide (d.shown.length ≤ 1000000)))
theorem okR_ok {d : PyData} (h : okR d = true) : d.showable = true ∧ d.depth ≤ 40 ∧ d.hasDict = false ∧ d.shown.length ≤ 1000000 := by
  obtain ⟨h1, h⟩ := Bool.and_eq_true_iff.mp h
  obtain ⟨h2, h⟩ := Bool.and_eq_true_iff.mp h
  obtain ⟨h3, h4⟩ := Bool.and_eq_true_iff.mp h
  exact ⟨h1, of_decide_eq_true h2, by simpa using h3, of_decide_eq_true h4⟩
theorem million : (1000000 : Nat) ≤ sizeLine := by decide
section
variable {X : Cx} {Wx : WX}
def rReprG (K : PySem.W.Frag) : List V → Hp → VK → Prop := fun xs H Q => ∃ x d, xs = [x] ∧ Dp K H x d ∧ okR d = true ∧ Q (.str d.shown) H
theorem call_reprG (hg : X.A.guards = some []) (hu : X.A.units + 64 < cLine) : CallR X (.builtin "repr") (rReprG X.K) := by
  intro pins s σ H xs us Q I r h
  obtain ⟨x, d, rfl, hd, ok, q⟩ := h
  obtain ⟨u, rfl, ru⟩ := vals1 r
  obtain ⟨o1, o2, o3, o4⟩ := okR_ok ok
  have lid : d.shown.length ≤ sizeLine := Nat.le_trans o4 million
  obtain ⟨as, rd⟩ := Dp.reads I d x u hd ru
  have fin : ∀ {a : Addr}, u = .ref a → wpAny (model X.prog X.w) X.A (call (.builtin "repr") [u]) (EP X pins σ Q) X.xe s := by
    intro a e
    subst e
    exact repr_of_reads' rd o1 (fun z => absurd (o3.symm.trans z) Bool.false_ne_true) hg (by omega) (fun _ _ e => e) (fun h' u tk hk => ⟨.str d.shown, H, I.kept (t' := tk) hk, ⟨u, rfl⟩, q⟩) lid
  cases hd with
  | non =>
    cases (show u = Value.none from ru)
    exact P.repr_of_none ⟨.str (PyData.shown .none), H, I.tok _, ⟨s.toks, by simp only [PyData.shown]⟩, q⟩
  | bl b =>
    cases (show u = Value.bool b from ru)
    exact P.repr_of_bool ⟨.str (PyData.shown (.bool b)), H, I.tok _, ⟨s.toks, by simp only [PyData.shown]⟩, q⟩
  | int i =>
    obtain ⟨t, rfl⟩ := (show ∃ t, u = Value.int i t from ru)
    have hi : i.natAbs.log2 < 1920 := by
      have : PyData.showable (.int i) = decide (i.natAbs.log2 < 1920) := by simp only [PyData.showable]
      rw [this] at o1
      exact of_decide_eq_true o1
    exact P.repr_of_int hi ⟨.str (PyData.shown (.int i)), H, I.tok _, ⟨s.toks, by simp only [PyData.shown]⟩, q⟩
  | str z =>
    obtain ⟨t, rfl⟩ := (show ∃ t, u = Value.str z t from ru)
    have e : PyData.shown (.str z) = reprText z := by simp only [PyData.shown]
    exact P.repr_of_str ⟨.str (PyData.shown (.str z)), H, I.tok _, ⟨s.toks, by simp only [PyData.shown]⟩, q⟩ (by rw [← e]; exact lid)
  | lst hs ha => exact fin (show u = Value.ref _ from ru)
  | tup hs ha => exact fin (show u = Value.ref _ from ru)
def fReprG : List W → Μ → O W := fun ws μ => match ws with
  | [w] => match (frzV μ w).bind (toD 30) with
    | some d => if okR d = true then .ok (.v (.str d.shown)) μ else .bad
    | none => .bad
  | _ => .bad
theorem ad_reprG {K : PySem.W.Frag} : AdC Wx (rReprG K) fReprG := fun D as μ σ H vs ws Q k r g => by
  unfold fReprG at g
  split at g
  · split at g
    · rename_i w d e
      split at g
      · rename_i ok
        obtain ⟨v, rfl, rv⟩ := repWs1 r
        exact ⟨v, d, rfl, toD_okW k rv e, ok, nowV k g .str⟩
      · exact g.elim
    · exact g.elim
  · exact g.elim
/-! a dict of small things -/
def tkv (p : Key × P) : Option (PyData × PyData) := (tinyP (keyOf p.1)).bind fun a => (tinyP p.2).map fun b => (a, b)
theorem mapM_tkv {D : Addr → Prop} {H : Hp} : ∀ {xs : List (Key × V)} {ks : List (Key × P)} {ds : List (PyData × PyData)}, RepK D H xs ks → ks.mapM tkv = some ds → Paired TinyP xs ds
  | _, _, ds, .nil, e => by cases e; exact .nil
  | _, _, ds, @RepK.cons _ _ k v p l m r t, e => by
    rw [List.mapM_cons] at e
    obtain ⟨d, h1, h2⟩ := Option.bind_eq_some_iff.mp e
    obtain ⟨ds', h3, h4⟩ := Option.bind_eq_some_iff.mp h2
    cases h4
    obtain ⟨a, h5, h6⟩ := Option.bind_eq_some_iff.mp h1
    obtain ⟨b, h7, rfl⟩ := Option.map_eq_some_iff.mp h6
    refine .cons ⟨?_, tinyP_ok r h7⟩ (mapM_tkv t h3)
    cases k <;> exact h5
def rReprDR : List V → Hp → VK → Prop := fun xs H Q => ∃ a ys ds, xs = [.ref a] ∧ Rd H a (.dK ys) ∧ ys.length ≤ 40 ∧ Paired TinyP ys ds ∧ Q (.str (PyData.dict ds).shown) H
theorem dct_reads {pins : List (Addr × Obj)} {σ : L2.St} {H : Hp} {s : Shared} {a : Addr} {ys : List (Key × V)} {ds : List (PyData × PyData)} (I : Inv X pins σ H s) (ha : Rd H a (.dK ys)) (hl : ys.length ≤ 40) (hp : Paired TinyP ys ds) :
    ∃ as, Reads s.heap (.ref a) (.dict ds) as ∧ (PyData.dict ds).showable = true ∧ sysModules ∉ as ∧ (PyData.dict ds).depth = 1 ∧ (PyData.dict ds).shown.length ≤ 9000 := by
  obtain ⟨z, lo, vs, rel, dd⟩ := dk_rd I.hok ha
  obtain ⟨o, es, ep, h1, ex, h3, x1, prs, x2⟩ := dd
  have na : sysModules ≠ a := fun z => by rw [z] at lo; simp at lo
  obtain ⟨o1, o2, o3⟩ := dict_ok hp
  obtain ⟨r1, r2⟩ := dict_reads (h := s.heap) hp rel prs
  have rd : Reads s.heap (.ref a) (.dict ds) (a :: [] ++ []) := .dict h1 ex.1 h3 r1 r2
  refine ⟨_, rd, o1, by simp [na], ?_, ?_⟩
  · show PyData.depthKv ds + 1 = 1
    rw [o2]
  · have l1 := dictLen (PyData.shownKv ds)
    show (dictText (PyData.shownKv ds)).length ≤ _
    omega
theorem call_reprDR (hg : X.A.guards = some []) (hu : X.A.units + 64 < cLine) : CallR X (.builtin "repr") rReprDR := by
  intro pins s σ H xs us Q I r h
  obtain ⟨a, ys, ds, rfl, ha, hl, hp, q⟩ := h
  obtain ⟨u, rfl, ru⟩ := vals1 r
  cases (show u = Value.ref a from ru)
  obtain ⟨as, rd, o1, na, hd, lid⟩ := dct_reads I ha hl hp
  have : (9000 : Nat) ≤ sizeLine := by decide
  exact repr_of_reads' rd o1 (fun _ => na) hg (by omega) (fun _ _ e => e) (fun h' u tk hk => ⟨.str (PyData.dict ds).shown, H, I.kept (t' := tk) hk, ⟨u, rfl⟩, q⟩) (by omega)
def fReprDct : List W → Μ → O W := fun ws μ => match ws with
  | [w] => match rdD μ w with
    | some ks => if ks.length ≤ 40 then match ks.mapM tkv with
        | some ds => .ok (.v (.str (PyData.dict ds).shown)) μ
        | none => .bad
      else .bad
    | none => .bad
  | _ => .bad
theorem ad_reprDR : AdC Wx rReprDR fReprDct := fun D as μ σ H vs ws Q k r g => by
  unfold fReprDct at g
  split at g
  · split at g
    · rename_i w ks e
      split at g
      · rename_i hl
        split at g
        · rename_i ds e2
          obtain ⟨v, rfl, rv⟩ := repWs1 r
          obtain ⟨a, xs, rfl, ha, rk⟩ := rdD_ok k rv e
          exact ⟨a, xs, ds, rfl, ha, by rw [rk.length]; exact hl, mapM_tkv rk e2, nowV k g .str⟩
        · exact g.elim
      · exact g.elim
    · exact g.elim
  · exact g.elim
/-! a list of data and of dicts of small things -/
/-- what stands in it -/
def El (K : PySem.W.Frag) (H : Hp) (v : V) (d : PyData) : Prop := (Dp K H v d ∧ okR d = true ∧ d.shown.length ≤ 20000) ∨ ∃ b ys es, v = .ref b ∧ Rd H b (.dK ys) ∧ ys.length ≤ 40 ∧ Paired TinyP ys es ∧ d = .dict es
def elP : P → Option PyData
  | .dct ks => if ks.length ≤ 40 then (ks.mapM tkv).map PyData.dict else none
  | p => (toD 30 p).bind fun d => if okR d = true ∧ d.shown.length ≤ 20000 then some d else none
theorem elP_ok {K : PySem.W.Frag} {D : Addr → Prop} {H : Hp} {v : V} {p : P} {d : PyData} (r : Rep D H v p) (e : elP p = some d) : El K H v d := by
  unfold elP at e
  split at e
  · rename_i ks
    split at e
    · rename_i hl
      obtain ⟨es, h1, rfl⟩ := Option.map_eq_some_iff.mp e
      cases r with
      | dct n hr rk => exact .inr ⟨_, _, es, rfl, hr, by rw [rk.length]; exact hl, mapM_tkv rk h1, rfl⟩
    · cases e
  · obtain ⟨d', h1, h2⟩ := Option.bind_eq_some_iff.mp e
    split at h2
    · rename_i hc
      cases h2
      exact .inl ⟨toD_ok r h1, hc⟩
    · cases h2
theorem els_ok {K : PySem.W.Frag} {D : Addr → Prop} {H : Hp} : ∀ {xs : List V} {ps : List P} {ds : List PyData}, Reps D H xs ps → ps.mapM elP = some ds → Paired (El K H) xs ds
  | _, _, ds, .nil, e => by cases e; exact .nil
  | _, _, ds, .cons r t, e => by
    rw [List.mapM_cons] at e
    obtain ⟨d, h1, h2⟩ := Option.bind_eq_some_iff.mp e
    obtain ⟨ds', h3, h4⟩ := Option.bind_eq_some_iff.mp h2
    cases h4
    exact .cons (elP_ok r h1) (els_ok t h3)
theorem els_repr {pins : List (Addr × Obj)} {σ : L2.St} {H : Hp} {s : Shared} (I : Inv X pins σ H s) : ∀ {xs : List V} {ds : List PyData} {us : List Value}, Paired (El X.K H) xs ds → Vals xs us →
    ∃ as bs, ReadsAll s.heap us ds as ∧ ReadAtMost s.heap (PyData.depthAll ds) bs ∧ ReprAllK X.prog X.w bs s.heap (PyData.depthAll ds) us (PyData.shownAll ds) ∧ PyData.showableAll ds = true ∧ PyData.depthAll ds ≤ 40 ∧ piled (PyData.shownAll ds) ≤ 20002 * xs.length
  | [], [], [], _, _ => ⟨[], [], .nil, (fun _ m => by cases m), by show ReprAllK X.prog X.w [] s.heap 0 [] []; exact .nil, rfl, Nat.zero_le _, Nat.zero_le _⟩
  | x :: xs, d :: ds, u :: us, .cons r t, .cons e n => by
    obtain ⟨as2, bs2, g1, g2, g3, g6, g4, g5⟩ := els_repr I t n
    have z0 : (20000 : Nat) ≤ sizeLine := by decide
    have one : ∃ as bs, Reads s.heap u d as ∧ ReadAtMost s.heap d.depth bs ∧ ReprK X.prog X.w bs s.heap d.depth u d.shown ∧ d.showable = true ∧ d.depth ≤ 40 ∧ d.shown.length ≤ 20000 := by
      rcases r with ⟨dp, ok, ls⟩ | ⟨b, ys, es, rfl, hb, hl, hp, rfl⟩
      · obtain ⟨a1, a2, a3, _⟩ := okR_ok ok
        obtain ⟨as, rd⟩ := Dp.reads I d x u dp e
        obtain ⟨bs, h1, h2⟩ := ReprK.of_reads (prog := X.prog) (w := X.w) rd a1 (fun z => absurd (a3.symm.trans z) Bool.false_ne_true) (Nat.le_trans ls z0)
        exact ⟨as, bs, rd, h1, h2, a1, a2, ls⟩
      · cases (show u = Value.ref b from e)
        obtain ⟨as, rd, o1, na, hd, lid⟩ := dct_reads I hb hl hp
        obtain ⟨bs, h1, h2⟩ := ReprK.of_reads (prog := X.prog) (w := X.w) rd o1 (fun _ => na) (by omega)
        exact ⟨as, bs, rd, h1, h2, o1, by omega, by omega⟩
    obtain ⟨as1, bs1, f1, f2, f3, f6, f4, f5⟩ := one
    have l1 : d.depth ≤ PyData.depthAll (d :: ds) := Nat.le_max_left _ _
    have l2 : PyData.depthAll ds ≤ PyData.depthAll (d :: ds) := Nat.le_max_right _ _
    refine ⟨as1 ++ as2, bs1 ++ bs2, .cons f1 g1, (f2.mono l1).append (g2.mono l2), .cons ((f3.more fun _ m => List.mem_append_left _ m).level_le l1) (g3.more_le (fun _ m => List.mem_append_right _ m) l2), ?_, ?_, ?_⟩
    · show (_ && _) = true
      rw [f6, g6]
      rfl
    · show max _ _ ≤ 40
      exact Nat.max_le.mpr ⟨f4, g4⟩
    · show piled (_ :: _) ≤ _
      rw [piled_cons, List.length_cons]
      omega
theorem shows_els {prog : Program} {w : World} {h₀ : Heap} {a : Addr} {o : Obj} {vs : Array Value} {n : Nat} {ds : List PyData} {as bs : List Addr} (h1 : h₀.get? a = some o) (h2 : o.cls = .type "list") (h3 : o.data = .seq vs n) (ra : ReadsAll h₀ vs.toList ds as)
    (hb : ReadAtMost h₀ (PyData.depthAll ds) bs) (hk : ReprAllK prog w bs h₀ (PyData.depthAll ds) vs.toList (PyData.shownAll ds)) (hs : PyData.showableAll ds = true) (hz : (listText (PyData.shownAll ds)).length ≤ sizeLine) :
    ∃ T idr, ShowsBy prog w h₀ a (.list ds) T idr := by
  have rd : Reads h₀ (.ref a) (.list ds) (a :: as) := .list h1 h2 h3 ra
  cases ds with
  | nil => exact showsBy_of_reads rd hs (fun e => by cases e) hz
  | cons d ds =>
    obtain ⟨l⟩ := vs
    cases l with
    | nil => have ra : ReadsAll h₀ [] (d :: ds) as := ra; cases ra
    | cons x l =>
      have out : a ∉ bs := not_mem_of_deeper rd (show PyData.depthAll (d :: ds) < PyData.depthAll (d :: ds) + 1 by omega) hb
      exact ⟨"list", "list.__repr__", F.slot_list_repr.toG, F.slot_list_str, F.slot_list_format, fun s k => ⟨o, k _ _ h1, h2⟩,
        fun A E s Q hg hu k q => call_list_reprK h1 h2 h3 out (by simpa using hk.length_eq) (fun i y e => hk.item i y (by simpa using e)) hg
          (fun b _ => Clear.nil b) hu k q hz⟩
def rReprLD (K : PySem.W.Frag) : List V → Hp → VK → Prop := fun xs H Q => ∃ a ys ds, xs = [.ref a] ∧ Rd H a (.lst ys) ∧ ys.length ≤ 40 ∧ Paired (El K H) ys ds ∧ Q (.str (PyData.list ds).shown) H
theorem call_reprLD (hg : X.A.guards = some []) (hu : X.A.units + 64 < cLine) : CallR X (.builtin "repr") (rReprLD X.K) := by
  intro pins s σ H xs us Q I r h
  obtain ⟨a, ys, ds, rfl, ha, hl, hp, q⟩ := h
  obtain ⟨u, rfl, ru⟩ := vals1 r
  cases (show u = Value.ref a from ru)
  obtain ⟨_, its, m, rv, e⟩ := (show ObjOk X.prog X.w H s.heap a (.lst ys) from ha.ok I.hok)
  obtain ⟨as, bs, ra, hb, hk, o1, o2, o3⟩ := els_repr I hp rv
  have z0 : (900000 : Nat) ≤ sizeLine := by decide
  have hz : (listText (PyData.shownAll ds)).length ≤ sizeLine := by
    have := listLen (PyData.shownAll ds)
    omega
  obtain ⟨T, idr, S⟩ := shows_els (prog := X.prog) (w := X.w) e rfl rfl (by simpa using ra) hb (by simpa using hk) o1 hz
  have dl : (PyData.list ds).depth ≤ 41 := by
    show PyData.depthAll ds + 1 ≤ 41
    omega
  exact call_repr_slot (by omega) (S.typeIs s fun _ _ e => e) S.slotRepr (S.call X.A.in1 X.xe s _ hg (by show X.A.units + 1 + _ < cLine; omega) (fun _ _ e => e) fun h' u tk hk => ⟨_, _, rfl, ⟨.str (PyData.list ds).shown, H, I.kept (t' := tk) hk, ⟨u, rfl⟩, q⟩⟩)
def fReprLD : List W → Μ → O W := fun ws μ => match ws with
  | [w] => match rdL μ w with
    | some ps => if ps.length ≤ 40 then match ps.mapM elP with
        | some ds => .ok (.v (.str (PyData.list ds).shown)) μ
        | none => .bad
      else .bad
    | none => .bad
  | _ => .bad
theorem ad_reprLD {K : PySem.W.Frag} : AdC Wx (rReprLD K) fReprLD := fun D as μ σ H vs ws Q k r g => by
  unfold fReprLD at g
  split at g
  · split at g
    · rename_i w ps e
      split at g
      · rename_i hl
        split at g
        · rename_i ds e2
          obtain ⟨v, rfl, rv⟩ := repWs1 r
          obtain ⟨a, xs, rfl, ha, rk⟩ := rdL_ok k rv e
          exact ⟨a, xs, ds, rfl, ha, by rw [rk.length]; exact hl, els_ok rk e2, nowV k g .str⟩
        · exact g.elim
      · exact g.elim
    · exact g.elim
  · exact g.elim
abbrev fReprX := fcor fReprG (fcor fReprDct fReprLD)
end
section
variable {X : Cx} {Wx : WX} {e a b : Expr} {es : List Expr} {F F1 F2 : EF} {A : AF} {pos p : Pos} {C : Addr} {FF' : FF} {k : Nat}
theorem pp_reprX (hG : X.A.guards = some []) (hu : X.A.units + 64 < cLine) (hg : Gl X "repr") (hm : X.mg "repr" = none) (ha : PPA X Wx (e :: es) A) (he : starEach (e :: es) X.env = (false, eval e X.env) :: starEach es X.env := by rfl) (hpl : (backTo pos (starEach es X.env)).any (·.1) = false := by rfl) :
    PP X Wx (.Call (.Name "repr" p) (e :: es) [] pos) (fCall fReprX A) := pp_callB ((call_reprG hG (by omega)).or ((call_reprDR hG (by omega)).or (call_reprLD hG (by omega)))) hg hm b_repr (ad_reprG.or (ad_reprDR.or ad_reprLD)) ha (by decide) (by decide) he hpl
theorem pp_reprO (d : DS X.prog X.w X.K X.mg X.base C "__repr__" 1 k FF') (hG : X.A.guards = some []) (hr : Room (k + 1) X.A) (hu : X.A.units + 64 < cLine) (hg : Gl X "repr") (hm : X.mg "repr" = none) (ha : PPA X Wx (e :: es) A) (he : starEach (e :: es) X.env = (false, eval e X.env) :: starEach es X.env := by rfl) (hpl : (backTo pos (starEach es X.env)).any (·.1) = false := by rfl) :
    PP X Wx (.Call (.Name "repr" p) (e :: es) [] pos) (fCall (fTxtO C FF') A) := by
  obtain ⟨f, fd, ps, FG, hs, bi⟩ := d.g
  exact pp_callB (call_reprO FG hG hr (by omega) bi hs) hg hm b_repr ad_txtO ha (by decide) (by decide) he hpl
theorem pp_strO (d : DS X.prog X.w X.K X.mg X.base C "__str__" 1 k FF') (hG : X.A.guards = some []) (hr : Room (k + 2) X.A) (hu : X.A.units + 64 < cLine) (hg : Gl X "str") (hm : X.mg "str" = none) (ha : PPA X Wx (e :: es) A) (he : starEach (e :: es) X.env = (false, eval e X.env) :: starEach es X.env := by rfl) (hpl : (backTo pos (starEach es X.env)).any (·.1) = false := by rfl) :
    PP X Wx (.Call (.Name "str" p) (e :: es) [] pos) (fCall (fTxtO C FF') A) := by
  obtain ⟨f, fd, ps, FG, hs, bi⟩ := d.g
  exact pp_callTy (call_strO FG hG hr (by omega) bi hs) hg hm b_str ad_txtO ha (by decide) (by decide) he hpl
end
/-! ### f-strings -/
section
variable {X : Cx} {k n : Nat} {f C : Addr} {fd : FuncData} {ps : List Str} {sp : Sp} {e : Expr} {te : TE} {pos : Pos}
/-- {x!r} of data -/
def tFmtRG (K : PySem.W.Frag) (te : TE) : TE := fun σ H Q => te σ H fun x H1 => ∃ a d, x = .ref a ∧ ((Dp K H1 x d ∧ okR d = true) ∨ ∃ ys ds, d = .dict ds ∧ Rd H1 a (.dK ys) ∧ ys.length ≤ 40 ∧ Paired TinyP ys ds) ∧ Q (.str d.shown) H1
theorem pe_fmtRG (hg : X.A.guards = some []) (hu : X.A.units + 64 < cLine) (he : PE X e te) : PE X (.FormattedValue e 114 none pos) (tFmtRG X.K te) := by
  refine ⟨fun pins s σ H Q I h => ?_⟩
  refine wpAny_FormattedValue_repr (thn (he.run pins s σ H _ I h) fun v s1 hv => ?_)
  obtain ⟨x, H1, I1, r1, a, d, rfl, hd, q⟩ := hv
  cases (show v = Value.ref a from r1)
  have fin : ∀ {as}, Reads s1.heap (.ref a) d as → d.showable = true → (d.hasDict = true → sysModules ∉ as) → d.depth ≤ 40 → d.shown.length ≤ sizeLine → wpAny (model X.prog X.w) X.A (pyReprObj (.ref a)) (fun r s2 => wpAny (model X.prog X.w) X.A (formatField r Str.empty) (EP X pins σ Q) X.xe s2) X.xe s1 := by
    intro as rd o1 na hd lid
    refine pyReprObj_of_reads rd o1 na hg (by omega) (fun _ _ e => e) (fun h' u tk hk => ?_) lid
    have I2 : Inv X pins σ H1 { s1 with heap := h', toks := tk } := I1.kept (t' := tk) hk
    exact wpAny_formatField_str ⟨.str d.shown, H1, I2.tok _, ⟨_, rfl⟩, q⟩ ⟨.str d.shown, H1, I2.tok _, ⟨_, rfl⟩, q⟩ lid
  rcases hd with ⟨hd, ok⟩ | ⟨ys, ds, rfl, ha, hl, hp⟩
  · obtain ⟨o1, o2, o3, o4⟩ := okR_ok ok
    obtain ⟨as, rd⟩ := Dp.reads I1 d _ _ hd (show RelV (.ref a) (.ref a) from rfl)
    exact fin rd o1 (fun z => absurd (o3.symm.trans z) Bool.false_ne_true) o2 (Nat.le_trans o4 million)
  · obtain ⟨as, rd, o1, na, hd, lid⟩ := dct_reads I1 ha hl hp
    have : (9000 : Nat) ≤ sizeLine := by decide
    exact fin rd o1 (fun _ => na) (by omega) (by omega)
end
/-! .. as functions -/
/-- the text of {x!r} -/
def fmtRV (w : W) (μ : Μ) : O W := match w with
  | .v (.str z) => if (reprText z).length ≤ 1000000 then .ok (.v (.str (reprText z))) μ else .bad
  | .v (.int i) => if i.natAbs.log2 < 1920 then .ok (.v (.str (toString i))) μ else .bad
  | .v (.dct ks) => if ks.length ≤ 40 then match ks.mapM tkv with
      | some ds => .ok (.v (.str (PyData.dict ds).shown)) μ
      | none => .bad
    else .bad
  | .v (.lst ps) => match toD 30 (.lst ps) with
    | some d => if okR d = true then .ok (.v (.str d.shown)) μ else .bad
    | none => .bad
  | .v (.tup ps) => match toD 30 (.tup ps) with
    | some d => if okR d = true then .ok (.v (.str d.shown)) μ else .bad
    | none => .bad
  | _ => .bad
def fFmtR (F : EF) : EF := fun γ μ => (F γ μ).bind fmtRV
def fFmt (F : EF) : EF := fun γ μ => (F γ μ).bind fun w m => match w with
  | .v (.str z) => if z.length ≤ 1000000 then .ok (.v (.str z)) m else .bad
  | .v (.int i) => if i.natAbs.log2 < 1920 then .ok (.v (.str (toString i))) m else .bad
  | _ => .bad
def fFmtP (F : EF) : EF := fun γ μ => (F γ μ).bind fun w m => match w with
  | .v (.int i) => if i.natAbs.log2 < 1920 then .ok (.v (.str (plusText i))) m else .bad
  | _ => .bad
abbrev fTextC := fTxtO
def JF := Γ → Μ → Str → O Str
def fJNil : JF := fun _ μ acc => .ok acc μ
def fJCons (F : EF) (R : JF) : JF := fun γ μ acc => (F γ μ).bind fun w m => match w with
  | .v (.str y) => if (acc ++ y).length ≤ 1000000 then R γ m (acc ++ y) else .bad
  | _ => .bad
def fJoined (R : JF) : EF := fun γ μ => (R γ μ Str.empty).bind fun z m => .ok (.v (.str z)) m
def RepT : RL Str Str := fun _ _ _ b a => b = a
def AdJ (Wx : WX) (ts : List TE) (R : JF) : Prop := ∀ D as γ μ σ H acc Q, Sk D as H μ → EnvR D as H σ γ → G Wx σ RepT D as H (R γ μ acc) Q → tJs ts acc σ H Q
def PPJ (X : Cx) (Wx : WX) (es : List Expr) (R : JF) : Prop := ∃ ts, PJ X es ts ∧ AdJ Wx ts R
section
variable {X : Cx} {Wx : WX} {e e1 e2 : Expr} {es : List Expr} {F : EF} {R : JF} {pos p1 p2 : Pos} {C : Addr} {FF' : FF} {k j : Nat}
theorem pp_fmtR (hG : X.A.guards = some []) (hu : X.A.units + 64 < cLine) (he : PP X Wx e F) : PP X Wx (.FormattedValue e 114 none pos) (fFmtR F) := by
  obtain ⟨te, pe, ae⟩ := he
  refine ⟨_, pe_or (pe_fmtR pe) (pe_fmtRG hG (by omega) pe), fun D as γ μ σ H Q k ev g => ?_⟩
  have g' : G Wx σ RepW D as H ((F γ μ).bind fmtRV) Q := g
  have small : ∀ {z : Str}, z.length ≤ 1000000 → z.length ≤ sizeLine := fun l => Nat.le_trans l million
  cases o : F γ μ with
  | bad => rw [o] at g'; exact g'.elim
  | exc C fs m =>
    rw [o] at g'
    refine .inl (ae D as γ μ σ H _ k ev ?_)
    rw [o]
    exact g'
  | ok w m =>
    rw [o] at g'
    have g2 : G Wx σ RepW D as H (fmtRV w m) Q := g'
    have run1 : ∀ {q : VK}, (∀ b D' as' H', Nx D as H D' as' H' → Sk D' as' H' m → RepW D' as' H' b w → q b H') → te σ H q := fun {q} h => ae D as γ μ σ H q k ev (by rw [o]; exact h)
    unfold fmtRV at g2
    split at g2
    · split at g2
      · rename_i z hl
        refine .inl (run1 fun b D' as' H' n' k' r' => ?_)
        obtain rfl := rep_str r'
        exact .inl ⟨z, rfl, small hl, g2 _ D' as' H' n' k' (show Rep _ _ _ _ from .str)⟩
      · exact g2.elim
    · split at g2
      · rename_i i hl
        refine .inl (run1 fun b D' as' H' n' k' r' => ?_)
        obtain rfl := rep_int r'
        exact .inr ⟨i, rfl, hl, g2 _ D' as' H' n' k' (show Rep _ _ _ _ from .str)⟩
      · exact g2.elim
    · split at g2
      · rename_i ks hl
        split at g2
        · rename_i ds e2
          refine .inr (run1 fun b D' as' H' n' k' r' => ?_)
          obtain ⟨a, xs, rfl, ha, rk⟩ := rdD_ok k' r' (ps := ks) rfl
          exact ⟨a, .dict ds, rfl, .inr ⟨xs, ds, rfl, ha, by rw [rk.length]; exact hl, mapM_tkv rk e2⟩, g2 _ D' as' H' n' k' (show Rep _ _ _ _ from .str)⟩
        · exact g2.elim
      · exact g2.elim
    · split at g2
      · rename_i ps _ d e
        split at g2
        · rename_i ok
          refine .inr (run1 fun b D' as' H' n' k' r' => ?_)
          obtain ⟨a, xs, rfl, _⟩ := rep_lst (show Rep D' H' b (.lst ps) from r')
          exact ⟨a, d, rfl, .inl ⟨toD_ok (show Rep D' H' (.ref a) (.lst ps) from r') e, ok⟩, g2 _ D' as' H' n' k' (show Rep _ _ _ _ from .str)⟩
        · exact g2.elim
      · exact g2.elim
    · split at g2
      · rename_i ps _ d e
        split at g2
        · rename_i ok
          refine .inr (run1 fun b D' as' H' n' k' r' => ?_)
          obtain ⟨a, xs, rfl, _⟩ := rep_tup (show Rep D' H' b (.tup ps) from r')
          exact ⟨a, d, rfl, .inl ⟨toD_ok (show Rep D' H' (.ref a) (.tup ps) from r') e, ok⟩, g2 _ D' as' H' n' k' (show Rep _ _ _ _ from .str)⟩
        · exact g2.elim
      · exact g2.elim
    · exact g2.elim
theorem pp_fmt (he : PP X Wx e F) : PP X Wx (.FormattedValue e (-1) none pos) (fFmt F) := by
  obtain ⟨te, pe, ae⟩ := he
  refine ⟨_, pe_fmt pe, fun D as γ μ σ H Q k ev g => ?_⟩
  refine ae D as γ μ σ H _ k ev ((G.bind RepW k g).mono fun x H1 ⟨D1, as1, μ1, w, n1, k1, r1, g1⟩ => ?_)
  split at g1
  · split at g1
    · rename_i z hl
      obtain rfl := rep_str r1
      exact .inl ⟨z, rfl, Nat.le_trans hl million, nowV k1 g1 .str⟩
    · exact g1.elim
  · split at g1
    · rename_i i hl
      obtain rfl := rep_int r1
      exact .inr ⟨i, rfl, hl, nowV k1 g1 .str⟩
    · exact g1.elim
  · exact g1.elim
theorem pp_fmtP (he : PP X Wx e F) : PP X Wx (.FormattedValue e (-1) (some (.JoinedStr [.Constant (.str "+d") j p1] p2)) pos) (fFmtP F) := by
  obtain ⟨te, pe, ae⟩ := he
  refine ⟨_, pe_fmtP pe, fun D as γ μ σ H Q k ev g => ?_⟩
  refine ae D as γ μ σ H _ k ev ((G.bind RepW k g).mono fun x H1 ⟨D1, as1, μ1, w, n1, k1, r1, g1⟩ => ?_)
  split at g1
  · split at g1
    · rename_i i hl
      obtain rfl := rep_int r1
      exact ⟨i, rfl, hl, nowV k1 g1 .str⟩
    · exact g1.elim
  · exact g1.elim
theorem ppj_nil : PPJ X Wx [] fJNil := ⟨_, .nil, fun D as γ μ σ H acc Q k ev g => g.now (R := RepT) k rfl⟩
theorem ppj_cons (he : PP X Wx e F) (hr : PPJ X Wx es R) : PPJ X Wx (e :: es) (fJCons F R) := by
  obtain ⟨te, pe, ae⟩ := he
  obtain ⟨ts, pr, ar⟩ := hr
  refine ⟨_, .cons pe pr, fun D as γ μ σ H acc Q k ev g => ?_⟩
  refine ae D as γ μ σ H _ k ev ((G.bind RepW k g).mono fun x H1 ⟨D1, as1, μ1, w, n1, k1, r1, g1⟩ => ?_)
  split at g1
  · split at g1
    · rename_i y hl
      obtain rfl := rep_str r1
      exact ⟨y, rfl, Nat.le_trans hl million, ar D1 as1 γ μ1 σ H1 _ Q k1 (ev.nx n1) g1⟩
    · exact g1.elim
  · exact g1.elim
theorem pp_joined (h : PPJ X Wx (e1 :: e2 :: es) R) : PP X Wx (.JoinedStr (e1 :: e2 :: es) pos) (fJoined R) := by
  obtain ⟨ts, pr, ar⟩ := h
  refine ⟨_, pe_joined pr, fun D as γ μ σ H Q k ev g => ?_⟩
  refine ar D as γ μ σ H _ _ k ev ((G.bind RepT k g).mono fun z H1 ⟨D1, as1, μ1, a, n1, k1, r1, g1⟩ => ?_)
  obtain rfl : z = a := r1
  exact nowV k1 g1 .str
theorem ppj_lit {v : Str} {jj : Nat} {pc : Pos} : PP X Wx (.Constant (.str v) jj pc) (fC (.str v)) := pp_str
end
end Pu
set_option Elab.async false
set_option linter.all false
set_option maxRecDepth 100000
set_option maxHeartbeats 4000000
namespace Pu
open L2 PySem PySem.Spec PyProof.Rows E10
/-! ### comprehensions with two generators -/
theorem EnvR.poke {D : Addr → Prop} {as : Ps} {H H' : Hp} {σ : L2.St} {γ : Γ} (r : EnvR D as H σ γ) (s : Sd D H D H') : EnvR D as H' σ γ := ⟨r.1, fun i w e => by
  obtain ⟨v, e1, r1⟩ := r.2 i w e
  refine ⟨v, e1, ?_⟩
  cases w with
  | v p => exact Rep.sd s r1
  | loc j => exact r1⟩
theorem SdL.poke {D : Addr → Prop} {H : Hp} {a : Addr} {l l' : List V} (s : Sd D H D (upd H a (.lst l'))) (e : H a = some (.lst l)) : SdL D H D (upd H a (.lst l')) := ⟨s, fun b o u h => by
  rw [upd_ne fun z => by subst z; rw [e] at h; cases h]
  exact h⟩
def tI (Wx : WX) (I : IF) : TI := fun σ H Q => ∃ D as γ μ, Sk D as H μ ∧ EnvR D as H σ γ ∧ G Wx σ RepI D as H (I γ μ) Q
theorem PPI.can {X : Cx} {Wx : WX} {tg e : Expr} {I : IF} (h : PPI X Wx tg e I) : PI X tg e (tI Wx I) := let ⟨_, p, ad⟩ := h; ⟨fun pins s σ H Q J ⟨D, as, γ, μ, k, ev, g⟩ => p.run pins s σ H Q J (ad D as γ μ σ H Q k ev g)⟩
end Pu
set_option Elab.async false
set_option linter.all false
set_option maxRecDepth 100000
set_option maxHeartbeats 4000000
set_option Elab.async false
set_option linter.all false
set_option maxRecDepth 100000
set_option maxHeartbeats 4000000
namespace Pu
open L2 PySem PySem.Spec PyProof.Rows E10
/-! ### C(..) with defaults left to the def -/
section
variable {X : Cx} {Wx : WX} {e : Expr} {es : List Expr} {A : AF} {p pos : Pos} {C : Addr} {k : Nat}
theorem run_makeD {pins : List (Addr × Obj)} {σ : L2.St} {H : Hp} {s : Shared} {Q : VK} {us ds : List Value} {vs vds : List V} {g : Addr} {fd : FuncData} {ps : List Str} {sp : Sp} (M : Mk X.K C g) (F : FnX X.prog X.w X.K X.mg X.base k g fd ps sp) (hG : X.A.guards = some []) (hr : Room (k + 1) X.A) (hb : Binds X.K fd ps ds)
    (rd : Vals vds ds) (tk : Takes X Wx) (I : Inv X pins σ H s) (r : Vals vs us)
    (h : ∀ x dx, H x = none → H dx = none → dx ≠ x → sp (.ref x :: (vs ++ vds)) (upd (upd H dx (.own x)) x (.ins C dx [])) (fun v H2 => v = .non ∧ Q (.ref x) H2) (WE Wx σ)) :
    wpAny (model X.prog X.w) X.A (call (.ref C) us) (EP X pins σ Q) X.xe s := by
  have hq := h (s.heap.objs.size + 1) s.heap.objs.size (I.hok.fresh (Nat.le_succ _)) (I.hok.fresh (Nat.le_refl _)) (Nat.ne_of_lt (Nat.lt_succ_self _))
  have I2 := Inv.made (C := C) I
  have r2 : Vals (V.ref (s.heap.objs.size + 1) :: (vs ++ vds)) (Value.ref (s.heap.objs.size + 1) :: (us ++ ds)) := .cons rfl (Vals.append r rd)
  have hl : ((Value.ref (s.heap.objs.size + 1) :: us) ++ ds).length = ps.length := by
    have e := r2.length
    rw [F.few hq] at e
    exact e.symm
  have bb := hb _ (Value.ref (s.heap.objs.size + 1) :: us) I2.kIn hl
  refine wpAny_call (make_map (f := g) I.kIn M.makes M.init (beq_iff_eq.mp M.fn) (codeAny_mono (F.goes (fr := X.stack) (ar := ⟨Value.ref (s.heap.objs.size + 1) :: us, []⟩) (us := Value.ref (s.heap.objs.size + 1) :: (us ++ ds)) (make_guards hG) (hr.make C us [])
    (I2.env0.make C us []) bb r2 hq) fun r s' hq' => ?_))
  cases r with
  | error e => exact passAt tk σ pins _ _ e s' I2 hq'
  | ok fl =>
    cases fl with
    | ret u =>
      obtain ⟨v, H', I3, rv, ev, q3⟩ := I2.after hq'
      subst ev
      exact ⟨rv, ⟨V.ref (s.heap.objs.size + 1), H', I3, rfl, q3⟩⟩
    | next => exact False.elim hq'
    | brk => exact False.elim hq'
    | cont => exact False.elim hq'
def tMakeD (C : Addr) (vds : List V) (sp : Sp) (W : WX) (t : TA) : TE := fun σ H Q => t σ H fun vs H1 => ∀ x dx, H1 x = none → H1 dx = none → dx ≠ x → sp (.ref x :: (vs ++ vds)) (upd (upd H1 dx (.own x)) x (.ins C dx [])) (fun v H2 => v = .non ∧ Q (.ref x) H2) (WE W σ)
theorem pe_makeD {x : Str} {g : Addr} {fd : FuncData} {ps : List Str} {sp : Sp} {t : TA} {ds : List Value} {vds : List V} (M : Mk X.K C g) (F : FnX X.prog X.w X.K X.mg X.base k g fd ps sp) (hG : X.A.guards = some []) (hr : Room (k + 1) X.A) (hb : Binds X.K fd ps ds) (rd : Vals vds ds) (tk : Takes X Wx) (hg : Gl X x) (hm : X.mg x = some (.ref C))
    (ha : PA X (e :: es) t) (hdb : (x == ("__debug__" : Str)) = false := by decide) (he : starEach (e :: es) X.env = (false, eval e X.env) :: starEach es X.env := by rfl) (hpl : (backTo pos (starEach es X.env)).any (·.1) = false := by rfl) :
    PE X (.Call (.Name x p) (e :: es) [] pos) (tMakeD C vds sp Wx t) := by
  refine ⟨fun pins s σ H Q I h => ?_⟩
  refine wpAny_Call_Name_kw (ld_glob I hg hm ?_ hdb)
  refine PySem.W.callWith_K (h₀ := X.base) I.ok.mod.kin M.kp (thn (ha.run pos pins s σ H _ I h) fun us s1 ⟨vs, H1, I1, r, q⟩ => ⟨I1.kIn, ?_⟩) he hpl
  exact run_makeD M F hG hr hb rd tk I1 r q
structure DCd (P : Program) (w : World) (K : PySem.W.Frag) (mg : Str → Option Value) (base : Heap) (x : Str) (C : Addr) (n : Nat) (k : Nat) (dv : List Pu.P) (F : FF) : Prop where
  ex : ∃ (f : Addr) (fd : FuncData) (ps : List Str) (ds : List Value) (vds : List V), ps.length = n ∧ FnX P w K mg base k f fd ps (spP n F) ∧ Mk K C f ∧ Vals vds ds ∧ Binds K fd ps ds ∧ ∀ D H, Reps D H vds dv
  g : mg x = some (.ref C)
def fDfl (dv : List P) (F : FF) : FF := fun ws μ => F (ws ++ dv.map W.v) μ
theorem RepWs.ofV {D as H} : ∀ {vs : List V} {ps : List P}, Reps D H vs ps → RepWs D as H vs (ps.map W.v)
  | _, _, .nil => .nil
  | _, _, .cons r t => .cons r (RepWs.ofV t)
theorem ad_makeD {n : Nat} {FF' : FF} {t : TA} {vds : List V} {dv : List P} (hd : ∀ D H, Reps D H vds dv) (ha : AdA Wx t A) (hn : ∀ ws μ, ws.length ≠ n → FF' ws μ = .bad) : Ad Wx (tMakeD C vds (spP n FF') Wx t) (fMake C (fDfl dv FF') A) := fun D as γ μ σ H Q k ev g => by
  refine ha D as γ μ σ H _ k ev ((G.bind RepWs k g).mono fun vs H1 ⟨D1, as1, μ1, ws, n1, k1, r1, g1⟩ => ?_)
  intro x dx nx ndx ne
  have nx2 : upd H1 dx (.own x) x = none := (upd_ne (Ne.symm ne)).trans nx
  have s1 := new_same' (o := .own x) ndx
  have k2 := k1.same s1
  obtain ⟨n3, k3⟩ := cell_new (o := .ins C dx []) (c := .ins C []) k2 nx2 ⟨dx, [], upd_same, .nil⟩
  have n13 : Nx D1 as1 H1 _ _ _ := (Nx.of_same s1).trans k1 k2 n3
  have e1 : (as1 ++ [some x])[μ1.length]? = some (some x) := by
    rw [← k1.len]
    exact last_get
  have rr : RepWs _ _ _ (V.ref x :: (vs ++ vds)) (W.loc μ1.length :: (ws ++ dv.map W.v)) := .cons (.mk e1) (RepWs.append (r1.nx n13) (RepWs.ofV (hd _ _)))
  refine ⟨?_, _, _, .loc μ1.length :: (ws ++ dv.map W.v), μ1 ++ [.ins C []], k3, rr, ?_⟩
  · by_cases c : (W.loc μ1.length :: (ws ++ dv.map W.v)).length = n
    · rw [← c]
      exact rr.length
    · have e2 : fDfl dv FF' (W.loc μ1.length :: ws) (μ1 ++ [PC.ins C []]) = .bad := hn _ (μ1 ++ [PC.ins C []]) c
      rw [e2] at g1
      exact g1.elim
  · have g2 := G.nx k1 k3 n13 g1
    have := G.bind RepW k3 g2
    have e3 : fDfl dv FF' (W.loc μ1.length :: ws) (μ1 ++ [PC.ins C []]) = FF' (W.loc μ1.length :: (ws ++ dv.map W.v)) (μ1 ++ [PC.ins C []]) := rfl
    rw [e3] at g2
    cases o : FF' (W.loc μ1.length :: (ws ++ dv.map W.v)) (μ1 ++ [PC.ins C []]) with
    | bad => rw [o] at g2; exact g2
    | exc C' fs m' => rw [o] at g2; exact g2
    | ok w m' =>
      rw [o] at g2
      intro v D' as' H' n' k' rv
      cases w with
      | loc j => exact g2.elim
      | v q =>
        cases q with
        | non =>
          obtain rfl := rep_non rv
          exact ⟨rfl, g2 (.ref x) D' as' H' n' k' ((RepW.mk e1).nx n')⟩
        | _ => exact g2.elim
theorem pp_makeD {x : Str} {n : Nat} {FF' : FF} {dv : List Pu.P} (d : DCd X.prog X.w X.K X.mg X.base x C n k dv FF') (hG : X.A.guards = some []) (hr : Room (k + 1) X.A) (tk : Takes X Wx) (hg : Gl X x) (ha : PPA X Wx (e :: es) A) (hn : ∀ ws μ, ws.length ≠ n → FF' ws μ = .bad := by exact fDef_len)
    (hdb : (x == ("__debug__" : Str)) = false := by decide) (he : starEach (e :: es) X.env = (false, eval e X.env) :: starEach es X.env := by rfl) (hpl : (backTo pos (starEach es X.env)).any (·.1) = false := by rfl) :
    PP X Wx (.Call (.Name x p) (e :: es) [] pos) (fFrz (fMake C (fDfl dv FF') A)) := by
  obtain ⟨f, fd, ps, ds, vds, hl, FX, M, rd, hb, hd⟩ := d.ex
  obtain ⟨_, pa, aa⟩ := ha
  exact ⟨_, pe_makeD M FX hG hr hb rd tk hg d.g pa hdb he hpl, ad_frzL (ad_makeD hd aa hn)⟩
end
/-! ### a test that is a value's truth -/
end Pu
set_option Elab.async false
set_option linter.all false
set_option maxRecDepth 100000
set_option maxHeartbeats 4000000
namespace Pu
open L2 PySem PySem.Spec PyProof.Rows E10
open He (ga ma)
section
variable {μ : Μ} {i j : Int} {a b : Str}
theorem le_ii : gLe (.v (.int i)) (.v (.int j)) μ = .ok (.v (.bl (decide (i ≤ j)))) μ := rfl
theorem lt_ii : gLt (.v (.int i)) (.v (.int j)) μ = .ok (.v (.bl (decide (i < j)))) μ := rfl
theorem gt_ii : gGt (.v (.int i)) (.v (.int j)) μ = .ok (.v (.bl (decide (j < i)))) μ := rfl
theorem le_ss : gLe (.v (.str a)) (.v (.str b)) μ = .ok (.v (.bl (leS a b))) μ := rfl
theorem add_ii : gAdd (.v (.int i)) (.v (.int j)) μ = .ok (.v (.int (i + j))) μ := rfl
theorem sub_ii : fSub (.v (.int i)) (.v (.int j)) μ = .ok (.v (.int (i - j))) μ := rfl
theorem mul_ii (h : i.natAbs < 2 ^ 64 ∨ j.natAbs < 2 ^ 64) : gMul (.v (.int i)) (.v (.int j)) μ = .ok (.v (.int (i * j))) μ := by
  show O.or (if decide (i.natAbs < 2 ^ 64 ∨ j.natAbs < 2 ^ 64) = true then O.ok (W.v (.int (i * j))) μ else O.bad) _ = _
  rw [decide_eq_true h]
  rfl
theorem neg_i : fNeg (.v (.int i)) μ = .ok (.v (.int (-i))) μ := rfl
end
section
variable {μ : Μ} {i j : Int} {a b : Str} {c d neg : Bool}
theorem eqx_of {p q : W} {b : Bool} (h : fEqS neg p q μ = .ok (.v (.bl b)) μ) : gEqX neg p q μ = .ok (.v (.bl b)) μ := by
  cases neg
  · show O.or (fEqS false p q μ) _ = _
    rw [h]; rfl
  · show O.or (fEqS true p q μ) _ = _
    rw [h]; rfl
theorem eq_ii : gEqX neg (.v (.int i)) (.v (.int j)) μ = .ok (.v (.bl ((i == j) != neg))) μ := eqx_of rfl
theorem eq_bb : gEqX neg (.v (.bl c)) (.v (.bl d)) μ = .ok (.v (.bl ((c == d) != neg))) μ := eqx_of rfl
theorem eq_ss : gEqX neg (.v (.str a)) (.v (.str b)) μ = .ok (.v (.bl ((a == b) != neg))) μ := eqx_of rfl
end
def itV : W → Μ → O (List P) := dctB fun ps m => few (ps.map fun kp => kp.2) m
def itI : W → Μ → O (List P) := dctB fun ps m => few (ps.map fun kp => .tup [keyOf kp.1, kp.2]) m
section
variable {F : EF} {γ : Γ} {μ : Μ}
theorem it_l {ps : List P} (h : ps.length ≤ 100000) : iAnyW (.v (.lst ps)) μ = .ok ps μ := if_pos h
theorem it_s {z : Str} (h : (chrP z).length ≤ 100000) : iAnyW (.v (.str z)) μ = .ok (chrP z) μ := if_pos h
end
def fldP (C : Addr) (f : Str) : W → Μ → O W := fun w m => match rdI m w with
  | some (C', ps) => if C' = C then match ps.lookup f with
    | some p => .ok (.v p) m
    | none => .bad
    else .bad
  | none => .bad
def frzP (n : Nat) : W → Μ → O W := fun w m => match w with
  | .v p => .ok (.v p) m
  | .loc j => if j + 1 = m.length ∧ n ≤ j then match (m[j]?).bind PC.p with
      | some p => .ok (.v p) (m.take j)
      | none => .bad
    else .bad
def makeP (C : Addr) (F : FF) : List W → Μ → O W := fun ws m => (F (.loc m.length :: ws) (m ++ [.ins C []])).bind fun w m' => match w with
  | .v .non => .ok (.loc m.length) m'
  | _ => .bad
section
variable {F Fo : EF} {A : AF} {FF' : FF} {γ : Γ} {μ : Μ} {C : Addr} {f m : Str}
theorem fFrz_eq : fFrz F γ μ = (F γ μ).bind (frzP μ.length) := rfl
theorem fMake_eq : fMake C FF' A γ μ = (A γ μ).bind (makeP C FF') := rfl
theorem frz_l {c : PC} {p : P} (h : c.p = some p) : frzP μ.length (.loc μ.length) (μ ++ [c]) = .ok (.v p) μ := by
  unfold frzP
  simp [h]
theorem last_set {c d : PC} : (μ ++ [c]).set μ.length d = μ ++ [d] := by simp
theorem make_ok {ws : List W} {c : PC} (h : FF' (.loc μ.length :: ws) (μ ++ [.ins C []]) = .ok (.v .non) (μ ++ [c])) : makeP C FF' ws μ = .ok (.loc μ.length) (μ ++ [c]) := by
  unfold makeP
  rw [h]
  rfl
end
section
variable {cs : List Addr} {μ : Μ}
theorem lenS_s {z : Str} (h : z.length ≤ 100000) : fLenS [.v (.str z)] μ = .ok (.v (.int z.length)) μ := by
  have : z.length ≤ sizeLine := Nat.le_trans h (by decide)
  unfold fLenS
  simp only [this, ↓reduceIte]
theorem len_s {z : Str} (h : z.length ≤ 100000) : gLen [.v (.str z)] μ = .ok (.v (.int z.length)) μ := by
  show (fLenS [.v (.str z)] μ).or _ = _
  rw [lenS_s h]
  rfl
theorem len_l {ps : List P} : gLen [.v (.lst ps)] μ = .ok (.v (.int ps.length)) μ := rfl
theorem len_d {ps : List (Key × P)} : gLen [.v (.dct ps)] μ = .ok (.v (.int ps.length)) μ := rfl
end
structure Nm (z : Str) : Prop where
  lo : 1 ≤ z.length
  hi : z.length ≤ 8
  az : ∀ c ∈ z.cps.toList, 97 ≤ c ∧ c ≤ 122
theorem few_le {ps : List P} {μ : Μ} (h : ps.length ≤ 100000) : few ps μ = .ok ps μ := if_pos h
theorem bls_all {g : List Bool → Bool} {ps : List P} {bs : List Bool} {μ : Μ} (h : blsP ps = some bs) : fBls g [.v (.lst ps)] μ = .ok (.v (.bl (g bs))) μ := by
  unfold fBls
  show (match blsP ps with
    | some bs => O.ok (W.v (.bl (g bs))) μ
    | none => .bad) = _
  rw [h]
theorem bls_map {α : Type} (f : α → Bool) : ∀ l : List α, blsP (l.map fun a => P.bl (f a)) = some (l.map f)
  | [] => rfl
  | a :: r => by
    show (blsP (r.map fun a => P.bl (f a))).map (f a :: ·) = _
    rw [bls_map f r]
    rfl
theorem le_one (a c : Nat) : leS ⟨#[a]⟩ ⟨#[c]⟩ = decide (a ≤ c) := by
  have e : (([c] : List Nat) < [a]) ↔ c < a := by
    rw [List.cons_lt_cons_iff]
    simp
  show (!decide (([c] : List Nat) < [a])) = _
  by_cases h : a ≤ c
  · rw [decide_eq_true h, decide_eq_false (fun z => absurd (e.mp z) (by omega))]
    rfl
  · rw [decide_eq_false h, decide_eq_true (e.mpr (by omega))]
    rfl
theorem lc_on {α : Type} {f : GF} {T : TF} {E : EF} {γ : Γ} {μ : Μ} (g : α → P) (t : α → Bool) (e : α → P) : ∀ {l : List α}, (∀ a ∈ l, ∃ γ1, f (g a) γ = some γ1 ∧ T γ1 μ = .ok (t a) μ ∧ (t a = true → E γ1 μ = .ok (.v (e a)) μ)) → lcGo f T E γ (l.map g) μ = .ok ((l.filter t).map e) μ
  | [], _ => rfl
  | a :: r, h => by
    obtain ⟨γ1, h1, h2, h3⟩ := h a List.mem_cons_self
    have ih := lc_on (l := r) g t e fun q m => h q (List.mem_cons_of_mem _ m)
    rw [List.map_cons, lcGo, h1]
    simp only [h2, O.nx, O.bind_ok]
    by_cases c : t a = true
    · rw [if_pos c, h3 c]
      simp only [O.bind_ok, lcW, ih, List.filter_cons, c, if_true, List.map_cons]
    · rw [if_neg c, ih]
      simp only [List.filter_cons, c, Bool.false_eq_true, if_false]
theorem lc_all {α : Type} {f : GF} {E : EF} {γ : Γ} {μ : Μ} (g : α → P) (e : α → P) {l : List α} (h : ∀ a ∈ l, ∃ γ1, f (g a) γ = some γ1 ∧ E γ1 μ = .ok (.v (e a)) μ) : lcGo f fYes E γ (l.map g) μ = .ok (l.map e) μ := by
  have q := lc_on (f := f) (T := fYes) (E := E) (γ := γ) (μ := μ) g (fun _ => true) e (l := l) fun a m => let ⟨γ1, h1, h2⟩ := h a m; ⟨γ1, h1, rfl, fun _ => h2⟩
  rw [q, List.filter_eq_self.mpr fun _ _ => rfl]
theorem dc_on {α : Type} {f : GF} {T : TF} {Ek Ev : EF} {γ : Γ} {μ : Μ} (g : α → P) (t : α → Bool) (k : α → Key) (v : α → P) : ∀ {l : List α} {acc : List (Key × P)}, (∀ a ∈ l, ∃ γ1 kp, f (g a) γ = some γ1 ∧ T γ1 μ = .ok (t a) μ ∧ (t a = true → Ek γ1 μ = .ok (.v kp) μ ∧ keyP kp = some (k a) ∧ Ev γ1 μ = .ok (.v (v a)) μ)) →
    dcGo f T Ek Ev γ (l.map g) acc μ = .ok ((l.filter t).foldl (fun a p => putP a (k p) (v p)) acc) μ
  | [], acc, _ => rfl
  | p :: r, acc, h => by
    obtain ⟨γ1, kp, h1, h2, h3⟩ := h p List.mem_cons_self
    have ih := fun acc => dc_on (l := r) (acc := acc) g t k v fun q m => h q (List.mem_cons_of_mem _ m)
    rw [List.map_cons, dcGo, h1]
    simp only [h2, O.nx, O.bind_ok]
    by_cases c : t p = true
    · obtain ⟨h4, h5, h6⟩ := h3 c
      rw [if_pos c, h4]
      simp only [O.bind_ok, h6, dcW, h5, ih, List.filter_cons, c, if_true, List.foldl_cons]
    · rw [if_neg c, ih]
      simp only [List.filter_cons, c, Bool.false_eq_true, if_false]
theorem dc_all {α : Type} {f : GF} {Ek Ev : EF} {γ : Γ} {μ : Μ} (g : α → P) (k : α → Key) (v : α → P) {l : List α} (nd : (l.map k).Nodup) (h : ∀ a ∈ l, ∃ γ1 kp, f (g a) γ = some γ1 ∧ Ek γ1 μ = .ok (.v kp) μ ∧ keyP kp = some (k a) ∧ Ev γ1 μ = .ok (.v (v a)) μ) :
    dcGo f fYes Ek Ev γ (l.map g) [] μ = .ok (l.map fun a => (k a, v a)) μ := by
  have q := dc_on (f := f) (T := fYes) (Ek := Ek) (Ev := Ev) (γ := γ) (μ := μ) g (fun _ => true) k v (l := l) (acc := []) fun a m => let ⟨γ1, kp, h1, h2, h3, h4⟩ := h a m; ⟨γ1, kp, h1, rfl, fun _ => ⟨h2, h3, h4⟩⟩
  rw [q, List.filter_eq_self.mpr fun _ _ => rfl, put_all k v (by simpa using nd)]
  rfl
abbrev Tb := List (Str × Int)
def rowP (p : Str × Int) : Key × P := (Sum.inr p.1, .int p.2)
def dctP (t : Tb) : P := .dct (t.map rowP)
def keys (t : Tb) : List Str := t.map (·.1)
def get (t : Tb) (z : Str) : Option Int := (t.find? fun p => decide (p.1 = z)).map (·.2)
theorem val_dct (t : Tb) (z : Str) : valP (t.map rowP) (Sum.inr z) = (get t z).map P.int := by
  unfold valP get
  rw [List.find?_map, Option.map_map, Option.map_map]
  have e : ((fun kv : Key × P => decide (kv.1 = Sum.inr z)) ∘ rowP) = fun p : Str × Int => decide (p.1 = z) := by
    funext p
    show decide ((Sum.inr p.1 : Key) = Sum.inr z) = _
    congr 1
    exact propext ⟨fun h => by cases h; rfl, fun h => by rw [h]⟩
  rw [e]
  rfl
theorem get_mem {t : Tb} {z : Str} : (get t z).isSome = true ↔ z ∈ keys t := by
  unfold get keys
  rw [Option.isSome_map, List.find?_isSome]
  constructor
  · rintro ⟨p, m, e⟩
    exact List.mem_map.mpr ⟨p, m, of_decide_eq_true e⟩
  · intro m
    obtain ⟨p, m, e⟩ := List.mem_map.mp m
    exact ⟨p, m, decide_eq_true e⟩
theorem get_of {t : Tb} (nd : (keys t).Nodup) {p : Str × Int} (m : p ∈ t) : get t p.1 = some p.2 := by
  induction t with
  | nil => cases m
  | cons q r ih =>
    have nd' := List.nodup_cons.mp (show (q.1 :: keys r).Nodup from nd)
    unfold get
    rw [List.find?_cons]
    rcases List.mem_cons.mp m with rfl | m
    · simp
    · have ne : q.1 ≠ p.1 := fun e => nd'.1 (e ▸ List.mem_map.mpr ⟨p, m, rfl⟩)
      rw [decide_eq_false ne]
      exact ih nd'.2 m
theorem get_in {t : Tb} {z : Str} {v : Int} (h : get t z = some v) : (z, v) ∈ t := by
  unfold get at h
  obtain ⟨p, h1, h2⟩ := Option.map_eq_some_iff.mp h
  have e := List.find?_some h1
  have m := List.mem_of_find?_eq_some h1
  have e2 : p.1 = z := of_decide_eq_true e
  have e3 : p = (z, v) := by rw [← e2, ← h2]
  rw [e3] at m
  exact m
theorem keysS_rows : ∀ t : Tb, keysS (t.map rowP) = some (keys t)
  | [] => rfl
  | p :: t => by
    show (keysS (t.map rowP)).map (p.1 :: ·) = _
    rw [keysS_rows t]
    rfl
theorem keys_rows (t : Tb) : (t.map rowP).map (fun kp => keyOf kp.1) = (keys t).map P.str := by
  unfold keys
  rw [List.map_map, List.map_map]
  rfl
theorem dget_ok {t : Tb} {z : Str} {v : Int} {μ : Μ} (h : get t z = some v) : gIx (.v (dctP t)) (.v (.str z)) μ = .ok (.v (.int v)) μ := by
  show (O.bad.or (O.bad.or (O.bad.or (fDGet (.v (dctP t)) (.v (.str z)) μ)))) = _
  simp only [O.or_bad]
  show (match valP (t.map rowP) (Sum.inr z) with
      | some p => O.ok (W.v p) μ
      | none => .bad) = _
  rw [val_dct, h]
  rfl
theorem din_ok {t : Tb} {z : Str} {μ : Μ} (neg : Bool) : gIn neg (.v (.str z)) (.v (dctP t)) μ = .ok (.v (.bl (decide (z ∈ keys t) != neg))) μ := by
  show (O.bad.or (O.ok (W.v (.bl ((valP (t.map rowP) (Sum.inr z)).isSome != neg))) μ)) = _
  rw [O.or_bad, val_dct, Option.isSome_map]
  congr 4
  by_cases c : z ∈ keys t
  · rw [decide_eq_true c, get_mem.mpr c]
  · rw [decide_eq_false c]
    cases e : (get t z).isSome with
    | false => rfl
    | true => exact absurd (get_mem.mp e) c
section
variable {t : Tb} {μ : Μ}
theorem it_d (le : t.length ≤ 100000) : iAnyW (.v (dctP t)) μ = .ok ((keys t).map P.str) μ := by
  show few ((t.map rowP).map fun kp => keyOf kp.1) μ = _
  rw [few_le (by rw [List.length_map, List.length_map]; exact le), keys_rows]
theorem it_i (le : t.length ≤ 100000) : itI (.v (dctP t)) μ = .ok (t.map fun p => P.tup [.str p.1, .int p.2]) μ := by
  show few ((t.map rowP).map fun kp => P.tup [keyOf kp.1, kp.2]) μ = _
  rw [few_le (by rw [List.length_map, List.length_map]; exact le), List.map_map]
  rfl
theorem len_t : gLen [.v (dctP t)] μ = .ok (.v (.int t.length)) μ := by
  show gLen [.v (.dct (t.map rowP))] μ = _
  rw [len_d, List.length_map]
theorem sort_t {S : SF'} (le : t.length < 64) : gSort' S [.v (dctP t)] μ = .ok (.v (.lst ((srt (keys t)).map P.str))) μ := by
  show O.or .bad (O.or (match keysS (t.map rowP) with
    | some zs => if zs.length < 64 then O.ok (W.v (.lst ((srt zs).map .str))) μ else .bad
    | none => .bad) _) = _
  rw [O.or_bad, keysS_rows]
  simp only [show (keys t).length < 64 from by unfold keys; rw [List.length_map]; exact le, ↓reduceIte, O.or_ok]
end
theorem len_chr (z : Str) : (chrP z).length = z.length := by
  unfold chrP
  rw [List.length_map, Array.length_toList]
  rfl
theorem len_keys (t : Tb) : (keys t).length = t.length := List.length_map ..
section
variable {μ : Μ} {i j : Int}
theorem mod_ii (h : 0 < j) : fMod (.v (.int i)) (.v (.int j)) μ = .ok (.v (.int (i % j))) μ := if_pos (decide_eq_true h)
theorem div_ii (h : 0 < j ∧ j < 1073741824) : fDiv (.v (.int i)) (.v (.int j)) μ = .ok (.v (.int (i / j))) μ := if_pos (decide_eq_true h)
theorem pow_ii (h : 0 ≤ j ∧ j ≤ 1000000 ∧ i.natAbs < 2 ^ 64) : fPow (.v (.int i)) (.v (.int j)) μ = .ok (.v (.int (i ^ j.toNat))) μ := if_pos (decide_eq_true h)
theorem max_ii : gMax [.v (.int i), .v (.int j)] μ = .ok (.v (.int (max i j))) μ := rfl
theorem abs_i : fAbs [.v (.int i)] μ = .ok (.v (.int i.natAbs)) μ := rfl
theorem int_i : fInt [.v (.int i)] μ = .ok (.v (.int i)) μ := rfl
theorem divm (h : 0 < j ∧ j < 1073741824) : fDivmod [.v (.int i), .v (.int j)] μ = .ok (.v (.tup [.int (i / j), .int (i % j)])) μ := if_pos h
theorem atI_nat {α : Type} {l : List α} {k : Nat} {v : α} (h : l[k]? = some v) : atI l (k : Int) = some v := by
  have lt := (List.getElem?_eq_some_iff.mp h).1
  unfold atI ixN
  rw [if_pos (by omega), if_pos (by omega)]
  exact h
theorem ix_l {ps : List P} {k : Nat} {v : P} (h : ps[k]? = some v) : gIx (.v (.lst ps)) (.v (.int k)) μ = .ok (.v v) μ := by
  show O.or (match atI ps (k : Int) with
    | some p => O.ok (W.v p) μ
    | none => .bad) _ = _
  rw [atI_nat h]
  rfl
theorem ix_s {z : Str} {k : Nat} {c : Nat} (hz : z.length ≤ 100000) (h : z.cps.toList[k]? = some c) : gIx (.v (.str z)) (.v (.int k)) μ = .ok (.v (.str ⟨#[c]⟩)) μ := by
  have hz2 : z.length ≤ sizeLine := Nat.le_trans hz (by decide)
  show O.or .bad (O.or .bad (O.or (if z.length ≤ sizeLine then match atI z.cps.toList (k : Int) with
    | some c => O.ok (W.v (.str ⟨#[c]⟩)) μ
    | none => .bad else .bad) _)) = _
  rw [if_pos hz2, atI_nat h]
  rfl
end
theorem min_ii {μ : Μ} {i j : Int} : gMin [.v (.int i), .v (.int j)] μ = .ok (.v (.int (min i j))) μ := rfl
def ch (c : Nat) : Str := ⟨#[c]⟩
theorem fold_ch : ∀ (cs : List Nat) (acc : Array Nat), (cs.map ch).foldl (fun acc p => acc ++ ("" : Str).cps ++ p.cps) acc = acc ++ cs.toArray
  | [], acc => by simp
  | c :: cs, acc => by
    rw [List.map_cons, List.foldl_cons, fold_ch cs]
    have e : ("" : Str).cps = #[] := rfl
    rw [e]
    show acc ++ #[] ++ #[c] ++ cs.toArray = acc ++ (c :: cs).toArray
    simp
theorem join_ch (cs : List Nat) : Txt.join "" (cs.map ch) = ⟨cs.toArray⟩ := by
  unfold Txt.join
  rw [PySem.StrLaws.glued_eq_join]
  cases cs with
  | nil => rfl
  | cons c cs =>
    rw [List.map_cons, ← PySem.StrLaws.glued_cons, fold_ch]
    refine Str.ext' ?_
    show #[c] ++ cs.toArray = (c :: cs).toArray
    simp
theorem nm_of {cs : List Nat} (h0 : 0 < cs.length) (h8 : cs.length ≤ 8) (h : ∀ c ∈ cs, 97 ≤ c ∧ c ≤ 122) : Nm ⟨cs.toArray⟩ := ⟨by have : 1 ≤ cs.length := h0; simpa [Str.length] using this, by simpa [Str.length] using h8, by simpa using h⟩
theorem nodup_le : ∀ {l m : List Str}, l.Nodup → (∀ x ∈ l, x ∈ m) → l.length ≤ m.length
  | [], _, _, _ => Nat.zero_le _
  | x :: l, m, nd, h => by
    rw [List.nodup_cons] at nd
    have hx := h x List.mem_cons_self
    have e : (m.erase x).length = m.length - 1 := List.length_erase_of_mem hx
    have r := nodup_le (l := l) (m := m.erase x) nd.2 fun y hy => by
      have ne : y ≠ x := fun q => nd.1 (q ▸ hy)
      exact (List.mem_erase_of_ne ne).mpr (h y (List.mem_cons_of_mem _ hy))
    have : 0 < m.length := List.length_pos_of_mem hx
    rw [List.length_cons]
    omega
theorem strs_str : ∀ zs : List Str, strsP (zs.map P.str) = some zs
  | [] => rfl
  | z :: r => by
    show (strsP (r.map P.str)).map (z :: ·) = _
    rw [strs_str r]
    rfl
theorem in_strs {neg : Bool} {z : Str} {zs : List Str} {w : W} {μ : Μ} (h : seqP μ w = some (zs.map P.str)) : gIn neg (.v (.str z)) w μ = .ok (.v (.bl (decide (z ∈ zs) != neg))) μ := by
  have fl : (zs.map P.str).all flatP = true := by
    rw [List.all_map]
    exact List.all_eq_true.mpr fun _ _ => rfl
  have an : ((zs.map P.str).any fun q => eqF q (.str z)) = decide (z ∈ zs) := by
    rw [List.any_map]
    by_cases c : z ∈ zs
    · rw [decide_eq_true c]
      exact List.any_eq_true.mpr ⟨z, c, beq_self_eq_true z⟩
    · rw [decide_eq_false c]
      refine List.any_eq_false.mpr fun x hx e => c ?_
      have : x = z := eq_of_beq e
      exact this ▸ hx
  have e1 : fIn neg (.v (.str z)) w μ = .ok (.v (.bl (decide (z ∈ zs) != neg))) μ := by
    unfold fIn
    rw [h]
    simp only [an, fl, flatP, and_self, ↓reduceIte]
  show O.or (fIn neg (.v (.str z)) w μ) _ = _
  rw [e1]
  rfl
theorem add_ss {a b : Str} {μ : Μ} (h : a.length + b.length ≤ 100000) : gAdd (.v (.str a)) (.v (.str b)) μ = .ok (.v (.str (a ++ b))) μ := by
  have : a.length + b.length ≤ sizeLine := Nat.le_trans h (by decide)
  show O.or .bad (O.or (if decide (a.length + b.length ≤ sizeLine) = true then O.ok (W.v (.str (a ++ b))) μ else .bad) _) = _
  rw [decide_eq_true this]
  rfl
theorem add_ll {a b : List P} {μ : Μ} (h : a.length + b.length ≤ 100000) : gAdd (.v (.lst a)) (.v (.lst b)) μ = .ok (.v (.lst (a ++ b))) μ := by
  show O.or .bad (O.or .bad (if a.length + b.length ≤ 100000 then O.ok (W.v (.lst (a ++ b))) μ else .bad)) = _
  rw [if_pos h]
  rfl
theorem rng_at {n j : Nat} {p : P} (h : (rngP 0 n)[j]? = some p) : j < n ∧ p = .int (j : Int) := by
  unfold rngP at h
  rw [List.getElem?_map] at h
  obtain ⟨k, e, rfl⟩ := Option.map_eq_some_iff.mp h
  obtain ⟨lt, e2⟩ := List.getElem?_eq_some_iff.mp e
  rw [List.length_range] at lt
  rw [List.getElem_range] at e2
  subst e2
  exact ⟨lt, by rw [Int.zero_add]⟩
theorem rng_len (n : Nat) : (rngP 0 n).length = n := by
  unfold rngP
  rw [List.length_map, List.length_range]
section
variable {μ : Μ}
theorem ix_0 {v : P} {l : List P} {μ : Μ} : gIx (.v (.lst (v :: l))) (.v (.int 0)) μ = .ok (.v v) μ := ix_l (k := 0) rfl
end
theorem pairs_map {α : Type} (k : α → Str) (v : α → P) : ∀ l : List α, pairsP (l.map fun a => P.tup [.str (k a), v a]) = some (l.map fun a => (Sum.inr (k a), v a))
  | [] => rfl
  | a :: r => by
    show (match keyP (.str (k a)), pairsP (r.map fun a => P.tup [.str (k a), v a]) with
      | some k, some l => some ((k, v a) :: l)
      | _, _ => none) = _
    rw [pairs_map k v r]
    rfl
theorem merge_fold : ∀ (l : List (Key × P)) (acc : List (Key × P)), mergeP acc l = l.foldl (fun a p => putP a p.1 p.2) acc
  | [], _ => rfl
  | p :: r, acc => by
    show mergeP (putP acc p.1 p.2) r = _
    rw [merge_fold r]
    rfl
theorem sl_l {ps : List P} {lo hi : Option Int} {μ : Μ} : gSlX (.v (.lst ps)) lo hi μ = .ok (.v (.lst (cutP ps lo hi))) μ := rfl
end Pu
set_option Elab.async false
set_option linter.all false
set_option maxRecDepth 100000
set_option maxHeartbeats 4000000
/-! ### set | set where the first is empty -/
namespace E10
open L2 PySem PySem.Spec PyProof.Rows
end E10
set_option Elab.async false
set_option linter.all false
set_option maxRecDepth 100000
set_option maxHeartbeats 4000000
/-! ### own errors raised out of defs and operators, caught with their attributes -/
namespace E10
open L2 PySem PySem.Spec PyProof.Rows
/-! ### operators and methods that may raise -/
end E10
set_option Elab.async false
set_option linter.all false
set_option maxRecDepth 100000
set_option maxHeartbeats 4000000
/-! ### try with several clauses, each with a name of its own -/
namespace E10
open L2 PySem PySem.Spec PyProof.Rows
/-- behind a clause its name is gone -/
abbrev goneE (i : Nat) (D : Ends) : Ends := ⟨fun t G => D.nx (t.set i none) G, D.rt, fun t G => D.bk (t.set i none) G, fun t G => D.ct (t.set i none) G⟩
/-- one clause: the class, the slot of its name, the suite -/
structure Cl where
  c : Value
  i : Nat
  ts : Addr → Value → Option Addr → TS
def wCls (K : PySem.W.Frag) (Wo : WX) (D : Ends) : List Cl → WX
  | [] => Wo
  | k :: r => fun cls d t G => ∃ b, PySem.W.exmOne K cls k.c = some b ∧ (b = true → ∀ x, G x = none → k.ts x cls d (goneE k.i D) (t.set k.i (some (.ref x))) G) ∧ (b = false → wCls K Wo D r cls d t G)
inductive Cls2 (X : Cx) : List ExceptHandler → List Cl → Prop
  | nil : Cls2 X [] []
  | cons {x n : Str} {k : Cl} {st : Stmt} {sts : List Stmt} {p1 p2 : Pos} {hs : List ExceptHandler} {l : List Cl} (nm : Names X x k.c) (at_ : X.N[k.i]? = some n) (loc : X.env.kindOf n = some .local)
      (run : ∀ (x : Addr) (ox : Obj) (cls : Value) (d : Option Addr) (pn : List (Addr × Obj)), Zc cls d ox → (∃ vs, ox.data = .fields vs) → PSs (X.suite x ((x, ox) :: pn)) (st :: sts) (k.ts x cls d)) (rest : Cls2 X hs l) :
      Cls2 X (.ExceptHandler (some (.Name x p1)) (some n) (st :: sts) p2 :: hs) (k :: l)
/-! ### isinstance of a caught error that has attributes -/
end E10
set_option Elab.async false
set_option linter.all false
set_option maxRecDepth 100000
set_option maxHeartbeats 4000000
namespace Pu
open L2 PySem PySem.Spec PyProof.Rows E10
/-! ### raise of an own error -/
/-! ### what stands in an except suite: the error at slot i, its attributes -/
structure ErA (a d : Addr) (i : Nat) (fs : List (Str × P)) (D : Addr → Prop) (σ : L2.St) (H : Hp) : Prop where
  at_ : σ[i]? = some (some (.ref a))
  dict : ∃ gs, H d = some (.xd gs) ∧ RepS D H gs fs
theorem ErA.nx {a d : Addr} {i : Nat} {fs : List (Str × P)} {D D' : Addr → Prop} {as as' : Ps} {H H' : Hp} {μ : Μ} {σ : L2.St} (k : Sk D as H μ) (n : Nx D as H D' as' H') (e : ErA a d i fs D σ H) : ErA a d i fs D' σ H' := by
  obtain ⟨h1, gs, h2, h3⟩ := e
  refine ⟨h1, gs, ?_, RepS.sd n.sd h3⟩
  by_cases c : D d
  · refine n.hid d _ c (fun j z => ?_) h2
    obtain ⟨pc, _, ok⟩ := k.ok j d z
    cases pc with
    | lst ps => obtain ⟨xs, e, _⟩ := ok; rw [h2] at e; cases e
    | dct ps => obtain ⟨xs, e, _⟩ := ok; rw [h2] at e; cases e
    | ins C ps => obtain ⟨dx, xs, e, _⟩ := ok; rw [h2] at e; cases e
    | dead => exact ok
    | lstL ps => obtain ⟨od, xs, e, _⟩ := ok; rw [h2] at e; cases e
    | dctL ps => obtain ⟨od, xs, e, _⟩ := ok; rw [h2] at e; cases e
  · exact n.sol d _ c h2 rfl
abbrev JT := (Addr → Prop) → L2.St → Hp → Prop
def AdSE (J : JT) (Wx : WX) (ts : TS) (S : SF) : Prop := ∀ D as γ μ σ H E, J D σ H → Sk D as H μ → EnvR D as H σ γ → GS Wx D as H σ.length (S γ μ) E → ts E σ H
def PPSE (X : Cx) (i : Nat) (sts : List Stmt) (S : Addr → List (Str × P) → SF) : Prop := ∃ ts : Addr → Value → Option Addr → TS,
  (∀ (a : Addr) (oe : Obj) (cls : Value) (d : Option Addr) (pn : List (Addr × Obj)), Zc cls d oe → (∃ vs, oe.data = .fields vs) → PSs (X.suite a ((a, oe) :: pn)) sts (ts a cls d)) ∧ ∀ a C d fs, AdSE (ErA a d i fs) F0 (ts a (.ref C) (some d)) (S C fs)
/-! ### try -/
structure HC where
  c : Value
  i : Nat
  S : Addr → List (Str × P) → SF
def goneS (i : Nat) : OS → OS
  | .nx γ m => .nx (γ.set i none) m
  | .bk γ m => .bk (γ.set i none) m
  | .ct γ m => .ct (γ.set i none) m
  | .ret w m => .ret w m
  | _ => .bad
def hdGo (K : PySem.W.Frag) : List HC → Addr → List (Str × P) → Γ → Μ → OS
  | [], C, fs, γ, m => .exc C fs γ m
  | h :: r, C, fs, γ, m => match PySem.W.exmOne K (.ref C) h.c with
    | some true => if h.i < γ.length then goneS h.i (h.S C fs (γ.set h.i none) m) else .bad
    | some false => hdGo K r C fs γ m
    | none => .bad
inductive PPHs (X : Cx) : List ExceptHandler → List HC → Prop
  | nil : PPHs X [] []
  | cons {x n : Str} {c : Value} {i : Nat} {S : Addr → List (Str × P) → SF} {st : Stmt} {sts : List Stmt} {p1 p2 : Pos} {hs : List ExceptHandler} {l : List HC} (nm : Names X x c) (at_ : X.N[i]? = some n) (loc : X.env.kindOf n = some .local) (h : PPSE X i (st :: sts) S) (rest : PPHs X hs l) :
      PPHs X (.ExceptHandler (some (.Name x p1)) (some n) (st :: sts) p2 :: hs) (⟨c, i, S⟩ :: l)
theorem EnvR.gone {D : Addr → Prop} {as : Ps} {H : Hp} {σ : L2.St} {γ : Γ} (r : EnvR D as H σ γ) (i : Nat) (x : Option V) : EnvR D as H (σ.set i x) (γ.set i none) := by
  refine ⟨by rw [List.length_set, List.length_set]; exact r.1, fun j w e => ?_⟩
  by_cases c : i = j
  · subst c
    rw [List.getElem?_set_self'] at e
    cases g : γ[i]? with
    | none => rw [g] at e; cases e
    | some y => rw [g] at e; cases e
  · rw [List.getElem?_set_ne c] at e ⊢
    exact r.2 j w e
theorem GS.gone {Wx : WX} {D : Addr → Prop} {as : Ps} {H : Hp} {l i : Nat} {o : OS} {E : Ends} (g : GS Wx D as H l (goneS i o) E) : GS F0 D as H l o (goneE i E) := by
  cases o with
  | nx γ m => exact fun σ' D' as' H' n k e q => g (σ'.set i none) D' as' H' n k (e.gone i none) (by rw [List.length_set]; exact q)
  | bk γ m => exact fun σ' D' as' H' n k e q => g (σ'.set i none) D' as' H' n k (e.gone i none) (by rw [List.length_set]; exact q)
  | ct γ m => exact fun σ' D' as' H' n k e q => g (σ'.set i none) D' as' H' n k (e.gone i none) (by rw [List.length_set]; exact q)
  | ret w m => exact g
  | exc C fs γ m => exact g.elim
  | bad => exact g.elim
theorem PPHs.to {X : Cx} {hs : List ExceptHandler} {l : List HC} (h : PPHs X hs l) : ∃ cl : List Cl, Cls2 X hs cl ∧ ∀ (Wx : WX) (D : Addr → Prop) (as : Ps) (γ : Γ) (m : Μ) (σ : L2.St) (H : Hp) (E : Ends) (C d : Addr) (fs : List (Str × P)) (gs : List (Str × V)), Sk D as H m → EnvR D as H σ γ → H d = some (.xd gs) → RepS D H gs fs →
    GS Wx D as H σ.length (hdGo X.K l C fs γ m) E → wCls X.K Wx E cl (.ref C) (some d) σ H := by
  induction h with
  | nil => exact ⟨[], .nil, fun Wx D as γ m σ H E C d fs gs k ev hd rs g => g σ d gs D as H .refl k ev rfl hd rs⟩
  | @cons x n c i S st sts p1 p2 hs l nm at_ loc h rest ih =>
    obtain ⟨cl, ck, go⟩ := ih
    obtain ⟨ts, ps, ad⟩ := h
    refine ⟨⟨c, i, ts⟩ :: cl, .cons nm at_ loc (fun a oe cls d pn z f => ps a oe cls d pn z f) ck, fun Wx D as γ m σ H E C d fs gs k ev hd rs g => ?_⟩
    unfold hdGo at g
    cases eb : PySem.W.exmOne X.K (.ref C) c with
    | none => rw [eb] at g; exact g.elim
    | some b =>
      rw [eb] at g
      cases b with
      | false => exact ⟨false, eb, (fun z => by cases z), fun _ => go Wx D as γ m σ H E C d fs gs k ev hd rs g⟩
      | true =>
        simp only at g
        refine ⟨true, eb, fun _ a na => ?_, fun z => by cases z⟩
        split at g
        · rename_i lt
          have lt2 : i < σ.length := by rw [← ev.1]; exact lt
          refine ad a C d fs D as (γ.set i none) m (σ.set i (some (.ref a))) H (goneE i E) ⟨by rw [List.getElem?_set_self lt2], gs, hd, rs⟩ k (ev.gone i _) ?_
          rw [List.length_set]
          exact GS.gone g
        · exact g.elim
end Pu
set_option Elab.async false
set_option linter.all false
set_option maxRecDepth 100000
set_option maxHeartbeats 4000000
namespace Pu
open L2 PySem PySem.Spec PyProof.Rows E10
open He (ga ma)
theorem pgC {X : Cx} {x : Str} {a : Addr} {pos : Pos} (hg : Gl X x) (hm : X.mg x = some (.ref a)) (hd : (x == ("__debug__" : Str)) = false := by decide) : PE X (.Name x pos) (tC (.ref a)) := pe_glob hg hm rfl hd
end Pu
set_option Elab.async false
set_option linter.all false
set_option maxRecDepth 100000
set_option maxHeartbeats 4000000
namespace Pu
open L2 PySem PySem.Spec PyProof.Rows E10
/-! ### a def called with keywords alone, in whatever sequence -/
def pick {α : Type} (is : List Nat) (l : List α) : List α := is.filterMap (l[·]?)
theorem pick_vals {vs : List V} {us : List Value} (r : Vals vs us) : ∀ is : List Nat, Vals (pick is vs) (pick is us)
  | [] => .nil
  | i :: is => by
    have ih := pick_vals r is
    unfold pick at ih ⊢
    rw [List.filterMap_cons, List.filterMap_cons]
    have : ∀ {vs : List V} {us : List Value} (i : Nat), Vals vs us → (vs[i]? = none ∧ us[i]? = none) ∨ ∃ v u, vs[i]? = some v ∧ us[i]? = some u ∧ RelV v u := by
      intro vs us i r
      induction r generalizing i with
      | nil => exact .inl ⟨rfl, rfl⟩
      | cons a t ih =>
        cases i with
        | zero => exact .inr ⟨_, _, rfl, rfl, a⟩
        | succ i => exact ih i
    rcases this i r with ⟨e1, e2⟩ | ⟨v, u, e1, e2, rv⟩
    · rw [e1, e2]
      exact ih
    · rw [e1, e2]
      exact .cons rv ih
theorem pick_rep {D : Addr → Prop} {as : Ps} {H : Hp} {vs : List V} {ws : List W} (r : RepWs D as H vs ws) : ∀ is : List Nat, RepWs D as H (pick is vs) (pick is ws)
  | [] => .nil
  | i :: is => by
    have ih := pick_rep r is
    unfold pick at ih ⊢
    rw [List.filterMap_cons, List.filterMap_cons]
    have : ∀ {vs : List V} {ws : List W} (i : Nat), RepWs D as H vs ws → (vs[i]? = none ∧ ws[i]? = none) ∨ ∃ v u, vs[i]? = some v ∧ ws[i]? = some u ∧ RepW D as H v u := by
      intro vs ws i r
      induction r generalizing i with
      | nil => exact .inl ⟨rfl, rfl⟩
      | cons a t ih =>
        cases i with
        | zero => exact .inr ⟨_, _, rfl, rfl, a⟩
        | succ i => exact ih i
    rcases this i r with ⟨e1, e2⟩ | ⟨v, u, e1, e2, rv⟩
    · rw [e1, e2]
      exact ih
    · rw [e1, e2]
      exact .cons rv ih
end Pu
set_option Elab.async false
set_option linter.all false
set_option maxRecDepth 100000
set_option maxHeartbeats 4000000
/-! ### {**a, **b} -/
namespace E10
open L2 PySem PySem.Spec PyProof.Rows
end E10
set_option Elab.async false
set_option linter.all false
set_option maxRecDepth 100000
set_option maxHeartbeats 4000000
namespace Pu
open L2 PySem PySem.Spec PyProof.Rows E10
open He (ga ma)
structure Ok (t : Tb) : Prop where
  ne : t ≠ []
  nm : ∀ z ∈ keys t, Nm z
  nd : (keys t).Nodup
  le : t.length ≤ 8
def val (t : Tb) (z : Str) : Int := (get t z).getD 0
def ord (t : Tb) : Tb := (srt (keys t)).map fun z => (z, val t z)
theorem val_of {t : Tb} {z : Str} (m : z ∈ keys t) : get t z = some (val t z) := by
  unfold val
  obtain ⟨v, e⟩ := Option.isSome_iff_exists.mp (get_mem.mpr m)
  rw [e]
  rfl
theorem keys_ord (t : Tb) : keys (ord t) = srt (keys t) := by
  unfold keys ord
  rw [List.map_map]
  exact List.map_id _
def shf (t : Tb) (n : Int) : Tb := t.map fun p => (p.1, p.2 + n)
def low (t times : Tb) : Int := minL ((keys t).map fun z => val times z + val t z)
theorem keys_ne {t : Tb} (h : t ≠ []) : keys t ≠ [] := by
  cases t with
  | nil => exact absurd rfl h
  | cons p r => exact List.cons_ne_nil _ _
theorem keys_shf (t : Tb) (n : Int) : keys (shf t n) = keys t := by
  unfold keys shf
  rw [List.map_map]
  rfl
theorem Ok.shf {t : Tb} (h : Ok t) (n : Int) : Ok (shf t n) := ⟨fun e => h.ne (List.map_eq_nil_iff.mp e), by rw [keys_shf]; exact h.nm, by rw [keys_shf]; exact h.nd, by unfold Pu.shf; rw [List.length_map]; exact h.le⟩
theorem len_ord (t : Tb) : (ord t).length = t.length := by
  unfold ord
  rw [List.length_map, srt_len, len_keys]
theorem Ok.ord {t : Tb} (h : Ok t) : Ok (ord t) := ⟨fun e => h.ne (List.eq_nil_of_length_eq_zero (by rw [← len_ord, e]; rfl)), by rw [keys_ord]; exact fun z m => h.nm z (srt_mem.mp m), by rw [keys_ord]; exact srt_nodup h.nd, by rw [len_ord]; exact h.le⟩
def nl (t s : Tb) : Bool := (keys s).all fun z => decide (z ∈ keys t) && decide (val t z ≤ val s z)
def same (a b : Tb) : Bool := eqK (a.map rowP) (b.map rowP)
theorem flat_rows (a : Tb) : (a.map rowP).all (fun x => flatP x.2) = true := by
  rw [List.all_map]
  exact List.all_eq_true.mpr fun _ _ => rfl
def both (a b : Tb) : List Str := insAll (insAll [] (keys a)) (insAll [] (keys b))
def lst (a b : Tb) (z : Str) : Int := minL (([a, b].filter fun t => decide (z ∈ keys t)).map fun t => val t z)
def least (a b : Tb) : Tb := (srt (both a b)).map fun z => (z, lst a b z)
def putT (t : Tb) (z : Str) (v : Int) : Tb := if z ∈ keys t then t.map (fun p => if p.1 = z then (p.1, v) else p) else t ++ [(z, v)]
theorem put_keys (t : Tb) (z : Str) (v : Int) : keys (putT t z v) = if z ∈ keys t then keys t else keys t ++ [z] := by
  unfold putT
  by_cases c : z ∈ keys t
  · rw [if_pos c, if_pos c]
    unfold keys
    rw [List.map_map]
    refine List.map_congr_left fun p _ => ?_
    show (if p.1 = z then (p.1, v) else p).1 = p.1
    split <;> rfl
  · rw [if_neg c, if_neg c]
    unfold keys
    rw [List.map_append]
    rfl
theorem put_nd {t : Tb} (nd : (keys t).Nodup) (z : Str) (v : Int) : (keys (putT t z v)).Nodup := by
  rw [put_keys]
  split
  · exact nd
  · rename_i c
    rw [List.nodup_append]
    exact ⟨nd, List.nodup_cons.mpr ⟨List.not_mem_nil, List.nodup_nil⟩, fun x hx y hy e => c (by rw [List.mem_singleton.mp hy] at e; exact e ▸ hx)⟩
theorem put_sub {t : Tb} {ns : List Str} (h : ∀ x ∈ keys t, x ∈ ns) {z : Str} (hz : z ∈ ns) (v : Int) : ∀ x ∈ keys (putT t z v), x ∈ ns := by
  rw [put_keys]
  split
  · exact h
  · intro x hx
    rcases List.mem_append.mp hx with m | m
    · exact h x m
    · rw [List.mem_singleton.mp m]
      exact hz
structure Sub (t : Tb) (ns : List Str) : Prop where
  nd : (keys t).Nodup
  sub : ∀ z ∈ keys t, z ∈ ns
theorem Sub.put {t : Tb} {ns : List Str} (h : Sub t ns) {z : Str} (hz : z ∈ ns) (v : Int) : Sub (putT t z v) ns := ⟨put_nd h.nd z v, put_sub h.sub hz v⟩
theorem Sub.len {t : Tb} {ns : List Str} (h : Sub t ns) : t.length ≤ ns.length := by
  have := nodup_le h.nd h.sub
  rw [len_keys] at this
  exact this
theorem dict_pairs {α : Type} (k : α → Str) (v : α → Int) {l : List α} (nd : (l.map k).Nodup) : gDict .val [.v (.lst (l.map fun a => P.tup [.str (k a), .int (v a)]))] μ = .ok (.v (dctP (l.map fun a => (k a, v a)))) μ := by
  show O.or .bad (match pairsP (l.map fun a => P.tup [.str (k a), .int (v a)]) with
    | some l => mkD .val (mergeP [] l) μ
    | none => .bad) = _
  rw [pairs_map k (fun a => P.int (v a)) l, O.or_bad]
  show O.ok (W.v (.dct (mergeP [] (l.map fun a => (Sum.inr (k a), P.int (v a)))))) μ = _
  rw [merge_fold, put_all (fun p : Key × P => p.1) (fun p => p.2)]
  · unfold dctP
    rw [List.nil_append, List.map_map, List.map_map]
    rfl
  · rw [List.map_nil, List.nil_append, List.map_map]
    have : (l.map ((fun p : Key × P => p.1) ∘ fun a => (Sum.inr (k a), P.int (v a)))) = (l.map k).map Sum.inr := by
      rw [List.map_map]
      rfl
    rw [this]
    exact List.Pairwise.map _ (fun a b h e => h (Sum.inr.inj e)) nd
def Nl (t s : Tb) : Prop := ∀ z ∈ keys s, z ∈ keys t ∧ val t z ≤ val s z
theorem nl_iff {t s : Tb} : nl t s = true ↔ Nl t s := by
  unfold nl Nl
  rw [List.all_eq_true]
  constructor
  · intro h z m
    have := h z m
    rw [Bool.and_eq_true] at this
    exact ⟨of_decide_eq_true this.1, of_decide_eq_true this.2⟩
  · intro h z m
    obtain ⟨a, b⟩ := h z m
    rw [decide_eq_true a, decide_eq_true b]
    rfl
theorem mem_ord {t : Tb} {z : Str} : z ∈ keys (ord t) ↔ z ∈ keys t := by rw [keys_ord, srt_mem]
theorem val_none {t : Tb} {z : Str} (h : z ∉ keys t) : val t z = 0 := by
  unfold val
  cases e : get t z with
  | none => rfl
  | some v => exact absurd (get_mem.mp (by rw [e]; rfl)) h
theorem val_at {t : Tb} (nd : (keys t).Nodup) {z : Str} {v : Int} (m : (z, v) ∈ t) : val t z = v := by
  unfold val
  rw [get_of nd m]
  rfl
theorem val_ord {t : Tb} (nd : (keys t).Nodup) (z : Str) : val (ord t) z = val t z := by
  by_cases c : z ∈ keys t
  · exact val_at (by rw [keys_ord]; exact srt_nodup nd) (List.mem_map.mpr ⟨z, srt_mem.mpr c, rfl⟩)
  · rw [val_none c, val_none (fun m => c (mem_ord.mp m))]
theorem Nl.refl (t : Tb) : Nl t t := fun z m => ⟨m, Int.le_refl _⟩
theorem Nl.trans {a b c : Tb} (h : Nl a b) (h2 : Nl b c) : Nl a c := fun z m => by
  obtain ⟨m1, l1⟩ := h2 z m
  obtain ⟨m2, l2⟩ := h z m1
  exact ⟨m2, Int.le_trans l2 l1⟩
theorem hit_iff {l : Tb} : ∀ {r : Tb}, hitP (l.map rowP) (r.map rowP) = true ↔ ∀ p ∈ r, get l p.1 = some p.2
  | [] => ⟨fun _ p m => (nomatch m), fun _ => rfl⟩
  | p :: r => by
    show (match valP (l.map rowP) (Sum.inr p.1) with
      | some q => eqF (.int p.2) q && hitP (l.map rowP) (r.map rowP)
      | none => false) = true ↔ _
    rw [val_dct]
    constructor
    · intro h q m
      cases e : get l p.1 with
      | none => rw [e] at h; cases h
      | some v =>
        rw [e] at h
        have h : (p.2 == v && hitP (l.map rowP) (r.map rowP)) = true := h
        rw [Bool.and_eq_true] at h
        rcases List.mem_cons.mp m with rfl | m
        · rw [e, eq_of_beq h.1]
        · exact hit_iff.mp h.2 q m
    · intro h
      rw [h p List.mem_cons_self]
      show (p.2 == p.2 && hitP (l.map rowP) (r.map rowP)) = true
      rw [beq_self_eq_true, Bool.true_and]
      exact hit_iff.mpr fun q m => h q (List.mem_cons_of_mem _ m)
theorem same_nl {a b : Tb} (na : (keys a).Nodup) (nb : (keys b).Nodup) : same a b = (nl a b && nl b a) := by
  have key : same a b = true ↔ (Nl a b ∧ Nl b a) := by
    unfold same eqK
    rw [Bool.and_eq_true, List.length_map, List.length_map, hit_iff]
    constructor
    · rintro ⟨hl, h⟩
      have hl : a.length = b.length := eq_of_beq hl
      have sub : ∀ z ∈ keys a, z ∈ keys b := fun z m => by
        obtain ⟨p, mp, rfl⟩ := List.mem_map.mp m
        exact get_mem.mp (by rw [h p mp]; rfl)
      have va : ∀ z ∈ keys a, val b z = val a z := fun z m => by
        have := h (z, val a z) (get_in (val_of m))
        unfold val at this ⊢
        rw [this]
        rfl
      have sub2 : ∀ z ∈ keys b, z ∈ keys a := by
        intro z m
        by_cases c : z ∈ keys a
        · exact c
        · have := nodup_le (l := z :: keys a) (m := keys b) (List.nodup_cons.mpr ⟨c, na⟩) fun x hx => by
            rcases List.mem_cons.mp hx with rfl | hx
            · exact m
            · exact sub x hx
          rw [List.length_cons, len_keys, len_keys] at this
          omega
      exact ⟨fun z m => ⟨sub2 z m, by rw [va z (sub2 z m)]; exact Int.le_refl _⟩, fun z m => ⟨sub z m, by rw [va z m]; exact Int.le_refl _⟩⟩
    · rintro ⟨h1, h2⟩
      have l1 : a.length ≤ b.length := by
        have := nodup_le na fun z m => (h2 z m).1
        rwa [len_keys, len_keys] at this
      have l2 : b.length ≤ a.length := by
        have := nodup_le nb fun z m => (h1 z m).1
        rwa [len_keys, len_keys] at this
      refine ⟨beq_iff_eq.mpr (by omega), fun p m => ?_⟩
      have mk : p.1 ∈ keys a := List.mem_map.mpr ⟨p, m, rfl⟩
      obtain ⟨c1, c2⟩ := h2 p.1 mk
      have c3 := (h1 p.1 c1).2
      rw [val_of c1]
      have := val_at na (show (p.1, p.2) ∈ a from m)
      congr 1
      omega
  cases e : same a b with
  | true =>
    obtain ⟨x, y⟩ := key.mp e
    rw [nl_iff.mpr x, nl_iff.mpr y]
    rfl
  | false =>
    cases q : nl a b && nl b a with
    | false => rfl
    | true =>
      rw [Bool.and_eq_true] at q
      rw [key.mpr ⟨nl_iff.mp q.1, nl_iff.mp q.2⟩] at e
      cases e
structure In8 (ns : List Str) (t : Tb) : Prop where
  s : Sub t ns
  ne : t ≠ []
structure Ns (ns : List Str) : Prop where
  nd : ns.Nodup
  nm : ∀ z ∈ ns, Nm z
  le : ns.length ≤ 8
  ne : ns ≠ []
theorem In8.ok {ns : List Str} {t : Tb} (h : In8 ns t) (n : Ns ns) : Ok t := ⟨h.ne, fun z m => n.nm z (h.s.sub z m), h.s.nd, Nat.le_trans h.s.len n.le⟩
theorem In8.ord {ns : List Str} {t : Tb} (h : In8 ns t) : In8 ns (ord t) := ⟨⟨by rw [keys_ord]; exact srt_nodup h.s.nd, fun z m => h.s.sub z (mem_ord.mp m)⟩, fun e => h.ne (List.eq_nil_of_length_eq_zero (by rw [← len_ord, e]; rfl))⟩
theorem In8.shf {ns : List Str} {t : Tb} (h : In8 ns t) (n : Int) : In8 ns (shf t n) := ⟨⟨by rw [keys_shf]; exact h.s.nd, by rw [keys_shf]; exact h.s.sub⟩, fun e => h.ne (List.map_eq_nil_iff.mp e)⟩
theorem same_refl {t : Tb} (nd : (keys t).Nodup) : same t t = true := by
  rw [same_nl nd nd, nl_iff.mpr (Nl.refl t)]
  rfl
end Pu
set_option Elab.async false
set_option linter.all false
set_option maxRecDepth 100000
set_option maxHeartbeats 4000000
namespace Pu
open L2 PySem PySem.Spec PyProof.Rows E10
open He (ga ma)
/-! ### what a run asks of what is behind it -/
abbrev XP := Addr → List (Str × P) → Μ → Prop
abbrev XG := Addr → List (Str × P) → Γ → Μ → Prop
def WO {α : Type} (o : O α) (Q : α → Μ → Prop) (X : XP) : Prop := match o with
  | .ok a m => Q a m
  | .exc C fs m => X C fs m
  | .bad => False
def WS (o : OS) (N : Γ → Μ → Prop) (R : W → Μ → Prop) (B C : Γ → Μ → Prop) (X : XG) : Prop := match o with
  | .nx γ m => N γ m
  | .ret w m => R w m
  | .bk γ m => B γ m
  | .ct γ m => C γ m
  | .exc C fs γ m => X C fs γ m
  | .bad => False
/-- no error comes out -/
def X0 : XP := fun _ _ _ => False
/-! special shapes -/
def IsB (w : W) (k : Bool → Prop) : Prop := ∃ b, w = .v (.bl b) ∧ k b
def IsI (w : W) (k : Int → Prop) : Prop := ∃ i, w = .v (.int i) ∧ k i
def IsV (w : W) (k : P → Prop) : Prop := ∃ p, w = .v p ∧ k p
def IsVs (ws : List W) (k : List P → Prop) : Prop := ∃ ps, vals ws = some ps ∧ k ps
/-- a list of slots, written out -/
def St1 (γ : Γ) (k : Γ → Prop) : Prop := ∃ γ', γ = γ' ∧ k γ'
def Is2 (ws : List W) (k : W → W → Prop) : Prop := ∃ u v, ws = [u, v] ∧ k u v
def Is3 (ws : List W) (k : W → W → W → Prop) : Prop := ∃ u v w, ws = [u, v, w] ∧ k u v w
def Few (ps : List P) (A : Prop) : Prop := ps.length ≤ 100000 ∧ A
def IsRg (ws : List W) (k : Nat → Prop) : Prop := ∃ j : Nat, ws = [.v (.int (j : Int))] ∧ j ≤ 100000 ∧ k j
def IsO (C : Addr) (m : Μ) (w : W) (k : List (Str × P) → Prop) : Prop := ∃ fs, rdI m w = some (C, fs) ∧ k fs
def NoF (fs : List (Str × P)) (f : Str) (A : Prop) : Prop := fs.lookup f = none ∧ A
def IsC (C : Addr) (w : W) (k : List (Str × P) → Prop) : Prop := ∃ fs, w = .v (.ins C fs) ∧ k fs
def LeM (m n : Μ) (A : Prop) : Prop := m.length ≤ n.length ∧ A
def Bi (b : Bool) (A B : Prop) : Prop := (b = true → A) ∧ (b = false → B)
theorem isB {b : Bool} {k : Bool → Prop} (h : k b) : IsB (.v (.bl b)) k := ⟨b, rfl, h⟩
theorem isI {b : Int} {k : Int → Prop} (h : k b) : IsI (.v (.int b)) k := ⟨b, rfl, h⟩
theorem isV {b : P} {k : P → Prop} (h : k b) : IsV (.v b) k := ⟨b, rfl, h⟩
theorem st1 {γ γ' : Γ} {k : Γ → Prop} (e : γ = γ') (h : k γ') : St1 γ k := ⟨γ', e, h⟩
theorem is2 {u v : W} {k : W → W → Prop} (h : k u v) : Is2 [u, v] k := ⟨u, v, rfl, h⟩
theorem is3 {u v w : W} {k : W → W → W → Prop} (h : k u v w) : Is3 [u, v, w] k := ⟨u, v, w, rfl, h⟩
theorem few1 {ps : List P} {A : Prop} (l : ps.length ≤ 100000) (h : A) : Few ps A := ⟨l, h⟩
theorem isRg {j : Nat} {k : Nat → Prop} (l : j ≤ 100000) (h : k j) : IsRg [.v (.int (j : Int))] k := ⟨j, rfl, l, h⟩
theorem isRgL {i : Int} (j : Nat) {k : Nat → Prop} (e : i = (j : Int)) (l : j ≤ 100000) (h : k j) : IsRg [.v (.int i)] k := ⟨j, by rw [e], l, h⟩
theorem isO {C : Addr} {m : Μ} {fs : List (Str × P)} {k : List (Str × P) → Prop} (h : k fs) : IsO C m (.v (.ins C fs)) k := ⟨fs, rfl, h⟩
theorem noF {fs : List (Str × P)} {f : Str} {A : Prop} (e : fs.lookup f = none) (h : A) : NoF fs f A := ⟨e, h⟩
theorem isC1 {C : Addr} {fs : List (Str × P)} {k : List (Str × P) → Prop} (h : k fs) : IsC C (.v (.ins C fs)) k := ⟨fs, rfl, h⟩
theorem leM {m n : Μ} {A : Prop} (l : m.length ≤ n.length) (h : A) : LeM m n A := ⟨l, h⟩
theorem isVs0 {k : List P → Prop} (h : k []) : IsVs [] k := ⟨[], rfl, h⟩
theorem isVs1 {p : P} {ws : List W} {k : List P → Prop} (h : IsVs ws fun ps => k (p :: ps)) : IsVs (.v p :: ws) k := by
  obtain ⟨ps, e, h⟩ := h
  exact ⟨p :: ps, by rw [vals, e]; rfl, h⟩
theorem vals_map : ∀ ps : List P, vals (ps.map W.v) = some ps
  | [] => rfl
  | p :: r => by
    rw [List.map_cons, vals, vals_map r]
    rfl
theorem isVsM {ps : List P} {k : List P → Prop} (h : k ps) : IsVs (ps.map W.v) k := ⟨ps, vals_map ps, h⟩
theorem isVsA : ∀ {ps : List P} {ws : List W} {k : List P → Prop}, IsVs ws (fun qs => k (ps ++ qs)) → IsVs (ps.map W.v ++ ws) k
  | [], _, _, h => h
  | p :: r, ws, k, h => isVs1 (isVsA (ps := r) (ws := ws) h)
section
variable {A B : Prop} {b c : Bool} {p : Prop} [Decidable p]
theorem bi_tt (h : A) : Bi true A B := ⟨fun _ => h, fun z => by cases z⟩
theorem bi_ff (h : B) : Bi false A B := ⟨fun z => (by cases z), fun _ => h⟩
theorem bi_not (h : Bi b B A) : Bi (!b) A B := by cases b <;> exact ⟨fun z => h.2 (by simpa using z), fun z => h.1 (by simpa using z)⟩
theorem bi_T (h : b = true) (a : A) : Bi b A B := by subst h; exact bi_tt a
theorem bi_F (h : b = false) (a : B) : Bi b A B := by subst h; exact bi_ff a
theorem bi_dT (h : p) (a : A) : Bi (decide p) A B := bi_T (decide_eq_true h) a
theorem bi_dF (h : ¬ p) (a : B) : Bi (decide p) A B := bi_F (decide_eq_false h) a
theorem bi_if (h : p → A) (g : ¬ p → B) : Bi (decide p) A B := ⟨fun z => h (of_decide_eq_true z), fun z => g (of_decide_eq_false z)⟩
theorem bi_by (h : b = true → A) (g : b = false → B) : Bi b A B := ⟨h, g⟩
theorem bi_bneF (h : Bi b A B) : Bi (b != false) A B := by simpa using h
theorem bi_bneT (h : Bi b B A) : Bi (b != true) A B := by cases b <;> simpa [Bi] using h
end
section
variable {α β : Type} {Q : α → Μ → Prop} {X : XP} {o : O α} {μ m : Μ} {a : α}
theorem wo_ok (h : Q a m) : WO (.ok a m) Q X := h
theorem wo_eq (e : o = .ok a m) (h : Q a m) : WO o Q X := by rw [e]; exact h
theorem wo_mono {Q' : α → Μ → Prop} {X' : XP} (h : WO o Q X) (hq : ∀ a m, Q a m → Q' a m) (hx : ∀ C fs m, X C fs m → X' C fs m) : WO o Q' X' := by
  cases o with
  | ok a m => exact hq _ _ h
  | exc C fs m => exact hx _ _ _ h
  | bad => exact h
theorem wo_mid {Q' : α → Μ → Prop} (h : WO o Q' X) (hq : ∀ a m, Q' a m → Q a m) : WO o Q X := wo_mono h hq fun _ _ _ z => z
theorem wo_to {Q' : α → Μ → Prop} (h : WO o Q' X0) (hq : ∀ a m, Q' a m → Q a m) : WO o Q X := wo_mono h hq fun _ _ _ z => z.elim
theorem wo_bind {f : α → Μ → O β} {Q : β → Μ → Prop} (h : WO o (fun a m => WO (f a m) Q X) X) : WO (o.bind f) Q X := by
  cases o <;> exact h
theorem wo_nx (h : WO o Q X0) : WO o.nx Q X := by
  cases o with
  | ok a m => exact h
  | exc C fs m => exact h.elim
  | bad => exact h
theorem wo_s {γ : Γ} {f : α → Μ → OS} {N R B C} {Y : XG} (h : WO o (fun a m => WS (f a m) N R B C Y) fun C fs m => Y C fs γ m) : WS (o.s γ f) N R B C Y := by
  cases o <;> exact h
/-- what was said of it is so -/
theorem wo_out (h : WO o Q X0) : ∃ a m, o = .ok a m ∧ Q a m := by
  cases o with
  | ok a m => exact ⟨a, m, rfl, h⟩
  | exc C fs m => exact h.elim
  | bad => exact h.elim
end
/-! ### kinds -/
def tyN : P → Option String
  | .non => some "NoneType"
  | .bl _ => some "bool"
  | .int _ => some "int"
  | .str _ => some "str"
  | .tup _ => some "tuple"
  | .lst _ => some "list"
  | .dct _ => some "dict"
  | _ => none
theorem tyN_ok {cs : List Addr} {m : Μ} {p : P} {a : String} (h : tyN p = some a) : tyP cs m (.v p) = some (.type a) ∧ a ∈ tyNs := by
  cases p <;> cases h <;> exact ⟨rfl, by decide⟩
def kitN (a b : String) : Bool := a == b || (a == "bool" && b == "int")
theorem kit_eq' : (tyNs.all fun a => tyMs.all fun b => decide (kitB a b = some (kitN a b))) = true := by decide +kernel
theorem kit_eq {a b : String} (ha : a ∈ tyNs) (hb : b ∈ tyMs) : kitB a b = some (kitN a b) := of_decide_eq_true (List.all_eq_true.mp (List.all_eq_true.mp kit_eq' a ha) b hb)
/-! ### expressions -/
section
variable {Q : W → Μ → Prop} {QA : List W → Μ → Prop} {QB : Bool → Μ → Prop} {X : XP} {γ : Γ} {μ m : Μ} {F F1 F2 F3 U : EF} {A : AF} {T T2 : TF} {FF' : FF} {f g : W → W → Μ → O W}
theorem wo_var {i : Nat} {w : W} (e : γ[i]? = some (some w)) (h : Q w μ) : WO (fVar i γ μ) Q X := by
  unfold fVar
  rw [e]
  exact h
theorem wo_c {p : P} (h : Q (.v p) μ) : WO (fC p γ μ) Q X := h
theorem wo_op (h : WO (F1 γ μ) (fun x m => WO (F2 γ m) (fun y m => WO (f x y m) Q X) X) X) : WO (fOp f F1 F2 γ μ) Q X := wo_bind (wo_mono h (fun _ _ z => wo_bind z) fun _ _ _ z => z)
theorem wo_un {f : W → Μ → O W} (h : WO (F γ μ) (fun x m => WO (f x m) Q X) X) : WO (fUn f F γ μ) Q X := wo_bind h
theorem wo_call (h : WO (A γ μ) (fun ws m => WO (FF' ws m) Q X) X) : WO (fCall FF' A γ μ) Q X := wo_bind h
theorem wa_nil (h : QA [] μ) : WO (fNil γ μ) QA X := h
theorem wa_cons (h : WO (F γ μ) (fun w m => WO (A γ m) (fun ws m => QA (w :: ws) m) X) X) : WO (fCons F A γ μ) QA X := wo_bind (wo_mono h (fun _ _ z => wo_bind z) fun _ _ _ z => z)
theorem wt_test (h : WO (F γ μ) (fun w m => IsB w fun b => QB b m) X) : WO (fTest F γ μ) QB X := wo_bind (wo_mono h (fun w m ⟨b, e, z⟩ => by subst e; exact z) fun _ _ _ z => z)
theorem wt_not (h : WO (T γ μ) (fun b m => QB (!b) m) X) : WO (fNotT T γ μ) QB X := wo_bind h
theorem wt_and (h : WO (T γ μ) (fun b m => Bi b (WO (T2 γ m) QB X) (QB false m)) X) : WO (fAndT T T2 γ μ) QB X := wo_bind (wo_mono h (fun b m z => by cases b; exact z.2 rfl; exact z.1 rfl) fun _ _ _ z => z)
theorem wt_or (h : WO (T γ μ) (fun b m => Bi b (QB true m) (WO (T2 γ m) QB X)) X) : WO (fOrT T T2 γ μ) QB X := wo_bind (wo_mono h (fun b m z => by cases b; exact z.2 rfl; exact z.1 rfl) fun _ _ _ z => z)
theorem wt_yes (h : QB true μ) : WO (fYes γ μ) QB X := h
theorem wo_andV (h : WO (F γ μ) (fun w m => IsB w fun b => Bi b (WO (U γ m) Q X) (Q (.v (.bl false)) m)) X) : WO (fAndV F U γ μ) Q X := wo_bind (wo_mono h (fun w m ⟨b, e, z⟩ => by subst e; cases b; exact z.2 rfl; exact z.1 rfl) fun _ _ _ z => z)
theorem wo_orV (h : WO (F γ μ) (fun w m => IsB w fun b => Bi b (Q (.v (.bl true)) m) (WO (U γ m) Q X)) X) : WO (fOrV F U γ μ) Q X := wo_bind (wo_mono h (fun w m ⟨b, e, z⟩ => by subst e; cases b; exact z.2 rfl; exact z.1 rfl) fun _ _ _ z => z)
theorem wo_notV (h : WO (F γ μ) (fun w m => IsB w fun b => Q (.v (.bl (!b))) m) X) : WO (fNotV F γ μ) Q X := wo_bind (wo_mono h (fun w m ⟨b, e, z⟩ => by subst e; exact z) fun _ _ _ z => z)
theorem wo_if (h : WO (T γ μ) (fun b m => Bi b (WO (F1 γ m) Q X) (WO (F2 γ m) Q X)) X) : WO (fIf T F1 F2 γ μ) Q X := wo_bind (wo_mono h (fun b m z => by cases b; exact z.2 rfl; exact z.1 rfl) fun _ _ _ z => z)
theorem wo_chain (h : WO (F1 γ μ) (fun x m => WO (F2 γ m) (fun y m => WO (f x y m) (fun z m => IsB z fun b => Bi b (WO (F3 γ m) (fun u m => WO (g y u m) Q X) X) (Q (.v (.bl false)) m)) X) X) X) : WO (fChain f g F1 F2 F3 γ μ) Q X :=
  wo_bind (wo_mono h (fun x m h => wo_bind (wo_mono h (fun y m h => wo_bind (wo_mono h (fun z m ⟨b, e, h⟩ => by
    subst e
    cases b
    · exact h.2 rfl
    · exact wo_bind (h.1 rfl)) fun _ _ _ z => z)) fun _ _ _ z => z)) fun _ _ _ z => z)
theorem wo_seq {mk : List P → P} (h : WO (A γ μ) (fun ws m => IsVs ws fun ps => Few ps (Q (.v (mk ps)) m)) X) : WO (fSeq mk A γ μ) Q X := wo_bind (wo_mono h (fun ws m ⟨ps, e, l, z⟩ => by rw [e]; simp only [l, if_true]; exact z) fun _ _ _ z => z)
theorem wo_lstC (h : WO (A γ μ) (fun ws m => IsVs ws fun ps => Few ps (Q (.loc m.length) (m ++ [.lst ps]))) X) : WO (fLstC A γ μ) Q X := wo_bind (wo_mono h (fun ws m ⟨ps, e, l, z⟩ => by rw [e]; simp only [l, if_true]; exact z) fun _ _ _ z => z)
theorem wo_fld {C : Addr} {fl : Str} (h : WO (F γ μ) (fun w m => WO (fldP C fl w m) Q X) X) : WO (fFld C fl F γ μ) Q X := wo_bind h
theorem wo_fldv {C : Addr} {fl : Str} {fs : List (Str × P)} {p : P} (e : fs.lookup fl = some p) (h : Q (.v p) m) : WO (fldP C fl (.v (.ins C fs)) m) Q X := by
  unfold fldP
  simp only [rdI, if_true, e]
  exact h
theorem wo_meth {C : Addr} {mt : Str} (h : WO (F γ μ) (fun w m => IsO C m w fun fs => NoF fs mt (WO (A γ m) (fun ws m => WO (FF' (w :: ws) m) Q X) X)) X) : WO (fMeth C mt FF' F A γ μ) Q X :=
  wo_bind (wo_mono h (fun w m ⟨fs, e, l, z⟩ => by rw [e]; simp only [l, and_self, if_true]; exact wo_bind z) fun _ _ _ z => z)
theorem wo_prop {C : Addr} (h : WO (F γ μ) (fun w m => IsO C m w fun fs => WO (FF' [w] m) Q X0) X) : WO (fProp C FF' F γ μ) Q X :=
  wo_bind (wo_mono h (fun w m ⟨fs, e, z⟩ => by rw [e]; simp only [if_true]; exact wo_nx z) fun _ _ _ z => z)
theorem wo_callO {C : Addr} (h : WO (F γ μ) (fun w m => IsC C w fun _ => WO (A γ m) (fun ws m => WO (FF' (w :: ws) m) Q X) X) X) : WO (fCallO C FF' F A γ μ) Q X :=
  wo_bind (wo_mono h (fun w m ⟨fs, e, z⟩ => by
    subst e
    have t : ∀ m, isC C m (.v (.ins C fs)) = true := fun m => decide_eq_true rfl
    simp only [t, if_true]
    exact wo_bind z) fun _ _ _ z => z)
/-- a thing made and let go as a value -/
theorem wo_mk {C : Addr} (h : WO (A γ μ) (fun ws m => LeM μ m (WO ((makeP C FF' ws m).bind (frzP m.length)) Q X)) X) : WO (fFrz (fMake C FF' A) γ μ) Q X := by
  have e : fFrz (fMake C FF' A) γ μ = (A γ μ).bind fun ws m => (makeP C FF' ws m).bind (frzP μ.length) := by
    rw [fFrz_eq, fMake_eq]
    cases A γ μ <;> rfl
  rw [e]
  refine wo_bind (wo_mono h (fun ws m ⟨l, z⟩ => ?_) fun _ _ _ z => z)
  unfold makeP at z ⊢
  cases o : FF' (W.loc m.length :: ws) (m ++ [PC.ins C []]) with
  | bad => rw [o] at z; exact z
  | exc C fs m2 => rw [o] at z; exact z
  | ok w2 m2 =>
    rw [o] at z
    cases w2 with
    | loc j => exact z
    | v p =>
      cases p with
      | non =>
        show WO (frzP μ.length (.loc m.length) m2) Q X
        have z' : WO (frzP m.length (.loc m.length) m2) Q X := z
        unfold frzP at z' ⊢
        simp only [l, Nat.le_refl, and_true] at z' ⊢
        exact z'
      | _ => exact z
theorem wo_frz (h : WO (F γ μ) (fun w m => WO (frzP μ.length w m) Q X) X) : WO (fFrz F γ μ) Q X := wo_bind h
theorem wo_frzv {n : Nat} {p : P} (h : Q (.v p) m) : WO (frzP n (.v p) m) Q X := h
theorem wo_drop (h : WO (F γ μ) (fun w m => IsV w fun p => Q (.v p) (m.take μ.length)) X) : WO (fDrop F γ μ) Q X := wo_bind (wo_mono h (fun w m ⟨p, e, z⟩ => by subst e; exact z) fun _ _ _ z => z)
theorem wo_own2 {C : Addr} {fs gs : List (Str × P)} (h : WO (FF' [.v (.ins C fs), .v (.ins C gs)] m) Q X0) : WO (fOwn2 C FF' (.v (.ins C fs)) (.v (.ins C gs)) m) Q X := by
  have t : ∀ fs, isC C m (.v (.ins C fs)) = true := fun fs => decide_eq_true rfl
  unfold fOwn2
  simp only [t, and_self, if_true]
  exact wo_nx h
theorem wo_ownI {C : Addr} {fs : List (Str × P)} {i : Int} (h : WO (FF' [.v (.ins C fs), .v (.int i)] m) Q X0) : WO (fOwnI C FF' (.v (.ins C fs)) (.v (.int i)) m) Q X := by
  have t : ∀ fs, isC C m (.v (.ins C fs)) = true := fun fs => decide_eq_true rfl
  unfold fOwnI
  simp only [t, and_self, if_true]
  exact wo_nx h
theorem wo_iown {C : Addr} {fs : List (Str × P)} {i : Int} (h : WO (FF' [.v (.ins C fs), .v (.int i)] m) Q X0) : WO (fIOwn C FF' (.v (.int i)) (.v (.ins C fs)) m) Q X := by
  have t : ∀ fs, isC C m (.v (.ins C fs)) = true := fun fs => decide_eq_true rfl
  unfold fIOwn
  simp only [t, and_self, if_true]
  exact wo_nx h
theorem wo_ixO {C : Addr} {fs : List (Str × P)} {w : W} (h : WO (FF' [.v (.ins C fs), w] m) Q X0) : WO (fIxO C FF' (.v (.ins C fs)) w m) Q X := by
  have t : ∀ fs, isC C m (.v (.ins C fs)) = true := fun fs => decide_eq_true rfl
  unfold fIxO
  simp only [t, if_true]
  exact wo_nx h
theorem wo_eqO {C : Addr} {cs : List Addr} {fs gs : List (Str × P)} (hc : C ∈ cs) (h : WO (FF' [.v (.ins C fs), .v (.ins C gs)] m) Q X0) : WO (fEqO C cs FF' (.v (.ins C fs)) (.v (.ins C gs)) m) Q X := by
  have t : ∀ fs, isC C m (.v (.ins C fs)) = true := fun fs => decide_eq_true rfl
  have t2 : tyP cs m (.v (.ins C gs)) = some (.ref C) := if_pos hc
  have t3 : nfP cs (.ref C) = true := decide_eq_true hc
  unfold fEqO
  simp only [t, t2, t3, if_true]
  exact wo_nx h
theorem wo_neO {C : Addr} {cs : List Addr} {fs gs : List (Str × P)} (hc : C ∈ cs) (h : WO (FF' [.v (.ins C fs), .v (.ins C gs)] m) (fun w m => IsB w fun b => Q (.v (.bl (!b))) m) X0) : WO (fNeO C cs FF' (.v (.ins C fs)) (.v (.ins C gs)) m) Q X :=
  wo_bind (wo_mono (wo_eqO (X := X0) hc h) (fun w m ⟨b, e, z⟩ => by subst e; exact z) fun _ _ _ z => z.elim)
theorem wo_inO {C : Addr} {fs : List (Str × P)} {w : W} {neg : Bool} (h : WO (FF' [.v (.ins C fs), w] m) (fun w m => IsB w fun b => Q (.v (.bl (if neg then !b else b))) m) X0) : WO (fInO C neg FF' w (.v (.ins C fs)) m) Q X := by
  have t : ∀ fs, isC C m (.v (.ins C fs)) = true := fun fs => decide_eq_true rfl
  unfold fInO
  simp only [t, if_true]
  exact wo_bind (wo_nx (wo_mono h (fun w m ⟨b, e, z⟩ => by subst e; exact z) fun _ _ _ z => z))
theorem wo_bm {Ty : String} {f : W → List W → Μ → O W} (h : WO (F γ μ) (fun w m => isTy Ty m w = true ∧ WO (A γ m) (fun ws m => WO (f w ws m) Q X) X) X) : WO (fBM Ty f F A γ μ) Q X := wo_bind (wo_mono h (fun w m ⟨e, z⟩ => by simp only [e, if_true]; exact wo_bind z) fun _ _ _ z => z)
theorem wo_sl {f : W → Option Int → Option Int → Μ → O W} {L Hi : OF} (h : WO (F γ μ) (fun w m => WO (L γ m) (fun lo m => WO (Hi γ m) (fun hi m => WO (f w lo hi m) Q X) X) X) X) : WO (fSl f F L Hi γ μ) Q X := wo_bind (wo_mono h (fun w m h => wo_bind (wo_mono h (fun lo m h => wo_bind h) fun _ _ _ z => z)) fun _ _ _ z => z)
theorem wq_none {QO : Option Int → Μ → Prop} (h : QO none μ) : WO (oNone γ μ) QO X := h
theorem wq_some {QO : Option Int → Μ → Prop} (h : WO (F γ μ) (fun w m => IsI w fun i => QO (some i) m) X) : WO (oSome F γ μ) QO X := wo_bind (wo_mono h (fun w m ⟨b, e, z⟩ => by subst e; exact z) fun _ _ _ z => z)
theorem wo_lenO {C : Addr} {fs : List (Str × P)} (h : WO (FF' [.v (.ins C fs)] m) (fun w m => IsI w fun n => (0 ≤ n ∧ n < 2 ^ 61) ∧ Q (.v (.int n)) m) X0) : WO (fLenO C FF' [.v (.ins C fs)] m) Q X := by
  have t : isC C m (.v (.ins C fs)) = true := decide_eq_true rfl
  unfold fLenO
  simp only [t, if_true]
  exact wo_bind (wo_nx (wo_mono h (fun w m ⟨n, e, l, z⟩ => by subst e; simp only [l, and_self, if_true]; exact z) fun _ _ _ z => z))
theorem wo_isi {cs : List Addr} {p : P} {a b : String} {c : Bool} (ha : tyN p = some a) (hb : b ∈ tyMs) (e : kitN a b = c) (h : Q (.v (.bl c)) m) : WO (fIsi cs [.v p, .v (.ty b)] m) Q X := by
  obtain ⟨t1, t2⟩ := tyN_ok (cs := cs) (m := m) ha
  unfold fIsi
  simp only [t1, clsP, kitP, kit_eq t2 hb, e]
  exact h
theorem wo_isiO {cs : List Addr} {C D : Addr} {fs : List (Str × P)} (hC : C ∈ cs) (hD : D ∈ cs) (h : Q (.v (.bl (decide (C = D)))) m) : WO (fIsi cs [.v (.ins C fs), .v (.ref D)] m) Q X := by
  unfold fIsi
  simp only [tyP, clsP, kitP, hC, hD, and_self, if_true]
  exact h
theorem wo_isiO1 {cs : List Addr} {C : Addr} {fs : List (Str × P)} (hC : C ∈ cs) (h : Q (.v (.bl true)) m) : WO (fIsi cs [.v (.ins C fs), .v (.ref C)] m) Q X := wo_isiO hC hC (by rw [decide_eq_true rfl]; exact h)
theorem wo_isiOb {cs : List Addr} {C : Addr} {b : String} {fs : List (Str × P)} (hC : C ∈ cs) (hb : b ∈ ["int", "str", "bool", "list", "tuple", "dict"]) (h : Q (.v (.bl false)) m) : WO (fIsi cs [.v (.ins C fs), .v (.ty b)] m) Q X := by
  unfold fIsi
  simp only [tyP, clsP, kitP, hC, hb, and_self, if_true]
  exact h
theorem wo_isibO {cs : List Addr} {C : Addr} {p : P} {a : String} (ha : tyN p = some a) (hC : C ∈ cs) (h : Q (.v (.bl false)) m) : WO (fIsi cs [.v p, .v (.ref C)] m) Q X := by
  obtain ⟨t1, t2⟩ := tyN_ok (cs := cs) (m := m) ha
  unfold fIsi
  simp only [t1, clsP, kitP, hC, show a ∈ ["NoneType", "bool", "int", "str", "tuple", "list", "dict"] from t2, and_self, if_true]
  exact h
theorem wo_join (h : WO (F1 γ μ) (fun x m => ∃ a, x = .v (.str a) ∧ WO (F2 γ m) (fun y m => ∃ zs, (seqP m y).bind strsP = some zs ∧ (zs.map (·.length)).sum + zs.length * a.length ≤ 16777216 ∧ Q (.v (.str (Txt.join a zs))) m) X) X) : WO (fJoin F1 F2 γ μ) Q X :=
  wo_bind (wo_mono h (fun w m ⟨a, e, h⟩ => by
    subst e
    exact wo_bind (wo_mono h (fun y m ⟨zs, e, l, z⟩ => by rw [e]; simp only [l, if_true]; exact z) fun _ _ _ z => z)) fun _ _ _ z => z)
theorem wo_get2 {F E Z : EF} (h : WO (F γ μ) (fun w m => (rdD m w).isSome = true ∧ WO (E γ m) (fun y m => WO (Z γ m) (fun z m => WO (mDGet2 w [y, z] m) Q X) X) X) X) : WO (fGet2 F E Z γ μ) Q X :=
  wo_bind (wo_mono h (fun w m ⟨e, h⟩ => by simp only [e, if_true]; exact wo_bind (wo_mono h (fun _ _ z => wo_bind z) fun _ _ _ z => z)) fun _ _ _ z => z)
/-! walks -/
variable {QI : List P → Μ → Prop} {I : IF}
theorem wi_any (h : WO (F γ μ) (fun w m => WO (iAnyW w m) QI X) X) : WO (iAny F γ μ) QI X := wo_bind h
theorem wi_vals (h : WO (F γ μ) (fun w m => WO (itV w m) QI X) X) : WO (iValsP F γ μ) QI X := wo_bind h
theorem wi_items (h : WO (F γ μ) (fun w m => WO (itI w m) QI X) X) : WO (iItemsP F γ μ) QI X := wo_bind h
theorem wi_rg1 (h : WO (A γ μ) (fun ws m => IsRg ws fun j => QI (rngP 0 j) m) X) : WO (iRg1 A γ μ) QI X := wo_bind (wo_mono h (fun ws m ⟨j, e, l, z⟩ => by
  subst e
  simp only
  rw [if_pos (by omega)]
  rw [Int.toNat_natCast]
  exact z) fun _ _ _ z => z)
/-! comprehensions -/
theorem wo_lc {t : GF} {T : TF} {E : EF} {vs : List Nat} (h : WO (I γ μ) (fun ps m => WO (lcGo t T E (wipeG γ vs) ps m) (fun qs m => Q (.v (.lst qs)) m) X) X) : WO (fLc I t T E vs γ μ) Q X := wo_bind (wo_mono h (fun _ _ z => wo_bind z) fun _ _ _ z => z)
theorem wo_dc {t : GF} {T : TF} {Ek Ev : EF} {vs : List Nat} (h : WO (I γ μ) (fun ps m => WO (dcGo t T Ek Ev (wipeG γ vs) ps [] m) (fun qs m => Q (.v (.dct qs)) m) X) X) : WO (fDc I t T Ek Ev vs γ μ) Q X := wo_bind (wo_mono h (fun _ _ z => wo_bind z) fun _ _ _ z => z)
theorem wl_go {t : GF} {T : TF} {E : EF} (Inv : Nat → List P → Μ → Prop) : ∀ {ps : List P} {n : Nat} {acc : List P} {m : Μ}, Inv n acc m → (∀ j p acc m, ps[j]? = some p → Inv (n + j) acc m → ∃ γ1, t p γ = some γ1 ∧ WO (T γ1 m) (fun b m => Bi b (WO (E γ1 m) (fun w m => IsV w fun q => Inv (n + j + 1) (acc ++ [q]) m) X0) (Inv (n + j + 1) acc m)) X0) →
    WO (lcGo t T E γ ps m) (fun qs m => Inv (n + ps.length) (acc ++ qs) m) X
  | [], n, acc, m, i, _ => by
    show Inv _ (acc ++ []) m
    rw [List.append_nil]
    exact i
  | p :: r, n, acc, m, i, h => by
    obtain ⟨γ1, e, w1⟩ := h 0 p acc m rfl i
    rw [lcGo, e]
    have ih := fun acc m i => wl_go (t := t) (T := T) (E := E) Inv (ps := r) (n := n + 1) (acc := acc) (m := m) i fun j p acc m hp hi => by
      have := h (j + 1) p acc m hp (by rw [show n + (j + 1) = n + 1 + j by omega]; exact hi)
      rw [show n + (j + 1) + 1 = n + 1 + j + 1 by omega] at this
      exact this
    refine wo_bind (wo_nx (wo_mono w1 (fun b m2 z => ?_) fun _ _ _ z => z))
    have len : n + (p :: r).length = n + 1 + r.length := by rw [List.length_cons]; omega
    cases b with
    | true =>
      simp only [if_true]
      refine wo_bind (wo_nx (wo_mono (z.1 rfl) (fun w m3 ⟨q, eq, z2⟩ => ?_) fun _ _ _ z => z))
      subst eq
      refine wo_bind (wo_mono (ih (acc ++ [q]) m3 z2) (fun qs m4 z3 => ?_) fun _ _ _ z => z)
      show Inv _ (acc ++ q :: qs) m4
      rw [len]
      simpa using z3
    | false =>
      simp only [Bool.false_eq_true, if_false]
      refine wo_mono (ih acc m2 (z.2 rfl)) (fun qs m4 z3 => ?_) fun _ _ _ z => z
      rw [len]
      exact z3
/-- each thing gives one, a state goes along -/
theorem wl_map {t : GF} {E : EF} {QL : List P → Μ → Prop} (S : Μ → Prop) (R : P → P → Prop) {ps : List P} {m : Μ} (s : S m) (h : ∀ p ∈ ps, ∀ m, S m → ∃ γ1, t p γ = some γ1 ∧ WO (E γ1 m) (fun w m => IsV w fun q => R p q ∧ S m) X0)
    (k : ∀ qs m, Paired R ps qs → S m → QL qs m) : WO (lcGo t fYes E γ ps m) QL X := by
  have go : ∀ {ps : List P} {m : Μ}, S m → (∀ p ∈ ps, ∀ m, S m → ∃ γ1, t p γ = some γ1 ∧ WO (E γ1 m) (fun w m => IsV w fun q => R p q ∧ S m) X0) → ∃ qs m', lcGo t fYes E γ ps m = .ok qs m' ∧ S m' ∧ Paired R ps qs := by
    intro ps m s h
    refine lc_run S R rfl s fun p hp m s => ?_
    obtain ⟨γ1, e, w⟩ := h p hp m s
    obtain ⟨w, m', e2, q, rfl, r, s'⟩ := wo_out w
    exact ⟨γ1, q, m', e, e2, s', r⟩
  obtain ⟨qs, m', e, s', pr⟩ := go s h
  rw [e]
  exact k qs m' pr s'
/-- each thing gives one, nothing changes -/
theorem wl_all {α : Type} {t : GF} {E : EF} {QL : List P → Μ → Prop} (g : α → P) (e : α → P) {l : List α} {m : Μ} (h : ∀ a ∈ l, ∃ γ1, t (g a) γ = some γ1 ∧ WO (E γ1 m) (fun w m' => w = .v (e a) ∧ m' = m) X0) (k : QL (l.map e) m) : WO (lcGo t fYes E γ (l.map g) m) QL X := by
  rw [lc_all g e (l := l) fun a ha => ?_]
  · exact k
  · obtain ⟨γ1, e1, w⟩ := h a ha
    obtain ⟨w, m', e2, rfl, rfl⟩ := wo_out w
    exact ⟨γ1, e1, e2⟩
theorem wl_on {α : Type} {t : GF} {T : TF} {E : EF} {QL : List P → Μ → Prop} (g : α → P) (c : α → Bool) (e : α → P) {l : List α} {m : Μ} (h : ∀ a ∈ l, ∃ γ1, t (g a) γ = some γ1 ∧ WO (T γ1 m) (fun b m' => b = c a ∧ m' = m) X0 ∧ (c a = true → WO (E γ1 m) (fun w m' => w = .v (e a) ∧ m' = m) X0)) (k : QL ((l.filter c).map e) m) : WO (lcGo t T E γ (l.map g) m) QL X := by
  rw [lc_on g c e (l := l) fun a ha => ?_]
  · exact k
  · obtain ⟨γ1, e1, w, w2⟩ := h a ha
    obtain ⟨b, m', e2, rfl, rfl⟩ := wo_out w
    refine ⟨γ1, e1, e2, fun z => ?_⟩
    obtain ⟨w, m', e2, rfl, rfl⟩ := wo_out (w2 z)
    exact e2
/-- the same for a dict by unlike keys -/
theorem wd_all {α : Type} {t : GF} {Ek Ev : EF} {QL : List (Key × P) → Μ → Prop} (g : α → P) (kk : α → Key) (v : α → P) {l : List α} {m : Μ} (nd : (l.map kk).Nodup) (h : ∀ a ∈ l, ∃ γ1 kp, t (g a) γ = some γ1 ∧ keyP kp = some (kk a) ∧ WO (Ek γ1 m) (fun w m' => w = .v kp ∧ m' = m) X0 ∧ WO (Ev γ1 m) (fun w m' => w = .v (v a) ∧ m' = m) X0) (k : QL (l.map fun a => (kk a, v a)) m) : WO (dcGo t fYes Ek Ev γ (l.map g) [] m) QL X := by
  rw [dc_all g kk v (l := l) nd fun a ha => ?_]
  · exact k
  · obtain ⟨γ1, kp, e1, ek, w, w2⟩ := h a ha
    obtain ⟨_, m', e2, rfl, rfl⟩ := wo_out w
    obtain ⟨_, m2, e3, rfl, rfl⟩ := wo_out w2
    exact ⟨γ1, kp, e1, e2, ek, e3⟩
theorem wo_lock {i : Nat} {p : P} (e : γ[i]? = some (some (.v p))) (h : WO (F γ μ) Q X) : WO (fLock i F γ μ) Q X := by
  unfold fLock
  rw [e]
  exact h
theorem wo_lockL {i j : Nat} {ps : List P} (e : γ[i]? = some (some (.loc j))) (e2 : μ[j]? = some (.lst ps)) (h : WO (F γ (μ.set j (.lstL ps))) (fun w m => m[j]? = some (.lstL ps) ∧ Q w (m.set j (.lst ps))) X) : WO (fLock i F γ μ) Q X := by
  unfold fLock
  rw [e]
  simp only [e2, Option.bind_some, lockC, Option.map_some]
  exact wo_bind (wo_mono h (fun w m z => by rw [if_pos z.1]; exact z.2) fun _ _ _ z => z)
theorem wo_lockD {i j : Nat} {ps : List (Key × P)} (e : γ[i]? = some (some (.loc j))) (e2 : μ[j]? = some (.dct ps)) (h : WO (F γ (μ.set j (.dctL ps))) (fun w m => m[j]? = some (.dctL ps) ∧ Q w (m.set j (.dct ps))) X) : WO (fLock i F γ μ) Q X := by
  unfold fLock
  rw [e]
  simp only [e2, Option.bind_some, lockC, Option.map_some]
  exact wo_bind (wo_mono h (fun w m z => by rw [if_pos z.1]; exact z.2) fun _ _ _ z => z)
end
/-! ### statements -/
section
variable {N B C N' : Γ → Μ → Prop} {R : W → Μ → Prop} {X : XG} {γ γ' : Γ} {μ m : Μ} {F Fd Fk Fv Fl Fi Fo : EF} {A : AF} {T : TF} {S S2 : SF} {I : IF} {t : GF} {o : OS}
theorem ws_mono {N' R' B' C'} {X' : XG} (h : WS o N R B C X) (hn : ∀ g m, N g m → N' g m) (hr : ∀ w m, R w m → R' w m) (hb : ∀ g m, B g m → B' g m) (hc : ∀ g m, C g m → C' g m) (hx : ∀ K fs g m, X K fs g m → X' K fs g m) : WS o N' R' B' C' X' := by
  cases o with
  | nx g m => exact hn _ _ h
  | ret w m => exact hr _ _ h
  | bk g m => exact hb _ _ h
  | ct g m => exact hc _ _ h
  | exc K fs g m => exact hx _ _ _ _ h
  | bad => exact h
theorem ws_mid (N' : Γ → Μ → Prop) (h : WS o N' R B C X) (hn : ∀ g m, N' g m → N g m) : WS o N R B C X := ws_mono h hn (fun _ _ z => z) (fun _ _ z => z) (fun _ _ z => z) fun _ _ _ _ z => z
theorem ws_nx (h : N γ m) : WS (.nx γ m) N R B C X := h
theorem ws_next (h : N γ μ) : WS (sNext γ μ) N R B C X := h
theorem ws_seq (h : WS (S γ μ) (fun γ m => WS (S2 γ m) N R B C X) R B C X) : WS (sSeq S S2 γ μ) N R B C X := by
  unfold sSeq
  cases o : S γ μ <;> rw [o] at h <;> exact h
theorem ws_drop (h : WO (F γ μ) (fun _ m => N γ m) fun C fs m => X C fs γ m) : WS (sDrop F γ μ) N R B C X := wo_s h
theorem ws_ret (h : WO (F γ μ) R fun C fs m => X C fs γ m) : WS (sRet F γ μ) N R B C X := wo_s h
theorem ws_if (h : WO (T γ μ) (fun b m => Bi b (WS (S γ m) N R B C X) (WS (S2 γ m) N R B C X)) fun C fs m => X C fs γ m) : WS (sIfS T S S2 γ μ) N R B C X := wo_s (wo_mono h (fun b m z => by cases b; exact z.2 rfl; exact z.1 rfl) fun _ _ _ z => z)
theorem ws_set {i : Nat} (h : WO (F γ μ) (fun w m => St1 (γ.set i (some w)) fun γ' => N γ' m) fun C fs m => X C fs γ m) : WS (sSet i F γ μ) N R B C X := wo_s (wo_mono h (fun w m ⟨γ', e, z⟩ => by subst e; exact z) fun _ _ _ z => z)
theorem ws_par {i j : Nat} (h : WO (A γ μ) (fun ws m => Is2 ws fun v w => St1 ((γ.set i (some v)).set j (some w)) fun γ' => N γ' m) fun C fs m => X C fs γ m) : WS (sPar i j A γ μ) N R B C X := wo_s (wo_mono h (fun ws m ⟨v, w, e, γ', e2, z⟩ => by subst e; subst e2; exact z) fun _ _ _ z => z)
theorem ws_par3 {i j l : Nat} (h : WO (A γ μ) (fun ws m => Is3 ws fun u v w => St1 (((γ.set i (some u)).set j (some v)).set l (some w)) fun γ' => N γ' m) fun C fs m => X C fs γ m) : WS (sPar3 i j l A γ μ) N R B C X := wo_s (wo_mono h (fun ws m ⟨u, v, w, e, γ', e2, z⟩ => by subst e; subst e2; exact z) fun _ _ _ z => z)
theorem ws_asg (h : WO (F γ μ) (fun w m => IsV w fun p => ∃ γ1, t p γ = some γ1 ∧ St1 γ1 fun γ' => N γ' m) fun C fs m => X C fs γ m) : WS (sAsgP F t γ μ) N R B C X := wo_s (wo_mono h (fun w m ⟨p, e, γ1, e2, γ', e3, z⟩ => by subst e; subst e3; simp only [e2]; exact z) fun _ _ _ z => z)
theorem ws_lput (h : WO (Fv γ μ) (fun wv m => IsV wv fun p => WO (Fl γ m) (fun wl m => WO (Fi γ m) (fun wi m => IsI wi fun i => ∃ j ps n, wL m wl = some (j, ps) ∧ ixN ps.length i = some n ∧ N γ (m.set j (.lst (ps.set n p)))) fun C fs m => X C fs γ m) fun C fs m => X C fs γ m) fun C fs m => X C fs γ m) : WS (sLPutP Fv Fl Fi γ μ) N R B C X :=
  wo_s (wo_mono h (fun wv m ⟨p, e, h⟩ => wo_s (wo_mono h (fun wd m h => wo_s (wo_mono h (fun wk m ⟨i, e2, j, ps, n, e3, e4, z⟩ => by
    subst e
    subst e2
    rw [e3]
    simp only [e4]
    exact z) fun _ _ _ z => z)) fun _ _ _ z => z)) fun _ _ _ z => z)
theorem ws_fixL {i j : Nat} {c : PC} {p : P} (e : γ[i]? = some (some (.loc j))) (e2 : μ[j]? = some c) (e3 : c.p = some p) (h : WS (S (γ.set i (some (.v p))) (μ.set j .dead)) N R B C X) : WS (sFix i S γ μ) N R B C X := by
  unfold sFix
  rw [e]
  simp only [e2, Option.bind_some, e3]
  exact h
theorem ws_for (h : WO (I γ μ) (fun ps m => WS (forGo t S ps γ m) N R B C X) fun C fs m => X C fs γ m) : WS (sFor I t S γ μ) N R B C X := wo_s h
theorem wf_go (Inv : Nat → Γ → Μ → Prop) : ∀ {ps : List P} {n : Nat} {γ : Γ} {m : Μ}, Inv n γ m → (∀ j p γ m, ps[j]? = some p → Inv (n + j) γ m → ∃ γ1, t p γ = some γ1 ∧ WS (S γ1 m) (Inv (n + j + 1)) R N (Inv (n + j + 1)) X) → (∀ γ m, Inv (n + ps.length) γ m → N γ m) → WS (forGo t S ps γ m) N R B C X
  | [], n, γ, m, i, _, k => k γ m i
  | p :: r, n, γ, m, i, h, k => by
    obtain ⟨γ1, e, w1⟩ := h 0 p γ m rfl i
    rw [forGo, e]
    have ih := fun γ m i => wf_go Inv (ps := r) (n := n + 1) (γ := γ) (m := m) i (fun j p γ m hp hi => by
      have := h (j + 1) p γ m hp (by rw [show n + (j + 1) = n + 1 + j by omega]; exact hi)
      rw [show n + (j + 1) + 1 = n + 1 + j + 1 by omega] at this
      exact this) (fun γ m z => k γ m (by rw [show n + (p :: r).length = n + 1 + r.length by rw [List.length_cons]; omega]; exact z))
    simp only
    cases o : S γ1 m with
    | nx g m2 => rw [o] at w1; exact ih g m2 w1
    | ct g m2 => rw [o] at w1; exact ih g m2 w1
    | bk g m2 => rw [o] at w1; exact w1
    | ret w m2 => rw [o] at w1; exact w1
    | exc K fs g m2 => rw [o] at w1; exact w1
    | bad => rw [o] at w1; exact w1
theorem ws_lock {i : Nat} {p : P} (e : γ[i]? = some (some (.v p))) (h : WS (S γ μ) N R B C X) : WS (sLock i S γ μ) N R B C X := by
  unfold sLock
  rw [e]
  exact h
theorem ws_sub {i : Nat} (h : WO (Fv γ μ) (fun wv m => ∃ p q, wv = .v (.tup [p, q]) ∧ WO (Fl γ m) (fun wl m => WO (Fi γ m) (fun wi m => IsI wi fun z => ∃ j ps n, wL m wl = some (j, ps) ∧ ixN ps.length z = some n ∧ St1 (γ.set i (some (.v q))) fun γ' => N γ' (m.set j (.lst (ps.set n p)))) fun C fs m => X C fs γ m) fun C fs m => X C fs γ m) fun C fs m => X C fs γ m) : WS (sSubName i Fv Fl Fi γ μ) N R B C X :=
  wo_s (wo_mono h (fun wv m ⟨p, q, e, h⟩ => by
    subst e
    exact wo_s (wo_mono h (fun wd m h => wo_s (wo_mono h (fun wk m ⟨z, e2, j, ps, n, e3, e4, γ', e5, y⟩ => by
      subst e2
      subst e5
      rw [e3]
      simp only [e4]
      exact y) fun _ _ _ z => z)) fun _ _ _ z => z)) fun _ _ _ z => z)
theorem ws_fld {K : Addr} {f : Str} (h : WO (Fv γ μ) (fun wv m => IsV wv fun p => WO (Fo γ m) (fun wo m => ∃ j ps, wI m wo = some (j, K, ps) ∧ ps.length < 900 ∧ N γ (m.set j (.ins K (putFP f p ps)))) fun C fs m => X C fs γ m) fun C fs m => X C fs γ m) : WS (sFldP K f Fo Fv γ μ) N R B C X :=
  wo_s (wo_mono h (fun wv m ⟨p, e, h⟩ => by
    subst e
    exact wo_s (wo_mono h (fun wd m ⟨j, ps, e2, l, z⟩ => by
      rw [e2]
      simp only [l, and_self, if_true]
      exact z) fun _ _ _ z => z)) fun _ _ _ z => z)
end
/-! ### defs -/
def LeW (n : Nat) (Q : W → Μ → Prop) (w : W) (m : Μ) : Prop := match w with
  | .v p => Q (.v p) (m.take n)
  | .loc j => if j < n then Q (.loc j) (m.take n) else ∃ c, m[j]? = some c ∧ liveC c = true ∧ Q (.loc n) (m.take n ++ [c])
theorem lew_v {n : Nat} {Q : W → Μ → Prop} {p : P} {m : Μ} (h : Q (.v p) (m.take n)) : LeW n Q (.v p) m := h
theorem lew_new {n j : Nat} {Q : W → Μ → Prop} {m : Μ} {c : PC} (hj : n ≤ j) (e : m[j]? = some c) (l : liveC c = true) (h : Q (.loc n) (m.take n ++ [c])) : LeW n Q (.loc j) m := by
  show (if j < n then Q (W.loc j) (m.take n) else ∃ c, m[j]? = some c ∧ liveC c = true ∧ Q (W.loc n) (m.take n ++ [c]))
  rw [if_neg (by omega)]
  exact ⟨c, e, l, h⟩
theorem wo_def {n N : Nat} {S : SF} {ws : List W} {μ : Μ} {γ : Γ} {Q : W → Μ → Prop} {X : XP} (hl : ws.length = n) (e : ws.map some ++ List.replicate (N - n) none = γ)
    (h : WS (S γ μ) (fun _ m => Q (.v .non) (m.take μ.length)) (LeW μ.length Q) (fun _ _ => False) (fun _ _ => False) (fun C fs _ m => X C fs (m.take μ.length))) : WO (fDef n N S ws μ) Q X := by
  subst e
  unfold fDef
  rw [if_pos hl]
  cases o : S (ws.map some ++ List.replicate (N - n) none) μ with
  | nx g m => rw [o] at h; exact h
  | exc K fs g m => rw [o] at h; exact h
  | bk g m => rw [o] at h; exact h.elim
  | ct g m => rw [o] at h; exact h.elim
  | bad => rw [o] at h; exact h.elim
  | ret w m =>
    rw [o] at h
    cases w with
    | v p => exact h
    | loc j =>
      have h' : if j < μ.length then Q (W.loc j) (m.take μ.length) else ∃ c, m[j]? = some c ∧ liveC c = true ∧ Q (W.loc μ.length) (m.take μ.length ++ [c]) := h
      unfold leave
      by_cases c : j < μ.length
      · rw [if_pos c] at h'
        simp only [c, if_true]
        exact h'
      · rw [if_neg c] at h'
        obtain ⟨d, e, l, z⟩ := h'
        simp only [c, if_false, e, l, if_true]
        exact z
/-! ### the pot: at place 0, r is what lies behind it -/
structure PotOk (a b : Int) : Prop where
  a0 : 0 ≤ a
  b0 : 0 ≤ b
  b1 : b < 2147483648
def pc (a b : Int) : PC := .lst [.int a, .int b]
def Pot (r m : Μ) : Prop := ∃ a b, PotOk a b ∧ m = pc a b :: r
theorem Pot.len {r m : Μ} (h : Pot r m) : m.length = r.length + 1 := by
  obtain ⟨a, b, _, rfl⟩ := h
  rfl
theorem pot_le {r m n : Μ} (h : Pot r m) (g : Pot r n) : m.length ≤ n.length := by rw [h.len, g.len]; exact Nat.le_refl _
theorem Pot.at {r m : Μ} (h : Pot r m) {j : Nat} : m[j + 1]? = r[j]? := by
  obtain ⟨a, b, _, rfl⟩ := h
  rfl
theorem Pot.set {r m : Μ} (h : Pot r m) {j : Nat} {c : PC} : Pot (r.set j c) (m.set (j + 1) c) := by
  obtain ⟨a, b, q, rfl⟩ := h
  exact ⟨a, b, q, rfl⟩
theorem Pot.add {r m : Μ} (h : Pot r m) {c : PC} : Pot (r ++ [c]) (m ++ [c]) := by
  obtain ⟨a, b, q, rfl⟩ := h
  exact ⟨a, b, q, rfl⟩
theorem Pot.cut {r x m n : Μ} (h : Pot r n) (g : Pot (r ++ x) m) : Pot r (m.take n.length) := by
  obtain ⟨a, b, q, rfl⟩ := g
  rw [h.len]
  refine ⟨a, b, q, ?_⟩
  rw [List.take_succ_cons, List.take_left]
theorem Pot.cut0 {r m n : Μ} (h : Pot r n) (g : Pot r m) : Pot r (m.take n.length) := Pot.cut (x := []) h (by rw [List.append_nil]; exact g)
theorem Pot.keep {r m n : Μ} (h : Pot r n) (g : Pot r m) : m.take n.length = m := List.take_of_length_le (by rw [h.len, g.len]; exact Nat.le_refl _)
/-- the spec of a draw -/
def Draws (F : FF) : Prop := ∀ {n : Int} {r m : Μ} {Q : W → Μ → Prop} {X : XP}, Pot r m → 0 < n → n < 1073741824 → (∀ z m', 0 ≤ z → z < n → Pot r m' → Q (.v (.int z)) m') → WO (F [.loc 0, .v (.int n)] m) Q X
theorem eq_wo {α : Type} {o : O α} {a : α} {m : Μ} (h : WO o (fun b n => b = a ∧ n = m) X0) : o = .ok a m := by
  obtain ⟨b, n, e, rfl, rfl⟩ := wo_out h
  exact e
end Pu
set_option Elab.async false
set_option linter.all false
set_option maxRecDepth 100000
set_option maxHeartbeats 4000000
namespace Pu
open L2 PySem PySem.Spec PyProof.Rows E10
open He (ga ma)
/-! ### the program's things, as values -/
abbrev eaP (K : PySem.W.Frag) (t : Tb) : P := .ins (ga K "Earliest") [("_shifts", dctP t)]
abbrev teP (K : PySem.W.Frag) (z : Str) (n : Int) : P := .ins (ga K "Term") [("_moment", .str z), ("_shift", .int n)]
/-- in order -/
def Srt (l : List Str) : Prop := srt l = l
/-- as an Earliest keeps it: in order besides -/
structure So (t : Tb) : Prop extends Ok t where
  so : ord t = t
theorem keys_val {t : Tb} (nd : (keys t).Nodup) : (keys t).map (fun z => (z, val t z)) = t := by
  unfold keys
  rw [List.map_map]
  conv => rhs; rw [← List.map_id t]
  refine List.map_congr_left fun p m => ?_
  show (p.1, val t p.1) = p
  rw [val_at nd (z := p.1) (v := p.2) m]
theorem ord_srt {t : Tb} (nd : (keys t).Nodup) (h : Srt (keys t)) : ord t = t := by
  unfold ord
  rw [show srt (keys t) = keys t from h, keys_val nd]
theorem srt_srt (l : List Str) : Srt (srt l) := srt_id (srt_pw l)
theorem ord_ord {t : Tb} (nd : (keys t).Nodup) : ord (ord t) = ord t := ord_srt (by rw [keys_ord]; exact srt_nodup nd) (by rw [keys_ord]; exact srt_srt _)
theorem Ok.so {t : Tb} (h : Ok t) : So (Pu.ord t) := ⟨h.ord, ord_ord h.nd⟩
theorem So.srt {t : Tb} (h : So t) : Srt (keys t) := by
  have := congrArg keys h.so
  rw [keys_ord] at this
  exact this
theorem ext_tb {a b : Tb} (na : (keys a).Nodup) (nb : (keys b).Nodup) (k : keys a = keys b) (v : ∀ z ∈ keys a, val a z = val b z) : a = b := by
  rw [← keys_val na, ← keys_val nb, ← k]
  exact List.map_congr_left fun z m => by rw [v z m]
theorem same_iff {a b : Tb} (ha : So a) (hb : So b) : same a b = decide (a = b) := by
  by_cases c : a = b
  · subst c
    rw [decide_eq_true rfl, same_refl ha.nd]
  · rw [decide_eq_false c, same_nl ha.nd hb.nd]
    cases e : (nl a b && nl b a) with
    | false => rfl
    | true =>
      exfalso
      rw [Bool.and_eq_true] at e
      have h1 := nl_iff.mp e.1
      have h2 := nl_iff.mp e.2
      have kk : keys a = keys b := by
        have p : (keys a).Perm (keys b) := (List.perm_ext_iff_of_nodup ha.nd hb.nd).mpr fun z => ⟨fun m => (h2 z m).1, fun m => (h1 z m).1⟩
        rw [← ha.srt, ← hb.srt]
        exact srt_eq p
      exact c (ext_tb ha.nd hb.nd kk fun z m => Int.le_antisymm (h1 z (kk ▸ m)).2 (h2 z m).2)
end Pu
set_option Elab.async false
set_option linter.all false
set_option maxRecDepth 100000
set_option maxHeartbeats 4000000
namespace Pu
open L2 PySem PySem.Spec PyProof.Rows E10
open He (ga ma)
section
variable {μ : Μ} {C : Addr} {fs gs : List (Str × P)} {FF' : FF} {ws : List W} {S : SF'} {zs : List Str} {ps : List P} {t : Tb}
theorem wI_last : wI (μ ++ [.ins C fs]) (.loc μ.length) = some (μ.length, C, fs) := by
  unfold wI
  simp
theorem make_eq (h : FF' (.loc μ.length :: ws) (μ ++ [.ins C []]) = .ok (.v .non) (μ ++ [.ins C fs])) : (makeP C FF' ws μ).bind (frzP μ.length) = .ok (.v (.ins C fs)) μ := by
  rw [make_ok h]
  exact frz_l rfl
theorem tup_l : gTupB [.v (.lst ps)] μ = .ok (.v (.tup ps)) μ := rfl
theorem tup_t : gTupB [.v (dctP t)] μ = .ok (.v (.tup ((keys t).map P.str))) μ := by
  show O.or .bad (O.ok (W.v (.tup ((t.map rowP).map fun kp => keyOf kp.1))) μ) = _
  rw [keys_rows]
  rfl
theorem list_t : gList .val [.v (dctP t)] μ = .ok (.v (.lst ((keys t).map P.str))) μ := by
  show O.or .bad (O.ok (W.v (.lst ((t.map rowP).map fun kp => keyOf kp.1))) μ) = _
  rw [keys_rows]
  rfl
theorem dict_tv : gDict .val [.v (dctP t)] μ = .ok (.v (dctP t)) μ := rfl
theorem it_strs (l : zs.length ≤ 100000) : iAnyW (.v (.lst (zs.map P.str))) μ = .ok (zs.map P.str) μ := it_l (by rw [List.length_map]; exact l)
theorem eqx_K {neg : Bool} {x y : W} {b : Bool} (h1 : fEqS neg x y μ = .bad) (h : fEqK neg x y μ = .ok (.v (.bl b)) μ) : gEqX neg x y μ = .ok (.v (.bl b)) μ := by
  cases neg
  · show O.or (fEqS false x y μ) (O.or (fEqK false x y μ) (O.or (fEqD false x y μ) _)) = _
    rw [h1, h, O.or_bad]
    rfl
  · show O.or (fEqS true x y μ) (O.or (fEqK true x y μ) (fEqD true x y μ)) = _
    rw [h1, h, O.or_bad]
    rfl
theorem eq_ts {neg : Bool} {a b : Tb} : gEqX neg (.v (dctP a)) (.v (dctP b)) μ = .ok (.v (.bl (same a b != neg))) μ := by
  refine eqx_K rfl ?_
  show (if (a.map rowP).all (fun x => flatP x.2) = true ∧ (b.map rowP).all (fun x => flatP x.2) = true then O.ok (W.v (.bl (eqK (a.map rowP) (b.map rowP) != neg))) μ else .bad) = _
  rw [if_pos ⟨flat_rows a, flat_rows b⟩]
  rfl
end
/-- a rule as the program keeps it -/
structure Ru (r : Str × Tb) : Prop where
  nm : Nm r.1
  so : So r.2
/-- a book as the program keeps it -/
structure Bo (ns : List Str) (rs : List (Str × Tb)) : Prop where
  n8 : Ns ns
  so : Srt ns
  ru : ∀ r ∈ rs, Ru r
  sub : ∀ r ∈ rs, r.1 ∈ ns ∧ ∀ z ∈ keys r.2, z ∈ ns
  le : rs.length ≤ 100
theorem So.of {t : Tb} {ns : List Str} (h : Ns ns) (s : Srt ns) (k : keys t = ns) : So t := ⟨⟨fun e => h.ne (by rw [← k, e]; rfl), by rw [k]; exact h.nm, by rw [k]; exact h.nd, by rw [← len_keys, k]; exact h.le⟩, ord_srt (by rw [k]; exact h.nd) (by rw [k]; exact s)⟩
theorem So.ns {t : Tb} (h : So t) : Ns (keys t) := ⟨h.nd, h.nm, by rw [len_keys]; exact h.le, keys_ne h.ne⟩
theorem So.shf {t : Tb} (h : So t) (n : Int) : So (Pu.shf t n) := So.of h.ns h.srt (keys_shf t n)
end Pu
set_option Elab.async false
set_option linter.all false
set_option maxRecDepth 100000
set_option maxHeartbeats 4000000
namespace Pu
open L2 PySem PySem.Spec PyProof.Rows E10
open He (ga ma)
section
variable {μ m r : Μ} {j k : Nat} {ps : List P} {v p : P} {c d : PC} {Q : W → Μ → Prop} {X : XP}
theorem rdL_at (h : m[j]? = some (.lst ps)) : rdL m (.loc j) = some ps := by
  unfold rdL
  simp only [h]
theorem wL_at (h : m[j]? = some (.lst ps)) : wL m (.loc j) = some (j, ps) := by
  unfold wL
  simp only [h]
theorem wD_at {ks : List (Key × P)} (h : m[j]? = some (.dct ks)) : wD m (.loc j) = some (j, ks) := by
  unfold wD
  simp only [h]
theorem rdD_at {ks : List (Key × P)} (h : m[j]? = some (.dct ks)) : rdD m (.loc j) = some ks := by
  unfold rdD
  simp only [h]
theorem isTy_at (h : m[j]? = some (.lst ps)) : isTy "list" m (.loc j) = true := by
  show ("list" == "list" && (rdL m (.loc j)).isSome || _) = true
  rw [rdL_at h]
  rfl
theorem isTyD_at {ks : List (Key × P)} (h : m[j]? = some (.dct ks)) : isTy "dict" m (.loc j) = true := by
  show (("dict" == "list" && (rdL m (.loc j)).isSome) || ("dict" == "dict" && (wD m (.loc j)).isSome)) = true
  rw [wD_at h]
  exact Bool.or_true _
theorem ix_loc (h : rdL m (.loc j) = some ps) (h2 : ps[k]? = some v) : gIx (.loc j) (.v (.int k)) m = .ok (.v v) m := by
  show O.or (match rdL m (.loc j), (W.v (.int k)) with
    | some ps, .v (.int i) => (match atI ps i with
      | some p => O.ok (W.v p) m
      | none => .bad)
    | _, _ => .bad) _ = _
  rw [h]
  show O.or (match atI ps (k : Int) with
      | some p => O.ok (W.v p) m
      | none => .bad) _ = _
  rw [atI_nat h2]
  rfl
theorem wo_append (h : m[j]? = some (.lst ps)) (l : ps.length < 100000) (q : Q (.v .non) (m.set j (.lst (ps ++ [p])))) : WO (mAppend (.loc j) [.v p] m) Q X := by
  unfold mAppend
  rw [wL_at h]
  simp only
  rw [if_pos l]
  exact q
theorem Pot.last (h : Pot (r ++ [c]) m) : m[r.length + 1]? = some c := by
  rw [h.at]
  simp
theorem Pot.setl (h : Pot (r ++ [c]) m) : Pot (r ++ [d]) (m.set (r.length + 1) d) := by
  have := h.set (j := r.length) (c := d)
  rw [last_set] at this
  exact this
theorem Pot.cut1 {n : Μ} (h : Pot r n) (g : Pot (r ++ [c]) m) : Pot r (m.take n.length) := Pot.cut h g
end
theorem wl_inv {γ : Γ} {t : GF} {T : TF} {E : EF} {QL : List P → Μ → Prop} {X : XP} (Inv : Nat → List P → Μ → Prop) {ps : List P} {m : Μ} (i : Inv 0 [] m) (h : ∀ j p acc m, ps[j]? = some p → Inv j acc m → ∃ γ1, t p γ = some γ1 ∧ WO (T γ1 m) (fun b m => Bi b (WO (E γ1 m) (fun w m => IsV w fun q => Inv (j + 1) (acc ++ [q]) m) X0) (Inv (j + 1) acc m)) X0)
    (k : ∀ qs m, Inv ps.length qs m → QL qs m) : WO (lcGo t T E γ ps m) QL X := wo_mid (wl_go (n := 0) Inv i fun j p acc m hp hi => by
      have := h j p acc m hp (by rw [Nat.zero_add] at hi; exact hi)
      rw [Nat.zero_add]
      exact this) fun qs m z => k qs m (by rw [Nat.zero_add, List.nil_append] at z; exact z)
theorem wf_inv {γ : Γ} {t : GF} {S : SF} {N B C : Γ → Μ → Prop} {R : W → Μ → Prop} {X : XG} (Inv : Nat → Γ → Μ → Prop) {ps : List P} {m : Μ} (i : Inv 0 γ m) (h : ∀ j p γ m, ps[j]? = some p → Inv j γ m → ∃ γ1, t p γ = some γ1 ∧ WS (S γ1 m) (Inv (j + 1)) R N (Inv (j + 1)) X)
    (k : ∀ γ m, Inv ps.length γ m → N γ m) : WS (forGo t S ps γ m) N R B C X := wf_go (n := 0) Inv i (fun j p γ m hp hi => by
      have := h j p γ m hp (by rw [Nat.zero_add] at hi; exact hi)
      rw [Nat.zero_add]
      exact this) fun γ m z => k γ m (by rw [Nat.zero_add] at z; exact z)
/-- a small number, or near 10 ** 59 -/
theorem each {α β : Type} {g : α → P} {mk : α → β → P} {R : α → β → Prop} : ∀ {l : List α} {qs : List P}, Paired (fun p q => ∀ a, p = g a → ∃ b, q = mk a b ∧ R a b) (l.map g) qs → ∃ xs : List (α × β), xs.map (·.1) = l ∧ qs = xs.map (fun x => mk x.1 x.2) ∧ ∀ x ∈ xs, R x.1 x.2
  | [], _, .nil => ⟨[], rfl, rfl, fun x h => by cases h⟩
  | a :: l, q :: qs, .cons h t => by
    obtain ⟨b, rfl, hb⟩ := h a rfl
    obtain ⟨xs, e1, e2, e3⟩ := each (l := l) t
    exact ⟨(a, b) :: xs, by rw [List.map_cons, e1], by rw [List.map_cons, e2], fun x hx => (List.mem_cons.mp hx).elim (fun e => e ▸ hb) (e3 x)⟩
/-- each thing gives one, a state goes along: by a list of things -/
theorem wl_each {γ : Γ} {t : GF} {E : EF} {QL : List P → Μ → Prop} {X : XP} {α β : Type} (S : Μ → Prop) (g : α → P) (mk : α → β → P) (R : α → β → Prop) {l : List α} {m : Μ} (inj : ∀ a b, g a = g b → a = b) (s : S m)
    (h : ∀ a ∈ l, ∀ m, S m → ∃ γ1, t (g a) γ = some γ1 ∧ WO (E γ1 m) (fun w m => ∃ b, w = .v (mk a b) ∧ R a b ∧ S m) X0)
    (k : ∀ (xs : List (α × β)) m, xs.map (·.1) = l → (∀ x ∈ xs, R x.1 x.2) → S m → QL (xs.map fun x => mk x.1 x.2) m) : WO (lcGo t fYes E γ (l.map g) m) QL X := by
  refine wl_map S (fun p q => ∀ a, p = g a → ∃ b, q = mk a b ∧ R a b) s (fun p hp m hm => ?_) fun qs m pr hm => ?_
  · obtain ⟨a, ha, rfl⟩ := List.mem_map.mp hp
    obtain ⟨γ1, e, w⟩ := h a ha m hm
    refine ⟨γ1, e, wo_mono w (fun w m ⟨b, e1, e2, e3⟩ => ⟨_, e1, fun a' ea => ?_, e3⟩) fun _ _ _ z => z⟩
    obtain rfl := inj _ _ ea
    exact ⟨b, rfl, e2⟩
  · obtain ⟨xs, e1, rfl, e3⟩ := each pr
    exact k xs m e1 e3 hm
/-! rows put -/
theorem val_put {t : Tb} (nd : (keys t).Nodup) (z : Str) (v : Int) (y : Str) : val (putT t z v) y = if y = z then v else val t y := by
  by_cases my : y ∈ keys (putT t z v)
  · obtain ⟨p, hp, e⟩ := List.mem_map.mp my
    have nd2 := put_nd nd z v
    have hv : val (putT t z v) y = p.2 := val_at nd2 (by rw [← e]; exact hp)
    rw [hv]
    unfold putT at hp
    by_cases c : z ∈ keys t
    · rw [if_pos c] at hp
      obtain ⟨q, hq, e2⟩ := List.mem_map.mp hp
      by_cases d : q.1 = z
      · rw [if_pos d] at e2
        rw [← e, ← e2, if_pos d]
      · rw [if_neg d] at e2
        rw [← e, ← e2, if_neg d]
        exact (val_at nd (z := q.1) (v := q.2) hq).symm
    · rw [if_neg c] at hp
      rcases List.mem_append.mp hp with hq | hq
      · have : p.1 ≠ z := fun e3 => c (e3 ▸ List.mem_map.mpr ⟨p, hq, rfl⟩)
        rw [← e, if_neg this]
        exact (val_at nd (z := p.1) (v := p.2) hq).symm
      · rw [List.mem_singleton.mp hq] at e ⊢
        rw [← e, if_pos rfl]
  · rw [val_none my, if_neg (fun e => my (by
      rw [e, put_keys]
      split
      · assumption
      · simp)), val_none (fun m => my (by
      rw [put_keys]
      split
      · exact m
      · exact List.mem_append_left _ m))]
theorem mem_put {t : Tb} {z y : Str} {v : Int} : y ∈ keys (putT t z v) ↔ y = z ∨ y ∈ keys t := by
  rw [put_keys]
  split
  · rename_i c
    exact ⟨.inr, fun h => h.elim (fun e => e ▸ c) id⟩
  · rw [List.mem_append, List.mem_singleton]
    exact ⟨fun h => h.elim .inr .inl, fun h => h.elim .inr .inl⟩
theorem wo_mkDv {ks : List (Key × P)} {m : Μ} {Q : W → Μ → Prop} {X : XP} (h : Q (.v (.dct ks)) m) : WO (mkD .val ks m) Q X := h
/-! lists of tables, compared -/
end Pu
set_option Elab.async false
set_option linter.all false
set_option maxRecDepth 100000
set_option maxHeartbeats 4000000
namespace Pu
open L2 PySem PySem.Spec PyProof.Rows E10
open He (ga ma)
section
variable {X : XP} {Q : W → Μ → Prop} {QD : List (Key × P) → Μ → Prop} {γ : Γ} {μ m : Μ} {Fk Fv F : EF} {R : DF} {c : Kind}
def IsK (p : P) (k : Key → Prop) : Prop := ∃ key, keyP p = some key ∧ k key
theorem isKs {z : Str} {k : Key → Prop} (h : k (.inr z)) : IsK (.str z) k := ⟨_, rfl, h⟩
def Few15 (l : List (Key × P)) (A : Prop) : Prop := l.length ≤ 15 ∧ A
theorem few15 {l : List (Key × P)} {A : Prop} (h : l.length ≤ 15) (a : A) : Few15 l A := ⟨h, a⟩
theorem wo_disp (h : WO (R γ μ) (fun l m => Few15 l (WO (mkD c (mergeP [] l) m) Q X)) X) : WO (fDisp c R γ μ) Q X := wo_bind (wo_mono h (fun l m ⟨e, z⟩ => by rw [if_pos e]; exact z) fun _ _ _ z => z)
theorem wd_nil (h : QD [] μ) : WO (fDNil γ μ) QD X := h
theorem wd_cons (h : WO (Fk γ μ) (fun wk m => IsV wk fun pk => IsK pk fun k => WO (Fv γ m) (fun wv m => IsV wv fun p => WO (R γ m) (fun l m => QD ((k, p) :: l) m) X) X) X) : WO (fDCons Fk Fv R γ μ) QD X :=
  wo_bind (wo_mono h (fun wk m ⟨pk, e, k, e2, h⟩ => by
    subst e
    exact wo_bind (wo_mono h (fun wv m ⟨p, e3, h⟩ => by
      subst e3
      refine wo_bind (wo_mono h (fun l m h => ?_) fun _ _ _ z => z)
      simp only [e2]
      exact h) fun _ _ _ z => z)) fun _ _ _ z => z)
end
end Pu
set_option Elab.async false
set_option linter.all false
set_option maxRecDepth 100000
set_option maxHeartbeats 4000000
namespace Pu
open L2 PySem PySem.Spec PyProof.Rows E10
open He (ga ma)
/-! ### == of lists and tuples, whatever is in them -/
theorem toD_flat {n : Nat} {p : P} {d : PyData} (h : toD n p = some d) (f : flatP p = true) : (p = .non ∧ d = .none) ∨ (∃ b, p = .bl b ∧ d = .bool b) ∨ (∃ i, p = .int i ∧ d = .int i) ∨ ∃ x, p = .str x ∧ d = .str x := by
  have e : ∀ {n : Nat}, toD n p = toD 0 p := fun {n} => by cases p <;> first | (cases f; done) | (cases n <;> rfl)
  rw [e] at h
  cases p <;> first | (cases f; done) | (cases h; simp)
theorem eqF_D {n m : Nat} {p q : P} {d e : PyData} (h1 : toD n p = some d) (h2 : toD m q = some e) (f : flatP p = true) (g : flatP q = true) : PyData.eqv d e = eqF p q := by
  rcases toD_flat h1 f with ⟨rfl, rfl⟩ | ⟨b, rfl, rfl⟩ | ⟨i, rfl, rfl⟩ | ⟨x, rfl, rfl⟩ <;> rcases toD_flat h2 g with ⟨rfl, rfl⟩ | ⟨c, rfl, rfl⟩ | ⟨j, rfl, rfl⟩ | ⟨y, rfl, rfl⟩ <;> simp only [PyData.eqv, eqF]
theorem mapO_len {α β : Type} {f : α → Option β} : ∀ {l : List α} {r : List β}, mapO f l = some r → l.length = r.length
  | [], r, h => by cases h; rfl
  | x :: l, r, h => by
    obtain ⟨y, _, h2⟩ := Option.bind_eq_some_iff.mp h
    obtain ⟨t, h3, h4⟩ := Option.map_eq_some_iff.mp h2
    subst h4
    rw [List.length_cons, List.length_cons, mapO_len h3]
theorem eqvAll_len : ∀ {ds es : List PyData}, ds.length ≠ es.length → PyData.eqvAll ds es = false
  | [], [], h => absurd rfl h
  | [], _ :: _, _ => by simp [PyData.eqvAll]
  | _ :: _, [], _ => by simp [PyData.eqvAll]
  | d :: ds, e :: es, h => by
    rw [PyData.eqvAll, eqvAll_len (fun z => h (by rw [List.length_cons, List.length_cons, z])), Bool.and_false]
theorem allO_D {n k m : Nat} (ih : ∀ {p q d e b}, toD n p = some d → toD k q = some e → eqX m p q = some b → PyData.eqv d e = b) : ∀ {ps qs : List P} {ds es : List PyData} {b : Bool}, mapO (toD n) ps = some ds → mapO (toD k) qs = some es → allO (eqX m) ps qs = some b → PyData.eqvAll ds es = (b && ps.length == qs.length)
  | [], [], ds, es, b, h1, h2, h3 => by cases h1; cases h2; cases h3; rfl
  | [], q :: qs, ds, es, b, h1, h2, h3 => by
    cases h1
    have := mapO_len h2
    rw [eqvAll_len (by rw [← this]; simp)]
    cases h3; rfl
  | p :: ps, [], ds, es, b, h1, h2, h3 => by
    cases h2
    have := mapO_len h1
    rw [eqvAll_len (by rw [← this]; simp)]
    cases h3; rfl
  | p :: ps, q :: qs, ds, es, b, h1, h2, h3 => by
    obtain ⟨d, a1, a2⟩ := Option.bind_eq_some_iff.mp h1
    obtain ⟨dr, a3, rfl⟩ := Option.map_eq_some_iff.mp a2
    obtain ⟨e, b1, b2⟩ := Option.bind_eq_some_iff.mp h2
    obtain ⟨er, b3, rfl⟩ := Option.map_eq_some_iff.mp b2
    obtain ⟨c, c1, c2⟩ := Option.bind_eq_some_iff.mp h3
    obtain ⟨r, c3, rfl⟩ := Option.map_eq_some_iff.mp c2
    rw [PyData.eqvAll, ih a1 b1 c1, allO_D ih a3 b3 c3]
    simp [Bool.and_assoc]
theorem eqX_D : ∀ {m n k : Nat} {p q : P} {d e : PyData} {b : Bool}, toD n p = some d → toD k q = some e → eqX m p q = some b → PyData.eqv d e = b
  | 0, n, k, p, q, d, e, b, h1, h2, h3 => by
    unfold eqX at h3
    split at h3
    · rename_i z
      cases h3
      exact eqF_D h1 h2 z.1 z.2
    · cases h3
  | m + 1, n, k, p, q, d, e, b, h1, h2, h3 => by
    have sh : ∀ {p : P} {d : PyData} {n}, toD n p = some d → flatP p = true ∨ (∃ ps ds n', n = n' + 1 ∧ p = .lst ps ∧ d = .list ds ∧ mapO (toD n') ps = some ds) ∨ (∃ ps ds n', n = n' + 1 ∧ p = .tup ps ∧ d = .tuple ds ∧ mapO (toD n') ps = some ds) := by
      intro p d n h
      cases p <;> first | exact .inl rfl | (cases n <;> cases h; done) | skip
      · cases n with
        | zero => cases h
        | succ n =>
          obtain ⟨ds, a, rfl⟩ := Option.map_eq_some_iff.mp h
          exact .inr (.inr ⟨_, ds, n, rfl, rfl, rfl, a⟩)
      · cases n with
        | zero => cases h
        | succ n =>
          obtain ⟨ds, a, rfl⟩ := Option.map_eq_some_iff.mp h
          exact .inr (.inl ⟨_, ds, n, rfl, rfl, rfl, a⟩)
    have fl : ∀ {p q b}, flatP p = true → flatP q = true → eqX (m + 1) p q = some b → b = eqF p q := by
      intro p q b f g h
      unfold eqX at h
      cases p <;> first | (cases f; done) | skip
      all_goals (cases q <;> first | (cases g; done) | skip)
      all_goals (simp only [flatP, and_self, if_true] at h; exact (Option.some.inj h).symm)
    rcases sh h1 with f | ⟨ps, ds, n', rfl, rfl, rfl, a⟩ | ⟨ps, ds, n', rfl, rfl, rfl, a⟩ <;> rcases sh h2 with g | ⟨qs, es, k', rfl, rfl, rfl, a'⟩ | ⟨qs, es, k', rfl, rfl, rfl, a'⟩
    · rw [fl f g h3]
      exact eqF_D h1 h2 f g
    · rcases toD_flat h1 f with ⟨rfl, rfl⟩ | ⟨b, rfl, rfl⟩ | ⟨i, rfl, rfl⟩ | ⟨x, rfl, rfl⟩ <;> (simp [eqX, flatP, seqFlat] at h3; subst h3; rfl)
    · rcases toD_flat h1 f with ⟨rfl, rfl⟩ | ⟨b, rfl, rfl⟩ | ⟨i, rfl, rfl⟩ | ⟨x, rfl, rfl⟩ <;> (simp [eqX, flatP, seqFlat] at h3; subst h3; rfl)
    · rcases toD_flat h2 g with ⟨rfl, rfl⟩ | ⟨b, rfl, rfl⟩ | ⟨i, rfl, rfl⟩ | ⟨x, rfl, rfl⟩ <;> (simp [eqX, flatP, seqFlat] at h3; subst h3; rfl)
    · have h4 : (if ps.length = qs.length then allO (eqX m) ps qs else some false) = some b := h3
      split at h4
      · rename_i l
        show PyData.eqvAll ds es = b
        rw [allO_D (fun x y z => eqX_D x y z) a a' h4, l]
        simp
      · rename_i l
        cases h4
        show PyData.eqvAll ds es = false
        exact eqvAll_len (by rw [← mapO_len a, ← mapO_len a']; exact l)
    · cases h3
      rfl
    · rcases toD_flat h2 g with ⟨rfl, rfl⟩ | ⟨b, rfl, rfl⟩ | ⟨i, rfl, rfl⟩ | ⟨x, rfl, rfl⟩ <;> (simp [eqX, flatP, seqFlat] at h3; subst h3; rfl)
    · cases h3
      rfl
    · obtain ⟨c, c1, rfl⟩ := Option.map_eq_some_iff.mp (show (allO (eqX m) ps qs).map (fun b => b && ps.length == qs.length) = some b from h3)
      show PyData.eqvAll ds es = _
      exact allO_D (fun x y z => eqX_D x y z) a a' c1
/-! what can be asked as data -/
def Sh (n : Nat) (p : P) : Prop := ∃ d, toD n p = some d ∧ d.canLay0 = true ∧ d.depth ≤ n
theorem Sh.shaped {p : P} (h : Sh 6 p) : ∃ d, toD 6 p = some d ∧ SeqAt.shaped d = true := by
  obtain ⟨d, e1, e2, e3⟩ := h
  refine ⟨d, e1, ?_⟩
  unfold SeqAt.shaped
  rw [e2, decide_eq_true (show d.depth ≤ 64 by omega)]
  rfl
section
variable {μ : Μ} {neg : Bool}
theorem eq_X {p q : P} {b : Bool} (hs : eqS p q = none := by rfl) (hk : rdD μ (.v p) = none := by rfl) (sk : seqK p q = true := by rfl) (h : eqX 8 p q = some b) (hd : neg = true → Sh 6 p ∧ Sh 6 q) : gEqX neg (.v p) (.v q) μ = .ok (.v (.bl (b != neg))) μ := by
  have e1 : fEqS neg (.v p) (.v q) μ = .bad := by unfold fEqS; simp only [hs]
  have e2 : fEqK neg (.v p) (.v q) μ = .bad := by unfold fEqK; simp only [hk]
  have e3 : ∀ neg, fEqD neg (.v p) (.v q) μ = .bad ∨ fEqD neg (.v p) (.v q) μ = .ok (.v (.bl (b != neg))) μ := by
    intro neg
    unfold fEqD
    cases h1 : (frzV μ (.v p)).bind (toD 6) with
    | none => exact .inl rfl
    | some d =>
      cases h2 : (frzV μ (.v q)).bind (toD 6) with
      | none => exact .inl rfl
      | some e =>
        have := eqX_D (show toD 6 p = some d from h1) (show toD 6 q = some e from h2) h
        simp only [this]
        split
        · exact .inr rfl
        · exact .inl rfl
  cases neg
  · have e4 : fEqX false (.v p) (.v q) μ = .ok (.v (.bl (b != false))) μ := by
      unfold fEqX
      simp only [frzV, sk, if_true, h]
    show O.or (fEqS false (.v p) (.v q) μ) (O.or (fEqK false (.v p) (.v q) μ) (O.or (fEqD false (.v p) (.v q) μ) (fEqX false (.v p) (.v q) μ))) = _
    rw [e1, e2, e4, O.or_bad, O.or_bad]
    rcases e3 false with e3 | e3 <;> rw [e3] <;> rfl
  · obtain ⟨⟨d, d1, d2⟩, ⟨e, g1, g2⟩⟩ := (hd rfl).imp Sh.shaped Sh.shaped
    show O.or (fEqS true (.v p) (.v q) μ) (O.or (fEqK true (.v p) (.v q) μ) (fEqD true (.v p) (.v q) μ)) = _
    rw [e1, e2, O.or_bad, O.or_bad]
    unfold fEqD
    simp only [frzV, Option.bind_some, d1, g1, d2, g2, and_self, if_true, eqX_D d1 g1 h]
theorem eqX_s {n : Nat} {a b : Str} : eqX n (.str a) (.str b) = some (decide (a = b)) := by
  cases n <;> (simp only [eqX, flatP, and_self, if_true, eqF]; rw [Option.some.injEq]; exact Bool.eq_iff_iff.mpr (by simp))
theorem allO_map {α : Type} [DecidableEq α] {n : Nat} (f : α → P) : ∀ {as bs : List α}, (∀ a ∈ as, ∀ b ∈ bs, eqX n (f a) (f b) = some (decide (a = b))) → as.length = bs.length → allO (eqX n) (as.map f) (bs.map f) = some (decide (as = bs))
  | [], [], _, _ => rfl
  | a :: as, b :: bs, h, l => by
    have ih := allO_map f (as := as) (bs := bs) (fun x mx y my => h x (List.mem_cons_of_mem _ mx) y (List.mem_cons_of_mem _ my)) (by simpa using l)
    rw [List.map_cons, List.map_cons, allO, h a List.mem_cons_self b List.mem_cons_self, Option.bind_some, ih]
    show some (decide (a = b) && decide (as = bs)) = _
    congr 1
    exact Bool.eq_iff_iff.mpr (by simp)
theorem eqX_l {α : Type} [DecidableEq α] {n : Nat} (f : α → P) {as bs : List α} (h : ∀ a ∈ as, ∀ b ∈ bs, eqX n (f a) (f b) = some (decide (a = b))) : eqX (n + 1) (.lst (as.map f)) (.lst (bs.map f)) = some (decide (as = bs)) := by
  show (if (as.map f).length = (bs.map f).length then allO (eqX n) (as.map f) (bs.map f) else some false) = _
  rw [List.length_map, List.length_map]
  by_cases l : as.length = bs.length
  · rw [if_pos l, allO_map f h l]
  · rw [if_neg l, decide_eq_false fun z => l (by rw [z])]
end
end Pu
set_option Elab.async false
set_option linter.all false
set_option maxRecDepth 100000
set_option maxHeartbeats 4000000
set_option Elab.async false
set_option linter.all false
set_option maxRecDepth 100000
set_option maxHeartbeats 4000000
set_option Elab.async false
set_option linter.all false
set_option maxRecDepth 100000
set_option maxHeartbeats 4000000
namespace Pu
open L2 PySem PySem.Spec PyProof.Rows E10
open He (ga ma)
section
variable {X : XP} {Q : W → Μ → Prop} {QL : List P → Μ → Prop} {QB : Bool → Μ → Prop} {γ : Γ} {μ m : Μ} {F : EF}
/-- a dict comprehension that leaves some out -/
theorem wd_on {α : Type} {t : GF} {T : TF} {Ek Ev : EF} {QL : List (Key × P) → Μ → Prop} (g : α → P) (c : α → Bool) (kk : α → Key) (v : α → P) {l : List α} {m : Μ} (nd : ((l.filter c).map kk).Nodup)
    (h : ∀ a ∈ l, ∃ γ1 kp, t (g a) γ = some γ1 ∧ keyP kp = some (kk a) ∧ WO (T γ1 m) (fun b m' => b = c a ∧ m' = m) X0 ∧ (c a = true → WO (Ek γ1 m) (fun w m' => w = .v kp ∧ m' = m) X0 ∧ WO (Ev γ1 m) (fun w m' => w = .v (v a) ∧ m' = m) X0)) (k : QL ((l.filter c).map fun a => (kk a, v a)) m) : WO (dcGo t T Ek Ev γ (l.map g) [] m) QL X := by
  rw [dc_on g c kk v (l := l) fun a ha => ?_, put_all kk v (by simpa using nd)]
  · exact k
  · obtain ⟨γ1, kp, e1, ek, w, w2⟩ := h a ha
    obtain ⟨_, m', e2, rfl, rfl⟩ := wo_out w
    refine ⟨γ1, kp, e1, e2, fun z => ?_⟩
    obtain ⟨w3, w4⟩ := w2 z
    obtain ⟨_, m2, e3, rfl, rfl⟩ := wo_out w3
    obtain ⟨_, m3, e4, rfl, rfl⟩ := wo_out w4
    exact ⟨e3, ek, e4⟩
end
end Pu
set_option Elab.async false
set_option linter.all false
set_option maxRecDepth 100000
set_option maxHeartbeats 4000000
namespace Pu
open L2 PySem PySem.Spec PyProof.Rows E10
open He (ga ma)
section
variable {X : XP} {Q : W → Μ → Prop} {m : Μ} {j : Nat}
theorem max_at {α : Type} (f : α → Int) : ∀ {l : List α}, l ≠ [] → ∃ a ∈ l, ∀ b ∈ l, f b ≤ f a
  | [a], _ => ⟨a, .head _, fun b m => by rw [List.mem_singleton.mp m]; exact Int.le_refl _⟩
  | a :: c :: r, _ => by
    obtain ⟨x, mx, hx⟩ := max_at f (l := c :: r) (by simp)
    by_cases h : f a ≤ f x
    · exact ⟨x, .tail _ mx, fun b m => (List.mem_cons.mp m).elim (fun e => e ▸ h) (hx b)⟩
    · exact ⟨a, .head _, fun b m => (List.mem_cons.mp m).elim (fun e => e ▸ Int.le_refl _) fun m => Int.le_trans (hx b m) (by omega)⟩
end
end Pu
set_option Elab.async false
set_option linter.all false
set_option maxRecDepth 100000
set_option maxHeartbeats 4000000
set_option Elab.async false
set_option linter.all false
set_option maxRecDepth 100000
set_option maxHeartbeats 4000000
namespace Pu
open L2 PySem PySem.Spec PyProof.Rows E10
/-! ### least times from below: what a step keeps, as plain mathematics -/
/-- the hold r of m leads from m to later terms, or to just as late ones that stand ahead -/
def Edge (T : Str → Int) (ρ : Str → Nat) (m : Str) (r : Str × Tb) : Prop := ∀ a ∈ keys r.2, T m < T a + val r.2 a ∨ (T m = T a + val r.2 a ∧ ρ a < ρ m)
/-- times that the holds are to raise -/
structure Half (ns : List Str) (rows : List (Str × Tb)) (f T : Str → Int) (h : Str → Option Nat) (ρ : Str → Nat) : Prop where
  fl : ∀ m ∈ ns, f m ≤ T m
  no : ∀ m ∈ ns, h m = none → T m = f m
  ed : ∀ m ∈ ns, ∀ p, h m = some p → ∃ r, rows[p]? = some r ∧ r.1 = m ∧ Edge T ρ m r
/-- times at which the holds let the moments stay -/
structure Full (ns : List Str) (rows : List (Str × Tb)) (f T : Str → Int) (h : Str → Option Nat) (ρ : Str → Nat) : Prop extends Half ns rows f T h ρ where
  ti : ∀ m ∈ ns, ∀ p r, h m = some p → rows[p]? = some r → ∃ a ∈ keys r.2, T a + val r.2 a ≤ T m
section
variable {ns : List Str} {rows : List (Str × Tb)} {f T T' x : Str → Int} {h : Str → Option Nat} {ρ : Str → Nat} {pr : Str → Prop}
def KbF (t : Tb) (x : Str → Int) (c : Int) : Prop := ∃ z ∈ keys t, x z + val t z ≤ c
end
end Pu
set_option Elab.async false
set_option linter.all false
set_option maxRecDepth 100000
set_option maxHeartbeats 4000000
/-! ### name = {..} on one line -/
namespace E10
open L2 PySem PySem.Spec PyProof.Rows
end E10
set_option Elab.async false
set_option linter.all false
set_option maxRecDepth 100000
set_option maxHeartbeats 4000000
set_option Elab.async false
set_option linter.all false
set_option maxRecDepth 100000
set_option maxHeartbeats 4000000
namespace Pu
open L2 PySem PySem.Spec PyProof.Rows E10
/-! ### a dict from names -/
def dnP (ns : List Str) (f : Str → P) : List (Key × P) := ns.map fun z => (Sum.inr z, f z)
section
variable {ns : List Str} {f : Str → P} {μ : Μ} {z : Str}
theorem valP_dn (m : z ∈ ns) : valP (dnP ns f) (Sum.inr z) = some (f z) := by
  unfold valP dnP
  induction ns with
  | nil => cases m
  | cons a l ih =>
    rw [List.map_cons, List.find?_cons]
    by_cases c : a = z
    · subst c; simp
    · have : decide ((Sum.inr a : Key) = Sum.inr z) = false := decide_eq_false fun e => c (Sum.inr.inj e)
      rw [this]
      exact ih ((List.mem_cons.mp m).resolve_left fun e => c e.symm)
end
end Pu
set_option Elab.async false
set_option linter.all false
set_option maxRecDepth 100000
set_option maxHeartbeats 4000000
namespace Pu
open L2 PySem PySem.Spec PyProof.Rows E10
/-! ### names by letters: a word, and a letter behind its first ones -/
theorem cut_n (z : Str) (n : Nat) : (cutS z none (some (n : Int))).cps.toList = z.cps.toList.take n := by
  unfold cutS
  rw [HT.sIx_none, HT.sIx_nat]
  rw [List.drop_zero, Nat.sub_zero, List.toList_toArray]
  by_cases h : n ≤ z.length
  · rw [Nat.min_eq_left h]
  · rw [Nat.min_eq_right (by omega)]
    have e : z.length = z.cps.toList.length := by simp [Str.length]
    rw [List.take_of_length_le (by omega), List.take_of_length_le (by omega)]
def nearC (n : Nat) (w : Str) (c : Nat) : Str := cutS w none (some (n : Int)) ++ ch c
theorem near_list (n : Nat) (w : Str) (c : Nat) : (nearC n w c).cps.toList = w.cps.toList.take n ++ [c] := by
  show ((cutS w none (some (n : Int))).cps ++ #[c]).toList = _
  rw [Array.toList_append, cut_n]
abbrev abcS : Str := "abcdefghijklmnopqrstuvwxyz"
theorem abc_list : abcS.cps.toList = (List.range 26).map (97 + ·) := by decide +kernel
theorem abc_mem' {c : Nat} (h : c ∈ abcS.cps.toList) : 97 ≤ c ∧ c ≤ 122 := by
  rw [abc_list] at h
  obtain ⟨i, hi, rfl⟩ := List.mem_map.mp h
  have := List.mem_range.mp hi
  omega
theorem abc_len : abcS.length = 26 := by decide +kernel
theorem sl_sS {z : Str} {lo hi : Option Int} {μ : Μ} (h : z.length ≤ 100000) : gSlX (.v (.str z)) lo hi μ = .ok (.v (.str (cutS z lo hi))) μ := by
  have : z.length ≤ sizeLine := Nat.le_trans h (by decide)
  show O.or (O.or .bad (if z.length ≤ sizeLine then O.ok (W.v (.str (cutS z lo hi))) μ else .bad)) _ = _
  rw [if_pos this]
  rfl
end Pu
set_option Elab.async false
set_option linter.all false
set_option maxRecDepth 100000
set_option maxHeartbeats 4000000
/-! ### d == None, d != None -/
namespace E10
open L2 PySem PySem.Spec PyProof.Rows PySem.W PySem.SeqAt
end E10
set_option Elab.async false
set_option linter.all false
set_option maxRecDepth 100000
set_option maxHeartbeats 4000000
namespace Pu
open L2 PySem PySem.Spec PyProof.Rows E10
section
variable {X : Cx} {Wx : WX} {o e a b : Expr} {F F1 F2 : EF} {pos : Pos}
/-! ### xs[::-1] -/
def fBack (F : EF) : EF := fun γ μ => (F γ μ).bind fun w m => match rdL m w with
  | some ps => .ok (.v (.lst ps.reverse)) m
  | none => .bad
theorem Reps.reverse {D : Addr → Prop} {H : Hp} : ∀ {vs ps}, Reps D H vs ps → Reps D H vs.reverse ps.reverse
  | _, _, .nil => .nil
  | _, _, .cons r t => by
    rw [List.reverse_cons, List.reverse_cons]
    exact (Reps.reverse t).snoc r
theorem pp_back {k : Nat} {p1 p2 p3 : Pos} (he : PP X Wx e F) : PP X Wx (.Subscript e (.Slice none none (some (.UnaryOp .USub (.Constant (.int 1) k p1) p2)) p3) pos) (fBack F) := by
  obtain ⟨te, pe, ae⟩ := he
  refine ⟨_, pe_revL pe, fun D as γ μ σ H Q k ev g => ?_⟩
  refine ae D as γ μ σ H _ k ev ((G.bind RepW k g).mono fun x H1 ⟨D1, as1, μ1, w, n1, k1, r1, g1⟩ => ?_)
  split at g1
  · rename_i ps e1
    obtain ⟨a, xs, rfl, h1, rs⟩ := rdL_ok k1 r1 e1
    exact ⟨a, xs, rfl, .inl h1, newL k1 g1 rs.reverse⟩
  · exact g1.elim
/-! ### xs + ys, as a place -/
def fCatC : W → W → Μ → O W := fun x y μ => match rdL μ x, rdL μ y with
  | some ps, some qs => if ps.length + qs.length ≤ 100000 then .ok (.loc μ.length) (μ ++ [.lst (ps ++ qs)]) else .bad
  | _, _ => .bad
theorem ad_catC : AdR2 Wx rCatR fCatC := fun D as μ σ H x y a b Q k ra rb g => by
  unfold fCatC at g
  split at g
  · rename_i ps qs e1 e2
    split at g
    · rename_i hl
      obtain ⟨l, xs, rfl, h1, r1⟩ := rdL_ok k ra e1
      obtain ⟨l2, ys, rfl, h2, r2⟩ := rdL_ok k rb e2
      exact ⟨l, l2, xs, ys, rfl, rfl, h1, h2, sz_of (by rw [r1.length, r2.length]; exact hl), newLC k g (r1.append r2)⟩
    · exact g.elim
  · exact g.elim
theorem pp_addC (ha : PP X Wx a F1) (hb : PP X Wx b F2) : PP X Wx (.BinOp a .Add b pos) (fOp fCatC F1 F2) := pp_op op_catR ad_catC ha hb
/-! ### clear, reverse -/
def mDClear : W → List W → Μ → O W := fun w ws μ => match wD μ w, ws with
  | some (j, _), [] => .ok (.v .non) (μ.set j (.dct []))
  | _, _ => .bad
theorem am_dclear : AdM Wx rDClear mDClear := fun D as μ σ H x w vs ws Q k rx rv g => by
  unfold mDClear at g
  split at g
  · rename_i j ps e
    obtain ⟨a, xs, rfl, ea, ha, rs⟩ := wD_ok k rx e
    cases rv
    refine ⟨a, xs, rfl, rfl, ha, ?_⟩
    obtain ⟨n, k'⟩ := cell_set (o := .dK []) (u := .lst []) (c := .dct []) k ea (nofz (by assumption) (fun _ _ z => by cases z)) fun D' H' s e' => ⟨_, e', .nil⟩
    exact g .non D as _ n k' (show Rep _ _ _ _ from .non)
  · exact g.elim
theorem pp_dclear {apos cpos : Pos} (ho : PP X Wx o F1) (hbase : attributeBase o "clear" X.env (eval o X.env) = eval o X.env := by rfl) (hline : (apos.endLine == cpos.line) = true := by rfl) : PP X Wx (.Call (.Attribute o "clear" apos) [] [] cpos) (fBM "dict" mDClear F1 fNil) :=
  pp_bm0 PySem.F.plainAttrs_dict PySem.F.slot_dict_clear PySem.F.type_dict_clear mtd_clear am_dclear ho hbase hline
end
end Pu
set_option Elab.async false
set_option linter.all false
set_option maxRecDepth 100000
set_option maxHeartbeats 4000000
set_option Elab.async false
set_option linter.all false
set_option maxRecDepth 100000
set_option maxHeartbeats 4000000
set_option Elab.async false
set_option linter.all false
set_option maxRecDepth 100000
set_option maxHeartbeats 4000000
namespace Pu
open L2 PySem PySem.Spec PyProof.Rows E10 StX
/-! ### defs with *args: what is left over is a new tuple -/
theorem RepWs.split {D : Addr → Prop} {as : Ps} {H : Hp} : ∀ {vs : List V} {ws : List W} (n : Nat), RepWs D as H vs ws → RepWs D as H (vs.take n) (ws.take n) ∧ RepWs D as H (vs.drop n) (ws.drop n)
  | _, _, 0, r => ⟨.nil, r⟩
  | _, _, _ + 1, .nil => ⟨.nil, .nil⟩
  | _, _, n + 1, .cons r t => ⟨.cons r (RepWs.split n t).1, (RepWs.split n t).2⟩
theorem RepWs.snoc {D : Addr → Prop} {as : Ps} {H : Hp} {v : V} {w : W} (r : RepW D as H v w) : ∀ {vs : List V} {ws : List W}, RepWs D as H vs ws → RepWs D as H (vs ++ [v]) (ws ++ [w])
  | _, _, .nil => .cons r .nil
  | _, _, .cons r' t => .cons r' (RepWs.snoc r t)
/-! calls of such defs -/
end Pu
set_option Elab.async false
set_option linter.all false
set_option maxRecDepth 100000
set_option maxHeartbeats 4000000
set_option Elab.async false
set_option linter.all false
set_option maxRecDepth 100000
set_option maxHeartbeats 4000000
set_option Elab.async false
set_option linter.all false
set_option maxRecDepth 100000
set_option maxHeartbeats 4000000
/-! ### d != e of dicts with values of any kind -/
namespace PySem.W
open PySem PySem.Calls PyProof.Rows PyProof.V PySem.Spec
end PySem.W
set_option Elab.async false
set_option linter.all false
set_option maxRecDepth 100000
set_option maxHeartbeats 4000000
namespace Pu
open L2 PySem PySem.Spec PyProof.Rows E10
/-! ### C(.., k = v, ..) -/
section
variable {X : Cx} {Wx : WX} {e : Expr} {es : List Expr} {A A2 : AF} {p pos : Pos} {C : Addr} {k : Nat}
def tMakeKX (C : Addr) (is : List Nat) (many : Nat) (sp : Sp) (W : WX) (tk : TA) : TE := fun σ H Q => tk σ H fun zs H1 => zs.length = many ∧ ∀ x dx, H1 x = none → H1 dx = none → dx ≠ x → sp (.ref x :: pick is zs) (upd (upd H1 dx (.own x)) x (.ins C dx [])) (fun v H2 => v = .non ∧ Q (.ref x) H2) (WE W σ)
theorem run_makeKX {pins : List (Addr × Obj)} {σ : L2.St} {H : Hp} {s : Shared} {Q : VK} {ws : List Value} {zs : List V} {g : Addr} {fd : FuncData} {ps ks : List Str} {is : List Nat} {sp : Sp} (M : Mk X.K C g) (F : FnX X.prog X.w X.K X.mg X.base k g fd ps sp) (hG : X.A.guards = some []) (hr : Room (k + 1) X.A) (hb : KBn X.K fd ps 1 ks (fun us ws => us ++ pick is ws) (fun vs zs => vs ++ pick is zs))
    (tk : Takes X Wx) (I : Inv X pins σ H s) (r : Vals zs ws) (hl : zs.length = ks.length)
    (h : ∀ x dx, H x = none → H dx = none → dx ≠ x → sp (.ref x :: pick is zs) (upd (upd H dx (.own x)) x (.ins C dx [])) (fun v H2 => v = .non ∧ Q (.ref x) H2) (WE Wx σ)) :
    wpAny (model X.prog X.w) X.A (call (.ref C) [] (ks.zip ws)) (EP X pins σ Q) X.xe s := by
  have hq := h (s.heap.objs.size + 1) s.heap.objs.size (I.hok.fresh (Nat.le_succ _)) (I.hok.fresh (Nat.le_refl _)) (Nat.ne_of_lt (Nat.lt_succ_self _))
  have I2 := Inv.made (C := C) I
  have r2 : Vals ([V.ref (s.heap.objs.size + 1)] ++ pick is zs) ([Value.ref (s.heap.objs.size + 1)] ++ pick is ws) := hb.rel (.cons rfl .nil) r
  have bb := hb.to _ [Value.ref (s.heap.objs.size + 1)] ws I2.kIn rfl (r.length.symm.trans hl)
  refine wpAny_call (make_map (f := g) I.kIn M.makes M.init (beq_iff_eq.mp M.fn) (codeAny_mono (F.goes (fr := X.stack) (ar := ⟨[Value.ref (s.heap.objs.size + 1)], ks.zip ws⟩) (us := [Value.ref (s.heap.objs.size + 1)] ++ pick is ws) (make_guards hG) (hr.make C [] (ks.zip ws))
    (I2.env0.make C [] (ks.zip ws)) bb r2 hq) fun r s' hq' => ?_))
  cases r with
  | error e => exact passAt tk σ pins _ _ e s' I2 hq'
  | ok fl =>
    cases fl with
    | ret u =>
      obtain ⟨v, H', I3, rv, ev, q3⟩ := I2.after hq'
      subst ev
      exact ⟨rv, ⟨V.ref (s.heap.objs.size + 1), H', I3, rfl, q3⟩⟩
    | next => exact False.elim hq'
    | brk => exact False.elim hq'
    | cont => exact False.elim hq'
theorem pe_makeKX {x : Str} {g : Addr} {fd : FuncData} {ps ks : List Str} {is : List Nat} {sp : Sp} {kws : List Keyword} {tk : TA} (M : Mk X.K C g) (F : FnX X.prog X.w X.K X.mg X.base k g fd ps sp) (hG : X.A.guards = some []) (hr : Room (k + 1) X.A) (hb : KBn X.K fd ps 1 ks (fun us ws => us ++ pick is ws) (fun vs zs => vs ++ pick is zs)) (tks : Takes X Wx) (hg : Gl X x) (hm : X.mg x = some (.ref C))
    (hkw : PK X kws tk) (hall : (backToKw pos (keywordEach kws X.env)).all (·.1.isSome) = true := by rfl) (hks : (backToKw pos (keywordEach kws X.env)).filterMap (·.1) = ks := by rfl) (hdb : (x == ("__debug__" : Str)) = false := by decide)
    (hpl : ((backTo pos (starEach [] X.env)).any (·.1) || (backToKw pos (keywordEach kws X.env)).any (·.1.isNone)) = false := by rfl) :
    PE X (.Call (.Name x p) [] kws pos) (tMakeKX C is ks.length sp Wx tk) := by
  refine ⟨fun pins s σ H Q I h => ?_⟩
  refine wpAny_Call_Name_kw (ld_glob I hg hm ?_ hdb)
  refine PySem.W.callWith_KW0 (h₀ := X.base) I.ok.mod.kin M.kp hall ?_ hpl
  refine thn (hkw.run pos pins s σ H _ I h) fun ws s2 ⟨zs, H2, I2, rz, l2, q2⟩ => ⟨I2.kIn, ?_⟩
  rw [hks]
  exact run_makeKX M F hG hr hb tks I2 rz l2 q2
/-- a class whose __init__ has a pure promise, its parameters by name -/
structure DCk (P : Program) (w : World) (K : PySem.W.Frag) (mg : Str → Option Value) (base : Heap) (x : Str) (C : Addr) (n : Nat) (ks : List Str) (is : List Nat) (k : Nat) (F : FF) : Prop where
  ex : ∃ (f : Addr) (fd : FuncData) (ps : List Str), FnX P w K mg base k f fd ps (spP n F) ∧ Mk K C f ∧ KBn K fd ps 1 ks (fun us ws => us ++ pick is ws) (fun vs zs => vs ++ pick is zs)
  g : mg x = some (.ref C)
def fMakeKw (C : Addr) (is : List Nat) (many : Nat) (F : FF) (A : AF) : EF := fun γ μ => (A γ μ).bind fun ws m => if ws.length = many then (F (.loc m.length :: pick is ws) (m ++ [.ins C []])).bind fun w m' => match w with
  | .v .non => .ok (.loc m.length) m'
  | _ => .bad
  else .bad
theorem ad_makeK {n : Nat} {is : List Nat} {many : Nat} {FF' : FF} {t : TA} (ha : AdA Wx t A) (hn : ∀ ws μ, ws.length ≠ n → FF' ws μ = .bad) : Ad Wx (tMakeKX C is many (spP n FF') Wx t) (fMakeKw C is many FF' A) := fun D as γ μ σ H Q k ev g => by
  refine ha D as γ μ σ H _ k ev ((G.bind RepWs k g).mono fun vs H1 ⟨D1, as1, μ1, ws, n1, k1, r1, g1⟩ => ?_)
  split at g1
  rotate_left
  · exact g1.elim
  rename_i hl
  refine ⟨r1.length.trans hl, fun x dx nx ndx ne => ?_⟩
  have nx2 : upd H1 dx (.own x) x = none := (upd_ne (Ne.symm ne)).trans nx
  have s1 := new_same' (o := .own x) ndx
  have k2 := k1.same s1
  obtain ⟨n3, k3⟩ := cell_new (o := .ins C dx []) (c := .ins C []) k2 nx2 ⟨dx, [], upd_same, .nil⟩
  have n13 : Nx D1 as1 H1 _ _ _ := (Nx.of_same s1).trans k1 k2 n3
  have e1 : (as1 ++ [some x])[μ1.length]? = some (some x) := by
    rw [← k1.len]
    exact last_get
  have rp := pick_rep (r1.nx n13) is
  refine ⟨?_, _, _, .loc μ1.length :: pick is ws, μ1 ++ [.ins C []], k3, .cons (.mk e1) rp, ?_⟩
  · by_cases c : (W.loc μ1.length :: pick is ws).length = n
    · rw [← c, List.length_cons, List.length_cons, rp.length]
    · rw [hn _ (μ1 ++ [PC.ins C []]) c] at g1
      exact g1.elim
  · have g2 := G.nx k1 k3 n13 g1
    cases o : FF' (W.loc μ1.length :: pick is ws) (μ1 ++ [PC.ins C []]) with
    | bad => rw [o] at g2; exact g2
    | exc C' fs m' => rw [o] at g2; exact g2
    | ok w m' =>
      rw [o] at g2
      intro v D' as' H' n' k' rv
      cases w with
      | loc j => exact g2.elim
      | v q =>
        cases q with
        | non =>
          obtain rfl := rep_non rv
          exact ⟨rfl, g2 (.ref x) D' as' H' n' k' ((RepW.mk e1).nx n')⟩
        | _ => exact g2.elim
theorem pp_makeKw {x : Str} {n : Nat} {ks : List Str} {is : List Nat} {FF' : FF} {kws : List Keyword} (d : DCk X.prog X.w X.K X.mg X.base x C n ks is k FF') (hG : X.A.guards = some []) (hr : Room (k + 1) X.A) (tks : Takes X Wx) (hg : Gl X x) (ha : PPK X Wx kws A) (hn : ∀ ws μ, ws.length ≠ n → FF' ws μ = .bad := by exact fDef_len)
    (hall : (backToKw pos (keywordEach kws X.env)).all (·.1.isSome) = true := by rfl) (hks : (backToKw pos (keywordEach kws X.env)).filterMap (·.1) = ks := by rfl) (hdb : (x == ("__debug__" : Str)) = false := by decide)
    (hpl : ((backTo pos (starEach [] X.env)).any (·.1) || (backToKw pos (keywordEach kws X.env)).any (·.1.isNone)) = false := by rfl) :
    PP X Wx (.Call (.Name x p) [] kws pos) (fFrz (fMakeKw C is ks.length FF' A)) := by
  obtain ⟨f, fd, ps, FX, M, hb⟩ := d.ex
  obtain ⟨_, pa, aa⟩ := ha
  exact ⟨_, pe_makeKX M FX hG hr hb tks hg d.g pa hall hks hdb hpl, ad_frzL (ad_makeK aa hn)⟩
end
/-! ### C.m(k = v, ..), m a staticmethod of keywords alone -/
/-- a def of keywords alone, with a pure promise -/
structure KwP (P : Program) (w : World) (K : PySem.W.Frag) (mg : Str → Option Value) (base : Heap) (k : Nat) (f : Addr) (y : Str) (F : FF) : Prop where
  ex : ∃ (x qual : Str) (st : Stmt) (N : List Str) (fd : FuncData) (S : SF), Fun K x qual st f fd ∧ FnScope N [y] (defScope st) ∧ F = fDef 1 N.length S ∧
    (∀ (ks : List Str), ks.length ≤ 9 → ∀ (kV doc pm : Value) (an : Option Addr) (cdv ct : Value) (ws : List Value), ws.length = ks.length → bindArgs (PySem.W.fnOf x qual (defArgs st) (defBody st) (defScope st) .none kV doc pm an cdv ct) ⟨[], ks.zip ws⟩ = kwBind y (ks.zip ws)) ∧
    ∀ (cdv : Value) (A : Around) (fr : List Env) (s : Shared) (H : Hp) (E : XK), A.guards = some [] → Room k (A.deeper (envOfC qual (defScope st) s.heap.objs.size f cdv)) →
      PPSs (cxOf (L2.CX P w) P w K mg base N qual (defScope st) f cdv A fr s H E) (fun c d _ H' => E c d H') (defBody st) S
section
variable {X : Cx} {Wx : WX} {A : AF} {pos : Pos} {C : Addr} {k : Nat} {f : Addr} {ks : List Str}
theorem kz_len' {ks : List Str} {zs : List V} (h : ks.length ≤ 9) : (kz ks zs).length ≤ 9 := by
  unfold kz
  rw [List.length_map, List.length_zip]
  omega
theorem run_kwP {pins : List (Addr × Obj)} {σ : L2.St} {H : Hp} {s : Shared} {Q : VK} {y : Str} {zs : List V} {ws : List Value} {F : FF} (D : KwP X.prog X.w X.K X.mg X.base k f y F) (hG : X.A.guards = some []) (room : Room (k + 1) X.A) (tks : Takes X Wx) (few : ks.length ≤ 9) (nd : ks.Nodup) (I : Inv X pins σ H s) (r : Vals zs ws) (l : ws.length = ks.length)
    (q : ∀ d H', H d = none → Same H H' → H' d = some (.dK (kz ks zs)) → spP 1 F [.ref d] H' Q (WE Wx σ)) : wpAny (model X.prog X.w) X.A (call (.ref f) [] (ks.zip ws)) (EP X pins σ Q) X.xe s := by
  obtain ⟨x, qual, st, N, fd, S, Fu, Sc, eF, hbind, body⟩ := D.ex
  obtain ⟨oc, od, kV, doc, pm, an, cdv, ct, osl, rfl, lk, code⟩ := Fu.ex
  have inK := I.kIn
  refine wpAny_call (codeAny_call_function room.depth (inK _ _ lk) rfl Sc.co Sc.gen rfl (PySem.W.codeRec_of inK code) ?_)
  rw [hbind ks few kV doc pm an cdv ct ws l]
  unfold kwBind
  have hn := I.hok.fresh (Nat.le_refl s.heap.objs.size)
  have I1 := I.laid (a := s.heap.objs.size) (o := .dK []) (h' := s.heap.push { cls := .type "dict", data := .dict #[] }) (t' := s.toks) (fun _ _ q => Heap.get?_push_of_some _ q) (Nat.le_refl _) (dk_empty s.heap I.big)
  refine wpAny_bind (wpAny_alloc ?_)
  have hm : (s.heap.objs.size == sysModules) = false := beq_eq_false_iff_ne.mpr (Nat.ne_of_gt I.big)
  have dd0 : (s.heap.push { cls := .type "dict", data := .dict #[] }).DictOf (mixKind X.prog X.w) s.heap.objs.size [] := Heap.DictOf.new s.heap
  have ndz : ((([] : List (Key × Value)).map fun q : Key × Value => q.1) ++ (ks.zip ws).map (fun r : Str × Value => (Sum.inr r.1 : Key))).Nodup := by
    have e : (ks.zip ws).map (fun r : Str × Value => (Sum.inr r.1 : Key)) = ks.map Sum.inr := by
      have e2 : (fun r : Str × Value => (Sum.inr r.1 : Key)) = (Sum.inr ∘ Prod.fst) := rfl
      rw [e2, ← List.map_map, List.map_fst_zip (by omega)]
    rw [List.map_nil, List.nil_append, e]
    exact List.pairwise_map.mpr (nd.imp fun h c => h (Sum.inr.inj c))
  refine wpAny_bind (kwLay_dict (s := { s with heap := s.heap.push { cls := .type "dict", data := .dict #[] } }) dd0 ndz fun h' tk dd sb => ?_)
  rw [List.nil_append] at dd
  have he : ∃ q, h'.get? s.heap.objs.size = some q := let ⟨q, _, _, hq, _⟩ := dd; ⟨q, hq⟩
  have I3 : Inv X pins σ (upd (upd H s.heap.objs.size (.dK [])) s.heap.objs.size (.dK (kz ks zs))) { s with heap := h', toks := tk } :=
    d_write (s := { s with heap := s.heap.push { cls := .type "dict", data := .dict #[] } }) I1 (by rw [upd_same]; exact True.intro) sb he (dk_new (Nat.le_trans (kz_len' few) (by decide)) hm (kz_kv r ks) dd)
  have want := q s.heap.objs.size (upd (upd H s.heap.objs.size (.dK [])) s.heap.objs.size (.dK (kz ks zs))) hn (fun b o e => by
    have nb := ne_of_none e hn
    rw [upd_ne nb, upd_ne nb]
    exact e) upd_same
  generalize upd (upd H s.heap.objs.size (.dK [])) s.heap.objs.size (.dK (kz ks zs)) = H3 at I3 want
  refine wpAny_pure ?_
  refine wpAny_newFunctionEnv_cells Sc.kind (fun ⟨n, v⟩ hy => (Sc.par n (by
    have : n = y := by
      have := List.mem_singleton.mp hy
      exact congrArg Prod.fst this
    rw [this]
    exact .head _)).elim .inl fun q => .inr ⟨q, PySem.W.cellsFrom_some _ _ _ (.inl q)⟩) fun own same s1 x => ?_
  subst same
  have env := I3.env0
  obtain ⟨t, T, ad⟩ := body cdv X.A X.stack { s with heap := h', toks := tk } H3 (WE Wx σ) hG (room.deeper _)
  obtain ⟨hl, D', as', ws', μ', k', r', g'⟩ := want
  rw [eF] at g'
  have wish := def_in (N := N) (ps := [y]) ad rfl k' r' g'
  have begun : Inv (cxOf (L2.CX X.prog X.w) X.prog X.w X.K X.mg X.base N qual (defScope st) f cdv X.A X.stack { s with heap := h', toks := tk } H3 (WE Wx σ)) [] (start N [.ref s.heap.objs.size]) H3 s1 := inv_start (us := [.ref s.heap.objs.size]) Sc room.hd env rfl (.cons rfl .nil) x
  refine ⟨(env.mod.nolimit.keeps fun c o e => (env.bs c o e).1).keeps x.toInCall.keep, codeAny_func (wpAny_mono (T.run [] s1 _ H3 _ begun wish) (fun fl s2 ends => ?_) fun e s' z => wpAny_mono z (fun _ s'' q => passAt tks σ pins H3 _ _ s'' I3 q) fun _ s'' q => passAt tks σ pins H3 _ _ s'' I3 q)⟩
  match fl, ends with
  | .ret _, ⟨v, _, H2, J, rv, q⟩ => exact I3.after ⟨v, H2, J.os, J.bare, J.base, J.hok, rv, q⟩
  | .next, ⟨_, H2, J, q⟩ => exact I3.after ⟨V.non, H2, J.os, J.bare, J.base, J.hok, rfl, q⟩
  | .brk, ⟨_, _, _, q⟩ => exact q.elim
  | .cont, ⟨_, _, _, q⟩ => exact q.elim
def tStatic (ks : List Str) (sp : Sp) (W : WX) (tk : TA) : TE := fun σ H Q => tk σ H fun zs H1 => zs.length = ks.length ∧ ∀ d H', H1 d = none → Same H1 H' → H' d = some (.dK (kz ks zs)) → sp [.ref d] H' Q (WE W σ)
/-- a staticmethod of keywords alone, with a pure promise -/
structure KS (P : Program) (w : World) (K : PySem.W.Frag) (mg : Str → Option Value) (base : Heap) (C : Addr) (m : Str) (k : Nat) (F : FF) : Prop where
  ex : ∃ (f p : Addr) (mc : Value) (y : Str), KwP P w K mg base k f y F ∧ ClX.CRead K C mc ∧ SMet K C mc m p f
theorem pe_static {o : Expr} {m y : Str} {kws : List Keyword} {apos : Pos} {tk : TA} {p : Addr} {mc : Value} {pl : Sem Bool} {FF' : FF} (he : PE X o (tC (.ref C))) (r : ClX.CRead X.K C mc) (c : SMet X.K C mc m p f) (D : KwP X.prog X.w X.K X.mg X.base k f y FF') (hG : X.A.guards = some []) (room : Room (k + 1) X.A) (tks : Takes X Wx) (few : ks.length ≤ 9) (nd : ks.Nodup)
    (hkw : PK X kws tk) (hall : (backToKw pos (keywordEach kws X.env)).all (·.1.isSome) = true := by rfl) (hks : (backToKw pos (keywordEach kws X.env)).filterMap (·.1) = ks := by rfl)
    (hpl : ((backTo pos (starEach [] X.env)).any (·.1) || (backToKw pos (keywordEach kws X.env)).any (·.1.isNone)) = false := by rfl)
    (ht : eval (.Call (.Attribute o m apos) [] kws pos) X.env = (do
      let ov ← eval o X.env
      standAt apos.atName
      let (f, first) ← holding [ov] (getMethod ov m pl)
      callWith pos f first (backTo pos (starEach [] X.env)) (backToKw pos (keywordEach kws X.env))) := by rfl) : PE X (.Call (.Attribute o m apos) [] kws pos) (tStatic ks (spP 1 FF') Wx tk) := by
  refine ⟨fun pins s σ H Q I h => ?_⟩
  refine PySem.W.methodCall_KW (pl := pl) (thn (he.run pins s σ H (fun y H1 => y = .ref C ∧ H1 = H) I ⟨rfl, rfl⟩) fun u s1 ⟨x, H1, I1, rx, ex, eh⟩ => ?_) ht
  subst ex eh
  obtain rfl : u = Value.ref C := rx
  refine getmethsm_ok I1 r c fun s2 I2 => ?_
  refine PySem.W.callWith_KW0 (first := []) (h₀ := X.base) I.ok.mod.kin c.kp hall (thn (hkw.run pos pins s2 σ H1 _ I2 h) fun ws s3 ⟨zs, H2, I3, rz, l2, q2⟩ => ⟨I3.kIn, ?_⟩) hpl
  rw [hks]
  exact run_kwP D hG room tks few nd I3 rz (rz.length.symm.trans l2) q2
/-- names with values, as a dict -/
def kzP (ks : List Str) (ps : List P) : List (Key × P) := (ks.zip ps).map fun p => (Sum.inr p.1, p.2)
theorem repK_kz {D : Addr → Prop} {H : Hp} : ∀ {ks : List Str} {vs : List V} {ps : List P}, Reps D H vs ps → RepK D H (kz ks vs) (kzP ks ps)
  | [], _, _, _ => .nil
  | _ :: _, _, _, .nil => .nil
  | _ :: _, _, _, .cons r t => .cons r (repK_kz t)
def fStatic (F : FF) (ks : List Str) (A : AF) : EF := fun γ μ => (A γ μ).bind fun ws m => match vals ws with
  | some ps => if ps.length = ks.length then F [.v (.dct (kzP ks ps))] m else .bad
  | none => .bad
theorem ad_static {FF' : FF} {t : TA} (ha : AdA Wx t A) : Ad Wx (tStatic ks (spP 1 FF') Wx t) (fStatic FF' ks A) := fun D as γ μ σ H Q k ev g => by
  refine ha D as γ μ σ H _ k ev ((G.bind RepWs k g).mono fun vs H1 ⟨D1, as1, μ1, ws, n1, k1, r1, g1⟩ => ?_)
  split at g1
  · rename_i ps e
    split at g1
    · rename_i hl
      have rs := vals_ok r1 e
      refine ⟨rs.length.trans hl, fun d H' nd sm hd => ⟨rfl, D1, as1, [.v (.dct (kzP ks ps))], μ1, k1.same sm, .cons (show Rep D1 H' (.ref d) (.dct (kzP ks ps)) from .dct (k1.nd nd) (.inl hd) (RepK.sd (.same sm) (repK_kz rs))) .nil, ?_⟩⟩
      have g2 := G.nx k1 (k1.same sm) (Nx.of_same sm) g1
      cases o : FF' [.v (.dct (kzP ks ps))] μ1 with
      | ok w m => rw [o] at g2; exact g2
      | exc C fs m => rw [o] at g2; exact g2
      | bad => rw [o] at g2; exact g2
    · exact g1.elim
  · exact g1.elim
theorem pp_static {o : Expr} {m : Str} {kws : List Keyword} {apos : Pos} {pl : Sem Bool} {FF' : FF} (d : KS X.prog X.w X.K X.mg X.base C m k FF') (he : PE X o (tC (.ref C))) (hG : X.A.guards = some []) (room : Room (k + 1) X.A) (tks : Takes X Wx) (ha : PPK X Wx kws A) (few : ks.length ≤ 9 := by decide) (nd : ks.Nodup := by decide)
    (hall : (backToKw pos (keywordEach kws X.env)).all (·.1.isSome) = true := by rfl) (hks : (backToKw pos (keywordEach kws X.env)).filterMap (·.1) = ks := by rfl)
    (hpl : ((backTo pos (starEach [] X.env)).any (·.1) || (backToKw pos (keywordEach kws X.env)).any (·.1.isNone)) = false := by rfl)
    (ht : eval (.Call (.Attribute o m apos) [] kws pos) X.env = (do
      let ov ← eval o X.env
      standAt apos.atName
      let (f, first) ← holding [ov] (getMethod ov m pl)
      callWith pos f first (backTo pos (starEach [] X.env)) (backToKw pos (keywordEach kws X.env))) := by rfl) : PP X Wx (.Call (.Attribute o m apos) [] kws pos) (fStatic FF' ks A) := by
  obtain ⟨f, p, mc, y, D, r, c⟩ := d.ex
  obtain ⟨_, pa, aa⟩ := ha
  exact ⟨_, pe_static he r c D hG room tks few nd pa hall hks hpl ht, ad_static aa⟩
end
/-! what a staticmethod's class says -/
theorem rdB_ok {K : PySem.W.Frag} {C : Addr} (h : rdB K C = true) : ClX.CRead K C (.type "type") := ⟨(He.ba h).1, He.eqO_ok (He.ba h).2⟩
theorem kwFor (d : Addr) : ∀ l : List (Str × Value), (forIn l PUnit.unit fun (p : Str × Value) (_ : PUnit) => (nsSet d p.1 p.2 >>= fun _ => pure (ForInStep.yield PUnit.unit) : Sem (ForInStep PUnit))) = kwLay d l
  | [] => rfl
  | p :: r => by
    rw [List.forIn_cons, bind_assoc]
    show (nsSet d p.1 p.2 >>= fun _ => (pure (ForInStep.yield PUnit.unit) >>= fun (x : ForInStep PUnit) => _)) = (nsSet d p.1 p.2 >>= fun _ => kwLay d r)
    congr 1
    funext _
    rw [pure_bind]
    exact kwFor d r
def kwB (y : Str) (l : List (Str × Value)) : Sem (List (Str × Value)) := alloc { cls := .type "dict", data := .dict #[] } >>= fun d =>
  (forIn l PUnit.unit fun (p : Str × Value) (_ : PUnit) => (nsSet d p.1 p.2 >>= fun _ => pure (ForInStep.yield PUnit.unit) : Sem (ForInStep PUnit))) >>= fun _ => pure [(y, Value.ref d)]
theorem kwB_eq (y : Str) (l : List (Str × Value)) : kwB y l = kwBind y l := by
  unfold kwB kwBind
  congr 1
  funext d
  rw [kwFor]
end Pu
set_option Elab.async false
set_option linter.all false
set_option maxRecDepth 100000
set_option maxHeartbeats 4000000
namespace Pu
open L2 PySem PySem.Spec PyProof.Rows E10
/-! ### d.update(e) of a dict -/
section
variable {prog : Program} {w : World} {K : Type} [DecidableEq K] {knd : KeyKind prog w K} {A : Around} {E : Value → Shared → Prop} {s : Shared}
theorem call_updateK {d o : Addr} {kvs more : List (K × Value)} {Q : Value → Shared → Prop} (hdo : d ≠ o) (hoS : (o == sysModules) = false)
    (hd : s.heap.DictOf knd d kvs) (ho : s.heap.DictOf knd o more) (hsz : kvs.length + more.length ≤ sizeLine)
    (h : ∀ h', h'.DictOf knd d (merged kvs more) → h'.DictOf knd o more → Heap.SameBut d s.heap h' → Q .none { s with heap := h' }) :
    wpAny (model prog w) A (call (.builtin "dict.update") [.ref d, .ref o]) Q E s := by
  refine call_meetsIn PySem.F.slot_dict_update hd.typeIs PySem.F.entry_dict_update (PySem.F.args_dict_update_2 _ _)
    (S := fun A' R s' => A' = A ∧ s' = s ∧ ∀ h', h'.DictOf knd d (merged kvs more) → h'.DictOf knd o more → Heap.SameBut d s.heap h' → R (.ok (.ret .none)) { s with heap := h' })
    (fun A' R s' hS => ?_) ⟨rfl, rfl, h⟩
  obtain ⟨rfl, rfl, hq⟩ := hS
  refine meets_dict_update_arg hd.typeIs ?_
  unfold Builtin.Dict.updateFrom
  refine wpAny_bind (wpAny_typeOf ho.typeIs ?_)
  rw [if_neg (by decide)]
  refine wpAny_bind ?_
  unfold Builtin.Dict.merge
  refine wpAny_bind ?_
  · unfold Builtin.Dict.readDirectly
    refine wpAny_bind (wpAny_isInstance ho.typeIs PySem.F.sub_dict_dict ?_)
    simp only [Bool.not_true, Bool.false_eq_true, if_false]
    refine wpAny_bind (wpAny_specialOf ho.typeIs PySem.F.slot_dict_iter.lookup (wpAny_pure ?_))
    simp only [beq_self_eq_true, if_true]
    refine wpAny_bind (wpAny_pure ?_)
    refine wpAny_mergeDict (hsz := hsz) hdo hoS hd ho fun h' hd' ho' hs' => ?_
    show wpAny _ _ (Builtin.Dict.addKeywords d [] >>= _) _ _ _
    exact wpAny_bind (wpAny_pure (wpAny_pure (hq h' hd' ho' hs')))
end
section
variable {X : Cx} {Wx : WX} {o e : Expr} {F1 F2 : EF} {apos cpos : Pos}
def rDUpdate : V → List V → Hp → VK → Prop := fun x vs H Q => ∃ a b kvs more, x = .ref a ∧ vs = [.ref b] ∧ a ≠ b ∧ H a = some (.dK kvs) ∧ Rd H b (.dK more) ∧ kvs.length + more.length ≤ sizeLine ∧ Q .non (upd H a (.dK (mergeK kvs more)))
theorem mt_update : MtR X "dict.update" rDUpdate := by
  intro pins s σ H x vs v us Q I rx rv h
  obtain ⟨a, b, kvs, more, ex, ev, ne, e1, e2, sz, q⟩ := h
  subst ex
  subst ev
  obtain rfl : v = Value.ref a := rx
  obtain ⟨u, rfl, ru⟩ := vals1 rv
  obtain rfl : u = Value.ref b := ru
  obtain ⟨z, hd, va, ra, da⟩ := dk_of I.hok e1
  obtain ⟨_, zb, vb, rb, db⟩ := dk_rd I.hok e2
  refine call_updateK (knd := mixKind X.prog X.w) ne zb da db (by rw [← ra.length, ← rb.length]; exact sz) fun h' hd' _ hs => ?_
  have he : ∃ q, h'.get? a = some q := let ⟨q, _, _, hq, _⟩ := hd'; ⟨q, hq⟩
  refine ⟨.non, _, d_write (t' := s.toks) I (by rw [e1]; exact True.intro) hs he (dk_new ?_ hd (KV.merge rb ra) hd'), rfl, q⟩
  exact Nat.le_trans (length_mergeK more kvs) sz
def mDUpdate : W → List W → Μ → O W := fun w ws μ => match wD μ w, ws with
  | some (j, ps), [.v (.dct qs)] => if ps.length + qs.length ≤ 100000 then .ok (.v .non) (μ.set j (.dct (mergeP ps qs))) else .bad
  | _, _ => .bad
theorem am_update : AdM Wx rDUpdate mDUpdate := fun D as μ σ H x w vs ws Q k rx rv g => by
  unfold mDUpdate at g
  split at g
  · rename_i j ps qs e
    split at g
    · rename_i hl
      obtain ⟨a, xs, rfl, ea, ha, rs⟩ := wD_ok k rx e
      obtain ⟨v, rfl, rv2⟩ := repWs1 rv
      obtain ⟨b, ys, rfl, nb, hb, rq⟩ := rep_dct (show Rep D H v (.dct qs) from rv2)
      have ne : a ≠ b := fun z => nb (z ▸ k.inD _ _ ea)
      refine ⟨a, b, xs, ys, rfl, rfl, ne, ha, hb, sz_of (by rw [rs.length, rq.length]; exact hl), ?_⟩
      obtain ⟨n, k'⟩ := cell_set (o := .dK (mergeK xs ys)) (u := .lst []) (c := .dct (mergeP ps qs)) k ea (nofz (by assumption) (fun _ _ z => by cases z)) fun D' H' s e' => ⟨_, e', RepK.merge (RepK.sd s rq) (RepK.sd s rs)⟩
      exact g .non D as _ n k' (show Rep _ _ _ _ from .non)
    · exact g.elim
  · exact g.elim
theorem pp_dupdate (ho : PP X Wx o F1) (he : PP X Wx e F2) (hbase : attributeBase o "update" X.env (eval o X.env) = eval o X.env := by rfl)
    (hfew : ((backTo cpos (starEach [e] X.env)).all (fun x => !x.1) && (backToKw cpos (keywordEach [] X.env)).all (fun x => x.1.isSome)
      && decide ([e].length + ([] : List Keyword).length + (if ([] : List Keyword).isEmpty then 0 else 1) < 30)) = true := by rfl)
    (hline : (apos.endLine == cpos.line) = true := by rfl) (hs : starEach [e] X.env = (false, eval e X.env) :: starEach [] X.env := by rfl) (hpl : (backTo cpos (starEach [] X.env)).any (·.1) = false := by rfl) :
    PP X Wx (.Call (.Attribute o "update" apos) [e] [] cpos) (fBM "dict" mDUpdate F1 (fCons F2 fNil)) := by
  refine pp_bm PySem.F.plainAttrs_dict PySem.F.slot_dict_update PySem.F.type_dict_update mt_update am_update ho (ppa_cons he ppa_nil hs) ?_ ?_ ?_ ?_ ?_
  all_goals assumption
end
end Pu
set_option Elab.async false
set_option linter.all false
set_option maxRecDepth 100000
set_option maxHeartbeats 4000000
set_option Elab.async false
set_option linter.all false
set_option maxRecDepth 100000
set_option maxHeartbeats 4000000
/-! ### the length of a set of texts -/
set_option Elab.async false
set_option linter.all false
set_option maxRecDepth 100000
set_option maxHeartbeats 8000000
namespace Pu
open L2 PySem PySem.Spec PyProof.Rows E10
open He (ga ma)
section
variable {P : Program} {w : World} {K : PySem.W.Frag} {mg : Str → Option Value} {base : Heap}
theorem ow (c : obsK K = val0) : Own K [(ga K "Earliest"), (ga K "Term")] := ownsB_ok (bOwns c)
theorem cl_Earliest (c : obsK K = val0) : Cls K (ga K "Earliest") := ((ow c).ins _ (by simp)).cls
theorem in_Earliest (c : obsK K = val0) : IntK K (ga K "Earliest") := firB_ok (bFir_Earliest c)
theorem na_Earliest__shifts (c : obsK K = val0) : NoAttr K (ga K "Earliest") "_shifts" := He.eqO_ok (bNo_Earliest__shifts c)
theorem eq_Earliest (c : obsK K = val0) : EqK K (ga K "Earliest") [(ga K "Earliest"), (ga K "Term")] := eqsB_ok (bOwns c) (bEqs_Earliest c)
theorem radd_Earliest (c : obsK K = val0) : Refl K (ga K "Earliest") (dunderR "add") := refl_has (bRadd_Earliest c)
theorem rsub_Earliest (c : obsK K = val0) : Refl K (ga K "Earliest") (dunderR "sub") := refl_no (bRsub_Earliest c)
theorem hadd_Earliest (c : obsK K = val0) : Has K (ga K "Earliest") (ma K (ga K "Earliest") (PySem.dunder "add")) (PySem.dunder "add") := mB_ok (bHadd_Earliest c)
theorem fi_Earliest (c : obsK K = val0) : ∀ f, Has K (ga K "Earliest") f "__getitem__" → PySem.W.fnIn K f = true := fun f h => by
  have e := h.at_.symm.trans (mB_ok (bSp_Earliest___getitem__ c)).at_
  cases e
  exact bFi_Earliest c
theorem cl_Term (c : obsK K = val0) : Cls K (ga K "Term") := ((ow c).ins _ (by simp)).cls
theorem na_Term__moment (c : obsK K = val0) : NoAttr K (ga K "Term") "_moment" := He.eqO_ok (bNo_Term__moment c)
theorem na_Term__shift (c : obsK K = val0) : NoAttr K (ga K "Term") "_shift" := He.eqO_ok (bNo_Term__shift c)
/-- what the law leans on of the errors -/
structure ErK (K : PySem.W.Frag) : Prop where
  ne_Earliest_Term : (ga K "Earliest") ≠ (ga K "Term")
theorem erK (c : obsK K = val0) : ErK K := ⟨of_decide_eq_true (bNe_Earliest_Term c)⟩
end
end Pu
set_option Elab.async false
set_option linter.all false
set_option maxRecDepth 100000
set_option maxHeartbeats 8000000
namespace Pu
open L2 PySem PySem.Spec PyProof.Rows E10
open He (ga ma)
section
variable {P : Program} {w : World} {K : PySem.W.Frag} {mg : Str → Option Value} {base : Heap}
/-! _law_pot -/
def N__law_pot : List Str := ["_law_script", "_law_k", "_law_cell"]
theorem sc__law_pot : FnScope N__law_pot ["_law_script", "_law_k"] (defScope s__law_pot) := ⟨rfl, rfl, rfl, by decide +kernel, rfl, by decide +kernel, by decide +kernel⟩
noncomputable def D__law_pot (P : Program) (w : World) (K : PySem.W.Frag) : FF := fDef 2 3 (sSeq (sSet 2 (fOp gAdd (fOp gMul (fC (.int 53)) (fVar 1)) (fC (.int 11))))
      (sSeq (sIfS (fTest (fOp gLt (fVar 1) (fCall gLen (fCons (fVar 0) fNil)))) (sSet 2 (fCall fAbs (fCons (fOp gIx (fVar 0) (fVar 1)) fNil))) sNext)
      (sRet (fLstC (fCons (fCall gMax (fCons (fC (.int 0)) (fCons (fOp fSub (fVar 2) (fOp fPow (fC (.int 10)) (fC (.int 18)))) fNil))) (fCons (fOp gAdd (fOp fMod (fCall fInt (fCons (fOp gAdd (fOp gAdd (fOp gMul (fOp fMod (fCall fInt (fCons (fVar 2) fNil)) (fC (.int 2147483563))) (fC (.int 42013))) (fOp gMul (fC (.int 13007)) (fVar 1))) (fC (.int 41))) fNil)) (fC (.int 2147483629))) (fC (.int 1))) fNil))))))
theorem fx__law_pot (XI : K.In base) (GN : base.Ns mainGlobals mg) (c : obsK K = val0) {fd : FuncData} {f : Addr} (F : Fun K "_law_pot" "_law_pot" s__law_pot f fd) : FnX P w K mg base 1 f fd ["_law_script", "_law_k"] (spP 2 (D__law_pot P w K)) :=
    (Fun.pp F sc__law_pot (fun cdv A fr s H E hG hr => by
      have hu : A.units + 3 + 64 < cLine := hr.units
      exact (pps_cons (ppq_set (i := 2) sc__law_pot.nd rfl (Or.inl rfl) (pp_add (pp_mul pp_int (pp_v 1)) pp_int))
      (pps_cons (ppq_if (pt_lt (pp_v 1) (pp_len' rfl (f_len XI GN c) (ppa_cons (pp_v 0) ppa_nil))) (pps_one (ppq_set (i := 2) sc__law_pot.nd rfl (Or.inl rfl) (pp_abs rfl (f_abs XI GN c) (ppa_cons (pp_idx (Nat.lt_of_le_of_lt (Nat.add_le_add_left (by decide) _) hu) (pp_v 0) (pp_v 1)) ppa_nil)))) pps_nil)
      (pps_one (ppq_ret (pp_lstC (ppa_cons (pp_max rfl rfl (f_max XI GN c) (ppa_cons pp_int (ppa_cons (pp_sub (pp_v 2) (pp_pow pp_int pp_int)) ppa_nil))) (ppa_cons (pp_add (pp_mod (pp_intc rfl (f_int XI GN c) (ppa_cons (pp_add (pp_add (pp_mul (pp_mod (pp_intc rfl (f_int XI GN c) (ppa_cons (pp_v 2) ppa_nil)) pp_int) pp_int) (pp_mul pp_int (pp_v 1))) pp_int) ppa_nil)) pp_int) pp_int) ppa_nil)))))))))
theorem t__law_pot (XI : K.In base) (GN : base.Ns mainGlobals mg) (c : obsK K = val0) : DP P w K mg base "_law_pot" 2 1 (D__law_pot P w K) := by
  obtain ⟨fd, F⟩ := F__law_pot c
  exact ⟨_, fd, _, rfl, (fx__law_pot XI GN c F), g__law_pot XI GN c, F.kp, F.binds (by intro _ _ _ _ _ _ us hl; first | (match us, hl with | [_], _ => rfl) | (match us, hl with | [_, _], _ => rfl) | (match us, hl with | [_, _, _], _ => rfl) | (match us, hl with | [_, _, _, _], _ => rfl) | (match us, hl with | [_, _, _, _, _], _ => rfl) | (match us, hl with | [_, _, _, _, _, _], _ => rfl) | (match us, hl with | [_, _, _, _, _, _, _], _ => rfl) | (match us, hl with | [_, _, _, _, _, _, _, _], _ => rfl) | (match us, hl with | [_, _, _, _, _, _, _, _, _], _ => rfl))⟩
/-! _law_draw -/
def N__law_draw : List Str := ["_law_pot_here", "_law_many", "_law_digit"]
theorem sc__law_draw : FnScope N__law_draw ["_law_pot_here", "_law_many"] (defScope s__law_draw) := ⟨rfl, rfl, rfl, by decide +kernel, rfl, by decide +kernel, by decide +kernel⟩
noncomputable def D__law_draw (P : Program) (w : World) (K : PySem.W.Frag) : FF := fDef 2 3 (sSeq (sIfS (fTest (fOp gGt (fOp gIx (fVar 0) (fC (.int 0))) (fC (.int 0)))) (sSeq (sSubName 2 (fCall fDivmod (fCons (fOp gIx (fVar 0) (fC (.int 0))) (fCons (fVar 1) fNil))) (fVar 0) (fC (.int 0)))
        (sRet (fVar 2))) sNext)
      (sSeq (sLPutP (fOp fMod (fCall fInt (fCons (fOp gAdd (fOp gMul (fOp gIx (fVar 0) (fC (.int 1))) (fC (.int 45989))) (fC (.int 24001))) fNil)) (fC (.int 2147483629))) (fVar 0) (fC (.int 1)))
      (sRet (fOp fMod (fCall fInt (fCons (fOp fDiv (fOp fMod (fCall fInt (fCons (fOp gMul (fOp gIx (fVar 0) (fC (.int 1))) (fOp gIx (fVar 0) (fC (.int 1)))) fNil)) (fC (.int 2147483549))) (fC (.int 17))) fNil)) (fVar 1)))))
theorem fx__law_draw (XI : K.In base) (GN : base.Ns mainGlobals mg) (c : obsK K = val0) {fd : FuncData} {f : Addr} (F : Fun K "_law_draw" "_law_draw" s__law_draw f fd) : FnX P w K mg base 1 f fd ["_law_pot_here", "_law_many"] (spP 2 (D__law_draw P w K)) :=
    (Fun.pp F sc__law_draw (fun cdv A fr s H E hG hr => by
      have hu : A.units + 3 + 64 < cLine := hr.units
      exact (pps_cons (ppq_if (pt_gt (pp_idx (Nat.lt_of_le_of_lt (Nat.add_le_add_left (by decide) _) hu) (pp_v 0) pp_int) pp_int) (pps_cons (ppq_subName (i := 2) (pp_divmod rfl (f_divmod XI GN c) (ppa_cons (pp_idx (Nat.lt_of_le_of_lt (Nat.add_le_add_left (by decide) _) hu) (pp_v 0) pp_int) (ppa_cons (pp_v 1) ppa_nil))) (pp_v 0) pp_int rfl sc__law_draw.nd rfl (Or.inl rfl))
        (pps_one (ppq_ret (pp_v 2)))) pps_nil)
      (pps_cons (ppq_lput (pp_mod (pp_intc rfl (f_int XI GN c) (ppa_cons (pp_add (pp_mul (pp_idx (Nat.lt_of_le_of_lt (Nat.add_le_add_left (by decide) _) hu) (pp_v 0) pp_int) pp_int) pp_int) ppa_nil)) pp_int) (pp_v 0) pp_int)
      (pps_one (ppq_ret (pp_mod (pp_intc rfl (f_int XI GN c) (ppa_cons (pp_div (pp_mod (pp_intc rfl (f_int XI GN c) (ppa_cons (pp_mul (pp_idx (Nat.lt_of_le_of_lt (Nat.add_le_add_left (by decide) _) hu) (pp_v 0) pp_int) (pp_idx (Nat.lt_of_le_of_lt (Nat.add_le_add_left (by decide) _) hu) (pp_v 0) pp_int)) ppa_nil)) pp_int) pp_int) ppa_nil)) (pp_v 1))))))))
theorem t__law_draw (XI : K.In base) (GN : base.Ns mainGlobals mg) (c : obsK K = val0) : DP P w K mg base "_law_draw" 2 1 (D__law_draw P w K) := by
  obtain ⟨fd, F⟩ := F__law_draw c
  exact ⟨_, fd, _, rfl, (fx__law_draw XI GN c F), g__law_draw XI GN c, F.kp, F.binds (by intro _ _ _ _ _ _ us hl; first | (match us, hl with | [_], _ => rfl) | (match us, hl with | [_, _], _ => rfl) | (match us, hl with | [_, _, _], _ => rfl) | (match us, hl with | [_, _, _, _], _ => rfl) | (match us, hl with | [_, _, _, _, _], _ => rfl) | (match us, hl with | [_, _, _, _, _, _], _ => rfl) | (match us, hl with | [_, _, _, _, _, _, _], _ => rfl) | (match us, hl with | [_, _, _, _, _, _, _, _], _ => rfl) | (match us, hl with | [_, _, _, _, _, _, _, _, _], _ => rfl))⟩
/-! _law_choice -/
def N__law_choice : List Str := ["_law_pot_here", "_law_some"]
theorem sc__law_choice : FnScope N__law_choice ["_law_pot_here", "_law_some"] (defScope s__law_choice) := ⟨rfl, rfl, rfl, by decide +kernel, rfl, by decide +kernel, by decide +kernel⟩
noncomputable def D__law_choice (P : Program) (w : World) (K : PySem.W.Frag) : FF := fDef 2 2 (sRet (fOp gIx (fVar 1) (fCall (D__law_draw P w K) (fCons (fVar 0) (fCons (fCall gLen (fCons (fVar 1) fNil)) fNil)))))
theorem fx__law_choice (XI : K.In base) (GN : base.Ns mainGlobals mg) (c : obsK K = val0) {fd : FuncData} {f : Addr} (F : Fun K "_law_choice" "_law_choice" s__law_choice f fd) : FnX P w K mg base 2 f fd ["_law_pot_here", "_law_some"] (spP 2 (D__law_choice P w K)) :=
    (Fun.pp F sc__law_choice (fun cdv A fr s H E hG hr => by
      have hu : A.units + 3 + 64 < cLine := hr.units
      exact (pps_one (ppq_ret (pp_idx (Nat.lt_of_le_of_lt (Nat.add_le_add_left (by decide) _) hu) (pp_v 1) (pp_call (t__law_draw XI GN c) hG (hr.mono (by decide)) (takes_of rfl rfl rfl rfl) rfl (ppa_cons (pp_v 0) (ppa_cons (pp_len' rfl (f_len XI GN c) (ppa_cons (pp_v 1) ppa_nil)) ppa_nil))))))))
theorem t__law_choice (XI : K.In base) (GN : base.Ns mainGlobals mg) (c : obsK K = val0) : DP P w K mg base "_law_choice" 2 2 (D__law_choice P w K) := by
  obtain ⟨fd, F⟩ := F__law_choice c
  exact ⟨_, fd, _, rfl, (fx__law_choice XI GN c F), g__law_choice XI GN c, F.kp, F.binds (by intro _ _ _ _ _ _ us hl; first | (match us, hl with | [_], _ => rfl) | (match us, hl with | [_, _], _ => rfl) | (match us, hl with | [_, _, _], _ => rfl) | (match us, hl with | [_, _, _, _], _ => rfl) | (match us, hl with | [_, _, _, _, _], _ => rfl) | (match us, hl with | [_, _, _, _, _, _], _ => rfl) | (match us, hl with | [_, _, _, _, _, _, _], _ => rfl) | (match us, hl with | [_, _, _, _, _, _, _, _], _ => rfl) | (match us, hl with | [_, _, _, _, _, _, _, _, _], _ => rfl))⟩
/-! _law_names -/
def N__law_names : List Str := ["_law_pot_here", "_law_many", "_law_letters", "_law_found", "_law_k", "_law_size", "_law_word", "_law_some", "_law_turn", "_law_letter", "_law_name"]
theorem sc__law_names : FnScope N__law_names ["_law_pot_here", "_law_many"] (defScope s__law_names) := ⟨rfl, rfl, rfl, by decide +kernel, rfl, by decide +kernel, by decide +kernel⟩
noncomputable def D__law_names (P : Program) (w : World) (K : PySem.W.Frag) : FF := fDef 2 11 (sSeq (sPar 2 3 (fCons (fC (.str "abcdefghijklmnopqrstuvwxyz")) (fCons (fLstC fNil) fNil)))
      (sSeq (sFor (iRg1 (fCons (fVar 1) fNil)) (tgName 4) (sSeq (sSet 5 (fCall (D__law_choice P w K) (fCons (fVar 0) (fCons (fSeq .lst (fCons (fC (.int 1)) (fCons (fC (.int 1)) (fCons (fC (.int 2)) (fCons (fC (.int 3)) (fCons (fC (.int 8)) fNil)))))) fNil))))
        (sSeq (sSet 6 (fJoin (fC (.str "")) (fLc (iRg1 (fCons (fVar 5) fNil)) (tgName 8) fYes (fCall (D__law_choice P w K) (fCons (fVar 0) (fCons (fVar 2) fNil))) [8])))
        (sSeq (sSet 7 (fOp gAdd (fSeq .lst (fCons (fVar 6) fNil)) (fLc (iAny (fVar 2)) (tgName 9) fYes (fOp gAdd (fOp gAdd (fSl gSlX (fVar 6) oNone (oSome (fC (.int 6)))) (fVar 9)) (fC (.str "q"))) [9])))
        (sDrop (fBM "list" mAppend (fVar 3) (fCons (fOp gIx (fLc (iAny (fVar 7)) (tgName 10) (fTest (fOp (gIn true) (fVar 10) (fVar 3))) (fVar 10) [10]) (fC (.int 0))) fNil)))))))
      (sFix 3 (sRet (fVar 3)))))
theorem fx__law_names (XI : K.In base) (GN : base.Ns mainGlobals mg) (c : obsK K = val0) {fd : FuncData} {f : Addr} (F : Fun K "_law_names" "_law_names" s__law_names f fd) : FnX P w K mg base 3 f fd ["_law_pot_here", "_law_many"] (spP 2 (D__law_names P w K)) :=
    (Fun.pp F sc__law_names (fun cdv A fr s H E hG hr => by
      have hu : A.units + 3 + 64 < cLine := hr.units
      exact (pps_cons (ppq_parT (i := 2) (j := 3) rfl sc__law_names.nd rfl rfl (by first | exact Or.inl rfl | exact Or.inr rfl) (by first | exact Or.inl rfl | exact Or.inr rfl) (by first | exact Or.inl rfl | exact Or.inr rfl) (by first | exact Or.inl rfl | exact Or.inr rfl) (ppa_cons pp_str (ppa_cons (pp_lstC ppa_nil) ppa_nil)))
      (pps_cons (ppq_for (g := (gName 4)) (passes_of rfl) rfl (ppi_range1 rfl (f_range XI GN c) (ppa_cons (pp_v 1) ppa_nil)) (pg_name (i := 4) sc__law_names.nd rfl (Or.inl rfl)) (ad_gName (i := 4) (by intro l e; cases e <;> decide))
        (pps_cons (ppq_set (i := 5) sc__law_names.nd rfl (Or.inl rfl) (pp_call (t__law_choice XI GN c) hG (hr.mono (by decide)) (takes_of rfl rfl rfl rfl) rfl (ppa_cons (pp_v 0) (ppa_cons (pp_lst (ppa_cons pp_int (ppa_cons pp_int (ppa_cons pp_int (ppa_cons pp_int (ppa_cons pp_int ppa_nil)))))) ppa_nil))))
        (pps_cons (ppq_set (i := 6) sc__law_names.nd rfl (Or.inr rfl) (pp_join pp_str (pp_lc (own := [("_law_turn", 8)]) (g := (gName 8)) rfl sc__law_names.nd (ppi_range1 rfl (f_range XI GN c) (ppa_cons (pp_v 5) ppa_nil)) (blkOk_by (own := [("_law_turn", 8)]) (by kernel_rfl)) (fun _ _ _ _ _ => (pg_name (i := 8) sc__law_names.nd rfl (by first | exact Or.inl rfl | exact Or.inr rfl))) (ad_gName (i := 8) (by intro l e; cases e <;> decide)) (fun _ _ _ _ _ => ppts_nil) (fun _ _ _ _ _ => (pp_call (t__law_choice XI GN c) hG (hr.mono (by decide)) takes0 rfl (ppa_cons (pp_v 0) (ppa_cons (pp_v 2) ppa_nil)))))))
        (pps_cons (ppq_set (i := 7) sc__law_names.nd rfl (Or.inl rfl) (pp_add (pp_lst (ppa_cons (pp_v 6) ppa_nil)) (pp_lc (own := [("_law_letter", 9)]) (g := (gName 9)) rfl sc__law_names.nd (ppi_any (pp_v 2)) (blkOk_by (own := [("_law_letter", 9)]) (by kernel_rfl)) (fun _ _ _ _ _ => (pg_name (i := 9) sc__law_names.nd rfl (by first | exact Or.inl rfl | exact Or.inr rfl))) (ad_gName (i := 9) (by intro l e; cases e <;> decide)) (fun _ _ _ _ _ => ppts_nil) (fun _ _ _ _ _ => (pp_add (pp_add (pp_slX (pp_v 6) ppo_none (ppo_some pp_int)) (pp_v 9)) pp_str)))))
        (pps_one (ppq_expr (pp_append (pp_v 3) (pp_idx (Nat.lt_of_le_of_lt (Nat.add_le_add_left (by decide) _) hu) (pp_lc (own := [("_law_name", 10)]) (g := (gName 10)) rfl sc__law_names.nd (ppi_any (pp_v 7)) (blkOk_by (own := [("_law_name", 10)]) (by kernel_rfl)) (fun _ _ _ _ _ => (pg_name (i := 10) sc__law_names.nd rfl (by first | exact Or.inl rfl | exact Or.inr rfl))) (ad_gName (i := 10) (by intro l e; cases e <;> decide)) (fun _ _ _ _ _ => (ppts_one (pt_notIn (Nat.lt_of_le_of_lt (Nat.add_le_add_left (by decide) _) hu) (pp_v 10) (pp_v 3)))) (fun _ _ _ _ _ => (pp_v 10))) pp_int))))))))
      (pps_one (ppq_fix (i := 3) (ppq_ret (pp_v 3))))))))
theorem t__law_names (XI : K.In base) (GN : base.Ns mainGlobals mg) (c : obsK K = val0) : DP P w K mg base "_law_names" 2 3 (D__law_names P w K) := by
  obtain ⟨fd, F⟩ := F__law_names c
  exact ⟨_, fd, _, rfl, (fx__law_names XI GN c F), g__law_names XI GN c, F.kp, F.binds (by intro _ _ _ _ _ _ us hl; first | (match us, hl with | [_], _ => rfl) | (match us, hl with | [_, _], _ => rfl) | (match us, hl with | [_, _, _], _ => rfl) | (match us, hl with | [_, _, _, _], _ => rfl) | (match us, hl with | [_, _, _, _, _], _ => rfl) | (match us, hl with | [_, _, _, _, _, _], _ => rfl) | (match us, hl with | [_, _, _, _, _, _, _], _ => rfl) | (match us, hl with | [_, _, _, _, _, _, _, _], _ => rfl) | (match us, hl with | [_, _, _, _, _, _, _, _, _], _ => rfl))⟩
/-! _law_number -/
def N__law_number : List Str := ["_law_pot_here", "_law_way", "_law_small", "_law_great"]
theorem sc__law_number : FnScope N__law_number ["_law_pot_here"] (defScope s__law_number) := ⟨rfl, rfl, rfl, by decide +kernel, rfl, by decide +kernel, by decide +kernel⟩
noncomputable def D__law_number (P : Program) (w : World) (K : PySem.W.Frag) : FF := fDef 1 4 (sSeq (sPar 1 2 (fCons (fCall (D__law_draw P w K) (fCons (fVar 0) (fCons (fC (.int 5)) fNil))) (fCons (fOp fSub (fCall (D__law_draw P w K) (fCons (fVar 0) (fCons (fC (.int 9)) fNil))) (fC (.int 4))) fNil)))
      (sSeq (sIfS (fTest (fOp gLt (fVar 1) (fC (.int 3)))) (sRet (fOp gIx (fSeq .lst (fCons (fC (.int 0)) (fCons (fVar 2) (fCons (fVar 2) fNil)))) (fVar 1))) sNext)
      (sSeq (sSet 3 (fOp gAdd (fOp gMul (fCall (D__law_draw P w K) (fCons (fVar 0) (fCons (fOp fPow (fC (.int 10)) (fC (.int 6))) fNil))) (fOp fPow (fC (.int 10)) (fC (.int 54)))) (fCall (D__law_draw P w K) (fCons (fVar 0) (fCons (fOp fPow (fC (.int 10)) (fC (.int 6))) fNil)))))
      (sRet (fIf (fTest (fOp (gEqX false) (fVar 1) (fC (.int 3)))) (fVar 3) (fUn fNeg (fVar 3)))))))
theorem fx__law_number (XI : K.In base) (GN : base.Ns mainGlobals mg) (c : obsK K = val0) {fd : FuncData} {f : Addr} (F : Fun K "_law_number" "_law_number" s__law_number f fd) : FnX P w K mg base 2 f fd ["_law_pot_here"] (spP 1 (D__law_number P w K)) :=
    (Fun.pp F sc__law_number (fun cdv A fr s H E hG hr => by
      have hu : A.units + 3 + 64 < cLine := hr.units
      exact (pps_cons (ppq_par (i := 1) (j := 2) (by rfl) sc__law_number.nd rfl rfl (by decide) rfl rfl (ppa_cons (pp_call (t__law_draw XI GN c) hG (hr.mono (by decide)) (takes_of rfl rfl rfl rfl) rfl (ppa_cons (pp_v 0) (ppa_cons pp_int ppa_nil))) (ppa_cons (pp_sub (pp_call (t__law_draw XI GN c) hG (hr.mono (by decide)) (takes_of rfl rfl rfl rfl) rfl (ppa_cons (pp_v 0) (ppa_cons pp_int ppa_nil))) pp_int) ppa_nil)) (by rfl))
      (pps_cons (ppq_if (pt_lt (pp_v 1) pp_int) (pps_one (ppq_ret (pp_idx (Nat.lt_of_le_of_lt (Nat.add_le_add_left (by decide) _) hu) (pp_lst (ppa_cons pp_int (ppa_cons (pp_v 2) (ppa_cons (pp_v 2) ppa_nil)))) (pp_v 1)))) pps_nil)
      (pps_cons (ppq_set (i := 3) sc__law_number.nd rfl (Or.inl rfl) (pp_add (pp_mul (pp_call (t__law_draw XI GN c) hG (hr.mono (by decide)) (takes_of rfl rfl rfl rfl) rfl (ppa_cons (pp_v 0) (ppa_cons (pp_pow pp_int pp_int) ppa_nil))) (pp_pow pp_int pp_int)) (pp_call (t__law_draw XI GN c) hG (hr.mono (by decide)) (takes_of rfl rfl rfl rfl) rfl (ppa_cons (pp_v 0) (ppa_cons (pp_pow pp_int pp_int) ppa_nil)))))
      (pps_one (ppq_ret (pp_if (pt_eqX hu (pp_v 1) pp_int) (pp_v 3) (pp_neg (pp_v 3))))))))))
theorem t__law_number (XI : K.In base) (GN : base.Ns mainGlobals mg) (c : obsK K = val0) : DP P w K mg base "_law_number" 1 2 (D__law_number P w K) := by
  obtain ⟨fd, F⟩ := F__law_number c
  exact ⟨_, fd, _, rfl, (fx__law_number XI GN c F), g__law_number XI GN c, F.kp, F.binds (by intro _ _ _ _ _ _ us hl; first | (match us, hl with | [_], _ => rfl) | (match us, hl with | [_, _], _ => rfl) | (match us, hl with | [_, _, _], _ => rfl) | (match us, hl with | [_, _, _, _], _ => rfl) | (match us, hl with | [_, _, _, _, _], _ => rfl) | (match us, hl with | [_, _, _, _, _, _], _ => rfl) | (match us, hl with | [_, _, _, _, _, _, _], _ => rfl) | (match us, hl with | [_, _, _, _, _, _, _, _], _ => rfl) | (match us, hl with | [_, _, _, _, _, _, _, _, _], _ => rfl))⟩
/-! is_name -/
def N_is_name : List Str := ["value", "letter"]
theorem sc_is_name : FnScope N_is_name ["value"] (defScope s_is_name) := ⟨rfl, rfl, rfl, by decide +kernel, rfl, by decide +kernel, by decide +kernel⟩
noncomputable def D_is_name (P : Program) (w : World) (K : PySem.W.Frag) : FF := fDef 1 2 (sSeq (sIfS (fOrT (fNotT (fTest (fCall (fIsi [(ga K "Earliest"), (ga K "Term")]) (fCons (fVar 0) (fCons (fC (.ty "str")) fNil))))) (fNotT (fTest (fChain gLe gLe (fC (.int 1)) (fCall gLen (fCons (fVar 0) fNil)) (fC (.int 8)))))) (sRet (fC (.bl false))) sNext)
      (sRet (fCall (fBls fun bs => bs.all id) (fCons (fLc (iAny (fVar 0)) (tgName 1) fYes (fChain gLe gLe (fC (.str "a")) (fVar 1) (fC (.str "z"))) [1]) fNil))))
theorem fx_is_name (XI : K.In base) (GN : base.Ns mainGlobals mg) (c : obsK K = val0) {fd : FuncData} {f : Addr} (F : Fun K "is_name" "is_name" s_is_name f fd) : FnX P w K mg base 1 f fd ["value"] (spP 1 (D_is_name P w K)) :=
    (Fun.pp F sc_is_name (fun cdv A fr s H E hG hr => by
      have hu : A.units + 3 + 64 < cLine := hr.units
      exact (pps_cons (ppq_if (PPW.pt (ptw_or (ptt_not (pt_b (pp_isi (ow c) rfl (f_isinstance XI GN c) (ppa_cons (pp_v 0) (ppa_cons (pp_gty rfl (f_str XI GN c) b_str) ppa_nil))))) (ptw_or1 (ptt_not (pt_lele pp_int (pp_len' rfl (f_len XI GN c) (ppa_cons (pp_v 0) ppa_nil)) (pp_gint rfl (n_MOST_LETTERS XI GN c))))))) (pps_one (ppq_ret pp_bl)) pps_nil)
      (pps_one (ppq_ret (pp_all rfl rfl (f_all XI GN c) (ppa_cons (pp_lc (own := [("letter", 1)]) (g := (gName 1)) rfl sc_is_name.nd (ppi_any (pp_v 0)) (blkOk_by (own := [("letter", 1)]) (by kernel_rfl)) (fun _ _ _ _ _ => (pg_name (i := 1) sc_is_name.nd rfl (by first | exact Or.inl rfl | exact Or.inr rfl))) (ad_gName (i := 1) (by intro l e; cases e <;> decide)) (fun _ _ _ _ _ => ppts_nil) (fun _ _ _ _ _ => (pp_lele pp_str (pp_v 1) pp_str))) ppa_nil)))))))
theorem t_is_name (XI : K.In base) (GN : base.Ns mainGlobals mg) (c : obsK K = val0) : DP P w K mg base "is_name" 1 1 (D_is_name P w K) := by
  obtain ⟨fd, F⟩ := F_is_name c
  exact ⟨_, fd, _, rfl, (fx_is_name XI GN c F), g_is_name XI GN c, F.kp, F.binds (by intro _ _ _ _ _ _ us hl; first | (match us, hl with | [_], _ => rfl) | (match us, hl with | [_, _], _ => rfl) | (match us, hl with | [_, _, _], _ => rfl) | (match us, hl with | [_, _, _, _], _ => rfl) | (match us, hl with | [_, _, _, _, _], _ => rfl) | (match us, hl with | [_, _, _, _, _, _], _ => rfl) | (match us, hl with | [_, _, _, _, _, _, _], _ => rfl) | (match us, hl with | [_, _, _, _, _, _, _, _], _ => rfl) | (match us, hl with | [_, _, _, _, _, _, _, _, _], _ => rfl))⟩
/-! has_names -/
def N_has_names : List Str := ["value", "key"]
theorem sc_has_names : FnScope N_has_names ["value"] (defScope s_has_names) := ⟨rfl, rfl, rfl, by decide +kernel, rfl, by decide +kernel, by decide +kernel⟩
noncomputable def D_has_names (P : Program) (w : World) (K : PySem.W.Frag) : FF := fDef 1 2 (sRet (fAndV (fCall (fIsi [(ga K "Earliest"), (ga K "Term")]) (fCons (fVar 0) (fCons (fC (.ty "dict")) fNil))) (fAndV (fOp gGt (fCall gLen (fCons (fVar 0) fNil)) (fC (.int 0))) (fCall (fBls fun bs => bs.all id) (fCons (fLock 0 (fLc (iAny (fVar 0)) (tgName 1) fYes (fCall (D_is_name P w K) (fCons (fVar 1) fNil)) [1])) fNil)))))
theorem fx_has_names (XI : K.In base) (GN : base.Ns mainGlobals mg) (c : obsK K = val0) {fd : FuncData} {f : Addr} (F : Fun K "has_names" "has_names" s_has_names f fd) : FnX P w K mg base 2 f fd ["value"] (spP 1 (D_has_names P w K)) :=
    (Fun.pp F sc_has_names (fun cdv A fr s H E hG hr => by
      have hu : A.units + 3 + 64 < cLine := hr.units
      exact (pps_one (ppq_ret (pp_and (pp_isi (ow c) rfl (f_isinstance XI GN c) (ppa_cons (pp_v 0) (ppa_cons (pp_gty rfl (f_dict XI GN c) b_dict) ppa_nil))) (pp_and (pp_gt (pp_len' rfl (f_len XI GN c) (ppa_cons (pp_v 0) ppa_nil)) pp_int) (pp_one (pp_all rfl rfl (f_all XI GN c) (ppa_cons (pp_lock (i := 0) (pp_lc (own := [("key", 1)]) (g := (gName 1)) rfl sc_has_names.nd (ppi_any (pp_v 0)) (blkOk_by (own := [("key", 1)]) (by kernel_rfl)) (fun _ _ _ _ _ => (pg_name (i := 1) sc_has_names.nd rfl (by first | exact Or.inl rfl | exact Or.inr rfl))) (ad_gName (i := 1) (by intro l e; cases e <;> decide)) (fun _ _ _ _ _ => ppts_nil) (fun _ _ _ _ _ => (pp_call (t_is_name XI GN c) hG (hr.mono (by decide)) takes0 rfl (ppa_cons (pp_v 1) ppa_nil))))) ppa_nil)))))))))
theorem t_has_names (XI : K.In base) (GN : base.Ns mainGlobals mg) (c : obsK K = val0) : DP P w K mg base "has_names" 1 2 (D_has_names P w K) := by
  obtain ⟨fd, F⟩ := F_has_names c
  exact ⟨_, fd, _, rfl, (fx_has_names XI GN c F), g_has_names XI GN c, F.kp, F.binds (by intro _ _ _ _ _ _ us hl; first | (match us, hl with | [_], _ => rfl) | (match us, hl with | [_, _], _ => rfl) | (match us, hl with | [_, _, _], _ => rfl) | (match us, hl with | [_, _, _, _], _ => rfl) | (match us, hl with | [_, _, _, _, _], _ => rfl) | (match us, hl with | [_, _, _, _, _, _], _ => rfl) | (match us, hl with | [_, _, _, _, _, _, _], _ => rfl) | (match us, hl with | [_, _, _, _, _, _, _, _], _ => rfl) | (match us, hl with | [_, _, _, _, _, _, _, _, _], _ => rfl))⟩
/-! is_integer -/
def N_is_integer : List Str := ["value"]
theorem sc_is_integer : FnScope N_is_integer ["value"] (defScope s_is_integer) := ⟨rfl, rfl, rfl, by decide +kernel, rfl, by decide +kernel, by decide +kernel⟩
noncomputable def D_is_integer (P : Program) (w : World) (K : PySem.W.Frag) : FF := fDef 1 1 (sRet (fAndV (fCall (fIsi [(ga K "Earliest"), (ga K "Term")]) (fCons (fVar 0) (fCons (fC (.ty "int")) fNil))) (fNotV (fCall (fIsi [(ga K "Earliest"), (ga K "Term")]) (fCons (fVar 0) (fCons (fC (.ty "bool")) fNil))))))
theorem fx_is_integer (XI : K.In base) (GN : base.Ns mainGlobals mg) (c : obsK K = val0) {fd : FuncData} {f : Addr} (F : Fun K "is_integer" "is_integer" s_is_integer f fd) : FnX P w K mg base 1 f fd ["value"] (spP 1 (D_is_integer P w K)) :=
    (Fun.pp F sc_is_integer (fun cdv A fr s H E hG hr => by
      have hu : A.units + 3 + 64 < cLine := hr.units
      exact (pps_one (ppq_ret (pp_and (pp_isi (ow c) rfl (f_isinstance XI GN c) (ppa_cons (pp_v 0) (ppa_cons (pp_gty rfl (f_int XI GN c) b_int) ppa_nil))) (pp_one (pp_not (pp_isi (ow c) rfl (f_isinstance XI GN c) (ppa_cons (pp_v 0) (ppa_cons (pp_gty rfl (f_bool XI GN c) b_bool) ppa_nil))))))))))
theorem t_is_integer (XI : K.In base) (GN : base.Ns mainGlobals mg) (c : obsK K = val0) : DP P w K mg base "is_integer" 1 1 (D_is_integer P w K) := by
  obtain ⟨fd, F⟩ := F_is_integer c
  exact ⟨_, fd, _, rfl, (fx_is_integer XI GN c F), g_is_integer XI GN c, F.kp, F.binds (by intro _ _ _ _ _ _ us hl; first | (match us, hl with | [_], _ => rfl) | (match us, hl with | [_, _], _ => rfl) | (match us, hl with | [_, _, _], _ => rfl) | (match us, hl with | [_, _, _, _], _ => rfl) | (match us, hl with | [_, _, _, _, _], _ => rfl) | (match us, hl with | [_, _, _, _, _, _], _ => rfl) | (match us, hl with | [_, _, _, _, _, _, _], _ => rfl) | (match us, hl with | [_, _, _, _, _, _, _, _], _ => rfl) | (match us, hl with | [_, _, _, _, _, _, _, _, _], _ => rfl))⟩
/-! check_shifts -/
def N_check_shifts : List Str := ["shifts", "moment"]
theorem sc_check_shifts : FnScope N_check_shifts ["shifts"] (defScope s_check_shifts) := ⟨rfl, rfl, rfl, by decide +kernel, rfl, by decide +kernel, by decide +kernel⟩
noncomputable def D_check_shifts (P : Program) (w : World) (K : PySem.W.Frag) : FF := fDef 1 2 (sSeq (sIfS (fNotT (fTest (fCall (D_has_names P w K) (fCons (fVar 0) fNil)))) sBad sNext)
      (sSeq (sFor (iAny (fCall (gSort' (SetTO P w)) (fCons (fVar 0) fNil))) (tgName 1) (sIfS (fNotT (fTest (fCall (D_is_integer P w K) (fCons (fOp gIx (fVar 0) (fVar 1)) fNil)))) sBad sNext))
      (sIfS (fTest (fOp gGt (fCall gLen (fCons (fVar 0) fNil)) (fC (.int 8)))) sBad sNext)))
theorem fx_check_shifts (XI : K.In base) (GN : base.Ns mainGlobals mg) (c : obsK K = val0) {fd : FuncData} {f : Addr} (F : Fun K "check_shifts" "check_shifts" s_check_shifts f fd) : FnX P w K mg base 3 f fd ["shifts"] (spP 1 (D_check_shifts P w K)) :=
    (Fun.pp F sc_check_shifts (fun cdv A fr s H E hG hr => by
      have hu : A.units + 3 + 64 < cLine := hr.units
      exact (pps_cons (ppq_if (ptt_not (pt_b (pp_call (t_has_names XI GN c) hG (hr.mono (by decide)) (takes_of rfl rfl rfl rfl) rfl (ppa_cons (pp_v 0) ppa_nil)))) (pps_one ppq_never) pps_nil)
      (pps_cons (ppq_for (g := (gName 1)) (passes_of rfl) rfl (ppi_any (pp_sorted rfl rfl (f_sorted XI GN c) (ppa_cons (pp_v 0) ppa_nil))) (pg_name (i := 1) sc_check_shifts.nd rfl (Or.inl rfl)) (ad_gName (i := 1) (by intro l e; cases e <;> decide))
        (pps_one (ppq_if (ptt_not (pt_b (pp_call (t_is_integer XI GN c) hG (hr.mono (by decide)) (takes_of rfl rfl rfl rfl) rfl (ppa_cons (pp_idx (Nat.lt_of_le_of_lt (Nat.add_le_add_left (by decide) _) hu) (pp_v 0) (pp_v 1)) ppa_nil)))) (pps_one ppq_never) pps_nil)))
      (pps_one (ppq_if (pt_gt (pp_len' rfl (f_len XI GN c) (ppa_cons (pp_v 0) ppa_nil)) (pp_gint rfl (n_MOST_TERMS XI GN c))) (pps_one ppq_never) pps_nil))))))
theorem t_check_shifts (XI : K.In base) (GN : base.Ns mainGlobals mg) (c : obsK K = val0) : DP P w K mg base "check_shifts" 1 3 (D_check_shifts P w K) := by
  obtain ⟨fd, F⟩ := F_check_shifts c
  exact ⟨_, fd, _, rfl, (fx_check_shifts XI GN c F), g_check_shifts XI GN c, F.kp, F.binds (by intro _ _ _ _ _ _ us hl; first | (match us, hl with | [_], _ => rfl) | (match us, hl with | [_, _], _ => rfl) | (match us, hl with | [_, _, _], _ => rfl) | (match us, hl with | [_, _, _, _], _ => rfl) | (match us, hl with | [_, _, _, _, _], _ => rfl) | (match us, hl with | [_, _, _, _, _, _], _ => rfl) | (match us, hl with | [_, _, _, _, _, _, _], _ => rfl) | (match us, hl with | [_, _, _, _, _, _, _, _], _ => rfl) | (match us, hl with | [_, _, _, _, _, _, _, _, _], _ => rfl))⟩
/-! in_order -/
def N_in_order : List Str := ["table", "moment"]
theorem sc_in_order : FnScope N_in_order ["table"] (defScope s_in_order) := ⟨rfl, rfl, rfl, by decide +kernel, rfl, by decide +kernel, by decide +kernel⟩
noncomputable def D_in_order (P : Program) (w : World) (K : PySem.W.Frag) : FF := fDef 1 2 (sRet (fDc (iAny (fCall (gSort' (SetTO P w)) (fCons (fVar 0) fNil))) (tgName 1) fYes (fVar 1) (fOp gIx (fVar 0) (fVar 1)) [1]))
theorem fx_in_order (XI : K.In base) (GN : base.Ns mainGlobals mg) (c : obsK K = val0) {fd : FuncData} {f : Addr} (F : Fun K "in_order" "in_order" s_in_order f fd) : FnX P w K mg base 1 f fd ["table"] (spP 1 (D_in_order P w K)) :=
    (Fun.pp F sc_in_order (fun cdv A fr s H E hG hr => by
      have hu : A.units + 3 + 64 < cLine := hr.units
      exact (pps_one (ppq_ret (pp_dc (own := [("moment", 1)]) (g := (gName 1)) rfl sc_in_order.nd (ppi_any (pp_sorted rfl rfl (f_sorted XI GN c) (ppa_cons (pp_v 0) ppa_nil))) (blkOk_by (own := [("moment", 1)]) (by kernel_rfl)) (fun _ _ _ _ _ => (pg_name (i := 1) sc_in_order.nd rfl (by first | exact Or.inl rfl | exact Or.inr rfl))) (ad_gName (i := 1) (by intro l e; cases e <;> decide)) (fun _ _ _ _ _ => ppts_nil) (fun _ _ _ _ _ => (pp_v 1)) (fun _ _ _ _ _ => (pp_idx (Nat.lt_of_le_of_lt (Nat.add_le_add_left (by decide) _) hu) (pp_v 0) (pp_v 1))))))))
theorem t_in_order (XI : K.In base) (GN : base.Ns mainGlobals mg) (c : obsK K = val0) : DP P w K mg base "in_order" 1 1 (D_in_order P w K) := by
  obtain ⟨fd, F⟩ := F_in_order c
  exact ⟨_, fd, _, rfl, (fx_in_order XI GN c F), g_in_order XI GN c, F.kp, F.binds (by intro _ _ _ _ _ _ us hl; first | (match us, hl with | [_], _ => rfl) | (match us, hl with | [_, _], _ => rfl) | (match us, hl with | [_, _, _], _ => rfl) | (match us, hl with | [_, _, _, _], _ => rfl) | (match us, hl with | [_, _, _, _, _], _ => rfl) | (match us, hl with | [_, _, _, _, _, _], _ => rfl) | (match us, hl with | [_, _, _, _, _, _, _], _ => rfl) | (match us, hl with | [_, _, _, _, _, _, _, _], _ => rfl) | (match us, hl with | [_, _, _, _, _, _, _, _, _], _ => rfl))⟩
end
end Pu
set_option Elab.async false
set_option linter.all false
set_option maxRecDepth 100000
set_option maxHeartbeats 8000000
namespace Pu
open L2 PySem PySem.Spec PyProof.Rows E10
open He (ga ma)
section
variable {P : Program} {w : World} {K : PySem.W.Frag} {mg : Str → Option Value} {base : Heap}
/-! Earliest.__init__ -/
def N_Earliest___init__ : List Str := ["self", "shifts"]
theorem sc_Earliest___init__ : FnScope N_Earliest___init__ ["self", "shifts"] (defScope m_Earliest___init__) := ⟨rfl, rfl, rfl, by decide +kernel, rfl, by decide +kernel, by decide +kernel⟩
noncomputable def D_Earliest___init__ (P : Program) (w : World) (K : PySem.W.Frag) : FF := fDef 2 2 (sSeq (sDrop (fCall (D_check_shifts P w K) (fCons (fVar 1) fNil)))
      (sFldP (ga K "Earliest") "_shifts" (fVar 0) (fCall (D_in_order P w K) (fCons (fVar 1) fNil))))
theorem fx_Earliest___init__ (XI : K.In base) (GN : base.Ns mainGlobals mg) (c : obsK K = val0) {fd : FuncData} {f : Addr} (F : Fun K "__init__" "Earliest.__init__" m_Earliest___init__ f fd) : FnX P w K mg base 4 f fd ["self", "shifts"] (spP 2 (D_Earliest___init__ P w K)) :=
    (Fun.pp F sc_Earliest___init__ (fun cdv A fr s H E hG hr => by
      have hu : A.units + 3 + 64 < cLine := hr.units
      exact (pps_cons (ppq_expr (pp_call (t_check_shifts XI GN c) hG (hr.mono (by decide)) (takes_of rfl rfl rfl rfl) rfl (ppa_cons (pp_v 1) ppa_nil)))
      (pps_one (ppq_fld (cl_Earliest c) (na_Earliest__shifts c) (pp_v 0) (pp_call (t_in_order XI GN c) hG (hr.mono (by decide)) (takes_of rfl rfl rfl rfl) rfl (ppa_cons (pp_v 1) ppa_nil)))))))
theorem t_Earliest___init__ (XI : K.In base) (GN : base.Ns mainGlobals mg) (c : obsK K = val0) : DC P w K mg base "Earliest" (ga K "Earliest") 2 4 (D_Earliest___init__ P w K) := by
  obtain ⟨fd, F⟩ := F_Earliest___init__ c
  exact ⟨⟨_, fd, _, rfl, (fx_Earliest___init__ XI GN c F), mkB_ok (bMk_Earliest c), F.binds (by intro _ _ _ _ _ _ us hl; first | (match us, hl with | [_], _ => rfl) | (match us, hl with | [_, _], _ => rfl) | (match us, hl with | [_, _, _], _ => rfl) | (match us, hl with | [_, _, _, _], _ => rfl) | (match us, hl with | [_, _, _, _, _], _ => rfl) | (match us, hl with | [_, _, _, _, _, _], _ => rfl) | (match us, hl with | [_, _, _, _, _, _, _], _ => rfl) | (match us, hl with | [_, _, _, _, _, _, _, _], _ => rfl) | (match us, hl with | [_, _, _, _, _, _, _, _, _], _ => rfl))⟩, g_Earliest XI GN c⟩
theorem mk_Earliest___init___shifts (XI : K.In base) (GN : base.Ns mainGlobals mg) (c : obsK K = val0) : DCk P w K mg base "Earliest" (ga K "Earliest") 2 ["shifts"] [0] 4 (D_Earliest___init__ P w K) := by
  obtain ⟨fd, F⟩ := F_Earliest___init__ c
  refine ⟨⟨_, fd, _, fx_Earliest___init__ XI GN c F, mkB_ok (bMk_Earliest c), kb_one F 1 ["shifts"] _ _ (fun r1 r2 => r1.append (pick_vals r2 _)) fun kV doc pm an cdv ct us ws l1 l2 => ?_⟩, g_Earliest XI GN c⟩
  match us, ws, l1, l2 with
  | [_], [_], _, _ => rfl
/-! Earliest.moments -/
def N_Earliest_moments : List Str := ["self"]
theorem sc_Earliest_moments : FnScope N_Earliest_moments ["self"] (defScope m_Earliest_moments) := ⟨rfl, rfl, rfl, by decide +kernel, rfl, by decide +kernel, by decide +kernel⟩
noncomputable def D_Earliest_moments (P : Program) (w : World) (K : PySem.W.Frag) : FF := fDef 1 1 (sRet (fCall gTupB (fCons (fFld (ga K "Earliest") "_shifts" (fVar 0)) fNil)))
theorem fx_Earliest_moments (XI : K.In base) (GN : base.Ns mainGlobals mg) (c : obsK K = val0) {fd : FuncData} {f : Addr} (F : Fun K "moments" "Earliest.moments" m_Earliest_moments f fd) : FnX P w K mg base 1 f fd ["self"] (spP 1 (D_Earliest_moments P w K)) :=
    (Fun.pp F sc_Earliest_moments (fun cdv A fr s H E hG hr => by
      have hu : A.units + 3 + 64 < cLine := hr.units
      exact (pps_one (ppq_ret (pp_tuple rfl rfl (f_tuple XI GN c) (ppa_cons (pp_fld (cl_Earliest c) (na_Earliest__shifts c) (pp_v 0)) ppa_nil))))))
theorem t_Earliest_moments (XI : K.In base) (GN : base.Ns mainGlobals mg) (c : obsK K = val0) : DPr P w K mg base (ga K "Earliest") "moments" 1 (D_Earliest_moments P w K) := by
  obtain ⟨fd, F⟩ := F_Earliest_moments c
  exact ⟨_, _, fd, _, (fx_Earliest_moments XI GN c F), propB_ok (bProp_Earliest_moments c), F.binds (by intro _ _ _ _ _ _ us hl; first | (match us, hl with | [_], _ => rfl) | (match us, hl with | [_, _], _ => rfl) | (match us, hl with | [_, _, _], _ => rfl) | (match us, hl with | [_, _, _, _], _ => rfl) | (match us, hl with | [_, _, _, _, _], _ => rfl) | (match us, hl with | [_, _, _, _, _, _], _ => rfl) | (match us, hl with | [_, _, _, _, _, _, _], _ => rfl) | (match us, hl with | [_, _, _, _, _, _, _, _], _ => rfl) | (match us, hl with | [_, _, _, _, _, _, _, _, _], _ => rfl))⟩
/-! Earliest.__len__ -/
def N_Earliest___len__ : List Str := ["self"]
theorem sc_Earliest___len__ : FnScope N_Earliest___len__ ["self"] (defScope m_Earliest___len__) := ⟨rfl, rfl, rfl, by decide +kernel, rfl, by decide +kernel, by decide +kernel⟩
noncomputable def D_Earliest___len__ (P : Program) (w : World) (K : PySem.W.Frag) : FF := fDef 1 1 (sRet (fCall gLen (fCons (fFld (ga K "Earliest") "_shifts" (fVar 0)) fNil)))
theorem fx_Earliest___len__ (XI : K.In base) (GN : base.Ns mainGlobals mg) (c : obsK K = val0) {fd : FuncData} {f : Addr} (F : Fun K "__len__" "Earliest.__len__" m_Earliest___len__ f fd) : FnX P w K mg base 1 f fd ["self"] (spP 1 (D_Earliest___len__ P w K)) :=
    (Fun.pp F sc_Earliest___len__ (fun cdv A fr s H E hG hr => by
      have hu : A.units + 3 + 64 < cLine := hr.units
      exact (pps_one (ppq_ret (pp_len' rfl (f_len XI GN c) (ppa_cons (pp_fld (cl_Earliest c) (na_Earliest__shifts c) (pp_v 0)) ppa_nil))))))
theorem t_Earliest___len__ (XI : K.In base) (GN : base.Ns mainGlobals mg) (c : obsK K = val0) : DS P w K mg base (ga K "Earliest") "__len__" 1 1 (D_Earliest___len__ P w K) := by
  obtain ⟨fd, F⟩ := F_Earliest___len__ c
  exact ⟨_, fd, _, rfl, (fx_Earliest___len__ XI GN c F), mB_ok (bSp_Earliest___len__ c), F.binds (by intro _ _ _ _ _ _ us hl; first | (match us, hl with | [_], _ => rfl) | (match us, hl with | [_, _], _ => rfl) | (match us, hl with | [_, _, _], _ => rfl) | (match us, hl with | [_, _, _, _], _ => rfl) | (match us, hl with | [_, _, _, _, _], _ => rfl) | (match us, hl with | [_, _, _, _, _, _], _ => rfl) | (match us, hl with | [_, _, _, _, _, _, _], _ => rfl) | (match us, hl with | [_, _, _, _, _, _, _, _], _ => rfl) | (match us, hl with | [_, _, _, _, _, _, _, _, _], _ => rfl))⟩
/-! Earliest.shifts -/
def N_Earliest_shifts : List Str := ["self"]
theorem sc_Earliest_shifts : FnScope N_Earliest_shifts ["self"] (defScope m_Earliest_shifts) := ⟨rfl, rfl, rfl, by decide +kernel, rfl, by decide +kernel, by decide +kernel⟩
noncomputable def D_Earliest_shifts (P : Program) (w : World) (K : PySem.W.Frag) : FF := fDef 1 1 (sRet (fCall (gDict .cell) (fCons (fFld (ga K "Earliest") "_shifts" (fVar 0)) fNil)))
theorem fx_Earliest_shifts (XI : K.In base) (GN : base.Ns mainGlobals mg) (c : obsK K = val0) {fd : FuncData} {f : Addr} (F : Fun K "shifts" "Earliest.shifts" m_Earliest_shifts f fd) : FnX P w K mg base 1 f fd ["self"] (spP 1 (D_Earliest_shifts P w K)) :=
    (Fun.pp F sc_Earliest_shifts (fun cdv A fr s H E hG hr => by
      have hu : A.units + 3 + 64 < cLine := hr.units
      exact (pps_one (ppq_ret (pp_dict .cell rfl rfl (f_dict XI GN c) (ppa_cons (pp_fld (cl_Earliest c) (na_Earliest__shifts c) (pp_v 0)) ppa_nil))))))
theorem t_Earliest_shifts (XI : K.In base) (GN : base.Ns mainGlobals mg) (c : obsK K = val0) : DM P w K mg base (ga K "Earliest") "shifts" 1 1 (D_Earliest_shifts P w K) := by
  obtain ⟨fd, F⟩ := F_Earliest_shifts c
  exact ⟨_, fd, _, rfl, (fx_Earliest_shifts XI GN c F), metB_ok (bMet_Earliest_shifts c), F.binds (by intro _ _ _ _ _ _ us hl; first | (match us, hl with | [_], _ => rfl) | (match us, hl with | [_, _], _ => rfl) | (match us, hl with | [_, _, _], _ => rfl) | (match us, hl with | [_, _, _, _], _ => rfl) | (match us, hl with | [_, _, _, _, _], _ => rfl) | (match us, hl with | [_, _, _, _, _, _], _ => rfl) | (match us, hl with | [_, _, _, _, _, _, _], _ => rfl) | (match us, hl with | [_, _, _, _, _, _, _, _], _ => rfl) | (match us, hl with | [_, _, _, _, _, _, _, _, _], _ => rfl))⟩
/-! is_moment_of -/
def N_is_moment_of : List Str := ["value", "moments"]
theorem sc_is_moment_of : FnScope N_is_moment_of ["value", "moments"] (defScope s_is_moment_of) := ⟨rfl, rfl, rfl, by decide +kernel, rfl, by decide +kernel, by decide +kernel⟩
noncomputable def D_is_moment_of (P : Program) (w : World) (K : PySem.W.Frag) : FF := fDef 2 2 (sRet (fAndV (fCall (fIsi [(ga K "Earliest"), (ga K "Term")]) (fCons (fVar 0) (fCons (fC (.ty "str")) fNil))) (fOp (gIn false) (fVar 0) (fVar 1))))
theorem fx_is_moment_of (XI : K.In base) (GN : base.Ns mainGlobals mg) (c : obsK K = val0) {fd : FuncData} {f : Addr} (F : Fun K "is_moment_of" "is_moment_of" s_is_moment_of f fd) : FnX P w K mg base 1 f fd ["value", "moments"] (spP 2 (D_is_moment_of P w K)) :=
    (Fun.pp F sc_is_moment_of (fun cdv A fr s H E hG hr => by
      have hu : A.units + 3 + 64 < cLine := hr.units
      exact (pps_one (ppq_ret (pp_and (pp_isi (ow c) rfl (f_isinstance XI GN c) (ppa_cons (pp_v 0) (ppa_cons (pp_gty rfl (f_str XI GN c) b_str) ppa_nil))) (pp_one (pp_in (Nat.lt_of_le_of_lt (Nat.add_le_add_left (by decide) _) hu) (pp_v 0) (pp_v 1))))))))
theorem t_is_moment_of (XI : K.In base) (GN : base.Ns mainGlobals mg) (c : obsK K = val0) : DP P w K mg base "is_moment_of" 2 1 (D_is_moment_of P w K) := by
  obtain ⟨fd, F⟩ := F_is_moment_of c
  exact ⟨_, fd, _, rfl, (fx_is_moment_of XI GN c F), g_is_moment_of XI GN c, F.kp, F.binds (by intro _ _ _ _ _ _ us hl; first | (match us, hl with | [_], _ => rfl) | (match us, hl with | [_, _], _ => rfl) | (match us, hl with | [_, _, _], _ => rfl) | (match us, hl with | [_, _, _, _], _ => rfl) | (match us, hl with | [_, _, _, _, _], _ => rfl) | (match us, hl with | [_, _, _, _, _, _], _ => rfl) | (match us, hl with | [_, _, _, _, _, _, _], _ => rfl) | (match us, hl with | [_, _, _, _, _, _, _, _], _ => rfl) | (match us, hl with | [_, _, _, _, _, _, _, _, _], _ => rfl))⟩
/-! check_moment -/
def N_check_moment : List Str := ["value", "moments"]
theorem sc_check_moment : FnScope N_check_moment ["value", "moments"] (defScope s_check_moment) := ⟨rfl, rfl, rfl, by decide +kernel, rfl, by decide +kernel, by decide +kernel⟩
noncomputable def D_check_moment (P : Program) (w : World) (K : PySem.W.Frag) : FF := fDef 2 2 (sIfS (fNotT (fTest (fCall (D_is_moment_of P w K) (fCons (fVar 0) (fCons (fVar 1) fNil))))) sBad sNext)
theorem fx_check_moment (XI : K.In base) (GN : base.Ns mainGlobals mg) (c : obsK K = val0) {fd : FuncData} {f : Addr} (F : Fun K "check_moment" "check_moment" s_check_moment f fd) : FnX P w K mg base 2 f fd ["value", "moments"] (spP 2 (D_check_moment P w K)) :=
    (Fun.pp F sc_check_moment (fun cdv A fr s H E hG hr => by
      have hu : A.units + 3 + 64 < cLine := hr.units
      exact (pps_one (ppq_if (ptt_not (pt_b (pp_call (t_is_moment_of XI GN c) hG (hr.mono (by decide)) (takes_of rfl rfl rfl rfl) rfl (ppa_cons (pp_v 0) (ppa_cons (pp_v 1) ppa_nil))))) (pps_one ppq_never) pps_nil))))
theorem t_check_moment (XI : K.In base) (GN : base.Ns mainGlobals mg) (c : obsK K = val0) : DP P w K mg base "check_moment" 2 2 (D_check_moment P w K) := by
  obtain ⟨fd, F⟩ := F_check_moment c
  exact ⟨_, fd, _, rfl, (fx_check_moment XI GN c F), g_check_moment XI GN c, F.kp, F.binds (by intro _ _ _ _ _ _ us hl; first | (match us, hl with | [_], _ => rfl) | (match us, hl with | [_, _], _ => rfl) | (match us, hl with | [_, _, _], _ => rfl) | (match us, hl with | [_, _, _, _], _ => rfl) | (match us, hl with | [_, _, _, _, _], _ => rfl) | (match us, hl with | [_, _, _, _, _, _], _ => rfl) | (match us, hl with | [_, _, _, _, _, _, _], _ => rfl) | (match us, hl with | [_, _, _, _, _, _, _, _], _ => rfl) | (match us, hl with | [_, _, _, _, _, _, _, _, _], _ => rfl))⟩
/-! Earliest.__getitem__ -/
def N_Earliest___getitem__ : List Str := ["self", "at"]
theorem sc_Earliest___getitem__ : FnScope N_Earliest___getitem__ ["self", "at"] (defScope m_Earliest___getitem__) := ⟨rfl, rfl, rfl, by decide +kernel, rfl, by decide +kernel, by decide +kernel⟩
noncomputable def D_Earliest___getitem__ (P : Program) (w : World) (K : PySem.W.Frag) : FF := fDef 2 2 (sSeq (sDrop (fCall (D_check_moment P w K) (fCons (fVar 1) (fCons (fFld (ga K "Earliest") "_shifts" (fVar 0)) fNil))))
      (sRet (fOp gIx (fFld (ga K "Earliest") "_shifts" (fVar 0)) (fVar 1))))
theorem fx_Earliest___getitem__ (XI : K.In base) (GN : base.Ns mainGlobals mg) (c : obsK K = val0) {fd : FuncData} {f : Addr} (F : Fun K "__getitem__" "Earliest.__getitem__" m_Earliest___getitem__ f fd) : FnX P w K mg base 3 f fd ["self", "at"] (spP 2 (D_Earliest___getitem__ P w K)) :=
    (Fun.pp F sc_Earliest___getitem__ (fun cdv A fr s H E hG hr => by
      have hu : A.units + 3 + 64 < cLine := hr.units
      exact (pps_cons (ppq_expr (pp_call (t_check_moment XI GN c) hG (hr.mono (by decide)) (takes_of rfl rfl rfl rfl) rfl (ppa_cons (pp_v 1) (ppa_cons (pp_fld (cl_Earliest c) (na_Earliest__shifts c) (pp_v 0)) ppa_nil))))
      (pps_one (ppq_ret (pp_idx (Nat.lt_of_le_of_lt (Nat.add_le_add_left (by decide) _) hu) (pp_fld (cl_Earliest c) (na_Earliest__shifts c) (pp_v 0)) (pp_v 1)))))))
theorem t_Earliest___getitem__ (XI : K.In base) (GN : base.Ns mainGlobals mg) (c : obsK K = val0) : DS P w K mg base (ga K "Earliest") "__getitem__" 2 3 (D_Earliest___getitem__ P w K) := by
  obtain ⟨fd, F⟩ := F_Earliest___getitem__ c
  exact ⟨_, fd, _, rfl, (fx_Earliest___getitem__ XI GN c F), mB_ok (bSp_Earliest___getitem__ c), F.binds (by intro _ _ _ _ _ _ us hl; first | (match us, hl with | [_], _ => rfl) | (match us, hl with | [_, _], _ => rfl) | (match us, hl with | [_, _, _], _ => rfl) | (match us, hl with | [_, _, _, _], _ => rfl) | (match us, hl with | [_, _, _, _, _], _ => rfl) | (match us, hl with | [_, _, _, _, _, _], _ => rfl) | (match us, hl with | [_, _, _, _, _, _, _], _ => rfl) | (match us, hl with | [_, _, _, _, _, _, _, _], _ => rfl) | (match us, hl with | [_, _, _, _, _, _, _, _, _], _ => rfl))⟩
/-! _law_text -/
def N__law_text : List Str := ["_law_label", "_law_amount"]
theorem sc__law_text : FnScope N__law_text ["_law_label", "_law_amount"] (defScope s__law_text) := ⟨rfl, rfl, rfl, by decide +kernel, rfl, by decide +kernel, by decide +kernel⟩
noncomputable def D__law_text (P : Program) (w : World) (K : PySem.W.Frag) : FF := fDef 2 2 (sSeq (sIfS (fTest (fOp (gEqX false) (fVar 1) (fC (.int 0)))) (sRet (fVar 0)) sNext)
      (sRet (fOp gAdd (fOp gAdd (fVar 0) (fOp gMul (fC (.str "+")) (fCall fInt (fCons (fOp gGt (fVar 1) (fC (.int 0))) fNil)))) (fCall fStrI (fCons (fVar 1) fNil)))))
theorem fx__law_text (XI : K.In base) (GN : base.Ns mainGlobals mg) (c : obsK K = val0) {fd : FuncData} {f : Addr} (F : Fun K "_law_text" "_law_text" s__law_text f fd) : FnX P w K mg base 1 f fd ["_law_label", "_law_amount"] (spP 2 (D__law_text P w K)) :=
    (Fun.pp F sc__law_text (fun cdv A fr s H E hG hr => by
      have hu : A.units + 3 + 64 < cLine := hr.units
      exact (pps_cons (ppq_if (pt_eqX hu (pp_v 1) pp_int) (pps_one (ppq_ret (pp_v 0))) pps_nil)
      (pps_one (ppq_ret (pp_add (pp_add (pp_v 0) (pp_mul pp_str (pp_intc rfl (f_int XI GN c) (ppa_cons (pp_gt (pp_v 1) pp_int) ppa_nil)))) (pp_strI rfl (f_str XI GN c) (ppa_cons (pp_v 1) ppa_nil))))))))
theorem t__law_text (XI : K.In base) (GN : base.Ns mainGlobals mg) (c : obsK K = val0) : DP P w K mg base "_law_text" 2 1 (D__law_text P w K) := by
  obtain ⟨fd, F⟩ := F__law_text c
  exact ⟨_, fd, _, rfl, (fx__law_text XI GN c F), g__law_text XI GN c, F.kp, F.binds (by intro _ _ _ _ _ _ us hl; first | (match us, hl with | [_], _ => rfl) | (match us, hl with | [_, _], _ => rfl) | (match us, hl with | [_, _, _], _ => rfl) | (match us, hl with | [_, _, _, _], _ => rfl) | (match us, hl with | [_, _, _, _, _], _ => rfl) | (match us, hl with | [_, _, _, _, _, _], _ => rfl) | (match us, hl with | [_, _, _, _, _, _, _], _ => rfl) | (match us, hl with | [_, _, _, _, _, _, _, _], _ => rfl) | (match us, hl with | [_, _, _, _, _, _, _, _, _], _ => rfl))⟩
/-! term_text -/
def N_term_text : List Str := ["moment", "shift"]
theorem sc_term_text : FnScope N_term_text ["moment", "shift"] (defScope s_term_text) := ⟨rfl, rfl, rfl, by decide +kernel, rfl, by decide +kernel, by decide +kernel⟩
noncomputable def D_term_text (P : Program) (w : World) (K : PySem.W.Frag) : FF := fDef 2 2 (sRet (fIf (fTest (fOp (gEqX false) (fVar 1) (fC (.int 0)))) (fVar 0) (fJoined (fJCons (fFmt (fVar 0)) (fJCons (fFmtP (fVar 1)) fJNil)))))
theorem fx_term_text (XI : K.In base) (GN : base.Ns mainGlobals mg) (c : obsK K = val0) {fd : FuncData} {f : Addr} (F : Fun K "term_text" "term_text" s_term_text f fd) : FnX P w K mg base 1 f fd ["moment", "shift"] (spP 2 (D_term_text P w K)) :=
    (Fun.pp F sc_term_text (fun cdv A fr s H E hG hr => by
      have hu : A.units + 3 + 64 < cLine := hr.units
      exact (pps_one (ppq_ret (pp_if (pt_eqX hu (pp_v 1) pp_int) (pp_v 0) (pp_joined (ppj_cons (pp_fmt (pp_v 0)) (ppj_cons (pp_fmtP (pp_v 1)) ppj_nil))))))))
theorem t_term_text (XI : K.In base) (GN : base.Ns mainGlobals mg) (c : obsK K = val0) : DP P w K mg base "term_text" 2 1 (D_term_text P w K) := by
  obtain ⟨fd, F⟩ := F_term_text c
  exact ⟨_, fd, _, rfl, (fx_term_text XI GN c F), g_term_text XI GN c, F.kp, F.binds (by intro _ _ _ _ _ _ us hl; first | (match us, hl with | [_], _ => rfl) | (match us, hl with | [_, _], _ => rfl) | (match us, hl with | [_, _, _], _ => rfl) | (match us, hl with | [_, _, _, _], _ => rfl) | (match us, hl with | [_, _, _, _, _], _ => rfl) | (match us, hl with | [_, _, _, _, _, _], _ => rfl) | (match us, hl with | [_, _, _, _, _, _, _], _ => rfl) | (match us, hl with | [_, _, _, _, _, _, _, _], _ => rfl) | (match us, hl with | [_, _, _, _, _, _, _, _, _], _ => rfl))⟩
/-! Earliest.__str__ -/
def N_Earliest___str__ : List Str := ["self", "moment"]
theorem sc_Earliest___str__ : FnScope N_Earliest___str__ ["self"] (defScope m_Earliest___str__) := ⟨rfl, rfl, rfl, by decide +kernel, rfl, by decide +kernel, by decide +kernel⟩
noncomputable def D_Earliest___str__ (P : Program) (w : World) (K : PySem.W.Frag) : FF := fDef 1 2 (sRet (fJoin (fC (.str " ")) (fLc (iAny (fFld (ga K "Earliest") "_shifts" (fVar 0))) (tgName 1) fYes (fCall (D_term_text P w K) (fCons (fVar 1) (fCons (fOp gIx (fFld (ga K "Earliest") "_shifts" (fVar 0)) (fVar 1)) fNil))) [1])))
theorem fx_Earliest___str__ (XI : K.In base) (GN : base.Ns mainGlobals mg) (c : obsK K = val0) {fd : FuncData} {f : Addr} (F : Fun K "__str__" "Earliest.__str__" m_Earliest___str__ f fd) : FnX P w K mg base 2 f fd ["self"] (spP 1 (D_Earliest___str__ P w K)) :=
    (Fun.pp F sc_Earliest___str__ (fun cdv A fr s H E hG hr => by
      have hu : A.units + 3 + 64 < cLine := hr.units
      exact (pps_one (ppq_ret (pp_join pp_str (pp_lc (own := [("moment", 1)]) (g := (gName 1)) rfl sc_Earliest___str__.nd (ppi_any (pp_fld (cl_Earliest c) (na_Earliest__shifts c) (pp_v 0))) (blkOk_by (own := [("moment", 1)]) (by kernel_rfl)) (fun _ _ _ _ _ => (pg_name (i := 1) sc_Earliest___str__.nd rfl (by first | exact Or.inl rfl | exact Or.inr rfl))) (ad_gName (i := 1) (by intro l e; cases e <;> decide)) (fun _ _ _ _ _ => ppts_nil) (fun _ _ _ _ _ => (pp_call (t_term_text XI GN c) hG (hr.mono (by decide)) takes0 rfl (ppa_cons (pp_v 1) (ppa_cons (pp_idx (Nat.lt_of_le_of_lt (Nat.add_le_add_left (by decide) _) hu) (pp_fld (cl_Earliest c) (na_Earliest__shifts c) (pp_v 0)) (pp_v 1)) ppa_nil))))))))))
theorem t_Earliest___str__ (XI : K.In base) (GN : base.Ns mainGlobals mg) (c : obsK K = val0) : DS P w K mg base (ga K "Earliest") "__str__" 1 2 (D_Earliest___str__ P w K) := by
  obtain ⟨fd, F⟩ := F_Earliest___str__ c
  exact ⟨_, fd, _, rfl, (fx_Earliest___str__ XI GN c F), mB_ok (bSp_Earliest___str__ c), F.binds (by intro _ _ _ _ _ _ us hl; first | (match us, hl with | [_], _ => rfl) | (match us, hl with | [_, _], _ => rfl) | (match us, hl with | [_, _, _], _ => rfl) | (match us, hl with | [_, _, _, _], _ => rfl) | (match us, hl with | [_, _, _, _, _], _ => rfl) | (match us, hl with | [_, _, _, _, _, _], _ => rfl) | (match us, hl with | [_, _, _, _, _, _, _], _ => rfl) | (match us, hl with | [_, _, _, _, _, _, _, _], _ => rfl) | (match us, hl with | [_, _, _, _, _, _, _, _, _], _ => rfl))⟩
end
end Pu
set_option Elab.async false
set_option linter.all false
set_option maxRecDepth 100000
set_option maxHeartbeats 8000000
namespace Pu
open L2 PySem PySem.Spec PyProof.Rows E10
open He (ga ma)
section
variable {P : Program} {w : World} {K : PySem.W.Frag} {mg : Str → Option Value} {base : Heap}
/-! Earliest.__repr__ -/
def N_Earliest___repr__ : List Str := ["self"]
theorem sc_Earliest___repr__ : FnScope N_Earliest___repr__ ["self"] (defScope m_Earliest___repr__) := ⟨rfl, rfl, rfl, by decide +kernel, rfl, by decide +kernel, by decide +kernel⟩
noncomputable def D_Earliest___repr__ (P : Program) (w : World) (K : PySem.W.Frag) : FF := fDef 1 1 (sRet (fJoined (fJCons (fC (.str "Earliest(")) (fJCons (fFmtR (fFld (ga K "Earliest") "_shifts" (fVar 0))) (fJCons (fC (.str ")")) fJNil)))))
theorem fx_Earliest___repr__ (XI : K.In base) (GN : base.Ns mainGlobals mg) (c : obsK K = val0) {fd : FuncData} {f : Addr} (F : Fun K "__repr__" "Earliest.__repr__" m_Earliest___repr__ f fd) : FnX P w K mg base 1 f fd ["self"] (spP 1 (D_Earliest___repr__ P w K)) :=
    (Fun.pp F sc_Earliest___repr__ (fun cdv A fr s H E hG hr => by
      have hu : A.units + 3 + 64 < cLine := hr.units
      exact (pps_one (ppq_ret (pp_joined (ppj_cons (ppj_lit) (ppj_cons (pp_fmtR hG hu (pp_fld (cl_Earliest c) (na_Earliest__shifts c) (pp_v 0))) (ppj_cons (ppj_lit) ppj_nil))))))))
theorem t_Earliest___repr__ (XI : K.In base) (GN : base.Ns mainGlobals mg) (c : obsK K = val0) : DS P w K mg base (ga K "Earliest") "__repr__" 1 1 (D_Earliest___repr__ P w K) := by
  obtain ⟨fd, F⟩ := F_Earliest___repr__ c
  exact ⟨_, fd, _, rfl, (fx_Earliest___repr__ XI GN c F), mB_ok (bSp_Earliest___repr__ c), F.binds (by intro _ _ _ _ _ _ us hl; first | (match us, hl with | [_], _ => rfl) | (match us, hl with | [_, _], _ => rfl) | (match us, hl with | [_, _, _], _ => rfl) | (match us, hl with | [_, _, _, _], _ => rfl) | (match us, hl with | [_, _, _, _, _], _ => rfl) | (match us, hl with | [_, _, _, _, _, _], _ => rfl) | (match us, hl with | [_, _, _, _, _, _, _], _ => rfl) | (match us, hl with | [_, _, _, _, _, _, _, _], _ => rfl) | (match us, hl with | [_, _, _, _, _, _, _, _, _], _ => rfl))⟩
/-! _law_is_earliest -/
def N__law_is_earliest : List Str := ["_law_told", "_law_sizes", "_law_entries", "_law_words", "_law_due", "_law_name", "_law_amount"]
theorem sc__law_is_earliest : FnScope N__law_is_earliest ["_law_told", "_law_sizes"] (defScope s__law_is_earliest) := ⟨rfl, rfl, rfl, by decide +kernel, rfl, by decide +kernel, by decide +kernel⟩
noncomputable def D__law_is_earliest (P : Program) (w : World) (K : PySem.W.Frag) : FF := fDef 2 7 (sSeq (sSet 2 (fLc (iAny (fCall (gSort' (SetTO P w)) (fCons (fVar 1) fNil))) (tgName 5) fYes (fSeq .tup (fCons (fVar 5) (fCons (fOp gIx (fVar 1) (fVar 5)) fNil))) [5]))
      (sSeq (sIfS (fOrT (fNotT (fTest (fCall (fIsi [(ga K "Earliest"), (ga K "Term")]) (fCons (fVar 0) (fCons (fC (.ref (ga K "Earliest"))) fNil))))) (fTest (fOp (gEqX true) (fCall fReprX (fCons (fSeq .lst (fCons (fProp (ga K "Earliest") (D_Earliest_moments P w K) (fVar 0)) (fCons (fCall (fLenO (ga K "Earliest") (D_Earliest___len__ P w K)) (fCons (fVar 0) fNil)) fNil))) fNil)) (fCall fReprX (fCons (fSeq .lst (fCons (fCall gTupB (fCons (fCall (gSort' (SetTO P w)) (fCons (fVar 1) fNil)) fNil)) (fCons (fCall gLen (fCons (fVar 2) fNil)) fNil))) fNil))))) (sRet (fC (.bl false))) sNext)
      (sSeq (sIfS (fTest (fOp (gEqX true) (fCall fReprX (fCons (fSeq .lst (fCons (fFrz (fMeth (ga K "Earliest") "shifts" (D_Earliest_shifts P w K) (fVar 0) fNil)) (fCons (fLc (iAny (fVar 2)) (tgTup 2 (tgCons (tgName 5) (tgCons (tgName 6) tgNil))) fYes (fSeq .tup (fCons (fVar 5) (fCons (fOp (fIxO (ga K "Earliest") (D_Earliest___getitem__ P w K)) (fVar 0) (fVar 5)) fNil))) [5, 6]) fNil))) fNil)) (fCall fReprX (fCons (fSeq .lst (fCons (fCall (gDict .val) (fCons (fVar 2) fNil)) (fCons (fVar 2) fNil))) fNil)))) (sRet (fC (.bl false))) sNext)
      (sSeq (sSet 3 (fLc (iAny (fVar 2)) (tgTup 2 (tgCons (tgName 5) (tgCons (tgName 6) tgNil))) fYes (fCall (D__law_text P w K) (fCons (fVar 5) (fCons (fVar 6) fNil))) [5, 6]))
      (sSeq (sSet 4 (fSeq .lst (fCons (fJoin (fC (.str " ")) (fVar 3)) (fCons (fOp gAdd (fOp gAdd (fC (.str "Earliest(")) (fCall fReprX (fCons (fCall (gDict .val) (fCons (fVar 2) fNil)) fNil))) (fC (.str ")"))) fNil))))
      (sRet (fOp (gEqX false) (fSeq .lst (fCons (fCall (fTextC (ga K "Earliest") (D_Earliest___str__ P w K)) (fCons (fVar 0) fNil)) (fCons (fCall (fTextC (ga K "Earliest") (D_Earliest___repr__ P w K)) (fCons (fVar 0) fNil)) fNil))) (fVar 4))))))))
theorem fx__law_is_earliest (XI : K.In base) (GN : base.Ns mainGlobals mg) (c : obsK K = val0) {fd : FuncData} {f : Addr} (F : Fun K "_law_is_earliest" "_law_is_earliest" s__law_is_earliest f fd) : FnX P w K mg base 5 f fd ["_law_told", "_law_sizes"] (spP 2 (D__law_is_earliest P w K)) :=
    (Fun.pp F sc__law_is_earliest (fun cdv A fr s H E hG hr => by
      have hu : A.units + 3 + 64 < cLine := hr.units
      exact (pps_cons (ppq_setLc (i := 2) (own := [("_law_name", 5)]) (g := (gName 5)) (by rfl) sc__law_is_earliest.nd rfl rfl (sw_true rfl rfl rfl (by decide +kernel)) (ppi_any (pp_sorted rfl rfl (f_sorted XI GN c) (ppa_cons (pp_v 1) ppa_nil))) (blkOk_by (own := [("_law_name", 5)]) (by kernel_rfl)) (fun _ _ _ _ _ => (pg_name (i := 5) sc__law_is_earliest.nd rfl (by first | exact Or.inl rfl | exact Or.inr rfl))) (ad_gName (i := 5) (by intro l e; cases e <;> decide)) (fun _ _ _ _ _ => ppts_nil) (fun _ _ _ _ _ => (pp_tup (ppa_cons (pp_v 5) (ppa_cons (pp_idx (Nat.lt_of_le_of_lt (Nat.add_le_add_left (by decide) _) hu) (pp_v 1) (pp_v 5)) ppa_nil)))))
      (pps_cons (ppq_if (PPW.pt (ptw_or (ptt_not (pt_b (pp_isi (ow c) rfl (f_isinstance XI GN c) (ppa_cons (pp_v 0) (ppa_cons (pp_gcls rfl (g_Earliest XI GN c)) ppa_nil))))) (ptw_or1 (pt_neX hu (pp_reprX hG hu rfl (f_repr XI GN c) (ppa_cons (pp_lst (ppa_cons (pp_prop (t_Earliest_moments XI GN c) (cl_Earliest c) hG (hr.mono (by decide)) (pp_v 0)) (ppa_cons (pp_lenO (t_Earliest___len__ XI GN c) hG (hr.mono (by decide)) rfl (f_len XI GN c) b_len (ppa_cons (pp_v 0) ppa_nil)) ppa_nil))) ppa_nil)) (pp_reprX hG hu rfl (f_repr XI GN c) (ppa_cons (pp_lst (ppa_cons (pp_tuple rfl rfl (f_tuple XI GN c) (ppa_cons (pp_sorted rfl rfl (f_sorted XI GN c) (ppa_cons (pp_v 1) ppa_nil)) ppa_nil)) (ppa_cons (pp_len' rfl (f_len XI GN c) (ppa_cons (pp_v 2) ppa_nil)) ppa_nil))) ppa_nil)))))) (pps_one (ppq_ret pp_bl)) pps_nil)
      (pps_cons (ppq_if (pt_neX hu (pp_reprX hG hu rfl (f_repr XI GN c) (ppa_cons (pp_lst (ppa_cons (pp_frz (pp_meth0 (t_Earliest_shifts XI GN c) (cl_Earliest c) hG (hr.mono (by decide)) (takes_of rfl rfl rfl rfl) (pp_v 0))) (ppa_cons (pp_lc (own := [("_law_name", 5), ("_law_amount", 6)]) (g := (gTup K 2 (gCons (gName 5) (gCons (gName 6) gNil)))) rfl sc__law_is_earliest.nd (ppi_any (pp_v 2)) (blkOk_by (own := [("_law_name", 5), ("_law_amount", 6)]) (by kernel_rfl)) (fun _ _ _ _ _ => (pg_tup rfl (pgs_cons (pg_name (i := 5) sc__law_is_earliest.nd rfl (by first | exact Or.inl rfl | exact Or.inr rfl)) (pgs_cons (pg_name (i := 6) sc__law_is_earliest.nd rfl (by first | exact Or.inl rfl | exact Or.inr rfl)) pgs_nil)))) (ad_gTup (ad_gCons (ad_gName (i := 5) (by intro l e; cases e <;> decide)) (ad_gCons (ad_gName (i := 6) (by intro l e; cases e <;> decide)) ad_gNil))) (fun _ _ _ _ _ => ppts_nil) (fun _ _ _ _ _ => (pp_tup (ppa_cons (pp_v 5) (ppa_cons (pp_ixO (t_Earliest___getitem__ XI GN c) (fi_Earliest c) hG (hr.mono (by decide)) (pp_v 0) (pp_v 5)) ppa_nil))))) ppa_nil))) ppa_nil)) (pp_reprX hG hu rfl (f_repr XI GN c) (ppa_cons (pp_lst (ppa_cons (pp_dict .val rfl rfl (f_dict XI GN c) (ppa_cons (pp_v 2) ppa_nil)) (ppa_cons (pp_v 2) ppa_nil))) ppa_nil))) (pps_one (ppq_ret pp_bl)) pps_nil)
      (pps_cons (ppq_setLc (i := 3) (own := [("_law_name", 5), ("_law_amount", 6)]) (g := (gTup K 2 (gCons (gName 5) (gCons (gName 6) gNil)))) (by rfl) sc__law_is_earliest.nd rfl rfl (sw_true rfl rfl rfl (by decide +kernel)) (ppi_any (pp_v 2)) (blkOk_by (own := [("_law_name", 5), ("_law_amount", 6)]) (by kernel_rfl)) (fun _ _ _ _ _ => (pg_tup rfl (pgs_cons (pg_name (i := 5) sc__law_is_earliest.nd rfl (by first | exact Or.inl rfl | exact Or.inr rfl)) (pgs_cons (pg_name (i := 6) sc__law_is_earliest.nd rfl (by first | exact Or.inl rfl | exact Or.inr rfl)) pgs_nil)))) (ad_gTup (ad_gCons (ad_gName (i := 5) (by intro l e; cases e <;> decide)) (ad_gCons (ad_gName (i := 6) (by intro l e; cases e <;> decide)) ad_gNil))) (fun _ _ _ _ _ => ppts_nil) (fun _ _ _ _ _ => (pp_call (t__law_text XI GN c) hG (hr.mono (by decide)) takes0 rfl (ppa_cons (pp_v 5) (ppa_cons (pp_v 6) ppa_nil)))))
      (pps_cons (ppq_set (i := 4) sc__law_is_earliest.nd rfl (Or.inl rfl) (pp_lst (ppa_cons (pp_join pp_str (pp_v 3)) (ppa_cons (pp_add (pp_add pp_str (pp_reprX hG hu rfl (f_repr XI GN c) (ppa_cons (pp_dict .val rfl rfl (f_dict XI GN c) (ppa_cons (pp_v 2) ppa_nil)) ppa_nil))) pp_str) ppa_nil))))
      (pps_one (ppq_ret (pp_eqX hu (pp_lst (ppa_cons (pp_strO (t_Earliest___str__ XI GN c) hG (hr.mono (by decide)) hu rfl (f_str XI GN c) (ppa_cons (pp_v 0) ppa_nil)) (ppa_cons (pp_reprO (t_Earliest___repr__ XI GN c) hG (hr.mono (by decide)) hu rfl (f_repr XI GN c) (ppa_cons (pp_v 0) ppa_nil)) ppa_nil))) (pp_v 4)))))))))))
theorem t__law_is_earliest (XI : K.In base) (GN : base.Ns mainGlobals mg) (c : obsK K = val0) : DP P w K mg base "_law_is_earliest" 2 5 (D__law_is_earliest P w K) := by
  obtain ⟨fd, F⟩ := F__law_is_earliest c
  exact ⟨_, fd, _, rfl, (fx__law_is_earliest XI GN c F), g__law_is_earliest XI GN c, F.kp, F.binds (by intro _ _ _ _ _ _ us hl; first | (match us, hl with | [_], _ => rfl) | (match us, hl with | [_, _], _ => rfl) | (match us, hl with | [_, _, _], _ => rfl) | (match us, hl with | [_, _, _, _], _ => rfl) | (match us, hl with | [_, _, _, _, _], _ => rfl) | (match us, hl with | [_, _, _, _, _, _], _ => rfl) | (match us, hl with | [_, _, _, _, _, _, _], _ => rfl) | (match us, hl with | [_, _, _, _, _, _, _, _], _ => rfl) | (match us, hl with | [_, _, _, _, _, _, _, _, _], _ => rfl))⟩
/-! check_shift -/
def N_check_shift : List Str := ["value"]
theorem sc_check_shift : FnScope N_check_shift ["value"] (defScope s_check_shift) := ⟨rfl, rfl, rfl, by decide +kernel, rfl, by decide +kernel, by decide +kernel⟩
noncomputable def D_check_shift (P : Program) (w : World) (K : PySem.W.Frag) : FF := fDef 1 1 (sIfS (fNotT (fTest (fCall (D_is_integer P w K) (fCons (fVar 0) fNil)))) sBad sNext)
theorem fx_check_shift (XI : K.In base) (GN : base.Ns mainGlobals mg) (c : obsK K = val0) {fd : FuncData} {f : Addr} (F : Fun K "check_shift" "check_shift" s_check_shift f fd) : FnX P w K mg base 2 f fd ["value"] (spP 1 (D_check_shift P w K)) :=
    (Fun.pp F sc_check_shift (fun cdv A fr s H E hG hr => by
      have hu : A.units + 3 + 64 < cLine := hr.units
      exact (pps_one (ppq_if (ptt_not (pt_b (pp_call (t_is_integer XI GN c) hG (hr.mono (by decide)) (takes_of rfl rfl rfl rfl) rfl (ppa_cons (pp_v 0) ppa_nil)))) (pps_one ppq_never) pps_nil))))
theorem t_check_shift (XI : K.In base) (GN : base.Ns mainGlobals mg) (c : obsK K = val0) : DP P w K mg base "check_shift" 1 2 (D_check_shift P w K) := by
  obtain ⟨fd, F⟩ := F_check_shift c
  exact ⟨_, fd, _, rfl, (fx_check_shift XI GN c F), g_check_shift XI GN c, F.kp, F.binds (by intro _ _ _ _ _ _ us hl; first | (match us, hl with | [_], _ => rfl) | (match us, hl with | [_, _], _ => rfl) | (match us, hl with | [_, _, _], _ => rfl) | (match us, hl with | [_, _, _, _], _ => rfl) | (match us, hl with | [_, _, _, _, _], _ => rfl) | (match us, hl with | [_, _, _, _, _, _], _ => rfl) | (match us, hl with | [_, _, _, _, _, _, _], _ => rfl) | (match us, hl with | [_, _, _, _, _, _, _, _], _ => rfl) | (match us, hl with | [_, _, _, _, _, _, _, _, _], _ => rfl))⟩
/-! Term.__init__ -/
def N_Term___init__ : List Str := ["self", "moment", "shift"]
theorem sc_Term___init__ : FnScope N_Term___init__ ["self", "moment", "shift"] (defScope m_Term___init__) := ⟨rfl, rfl, rfl, by decide +kernel, rfl, by decide +kernel, by decide +kernel⟩
noncomputable def D_Term___init__ (P : Program) (w : World) (K : PySem.W.Frag) : FF := fDef 3 3 (sSeq (sIfS (fNotT (fTest (fCall (D_is_name P w K) (fCons (fVar 1) fNil)))) sBad sNext)
      (sSeq (sDrop (fCall (D_check_shift P w K) (fCons (fVar 2) fNil)))
      (sSeq (sFldP (ga K "Term") "_moment" (fVar 0) (fVar 1))
      (sFldP (ga K "Term") "_shift" (fVar 0) (fVar 2)))))
theorem fx_Term___init__ (XI : K.In base) (GN : base.Ns mainGlobals mg) (c : obsK K = val0) {dvs : List V} {fd : FuncData} {f : Addr} (F : FunD K "__init__" "Term.__init__" (defArgs m_Term___init__) (defBody m_Term___init__) (defScope m_Term___init__) dvs [] f fd) : FnX P w K mg base 3 f fd ["self", "moment", "shift"] (spP 3 (D_Term___init__ P w K)) :=
    (FunD.pp F sc_Term___init__ (fun cdv A fr s H E hG hr => by
      have hu : A.units + 3 + 64 < cLine := hr.units
      exact (pps_cons (ppq_if (ptt_not (pt_b (pp_call (t_is_name XI GN c) hG (hr.mono (by decide)) (takes_of rfl rfl rfl rfl) rfl (ppa_cons (pp_v 1) ppa_nil)))) (pps_one ppq_never) pps_nil)
      (pps_cons (ppq_expr (pp_call (t_check_shift XI GN c) hG (hr.mono (by decide)) (takes_of rfl rfl rfl rfl) rfl (ppa_cons (pp_v 2) ppa_nil)))
      (pps_cons (ppq_fld (cl_Term c) (na_Term__moment c) (pp_v 0) (pp_v 1))
      (pps_one (ppq_fld (cl_Term c) (na_Term__shift c) (pp_v 0) (pp_v 2))))))))
theorem t_Term___init__ (XI : K.In base) (GN : base.Ns mainGlobals mg) (c : obsK K = val0) : DC P w K mg base "Term" (ga K "Term") 3 3 (D_Term___init__ P w K) := by
  obtain ⟨fd, F⟩ := F_Term___init__ c
  exact ⟨⟨_, fd, _, rfl, (fx_Term___init__ XI GN c F), mkB_ok (bMk_Term c), binds_full F (by simp) (fun T kV doc pm an cdv ct us its l1 l2 => by
    match us, its, l1, l2 with
    | [_, _, _], [_], _, _ => exact ⟨_, rfl, rfl⟩)⟩, g_Term XI GN c⟩
def dv1_Term___init__ : List Pu.P := [(.int 0)]
theorem td1_Term___init__ (XI : K.In base) (GN : base.Ns mainGlobals mg) (c : obsK K = val0) : DCd P w K mg base "Term" (ga K "Term") 3 3 dv1_Term___init__ (D_Term___init__ P w K) := by
  obtain ⟨fd, F⟩ := F_Term___init__ c
  obtain ⟨ds, vv, bb⟩ := FunD.binds1 (ps := ["self", "moment", "shift"]) F 2 0 (by simp) rfl (fun T kV doc pm an cdv ct us its l1 l2 => by
    match us, its, l1, l2 with
    | [_, _], [_], _, _ => exact ⟨_, rfl, rfl⟩)
  exact ⟨⟨_, fd, _, ds, _, rfl, (fx_Term___init__ XI GN c F), mkB_ok (bMk_Term c), vv, bb, fun D H => (.cons .int .nil)⟩, g_Term XI GN c⟩
/-! Earliest.__contains__ -/
def N_Earliest___contains__ : List Str := ["self", "x"]
theorem sc_Earliest___contains__ : FnScope N_Earliest___contains__ ["self", "x"] (defScope m_Earliest___contains__) := ⟨rfl, rfl, rfl, by decide +kernel, rfl, by decide +kernel, by decide +kernel⟩
noncomputable def D_Earliest___contains__ (P : Program) (w : World) (K : PySem.W.Frag) : FF := fDef 2 2 (sRet (fCall (D_is_moment_of P w K) (fCons (fVar 1) (fCons (fFld (ga K "Earliest") "_shifts" (fVar 0)) fNil))))
theorem fx_Earliest___contains__ (XI : K.In base) (GN : base.Ns mainGlobals mg) (c : obsK K = val0) {fd : FuncData} {f : Addr} (F : Fun K "__contains__" "Earliest.__contains__" m_Earliest___contains__ f fd) : FnX P w K mg base 2 f fd ["self", "x"] (spP 2 (D_Earliest___contains__ P w K)) :=
    (Fun.pp F sc_Earliest___contains__ (fun cdv A fr s H E hG hr => by
      have hu : A.units + 3 + 64 < cLine := hr.units
      exact (pps_one (ppq_ret (pp_call (t_is_moment_of XI GN c) hG (hr.mono (by decide)) (takes_of rfl rfl rfl rfl) rfl (ppa_cons (pp_v 1) (ppa_cons (pp_fld (cl_Earliest c) (na_Earliest__shifts c) (pp_v 0)) ppa_nil)))))))
theorem t_Earliest___contains__ (XI : K.In base) (GN : base.Ns mainGlobals mg) (c : obsK K = val0) : DS P w K mg base (ga K "Earliest") "__contains__" 2 2 (D_Earliest___contains__ P w K) := by
  obtain ⟨fd, F⟩ := F_Earliest___contains__ c
  exact ⟨_, fd, _, rfl, (fx_Earliest___contains__ XI GN c F), mB_ok (bSp_Earliest___contains__ c), F.binds (by intro _ _ _ _ _ _ us hl; first | (match us, hl with | [_], _ => rfl) | (match us, hl with | [_, _], _ => rfl) | (match us, hl with | [_, _, _], _ => rfl) | (match us, hl with | [_, _, _, _], _ => rfl) | (match us, hl with | [_, _, _, _, _], _ => rfl) | (match us, hl with | [_, _, _, _, _, _], _ => rfl) | (match us, hl with | [_, _, _, _, _, _, _], _ => rfl) | (match us, hl with | [_, _, _, _, _, _, _, _], _ => rfl) | (match us, hl with | [_, _, _, _, _, _, _, _, _], _ => rfl))⟩
/-! _law_in_right -/
def N__law_in_right : List Str := ["_law_made", "_law_sizes", "_law_strange", "_law_name", "_law_value"]
theorem sc__law_in_right : FnScope N__law_in_right ["_law_made", "_law_sizes"] (defScope s__law_in_right) := ⟨rfl, rfl, rfl, by decide +kernel, rfl, by decide +kernel, by decide +kernel⟩
noncomputable def D__law_in_right (P : Program) (w : World) (K : PySem.W.Frag) : FF := fDef 2 5 (sSeq (sSet 2 (fLc (iAny (fSeq .lst (fCons (fC (.str "a")) (fCons (fC (.str "q")) (fCons (fC (.str "zzzzzzzz")) (fCons (fC (.str "")) (fCons (fC (.str "A")) fNil))))))) (tgName 3) (fTest (fOp (gIn true) (fVar 3) (fVar 1))) (fVar 3) [3]))
      (sSeq (sSet 2 (fOp gAdd (fVar 2) (fSeq .lst (fCons (fC .non) (fCons (fC (.int 0)) (fCons (fC (.bl true)) (fCons (fSeq .tup fNil) (fCons (fSeq .lst fNil) (fCons (fun _ μ => mkD .val [] μ) (fCons (fCall gTupB (fCons (fVar 1) fNil)) (fCons (fCall (gList .val) (fCons (fVar 1) fNil)) (fCons (fFrz (fMake (ga K "Term") (fDfl (dv1_Term___init__) (D_Term___init__ P w K)) (fCons (fOp gIx (fCall (gList .val) (fCons (fVar 1) fNil)) (fC (.int 0))) fNil))) fNil))))))))))))
      (sSeq (sSet 2 (fOp gAdd (fVar 2) (fSeq .lst (fCons (fOp gAdd (fOp gIx (fCall (gList .val) (fCons (fVar 1) fNil)) (fC (.int 0))) (fC (.str "\n"))) (fCons (fOp gAdd (fC (.str " ")) (fOp gIx (fCall (gList .val) (fCons (fVar 1) fNil)) (fC (.int 0)))) fNil)))))
      (sRet (fAndV (fCall (fBls fun bs => bs.all id) (fCons (fLc (iAny (fVar 1)) (tgName 3) fYes (fOp (fInO (ga K "Earliest") false (D_Earliest___contains__ P w K)) (fVar 3) (fVar 0)) [3]) fNil)) (fNotV (fCall (fBls fun bs => bs.any id) (fCons (fLc (iAny (fVar 2)) (tgName 4) fYes (fOp (fInO (ga K "Earliest") false (D_Earliest___contains__ P w K)) (fVar 4) (fVar 0)) [4]) fNil))))))))
theorem fx__law_in_right (XI : K.In base) (GN : base.Ns mainGlobals mg) (c : obsK K = val0) {fd : FuncData} {f : Addr} (F : Fun K "_law_in_right" "_law_in_right" s__law_in_right f fd) : FnX P w K mg base 5 f fd ["_law_made", "_law_sizes"] (spP 2 (D__law_in_right P w K)) :=
    (Fun.pp F sc__law_in_right (fun cdv A fr s H E hG hr => by
      have hu : A.units + 3 + 64 < cLine := hr.units
      exact (pps_cons (ppq_setLc (i := 2) (own := [("_law_name", 3)]) (g := (gName 3)) (by rfl) sc__law_in_right.nd rfl rfl (sw_true rfl rfl rfl (by decide +kernel)) (ppi_any (pp_lst (ppa_cons pp_str (ppa_cons pp_str (ppa_cons pp_str (ppa_cons pp_str (ppa_cons pp_str ppa_nil))))))) (blkOk_by (own := [("_law_name", 3)]) (by kernel_rfl)) (fun _ _ _ _ _ => (pg_name (i := 3) sc__law_in_right.nd rfl (by first | exact Or.inl rfl | exact Or.inr rfl))) (ad_gName (i := 3) (by intro l e; cases e <;> decide)) (fun _ _ _ _ _ => (ppts_one (pt_notIn (Nat.lt_of_le_of_lt (Nat.add_le_add_left (by decide) _) hu) (pp_v 3) (pp_v 1)))) (fun _ _ _ _ _ => (pp_v 3)))
      (pps_cons (ppq_set (i := 2) sc__law_in_right.nd rfl (Or.inl rfl) (pp_add (pp_v 2) (pp_lst (ppa_cons pp_non (ppa_cons pp_int (ppa_cons pp_bl (ppa_cons (pp_tup ppa_nil) (ppa_cons (pp_lst ppa_nil) (ppa_cons (pp_dnew .val) (ppa_cons (pp_tuple rfl rfl (f_tuple XI GN c) (ppa_cons (pp_v 1) ppa_nil)) (ppa_cons (pp_list .val rfl rfl (f_list XI GN c) (ppa_cons (pp_v 1) ppa_nil)) (ppa_cons (pp_makeD (td1_Term___init__ XI GN c) hG (hr.mono (by decide)) (takes_of rfl rfl rfl rfl) rfl (ppa_cons (pp_idx (Nat.lt_of_le_of_lt (Nat.add_le_add_left (by decide) _) hu) (pp_list .val rfl rfl (f_list XI GN c) (ppa_cons (pp_v 1) ppa_nil)) pp_int) ppa_nil)) ppa_nil))))))))))))
      (pps_cons (ppq_set (i := 2) sc__law_in_right.nd rfl (Or.inl rfl) (pp_add (pp_v 2) (pp_lst (ppa_cons (pp_add (pp_idx (Nat.lt_of_le_of_lt (Nat.add_le_add_left (by decide) _) hu) (pp_list .val rfl rfl (f_list XI GN c) (ppa_cons (pp_v 1) ppa_nil)) pp_int) pp_str) (ppa_cons (pp_add pp_str (pp_idx (Nat.lt_of_le_of_lt (Nat.add_le_add_left (by decide) _) hu) (pp_list .val rfl rfl (f_list XI GN c) (ppa_cons (pp_v 1) ppa_nil)) pp_int)) ppa_nil)))))
      (pps_one (ppq_ret (pp_and (pp_all rfl rfl (f_all XI GN c) (ppa_cons (pp_lc (own := [("_law_name", 3)]) (g := (gName 3)) rfl sc__law_in_right.nd (ppi_any (pp_v 1)) (blkOk_by (own := [("_law_name", 3)]) (by kernel_rfl)) (fun _ _ _ _ _ => (pg_name (i := 3) sc__law_in_right.nd rfl (by first | exact Or.inl rfl | exact Or.inr rfl))) (ad_gName (i := 3) (by intro l e; cases e <;> decide)) (fun _ _ _ _ _ => ppts_nil) (fun _ _ _ _ _ => (pp_inO (t_Earliest___contains__ XI GN c) hG (hr.mono (by decide)) (pp_v 3) (pp_v 0)))) ppa_nil)) (pp_one (pp_not (pp_any rfl rfl (f_any XI GN c) (ppa_cons (pp_lc (own := [("_law_value", 4)]) (g := (gName 4)) rfl sc__law_in_right.nd (ppi_any (pp_v 2)) (blkOk_by (own := [("_law_value", 4)]) (by kernel_rfl)) (fun _ _ _ _ _ => (pg_name (i := 4) sc__law_in_right.nd rfl (by first | exact Or.inl rfl | exact Or.inr rfl))) (ad_gName (i := 4) (by intro l e; cases e <;> decide)) (fun _ _ _ _ _ => ppts_nil) (fun _ _ _ _ _ => (pp_inO (t_Earliest___contains__ XI GN c) hG (hr.mono (by decide)) (pp_v 4) (pp_v 0)))) ppa_nil))))))))))))
theorem t__law_in_right (XI : K.In base) (GN : base.Ns mainGlobals mg) (c : obsK K = val0) : DP P w K mg base "_law_in_right" 2 5 (D__law_in_right P w K) := by
  obtain ⟨fd, F⟩ := F__law_in_right c
  exact ⟨_, fd, _, rfl, (fx__law_in_right XI GN c F), g__law_in_right XI GN c, F.kp, F.binds (by intro _ _ _ _ _ _ us hl; first | (match us, hl with | [_], _ => rfl) | (match us, hl with | [_, _], _ => rfl) | (match us, hl with | [_, _, _], _ => rfl) | (match us, hl with | [_, _, _, _], _ => rfl) | (match us, hl with | [_, _, _, _, _], _ => rfl) | (match us, hl with | [_, _, _, _, _, _], _ => rfl) | (match us, hl with | [_, _, _, _, _, _, _], _ => rfl) | (match us, hl with | [_, _, _, _, _, _, _, _], _ => rfl) | (match us, hl with | [_, _, _, _, _, _, _, _, _], _ => rfl))⟩
/-! Earliest.__eq__ -/
def N_Earliest___eq__ : List Str := ["self", "other"]
theorem sc_Earliest___eq__ : FnScope N_Earliest___eq__ ["self", "other"] (defScope m_Earliest___eq__) := ⟨rfl, rfl, rfl, by decide +kernel, rfl, by decide +kernel, by decide +kernel⟩
noncomputable def D_Earliest___eq__ (P : Program) (w : World) (K : PySem.W.Frag) : FF := fDef 2 2 (sRet (fAndV (fCall (fIsi [(ga K "Earliest"), (ga K "Term")]) (fCons (fVar 1) (fCons (fC (.ref (ga K "Earliest"))) fNil))) (fOp (gEqX false) (fFld (ga K "Earliest") "_shifts" (fVar 0)) (fFld (ga K "Earliest") "_shifts" (fVar 1)))))
theorem fx_Earliest___eq__ (XI : K.In base) (GN : base.Ns mainGlobals mg) (c : obsK K = val0) {fd : FuncData} {f : Addr} (F : Fun K "__eq__" "Earliest.__eq__" m_Earliest___eq__ f fd) : FnX P w K mg base 1 f fd ["self", "other"] (spP 2 (D_Earliest___eq__ P w K)) :=
    (Fun.pp F sc_Earliest___eq__ (fun cdv A fr s H E hG hr => by
      have hu : A.units + 3 + 64 < cLine := hr.units
      exact (pps_one (ppq_ret (pp_and (pp_isi (ow c) rfl (f_isinstance XI GN c) (ppa_cons (pp_v 1) (ppa_cons (pp_gcls rfl (g_Earliest XI GN c)) ppa_nil))) (pp_one (pp_eqX hu (pp_fld (cl_Earliest c) (na_Earliest__shifts c) (pp_v 0)) (pp_fld (cl_Earliest c) (na_Earliest__shifts c) (pp_v 1)))))))))
theorem t_Earliest___eq__ (XI : K.In base) (GN : base.Ns mainGlobals mg) (c : obsK K = val0) : DS P w K mg base (ga K "Earliest") "__eq__" 2 1 (D_Earliest___eq__ P w K) := by
  obtain ⟨fd, F⟩ := F_Earliest___eq__ c
  exact ⟨_, fd, _, rfl, (fx_Earliest___eq__ XI GN c F), mB_ok (bSp_Earliest___eq__ c), F.binds (by intro _ _ _ _ _ _ us hl; first | (match us, hl with | [_], _ => rfl) | (match us, hl with | [_, _], _ => rfl) | (match us, hl with | [_, _, _], _ => rfl) | (match us, hl with | [_, _, _, _], _ => rfl) | (match us, hl with | [_, _, _, _, _], _ => rfl) | (match us, hl with | [_, _, _, _, _, _], _ => rfl) | (match us, hl with | [_, _, _, _, _, _, _], _ => rfl) | (match us, hl with | [_, _, _, _, _, _, _, _], _ => rfl) | (match us, hl with | [_, _, _, _, _, _, _, _, _], _ => rfl))⟩
/-! Term.__eq__ -/
/-! _law_equals_right -/
def N__law_equals_right : List Str := ["_law_made", "_law_sizes", "_law_first", "_law_wider", "_law_others", "_law_twins", "_law_one", "_law_name"]
theorem sc__law_equals_right : FnScope N__law_equals_right ["_law_made", "_law_sizes"] (defScope s__law_equals_right) := ⟨rfl, rfl, rfl, by decide +kernel, rfl, by decide +kernel, by decide +kernel⟩
noncomputable def D__law_equals_right (P : Program) (w : World) (K : PySem.W.Frag) : FF := fDef 2 8 (sSeq (sSet 2 (fOp gIx (fCall (gSort' (SetTO P w)) (fCons (fVar 1) fNil)) (fC (.int 0))))
      (sSeq (sSet 3 (fCall (gDict .val) (fCons (fOp gAdd (fListIts (fVar 1)) (fSeq .lst (fCons (fSeq .tup (fCons (fOp gIx (fLc (iAny (fC (.str "abcdefghi"))) (tgName 7) (fTest (fOp (gIn true) (fVar 7) (fVar 1))) (fVar 7) [7]) (fC (.int 0))) (fCons (fC (.int 0)) fNil))) fNil))) fNil)))
      (sSeq (sSet 4 (fLstC (fCons (fFrz (fMake (ga K "Earliest") (D_Earliest___init__ P w K) (fCons (fCall (gDict .val) (fCons (fOp gAdd (fSl gSlX (fListIts (fVar 1)) oNone (oSome (fUn fNeg (fC (.int 1))))) (fSeq .lst (fCons (fSeq .tup (fCons (fOp gIx (fCall (gList .val) (fCons (fVar 1) fNil)) (fUn fNeg (fC (.int 1)))) (fCons (fOp fSub (fOp gIx (fVar 1) (fOp gIx (fCall (gList .val) (fCons (fVar 1) fNil)) (fUn fNeg (fC (.int 1))))) (fC (.int 1))) fNil))) fNil))) fNil)) fNil))) fNil)))
      (sSeq (sSet 4 (fOp fCatC (fVar 4) (fSeq .lst (fCons (fCall (gDict .val) (fCons (fVar 1) fNil)) (fCons (fCall (fTextC (ga K "Earliest") (D_Earliest___str__ P w K)) (fCons (fVar 0) fNil)) (fCons (fC .non) (fCons (fVar 2) (fCons (fFrz (fMake (ga K "Term") (D_Term___init__ P w K) (fCons (fVar 2) (fCons (fOp gIx (fVar 1) (fVar 2)) fNil)))) (fCons (fListIts (fVar 1)) (fCons (fSeq .lst (fCons (fVar 0) fNil)) fNil))))))))))
      (sSeq (sIfS (fTest (fOp gLt (fCall gLen (fCons (fVar 3) fNil)) (fC (.int 9)))) (sDrop (fBM "list" mAppend (fVar 4) (fCons (fFrz (fMake (ga K "Earliest") (D_Earliest___init__ P w K) (fCons (fVar 3) fNil))) fNil))) sNext)
      (sSeq (sIfS (fOrT (fTest (fCall (fBls fun bs => bs.any id) (fCons (fLock 4 (fLc (iAny (fVar 4)) (tgName 6) fYes (fOp (fEqO (ga K "Earliest") [(ga K "Earliest"), (ga K "Term")] (D_Earliest___eq__ P w K)) (fVar 0) (fVar 6)) [6])) fNil))) (fNotT (fTest (fCall (fBls fun bs => bs.all id) (fCons (fLock 4 (fLc (iAny (fVar 4)) (tgName 6) fYes (fOp (fNeO (ga K "Earliest") [(ga K "Earliest"), (ga K "Term")] (D_Earliest___eq__ P w K)) (fVar 0) (fVar 6)) [6])) fNil))))) (sRet (fC (.bl false))) sNext)
      (sSeq (sSet 5 (fSeq .lst (fCons (fFrz (fMake (ga K "Earliest") (D_Earliest___init__ P w K) (fCons (fCall (gDict .val) (fCons (fBack (fListIts (fVar 1))) fNil)) fNil))) (fCons (fFrz (fMakeKw (ga K "Earliest") [0] 1 (D_Earliest___init__ P w K) (fCons (fCall (gDict .val) (fCons (fVar 1) fNil)) fNil))) fNil))))
      (sSeq (sIfS (fNotT (fTest (fCall (fBls fun bs => bs.all id) (fCons (fLc (iAny (fVar 5)) (tgName 6) fYes (fCall (D__law_is_earliest P w K) (fCons (fVar 6) (fCons (fVar 1) fNil))) [6]) fNil)))) (sRet (fC (.bl false))) sNext)
      (sRet (fAndV (fCall (fBls fun bs => bs.all id) (fCons (fLc (iAny (fVar 5)) (tgName 6) fYes (fAndV (fOp (fEqO (ga K "Earliest") [(ga K "Earliest"), (ga K "Term")] (D_Earliest___eq__ P w K)) (fVar 0) (fVar 6)) (fOp (fEqO (ga K "Earliest") [(ga K "Earliest"), (ga K "Term")] (D_Earliest___eq__ P w K)) (fVar 6) (fVar 0))) [6]) fNil)) (fNotV (fCall (fBls fun bs => bs.any id) (fCons (fLc (iAny (fVar 5)) (tgName 6) fYes (fOp (fNeO (ga K "Earliest") [(ga K "Earliest"), (ga K "Term")] (D_Earliest___eq__ P w K)) (fVar 0) (fVar 6)) [6]) fNil)))))))))))))
theorem fx__law_equals_right (XI : K.In base) (GN : base.Ns mainGlobals mg) (c : obsK K = val0) {fd : FuncData} {f : Addr} (F : Fun K "_law_equals_right" "_law_equals_right" s__law_equals_right f fd) : FnX P w K mg base 6 f fd ["_law_made", "_law_sizes"] (spP 2 (D__law_equals_right P w K)) :=
    (Fun.pp F sc__law_equals_right (fun cdv A fr s H E hG hr => by
      have hu : A.units + 3 + 64 < cLine := hr.units
      exact (pps_cons (ppq_set (i := 2) sc__law_equals_right.nd rfl (Or.inl rfl) (pp_idx (Nat.lt_of_le_of_lt (Nat.add_le_add_left (by decide) _) hu) (pp_sorted rfl rfl (f_sorted XI GN c) (ppa_cons (pp_v 1) ppa_nil)) pp_int))
      (pps_cons (ppq_set (i := 3) sc__law_equals_right.nd rfl (Or.inl rfl) (pp_dict .val rfl rfl (f_dict XI GN c) (ppa_cons (pp_add (pp_listIts rfl rfl (f_list XI GN c) (pp_v 1)) (pp_lst (ppa_cons (pp_tup (ppa_cons (pp_idx (Nat.lt_of_le_of_lt (Nat.add_le_add_left (by decide) _) hu) (pp_lc (own := [("_law_name", 7)]) (g := (gName 7)) rfl sc__law_equals_right.nd (ppi_any pp_str) (blkOk_by (own := [("_law_name", 7)]) (by kernel_rfl)) (fun _ _ _ _ _ => (pg_name (i := 7) sc__law_equals_right.nd rfl (by first | exact Or.inl rfl | exact Or.inr rfl))) (ad_gName (i := 7) (by intro l e; cases e <;> decide)) (fun _ _ _ _ _ => (ppts_one (pt_notIn (Nat.lt_of_le_of_lt (Nat.add_le_add_left (by decide) _) hu) (pp_v 7) (pp_v 1)))) (fun _ _ _ _ _ => (pp_v 7))) pp_int) (ppa_cons pp_int ppa_nil))) ppa_nil))) ppa_nil)))
      (pps_cons (ppq_set (i := 4) sc__law_equals_right.nd rfl (Or.inl rfl) (pp_lstC (ppa_cons (pp_make (t_Earliest___init__ XI GN c) hG (hr.mono (by decide)) (takes_of rfl rfl rfl rfl) rfl (ppa_cons (pp_dict .val rfl rfl (f_dict XI GN c) (ppa_cons (pp_add (pp_slX (pp_listIts rfl rfl (f_list XI GN c) (pp_v 1)) ppo_none (ppo_some (pp_neg pp_int))) (pp_lst (ppa_cons (pp_tup (ppa_cons (pp_idx (Nat.lt_of_le_of_lt (Nat.add_le_add_left (by decide) _) hu) (pp_list .val rfl rfl (f_list XI GN c) (ppa_cons (pp_v 1) ppa_nil)) (pp_neg pp_int)) (ppa_cons (pp_sub (pp_idx (Nat.lt_of_le_of_lt (Nat.add_le_add_left (by decide) _) hu) (pp_v 1) (pp_idx (Nat.lt_of_le_of_lt (Nat.add_le_add_left (by decide) _) hu) (pp_list .val rfl rfl (f_list XI GN c) (ppa_cons (pp_v 1) ppa_nil)) (pp_neg pp_int))) pp_int) ppa_nil))) ppa_nil))) ppa_nil)) ppa_nil)) ppa_nil)))
      (pps_cons (ppq_set (i := 4) sc__law_equals_right.nd rfl (Or.inl rfl) (pp_addC (pp_v 4) (pp_lst (ppa_cons (pp_dict .val rfl rfl (f_dict XI GN c) (ppa_cons (pp_v 1) ppa_nil)) (ppa_cons (pp_strO (t_Earliest___str__ XI GN c) hG (hr.mono (by decide)) hu rfl (f_str XI GN c) (ppa_cons (pp_v 0) ppa_nil)) (ppa_cons pp_non (ppa_cons (pp_v 2) (ppa_cons (pp_make (t_Term___init__ XI GN c) hG (hr.mono (by decide)) (takes_of rfl rfl rfl rfl) rfl (ppa_cons (pp_v 2) (ppa_cons (pp_idx (Nat.lt_of_le_of_lt (Nat.add_le_add_left (by decide) _) hu) (pp_v 1) (pp_v 2)) ppa_nil))) (ppa_cons (pp_listIts rfl rfl (f_list XI GN c) (pp_v 1)) (ppa_cons (pp_lst (ppa_cons (pp_v 0) ppa_nil)) ppa_nil))))))))))
      (pps_cons (ppq_if (pt_lt (pp_len' rfl (f_len XI GN c) (ppa_cons (pp_v 3) ppa_nil)) pp_int) (pps_one (ppq_expr (pp_append (pp_v 4) (pp_make (t_Earliest___init__ XI GN c) hG (hr.mono (by decide)) (takes_of rfl rfl rfl rfl) rfl (ppa_cons (pp_v 3) ppa_nil))))) pps_nil)
      (pps_cons (ppq_if (PPW.pt (ptw_or (pt_b (pp_any rfl rfl (f_any XI GN c) (ppa_cons (pp_lock (i := 4) (pp_lc (own := [("_law_one", 6)]) (g := (gName 6)) rfl sc__law_equals_right.nd (ppi_any (pp_v 4)) (blkOk_by (own := [("_law_one", 6)]) (by kernel_rfl)) (fun _ _ _ _ _ => (pg_name (i := 6) sc__law_equals_right.nd rfl (by first | exact Or.inl rfl | exact Or.inr rfl))) (ad_gName (i := 6) (by intro l e; cases e <;> decide)) (fun _ _ _ _ _ => ppts_nil) (fun _ _ _ _ _ => (pp_eqO (t_Earliest___eq__ XI GN c) (eq_Earliest c) hG (hr.mono (by decide)) (Nat.lt_of_le_of_lt (Nat.le_add_right _ _) hu) (pp_v 0) (pp_v 6))))) ppa_nil))) (ptw_or1 (ptt_not (pt_b (pp_all rfl rfl (f_all XI GN c) (ppa_cons (pp_lock (i := 4) (pp_lc (own := [("_law_one", 6)]) (g := (gName 6)) rfl sc__law_equals_right.nd (ppi_any (pp_v 4)) (blkOk_by (own := [("_law_one", 6)]) (by kernel_rfl)) (fun _ _ _ _ _ => (pg_name (i := 6) sc__law_equals_right.nd rfl (by first | exact Or.inl rfl | exact Or.inr rfl))) (ad_gName (i := 6) (by intro l e; cases e <;> decide)) (fun _ _ _ _ _ => ppts_nil) (fun _ _ _ _ _ => (pp_neO (t_Earliest___eq__ XI GN c) (eq_Earliest c) hG (hr.mono (by decide)) (Nat.lt_of_le_of_lt (Nat.add_le_add_left (by decide) _) hu) (pp_v 0) (pp_v 6))))) ppa_nil))))))) (pps_one (ppq_ret pp_bl)) pps_nil)
      (pps_cons (ppq_set (i := 5) sc__law_equals_right.nd rfl (Or.inl rfl) (pp_lst (ppa_cons (pp_make (t_Earliest___init__ XI GN c) hG (hr.mono (by decide)) (takes_of rfl rfl rfl rfl) rfl (ppa_cons (pp_dict .val rfl rfl (f_dict XI GN c) (ppa_cons (pp_back (pp_listIts rfl rfl (f_list XI GN c) (pp_v 1))) ppa_nil)) ppa_nil)) (ppa_cons (pp_makeKw (mk_Earliest___init___shifts XI GN c) hG (hr.mono (by decide)) (takes_of rfl rfl rfl rfl) rfl (ppk_cons (pp_dict .val rfl rfl (f_dict XI GN c) (ppa_cons (pp_v 1) ppa_nil)) ppk_nil)) ppa_nil))))
      (pps_cons (ppq_if (ptt_not (pt_b (pp_all rfl rfl (f_all XI GN c) (ppa_cons (pp_lc (own := [("_law_one", 6)]) (g := (gName 6)) rfl sc__law_equals_right.nd (ppi_any (pp_v 5)) (blkOk_by (own := [("_law_one", 6)]) (by kernel_rfl)) (fun _ _ _ _ _ => (pg_name (i := 6) sc__law_equals_right.nd rfl (by first | exact Or.inl rfl | exact Or.inr rfl))) (ad_gName (i := 6) (by intro l e; cases e <;> decide)) (fun _ _ _ _ _ => ppts_nil) (fun _ _ _ _ _ => (pp_call (t__law_is_earliest XI GN c) hG (hr.mono (by decide)) takes0 rfl (ppa_cons (pp_v 6) (ppa_cons (pp_v 1) ppa_nil))))) ppa_nil)))) (pps_one (ppq_ret pp_bl)) pps_nil)
      (pps_one (ppq_ret (pp_and (pp_all rfl rfl (f_all XI GN c) (ppa_cons (pp_lc (own := [("_law_one", 6)]) (g := (gName 6)) rfl sc__law_equals_right.nd (ppi_any (pp_v 5)) (blkOk_by (own := [("_law_one", 6)]) (by kernel_rfl)) (fun _ _ _ _ _ => (pg_name (i := 6) sc__law_equals_right.nd rfl (by first | exact Or.inl rfl | exact Or.inr rfl))) (ad_gName (i := 6) (by intro l e; cases e <;> decide)) (fun _ _ _ _ _ => ppts_nil) (fun _ _ _ _ _ => (pp_and (pp_eqO (t_Earliest___eq__ XI GN c) (eq_Earliest c) hG (hr.mono (by decide)) (Nat.lt_of_le_of_lt (Nat.le_add_right _ _) hu) (pp_v 0) (pp_v 6)) (pp_one (pp_eqO (t_Earliest___eq__ XI GN c) (eq_Earliest c) hG (hr.mono (by decide)) (Nat.lt_of_le_of_lt (Nat.le_add_right _ _) hu) (pp_v 6) (pp_v 0)))))) ppa_nil)) (pp_one (pp_not (pp_any rfl rfl (f_any XI GN c) (ppa_cons (pp_lc (own := [("_law_one", 6)]) (g := (gName 6)) rfl sc__law_equals_right.nd (ppi_any (pp_v 5)) (blkOk_by (own := [("_law_one", 6)]) (by kernel_rfl)) (fun _ _ _ _ _ => (pg_name (i := 6) sc__law_equals_right.nd rfl (by first | exact Or.inl rfl | exact Or.inr rfl))) (ad_gName (i := 6) (by intro l e; cases e <;> decide)) (fun _ _ _ _ _ => ppts_nil) (fun _ _ _ _ _ => (pp_neO (t_Earliest___eq__ XI GN c) (eq_Earliest c) hG (hr.mono (by decide)) (Nat.lt_of_le_of_lt (Nat.add_le_add_left (by decide) _) hu) (pp_v 0) (pp_v 6)))) ppa_nil)))))))))))))))))
theorem t__law_equals_right (XI : K.In base) (GN : base.Ns mainGlobals mg) (c : obsK K = val0) : DP P w K mg base "_law_equals_right" 2 6 (D__law_equals_right P w K) := by
  obtain ⟨fd, F⟩ := F__law_equals_right c
  exact ⟨_, fd, _, rfl, (fx__law_equals_right XI GN c F), g__law_equals_right XI GN c, F.kp, F.binds (by intro _ _ _ _ _ _ us hl; first | (match us, hl with | [_], _ => rfl) | (match us, hl with | [_, _], _ => rfl) | (match us, hl with | [_, _, _], _ => rfl) | (match us, hl with | [_, _, _, _], _ => rfl) | (match us, hl with | [_, _, _, _, _], _ => rfl) | (match us, hl with | [_, _, _, _, _, _], _ => rfl) | (match us, hl with | [_, _, _, _, _, _, _], _ => rfl) | (match us, hl with | [_, _, _, _, _, _, _, _], _ => rfl) | (match us, hl with | [_, _, _, _, _, _, _, _, _], _ => rfl))⟩
/-! moved -/
def N_moved : List Str := ["table", "number", "moment"]
theorem sc_moved : FnScope N_moved ["table", "number"] (defScope s_moved) := ⟨rfl, rfl, rfl, by decide +kernel, rfl, by decide +kernel, by decide +kernel⟩
noncomputable def D_moved (P : Program) (w : World) (K : PySem.W.Frag) : FF := fDef 2 3 (sRet (fDc (iAny (fVar 0)) (tgName 2) fYes (fVar 2) (fOp gAdd (fOp gIx (fVar 0) (fVar 2)) (fVar 1)) [2]))
theorem fx_moved (XI : K.In base) (GN : base.Ns mainGlobals mg) (c : obsK K = val0) {fd : FuncData} {f : Addr} (F : Fun K "moved" "moved" s_moved f fd) : FnX P w K mg base 1 f fd ["table", "number"] (spP 2 (D_moved P w K)) :=
    (Fun.pp F sc_moved (fun cdv A fr s H E hG hr => by
      have hu : A.units + 3 + 64 < cLine := hr.units
      exact (pps_one (ppq_ret (pp_dc (own := [("moment", 2)]) (g := (gName 2)) rfl sc_moved.nd (ppi_any (pp_v 0)) (blkOk_by (own := [("moment", 2)]) (by kernel_rfl)) (fun _ _ _ _ _ => (pg_name (i := 2) sc_moved.nd rfl (by first | exact Or.inl rfl | exact Or.inr rfl))) (ad_gName (i := 2) (by intro l e; cases e <;> decide)) (fun _ _ _ _ _ => ppts_nil) (fun _ _ _ _ _ => (pp_v 2)) (fun _ _ _ _ _ => (pp_add (pp_idx (Nat.lt_of_le_of_lt (Nat.add_le_add_left (by decide) _) hu) (pp_v 0) (pp_v 2)) (pp_v 1))))))))
theorem t_moved (XI : K.In base) (GN : base.Ns mainGlobals mg) (c : obsK K = val0) : DP P w K mg base "moved" 2 1 (D_moved P w K) := by
  obtain ⟨fd, F⟩ := F_moved c
  exact ⟨_, fd, _, rfl, (fx_moved XI GN c F), g_moved XI GN c, F.kp, F.binds (by intro _ _ _ _ _ _ us hl; first | (match us, hl with | [_], _ => rfl) | (match us, hl with | [_, _], _ => rfl) | (match us, hl with | [_, _, _], _ => rfl) | (match us, hl with | [_, _, _, _], _ => rfl) | (match us, hl with | [_, _, _, _, _], _ => rfl) | (match us, hl with | [_, _, _, _, _, _], _ => rfl) | (match us, hl with | [_, _, _, _, _, _, _], _ => rfl) | (match us, hl with | [_, _, _, _, _, _, _, _], _ => rfl) | (match us, hl with | [_, _, _, _, _, _, _, _, _], _ => rfl))⟩
end
end Pu
set_option Elab.async false
set_option linter.all false
set_option maxRecDepth 100000
set_option maxHeartbeats 8000000
namespace Pu
open L2 PySem PySem.Spec PyProof.Rows E10
open He (ga ma)
section
variable {P : Program} {w : World} {K : PySem.W.Frag} {mg : Str → Option Value} {base : Heap}
/-! Earliest.__add__ -/
def N_Earliest___add__ : List Str := ["self", "other"]
theorem sc_Earliest___add__ : FnScope N_Earliest___add__ ["self", "other"] (defScope m_Earliest___add__) := ⟨rfl, rfl, rfl, by decide +kernel, rfl, by decide +kernel, by decide +kernel⟩
noncomputable def D_Earliest___add__ (P : Program) (w : World) (K : PySem.W.Frag) : FF := fDef 2 2 (sSeq (sDrop (fCall (D_check_shift P w K) (fCons (fVar 1) fNil)))
      (sRet (fFrz (fMake (ga K "Earliest") (D_Earliest___init__ P w K) (fCons (fCall (D_moved P w K) (fCons (fFld (ga K "Earliest") "_shifts" (fVar 0)) (fCons (fVar 1) fNil))) fNil)))))
theorem fx_Earliest___add__ (XI : K.In base) (GN : base.Ns mainGlobals mg) (c : obsK K = val0) {fd : FuncData} {f : Addr} (F : Fun K "__add__" "Earliest.__add__" m_Earliest___add__ f fd) : FnX P w K mg base 6 f fd ["self", "other"] (spP 2 (D_Earliest___add__ P w K)) :=
    (Fun.pp F sc_Earliest___add__ (fun cdv A fr s H E hG hr => by
      have hu : A.units + 3 + 64 < cLine := hr.units
      exact (pps_cons (ppq_expr (pp_call (t_check_shift XI GN c) hG (hr.mono (by decide)) (takes_of rfl rfl rfl rfl) rfl (ppa_cons (pp_v 1) ppa_nil)))
      (pps_one (ppq_ret (pp_make (t_Earliest___init__ XI GN c) hG (hr.mono (by decide)) (takes_of rfl rfl rfl rfl) rfl (ppa_cons (pp_call (t_moved XI GN c) hG (hr.mono (by decide)) (takes_of rfl rfl rfl rfl) rfl (ppa_cons (pp_fld (cl_Earliest c) (na_Earliest__shifts c) (pp_v 0)) (ppa_cons (pp_v 1) ppa_nil))) ppa_nil)))))))
theorem t_Earliest___add__ (XI : K.In base) (GN : base.Ns mainGlobals mg) (c : obsK K = val0) : DS P w K mg base (ga K "Earliest") (PySem.dunder "add") 2 6 (D_Earliest___add__ P w K) := by
  obtain ⟨fd, F⟩ := F_Earliest___add__ c
  exact ⟨_, fd, _, rfl, (fx_Earliest___add__ XI GN c F), mB_ok (bSp_Earliest___add__ c), F.binds (by intro _ _ _ _ _ _ us hl; first | (match us, hl with | [_], _ => rfl) | (match us, hl with | [_, _], _ => rfl) | (match us, hl with | [_, _, _], _ => rfl) | (match us, hl with | [_, _, _, _], _ => rfl) | (match us, hl with | [_, _, _, _, _], _ => rfl) | (match us, hl with | [_, _, _, _, _, _], _ => rfl) | (match us, hl with | [_, _, _, _, _, _, _], _ => rfl) | (match us, hl with | [_, _, _, _, _, _, _, _], _ => rfl) | (match us, hl with | [_, _, _, _, _, _, _, _, _], _ => rfl))⟩
/-! Earliest.__radd__ -/
def N_Earliest___radd__ : List Str := ["self", "other"]
theorem sc_Earliest___radd__ : FnScope N_Earliest___radd__ ["self", "other"] (defScope m_Earliest___radd__) := ⟨rfl, rfl, rfl, by decide +kernel, rfl, by decide +kernel, by decide +kernel⟩
noncomputable def D_Earliest___radd__ (P : Program) (w : World) (K : PySem.W.Frag) : FF := fDef 2 2 (sRet (fFrz (fOp (fOwnI (ga K "Earliest") (D_Earliest___add__ P w K)) (fVar 0) (fVar 1))))
theorem fx_Earliest___radd__ (XI : K.In base) (GN : base.Ns mainGlobals mg) (c : obsK K = val0) {fd : FuncData} {f : Addr} (F : Fun K "__radd__" "Earliest.__radd__" m_Earliest___radd__ f fd) : FnX P w K mg base 7 f fd ["self", "other"] (spP 2 (D_Earliest___radd__ P w K)) :=
    (Fun.pp F sc_Earliest___radd__ (fun cdv A fr s H E hG hr => by
      have hu : A.units + 3 + 64 < cLine := hr.units
      exact (pps_one (ppq_ret (pp_frz (pp_plusI (radd_Earliest c) (t_Earliest___add__ XI GN c) (in_Earliest c) hG (hr.mono (by decide)) (pp_v 0) (pp_v 1)))))))
theorem t_Earliest___radd__ (XI : K.In base) (GN : base.Ns mainGlobals mg) (c : obsK K = val0) : DS P w K mg base (ga K "Earliest") (dunderR "add") 2 7 (D_Earliest___radd__ P w K) := by
  obtain ⟨fd, F⟩ := F_Earliest___radd__ c
  exact ⟨_, fd, _, rfl, (fx_Earliest___radd__ XI GN c F), mB_ok (bSp_Earliest___radd__ c), F.binds (by intro _ _ _ _ _ _ us hl; first | (match us, hl with | [_], _ => rfl) | (match us, hl with | [_, _], _ => rfl) | (match us, hl with | [_, _, _], _ => rfl) | (match us, hl with | [_, _, _, _], _ => rfl) | (match us, hl with | [_, _, _, _, _], _ => rfl) | (match us, hl with | [_, _, _, _, _, _], _ => rfl) | (match us, hl with | [_, _, _, _, _, _, _], _ => rfl) | (match us, hl with | [_, _, _, _, _, _, _, _], _ => rfl) | (match us, hl with | [_, _, _, _, _, _, _, _, _], _ => rfl))⟩
/-! Earliest.__sub__ -/
def N_Earliest___sub__ : List Str := ["self", "other"]
theorem sc_Earliest___sub__ : FnScope N_Earliest___sub__ ["self", "other"] (defScope m_Earliest___sub__) := ⟨rfl, rfl, rfl, by decide +kernel, rfl, by decide +kernel, by decide +kernel⟩
noncomputable def D_Earliest___sub__ (P : Program) (w : World) (K : PySem.W.Frag) : FF := fDef 2 2 (sSeq (sDrop (fCall (D_check_shift P w K) (fCons (fVar 1) fNil)))
      (sRet (fFrz (fOp (fOwnI (ga K "Earliest") (D_Earliest___add__ P w K)) (fVar 0) (fUn fNeg (fVar 1))))))
theorem fx_Earliest___sub__ (XI : K.In base) (GN : base.Ns mainGlobals mg) (c : obsK K = val0) {fd : FuncData} {f : Addr} (F : Fun K "__sub__" "Earliest.__sub__" m_Earliest___sub__ f fd) : FnX P w K mg base 7 f fd ["self", "other"] (spP 2 (D_Earliest___sub__ P w K)) :=
    (Fun.pp F sc_Earliest___sub__ (fun cdv A fr s H E hG hr => by
      have hu : A.units + 3 + 64 < cLine := hr.units
      exact (pps_cons (ppq_expr (pp_call (t_check_shift XI GN c) hG (hr.mono (by decide)) (takes_of rfl rfl rfl rfl) rfl (ppa_cons (pp_v 1) ppa_nil)))
      (pps_one (ppq_ret (pp_frz (pp_plusI (radd_Earliest c) (t_Earliest___add__ XI GN c) (in_Earliest c) hG (hr.mono (by decide)) (pp_v 0) (pp_neg (pp_v 1)))))))))
theorem t_Earliest___sub__ (XI : K.In base) (GN : base.Ns mainGlobals mg) (c : obsK K = val0) : DS P w K mg base (ga K "Earliest") (PySem.dunder "sub") 2 7 (D_Earliest___sub__ P w K) := by
  obtain ⟨fd, F⟩ := F_Earliest___sub__ c
  exact ⟨_, fd, _, rfl, (fx_Earliest___sub__ XI GN c F), mB_ok (bSp_Earliest___sub__ c), F.binds (by intro _ _ _ _ _ _ us hl; first | (match us, hl with | [_], _ => rfl) | (match us, hl with | [_, _], _ => rfl) | (match us, hl with | [_, _, _], _ => rfl) | (match us, hl with | [_, _, _, _], _ => rfl) | (match us, hl with | [_, _, _, _, _], _ => rfl) | (match us, hl with | [_, _, _, _, _, _], _ => rfl) | (match us, hl with | [_, _, _, _, _, _, _], _ => rfl) | (match us, hl with | [_, _, _, _, _, _, _, _], _ => rfl) | (match us, hl with | [_, _, _, _, _, _, _, _, _], _ => rfl))⟩
/-! Earliest.of -/
def N_Earliest_of : List Str := ["shifts"]
theorem sc_Earliest_of : FnScope N_Earliest_of ["shifts"] (defScope m_Earliest_of) := ⟨rfl, rfl, rfl, by decide +kernel, rfl, by decide +kernel, by decide +kernel⟩
noncomputable def D_Earliest_of (P : Program) (w : World) (K : PySem.W.Frag) : FF := fDef 1 1 (sRet (fFrz (fMake (ga K "Earliest") (D_Earliest___init__ P w K) (fCons (fVar 0) fNil))))
theorem kx_Earliest_of (XI : K.In base) (GN : base.Ns mainGlobals mg) (c : obsK K = val0) {fd : FuncData} {f : Addr} (F : Fun K "of" "Earliest.of" m_Earliest_of f fd) : KwP P w K mg base 5 f "shifts" (D_Earliest_of P w K) :=
    ⟨_, _, _, N_Earliest_of, fd, _, F, sc_Earliest_of, rfl, fun ks few kV doc pm an cdv ct ws l => Eq.trans (b := kwB "shifts" (ks.zip ws)) (by
        match ks, ws, few, l with
        | [], [], _, _ => rfl
        | [_], [_], _, _ => rfl
        | [_, _], [_, _], _, _ => rfl
        | [_, _, _], [_, _, _], _, _ => rfl
        | [_, _, _, _], [_, _, _, _], _, _ => rfl
        | [_, _, _, _, _], [_, _, _, _, _], _, _ => rfl
        | [_, _, _, _, _, _], [_, _, _, _, _, _], _, _ => rfl
        | [_, _, _, _, _, _, _], [_, _, _, _, _, _, _], _, _ => rfl
        | [_, _, _, _, _, _, _, _], [_, _, _, _, _, _, _, _], _, _ => rfl
        | [_, _, _, _, _, _, _, _, _], [_, _, _, _, _, _, _, _, _], _, _ => rfl) (kwB_eq _ _), fun cdv A fr s H E hG hr => by
      have hu : A.units + 3 + 64 < cLine := hr.units
      exact (pps_one (ppq_ret (pp_make (t_Earliest___init__ XI GN c) hG (hr.mono (by decide)) (takes_of rfl rfl rfl rfl) rfl (ppa_cons (pp_v 0) ppa_nil))))⟩
theorem ks_Earliest_of (XI : K.In base) (GN : base.Ns mainGlobals mg) (c : obsK K = val0) : KS P w K mg base (ga K "Earliest") "of" 5 (D_Earliest_of P w K) := by
  obtain ⟨fd, F⟩ := F_Earliest_of c
  have w' := He5.wrapB_ok (bSt_Earliest_of c)
  exact ⟨_, _, _, _, kx_Earliest_of XI GN c F, rdB_ok (bRd_Earliest c), ⟨w'.1, w'.2, F.kp⟩⟩
/-! left_out -/
def N_left_out : List Str := ["table", "moment", "key"]
theorem sc_left_out : FnScope N_left_out ["table", "moment"] (defScope s_left_out) := ⟨rfl, rfl, rfl, by decide +kernel, rfl, by decide +kernel, by decide +kernel⟩
noncomputable def D_left_out (P : Program) (w : World) (K : PySem.W.Frag) : FF := fDef 2 3 (sRet (fDc (iAny (fVar 0)) (tgName 2) (fTest (fOp (gEqX true) (fVar 2) (fVar 1))) (fVar 2) (fOp gIx (fVar 0) (fVar 2)) [2]))
theorem fx_left_out (XI : K.In base) (GN : base.Ns mainGlobals mg) (c : obsK K = val0) {fd : FuncData} {f : Addr} (F : Fun K "left_out" "left_out" s_left_out f fd) : FnX P w K mg base 1 f fd ["table", "moment"] (spP 2 (D_left_out P w K)) :=
    (Fun.pp F sc_left_out (fun cdv A fr s H E hG hr => by
      have hu : A.units + 3 + 64 < cLine := hr.units
      exact (pps_one (ppq_ret (pp_dc (own := [("key", 2)]) (g := (gName 2)) rfl sc_left_out.nd (ppi_any (pp_v 0)) (blkOk_by (own := [("key", 2)]) (by kernel_rfl)) (fun _ _ _ _ _ => (pg_name (i := 2) sc_left_out.nd rfl (by first | exact Or.inl rfl | exact Or.inr rfl))) (ad_gName (i := 2) (by intro l e; cases e <;> decide)) (fun _ _ _ _ _ => (ppts_one (pt_neX hu (pp_v 2) (pp_v 1)))) (fun _ _ _ _ _ => (pp_v 2)) (fun _ _ _ _ _ => (pp_idx (Nat.lt_of_le_of_lt (Nat.add_le_add_left (by decide) _) hu) (pp_v 0) (pp_v 2))))))))
theorem t_left_out (XI : K.In base) (GN : base.Ns mainGlobals mg) (c : obsK K = val0) : DP P w K mg base "left_out" 2 1 (D_left_out P w K) := by
  obtain ⟨fd, F⟩ := F_left_out c
  exact ⟨_, fd, _, rfl, (fx_left_out XI GN c F), g_left_out XI GN c, F.kp, F.binds (by intro _ _ _ _ _ _ us hl; first | (match us, hl with | [_], _ => rfl) | (match us, hl with | [_, _], _ => rfl) | (match us, hl with | [_, _, _], _ => rfl) | (match us, hl with | [_, _, _, _], _ => rfl) | (match us, hl with | [_, _, _, _, _], _ => rfl) | (match us, hl with | [_, _, _, _, _, _], _ => rfl) | (match us, hl with | [_, _, _, _, _, _, _], _ => rfl) | (match us, hl with | [_, _, _, _, _, _, _, _], _ => rfl) | (match us, hl with | [_, _, _, _, _, _, _, _, _], _ => rfl))⟩
/-! Earliest.without -/
def N_Earliest_without : List Str := ["self", "moment"]
theorem sc_Earliest_without : FnScope N_Earliest_without ["self", "moment"] (defScope m_Earliest_without) := ⟨rfl, rfl, rfl, by decide +kernel, rfl, by decide +kernel, by decide +kernel⟩
noncomputable def D_Earliest_without (P : Program) (w : World) (K : PySem.W.Frag) : FF := fDef 2 2 (sSeq (sDrop (fCall (D_check_moment P w K) (fCons (fVar 1) (fCons (fFld (ga K "Earliest") "_shifts" (fVar 0)) fNil))))
      (sSeq (sIfS (fTest (fOp (gEqX false) (fCall gLen (fCons (fFld (ga K "Earliest") "_shifts" (fVar 0)) fNil)) (fC (.int 1)))) sBad sNext)
      (sRet (fFrz (fMake (ga K "Earliest") (D_Earliest___init__ P w K) (fCons (fCall (D_left_out P w K) (fCons (fFld (ga K "Earliest") "_shifts" (fVar 0)) (fCons (fVar 1) fNil))) fNil))))))
theorem fx_Earliest_without (XI : K.In base) (GN : base.Ns mainGlobals mg) (c : obsK K = val0) {fd : FuncData} {f : Addr} (F : Fun K "without" "Earliest.without" m_Earliest_without f fd) : FnX P w K mg base 6 f fd ["self", "moment"] (spP 2 (D_Earliest_without P w K)) :=
    (Fun.pp F sc_Earliest_without (fun cdv A fr s H E hG hr => by
      have hu : A.units + 3 + 64 < cLine := hr.units
      exact (pps_cons (ppq_expr (pp_call (t_check_moment XI GN c) hG (hr.mono (by decide)) (takes_of rfl rfl rfl rfl) rfl (ppa_cons (pp_v 1) (ppa_cons (pp_fld (cl_Earliest c) (na_Earliest__shifts c) (pp_v 0)) ppa_nil))))
      (pps_cons (ppq_if (pt_eqX hu (pp_len' rfl (f_len XI GN c) (ppa_cons (pp_fld (cl_Earliest c) (na_Earliest__shifts c) (pp_v 0)) ppa_nil)) pp_int) (pps_one ppq_never) pps_nil)
      (pps_one (ppq_ret (pp_make (t_Earliest___init__ XI GN c) hG (hr.mono (by decide)) (takes_of rfl rfl rfl rfl) rfl (ppa_cons (pp_call (t_left_out XI GN c) hG (hr.mono (by decide)) (takes_of rfl rfl rfl rfl) rfl (ppa_cons (pp_fld (cl_Earliest c) (na_Earliest__shifts c) (pp_v 0)) (ppa_cons (pp_v 1) ppa_nil))) ppa_nil))))))))
theorem t_Earliest_without (XI : K.In base) (GN : base.Ns mainGlobals mg) (c : obsK K = val0) : DM P w K mg base (ga K "Earliest") "without" 2 6 (D_Earliest_without P w K) := by
  obtain ⟨fd, F⟩ := F_Earliest_without c
  exact ⟨_, fd, _, rfl, (fx_Earliest_without XI GN c F), metB_ok (bMet_Earliest_without c), F.binds (by intro _ _ _ _ _ _ us hl; first | (match us, hl with | [_], _ => rfl) | (match us, hl with | [_, _], _ => rfl) | (match us, hl with | [_, _, _], _ => rfl) | (match us, hl with | [_, _, _, _], _ => rfl) | (match us, hl with | [_, _, _, _, _], _ => rfl) | (match us, hl with | [_, _, _, _, _, _], _ => rfl) | (match us, hl with | [_, _, _, _, _, _, _], _ => rfl) | (match us, hl with | [_, _, _, _, _, _, _, _], _ => rfl) | (match us, hl with | [_, _, _, _, _, _, _, _, _], _ => rfl))⟩
theorem tk_Earliest_without_moment (XI : K.In base) (GN : base.Ns mainGlobals mg) (c : obsK K = val0) : DMk P w K mg base (ga K "Earliest") "without" ["moment"] 6 (D_Earliest_without P w K) := by
  obtain ⟨fd, F⟩ := F_Earliest_without c
  refine ⟨_, fd, _, fx_Earliest_without XI GN c F, metB_ok (bMet_Earliest_without c), kb_one F 1 ["moment"] _ _ (fun r1 r2 => r1.append r2) fun kV doc pm an cdv ct us ws l1 l2 => ?_⟩
  match us, ws, l1, l2 with
  | [_], [_], _, _ => rfl
/-! _law_without_right -/
def N__law_without_right : List Str := ["_law_made", "_law_sizes", "_law_name", "_law_less", "_law_told", "_law_other", "_law_amount", "_law_one"]
theorem sc__law_without_right : FnScope N__law_without_right ["_law_made", "_law_sizes"] (defScope s__law_without_right) := ⟨rfl, rfl, rfl, by decide +kernel, rfl, by decide +kernel, by decide +kernel⟩
noncomputable def D__law_without_right (P : Program) (w : World) (K : PySem.W.Frag) : FF := fDef 2 8 (sSeq (sFor (iAny (fIf (fTest (fOp gGt (fCall gLen (fCons (fVar 1) fNil)) (fC (.int 1)))) (fVar 1) (fun _ μ => mkD .val [] μ))) (tgName 2) (sSeq (sSet 3 (fCall (gDict .val) (fCons (fLc (iItemsP (fVar 1)) (tgTup 2 (tgCons (tgName 5) (tgCons (tgName 6) tgNil))) (fTest (fOp (gEqX true) (fVar 5) (fVar 2))) (fSeq .tup (fCons (fVar 5) (fCons (fVar 6) fNil))) [5, 6]) fNil)))
        (sSeq (sSet 4 (fSeq .lst (fCons (fMeth (ga K "Earliest") "without" (D_Earliest_without P w K) (fVar 0) (fCons (fVar 2) fNil)) (fCons (fMeth (ga K "Earliest") "without" (D_Earliest_without P w K) (fVar 0) (fCons (fVar 2) fNil)) fNil))))
        (sIfS (fOrT (fNotT (fTest (fCall (fBls fun bs => bs.all id) (fCons (fLc (iAny (fVar 4)) (tgName 7) fYes (fCall (D__law_is_earliest P w K) (fCons (fVar 7) (fCons (fVar 3) fNil))) [7]) fNil)))) (fNotT (fTest (fCall (D__law_is_earliest P w K) (fCons (fVar 0) (fCons (fVar 1) fNil)))))) (sRet (fC (.bl false))) sNext))))
      (sRet (fC (.bl true))))
theorem fx__law_without_right (XI : K.In base) (GN : base.Ns mainGlobals mg) (c : obsK K = val0) {fd : FuncData} {f : Addr} (F : Fun K "_law_without_right" "_law_without_right" s__law_without_right f fd) : FnX P w K mg base 7 f fd ["_law_made", "_law_sizes"] (spP 2 (D__law_without_right P w K)) :=
    (Fun.pp F sc__law_without_right (fun cdv A fr s H E hG hr => by
      have hu : A.units + 3 + 64 < cLine := hr.units
      exact (pps_cons (ppq_for (g := (gName 2)) (passes_of rfl) rfl (ppi_any (pp_if (pt_gt (pp_len' rfl (f_len XI GN c) (ppa_cons (pp_v 1) ppa_nil)) pp_int) (pp_v 1) (pp_dnew .val))) (pg_name (i := 2) sc__law_without_right.nd rfl (Or.inr rfl)) (ad_gName (i := 2) (by intro l e; cases e <;> decide))
        (pps_cons (ppq_set (i := 3) sc__law_without_right.nd rfl (Or.inr rfl) (pp_dict .val rfl rfl (f_dict XI GN c) (ppa_cons (pp_lc (own := [("_law_other", 5), ("_law_amount", 6)]) (g := (gTup K 2 (gCons (gName 5) (gCons (gName 6) gNil)))) rfl sc__law_without_right.nd (ppi_items (pp_v 1)) (blkOk_by (own := [("_law_other", 5), ("_law_amount", 6)]) (by kernel_rfl)) (fun _ _ _ _ _ => (pg_tup rfl (pgs_cons (pg_name (i := 5) sc__law_without_right.nd rfl (by first | exact Or.inl rfl | exact Or.inr rfl)) (pgs_cons (pg_name (i := 6) sc__law_without_right.nd rfl (by first | exact Or.inl rfl | exact Or.inr rfl)) pgs_nil)))) (ad_gTup (ad_gCons (ad_gName (i := 5) (by intro l e; cases e <;> decide)) (ad_gCons (ad_gName (i := 6) (by intro l e; cases e <;> decide)) ad_gNil))) (fun _ _ _ _ _ => (ppts_one (pt_neX hu (pp_v 5) (pp_v 2)))) (fun _ _ _ _ _ => (pp_tup (ppa_cons (pp_v 5) (ppa_cons (pp_v 6) ppa_nil))))) ppa_nil)))
        (pps_cons (ppq_set (i := 4) sc__law_without_right.nd rfl (Or.inl rfl) (pp_lst (ppa_cons (pp_meth (t_Earliest_without XI GN c) (cl_Earliest c) hG (hr.mono (by decide)) (takes_of rfl rfl rfl rfl) (pp_v 0) (ppa_cons (pp_v 2) ppa_nil)) (ppa_cons (pp_methKw (tk_Earliest_without_moment XI GN c) (cl_Earliest c) hG (hr.mono (by decide)) (takes_of rfl rfl rfl rfl) (pp_v 0) (ppk_cons (pp_v 2) ppk_nil)) ppa_nil))))
        (pps_one (ppq_if (PPW.pt (ptw_or (ptt_not (pt_b (pp_all rfl rfl (f_all XI GN c) (ppa_cons (pp_lc (own := [("_law_one", 7)]) (g := (gName 7)) rfl sc__law_without_right.nd (ppi_any (pp_v 4)) (blkOk_by (own := [("_law_one", 7)]) (by kernel_rfl)) (fun _ _ _ _ _ => (pg_name (i := 7) sc__law_without_right.nd rfl (by first | exact Or.inl rfl | exact Or.inr rfl))) (ad_gName (i := 7) (by intro l e; cases e <;> decide)) (fun _ _ _ _ _ => ppts_nil) (fun _ _ _ _ _ => (pp_call (t__law_is_earliest XI GN c) hG (hr.mono (by decide)) takes0 rfl (ppa_cons (pp_v 7) (ppa_cons (pp_v 3) ppa_nil))))) ppa_nil)))) (ptw_or1 (ptt_not (pt_b (pp_call (t__law_is_earliest XI GN c) hG (hr.mono (by decide)) (takes_of rfl rfl rfl rfl) rfl (ppa_cons (pp_v 0) (ppa_cons (pp_v 1) ppa_nil)))))))) (pps_one (ppq_ret pp_bl)) pps_nil)))))
      (pps_one (ppq_ret pp_bl)))))
theorem t__law_without_right (XI : K.In base) (GN : base.Ns mainGlobals mg) (c : obsK K = val0) : DP P w K mg base "_law_without_right" 2 7 (D__law_without_right P w K) := by
  obtain ⟨fd, F⟩ := F__law_without_right c
  exact ⟨_, fd, _, rfl, (fx__law_without_right XI GN c F), g__law_without_right XI GN c, F.kp, F.binds (by intro _ _ _ _ _ _ us hl; first | (match us, hl with | [_], _ => rfl) | (match us, hl with | [_, _], _ => rfl) | (match us, hl with | [_, _, _], _ => rfl) | (match us, hl with | [_, _, _, _], _ => rfl) | (match us, hl with | [_, _, _, _, _], _ => rfl) | (match us, hl with | [_, _, _, _, _, _], _ => rfl) | (match us, hl with | [_, _, _, _, _, _, _], _ => rfl) | (match us, hl with | [_, _, _, _, _, _, _, _], _ => rfl) | (match us, hl with | [_, _, _, _, _, _, _, _, _], _ => rfl))⟩
/-! _law_right -/
def N__law_right : List Str := ["_law_pot_here", "_law_sizes", "_law_given", "_law_number_here", "_law_made", "_law_told", "_law_moved", "_law_due", "_law_name", "_law_amount", "_law_one"]
theorem sc__law_right : FnScope N__law_right ["_law_pot_here"] (defScope s__law_right) := ⟨rfl, rfl, rfl, by decide +kernel, rfl, by decide +kernel, by decide +kernel⟩
noncomputable def D__law_right (P : Program) (w : World) (K : PySem.W.Frag) : FF := fDef 1 11 (sSeq (sSet 1 (fCall (gDict .val) (fCons (fLc (iAny (fCall (D__law_names P w K) (fCons (fVar 0) (fCons (fOp gAdd (fC (.int 1)) (fCall (D__law_draw P w K) (fCons (fVar 0) (fCons (fC (.int 8)) fNil)))) fNil)))) (tgName 8) fYes (fSeq .tup (fCons (fVar 8) (fCons (fCall (D__law_number P w K) (fCons (fVar 0) fNil)) fNil))) [8]) fNil)))
      (sSeq (sPar 2 3 (fCons (fCall (gDict .cell) (fCons (fVar 1) fNil)) (fCons (fCall (D__law_number P w K) (fCons (fVar 0) fNil)) fNil)))
      (sSeq (sSet 4 (fFrz (fMake (ga K "Earliest") (D_Earliest___init__ P w K) (fCons (fVar 2) fNil))))
      (sSeq (sIfS (fOrT (fTest (fOp (gEqX true) (fCall fReprX (fCons (fVar 2) fNil)) (fCall fReprX (fCons (fVar 1) fNil)))) (fNotT (fTest (fCall (D__law_is_earliest P w K) (fCons (fVar 4) (fCons (fVar 1) fNil)))))) (sRet (fC (.bl false))) sNext)
      (sSeq (sDrop (fBM "dict" mDClear (fVar 2) fNil))
      (sSeq (sSet 5 (fMeth (ga K "Earliest") "shifts" (D_Earliest_shifts P w K) (fVar 4) fNil))
      (sSeq (sDrop (fBM "dict" mDUpdate (fVar 5) (fCons (fDisp .val (fDCons (fC (.str "changed")) (fC (.int 1)) fDNil)) fNil)))
      (sSeq (sSet 5 (fMeth (ga K "Earliest") "shifts" (D_Earliest_shifts P w K) (fVar 4) fNil))
      (sSeq (sDrop (fBM "dict" mDClear (fVar 5) fNil))
      (sSeq (sIfS (fOrT (fNotT (fTest (fCall (D__law_is_earliest P w K) (fCons (fVar 4) (fCons (fVar 1) fNil))))) (fOrT (fNotT (fTest (fCall (D__law_in_right P w K) (fCons (fVar 4) (fCons (fVar 1) fNil))))) (fNotT (fTest (fCall (D__law_equals_right P w K) (fCons (fVar 4) (fCons (fVar 1) fNil))))))) (sRet (fC (.bl false))) sNext)
      (sSeq (sSet 6 (fSeq .lst (fCons (fFrz (fOp (fOwnI (ga K "Earliest") (D_Earliest___add__ P w K)) (fVar 4) (fVar 3))) (fCons (fFrz (fOp (fIOwn (ga K "Earliest") (D_Earliest___radd__ P w K)) (fVar 3) (fVar 4))) (fCons (fFrz (fOp (fOwnI (ga K "Earliest") (D_Earliest___sub__ P w K)) (fVar 4) (fUn fNeg (fVar 3)))) fNil)))))
      (sSeq (sSet 7 (fCall (gDict .val) (fCons (fLc (iItemsP (fVar 1)) (tgTup 2 (tgCons (tgName 8) (tgCons (tgName 9) tgNil))) fYes (fSeq .tup (fCons (fVar 8) (fCons (fOp gAdd (fVar 9) (fVar 3)) fNil))) [8, 9]) fNil)))
      (sSeq (sIfS (fOrT (fNotT (fTest (fCall (fBls fun bs => bs.all id) (fCons (fLc (iAny (fVar 6)) (tgName 10) fYes (fCall (D__law_is_earliest P w K) (fCons (fVar 10) (fCons (fVar 7) fNil))) [10]) fNil)))) (fTest (fOp (fNeO (ga K "Earliest") [(ga K "Earliest"), (ga K "Term")] (D_Earliest___eq__ P w K)) (fFrz (fOp (fOwnI (ga K "Earliest") (D_Earliest___sub__ P w K)) (fOp gIx (fVar 6) (fC (.int 0))) (fVar 3))) (fVar 4)))) (sRet (fC (.bl false))) sNext)
      (sSeq (sSet 5 (fLstC (fCons (fStatic (D_Earliest_of P w K) ["bus", "ann"] (fCons (fVar 3) (fCons (fC (.int 0)) fNil))) (fCons (fStatic (D_Earliest_of P w K) ["ann", "bus"] (fCons (fC (.int 0)) (fCons (fVar 3) fNil))) (fCons (fStatic (D_Earliest_of P w K) ["zz"] (fCons (fVar 3) fNil)) fNil)))))
      (sSeq (sIfS (fNotT (fTest (fCall (fBls fun bs => bs.all id) (fCons (fLc (iAny (fSl gSlX (fVar 5) oNone (oSome (fC (.int 2))))) (tgName 10) fYes (fCall (D__law_is_earliest P w K) (fCons (fVar 10) (fCons (fDisp .val (fDCons (fC (.str "ann")) (fC (.int 0)) (fDCons (fC (.str "bus")) (fVar 3) fDNil))) fNil))) [10]) fNil)))) (sRet (fC (.bl false))) sNext)
      (sSeq (sIfS (fOrT (fNotT (fTest (fCall (D__law_is_earliest P w K) (fCons (fOp gIx (fVar 5) (fC (.int 2))) (fCons (fDisp .val (fDCons (fC (.str "zz")) (fVar 3) fDNil)) fNil))))) (fOrT (fTest (fOp (fNeO (ga K "Earliest") [(ga K "Earliest"), (ga K "Term")] (D_Earliest___eq__ P w K)) (fOp gIx (fVar 5) (fC (.int 0))) (fOp gIx (fVar 5) (fC (.int 1))))) (fTest (fOp (fEqO (ga K "Earliest") [(ga K "Earliest"), (ga K "Term")] (D_Earliest___eq__ P w K)) (fOp gIx (fVar 5) (fC (.int 0))) (fOp gIx (fVar 5) (fC (.int 2))))))) (sRet (fC (.bl false))) sNext)
      (sRet (fAndV (fCall (D__law_without_right P w K) (fCons (fVar 4) (fCons (fVar 1) fNil))) (fCall (D__law_is_earliest P w K) (fCons (fVar 4) (fCons (fVar 1) fNil)))))))))))))))))))))
theorem fx__law_right (XI : K.In base) (GN : base.Ns mainGlobals mg) (c : obsK K = val0) {fd : FuncData} {f : Addr} (F : Fun K "_law_right" "_law_right" s__law_right f fd) : FnX P w K mg base 8 f fd ["_law_pot_here"] (spP 1 (D__law_right P w K)) :=
    (Fun.pp F sc__law_right (fun cdv A fr s H E hG hr => by
      have hu : A.units + 3 + 64 < cLine := hr.units
      exact (pps_cons (ppq_set (i := 1) sc__law_right.nd rfl (Or.inl rfl) (pp_dict .val rfl rfl (f_dict XI GN c) (ppa_cons (pp_lc (own := [("_law_name", 8)]) (g := (gName 8)) rfl sc__law_right.nd (ppi_any (pp_call (t__law_names XI GN c) hG (hr.mono (by decide)) (takes_of rfl rfl rfl rfl) rfl (ppa_cons (pp_v 0) (ppa_cons (pp_add pp_int (pp_call (t__law_draw XI GN c) hG (hr.mono (by decide)) (takes_of rfl rfl rfl rfl) rfl (ppa_cons (pp_v 0) (ppa_cons pp_int ppa_nil)))) ppa_nil)))) (blkOk_by (own := [("_law_name", 8)]) (by kernel_rfl)) (fun _ _ _ _ _ => (pg_name (i := 8) sc__law_right.nd rfl (by first | exact Or.inl rfl | exact Or.inr rfl))) (ad_gName (i := 8) (by intro l e; cases e <;> decide)) (fun _ _ _ _ _ => ppts_nil) (fun _ _ _ _ _ => (pp_tup (ppa_cons (pp_v 8) (ppa_cons (pp_call (t__law_number XI GN c) hG (hr.mono (by decide)) takes0 rfl (ppa_cons (pp_v 0) ppa_nil)) ppa_nil))))) ppa_nil)))
      (pps_cons (ppq_parT (i := 2) (j := 3) rfl sc__law_right.nd rfl rfl (by first | exact Or.inl rfl | exact Or.inr rfl) (by first | exact Or.inl rfl | exact Or.inr rfl) (by first | exact Or.inl rfl | exact Or.inr rfl) (by first | exact Or.inl rfl | exact Or.inr rfl) (ppa_cons (pp_dict .cell rfl rfl (f_dict XI GN c) (ppa_cons (pp_v 1) ppa_nil)) (ppa_cons (pp_call (t__law_number XI GN c) hG (hr.mono (by decide)) (takes_of rfl rfl rfl rfl) rfl (ppa_cons (pp_v 0) ppa_nil)) ppa_nil)))
      (pps_cons (ppq_set (i := 4) sc__law_right.nd rfl (Or.inl rfl) (pp_make (t_Earliest___init__ XI GN c) hG (hr.mono (by decide)) (takes_of rfl rfl rfl rfl) rfl (ppa_cons (pp_v 2) ppa_nil)))
      (pps_cons (ppq_if (PPW.pt (ptw_or (pt_neX hu (pp_reprX hG hu rfl (f_repr XI GN c) (ppa_cons (pp_v 2) ppa_nil)) (pp_reprX hG hu rfl (f_repr XI GN c) (ppa_cons (pp_v 1) ppa_nil))) (ptw_or1 (ptt_not (pt_b (pp_call (t__law_is_earliest XI GN c) hG (hr.mono (by decide)) (takes_of rfl rfl rfl rfl) rfl (ppa_cons (pp_v 4) (ppa_cons (pp_v 1) ppa_nil)))))))) (pps_one (ppq_ret pp_bl)) pps_nil)
      (pps_cons (ppq_expr (pp_dclear (pp_v 2)))
      (pps_cons (ppq_set (i := 5) sc__law_right.nd rfl (Or.inl rfl) (pp_meth0 (t_Earliest_shifts XI GN c) (cl_Earliest c) hG (hr.mono (by decide)) (takes_of rfl rfl rfl rfl) (pp_v 4)))
      (pps_cons (ppq_expr (pp_dupdate (pp_v 5) (pp_disp .val (ppd_cons pp_str pp_int ppd_nil))))
      (pps_cons (ppq_set (i := 5) sc__law_right.nd rfl (Or.inl rfl) (pp_meth0 (t_Earliest_shifts XI GN c) (cl_Earliest c) hG (hr.mono (by decide)) (takes_of rfl rfl rfl rfl) (pp_v 4)))
      (pps_cons (ppq_expr (pp_dclear (pp_v 5)))
      (pps_cons (ppq_if (PPW.pt (ptw_or (ptt_not (pt_b (pp_call (t__law_is_earliest XI GN c) hG (hr.mono (by decide)) (takes_of rfl rfl rfl rfl) rfl (ppa_cons (pp_v 4) (ppa_cons (pp_v 1) ppa_nil))))) (ptw_or (ptt_not (pt_b (pp_call (t__law_in_right XI GN c) hG (hr.mono (by decide)) (takes_of rfl rfl rfl rfl) rfl (ppa_cons (pp_v 4) (ppa_cons (pp_v 1) ppa_nil))))) (ptw_or1 (ptt_not (pt_b (pp_call (t__law_equals_right XI GN c) hG (hr.mono (by decide)) (takes_of rfl rfl rfl rfl) rfl (ppa_cons (pp_v 4) (ppa_cons (pp_v 1) ppa_nil))))))))) (pps_one (ppq_ret pp_bl)) pps_nil)
      (pps_cons (ppq_set (i := 6) sc__law_right.nd rfl (Or.inl rfl) (pp_lst (ppa_cons (pp_frz (pp_plusI (radd_Earliest c) (t_Earliest___add__ XI GN c) (in_Earliest c) hG (hr.mono (by decide)) (pp_v 4) (pp_v 3))) (ppa_cons (pp_frz (pp_iplus (hadd_Earliest c) (t_Earliest___radd__ XI GN c) (in_Earliest c) hG (hr.mono (by decide)) (pp_v 3) (pp_v 4))) (ppa_cons (pp_frz (pp_minusI (rsub_Earliest c) (t_Earliest___sub__ XI GN c) (in_Earliest c) hG (hr.mono (by decide)) (pp_v 4) (pp_neg (pp_v 3)))) ppa_nil)))))
      (pps_cons (ppq_set (i := 7) sc__law_right.nd rfl (Or.inr rfl) (pp_dict .val rfl rfl (f_dict XI GN c) (ppa_cons (pp_lc (own := [("_law_name", 8), ("_law_amount", 9)]) (g := (gTup K 2 (gCons (gName 8) (gCons (gName 9) gNil)))) rfl sc__law_right.nd (ppi_items (pp_v 1)) (blkOk_by (own := [("_law_name", 8), ("_law_amount", 9)]) (by kernel_rfl)) (fun _ _ _ _ _ => (pg_tup rfl (pgs_cons (pg_name (i := 8) sc__law_right.nd rfl (by first | exact Or.inl rfl | exact Or.inr rfl)) (pgs_cons (pg_name (i := 9) sc__law_right.nd rfl (by first | exact Or.inl rfl | exact Or.inr rfl)) pgs_nil)))) (ad_gTup (ad_gCons (ad_gName (i := 8) (by intro l e; cases e <;> decide)) (ad_gCons (ad_gName (i := 9) (by intro l e; cases e <;> decide)) ad_gNil))) (fun _ _ _ _ _ => ppts_nil) (fun _ _ _ _ _ => (pp_tup (ppa_cons (pp_v 8) (ppa_cons (pp_add (pp_v 9) (pp_v 3)) ppa_nil))))) ppa_nil)))
      (pps_cons (ppq_if (PPW.pt (ptw_or (ptt_not (pt_b (pp_all rfl rfl (f_all XI GN c) (ppa_cons (pp_lc (own := [("_law_one", 10)]) (g := (gName 10)) rfl sc__law_right.nd (ppi_any (pp_v 6)) (blkOk_by (own := [("_law_one", 10)]) (by kernel_rfl)) (fun _ _ _ _ _ => (pg_name (i := 10) sc__law_right.nd rfl (by first | exact Or.inl rfl | exact Or.inr rfl))) (ad_gName (i := 10) (by intro l e; cases e <;> decide)) (fun _ _ _ _ _ => ppts_nil) (fun _ _ _ _ _ => (pp_call (t__law_is_earliest XI GN c) hG (hr.mono (by decide)) takes0 rfl (ppa_cons (pp_v 10) (ppa_cons (pp_v 7) ppa_nil))))) ppa_nil)))) (ptw_or1 (pt_neO (t_Earliest___eq__ XI GN c) (eq_Earliest c) hG (hr.mono (by decide)) (Nat.lt_of_le_of_lt (Nat.add_le_add_left (by decide) _) hu) (pp_frz (pp_minusI (rsub_Earliest c) (t_Earliest___sub__ XI GN c) (in_Earliest c) hG (hr.mono (by decide)) (pp_idx (Nat.lt_of_le_of_lt (Nat.add_le_add_left (by decide) _) hu) (pp_v 6) pp_int) (pp_v 3))) (pp_v 4))))) (pps_one (ppq_ret pp_bl)) pps_nil)
      (pps_cons (ppq_set (i := 5) sc__law_right.nd rfl (Or.inl rfl) (pp_lstC (ppa_cons (pp_static (ks := ["bus", "ann"]) (ks_Earliest_of XI GN c) (pgC rfl (g_Earliest XI GN c)) hG (hr.mono (by decide)) (takes_of rfl rfl rfl rfl) (ppk_cons (pp_v 3) (ppk_cons pp_int ppk_nil))) (ppa_cons (pp_static (ks := ["ann", "bus"]) (ks_Earliest_of XI GN c) (pgC rfl (g_Earliest XI GN c)) hG (hr.mono (by decide)) (takes_of rfl rfl rfl rfl) (ppk_cons pp_int (ppk_cons (pp_v 3) ppk_nil))) (ppa_cons (pp_static (ks := ["zz"]) (ks_Earliest_of XI GN c) (pgC rfl (g_Earliest XI GN c)) hG (hr.mono (by decide)) (takes_of rfl rfl rfl rfl) (ppk_cons (pp_v 3) ppk_nil)) ppa_nil)))))
      (pps_cons (ppq_if (ptt_not (pt_b (pp_all rfl rfl (f_all XI GN c) (ppa_cons (pp_lc (own := [("_law_one", 10)]) (g := (gName 10)) rfl sc__law_right.nd (ppi_any (pp_slX (pp_v 5) ppo_none (ppo_some pp_int))) (blkOk_by (own := [("_law_one", 10)]) (by kernel_rfl)) (fun _ _ _ _ _ => (pg_name (i := 10) sc__law_right.nd rfl (by first | exact Or.inl rfl | exact Or.inr rfl))) (ad_gName (i := 10) (by intro l e; cases e <;> decide)) (fun _ _ _ _ _ => ppts_nil) (fun _ _ _ _ _ => (pp_call (t__law_is_earliest XI GN c) hG (hr.mono (by decide)) takes0 rfl (ppa_cons (pp_v 10) (ppa_cons (pp_disp .val (ppd_cons pp_str pp_int (ppd_cons pp_str (pp_v 3) ppd_nil))) ppa_nil))))) ppa_nil)))) (pps_one (ppq_ret pp_bl)) pps_nil)
      (pps_cons (ppq_if (PPW.pt (ptw_or (ptt_not (pt_b (pp_call (t__law_is_earliest XI GN c) hG (hr.mono (by decide)) (takes_of rfl rfl rfl rfl) rfl (ppa_cons (pp_idx (Nat.lt_of_le_of_lt (Nat.add_le_add_left (by decide) _) hu) (pp_v 5) pp_int) (ppa_cons (pp_disp .val (ppd_cons pp_str (pp_v 3) ppd_nil)) ppa_nil))))) (ptw_or (pt_neO (t_Earliest___eq__ XI GN c) (eq_Earliest c) hG (hr.mono (by decide)) (Nat.lt_of_le_of_lt (Nat.add_le_add_left (by decide) _) hu) (pp_idx (Nat.lt_of_le_of_lt (Nat.add_le_add_left (by decide) _) hu) (pp_v 5) pp_int) (pp_idx (Nat.lt_of_le_of_lt (Nat.add_le_add_left (by decide) _) hu) (pp_v 5) pp_int)) (ptw_or1 (pt_eqO (t_Earliest___eq__ XI GN c) (eq_Earliest c) hG (hr.mono (by decide)) (Nat.lt_of_le_of_lt (Nat.le_add_right _ _) hu) (pp_idx (Nat.lt_of_le_of_lt (Nat.add_le_add_left (by decide) _) hu) (pp_v 5) pp_int) (pp_idx (Nat.lt_of_le_of_lt (Nat.add_le_add_left (by decide) _) hu) (pp_v 5) pp_int)))))) (pps_one (ppq_ret pp_bl)) pps_nil)
      (pps_one (ppq_ret (pp_and (pp_call (t__law_without_right XI GN c) hG (hr.mono (by decide)) (takes_of rfl rfl rfl rfl) rfl (ppa_cons (pp_v 4) (ppa_cons (pp_v 1) ppa_nil))) (pp_one (pp_call (t__law_is_earliest XI GN c) hG (hr.mono (by decide)) (takes_of rfl rfl rfl rfl) rfl (ppa_cons (pp_v 4) (ppa_cons (pp_v 1) ppa_nil)))))))))))))))))))))))))
theorem t__law_right (XI : K.In base) (GN : base.Ns mainGlobals mg) (c : obsK K = val0) : DP P w K mg base "_law_right" 1 8 (D__law_right P w K) := by
  obtain ⟨fd, F⟩ := F__law_right c
  exact ⟨_, fd, _, rfl, (fx__law_right XI GN c F), g__law_right XI GN c, F.kp, F.binds (by intro _ _ _ _ _ _ us hl; first | (match us, hl with | [_], _ => rfl) | (match us, hl with | [_, _], _ => rfl) | (match us, hl with | [_, _, _], _ => rfl) | (match us, hl with | [_, _, _, _], _ => rfl) | (match us, hl with | [_, _, _, _, _], _ => rfl) | (match us, hl with | [_, _, _, _, _, _], _ => rfl) | (match us, hl with | [_, _, _, _, _, _, _], _ => rfl) | (match us, hl with | [_, _, _, _, _, _, _, _], _ => rfl) | (match us, hl with | [_, _, _, _, _, _, _, _, _], _ => rfl))⟩
/-! law -/
def N_law : List Str := ["_law_script", "_law_k"]
theorem sc_law : FnScope N_law ["_law_script"] (defScope s_law) := ⟨rfl, rfl, rfl, by decide +kernel, rfl, by decide +kernel, by decide +kernel⟩
noncomputable def D_law (P : Program) (w : World) (K : PySem.W.Frag) : FF := fDef 1 2 (sRet (fCall (fBls fun bs => bs.all id) (fCons (fLc (iRg1 (fCons (fCall gMax (fCons (fC (.int 1)) (fCons (fCall gMin (fCons (fCall gLen (fCons (fVar 0) fNil)) (fCons (fC (.int 3)) fNil))) fNil))) fNil)) (tgName 1) fYes (fDrop (fCall (D__law_right P w K) (fCons (fCall (D__law_pot P w K) (fCons (fVar 0) (fCons (fVar 1) fNil))) fNil))) [1]) fNil)))
theorem fx_law (XI : K.In base) (GN : base.Ns mainGlobals mg) (c : obsK K = val0) {fd : FuncData} {f : Addr} (F : Fun K "law" "law" s_law f fd) : FnX P w K mg base 9 f fd ["_law_script"] (spP 1 (D_law P w K)) :=
    (Fun.pp F sc_law (fun cdv A fr s H E hG hr => by
      have hu : A.units + 3 + 64 < cLine := hr.units
      exact (pps_one (ppq_ret (pp_all rfl rfl (f_all XI GN c) (ppa_cons (pp_lc (own := [("_law_k", 1)]) (g := (gName 1)) rfl sc_law.nd (ppi_range1 rfl (f_range XI GN c) (ppa_cons (pp_max rfl rfl (f_max XI GN c) (ppa_cons pp_int (ppa_cons (pp_min rfl rfl (f_min XI GN c) (ppa_cons (pp_len' rfl (f_len XI GN c) (ppa_cons (pp_v 0) ppa_nil)) (ppa_cons pp_int ppa_nil))) ppa_nil))) ppa_nil)) (blkOk_by (own := [("_law_k", 1)]) (by kernel_rfl)) (fun _ _ _ _ _ => (pg_name (i := 1) sc_law.nd rfl (by first | exact Or.inl rfl | exact Or.inr rfl))) (ad_gName (i := 1) (by intro l e; cases e <;> decide)) (fun _ _ _ _ _ => ppts_nil) (fun _ _ _ _ _ => (pp_drop (pp_call (t__law_right XI GN c) hG (hr.mono (by decide)) takes0 rfl (ppa_cons (pp_call (t__law_pot XI GN c) hG (hr.mono (by decide)) takes0 rfl (ppa_cons (pp_v 0) (ppa_cons (pp_v 1) ppa_nil))) ppa_nil))))) ppa_nil))))))
end
end Pu
set_option Elab.async false
set_option linter.all false
set_option maxRecDepth 100000
set_option maxHeartbeats 4000000
namespace Pu
open L2 PySem PySem.Spec PyProof.Rows E10
open He (ga ma)
local macro_rules | `(tactic| walk_at "pu wq1") => `(tactic| first | ((with_reducible apply wo_var); next => rfl) | with_reducible refine wo_c ?_ | with_reducible refine wo_op ?_ | with_reducible refine wo_call ?_ | with_reducible refine wa_cons ?_ | with_reducible refine wa_nil ?_ | with_reducible refine wo_eq add_ii ?_ | with_reducible refine wo_eq sub_ii ?_ | with_reducible refine wo_eq le_ii ?_ | with_reducible refine wo_eq lt_ii ?_ | with_reducible refine wo_eq gt_ii ?_ | with_reducible refine wo_eq eq_ii ?_ | with_reducible refine ws_seq ?_ | with_reducible refine ws_set ?_ | ((with_reducible apply st1); next => ((try simp only [List.set_cons_zero, List.set_cons_succ]); first | done | rfl)) | with_reducible refine ws_ret ?_ | with_reducible refine ws_drop ?_ | with_reducible refine ws_next ?_ | with_reducible refine ws_for ?_ | with_reducible refine wt_test ?_ | with_reducible refine isB ?_ | with_reducible refine isV ?_ | with_reducible refine isI ?_ | with_reducible refine bi_tt ?_ | with_reducible refine bi_ff ?_ | with_reducible refine bi_not ?_ | with_reducible refine bi_bneF ?_ | with_reducible refine bi_bneT ?_ | ((with_reducible refine bi_T ?_ ?_); next => assumption) | ((with_reducible refine bi_F ?_ ?_); next => assumption) | ((with_reducible refine bi_dT ?_ ?_); next => assumption) | ((with_reducible refine bi_dF ?_ ?_); next => assumption) | with_reducible refine wt_not ?_ | with_reducible refine wt_and ?_ | with_reducible refine wt_or ?_ | with_reducible refine wt_yes ?_ | with_reducible refine wo_andV ?_ | with_reducible refine wo_orV ?_ | with_reducible refine wo_notV ?_ | with_reducible refine wo_if ?_ | with_reducible refine wo_chain ?_ | with_reducible refine wo_seq ?_ | with_reducible refine wo_lstC ?_ | with_reducible refine isVs1 ?_ | with_reducible refine isVs0 ?_ | with_reducible refine isVsA ?_ | with_reducible refine isVsM ?_ | ((with_reducible refine few1 ?_ ?_); next => (first | decide | (simp only [List.length_map, List.length_append, List.length_cons, List.length_nil]; omega))) | with_reducible refine wo_fld ?_ | with_reducible refine wo_meth ?_ | with_reducible refine wo_prop ?_ | with_reducible refine isO ?_ | with_reducible refine wo_callO ?_ | with_reducible refine wo_mk ?_ | with_reducible refine wo_frz ?_ | with_reducible refine wo_frzv ?_ | with_reducible refine wo_drop ?_ | ((with_reducible apply wo_fldv); next => rfl) | ((with_reducible apply noF); next => rfl) | with_reducible refine isC1 ?_ | ((with_reducible refine leM ?_ ?_); next => (first | exact Nat.le_refl _ | exact pot_le (by assumption) (by assumption))) | ((with_reducible apply wo_isi (c := true)); (next => rfl); (next => decide); (next => decide)) | ((with_reducible apply wo_isi (c := false)); (next => rfl); (next => decide); (next => decide)) | ((with_reducible refine wo_isiO1 ?_ ?_); next => simp) | ((with_reducible refine wo_isiOb ?_ ?_ ?_); (next => simp); (next => simp)) | ((with_reducible apply wo_isibO); (next => rfl); (next => simp)) | ((with_reducible refine wo_eqO ?_ ?_); next => simp) | ((with_reducible refine wo_neO ?_ ?_); next => simp) | with_reducible refine wo_own2 ?_ | with_reducible refine wo_ownI ?_ | with_reducible refine wo_iown ?_ | with_reducible refine wo_ixO ?_ | with_reducible refine wo_inO ?_ | with_reducible refine wi_any ?_ | with_reducible refine wi_vals ?_ | with_reducible refine wi_items ?_ | with_reducible refine wi_rg1 ?_ | with_reducible refine wo_lc ?_ | with_reducible refine wo_dc ?_ | ((with_reducible apply wo_lock); next => rfl) | ((with_reducible apply ws_lock); next => rfl) | with_reducible refine ws_par ?_ | with_reducible refine is2 ?_ | with_reducible refine ws_par3 ?_ | with_reducible refine is3 ?_ | with_reducible refine ws_asg ?_ | with_reducible refine wo_un ?_ | with_reducible refine wo_eq neg_i ?_ | with_reducible refine wo_eq eq_bb ?_ | with_reducible refine wo_eq eq_ss ?_ | with_reducible refine wo_eq max_ii ?_ | with_reducible refine wo_eq min_ii ?_ | with_reducible refine lew_v ?_ | with_reducible refine wo_bm ?_ | with_reducible refine wo_sl ?_ | with_reducible refine wq_none ?_ | with_reducible refine wq_some ?_ | with_reducible refine wo_ok ?_ | with_reducible refine ws_nx ?_ | with_reducible refine wo_get2 ?_ | ((with_reducible refine wo_eq (mul_ii ?_) ?_); next => (first | exact .inl (by decide) | exact .inr (by decide))) | ((with_reducible refine wo_eq (mod_ii ?_) ?_); next => decide) | ((with_reducible refine wo_eq (div_ii ?_) ?_); next => decide) | ((with_reducible refine wo_eq (pow_ii ?_) ?_); next => decide))
local macro_rules | `(tactic| walk_at "pu wp1") => `(tactic| first | walk_at "pu wq1" | with_reducible refine ws_if ?_)
local macro_rules | `(tactic| walk_at "pu wp") => `(tactic| repeat walk_at "pu wp1")
local macro_rules | `(tactic| walk_at "pu wq") => `(tactic| repeat walk_at "pu wq1")
local macro_rules | `(tactic| walk_at "pu wdef") => `(tactic| (apply wo_def rfl; next => ((try simp only [List.map_cons, List.map_nil, List.replicate_succ, List.replicate_zero, List.cons_append, List.nil_append, List.append_nil, List.length_cons, List.length_nil, Nat.reduceAdd, Nat.reduceSub]); first | done | rfl)))
local macro_rules | `(tactic| walk_at "pu wdone") => `(tactic| exact ⟨rfl, by first | rfl | exact List.take_length⟩)
theorem pot0 {a b : Int} {r : Μ} : gIx (.loc 0) (.v (.int 0)) (pc a b :: r) = .ok (.v (.int a)) (pc a b :: r) := rfl
theorem pot1 {a b : Int} {r : Μ} : gIx (.loc 0) (.v (.int 1)) (pc a b :: r) = .ok (.v (.int b)) (pc a b :: r) := rfl
section
variable {Pg : Program} {w : World} {K : PySem.W.Frag}
theorem s_draw : Draws (D__law_draw Pg w K) := by
  intro n r m Q X hm h0 h1 k
  obtain ⟨a, b, hp, rfl⟩ := hm
  unfold D__law_draw
  walk_at "pu wdef"
  have tk : ∀ c : PC, List.take (c :: r).length (c :: r) = c :: r := fun c => List.take_of_length_le (Nat.le_refl _)
  repeat (first | walk_at "pu wp1" | with_reducible refine wo_eq (pot0) ?_ | with_reducible refine wo_eq (pot1) ?_)
  refine bi_if (fun c => ?_) fun c => ?_
  · walk_at "pu wp"
    apply ws_sub
    repeat (first | walk_at "pu wp1" | with_reducible refine wo_eq (pot0) ?_ | with_reducible refine wo_eq (divm ⟨h0, h1⟩) ?_)
    refine ⟨_, _, rfl, ?_⟩
    walk_at "pu wp"
    refine ⟨0, [.int a, .int b], 0, rfl, rfl, ?_⟩
    walk_at "pu wp"
    refine lew_v ?_
    show Q _ (List.take (pc a b :: r).length (pc (a / n) b :: r))
    rw [show (pc a b :: r).length = (pc (a / n) b :: r).length from rfl, tk]
    exact k _ _ (Int.emod_nonneg _ (by omega)) (Int.emod_lt_of_pos _ h0) ⟨_, _, ⟨Int.ediv_nonneg hp.a0 (by omega), hp.b0, hp.b1⟩, rfl⟩
  · walk_at "pu wp"
    apply ws_lput
    repeat (first | walk_at "pu wp1" | with_reducible refine wo_eq (pot1) ?_ | with_reducible refine wo_eq (int_i) ?_)
    refine ⟨0, [.int a, .int b], 1, rfl, rfl, ?_⟩
    generalize hb : (b * _ + _) % _ = b'
    show WS _ _ _ _ _ _
    rw [show List.set (pc a b :: r) 0 (PC.lst (List.set [P.int a, P.int b] 1 (.int b'))) = pc a b' :: r from rfl]
    have b2 : 0 ≤ b' := by rw [← hb]; exact Int.emod_nonneg _ (by decide)
    have b3 : b' < 2147483648 := by rw [← hb]; exact Int.lt_of_lt_of_le (Int.emod_lt_of_pos _ (by decide)) (by decide)
    repeat (first | walk_at "pu wp1" | with_reducible refine wo_eq (pot1) ?_ | with_reducible refine wo_eq (int_i) ?_ | with_reducible refine wo_eq (mul_ii (i := b') (j := b') (.inl (by omega))) ?_ | with_reducible refine wo_eq (mod_ii h0) ?_)
    refine lew_v ?_
    rw [show (pc a b :: r).length = (pc a b' :: r).length from rfl, tk]
    exact k _ _ (Int.emod_nonneg _ (by omega)) (Int.emod_lt_of_pos _ h0) ⟨_, _, ⟨hp.a0, b2, b3⟩, rfl⟩
theorem s_pot {ns : List Int} {k : Nat} (hk : k < 64) : WO (D__law_pot Pg w K [.v (.lst (ns.map P.int)), .v (.int k)] []) (fun w m => w = .loc 0 ∧ Pot [] m) X0 := by
  unfold D__law_pot
  walk_at "pu wdef"
  walk_at "pu wq"
  refine ws_mid (fun γ m => ∃ c : Int, γ = [some (.v (.lst (ns.map P.int))), some (.v (.int k)), some (.v (.int c))] ∧ m = []) ?_ fun γ m ⟨c, e1, e2⟩ => ?_
  · repeat (first | walk_at "pu wp1" | with_reducible refine wo_eq (len_l) ?_)
    refine bi_if (fun c => ?_) fun c => ?_
    · have lt : k < ns.length := by rw [List.length_map] at c; omega
      repeat (first | walk_at "pu wp1" | with_reducible refine wo_eq (ix_l (ps := ns.map P.int) (k := k) (v := P.int ns[k]) (by simp [lt])) ?_ | with_reducible refine wo_eq (abs_i) ?_)
      exact ⟨_, rfl, rfl⟩
    · walk_at "pu wp"
      exact ⟨_, rfl, rfl⟩
  · subst e1
    subst e2
    repeat (first | walk_at "pu wp1" | with_reducible refine wo_eq (int_i) ?_ | with_reducible refine wo_eq (pow_ii (i := 0) (by omega)) ?_ | with_reducible refine wo_eq (mul_ii (.inl (by omega))) ?_)
    refine lew_new (Nat.le_refl _) rfl rfl ⟨rfl, _, _, ⟨Int.le_max_left .., ?_, ?_⟩, rfl⟩ <;> omega
/-- the law, if it holds of one pot -/
theorem e_law (h : ∀ m, Pot [] m → WO (D__law_right Pg w K [.loc 0] m) (fun w _ => w = .v (.bl true)) X0) (nsq : List Int) (hl : nsq.length ≤ 63) : ∃ m, D_law Pg w K [.v (.lst (nsq.map P.int))] [] = .ok (.v (.bl true)) m := by
  refine ⟨[], eq_wo ?_⟩
  unfold D_law
  walk_at "pu wdef"
  repeat (first | walk_at "pu wp1" | with_reducible refine wo_eq (len_l) ?_)
  rw [List.length_map]
  refine isRgL (max (1 : Int) (min 3 ((nsq.length : Nat) : Int))).toNat (by omega) (by omega) ?_
  refine wl_map (fun m => m = []) (fun _ q => q = .bl true) rfl (fun p hp m em => ⟨_, rfl, ?_⟩) fun qs m pr em => ?_
  · subst em
    obtain ⟨j, hj⟩ := List.getElem?_of_mem hp
    obtain ⟨lt, rfl⟩ := rng_at hj
    walk_at "pu wp"
    refine wo_to (s_pot (by omega)) fun w m ⟨e1, e2⟩ => ?_
    subst e1
    walk_at "pu wp"
    refine wo_to (h m e2) fun w m e => ?_
    subst e
    walk_at "pu wp"
    exact ⟨rfl, rfl⟩
  · subst em
    walk_at "pu wp"
    have e : blsP qs = some (qs.map fun _ => true) := by
      clear hl
      generalize rngP 0 _ = ps at pr
      induction pr with
      | nil => rfl
      | cons a t ih =>
        subst a
        show (blsP _).map (true :: ·) = _
        rw [ih]
        rfl
    repeat (first | walk_at "pu wp1" | with_reducible refine wo_eq (bls_all e) ?_)
    refine ⟨?_, rfl⟩
    simp
end
end Pu
set_option Elab.async false
set_option linter.all false
set_option maxRecDepth 100000
set_option maxHeartbeats 4000000
namespace Pu
open L2 PySem PySem.Spec PyProof.Rows E10
open He (ga ma)
local macro_rules | `(tactic| walk_at "pu wq1") => `(tactic| first | ((with_reducible apply wo_var); next => rfl) | with_reducible refine wo_c ?_ | with_reducible refine wo_op ?_ | with_reducible refine wo_call ?_ | with_reducible refine wa_cons ?_ | with_reducible refine wa_nil ?_ | with_reducible refine wo_eq add_ii ?_ | with_reducible refine wo_eq sub_ii ?_ | with_reducible refine wo_eq le_ii ?_ | with_reducible refine wo_eq lt_ii ?_ | with_reducible refine wo_eq gt_ii ?_ | with_reducible refine wo_eq eq_ii ?_ | with_reducible refine ws_seq ?_ | with_reducible refine ws_set ?_ | ((with_reducible apply st1); next => ((try simp only [List.set_cons_zero, List.set_cons_succ]); first | done | rfl)) | with_reducible refine ws_ret ?_ | with_reducible refine ws_drop ?_ | with_reducible refine ws_next ?_ | with_reducible refine ws_for ?_ | with_reducible refine wt_test ?_ | with_reducible refine isB ?_ | with_reducible refine isV ?_ | with_reducible refine isI ?_ | with_reducible refine bi_tt ?_ | with_reducible refine bi_ff ?_ | with_reducible refine bi_not ?_ | with_reducible refine bi_bneF ?_ | with_reducible refine bi_bneT ?_ | ((with_reducible refine bi_T ?_ ?_); next => assumption) | ((with_reducible refine bi_F ?_ ?_); next => assumption) | ((with_reducible refine bi_dT ?_ ?_); next => assumption) | ((with_reducible refine bi_dF ?_ ?_); next => assumption) | with_reducible refine wt_not ?_ | with_reducible refine wt_and ?_ | with_reducible refine wt_or ?_ | with_reducible refine wt_yes ?_ | with_reducible refine wo_andV ?_ | with_reducible refine wo_orV ?_ | with_reducible refine wo_notV ?_ | with_reducible refine wo_if ?_ | with_reducible refine wo_chain ?_ | with_reducible refine wo_seq ?_ | with_reducible refine wo_lstC ?_ | with_reducible refine isVs1 ?_ | with_reducible refine isVs0 ?_ | with_reducible refine isVsA ?_ | with_reducible refine isVsM ?_ | ((with_reducible refine few1 ?_ ?_); next => (first | decide | (simp only [List.length_map, List.length_append, List.length_cons, List.length_nil]; omega))) | with_reducible refine wo_fld ?_ | with_reducible refine wo_meth ?_ | with_reducible refine wo_prop ?_ | with_reducible refine isO ?_ | with_reducible refine wo_callO ?_ | with_reducible refine wo_mk ?_ | with_reducible refine wo_frz ?_ | with_reducible refine wo_frzv ?_ | with_reducible refine wo_drop ?_ | ((with_reducible apply wo_fldv); next => rfl) | ((with_reducible apply noF); next => rfl) | with_reducible refine isC1 ?_ | ((with_reducible refine leM ?_ ?_); next => (first | exact Nat.le_refl _ | exact pot_le (by assumption) (by assumption))) | ((with_reducible apply wo_isi (c := true)); (next => rfl); (next => decide); (next => decide)) | ((with_reducible apply wo_isi (c := false)); (next => rfl); (next => decide); (next => decide)) | ((with_reducible refine wo_isiO1 ?_ ?_); next => simp) | ((with_reducible refine wo_isiOb ?_ ?_ ?_); (next => simp); (next => simp)) | ((with_reducible apply wo_isibO); (next => rfl); (next => simp)) | ((with_reducible refine wo_eqO ?_ ?_); next => simp) | ((with_reducible refine wo_neO ?_ ?_); next => simp) | with_reducible refine wo_own2 ?_ | with_reducible refine wo_ownI ?_ | with_reducible refine wo_iown ?_ | with_reducible refine wo_ixO ?_ | with_reducible refine wo_inO ?_ | with_reducible refine wi_any ?_ | with_reducible refine wi_vals ?_ | with_reducible refine wi_items ?_ | with_reducible refine wi_rg1 ?_ | with_reducible refine wo_lc ?_ | with_reducible refine wo_dc ?_ | ((with_reducible apply wo_lock); next => rfl) | ((with_reducible apply ws_lock); next => rfl) | with_reducible refine ws_par ?_ | with_reducible refine is2 ?_ | with_reducible refine ws_par3 ?_ | with_reducible refine is3 ?_ | with_reducible refine ws_asg ?_ | with_reducible refine wo_un ?_ | with_reducible refine wo_eq neg_i ?_ | with_reducible refine wo_eq eq_bb ?_ | with_reducible refine wo_eq eq_ss ?_ | with_reducible refine wo_eq max_ii ?_ | with_reducible refine wo_eq min_ii ?_ | with_reducible refine lew_v ?_ | with_reducible refine wo_bm ?_ | with_reducible refine wo_sl ?_ | with_reducible refine wq_none ?_ | with_reducible refine wq_some ?_ | with_reducible refine wo_ok ?_ | with_reducible refine ws_nx ?_ | with_reducible refine wo_get2 ?_ | ((with_reducible refine wo_eq (mul_ii ?_) ?_); next => (first | exact .inl (by decide) | exact .inr (by decide))) | ((with_reducible refine wo_eq (mod_ii ?_) ?_); next => decide) | ((with_reducible refine wo_eq (div_ii ?_) ?_); next => decide) | ((with_reducible refine wo_eq (pow_ii ?_) ?_); next => decide))
local macro_rules | `(tactic| walk_at "pu wp1") => `(tactic| first | walk_at "pu wq1" | with_reducible refine ws_if ?_)
local macro_rules | `(tactic| walk_at "pu wp") => `(tactic| repeat walk_at "pu wp1")
local macro_rules | `(tactic| walk_at "pu wq") => `(tactic| repeat walk_at "pu wq1")
local macro_rules | `(tactic| walk_at "pu wdef") => `(tactic| (apply wo_def rfl; next => ((try simp only [List.map_cons, List.map_nil, List.replicate_succ, List.replicate_zero, List.cons_append, List.nil_append, List.append_nil, List.length_cons, List.length_nil, Nat.reduceAdd, Nat.reduceSub]); first | done | rfl)))
local macro_rules | `(tactic| walk_at "pu wdone") => `(tactic| exact ⟨rfl, by first | rfl | exact List.take_length⟩)
section
variable {Pg : Program} {w : World} {K : PySem.W.Frag} {μ : Μ}
theorem e_is_name {z : Str} (h : Nm z) : D_is_name Pg w K [.v (.str z)] μ = .ok (.v (.bl true)) μ := eq_wo (by
  have hl := h.hi
  have h1 : ((1 : Int) ≤ ((z.length : Nat) : Int)) := by have := h.lo; omega
  have h8 : (((z.length : Nat) : Int) ≤ 8) := by omega
  unfold D_is_name
  walk_at "pu wdef"
  repeat (first | walk_at "pu wp1" | with_reducible refine wo_eq (len_s (show z.length ≤ 100000 by omega)) ?_ | with_reducible refine wo_eq (it_s (show (chrP z).length ≤ 100000 by rw [len_chr]; omega)) ?_)
  refine wl_all (fun c => P.str ⟨#[c]⟩) (fun _ => P.bl true) (l := z.cps.toList) (fun c hc => ?_) ?_
  · refine ⟨_, rfl, ?_⟩
    obtain ⟨a1, a2⟩ := h.az c hc
    have l1 : leS ("a" : Str) ⟨#[c]⟩ = true := (le_one 97 c).trans (decide_eq_true a1)
    have l2 : leS ⟨#[c]⟩ ("z" : Str) = true := (le_one c 122).trans (decide_eq_true a2)
    repeat (first | walk_at "pu wp1" | with_reducible refine wo_eq (le_ss) ?_)
    rw [l2]
    exact ⟨rfl, rfl⟩
  · repeat (first | walk_at "pu wp1" | with_reducible refine wo_eq (bls_all (bls_map (fun _ => true) z.cps.toList)) ?_)
    rw [show (z.cps.toList.map fun _ => true).all id = true by simp]
    walk_at "pu wdone")
theorem e_is_integer (i : Int) : D_is_integer Pg w K [.v (.int i)] μ = .ok (.v (.bl true)) μ := eq_wo (by
  unfold D_is_integer
  walk_at "pu wdef"
  walk_at "pu wp"
  walk_at "pu wdone")
theorem e_has_names {t : Tb} (h : t ≠ []) (nm : ∀ z ∈ keys t, Nm z) (le : t.length ≤ 64) : D_has_names Pg w K [.v (dctP t)] μ = .ok (.v (.bl true)) μ := eq_wo (by
  have h0 : ((0 : Int) < ((t.length : Nat) : Int)) := by have := List.length_pos_iff.mpr h; omega
  unfold D_has_names
  walk_at "pu wdef"
  repeat (first | walk_at "pu wp1" | with_reducible refine wo_eq (len_t) ?_ | with_reducible refine wo_eq (it_d (show t.length ≤ 100000 by omega)) ?_)
  refine wl_all P.str (fun _ => P.bl true) (l := keys t) (fun z m => ?_) ?_
  · refine ⟨_, rfl, ?_⟩
    repeat (first | walk_at "pu wp1" | with_reducible refine wo_eq (e_is_name (nm z m)) ?_)
    exact ⟨rfl, rfl⟩
  · repeat (first | walk_at "pu wp1" | with_reducible refine wo_eq (bls_all (bls_map (fun _ => true) (keys t))) ?_)
    rw [show ((keys t).map fun _ => true).all id = true by simp]
    walk_at "pu wdone")
theorem e_check_shift (i : Int) : D_check_shift Pg w K [.v (.int i)] μ = .ok (.v .non) μ := eq_wo (by
  unfold D_check_shift
  walk_at "pu wdef"
  repeat (first | walk_at "pu wp1" | with_reducible refine wo_eq (e_is_integer i) ?_)
  walk_at "pu wdone")
theorem e_in_order {t : Tb} (nd : (keys t).Nodup) (le : t.length < 64) : D_in_order Pg w K [.v (dctP t)] μ = .ok (.v (dctP (ord t))) μ := eq_wo (by
  have hs : ((srt (keys t)).map P.str).length ≤ 100000 := by rw [List.length_map, (srt_perm _).length_eq, len_keys]; omega
  unfold D_in_order
  walk_at "pu wdef"
  repeat (first | walk_at "pu wp1" | with_reducible refine wo_eq (sort_t le) ?_ | with_reducible refine wo_eq (it_l hs) ?_)
  refine wd_all P.str (fun z => Sum.inr z) (fun z => P.int (val t z)) (l := srt (keys t)) (List.Pairwise.map _ (fun a b h e => h (Sum.inr.inj e)) ((srt_perm _).nodup_iff.mpr nd)) (fun z m => ?_) ?_
  · refine ⟨_, .str z, rfl, rfl, ?_, ?_⟩
    · walk_at "pu wp"
      exact ⟨rfl, rfl⟩
    repeat (first | walk_at "pu wp1" | with_reducible refine wo_eq (dget_ok (val_of (srt_mem.mp m))) ?_)
    exact ⟨rfl, rfl⟩
  · walk_at "pu wp"
    refine ⟨?_, List.take_length⟩
    unfold dctP ord rowP
    rw [List.map_map]
    rfl)
theorem e_moved {t : Tb} (nd : (keys t).Nodup) (le : t.length < 64) (n : Int) : D_moved Pg w K [.v (dctP t), .v (.int n)] μ = .ok (.v (dctP (shf t n))) μ := eq_wo (by
  unfold D_moved
  walk_at "pu wdef"
  repeat (first | walk_at "pu wp1" | with_reducible refine wo_eq (it_d (show t.length ≤ 100000 by omega)) ?_)
  refine wd_all P.str (fun z => Sum.inr z) (fun z => P.int (val t z + n)) (l := keys t) (List.Pairwise.map _ (fun a b h e => h (Sum.inr.inj e)) nd) (fun z m => ?_) ?_
  · refine ⟨_, .str z, rfl, rfl, ?_, ?_⟩
    · walk_at "pu wp"
      exact ⟨rfl, rfl⟩
    repeat (first | walk_at "pu wp1" | with_reducible refine wo_eq (dget_ok (val_of m)) ?_)
    exact ⟨rfl, rfl⟩
  · walk_at "pu wp"
    refine ⟨?_, List.take_length⟩
    unfold dctP shf rowP keys
    rw [List.map_map, List.map_map]
    congr 2
    refine List.map_congr_left fun p m => ?_
    show (Sum.inr p.1, P.int (val t p.1 + n)) = (Sum.inr p.1, P.int (p.2 + n))
    rw [val_at nd (z := p.1) (v := p.2) m])
end
end Pu
set_option Elab.async false
set_option linter.all false
set_option maxRecDepth 100000
set_option maxHeartbeats 4000000
namespace Pu
open L2 PySem PySem.Spec PyProof.Rows E10
open He (ga ma)
local macro_rules | `(tactic| walk_at "pu wq1") => `(tactic| first | ((with_reducible apply wo_var); next => rfl) | with_reducible refine wo_c ?_ | with_reducible refine wo_op ?_ | with_reducible refine wo_call ?_ | with_reducible refine wa_cons ?_ | with_reducible refine wa_nil ?_ | with_reducible refine wo_eq add_ii ?_ | with_reducible refine wo_eq sub_ii ?_ | with_reducible refine wo_eq le_ii ?_ | with_reducible refine wo_eq lt_ii ?_ | with_reducible refine wo_eq gt_ii ?_ | with_reducible refine wo_eq eq_ii ?_ | with_reducible refine ws_seq ?_ | with_reducible refine ws_set ?_ | ((with_reducible apply st1); next => ((try simp only [List.set_cons_zero, List.set_cons_succ]); first | done | rfl)) | with_reducible refine ws_ret ?_ | with_reducible refine ws_drop ?_ | with_reducible refine ws_next ?_ | with_reducible refine ws_for ?_ | with_reducible refine wt_test ?_ | with_reducible refine isB ?_ | with_reducible refine isV ?_ | with_reducible refine isI ?_ | with_reducible refine bi_tt ?_ | with_reducible refine bi_ff ?_ | with_reducible refine bi_not ?_ | with_reducible refine bi_bneF ?_ | with_reducible refine bi_bneT ?_ | ((with_reducible refine bi_T ?_ ?_); next => assumption) | ((with_reducible refine bi_F ?_ ?_); next => assumption) | ((with_reducible refine bi_dT ?_ ?_); next => assumption) | ((with_reducible refine bi_dF ?_ ?_); next => assumption) | with_reducible refine wt_not ?_ | with_reducible refine wt_and ?_ | with_reducible refine wt_or ?_ | with_reducible refine wt_yes ?_ | with_reducible refine wo_andV ?_ | with_reducible refine wo_orV ?_ | with_reducible refine wo_notV ?_ | with_reducible refine wo_if ?_ | with_reducible refine wo_chain ?_ | with_reducible refine wo_seq ?_ | with_reducible refine wo_lstC ?_ | with_reducible refine isVs1 ?_ | with_reducible refine isVs0 ?_ | with_reducible refine isVsA ?_ | with_reducible refine isVsM ?_ | ((with_reducible refine few1 ?_ ?_); next => (first | decide | (simp only [List.length_map, List.length_append, List.length_cons, List.length_nil]; omega))) | with_reducible refine wo_fld ?_ | with_reducible refine wo_meth ?_ | with_reducible refine wo_prop ?_ | with_reducible refine isO ?_ | with_reducible refine wo_callO ?_ | with_reducible refine wo_mk ?_ | with_reducible refine wo_frz ?_ | with_reducible refine wo_frzv ?_ | with_reducible refine wo_drop ?_ | ((with_reducible apply wo_fldv); next => rfl) | ((with_reducible apply noF); next => rfl) | with_reducible refine isC1 ?_ | ((with_reducible refine leM ?_ ?_); next => (first | exact Nat.le_refl _ | exact pot_le (by assumption) (by assumption))) | ((with_reducible apply wo_isi (c := true)); (next => rfl); (next => decide); (next => decide)) | ((with_reducible apply wo_isi (c := false)); (next => rfl); (next => decide); (next => decide)) | ((with_reducible refine wo_isiO1 ?_ ?_); next => simp) | ((with_reducible refine wo_isiOb ?_ ?_ ?_); (next => simp); (next => simp)) | ((with_reducible apply wo_isibO); (next => rfl); (next => simp)) | ((with_reducible refine wo_eqO ?_ ?_); next => simp) | ((with_reducible refine wo_neO ?_ ?_); next => simp) | with_reducible refine wo_own2 ?_ | with_reducible refine wo_ownI ?_ | with_reducible refine wo_iown ?_ | with_reducible refine wo_ixO ?_ | with_reducible refine wo_inO ?_ | with_reducible refine wi_any ?_ | with_reducible refine wi_vals ?_ | with_reducible refine wi_items ?_ | with_reducible refine wi_rg1 ?_ | with_reducible refine wo_lc ?_ | with_reducible refine wo_dc ?_ | ((with_reducible apply wo_lock); next => rfl) | ((with_reducible apply ws_lock); next => rfl) | with_reducible refine ws_par ?_ | with_reducible refine is2 ?_ | with_reducible refine ws_par3 ?_ | with_reducible refine is3 ?_ | with_reducible refine ws_asg ?_ | with_reducible refine wo_un ?_ | with_reducible refine wo_eq neg_i ?_ | with_reducible refine wo_eq eq_bb ?_ | with_reducible refine wo_eq eq_ss ?_ | with_reducible refine wo_eq max_ii ?_ | with_reducible refine wo_eq min_ii ?_ | with_reducible refine lew_v ?_ | with_reducible refine wo_bm ?_ | with_reducible refine wo_sl ?_ | with_reducible refine wq_none ?_ | with_reducible refine wq_some ?_ | with_reducible refine wo_ok ?_ | with_reducible refine ws_nx ?_ | with_reducible refine wo_get2 ?_ | ((with_reducible refine wo_eq (mul_ii ?_) ?_); next => (first | exact .inl (by decide) | exact .inr (by decide))) | ((with_reducible refine wo_eq (mod_ii ?_) ?_); next => decide) | ((with_reducible refine wo_eq (div_ii ?_) ?_); next => decide) | ((with_reducible refine wo_eq (pow_ii ?_) ?_); next => decide))
local macro_rules | `(tactic| walk_at "pu wp1") => `(tactic| first | walk_at "pu wq1" | with_reducible refine ws_if ?_)
local macro_rules | `(tactic| walk_at "pu wp") => `(tactic| repeat walk_at "pu wp1")
local macro_rules | `(tactic| walk_at "pu wq") => `(tactic| repeat walk_at "pu wq1")
local macro_rules | `(tactic| walk_at "pu wdef") => `(tactic| (apply wo_def rfl; next => ((try simp only [List.map_cons, List.map_nil, List.replicate_succ, List.replicate_zero, List.cons_append, List.nil_append, List.append_nil, List.length_cons, List.length_nil, Nat.reduceAdd, Nat.reduceSub]); first | done | rfl)))
local macro_rules | `(tactic| walk_at "pu wdone") => `(tactic| exact ⟨rfl, by first | rfl | exact List.take_length⟩)
section
variable {Pg : Program} {w : World} {K : PySem.W.Frag} {μ : Μ}
theorem e_check_shifts {t : Tb} (h : Ok t) : D_check_shifts Pg w K [.v (dctP t)] μ = .ok (.v .non) μ := eq_wo (by
  have le := h.le
  unfold D_check_shifts
  walk_at "pu wdef"
  repeat (first | walk_at "pu wp1" | with_reducible refine wo_eq (e_has_names h.ne h.nm (show t.length ≤ 64 by omega)) ?_ | with_reducible refine wo_eq (sort_t (show t.length < 64 by omega)) ?_ | with_reducible refine wo_eq (it_strs (show (srt (keys t)).length ≤ 100000 by rw [srt_len, len_keys]; omega)) ?_)
  refine wf_go (n := 0) (fun _ γ m => m = μ ∧ ∃ x, γ = [some (W.v (dctP t)), x]) ⟨rfl, none, rfl⟩ (fun j p γ m hp ⟨em, x, eg⟩ => ?_) fun γ m ⟨em, x, eg⟩ => ?_
  · subst em
    subst eg
    obtain ⟨z, mz, rfl⟩ := List.mem_map.mp (List.mem_of_getElem? hp)
    refine ⟨_, rfl, ?_⟩
    repeat (first | walk_at "pu wp1" | with_reducible refine wo_eq (dget_ok (val_of (srt_mem.mp mz))) ?_ | with_reducible refine wo_eq (e_is_integer _) ?_)
    exact ⟨rfl, _, rfl⟩
  · subst em
    subst eg
    repeat (first | walk_at "pu wp1" | with_reducible refine wo_eq (len_t) ?_)
    refine bi_dF (by omega) ?_
    walk_at "pu wp"
    walk_at "pu wdone")
theorem e_Earliest_init {t : Tb} (h : Ok t) : D_Earliest___init__ Pg w K [.loc μ.length, .v (dctP t)] (μ ++ [.ins (ga K "Earliest") []]) = .ok (.v .non) (μ ++ [.ins (ga K "Earliest") [("_shifts", dctP (ord t))]]) := eq_wo (by
  have le := h.le
  unfold D_Earliest___init__
  walk_at "pu wdef"
  repeat (first | walk_at "pu wp1" | with_reducible refine wo_eq (e_check_shifts h) ?_)
  apply ws_fld
  repeat (first | walk_at "pu wp1" | with_reducible refine wo_eq (e_in_order h.nd (show t.length < 64 by omega)) ?_)
  refine ⟨μ.length, [], wI_last, by decide, ?_⟩
  rw [last_set]
  exact ⟨rfl, List.take_of_length_le (by simp)⟩)
theorem e_Earliest {t : Tb} (h : Ok t) : (makeP (ga K "Earliest") (D_Earliest___init__ Pg w K) [.v (dctP t)] μ).bind (frzP μ.length) = .ok (.v (eaP K (ord t))) μ := make_eq (e_Earliest_init h)
theorem e_Earliest_shifts {t : Tb} : D_Earliest_shifts Pg w K [.v (eaP K t)] μ = .ok (.loc μ.length) (μ ++ [.dct (t.map rowP)]) := eq_wo (by
  unfold D_Earliest_shifts
  walk_at "pu wdef"
  repeat (first | walk_at "pu wp1" | with_reducible refine wo_eq (show gDict .cell [.v (dctP t)] μ = .ok (.loc μ.length) (μ ++ [.dct (t.map rowP)]) from rfl) ?_)
  refine lew_new (m := μ ++ [.dct (t.map rowP)]) (c := .dct (t.map rowP)) (Nat.le_refl _) (by rw [List.getElem?_append_right (Nat.le_refl _), Nat.sub_self]; rfl) rfl ?_
  refine ⟨rfl, ?_⟩
  rw [List.take_append_of_le_length (Nat.le_refl _), List.take_of_length_le (Nat.le_refl _)])
theorem e_Earliest_moments {t : Tb} : D_Earliest_moments Pg w K [.v (eaP K t)] μ = .ok (.v (.tup ((keys t).map P.str))) μ := eq_wo (by
  unfold D_Earliest_moments
  walk_at "pu wdef"
  repeat (first | walk_at "pu wp1" | with_reducible refine wo_eq (tup_t) ?_)
  walk_at "pu wdone")
theorem e_is_moment_of {t : Tb} {z : Str} : D_is_moment_of Pg w K [.v (.str z), .v (dctP t)] μ = .ok (.v (.bl (decide (z ∈ keys t)))) μ := eq_wo (by
  unfold D_is_moment_of
  walk_at "pu wdef"
  repeat (first | walk_at "pu wp1" | with_reducible refine wo_eq (din_ok false) ?_)
  exact ⟨by simp, List.take_length⟩)
theorem e_check_moment {t : Tb} {z : Str} (h : z ∈ keys t) : D_check_moment Pg w K [.v (.str z), .v (dctP t)] μ = .ok (.v .non) μ := eq_wo (by
  unfold D_check_moment
  walk_at "pu wdef"
  repeat (first | walk_at "pu wp1" | with_reducible refine wo_eq (e_is_moment_of) ?_)
  walk_at "pu wdone")
theorem e_Earliest_getitem {t : Tb} {z : Str} (h : z ∈ keys t) : D_Earliest___getitem__ Pg w K [.v (eaP K t), .v (.str z)] μ = .ok (.v (.int (val t z))) μ := eq_wo (by
  unfold D_Earliest___getitem__
  walk_at "pu wdef"
  repeat (first | walk_at "pu wp1" | with_reducible refine wo_eq (e_check_moment h) ?_ | with_reducible refine wo_eq (dget_ok (val_of h)) ?_)
  walk_at "pu wdone")
end
end Pu
set_option Elab.async false
set_option linter.all false
set_option maxRecDepth 100000
set_option maxHeartbeats 4000000
set_option Elab.async false
set_option linter.all false
set_option maxRecDepth 100000
set_option maxHeartbeats 4000000
set_option Elab.async false
set_option linter.all false
set_option maxRecDepth 100000
set_option maxHeartbeats 4000000
set_option Elab.async false
set_option linter.all false
set_option maxRecDepth 100000
set_option maxHeartbeats 4000000
namespace Pu
open L2 PySem PySem.Spec PyProof.Rows E10
open He (ga ma)
local macro_rules | `(tactic| walk_at "pu wq1") => `(tactic| first | ((with_reducible apply wo_var); next => rfl) | with_reducible refine wo_c ?_ | with_reducible refine wo_op ?_ | with_reducible refine wo_call ?_ | with_reducible refine wa_cons ?_ | with_reducible refine wa_nil ?_ | with_reducible refine wo_eq add_ii ?_ | with_reducible refine wo_eq sub_ii ?_ | with_reducible refine wo_eq le_ii ?_ | with_reducible refine wo_eq lt_ii ?_ | with_reducible refine wo_eq gt_ii ?_ | with_reducible refine wo_eq eq_ii ?_ | with_reducible refine ws_seq ?_ | with_reducible refine ws_set ?_ | ((with_reducible apply st1); next => ((try simp only [List.set_cons_zero, List.set_cons_succ]); first | done | rfl)) | with_reducible refine ws_ret ?_ | with_reducible refine ws_drop ?_ | with_reducible refine ws_next ?_ | with_reducible refine ws_for ?_ | with_reducible refine wt_test ?_ | with_reducible refine isB ?_ | with_reducible refine isV ?_ | with_reducible refine isI ?_ | with_reducible refine bi_tt ?_ | with_reducible refine bi_ff ?_ | with_reducible refine bi_not ?_ | with_reducible refine bi_bneF ?_ | with_reducible refine bi_bneT ?_ | ((with_reducible refine bi_T ?_ ?_); next => assumption) | ((with_reducible refine bi_F ?_ ?_); next => assumption) | ((with_reducible refine bi_dT ?_ ?_); next => assumption) | ((with_reducible refine bi_dF ?_ ?_); next => assumption) | with_reducible refine wt_not ?_ | with_reducible refine wt_and ?_ | with_reducible refine wt_or ?_ | with_reducible refine wt_yes ?_ | with_reducible refine wo_andV ?_ | with_reducible refine wo_orV ?_ | with_reducible refine wo_notV ?_ | with_reducible refine wo_if ?_ | with_reducible refine wo_chain ?_ | with_reducible refine wo_seq ?_ | with_reducible refine wo_lstC ?_ | with_reducible refine isVs1 ?_ | with_reducible refine isVs0 ?_ | with_reducible refine isVsA ?_ | with_reducible refine isVsM ?_ | ((with_reducible refine few1 ?_ ?_); next => (first | decide | (simp only [List.length_map, List.length_append, List.length_cons, List.length_nil]; omega))) | with_reducible refine wo_fld ?_ | with_reducible refine wo_meth ?_ | with_reducible refine wo_prop ?_ | with_reducible refine isO ?_ | with_reducible refine wo_callO ?_ | with_reducible refine wo_mk ?_ | with_reducible refine wo_frz ?_ | with_reducible refine wo_frzv ?_ | with_reducible refine wo_drop ?_ | ((with_reducible apply wo_fldv); next => rfl) | ((with_reducible apply noF); next => rfl) | with_reducible refine isC1 ?_ | ((with_reducible refine leM ?_ ?_); next => (first | exact Nat.le_refl _ | exact pot_le (by assumption) (by assumption))) | ((with_reducible apply wo_isi (c := true)); (next => rfl); (next => decide); (next => decide)) | ((with_reducible apply wo_isi (c := false)); (next => rfl); (next => decide); (next => decide)) | ((with_reducible refine wo_isiO1 ?_ ?_); next => simp) | ((with_reducible refine wo_isiOb ?_ ?_ ?_); (next => simp); (next => simp)) | ((with_reducible apply wo_isibO); (next => rfl); (next => simp)) | ((with_reducible refine wo_eqO ?_ ?_); next => simp) | ((with_reducible refine wo_neO ?_ ?_); next => simp) | with_reducible refine wo_own2 ?_ | with_reducible refine wo_ownI ?_ | with_reducible refine wo_iown ?_ | with_reducible refine wo_ixO ?_ | with_reducible refine wo_inO ?_ | with_reducible refine wi_any ?_ | with_reducible refine wi_vals ?_ | with_reducible refine wi_items ?_ | with_reducible refine wi_rg1 ?_ | with_reducible refine wo_lc ?_ | with_reducible refine wo_dc ?_ | ((with_reducible apply wo_lock); next => rfl) | ((with_reducible apply ws_lock); next => rfl) | with_reducible refine ws_par ?_ | with_reducible refine is2 ?_ | with_reducible refine ws_par3 ?_ | with_reducible refine is3 ?_ | with_reducible refine ws_asg ?_ | with_reducible refine wo_un ?_ | with_reducible refine wo_eq neg_i ?_ | with_reducible refine wo_eq eq_bb ?_ | with_reducible refine wo_eq eq_ss ?_ | with_reducible refine wo_eq max_ii ?_ | with_reducible refine wo_eq min_ii ?_ | with_reducible refine lew_v ?_ | with_reducible refine wo_bm ?_ | with_reducible refine wo_sl ?_ | with_reducible refine wq_none ?_ | with_reducible refine wq_some ?_ | with_reducible refine wo_ok ?_ | with_reducible refine ws_nx ?_ | with_reducible refine wo_get2 ?_ | ((with_reducible refine wo_eq (mul_ii ?_) ?_); next => (first | exact .inl (by decide) | exact .inr (by decide))) | ((with_reducible refine wo_eq (mod_ii ?_) ?_); next => decide) | ((with_reducible refine wo_eq (div_ii ?_) ?_); next => decide) | ((with_reducible refine wo_eq (pow_ii ?_) ?_); next => decide))
local macro_rules | `(tactic| walk_at "pu wp1") => `(tactic| first | walk_at "pu wq1" | with_reducible refine ws_if ?_)
local macro_rules | `(tactic| walk_at "pu wp") => `(tactic| repeat walk_at "pu wp1")
local macro_rules | `(tactic| walk_at "pu wq") => `(tactic| repeat walk_at "pu wq1")
local macro_rules | `(tactic| walk_at "pu wdef") => `(tactic| (apply wo_def rfl; next => ((try simp only [List.map_cons, List.map_nil, List.replicate_succ, List.replicate_zero, List.cons_append, List.nil_append, List.append_nil, List.length_cons, List.length_nil, Nat.reduceAdd, Nat.reduceSub]); first | done | rfl)))
local macro_rules | `(tactic| walk_at "pu wdone") => `(tactic| exact ⟨rfl, by first | rfl | exact List.take_length⟩)
def one (x : (Str × Tb) × Str) : Str × Tb := (x.1.1, [(x.2, val x.1.2 x.2)])
/-- a choice of an alternative for each rule -/
structure Ch (rs : List (Str × Tb)) (c : List Str) : Prop where
  len : c.length = rs.length
  mem : ∀ x ∈ rs.zip c, x.2 ∈ keys x.1.2
def plainR (rs : List (Str × Tb)) (c : List Str) : List (Str × Tb) := (rs.zip c).map one
theorem zip_mem {α β : Type} {as : List α} {bs : List β} {x : α × β} (h : x ∈ as.zip bs) : x.1 ∈ as ∧ x.2 ∈ bs := List.of_mem_zip (a := x.1) (b := x.2) h
theorem one_so {z : Str} {v : Int} (h : Nm z) : So [(z, v)] := by
  have o : Ok [(z, v)] := ⟨by simp, fun y m => by simp [keys] at m; rw [m]; exact h, by simp [keys], by simp⟩
  refine ⟨o, ord_srt o.nd ?_⟩
  show srt [z] = [z]
  have := srt_perm [z]
  exact List.perm_singleton.mp this
theorem Bo.plain {ns : List Str} {rs : List (Str × Tb)} {c : List Str} (h : Bo ns rs) (hc : Ch rs c) : Bo ns (plainR rs c) := by
  refine ⟨h.n8, h.so, fun r m => ?_, fun r m => ?_, by unfold plainR; rw [List.length_map, List.length_zip, hc.len, Nat.min_self]; exact h.le⟩
  · obtain ⟨x, mx, rfl⟩ := List.mem_map.mp m
    have m1 := (zip_mem mx).1
    exact ⟨(h.ru _ m1).nm, one_so ((h.ru _ m1).so.nm _ (hc.mem x mx))⟩
  · obtain ⟨x, mx, rfl⟩ := List.mem_map.mp m
    have m1 := (zip_mem mx).1
    refine ⟨(h.sub _ m1).1, fun z mz => ?_⟩
    have : z = x.2 := by simpa [one, keys] using mz
    rw [this]
    exact (h.sub _ m1).2 _ (hc.mem x mx)
section
variable {Pg : Program} {w : World} {K : PySem.W.Frag} {μ : Μ} {ns : List Str} {rs qs : List (Str × Tb)} {t s : Tb}
theorem e_Earliest_contains {z : Str} : D_Earliest___contains__ Pg w K [.v (eaP K t), .v (.str z)] μ = .ok (.v (.bl (decide (z ∈ keys t)))) μ := eq_wo (by
  unfold D_Earliest___contains__
  walk_at "pu wdef"
  repeat (first | walk_at "pu wp1" | with_reducible refine wo_eq (e_is_moment_of) ?_)
  walk_at "pu wdone")
theorem e_Earliest_eq : D_Earliest___eq__ Pg w K [.v (eaP K t), .v (eaP K s)] μ = .ok (.v (.bl (same t s))) μ := eq_wo (by
  unfold D_Earliest___eq__
  walk_at "pu wdef"
  repeat (first | walk_at "pu wp1" | with_reducible refine wo_eq (eq_ts) ?_)
  exact ⟨by simp, List.take_length⟩)
end
end Pu
set_option Elab.async false
set_option linter.all false
set_option maxRecDepth 100000
set_option maxHeartbeats 4000000
namespace Pu
open L2 PySem PySem.Spec PyProof.Rows E10
open He (ga ma)
local macro_rules | `(tactic| walk_at "pu wq1") => `(tactic| first | ((with_reducible apply wo_var); next => rfl) | with_reducible refine wo_c ?_ | with_reducible refine wo_op ?_ | with_reducible refine wo_call ?_ | with_reducible refine wa_cons ?_ | with_reducible refine wa_nil ?_ | with_reducible refine wo_eq add_ii ?_ | with_reducible refine wo_eq sub_ii ?_ | with_reducible refine wo_eq le_ii ?_ | with_reducible refine wo_eq lt_ii ?_ | with_reducible refine wo_eq gt_ii ?_ | with_reducible refine wo_eq eq_ii ?_ | with_reducible refine ws_seq ?_ | with_reducible refine ws_set ?_ | ((with_reducible apply st1); next => ((try simp only [List.set_cons_zero, List.set_cons_succ]); first | done | rfl)) | with_reducible refine ws_ret ?_ | with_reducible refine ws_drop ?_ | with_reducible refine ws_next ?_ | with_reducible refine ws_for ?_ | with_reducible refine wt_test ?_ | with_reducible refine isB ?_ | with_reducible refine isV ?_ | with_reducible refine isI ?_ | with_reducible refine bi_tt ?_ | with_reducible refine bi_ff ?_ | with_reducible refine bi_not ?_ | with_reducible refine bi_bneF ?_ | with_reducible refine bi_bneT ?_ | ((with_reducible refine bi_T ?_ ?_); next => assumption) | ((with_reducible refine bi_F ?_ ?_); next => assumption) | ((with_reducible refine bi_dT ?_ ?_); next => assumption) | ((with_reducible refine bi_dF ?_ ?_); next => assumption) | with_reducible refine wt_not ?_ | with_reducible refine wt_and ?_ | with_reducible refine wt_or ?_ | with_reducible refine wt_yes ?_ | with_reducible refine wo_andV ?_ | with_reducible refine wo_orV ?_ | with_reducible refine wo_notV ?_ | with_reducible refine wo_if ?_ | with_reducible refine wo_chain ?_ | with_reducible refine wo_seq ?_ | with_reducible refine wo_lstC ?_ | with_reducible refine isVs1 ?_ | with_reducible refine isVs0 ?_ | with_reducible refine isVsA ?_ | with_reducible refine isVsM ?_ | ((with_reducible refine few1 ?_ ?_); next => (first | decide | (simp only [List.length_map, List.length_append, List.length_cons, List.length_nil]; omega))) | with_reducible refine wo_fld ?_ | with_reducible refine wo_meth ?_ | with_reducible refine wo_prop ?_ | with_reducible refine isO ?_ | with_reducible refine wo_callO ?_ | with_reducible refine wo_mk ?_ | with_reducible refine wo_frz ?_ | with_reducible refine wo_frzv ?_ | with_reducible refine wo_drop ?_ | ((with_reducible apply wo_fldv); next => rfl) | ((with_reducible apply noF); next => rfl) | with_reducible refine isC1 ?_ | ((with_reducible refine leM ?_ ?_); next => (first | exact Nat.le_refl _ | exact pot_le (by assumption) (by assumption))) | ((with_reducible apply wo_isi (c := true)); (next => rfl); (next => decide); (next => decide)) | ((with_reducible apply wo_isi (c := false)); (next => rfl); (next => decide); (next => decide)) | ((with_reducible refine wo_isiO1 ?_ ?_); next => simp) | ((with_reducible refine wo_isiOb ?_ ?_ ?_); (next => simp); (next => simp)) | ((with_reducible apply wo_isibO); (next => rfl); (next => simp)) | ((with_reducible refine wo_eqO ?_ ?_); next => simp) | ((with_reducible refine wo_neO ?_ ?_); next => simp) | with_reducible refine wo_own2 ?_ | with_reducible refine wo_ownI ?_ | with_reducible refine wo_iown ?_ | with_reducible refine wo_ixO ?_ | with_reducible refine wo_inO ?_ | with_reducible refine wi_any ?_ | with_reducible refine wi_vals ?_ | with_reducible refine wi_items ?_ | with_reducible refine wi_rg1 ?_ | with_reducible refine wo_lc ?_ | with_reducible refine wo_dc ?_ | ((with_reducible apply wo_lock); next => rfl) | ((with_reducible apply ws_lock); next => rfl) | with_reducible refine ws_par ?_ | with_reducible refine is2 ?_ | with_reducible refine ws_par3 ?_ | with_reducible refine is3 ?_ | with_reducible refine ws_asg ?_ | with_reducible refine wo_un ?_ | with_reducible refine wo_eq neg_i ?_ | with_reducible refine wo_eq eq_bb ?_ | with_reducible refine wo_eq eq_ss ?_ | with_reducible refine wo_eq max_ii ?_ | with_reducible refine wo_eq min_ii ?_ | with_reducible refine lew_v ?_ | with_reducible refine wo_bm ?_ | with_reducible refine wo_sl ?_ | with_reducible refine wq_none ?_ | with_reducible refine wq_some ?_ | with_reducible refine wo_ok ?_ | with_reducible refine ws_nx ?_ | with_reducible refine wo_get2 ?_ | ((with_reducible refine wo_eq (mul_ii ?_) ?_); next => (first | exact .inl (by decide) | exact .inr (by decide))) | ((with_reducible refine wo_eq (mod_ii ?_) ?_); next => decide) | ((with_reducible refine wo_eq (div_ii ?_) ?_); next => decide) | ((with_reducible refine wo_eq (pow_ii ?_) ?_); next => decide))
local macro_rules | `(tactic| walk_at "pu wp1") => `(tactic| first | walk_at "pu wq1" | with_reducible refine ws_if ?_)
local macro_rules | `(tactic| walk_at "pu wp") => `(tactic| repeat walk_at "pu wp1")
local macro_rules | `(tactic| walk_at "pu wq") => `(tactic| repeat walk_at "pu wq1")
local macro_rules | `(tactic| walk_at "pu wdef") => `(tactic| (apply wo_def rfl; next => ((try simp only [List.map_cons, List.map_nil, List.replicate_succ, List.replicate_zero, List.cons_append, List.nil_append, List.append_nil, List.length_cons, List.length_nil, Nat.reduceAdd, Nat.reduceSub]); first | done | rfl)))
local macro_rules | `(tactic| walk_at "pu wdone") => `(tactic| exact ⟨rfl, by first | rfl | exact List.take_length⟩)
/-! ### rules raised, the contrary, slacks of a book, another time -/
theorem Ru.shf {r : Str × Tb} (h : Ru r) (n : Int) : Ru (r.1, Pu.shf r.2 n) := ⟨h.nm, h.so.shf n⟩
section
variable {Pg : Program} {w : World} {K : PySem.W.Frag} {μ : Μ} {ns : List Str} {rs : List (Str × Tb)} {t : Tb} {r : Str × Tb}
theorem e_Earliest_add (h : So t) (n : Int) : D_Earliest___add__ Pg w K [.v (eaP K t), .v (.int n)] μ = .ok (.v (eaP K (shf t n))) μ := eq_wo (by
  have le := h.le
  unfold D_Earliest___add__
  walk_at "pu wdef"
  repeat (first | walk_at "pu wp1" | with_reducible refine wo_eq (e_check_shift n) ?_ | with_reducible refine wo_eq (e_moved h.nd (show t.length < 64 by omega) n) ?_ | with_reducible refine wo_eq (e_Earliest (h.shf n).toOk) ?_)
  rw [(h.shf n).so]
  walk_at "pu wdone")
theorem e_Earliest_radd (h : So t) (n : Int) : D_Earliest___radd__ Pg w K [.v (eaP K t), .v (.int n)] μ = .ok (.v (eaP K (shf t n))) μ := eq_wo (by
  unfold D_Earliest___radd__
  walk_at "pu wdef"
  repeat (first | walk_at "pu wp1" | with_reducible refine wo_eq (e_Earliest_add h n) ?_)
  walk_at "pu wdone")
theorem e_Earliest_sub (h : So t) (n : Int) : D_Earliest___sub__ Pg w K [.v (eaP K t), .v (.int n)] μ = .ok (.v (eaP K (shf t (-n)))) μ := eq_wo (by
  unfold D_Earliest___sub__
  walk_at "pu wdef"
  repeat (first | walk_at "pu wp1" | with_reducible refine wo_eq (e_check_shift n) ?_ | with_reducible refine wo_eq (e_Earliest_add h (-n)) ?_)
  walk_at "pu wdone")
end
end Pu
set_option Elab.async false
set_option linter.all false
set_option maxRecDepth 100000
set_option maxHeartbeats 8000000
namespace Pu
open L2 PySem PySem.Spec PyProof.Rows E10
open He (ga ma)
/-! ### a moment left out, an Earliest put in, holds, forgetting -/
theorem srt_filter {l : List Str} (h : Srt l) (p : Str → Bool) : Srt (l.filter p) := by
  have h1 : l.Pairwise fun a b => leS a b = true := by
    have := srt_pw l
    rwa [show srt l = l from h] at this
  exact srt_id (h1.filter p)
def lout (t : Tb) (y : Str) : Tb := ((keys t).filter fun z => ((z == y) != true)).map fun z => (z, val t z)
theorem keys_lout (t : Tb) (y : Str) : keys (lout t y) = (keys t).filter fun z => ((z == y) != true) := by
  unfold lout
  conv => lhs; unfold keys
  rw [List.map_map]
  exact List.map_id _
theorem mem_lout {t : Tb} {y z : Str} : z ∈ keys (lout t y) ↔ z ∈ keys t ∧ z ≠ y := by
  rw [keys_lout, List.mem_filter]
  refine and_congr_right fun _ => ?_
  by_cases c : z = y <;> simp [c]
theorem nd_lout {t : Tb} (nd : (keys t).Nodup) (y : Str) : (keys (lout t y)).Nodup := by
  rw [keys_lout]
  exact nd.filter _
theorem So.lout {t : Tb} (h : So t) {y : Str} (ne : ∃ z ∈ keys t, z ≠ y) : So (Pu.lout t y) := by
  refine So.of (ns := keys (Pu.lout t y)) ⟨nd_lout h.nd y, fun z m => h.nm z (mem_lout.mp m).1, ?_, fun e => ?_⟩ ?_ rfl
  · rw [keys_lout]
    refine Nat.le_trans (List.length_filter_le ..) ?_
    rw [len_keys]
    exact h.le
  · obtain ⟨z, m, ne⟩ := ne
    have : z ∈ keys (Pu.lout t y) := mem_lout.mpr ⟨m, ne⟩
    rw [e] at this
    cases this
  · rw [keys_lout]
    exact srt_filter h.srt _
/-! what forgetting does -/
end Pu
set_option Elab.async false
set_option linter.all false
set_option maxRecDepth 100000
set_option maxHeartbeats 8000000
namespace Pu
open L2 PySem PySem.Spec PyProof.Rows E10
open He (ga ma)
local macro_rules | `(tactic| walk_at "pu wq1") => `(tactic| first | ((with_reducible apply wo_var); next => rfl) | with_reducible refine wo_c ?_ | with_reducible refine wo_op ?_ | with_reducible refine wo_call ?_ | with_reducible refine wa_cons ?_ | with_reducible refine wa_nil ?_ | with_reducible refine wo_eq add_ii ?_ | with_reducible refine wo_eq sub_ii ?_ | with_reducible refine wo_eq le_ii ?_ | with_reducible refine wo_eq lt_ii ?_ | with_reducible refine wo_eq gt_ii ?_ | with_reducible refine wo_eq eq_ii ?_ | with_reducible refine ws_seq ?_ | with_reducible refine ws_set ?_ | ((with_reducible apply st1); next => ((try simp only [List.set_cons_zero, List.set_cons_succ]); first | done | rfl)) | with_reducible refine ws_ret ?_ | with_reducible refine ws_drop ?_ | with_reducible refine ws_next ?_ | with_reducible refine ws_for ?_ | with_reducible refine wt_test ?_ | with_reducible refine isB ?_ | with_reducible refine isV ?_ | with_reducible refine isI ?_ | with_reducible refine bi_tt ?_ | with_reducible refine bi_ff ?_ | with_reducible refine bi_not ?_ | with_reducible refine bi_bneF ?_ | with_reducible refine bi_bneT ?_ | ((with_reducible refine bi_T ?_ ?_); next => assumption) | ((with_reducible refine bi_F ?_ ?_); next => assumption) | ((with_reducible refine bi_dT ?_ ?_); next => assumption) | ((with_reducible refine bi_dF ?_ ?_); next => assumption) | with_reducible refine wt_not ?_ | with_reducible refine wt_and ?_ | with_reducible refine wt_or ?_ | with_reducible refine wt_yes ?_ | with_reducible refine wo_andV ?_ | with_reducible refine wo_orV ?_ | with_reducible refine wo_notV ?_ | with_reducible refine wo_if ?_ | with_reducible refine wo_chain ?_ | with_reducible refine wo_seq ?_ | with_reducible refine wo_lstC ?_ | with_reducible refine isVs1 ?_ | with_reducible refine isVs0 ?_ | with_reducible refine isVsA ?_ | with_reducible refine isVsM ?_ | ((with_reducible refine few1 ?_ ?_); next => (first | decide | (simp only [List.length_map, List.length_append, List.length_cons, List.length_nil]; omega))) | with_reducible refine wo_fld ?_ | with_reducible refine wo_meth ?_ | with_reducible refine wo_prop ?_ | with_reducible refine isO ?_ | with_reducible refine wo_callO ?_ | with_reducible refine wo_mk ?_ | with_reducible refine wo_frz ?_ | with_reducible refine wo_frzv ?_ | with_reducible refine wo_drop ?_ | ((with_reducible apply wo_fldv); next => rfl) | ((with_reducible apply noF); next => rfl) | with_reducible refine isC1 ?_ | ((with_reducible refine leM ?_ ?_); next => (first | exact Nat.le_refl _ | exact pot_le (by assumption) (by assumption))) | ((with_reducible apply wo_isi (c := true)); (next => rfl); (next => decide); (next => decide)) | ((with_reducible apply wo_isi (c := false)); (next => rfl); (next => decide); (next => decide)) | ((with_reducible refine wo_isiO1 ?_ ?_); next => simp) | ((with_reducible refine wo_isiOb ?_ ?_ ?_); (next => simp); (next => simp)) | ((with_reducible apply wo_isibO); (next => rfl); (next => simp)) | ((with_reducible refine wo_eqO ?_ ?_); next => simp) | ((with_reducible refine wo_neO ?_ ?_); next => simp) | with_reducible refine wo_own2 ?_ | with_reducible refine wo_ownI ?_ | with_reducible refine wo_iown ?_ | with_reducible refine wo_ixO ?_ | with_reducible refine wo_inO ?_ | with_reducible refine wi_any ?_ | with_reducible refine wi_vals ?_ | with_reducible refine wi_items ?_ | with_reducible refine wi_rg1 ?_ | with_reducible refine wo_lc ?_ | with_reducible refine wo_dc ?_ | ((with_reducible apply wo_lock); next => rfl) | ((with_reducible apply ws_lock); next => rfl) | with_reducible refine ws_par ?_ | with_reducible refine is2 ?_ | with_reducible refine ws_par3 ?_ | with_reducible refine is3 ?_ | with_reducible refine ws_asg ?_ | with_reducible refine wo_un ?_ | with_reducible refine wo_eq neg_i ?_ | with_reducible refine wo_eq eq_bb ?_ | with_reducible refine wo_eq eq_ss ?_ | with_reducible refine wo_eq max_ii ?_ | with_reducible refine wo_eq min_ii ?_ | with_reducible refine lew_v ?_ | with_reducible refine wo_bm ?_ | with_reducible refine wo_sl ?_ | with_reducible refine wq_none ?_ | with_reducible refine wq_some ?_ | with_reducible refine wo_ok ?_ | with_reducible refine ws_nx ?_ | with_reducible refine wo_get2 ?_ | ((with_reducible refine wo_eq (mul_ii ?_) ?_); next => (first | exact .inl (by decide) | exact .inr (by decide))) | ((with_reducible refine wo_eq (mod_ii ?_) ?_); next => decide) | ((with_reducible refine wo_eq (div_ii ?_) ?_); next => decide) | ((with_reducible refine wo_eq (pow_ii ?_) ?_); next => decide))
local macro_rules | `(tactic| walk_at "pu wp1") => `(tactic| first | walk_at "pu wq1" | with_reducible refine ws_if ?_)
local macro_rules | `(tactic| walk_at "pu wp") => `(tactic| repeat walk_at "pu wp1")
local macro_rules | `(tactic| walk_at "pu wq") => `(tactic| repeat walk_at "pu wq1")
local macro_rules | `(tactic| walk_at "pu wdef") => `(tactic| (apply wo_def rfl; next => ((try simp only [List.map_cons, List.map_nil, List.replicate_succ, List.replicate_zero, List.cons_append, List.nil_append, List.append_nil, List.length_cons, List.length_nil, Nat.reduceAdd, Nat.reduceSub]); first | done | rfl)))
local macro_rules | `(tactic| walk_at "pu wdone") => `(tactic| exact ⟨rfl, by first | rfl | exact List.take_length⟩)
section
variable {Pg : Program} {w : World} {K : PySem.W.Frag} {μ : Μ} {ns : List Str} {rs : List (Str × Tb)} {t s h : Tb} {r : Str × Tb} {y : Str}
theorem e_left_out (nd : (keys t).Nodup) (le : t.length ≤ 64) : D_left_out Pg w K [.v (dctP t), .v (.str y)] μ = .ok (.v (dctP (lout t y))) μ := eq_wo (by
  unfold D_left_out
  walk_at "pu wdef"
  repeat (first | walk_at "pu wp1" | with_reducible refine wo_eq (it_d (show t.length ≤ 100000 by omega)) ?_)
  refine wd_on P.str (fun z => ((z == y) != true)) (fun z => Sum.inr z) (fun z => P.int (val t z)) (l := keys t) (List.Pairwise.map _ (fun a b h e => h (Sum.inr.inj e)) (nd.filter _)) (fun z m => ?_) ?_
  · refine ⟨_, .str z, rfl, rfl, ?_, fun _ => ⟨?_, ?_⟩⟩
    · walk_at "pu wp"
      exact ⟨rfl, rfl⟩
    · walk_at "pu wp"
      exact ⟨rfl, rfl⟩
    · repeat (first | walk_at "pu wp1" | with_reducible refine wo_eq (dget_ok (val_of m)) ?_)
      exact ⟨rfl, rfl⟩
  · walk_at "pu wp"
    refine ⟨?_, List.take_length⟩
    unfold dctP lout rowP
    rw [List.map_map]
    rfl)
theorem e_Earliest_without (h : So t) (m : y ∈ keys t) (ne : ∃ z ∈ keys t, z ≠ y) : D_Earliest_without Pg w K [.v (eaP K t), .v (.str y)] μ = .ok (.v (eaP K (lout t y))) μ := eq_wo (by
  have le := h.le
  have l2 : t.length ≠ 1 := fun e => by
    obtain ⟨z, mz, nz⟩ := ne
    have := len_keys t
    rw [e] at this
    match hk : keys t, this with
    | [a], _ =>
      rw [hk] at m mz
      rw [List.mem_singleton.mp m, List.mem_singleton.mp mz] at nz
      exact nz rfl
  unfold D_Earliest_without
  walk_at "pu wdef"
  repeat (first | walk_at "pu wp1" | with_reducible refine wo_eq (e_check_moment m) ?_ | with_reducible refine wo_eq (len_t) ?_)
  refine bi_F (by simp; omega) ?_
  repeat (first | walk_at "pu wp1" | with_reducible refine wo_eq (e_left_out h.nd (show t.length ≤ 64 by omega)) ?_ | with_reducible refine wo_eq (e_Earliest (h.lout ne).toOk) ?_)
  rw [(h.lout ne).so]
  walk_at "pu wdone")
theorem e_Term_init {z : Str} {n : Int} (hz : Nm z) : D_Term___init__ Pg w K [.loc μ.length, .v (.str z), .v (.int n)] (μ ++ [.ins (ga K "Term") []]) = .ok (.v .non) (μ ++ [.ins (ga K "Term") [("_moment", .str z), ("_shift", .int n)]]) := eq_wo (by
  unfold D_Term___init__
  walk_at "pu wdef"
  repeat (first | walk_at "pu wp1" | with_reducible refine wo_eq (e_is_name hz) ?_ | with_reducible refine wo_eq (e_check_shift n) ?_)
  apply ws_fld
  walk_at "pu wp"
  refine ⟨μ.length, [], wI_last, by decide, ?_⟩
  rw [last_set]
  walk_at "pu wp"
  apply ws_fld
  walk_at "pu wp"
  refine ⟨μ.length, _, wI_last, (by show (1 : Nat) < 900; decide), ?_⟩
  rw [last_set]
  exact ⟨rfl, List.take_of_length_le (by simp)⟩)
theorem e_Term {z : Str} {n : Int} (hz : Nm z) : (makeP (ga K "Term") (D_Term___init__ Pg w K) [.v (.str z), .v (.int n)] μ).bind (frzP μ.length) = .ok (.v (teP K z n)) μ := make_eq (e_Term_init hz)
end
end Pu
set_option Elab.async false
set_option linter.all false
set_option maxRecDepth 100000
set_option maxHeartbeats 8000000
set_option Elab.async false
set_option linter.all false
set_option maxRecDepth 100000
set_option maxHeartbeats 4000000
namespace Pu
open L2 PySem PySem.Spec PyProof.Rows E10
open He (ga ma)
/-! ### rows, and the ones that are broken most -/
/-- a row of known moments -/
structure Rw (ns : List Str) (r : Str × Tb) : Prop where
  ne : r.2 ≠ []
  nd : (keys r.2).Nodup
  le : r.2.length ≤ 64
  l : r.1 ∈ ns
  sub : ∀ z ∈ keys r.2, z ∈ ns
theorem ap1 {μ : Μ} {a b : PC} : (μ ++ [a, b])[μ.length + 1]? = some b := by rw [List.getElem?_append_right (by omega), Nat.add_sub_cancel_left]; rfl
theorem as1 {μ : Μ} {a b c : PC} : (μ ++ [a, b]).set (μ.length + 1) c = μ ++ [a, c] := by rw [List.set_append_right _ _ (by omega), Nat.add_sub_cancel_left]; rfl
/-- what is found of rows that are broken: the position of one for each such left -/
structure Brk (rs : List (Str × Tb)) (t f : Tb) : Prop where
  nd : (keys f).Nodup
  at_ : ∀ m ∈ keys f, ∃ p : Nat, ∃ r, val f m = p ∧ rs[p]? = some r ∧ r.1 = m ∧ val t m < low r.2 t
  all : ∀ r ∈ rs, r.1 ∉ keys f → low r.2 t ≤ val t r.1
/-- .. on the way: g the greatest values, n rows seen -/
structure BrkI (rs : List (Str × Tb)) (t g f : Tb) (n : Nat) : Prop where
  kg : keys g = keys t
  nf : (keys f).Nodup
  hf : ∀ z ∈ keys f, ∃ p : Nat, ∃ r, val f z = p ∧ rs[p]? = some r ∧ r.1 = z ∧ val t z < low r.2 t
  hg : ∀ z ∈ keys t, z ∉ keys f → val g z = val t z
  hle : ∀ z, val t z ≤ val g z
  pre : ∀ (i : Nat) (h : i < rs.length), i < n → low rs[i].2 t ≤ val g rs[i].1
  hs : ∀ z ∈ keys f, z ∈ keys t
theorem BrkI.put {rs : List (Str × Tb)} {t g f : Tb} {n : Nat} (h : BrkI rs t g f n) (nt : (keys t).Nodup) (l : n < rs.length) (ml : rs[n].1 ∈ keys t) (c : val g rs[n].1 < low rs[n].2 t) : BrkI rs t (putT g rs[n].1 (low rs[n].2 t)) (putT f rs[n].1 n) (n + 1) := by
  have ng : (keys g).Nodup := by rw [h.kg]; exact nt
  have vg := val_put ng rs[n].1 (low rs[n].2 t)
  have vf := val_put h.nf rs[n].1 (n : Int)
  refine ⟨by rw [put_keys, if_pos (by rw [h.kg]; exact ml)]; exact h.kg, put_nd h.nf _ _, fun z hz => ?_, fun z hz nz => ?_, fun z => ?_, fun i hi q => ?_, fun z hz => ?_⟩
  · rw [vf]
    by_cases e : z = rs[n].1
    · rw [if_pos e]
      have := h.hle rs[n].1
      exact ⟨n, rs[n], rfl, by simp [l], e.symm, by rw [e]; omega⟩
    · rw [if_neg e]
      exact h.hf z ((mem_put.mp hz).resolve_left e)
  · have ne : z ≠ rs[n].1 := fun e => nz (mem_put.mpr (.inl e))
    rw [vg, if_neg ne]
    exact h.hg z hz fun m => nz (mem_put.mpr (.inr m))
  · rw [vg]
    have := h.hle z
    split
    · rename_i e; subst e; omega
    · exact this
  · rw [vg]
    split
    · rename_i e
      by_cases e2 : i = n
      · subst e2; exact Int.le_refl _
      · have := h.pre i hi (by omega)
        rw [e] at this
        omega
    · rename_i e
      exact h.pre i hi (by
        rcases Nat.lt_succ_iff_lt_or_eq.mp q with q | q
        · exact q
        · subst q; exact absurd rfl e)
  · rcases mem_put.mp hz with e | m
    · rw [e]; exact ml
    · exact h.hs z m
theorem BrkI.done {rs : List (Str × Tb)} {t g f : Tb} (h : BrkI rs t g f rs.length) (hl : ∀ r ∈ rs, r.1 ∈ keys t) : Brk rs t f := ⟨h.nf, h.hf, fun r m nz => by
  obtain ⟨i, hi, rfl⟩ := List.getElem_of_mem m
  rw [← h.hg _ (hl _ m) nz]
  exact h.pre i hi hi⟩
/-- the very dict: n rows seen -/
def brkGo (rs : List (Str × Tb)) (τ : Tb) : Nat → Tb × Tb
  | 0 => (τ, [])
  | n + 1 => match rs[n]? with
    | some r => if val (brkGo rs τ n).1 r.1 < low r.2 τ then (putT (brkGo rs τ n).1 r.1 (low r.2 τ), putT (brkGo rs τ n).2 r.1 n) else brkGo rs τ n
    | none => brkGo rs τ n
def brkF (rs : List (Str × Tb)) (τ : Tb) : Tb := (brkGo rs τ rs.length).2
end Pu
set_option Elab.async false
set_option linter.all false
set_option maxRecDepth 100000
set_option maxHeartbeats 4000000
namespace Pu
open L2 PySem PySem.Spec PyProof.Rows E10
open He (ga ma)
local macro_rules | `(tactic| walk_at "pu wq1") => `(tactic| first | ((with_reducible apply wo_var); next => rfl) | with_reducible refine wo_c ?_ | with_reducible refine wo_op ?_ | with_reducible refine wo_call ?_ | with_reducible refine wa_cons ?_ | with_reducible refine wa_nil ?_ | with_reducible refine wo_eq add_ii ?_ | with_reducible refine wo_eq sub_ii ?_ | with_reducible refine wo_eq le_ii ?_ | with_reducible refine wo_eq lt_ii ?_ | with_reducible refine wo_eq gt_ii ?_ | with_reducible refine wo_eq eq_ii ?_ | with_reducible refine ws_seq ?_ | with_reducible refine ws_set ?_ | ((with_reducible apply st1); next => ((try simp only [List.set_cons_zero, List.set_cons_succ]); first | done | rfl)) | with_reducible refine ws_ret ?_ | with_reducible refine ws_drop ?_ | with_reducible refine ws_next ?_ | with_reducible refine ws_for ?_ | with_reducible refine wt_test ?_ | with_reducible refine isB ?_ | with_reducible refine isV ?_ | with_reducible refine isI ?_ | with_reducible refine bi_tt ?_ | with_reducible refine bi_ff ?_ | with_reducible refine bi_not ?_ | with_reducible refine bi_bneF ?_ | with_reducible refine bi_bneT ?_ | ((with_reducible refine bi_T ?_ ?_); next => assumption) | ((with_reducible refine bi_F ?_ ?_); next => assumption) | ((with_reducible refine bi_dT ?_ ?_); next => assumption) | ((with_reducible refine bi_dF ?_ ?_); next => assumption) | with_reducible refine wt_not ?_ | with_reducible refine wt_and ?_ | with_reducible refine wt_or ?_ | with_reducible refine wt_yes ?_ | with_reducible refine wo_andV ?_ | with_reducible refine wo_orV ?_ | with_reducible refine wo_notV ?_ | with_reducible refine wo_if ?_ | with_reducible refine wo_chain ?_ | with_reducible refine wo_seq ?_ | with_reducible refine wo_lstC ?_ | with_reducible refine isVs1 ?_ | with_reducible refine isVs0 ?_ | with_reducible refine isVsA ?_ | with_reducible refine isVsM ?_ | ((with_reducible refine few1 ?_ ?_); next => (first | decide | (simp only [List.length_map, List.length_append, List.length_cons, List.length_nil]; omega))) | with_reducible refine wo_fld ?_ | with_reducible refine wo_meth ?_ | with_reducible refine wo_prop ?_ | with_reducible refine isO ?_ | with_reducible refine wo_callO ?_ | with_reducible refine wo_mk ?_ | with_reducible refine wo_frz ?_ | with_reducible refine wo_frzv ?_ | with_reducible refine wo_drop ?_ | ((with_reducible apply wo_fldv); next => rfl) | ((with_reducible apply noF); next => rfl) | with_reducible refine isC1 ?_ | ((with_reducible refine leM ?_ ?_); next => (first | exact Nat.le_refl _ | exact pot_le (by assumption) (by assumption))) | ((with_reducible apply wo_isi (c := true)); (next => rfl); (next => decide); (next => decide)) | ((with_reducible apply wo_isi (c := false)); (next => rfl); (next => decide); (next => decide)) | ((with_reducible refine wo_isiO1 ?_ ?_); next => simp) | ((with_reducible refine wo_isiOb ?_ ?_ ?_); (next => simp); (next => simp)) | ((with_reducible apply wo_isibO); (next => rfl); (next => simp)) | ((with_reducible refine wo_eqO ?_ ?_); next => simp) | ((with_reducible refine wo_neO ?_ ?_); next => simp) | with_reducible refine wo_own2 ?_ | with_reducible refine wo_ownI ?_ | with_reducible refine wo_iown ?_ | with_reducible refine wo_ixO ?_ | with_reducible refine wo_inO ?_ | with_reducible refine wi_any ?_ | with_reducible refine wi_vals ?_ | with_reducible refine wi_items ?_ | with_reducible refine wi_rg1 ?_ | with_reducible refine wo_lc ?_ | with_reducible refine wo_dc ?_ | ((with_reducible apply wo_lock); next => rfl) | ((with_reducible apply ws_lock); next => rfl) | with_reducible refine ws_par ?_ | with_reducible refine is2 ?_ | with_reducible refine ws_par3 ?_ | with_reducible refine is3 ?_ | with_reducible refine ws_asg ?_ | with_reducible refine wo_un ?_ | with_reducible refine wo_eq neg_i ?_ | with_reducible refine wo_eq eq_bb ?_ | with_reducible refine wo_eq eq_ss ?_ | with_reducible refine wo_eq max_ii ?_ | with_reducible refine wo_eq min_ii ?_ | with_reducible refine lew_v ?_ | with_reducible refine wo_bm ?_ | with_reducible refine wo_sl ?_ | with_reducible refine wq_none ?_ | with_reducible refine wq_some ?_ | with_reducible refine wo_ok ?_ | with_reducible refine ws_nx ?_ | with_reducible refine wo_get2 ?_ | ((with_reducible refine wo_eq (mul_ii ?_) ?_); next => (first | exact .inl (by decide) | exact .inr (by decide))) | ((with_reducible refine wo_eq (mod_ii ?_) ?_); next => decide) | ((with_reducible refine wo_eq (div_ii ?_) ?_); next => decide) | ((with_reducible refine wo_eq (pow_ii ?_) ?_); next => decide))
local macro_rules | `(tactic| walk_at "pu wp1") => `(tactic| first | walk_at "pu wq1" | with_reducible refine ws_if ?_)
local macro_rules | `(tactic| walk_at "pu wp") => `(tactic| repeat walk_at "pu wp1")
local macro_rules | `(tactic| walk_at "pu wq") => `(tactic| repeat walk_at "pu wq1")
local macro_rules | `(tactic| walk_at "pu wdef") => `(tactic| (apply wo_def rfl; next => ((try simp only [List.map_cons, List.map_nil, List.replicate_succ, List.replicate_zero, List.cons_append, List.nil_append, List.append_nil, List.length_cons, List.length_nil, Nat.reduceAdd, Nat.reduceSub]); first | done | rfl)))
local macro_rules | `(tactic| walk_at "pu wdone") => `(tactic| exact ⟨rfl, by first | rfl | exact List.take_length⟩)
/-! ### the times at which holds let the moments stay -/
def hrow (rs : List (Str × Tb)) (h : Str → Option Nat) (z : Str) : Tb := match h z with
  | some p => ((rs[p]?).map (·.2)).getD []
  | none => []
def seenB (τ s : Tb) : List Int := ((keys s).filter fun z => decide (z ∈ keys τ)).map fun z => val τ z + val s z
theorem mem_seen {τ s : Tb} {b : Int} : b ∈ seenB τ s ↔ ∃ a ∈ keys s, a ∈ keys τ ∧ val τ a + val s a = b := by
  unfold seenB
  simp only [List.mem_map, List.mem_filter, decide_eq_true_eq]
  exact ⟨fun ⟨a, ⟨h1, h2⟩, e⟩ => ⟨a, h1, h2, e⟩, fun ⟨a, h1, h2, e⟩ => ⟨a, ⟨h1, h2⟩, e⟩⟩
structure HT (ns : List Str) (rs : List (Str × Tb)) (f T : Str → Int) (h : Str → Option Nat) (τ : Tb) : Prop where
  nd : (keys τ).Nodup
  sub : ∀ z ∈ keys τ, z ∈ ns
  no : ∀ m ∈ ns, h m = none → m ∈ keys τ ∧ val τ m = f m
  by_ : ∀ m ∈ keys τ, (h m).isSome = true → ∃ a ∈ keys (hrow rs h m), a ∈ keys τ ∧ val τ a + val (hrow rs h m) a ≤ val τ m
  lo : ∀ m ∈ keys τ, T m ≤ val τ m
def mu (ns : List Str) (T : Str → Int) (τ : Tb) : Nat × Nat := (ns.length - τ.length, (ns.map fun m => (val τ m - T m).toNat).sum)
def LexN (a b : Nat × Nat) : Prop := a.1 < b.1 ∨ (a.1 = b.1 ∧ a.2 < b.2)
theorem LexN.trans {a b c : Nat × Nat} (h : LexN a b) (k : LexN b c) : LexN a c := by
  unfold LexN at *
  omega
theorem sumN_le {α : Type} {f g : α → Nat} : ∀ {l : List α}, (∀ x ∈ l, f x ≤ g x) → (l.map f).sum ≤ (l.map g).sum
  | [], _ => Nat.le_refl _
  | a :: l, h => by
    rw [List.map_cons, List.map_cons, List.sum_cons, List.sum_cons]
    have := h a List.mem_cons_self
    have := sumN_le (l := l) fun x m => h x (List.mem_cons_of_mem _ m)
    omega
theorem sumN_lt {α : Type} {f g : α → Nat} : ∀ {l : List α}, (∀ x ∈ l, f x ≤ g x) → (∃ x ∈ l, f x < g x) → (l.map f).sum < (l.map g).sum
  | [], _, ⟨_, m, _⟩ => by cases m
  | a :: l, h, ⟨x, m, lt⟩ => by
    rw [List.map_cons, List.map_cons, List.sum_cons, List.sum_cons]
    have h1 := h a List.mem_cons_self
    have h2 := sumN_le (l := l) fun x m => h x (List.mem_cons_of_mem _ m)
    rcases List.mem_cons.mp m with rfl | m
    · omega
    · have := sumN_lt (l := l) (fun x m => h x (List.mem_cons_of_mem _ m)) ⟨x, m, lt⟩
      omega
theorem HT.put {ns : List Str} {rs : List (Str × Tb)} {f T : Str → Int} {h : Str → Option Nat} {τ : Tb} (H : HT ns rs f T h τ) (nn : ns.Nodup) (ed : ∀ m ∈ ns, (h m).isSome = true → ∀ a ∈ keys (hrow rs h m), T m ≤ T a + val (hrow rs h m) a)
    {m : Str} (mm : m ∈ ns) (hm : (h m).isSome = true) (ne : seenB τ (hrow rs h m) ≠ []) (c : m ∉ keys τ ∨ minL (seenB τ (hrow rs h m)) < val τ m) :
    HT ns rs f T h (putT τ m (minL (seenB τ (hrow rs h m)))) ∧ LexN (mu ns T (putT τ m (minL (seenB τ (hrow rs h m))))) (mu ns T τ) := by
  obtain ⟨a0, ka0, ta0, eb⟩ := mem_seen.mp (minL_mem ne)
  generalize hb : minL (seenB τ (hrow rs h m)) = b at *
  have vp := val_put H.nd m b
  have lt : T m ≤ b := by
    have := ed m mm hm a0 ka0
    have := H.lo a0 ta0
    omega
  have le : ∀ z ∈ keys τ, val (putT τ m b) z ≤ val τ z := fun z hz => by
    rw [vp]
    split
    · rename_i e
      subst e
      rcases c with c | c
      · exact absurd hz c
      · omega
    · exact Int.le_refl _
  refine ⟨⟨put_nd H.nd _ _, fun z hz => ?_, fun z hz e => ?_, fun z hz hs => ?_, fun z hz => ?_⟩, ?_⟩
  · rcases mem_put.mp hz with e | hz
    · rw [e]; exact mm
    · exact H.sub z hz
  · have n1 : z ≠ m := fun e2 => by rw [e2] at e; rw [e] at hm; cases hm
    obtain ⟨u, v⟩ := H.no z hz e
    exact ⟨mem_put.mpr (.inr u), by rw [vp, if_neg n1]; exact v⟩
  · by_cases e : z = m
    · subst e
      refine ⟨a0, ka0, mem_put.mpr (.inr ta0), ?_⟩
      rw [vp z, if_pos rfl]
      have := le a0 ta0
      omega
    · obtain ⟨a, u, v, q⟩ := H.by_ z ((mem_put.mp hz).resolve_left e) hs
      refine ⟨a, u, mem_put.mpr (.inr v), ?_⟩
      rw [vp z, if_neg e]
      have := le a v
      omega
  · rw [vp]
    split
    · rename_i e; subst e; exact lt
    · rename_i e; exact H.lo z ((mem_put.mp hz).resolve_left e)
  · unfold LexN mu
    by_cases k : m ∈ keys τ
    · have c := c.resolve_left (fun n => n k)
      refine .inr ⟨by show ns.length - (putT τ m b).length = ns.length - τ.length; rw [← len_keys, put_keys, if_pos k, len_keys], ?_⟩
      refine sumN_lt (fun z hz => ?_) ⟨m, mm, ?_⟩
      · rw [vp]
        split
        · rename_i e; subst e; omega
        · exact Nat.le_refl _
      · rw [vp, if_pos rfl]
        have := H.lo m k
        omega
    · refine .inl ?_
      show ns.length - (putT τ m b).length < ns.length - τ.length
      have e : (putT τ m b).length = τ.length + 1 := by rw [← len_keys, put_keys, if_neg k, List.length_append, len_keys]; rfl
      have : (keys τ).length < ns.length := by
        refine Nat.lt_of_not_le fun ge => k ?_
        have pm : (m :: keys τ).Nodup := List.nodup_cons.mpr ⟨k, H.nd⟩
        have := nodup_le pm (show ∀ z ∈ m :: keys τ, z ∈ ns from fun z hz => (List.mem_cons.mp hz).elim (fun e => e ▸ mm) (H.sub z))
        rw [List.length_cons] at this
        omega
      rw [len_keys] at this
      omega
theorem HT.start {ns : List Str} {rs : List (Str × Tb)} {fl : Tb} {T : Str → Int} {h : Str → Option Nat} (nn : ns.Nodup) (hT : ∀ m ∈ ns, h m = none → T m = val fl m) :
    HT ns rs (val fl) T h ((ns.filter fun z => !(h z).isSome).map fun z => (z, val fl z)) := by
  have ke : keys ((ns.filter fun z => !(h z).isSome).map fun z => (z, val fl z)) = ns.filter fun z => !(h z).isSome := by
    unfold keys
    rw [List.map_map]
    exact List.map_id _
  have nd : (keys ((ns.filter fun z => !(h z).isSome).map fun z => (z, val fl z))).Nodup := by rw [ke]; exact nn.filter _
  have mk : ∀ z, z ∈ keys ((ns.filter fun z => !(h z).isSome).map fun z => (z, val fl z)) ↔ z ∈ ns ∧ h z = none := fun z => by
    rw [ke, List.mem_filter]
    cases h z <;> simp
  have vl : ∀ z, z ∈ ns ∧ h z = none → val ((ns.filter fun z => !(h z).isSome).map fun z => (z, val fl z)) z = val fl z := fun z hz => val_at nd (List.mem_map.mpr ⟨z, by rw [← ke]; exact (mk z).mpr hz, rfl⟩)
  refine ⟨nd, fun z hz => ((mk z).mp hz).1, fun z hz e => ⟨(mk z).mpr ⟨hz, e⟩, vl z ⟨hz, e⟩⟩, fun z hz e => ?_, fun z hz => ?_⟩
  · have := ((mk z).mp hz).2
    rw [this] at e
    cases e
  · have m := (mk z).mp hz
    rw [vl z m, hT z m.1 m.2]
    exact Int.le_refl _
section
variable {Pg : Program} {w : World} {K : PySem.W.Frag} {μ : Μ} {ns : List Str} {rs : List (Str × Tb)} {fl : Tb} {T : Str → Int} {h : Str → Option Nat}
theorem at0 {a : PC} : (μ ++ [a])[μ.length]? = some a := by rw [List.getElem?_append_right (Nat.le_refl _), Nat.sub_self]; rfl
def UpAt (rs : List (Str × Tb)) (h : Str → Option Nat) (τ : Tb) (m : Str) : Prop := ∀ a ∈ keys (hrow rs h m), a ∈ keys τ → m ∈ keys τ ∧ val τ m ≤ val τ a + val (hrow rs h m) a
theorem UpAt.nil {τ : Tb} {m : Str} (e : seenB τ (hrow rs h m) = []) : UpAt rs h τ m := fun a ma ta => by
  have : val τ a + val (hrow rs h m) a ∈ seenB τ (hrow rs h m) := mem_seen.mpr ⟨a, ma, ta, rfl⟩
  rw [e] at this
  cases this
/-- one turn of the walk over the held ones, as it is -/
def hcond (rs : List (Str × Tb)) (h : Str → Option Nat) (τ : Tb) (z : Str) : Prop := seenB τ (hrow rs h z) ≠ [] ∧ (z ∉ keys τ ∨ minL (seenB τ (hrow rs h z)) < val τ z)
instance {rs : List (Str × Tb)} {h : Str → Option Nat} {τ : Tb} {z : Str} : Decidable (hcond rs h τ z) := by unfold hcond; infer_instance
def hupd (rs : List (Str × Tb)) (h : Str → Option Nat) (τ : Tb) (z : Str) : Tb := if hcond rs h τ z then putT τ z (minL (seenB τ (hrow rs h z))) else τ
def hpass (rs : List (Str × Tb)) (h : Str → Option Nat) (hl : List Str) (τ : Tb) : Tb := hl.foldl (hupd rs h) τ
def hrep (rs : List (Str × Tb)) (h : Str → Option Nat) (hl : List Str) (τ : Tb) : Nat → Tb
  | 0 => τ
  | n + 1 => hpass rs h hl (hrep rs h hl τ n)
def hfin (rs : List (Str × Tb)) (h : Str → Option Nat) (hl : List Str) (τ : Tb) : Prop := ∀ z ∈ hl, ¬ hcond rs h τ z
/-- the very times -/
def CanH (rs : List (Str × Tb)) (h : Str → Option Nat) (hl : List Str) (τ0 τ : Tb) : Prop := ∃ k, τ = hrep rs h hl τ0 k ∧ hfin rs h hl τ ∧ ∀ i, i < k → ¬ hfin rs h hl (hrep rs h hl τ0 i)
def heldLs (ns : List Str) (h : Str → Option Nat) : List Str := ns.filter fun z => (h z).isSome
def heldFl (ns : List Str) (h : Str → Option Nat) (fl : Tb) : Tb := (ns.filter fun z => !(h z).isSome).map fun z => (z, val fl z)
def UpH (ns : List Str) (rs : List (Str × Tb)) (h : Str → Option Nat) (τ : Tb) : Prop := ∀ m ∈ ns, (h m).isSome = true → ∀ a ∈ keys (hrow rs h m), a ∈ keys τ → m ∈ keys τ ∧ val τ m ≤ val τ a + val (hrow rs h m) a
end
end Pu
set_option Elab.async false
set_option linter.all false
set_option maxRecDepth 100000
set_option maxHeartbeats 4000000
namespace Pu
open L2 PySem PySem.Spec PyProof.Rows E10
open He (ga ma)
/-! ### settled: the least times -/
/-- a run, as a function -/
def RunF (rs : List (Str × Tb)) (x : Str → Int) : Prop := ∀ r ∈ rs, KbF r.2 x (x r.1)
/-- what comes of it -/
structure Stl (ns : List Str) (rs : List (Str × Tb)) (f : Str → Int) (h : Str → Option Nat) (τ : Tb) : Prop where
  nd : (keys τ).Nodup
  sub : ∀ z ∈ keys τ, z ∈ ns
  hh : ∀ z ∈ ns, ∀ p, h z = some p → ∃ r, rs[p]? = some r ∧ r.1 = z
  full : (∀ m ∈ ns, m ∈ keys τ) → (∀ x, RunF rs x → (∀ m ∈ ns, f m ≤ x m) → ∀ m ∈ ns, val τ m ≤ x m) ∧ ∃ ρ, Full ns rs f (val τ) h ρ
  part : (∃ m ∈ ns, m ∉ keys τ) → (∀ x, RunF rs x → ¬ ∀ m ∈ ns, f m ≤ x m) ∧ UpH ns rs h τ ∧ ∃ T ρ, Half ns rs f T h ρ ∧ HT ns rs f T h τ
theorem Stl.start {ns : List Str} {rs : List (Str × Tb)} {fl : Tb} (nd : (keys fl).Nodup) (kf : ∀ z, z ∈ ns ↔ z ∈ keys fl) : Stl ns rs (val fl) (fun _ => none) fl :=
  ⟨nd, fun z m => (kf z).mpr m, (fun z m p e => by cases e), (fun _ => ⟨fun x _ h => h, fun _ => 0, ⟨⟨fun _ _ => Int.le_refl _, fun _ _ _ => rfl, (fun _ _ _ e => by cases e)⟩, (fun _ _ _ _ e => by cases e)⟩⟩), fun ⟨m, mm, n⟩ => absurd ((kf m).mp mm) n⟩
def newH (h : Str → Option Nat) (f : Tb) (z : Str) : Option Nat := if z ∈ keys f then some (val f z).toNat else h z
/-- the very times and holds: n steps -/
inductive SetC (ns : List Str) (rs : List (Str × Tb)) (fl : Tb) : Nat → Tb → (Str → Option Nat) → Prop
  | zero : SetC ns rs fl 0 fl (fun _ => none)
  | succ {n : Nat} {τ τ' : Tb} {h : Str → Option Nat} : SetC ns rs fl n τ h → τ.length = fl.length → brkF rs τ ≠ [] → CanH rs (newH h (brkF rs τ)) (heldLs ns (newH h (brkF rs τ))) (heldFl ns (newH h (brkF rs τ)) fl) τ' → SetC ns rs fl (n + 1) τ' (newH h (brkF rs τ))
theorem SetC.pre {ns : List Str} {rs : List (Str × Tb)} {fl : Tb} : ∀ {n : Nat} {τ : Tb} {h : Str → Option Nat}, SetC ns rs fl n τ h → ∀ k, k < n → ∃ τ h, SetC ns rs fl k τ h ∧ τ.length = fl.length ∧ brkF rs τ ≠ []
  | n + 1, _, _, .succ a l b _, k, lt => by
    by_cases e : k = n
    · subst e; exact ⟨_, _, a, l, b⟩
    · exact SetC.pre a k (by omega)
end Pu
set_option Elab.async false
set_option linter.all false
set_option maxRecDepth 100000
set_option maxHeartbeats 4000000
set_option Elab.async false
set_option linter.all false
set_option maxRecDepth 100000
set_option maxHeartbeats 4000000
namespace Pu
open L2 PySem PySem.Spec PyProof.Rows E10
open He (ga ma)
/-! ### least runs, and lifting -/
theorem Bo.rw {ns : List Str} {rs : List (Str × Tb)} (hb : Bo ns rs) : ∀ r ∈ rs, Rw ns r := fun r m => ⟨(hb.ru r m).so.ne, (hb.ru r m).so.nd, Nat.le_trans (hb.ru r m).so.le (by decide), (hb.sub r m).1, (hb.sub r m).2⟩
end Pu
set_option Elab.async false
set_option linter.all false
set_option maxRecDepth 100000
set_option maxHeartbeats 4000000
set_option Elab.async false
set_option linter.all false
set_option maxRecDepth 100000
set_option maxHeartbeats 4000000
set_option Elab.async false
set_option linter.all false
set_option maxRecDepth 100000
set_option maxHeartbeats 4000000
namespace Pu
open L2 PySem PySem.Spec PyProof.Rows E10
/-! ### the text of a table -/
theorem char_abc {c : Nat} (h : 97 ≤ c ∧ c ≤ 122) : Builtin.Str.reprChar 39 c = [c] := by
  have all : ∀ k : Fin 26, Builtin.Str.reprChar 39 (97 + k.val) = [97 + k.val] := by decide +kernel
  have := all ⟨c - 97, by omega⟩
  have e : 97 + (c - 97) = c := by omega
  simp only [e] at this
  exact this
theorem fold_abc : ∀ (l : List Nat) (acc : Array Nat), (∀ c ∈ l, 97 ≤ c ∧ c ≤ 122) → l.foldl (fun out c => out ++ (Builtin.Str.reprChar 39 c).toArray) acc = acc ++ l.toArray
  | [], acc, _ => by simp
  | c :: l, acc, h => by
    rw [List.foldl_cons, char_abc (h c List.mem_cons_self), fold_abc l _ fun d hd => h d (List.mem_cons_of_mem _ hd)]
    simp
theorem quote_abc {z : Str} (h : Nm z) : reprQuote z = 39 := by
  have n : z.cps.contains 39 = false := by
    rw [Bool.eq_false_iff]
    intro q
    have m : 39 ∈ z.cps.toList := by
      rw [Array.contains_iff_mem] at q
      exact Array.mem_toList_iff.mpr q
    have := h.az 39 m
    omega
  unfold reprQuote
  rw [n]
  rfl
theorem repr_abc {z : Str} (h : Nm z) : reprText z = (("'" : String) : Str) ++ z ++ (("'" : String) : Str) := by
  unfold reprText
  rw [quote_abc h, ← Array.foldl_toList, fold_abc _ _ h.az]
  refine Str.ext' ?_
  rw [Str.cps_append, Str.cps_append]
  show ((#[39] ++ z.cps.toList.toArray).push 39) = #[39] ++ z.cps ++ #[39]
  simp
theorem repr_abc_len {z : Str} (h : Nm z) : (reprText z).length ≤ 10 := by
  rw [repr_abc h, strLen_append, strLen_append]
  have e1 : (("'" : String) : Str).length = 1 := rfl
  have := h.hi
  omega
theorem t_nm {z : Str} (h : Nm z) : tiny (.str z) = some (.str z) := if_pos (Nat.le_trans (repr_abc_len h) (by decide))
theorem t_big {i : Int} (h : i.natAbs < 10 ^ 70) : tiny (.int i) = some (.int i) := if_pos h
def txtT (t : Tb) : Str := (PyData.dict (t.map fun p => (PyData.str p.1, PyData.int p.2))).shown
/-- its names and numbers are not too great to be shown here -/
def Sm (t : Tb) : Prop := ∀ p ∈ t, Nm p.1 ∧ p.2.natAbs < 10 ^ 70
theorem tiny_tb : ∀ {t : Tb}, Sm t → Paired TinyP (t.map fun p => ((Sum.inr p.1 : Key), V.int p.2)) (t.map fun p => (PyData.str p.1, PyData.int p.2))
  | [], _ => .nil
  | p :: t, h => .cons ⟨t_nm (h p List.mem_cons_self).1, t_big (h p List.mem_cons_self).2⟩ (tiny_tb fun q m => h q (List.mem_cons_of_mem _ m))
theorem txt_len {t : Tb} (h : Sm t) (l : t.length ≤ 40) : (txtT t).length ≤ 9000 := by
  obtain ⟨_, _, o3⟩ := dict_ok (tiny_tb h)
  have l1 := dictLen (PyData.shownKv (t.map fun p => (PyData.str p.1, PyData.int p.2)))
  rw [List.length_map] at o3
  show (dictText (PyData.shownKv (t.map fun p => (PyData.str p.1, PyData.int p.2)))).length ≤ _
  omega
theorem tkv_tb : ∀ {t : Tb}, Sm t → (t.map rowP).mapM tkv = some (t.map fun p => (PyData.str p.1, PyData.int p.2))
  | [], _ => rfl
  | p :: t, h => by
    have e : tkv (rowP p) = some (PyData.str p.1, PyData.int p.2) := by
      show (tinyP (.str p.1)).bind (fun a => (tinyP (.int p.2)).map fun b => (a, b)) = _
      rw [show tinyP (.str p.1) = some (.str p.1) from if_pos (Nat.le_trans (repr_abc_len (h p List.mem_cons_self).1) (by decide)), show tinyP (.int p.2) = some (.int p.2) from if_pos (h p List.mem_cons_self).2]
      rfl
    rw [List.map_cons, List.mapM_cons, e, tkv_tb fun q m => h q (List.mem_cons_of_mem _ m)]
    rfl
theorem fmtR_t {t : Tb} {μ : Μ} (h : Sm t) (l : t.length ≤ 40) : fmtRV (.v (dctP t)) μ = .ok (.v (.str (txtT t))) μ := by
  show (if (t.map rowP).length ≤ 40 then _ else _) = _
  rw [if_pos (by rw [List.length_map]; exact l), tkv_tb h]
  rfl
end Pu
set_option Elab.async false
set_option linter.all false
set_option maxRecDepth 100000
set_option maxHeartbeats 4000000
namespace Pu
open L2 PySem PySem.Spec PyProof.Rows E10
open He (ga ma)
theorem j_cons {F : EF} {R : JF} {γ : Γ} {μ m m2 : Μ} {acc y z : Str} (e : F γ μ = .ok (.v (.str y)) m) (l : (acc ++ y).length ≤ 1000000) (h : R γ m (acc ++ y) = .ok z m2) : fJCons F R γ μ acc = .ok z m2 := by
  unfold fJCons
  rw [e]
  show (if (acc ++ y).length ≤ 1000000 then _ else _) = _
  rw [if_pos l]
  exact h
theorem len_app (a b : Str) : (a ++ b).length = a.length + b.length := strLen_append a b
end Pu
set_option Elab.async false
set_option linter.all false
set_option maxRecDepth 100000
set_option maxHeartbeats 4000000
namespace Pu
open L2 PySem PySem.Spec PyProof.Rows E10
/-! ### numbers that show that there is no run -/
def rkN (S : List Str) (ρ : Str → Nat) (z : Str) : Nat := (S.filter fun y => decide (ρ y < ρ z)).length
theorem rk_lt {S : List Str} {ρ : Str → Nat} {z : Str} (m : z ∈ S) : rkN S ρ z < S.length := by
  unfold rkN
  induction S with
  | nil => cases m
  | cons a l ih =>
    rw [List.filter_cons, List.length_cons]
    rcases List.mem_cons.mp m with rfl | m
    · rw [if_neg (by simp)]
      exact Nat.lt_succ_of_le (List.length_filter_le _ _)
    · split
      · rw [List.length_cons]; exact Nat.succ_lt_succ (ih m)
      · exact Nat.lt_succ_of_lt (ih m)
theorem rk_mono {S : List Str} {ρ : Str → Nat} {a z : Str} (m : a ∈ S) (l : ρ a < ρ z) : rkN S ρ a < rkN S ρ z := by
  unfold rkN
  have le : ∀ S : List Str, (S.filter fun y => decide (ρ y < ρ a)).length ≤ (S.filter fun y => decide (ρ y < ρ z)).length := fun S => by
    induction S with
    | nil => exact Nat.le_refl _
    | cons b l ih =>
      rw [List.filter_cons, List.filter_cons]
      by_cases c : ρ b < ρ a
      · rw [if_pos (by simpa using c), if_pos (by simp; omega), List.length_cons, List.length_cons]; omega
      · rw [if_neg (by simpa using c)]
        split
        · rw [List.length_cons]; omega
        · exact ih
  induction S with
  | nil => cases m
  | cons b r ih =>
    rw [List.filter_cons, List.filter_cons]
    rcases List.mem_cons.mp m with rfl | m
    · rw [if_neg (by simp), if_pos (by simpa using l), List.length_cons]
      have := le r
      omega
    · have := ih m
      by_cases c : ρ b < ρ a
      · rw [if_pos (by simpa using c), if_pos (by simp; omega), List.length_cons, List.length_cons]; omega
      · rw [if_neg (by simpa using c)]
        split
        · rw [List.length_cons]; omega
        · exact this
/-- what a refusal is -/
structure RefT (ns : List Str) (rs : List (Str × Tb)) (S : List Str) (p : Str → Nat) (n : Str → Int) : Prop where
  ne : S ≠ []
  nd : S.Nodup
  sub : ∀ z ∈ S, z ∈ ns
  row : ∀ z ∈ S, ∃ r, rs[p z]? = some r ∧ r.1 = z ∧ ∀ a ∈ keys r.2, a ∈ S ∧ n z + 1 ≤ (S.length : Int) * val r.2 a + n a
theorem min_at {α : Type} (f : α → Int) : ∀ {l : List α}, l ≠ [] → ∃ a ∈ l, ∀ b ∈ l, f a ≤ f b
  | [a], _ => ⟨a, .head _, fun b m => by rw [List.mem_singleton.mp m]; exact Int.le_refl _⟩
  | a :: c :: r, _ => by
    obtain ⟨x, mx, hx⟩ := min_at f (l := c :: r) (by simp)
    by_cases h : f x ≤ f a
    · exact ⟨x, .tail _ mx, fun b m => (List.mem_cons.mp m).elim (fun e => e ▸ h) (hx b)⟩
    · exact ⟨a, .head _, fun b m => (List.mem_cons.mp m).elim (fun e => e ▸ Int.le_refl _) fun m => Int.le_trans (by omega) (hx b m)⟩
/-- where there is one, there is no run -/
theorem RefT.no {ns : List Str} {rs : List (Str × Tb)} {S : List Str} {p : Str → Nat} {n : Str → Int} (h : RefT ns rs S p n) {x : Str → Int} : ¬ ∀ r ∈ rs, KbF r.2 x (x r.1) := fun hx => by
  obtain ⟨z, mz, hz⟩ := min_at (fun z => (S.length : Int) * x z - n z) h.ne
  obtain ⟨r, er, e1, hr⟩ := h.row z mz
  obtain ⟨a, ma, la⟩ := hx r (List.mem_of_getElem? er)
  obtain ⟨aS, le⟩ := hr a ma
  have := hz a aS
  rw [e1] at la
  have m2 : (S.length : Int) * (x a + val r.2 a) ≤ (S.length : Int) * x z := Int.mul_le_mul_of_nonneg_left la (by omega)
  rw [Int.mul_add] at m2
  omega
end Pu
set_option Elab.async false
set_option linter.all false
set_option maxRecDepth 100000
set_option maxHeartbeats 4000000
namespace Pu
open L2 PySem PySem.Spec PyProof.Rows E10
open He (ga ma)
/-! ### refusals -/
abbrev Gn := Str × Str × Int
def sumM (S : List Str) (ψ : Str → Int) (τ : Tb) : Nat := (S.map fun z => (val τ z - ψ z).toNat).sum
/-- what stands while the numbers sink -/
structure NB (S : List Str) (gs : List Gn) (τ : Tb) : Prop where
  ks : keys τ = S
  le : ∀ z ∈ S, val τ z ≤ 0
  gr : ∀ ψ : Str → Int, (∀ z ∈ S, ψ z ≤ 0) → (∀ g ∈ gs, ψ g.1 ≤ ψ g.2.1 + g.2.2) → ∀ z ∈ S, ψ z ≤ val τ z
theorem NB.put {S : List Str} {gs : List Gn} {τ : Tb} (h : NB S gs τ) (nd : S.Nodup) {g : Gn} (mg : g ∈ gs) (m1 : g.1 ∈ S) (m2 : g.2.1 ∈ S) (lt : val τ g.2.1 + g.2.2 < val τ g.1) : NB S gs (putT τ g.1 (val τ g.2.1 + g.2.2)) := by
  have vp := val_put (t := τ) (by rw [h.ks]; exact nd) g.1 (val τ g.2.1 + g.2.2)
  refine ⟨by rw [put_keys, if_pos (by rw [h.ks]; exact m1), h.ks], fun z mz => ?_, fun ψ h0 hg z mz => ?_⟩
  · rw [vp]
    split
    · have := h.le g.1 m1; omega
    · exact h.le z mz
  · rw [vp]
    split
    · rename_i e
      subst e
      have := hg g mg
      have := h.gr ψ h0 hg g.2.1 m2
      omega
    · exact h.gr ψ h0 hg z mz
theorem NB.sum {S : List Str} {gs : List Gn} {τ : Tb} {ψ : Str → Int} (h : NB S gs τ) (nd : S.Nodup) (h0 : ∀ z ∈ S, ψ z ≤ 0) (hg : ∀ g ∈ gs, ψ g.1 ≤ ψ g.2.1 + g.2.2) {g : Gn} (mg : g ∈ gs) (m1 : g.1 ∈ S) (m2 : g.2.1 ∈ S) (lt : val τ g.2.1 + g.2.2 < val τ g.1) : sumM S ψ (putT τ g.1 (val τ g.2.1 + g.2.2)) < sumM S ψ τ := by
  have vp := val_put (t := τ) (by rw [h.ks]; exact nd) g.1 (val τ g.2.1 + g.2.2)
  have hp := h.put nd mg m1 m2 lt
  refine sumN_lt (fun z mz => ?_) ⟨g.1, m1, ?_⟩
  · have := hp.gr ψ h0 hg z mz
    rw [vp] at this ⊢
    split
    · rename_i e; subst e; omega
    · omega
  · have := hp.gr ψ h0 hg g.1 m1
    rw [vp, if_pos rfl] at this ⊢
    omega
section
variable {Pg : Program} {w : World} {K : PySem.W.Frag} {μ : Μ} {ns S : List Str} {rs : List (Str × Tb)} {h : Str → Option Nat}
theorem keysS_dn (f : Str → P) : ∀ S : List Str, keysS (dnP S f) = some S
  | [] => rfl
  | z :: S => by
    show (keysS (dnP S f)).map (z :: ·) = _
    rw [keysS_dn f S]
    rfl
/-- a value, which is None or a dict; a dict stands at a new place -/
def RefW (p : P) (v : W) (m μ : Μ) : Prop := (p = .non ∧ v = .v .non ∧ m = μ) ∨ ∃ ks, p = .dct ks ∧ v = .loc μ.length ∧ m = μ ++ [.dct ks]
theorem RefW.frz {p : P} {v : W} {m μ : Μ} (h : RefW p v m μ) : frzP μ.length v m = .ok (.v p) μ := by
  rcases h with ⟨rfl, rfl, rfl⟩ | ⟨ks, rfl, rfl, rfl⟩
  · rfl
  · unfold frzP
    simp only [List.length_append, List.length_cons, List.length_nil, Nat.zero_add, Nat.le_refl, and_self, if_true]
    rw [at0]
    show O.ok (W.v (.dct ks)) (List.take μ.length (μ ++ [.dct ks])) = _
    rw [List.take_left]
end
end Pu
set_option Elab.async false
set_option linter.all false
set_option maxRecDepth 100000
set_option maxHeartbeats 4000000
namespace Pu
open L2 PySem PySem.Spec PyProof.Rows E10
/-! ### a dict from names with any values: in, put, at a place -/
section
variable {ns : List Str} {f : Str → P} {μ m : Μ} {z : Str} {neg : Bool} {j : Nat}
theorem valP_dnN (n : z ∉ ns) : valP (dnP ns f) (Sum.inr z) = none := by
  unfold valP dnP
  rw [List.find?_map, Option.map_map, Option.map_eq_none_iff, List.find?_eq_none]
  intro y my e
  have e : decide ((Sum.inr y : Key) = Sum.inr z) = true := e
  exact n (Sum.inr.inj (of_decide_eq_true e) ▸ my)
theorem it_dnL (h : m[j]? = some (.dctL (dnP ns f))) (le : ns.length ≤ 100000) : iAnyW (.loc j) m = .ok (ns.map P.str) m := by
  unfold iAnyW
  simp only [h]
  show few ((dnP ns f).map fun kp => keyOf kp.1) m = _
  unfold dnP
  rw [few_le (by rw [List.length_map, List.length_map]; exact le), List.map_map]
  rfl
end
end Pu
set_option Elab.async false
set_option linter.all false
set_option maxRecDepth 100000
set_option maxHeartbeats 4000000
namespace Pu
open L2 PySem PySem.Spec PyProof.Rows E10
open He (ga ma)
/-! ### whys -/
/-- a sequence of moments, each held behind the ones that hold it -/
structure Sq (ns : List Str) (rs : List (Str × Tb)) (h : Str → Option Nat) (T : Str → Int) (sq : List Str) : Prop where
  nd : sq.Nodup
  sub : ∀ z ∈ sq, z ∈ ns
  no : ∀ z ∈ ns, h z = none → z ∈ sq
  ok : ∀ i z, sq[i]? = some z → (h z).isSome = true → ∀ a ∈ keys (hrow rs h z), T z < T a + val (hrow rs h z) a ∨ a ∈ sq.take i
theorem Sq.snoc {ns : List Str} {rs : List (Str × Tb)} {h : Str → Option Nat} {T : Str → Int} {sq : List Str} (H : Sq ns rs h T sq) {z : Str} (mz : z ∈ ns) (nz : z ∉ sq) (hz : ∀ a ∈ keys (hrow rs h z), T z < T a + val (hrow rs h z) a ∨ a ∈ sq) : Sq ns rs h T (sq ++ [z]) := by
  refine ⟨List.nodup_append.mpr ⟨H.nd, List.pairwise_singleton .., fun a ma b mb e => nz (by rw [List.mem_singleton.mp mb] at e; exact e ▸ ma)⟩, fun y my => ?_, fun y my e => List.mem_append.mpr (.inl (H.no y my e)), fun i y e hy a ma => ?_⟩
  · rcases List.mem_append.mp my with my | my
    · exact H.sub y my
    · rw [List.mem_singleton.mp my]; exact mz
  · by_cases c : i < sq.length
    · rw [List.getElem?_append_left c] at e
      rw [List.take_append_of_le_length (by omega)]
      exact H.ok i y e hy a ma
    · have ei : i = sq.length := by
        have := (List.getElem?_eq_some_iff.mp e).1
        rw [List.length_append] at this
        simp at this
        omega
      subst ei
      rw [List.getElem?_append_right (Nat.le_refl _), Nat.sub_self] at e
      obtain rfl : z = y := Option.some.inj e
      rw [List.take_left]
      exact hz a ma
/-- the very sequence -/
def scond (rs : List (Str × Tb)) (h : Str → Option Nat) (τ : Tb) (sq : List Str) (z : Str) : Prop := z ∉ sq ∧ ((keys (hrow rs h z)).map fun a => decide (a ∈ sq ∨ val τ z < val τ a + val (hrow rs h z) a)).all id = true
instance {rs : List (Str × Tb)} {h : Str → Option Nat} {τ : Tb} {sq : List Str} {z : Str} : Decidable (scond rs h τ sq z) := by unfold scond; infer_instance
end Pu
set_option Elab.async false
set_option linter.all false
set_option maxRecDepth 100000
set_option maxHeartbeats 4000000
set_option Elab.async false
set_option linter.all false
set_option maxRecDepth 100000
set_option maxHeartbeats 4000000
set_option Elab.async false
set_option linter.all false
set_option maxRecDepth 100000
set_option maxHeartbeats 4000000
namespace Pu
open L2 PySem PySem.Spec PyProof.Rows E10
/-! ### floors for some alone: the others' are so low that they don't count -/
/-- the times are a run that holds itself at floors: f where Z, far below otherwise -/
structure Low (ns : List Str) (rs : List (Str × Tb)) (Z : Str → Prop) (f T : Str → Int) (h : Str → Option Nat) (ρ : Str → Nat) (least mx : Int) : Prop where
  m0 : 0 ≤ mx
  sh : ∀ r ∈ rs, ∀ a ∈ keys r.2, -mx ≤ val r.2 a ∧ val r.2 a ≤ mx
  sub : ∀ r ∈ rs, r.1 ∈ ns ∧ ∀ a ∈ keys r.2, a ∈ ns
  run : ∀ r ∈ rs, KbF r.2 T (T r.1)
  fl : ∀ z ∈ ns, Z z → f z ≤ T z
  no : ∀ z ∈ ns, h z = none → (Z z ∧ T z = f z) ∨ (¬ Z z ∧ T z = least - 2 * ((ns.length : Int) * mx + 1))
  lf : ∀ z ∈ ns, Z z → least ≤ f z
  ed : ∀ m ∈ ns, ∀ p, h m = some p → ∃ r, rs[p]? = some r ∧ r.1 = m ∧ Edge T ρ m r
  ti : ∀ m ∈ ns, ∀ p r, h m = some p → rs[p]? = some r → ∃ a ∈ keys r.2, T a + val r.2 a ≤ T m
/-- earlier than halfway -/
def looseT (n : Nat) (T : Str → Int) (least mx : Int) (z : Str) : Prop := T z < least - ((n : Int) * mx + 1)
instance {n : Nat} {T : Str → Int} {least mx : Int} {z : Str} : Decidable (looseT n T least mx z) := by unfold looseT; infer_instance
section
variable {ns : List Str} {rs : List (Str × Tb)} {Z : Str → Prop} {f T x : Str → Int} {h : Str → Option Nat} {ρ : Str → Nat} {least mx : Int}
theorem Low.two (L : Low ns rs Z f T h ρ least mx) : ∀ m ∈ ns, (least - (rkN ns ρ m : Nat) * mx ≤ T m) ∨ (T m ≤ least - 2 * ((ns.length : Int) * mx + 1) + (rkN ns ρ m : Nat) * mx) := by
  have go : ∀ k, ∀ m ∈ ns, ρ m = k → (least - (rkN ns ρ m : Nat) * mx ≤ T m) ∨ (T m ≤ least - 2 * ((ns.length : Int) * mx + 1) + (rkN ns ρ m : Nat) * mx) := by
    intro k
    induction k using Nat.strongRecOn with
    | _ k ih =>
      intro m mm ek
      have nn : 0 ≤ ((rkN ns ρ m : Nat) : Int) * mx := Int.mul_nonneg (by omega) L.m0
      cases eh : h m with
      | none =>
        rcases L.no m mm eh with ⟨hz, e⟩ | ⟨hz, e⟩
        · have := L.lf m mm hz
          exact .inl (by omega)
        · exact .inr (by omega)
      | some p =>
        obtain ⟨r, er, e1, hE⟩ := L.ed m mm p eh
        obtain ⟨a, ma, la⟩ := L.ti m mm p r eh er
        have mr := List.mem_of_getElem? er
        have an := (L.sub r mr).2 a ma
        obtain ⟨s1, s2⟩ := L.sh r mr a ma
        rcases hE a ma with l | ⟨e, l⟩
        · omega
        · have rk := rk_mono (S := ns) an l
          have key : ((rkN ns ρ a : Nat) : Int) * mx + mx ≤ ((rkN ns ρ m : Nat) : Int) * mx := by
            have : (((rkN ns ρ a : Nat) : Int) + 1) * mx ≤ ((rkN ns ρ m : Nat) : Int) * mx := Int.mul_le_mul_of_nonneg_right (by omega) L.m0
            rw [Int.add_mul, Int.one_mul] at this
            exact this
          rcases ih (ρ a) (by omega) a an rfl with q | q
          · exact .inl (by omega)
          · exact .inr (by omega)
  exact fun m mm => go _ m mm rfl
theorem Low.gap (L : Low ns rs Z f T h ρ least mx) {m : Str} (mm : m ∈ ns) : (¬ looseT ns.length T least mx m ∧ least - (ns.length : Int) * mx + mx ≤ T m) ∨ (looseT ns.length T least mx m ∧ T m ≤ least - 2 * ((ns.length : Int) * mx + 1) + (ns.length : Int) * mx - mx) := by
  have rk := rk_lt (ρ := ρ) mm
  have key : ((rkN ns ρ m : Nat) : Int) * mx + mx ≤ (ns.length : Int) * mx := by
    have : (((rkN ns ρ m : Nat) : Int) + 1) * mx ≤ (ns.length : Int) * mx := Int.mul_le_mul_of_nonneg_right (by omega) L.m0
    rw [Int.add_mul, Int.one_mul] at this
    exact this
  have m0 := L.m0
  have nn : 0 ≤ (ns.length : Int) * mx := Int.mul_nonneg (by omega) m0
  unfold looseT
  rcases L.two m mm with q | q
  · exact .inl ⟨by omega, by omega⟩
  · exact .inr ⟨by omega, by omega⟩
/-- what is not loose is least of all -/
theorem Low.most (L : Low ns rs Z f T h ρ least mx) (hx : ∀ r ∈ rs, KbF r.2 x (x r.1)) (fx : ∀ z ∈ ns, Z z → f z ≤ x z) : ∀ z ∈ ns, ¬ looseT ns.length T least mx z → T z ≤ x z := by
  refine fun z0 m0 n0 => Decidable.byContradiction fun c0 => ?_
  let V := ns.filter fun z => decide (¬ looseT ns.length T least mx z ∧ x z < T z)
  have mV : ∀ z, z ∈ V ↔ z ∈ ns ∧ ¬ looseT ns.length T least mx z ∧ x z < T z := fun z => by
    show z ∈ ns.filter _ ↔ _
    rw [List.mem_filter, decide_eq_true_eq]
  have ne : V ≠ [] := fun e => by
    have := (mV z0).mpr ⟨m0, n0, by omega⟩
    rw [e] at this
    cases this
  obtain ⟨M, hM⟩ : ∃ M : Int, ∀ z ∈ ns, ((ρ z : Nat) : Int) < M := by
    obtain ⟨y, _, hy⟩ := max_at (fun z => ((ρ z : Nat) : Int)) (show ns ≠ [] from fun e => by rw [e] at m0; cases m0)
    exact ⟨((ρ y : Nat) : Int) + 1, fun z m => by have := hy z m; omega⟩
  obtain ⟨z, mz, hz⟩ := max_at (fun z => (T z - x z) * M - ((ρ z : Nat) : Int)) ne
  obtain ⟨zn, nz, lz⟩ := (mV z).mp mz
  have mp : 0 < M := by have := hM z zn; omega
  cases eh : h z with
  | none =>
    rcases L.no z zn eh with ⟨hZ, e⟩ | ⟨hZ, e⟩
    · have := fx z zn hZ
      omega
    · have nn : 0 ≤ (ns.length : Int) * mx := Int.mul_nonneg (by omega) L.m0
      refine nz ?_
      unfold looseT
      omega
  | some p =>
    obtain ⟨r, er, e1, hE⟩ := L.ed z zn p eh
    have mr := List.mem_of_getElem? er
    obtain ⟨a, ma, la⟩ := hx r mr
    rw [e1] at la
    have an := (L.sub r mr).2 a ma
    obtain ⟨s1, s2⟩ := L.sh r mr a ma
    have up : T z ≤ T a + val r.2 a := by
      rcases hE a ma with q | ⟨q, _⟩ <;> omega
    have na : ¬ looseT ns.length T least mx a := fun q => by
      rcases L.gap an with ⟨n, _⟩ | ⟨_, q2⟩
      · exact n q
      · refine nz ?_
        unfold looseT
        have m0 := L.m0
        have nn : 0 ≤ (ns.length : Int) * mx := Int.mul_nonneg (by omega) m0
        omega
    have mA : a ∈ V := (mV a).mpr ⟨an, na, by omega⟩
    have h1 := hz a mA
    have ra := hM a an
    rcases hE a ma with q | ⟨q, l⟩
    · have : (T z - x z + 1) * M ≤ (T a - x a) * M := Int.mul_le_mul_of_nonneg_right (by omega) (by omega)
      rw [Int.add_mul, Int.one_mul] at this
      omega
    · have : (T z - x z) * M ≤ (T a - x a) * M := Int.mul_le_mul_of_nonneg_right (by omega) (by omega)
      omega
end
end Pu
set_option Elab.async false
set_option linter.all false
set_option maxRecDepth 100000
set_option maxHeartbeats 4000000
set_option Elab.async false
set_option linter.all false
set_option maxRecDepth 100000
set_option maxHeartbeats 4000000
set_option Elab.async false
set_option linter.all false
set_option maxRecDepth 100000
set_option maxHeartbeats 4000000
set_option Elab.async false
set_option linter.all false
set_option maxRecDepth 100000
set_option maxHeartbeats 4000000
set_option Elab.async false
set_option linter.all false
set_option maxRecDepth 100000
set_option maxHeartbeats 4000000
namespace Pu
open L2 PySem PySem.Spec PyProof.Rows E10
open He (ga ma)
/-! ### refusals judged -/
/-- a dict, as a value or at a place -/
def RdD (μ : Μ) (v : W) (ks : List (Key × P)) : Prop := v = .v (.dct ks) ∨ ∃ j, v = .loc j ∧ (μ[j]? = some (.dct ks) ∨ μ[j]? = some (.dctL ks))
section
variable {μ : Μ} {v : W} {ks : List (Key × P)} {S : List Str} {f : Str → P} {z : Str}
theorem RdD.rd (h : RdD μ v ks) : rdD μ v = some ks := by
  rcases h with rfl | ⟨j, rfl, e | e⟩
  · rfl
  · unfold rdD; simp only [e]
  · unfold rdD; simp only [e]
theorem RdD.noL (h : RdD μ v ks) : rdL μ v = none := by
  rcases h with rfl | ⟨j, rfl, e | e⟩
  · rfl
  · unfold rdL; simp only [e]
  · unfold rdL; simp only [e]
theorem RdD.noQ (h : RdD μ v ks) : seqP μ v = none := by
  rcases h with rfl | ⟨j, rfl, e | e⟩
  · rfl
  · unfold seqP rdL; simp only [e]
  · unfold seqP rdL; simp only [e]
theorem RdD.ty (h : RdD μ v ks) (cs : List Addr) : tyP cs μ v = some (.type "dict") := by
  rcases h with rfl | ⟨j, rfl, e | e⟩
  · rfl
  · unfold tyP; simp only [e]
  · unfold tyP; simp only [e]
theorem RdD.get (h : RdD μ v (dnP S f)) (m : z ∈ S) : gIx v (.v (.str z)) μ = .ok (.v (f z)) μ := by
  have e1 : fIxL v (.v (.str z)) μ = .bad := by
    unfold fIxL
    rw [h.noL]
  have e2 : fIxT v (.v (.str z)) μ = .bad := by
    rcases h with rfl | ⟨j, rfl, _⟩ <;> rfl
  have e3 : fIxS v (.v (.str z)) μ = .bad := by
    rcases h with rfl | ⟨j, rfl, _⟩ <;> rfl
  have e4 : fDGet v (.v (.str z)) μ = .ok (.v (f z)) μ := by
    unfold fDGet
    rw [h.rd]
    show (match valP (dnP S f) (Sum.inr z) with
      | some p => O.ok (W.v p) μ
      | none => .bad) = _
    rw [valP_dn m]
  show O.or (fIxL v (.v (.str z)) μ) (O.or (fIxT v (.v (.str z)) μ) (O.or (fIxS v (.v (.str z)) μ) (fDGet v (.v (.str z)) μ))) = _
  rw [e1, e2, e3, e4]
  rfl
theorem RdD.len (h : RdD μ v (dnP S f)) : gLen [v] μ = .ok (.v (.int S.length)) μ := by
  have e1 : fLenS [v] μ = .bad := by
    rcases h with rfl | ⟨j, rfl, _⟩ <;> rfl
  have e2 : fLenL [v] μ = .bad := by
    unfold fLenL
    simp only [h.noQ]
  have e3 : fLenD [v] μ = .ok (.v (.int S.length)) μ := by
    unfold fLenD
    simp only [h.rd]
    unfold dnP
    rw [List.length_map]
  show O.or (fLenS [v] μ) (O.or (fLenL [v] μ) (fLenD [v] μ)) = _
  rw [e1, e2, e3]
  rfl
theorem RdD.mem (h : RdD μ v (dnP S f)) (z : Str) : gIn false (.v (.str z)) v μ = .ok (.v (.bl (decide (z ∈ S)))) μ := by
  have e1 : fIn false (.v (.str z)) v μ = .bad := by
    unfold fIn
    simp only [h.noQ]
  have e2 : fDIn false (.v (.str z)) v μ = .ok (.v (.bl (decide (z ∈ S)))) μ := by
    unfold fDIn
    rw [h.rd]
    show O.ok (W.v (.bl ((valP (dnP S f) (Sum.inr z)).isSome != false))) μ = _
    by_cases c : z ∈ S
    · rw [valP_dn c, decide_eq_true c]; rfl
    · rw [valP_dnN c, decide_eq_false c]; rfl
  show O.or (fIn false (.v (.str z)) v μ) (fDIn false (.v (.str z)) v μ) = _
  rw [e1, e2]
  rfl
theorem RdD.isi (h : RdD μ v ks) (cs : List Addr) : fIsi cs [v, .v (.ty "dict")] μ = .ok (.v (.bl true)) μ := by
  unfold fIsi
  simp only [h.ty cs]
  rfl
end
end Pu
set_option Elab.async false
set_option linter.all false
set_option maxRecDepth 100000
set_option maxHeartbeats 8000000
set_option Elab.async false
set_option linter.all false
set_option maxRecDepth 100000
set_option maxHeartbeats 8000000
set_option Elab.async false
set_option linter.all false
set_option maxRecDepth 100000
set_option maxHeartbeats 8000000
set_option Elab.async false
set_option linter.all false
set_option maxRecDepth 100000
set_option maxHeartbeats 8000000
namespace Pu
open L2 PySem PySem.Spec PyProof.Rows E10
open He (ga ma)
local macro_rules | `(tactic| walk_at "pu wq1") => `(tactic| first | ((with_reducible apply wo_var); next => rfl) | with_reducible refine wo_c ?_ | with_reducible refine wo_op ?_ | with_reducible refine wo_call ?_ | with_reducible refine wa_cons ?_ | with_reducible refine wa_nil ?_ | with_reducible refine wo_eq add_ii ?_ | with_reducible refine wo_eq sub_ii ?_ | with_reducible refine wo_eq le_ii ?_ | with_reducible refine wo_eq lt_ii ?_ | with_reducible refine wo_eq gt_ii ?_ | with_reducible refine wo_eq eq_ii ?_ | with_reducible refine ws_seq ?_ | with_reducible refine ws_set ?_ | ((with_reducible apply st1); next => ((try simp only [List.set_cons_zero, List.set_cons_succ]); first | done | rfl)) | with_reducible refine ws_ret ?_ | with_reducible refine ws_drop ?_ | with_reducible refine ws_next ?_ | with_reducible refine ws_for ?_ | with_reducible refine wt_test ?_ | with_reducible refine isB ?_ | with_reducible refine isV ?_ | with_reducible refine isI ?_ | with_reducible refine bi_tt ?_ | with_reducible refine bi_ff ?_ | with_reducible refine bi_not ?_ | with_reducible refine bi_bneF ?_ | with_reducible refine bi_bneT ?_ | ((with_reducible refine bi_T ?_ ?_); next => assumption) | ((with_reducible refine bi_F ?_ ?_); next => assumption) | ((with_reducible refine bi_dT ?_ ?_); next => assumption) | ((with_reducible refine bi_dF ?_ ?_); next => assumption) | with_reducible refine wt_not ?_ | with_reducible refine wt_and ?_ | with_reducible refine wt_or ?_ | with_reducible refine wt_yes ?_ | with_reducible refine wo_andV ?_ | with_reducible refine wo_orV ?_ | with_reducible refine wo_notV ?_ | with_reducible refine wo_if ?_ | with_reducible refine wo_chain ?_ | with_reducible refine wo_seq ?_ | with_reducible refine wo_lstC ?_ | with_reducible refine isVs1 ?_ | with_reducible refine isVs0 ?_ | with_reducible refine isVsA ?_ | with_reducible refine isVsM ?_ | ((with_reducible refine few1 ?_ ?_); next => (first | decide | (simp only [List.length_map, List.length_append, List.length_cons, List.length_nil]; omega))) | with_reducible refine wo_fld ?_ | with_reducible refine wo_meth ?_ | with_reducible refine wo_prop ?_ | with_reducible refine isO ?_ | with_reducible refine wo_callO ?_ | with_reducible refine wo_mk ?_ | with_reducible refine wo_frz ?_ | with_reducible refine wo_frzv ?_ | with_reducible refine wo_drop ?_ | ((with_reducible apply wo_fldv); next => rfl) | ((with_reducible apply noF); next => rfl) | with_reducible refine isC1 ?_ | ((with_reducible refine leM ?_ ?_); next => (first | exact Nat.le_refl _ | exact pot_le (by assumption) (by assumption))) | ((with_reducible apply wo_isi (c := true)); (next => rfl); (next => decide); (next => decide)) | ((with_reducible apply wo_isi (c := false)); (next => rfl); (next => decide); (next => decide)) | ((with_reducible refine wo_isiO1 ?_ ?_); next => simp) | ((with_reducible refine wo_isiOb ?_ ?_ ?_); (next => simp); (next => simp)) | ((with_reducible apply wo_isibO); (next => rfl); (next => simp)) | ((with_reducible refine wo_eqO ?_ ?_); next => simp) | ((with_reducible refine wo_neO ?_ ?_); next => simp) | with_reducible refine wo_own2 ?_ | with_reducible refine wo_ownI ?_ | with_reducible refine wo_iown ?_ | with_reducible refine wo_ixO ?_ | with_reducible refine wo_inO ?_ | with_reducible refine wi_any ?_ | with_reducible refine wi_vals ?_ | with_reducible refine wi_items ?_ | with_reducible refine wi_rg1 ?_ | with_reducible refine wo_lc ?_ | with_reducible refine wo_dc ?_ | ((with_reducible apply wo_lock); next => rfl) | ((with_reducible apply ws_lock); next => rfl) | with_reducible refine ws_par ?_ | with_reducible refine is2 ?_ | with_reducible refine ws_par3 ?_ | with_reducible refine is3 ?_ | with_reducible refine ws_asg ?_ | with_reducible refine wo_un ?_ | with_reducible refine wo_eq neg_i ?_ | with_reducible refine wo_eq eq_bb ?_ | with_reducible refine wo_eq eq_ss ?_ | with_reducible refine wo_eq max_ii ?_ | with_reducible refine wo_eq min_ii ?_ | with_reducible refine lew_v ?_ | with_reducible refine wo_bm ?_ | with_reducible refine wo_sl ?_ | with_reducible refine wq_none ?_ | with_reducible refine wq_some ?_ | with_reducible refine wo_ok ?_ | with_reducible refine ws_nx ?_ | with_reducible refine wo_get2 ?_ | ((with_reducible refine wo_eq (mul_ii ?_) ?_); next => (first | exact .inl (by decide) | exact .inr (by decide))) | ((with_reducible refine wo_eq (mod_ii ?_) ?_); next => decide) | ((with_reducible refine wo_eq (div_ii ?_) ?_); next => decide) | ((with_reducible refine wo_eq (pow_ii ?_) ?_); next => decide))
local macro_rules | `(tactic| walk_at "pu wp1") => `(tactic| first | walk_at "pu wq1" | with_reducible refine ws_if ?_)
local macro_rules | `(tactic| walk_at "pu wp") => `(tactic| repeat walk_at "pu wp1")
local macro_rules | `(tactic| walk_at "pu wq") => `(tactic| repeat walk_at "pu wq1")
local macro_rules | `(tactic| walk_at "pu wdef") => `(tactic| (apply wo_def rfl; next => ((try simp only [List.map_cons, List.map_nil, List.replicate_succ, List.replicate_zero, List.cons_append, List.nil_append, List.append_nil, List.length_cons, List.length_nil, Nat.reduceAdd, Nat.reduceSub]); first | done | rfl)))
local macro_rules | `(tactic| walk_at "pu wdone") => `(tactic| exact ⟨rfl, by first | rfl | exact List.take_length⟩)
/-! ### a dict at a place, read -/
section
variable {μ : Μ} {v : W} {ks : List (Key × P)} {S : List Str} {f : Str → P} {z : Str} {t : Tb}
theorem rows_dn (nd : (keys t).Nodup) : t.map rowP = dnP (keys t) fun z => .int (val t z) := by
  unfold dnP keys
  rw [List.map_map]
  refine List.map_congr_left fun p mp => ?_
  show ((Sum.inr p.1 : Key), P.int p.2) = (Sum.inr p.1, P.int (val t p.1))
  rw [val_at nd (v := p.2) mp]
theorem RdD.sort (h : RdD μ v (dnP S f)) {SO : SF'} (l : S.length < 64) : gSort' SO [v] μ = .ok (.v (.lst ((srt S).map P.str))) μ := by
  have e1 : fSortS [v] μ = .bad := by
    unfold fSortS
    simp only [h.noQ, Option.bind_none]
  have e2 : fSortD [v] μ = .ok (.v (.lst ((srt S).map P.str))) μ := by
    unfold fSortD
    simp only [h.rd, Option.bind_some, keysS_dn, l, if_true]
  show O.or (fSortS [v] μ) (O.or (fSortD [v] μ) _) = _
  rw [e1, e2]
  rfl
end
section
variable {Pg : Program} {w : World} {K : PySem.W.Frag} {μ m : Μ} {t s : Tb} {z : Str} {j : Nat}
--IF D_has_names
theorem e_has_namesL (hj : μ[j]? = some (.dct (t.map rowP))) (nd : (keys t).Nodup) (h : t ≠ []) (nm : ∀ z ∈ keys t, Nm z) (le : t.length ≤ 64) : D_has_names Pg w K [.loc j] μ = .ok (.v (.bl true)) μ := eq_wo (by
  have h0 : ((0 : Int) < (((keys t).length : Nat) : Int)) := by rw [len_keys]; have := List.length_pos_iff.mpr h; omega
  rw [rows_dn nd] at hj
  have hd : RdD μ (.loc j) (dnP (keys t) fun z => .int (val t z)) := .inr ⟨j, rfl, .inl hj⟩
  have lj : j < μ.length := (List.getElem?_eq_some_iff.mp hj).1
  unfold D_has_names
  walk_at "pu wdef"
  walk_at "pu wp"
  refine wo_eq (hd.isi _) ?_
  walk_at "pu wp"
  refine wo_eq hd.len ?_
  walk_at "pu wp"
  refine wo_lockD rfl hj ?_
  walk_at "pu wp"
  have hl : (μ.set j (.dctL (dnP (keys t) fun z => .int (val t z))))[j]? = some (.dctL (dnP (keys t) fun z => .int (val t z))) := by rw [List.getElem?_set_self lj]
  refine wo_eq (it_dnL hl (by rw [len_keys]; omega)) ?_
  refine wl_all P.str (fun _ => P.bl true) (l := keys t) (fun z m => ?_) ?_
  · refine ⟨_, rfl, ?_⟩
    repeat (first | walk_at "pu wp1" | with_reducible refine wo_eq (e_is_name (nm z m)) ?_)
    exact ⟨rfl, rfl⟩
  refine ⟨hl, ?_⟩
  rw [List.set_set]
  repeat (first | walk_at "pu wp1" | with_reducible refine wo_eq (bls_all (bls_map (fun _ => true) (keys t))) ?_)
  rw [show ((keys t).map fun _ => true).all id = true by simp]
  have es : μ.set j (.dct (dnP (keys t) fun z => .int (val t z))) = μ := by
    refine List.ext_getElem (by simp) fun i h1 h2 => ?_
    rw [List.getElem_set]
    split
    · rename_i e
      subst e
      obtain ⟨_, e⟩ := List.getElem?_eq_some_iff.mp hj
      exact e.symm
    · rfl
  rw [es]
  walk_at "pu wdone")
--END
--IF D_check_shifts
theorem e_check_shiftsL (hj : μ[j]? = some (.dct (t.map rowP))) (h : Ok t) : D_check_shifts Pg w K [.loc j] μ = .ok (.v .non) μ := eq_wo (by
  have le := h.le
  have hd : RdD μ (.loc j) (dnP (keys t) fun z => .int (val t z)) := .inr ⟨j, rfl, .inl (by rw [← rows_dn h.nd]; exact hj)⟩
  unfold D_check_shifts
  walk_at "pu wdef"
  walk_at "pu wp"
  refine wo_eq (e_has_namesL hj h.nd h.ne h.nm (by omega)) ?_
  walk_at "pu wp"
  refine wo_eq (hd.sort (by rw [len_keys]; omega)) ?_
  repeat (first | walk_at "pu wp1" | with_reducible refine wo_eq (it_strs (show (srt (keys t)).length ≤ 100000 by rw [srt_len, len_keys]; omega)) ?_)
  refine wf_go (n := 0) (fun _ γ m => m = μ ∧ ∃ x, γ = [some (W.loc j), x]) ⟨rfl, none, rfl⟩ (fun i p γ m hp ⟨em, x, eg⟩ => ?_) fun γ m ⟨em, x, eg⟩ => ?_
  · subst em
    subst eg
    obtain ⟨z, mz, rfl⟩ := List.mem_map.mp (List.mem_of_getElem? hp)
    refine ⟨_, rfl, ?_⟩
    walk_at "pu wp"
    refine wo_eq (hd.get (srt_mem.mp mz)) ?_
    repeat (first | walk_at "pu wp1" | with_reducible refine wo_eq (e_is_integer _) ?_)
    exact ⟨rfl, _, rfl⟩
  · subst em
    subst eg
    walk_at "pu wp"
    refine wo_eq hd.len ?_
    walk_at "pu wp"
    refine bi_dF (by rw [len_keys]; omega) ?_
    walk_at "pu wp"
    walk_at "pu wdone")
--END
--IF D_in_order
theorem e_in_orderL (hj : μ[j]? = some (.dct (t.map rowP))) (nd : (keys t).Nodup) (le : t.length < 64) : D_in_order Pg w K [.loc j] μ = .ok (.v (dctP (ord t))) μ := eq_wo (by
  have hd : RdD μ (.loc j) (dnP (keys t) fun z => .int (val t z)) := .inr ⟨j, rfl, .inl (by rw [← rows_dn nd]; exact hj)⟩
  unfold D_in_order
  walk_at "pu wdef"
  walk_at "pu wp"
  refine wo_eq (hd.sort (by rw [len_keys]; omega)) ?_
  repeat (first | walk_at "pu wp1" | with_reducible refine wo_eq (it_strs (show (srt (keys t)).length ≤ 100000 by rw [srt_len, len_keys]; omega)) ?_)
  refine wd_all P.str Sum.inr (fun z => P.int (val t z)) (l := srt (keys t)) (List.pairwise_map.mpr ((srt_nodup nd).imp fun ne e => ne (Sum.inr.inj e))) (fun z mz => ?_) ?_
  · refine ⟨_, .str z, rfl, rfl, ?_, ?_⟩
    · walk_at "pu wp"
      exact ⟨rfl, rfl⟩
    · walk_at "pu wp"
      refine wo_eq (hd.get (srt_mem.mp mz)) ?_
      exact ⟨rfl, rfl⟩
  refine ⟨?_, List.take_length⟩
  unfold ord dctP
  rw [List.map_map]
  rfl)
--END
--IF D_Earliest___init__
theorem e_EarliestL (hj : μ[j]? = some (.dct (t.map rowP))) (h : Ok t) : (makeP (ga K "Earliest") (D_Earliest___init__ Pg w K) [.loc j] μ).bind (frzP μ.length) = .ok (.v (eaP K (ord t))) μ := make_eq (eq_wo (by
  have le := h.le
  have lj : j < μ.length := (List.getElem?_eq_some_iff.mp hj).1
  have hj2 : (μ ++ [.ins (ga K "Earliest") []])[j]? = some (.dct (t.map rowP)) := by rw [List.getElem?_append_left lj]; exact hj
  unfold D_Earliest___init__
  walk_at "pu wdef"
  walk_at "pu wp"
  refine wo_eq (e_check_shiftsL hj2 h) ?_
  apply ws_fld
  walk_at "pu wp"
  refine wo_eq (e_in_orderL hj2 h.nd (by omega)) ?_
  walk_at "pu wp"
  refine ⟨μ.length, [], wI_last, by decide, ?_⟩
  rw [last_set]
  exact ⟨rfl, List.take_of_length_le (by simp)⟩))
--END
/-! ### texts -/
theorem str_assoc (a b c : Str) : a ++ b ++ c = a ++ (b ++ c) := Str.ext' (by rw [Str.cps_append, Str.cps_append, Str.cps_append, Str.cps_append, Array.append_assoc])
theorem str_nil (a : Str) : Str.empty ++ a = a := Str.ext' (by rw [Str.cps_append]; show #[] ++ a.cps = a.cps; simp)
theorem str_nilR (a : Str) : a ++ Str.empty = a := Str.ext' (by rw [Str.cps_append]; show a.cps ++ #[] = a.cps; simp)
/-- the text of one term -/
def tmT (z : Str) (i : Int) : Str := if i = 0 then z else z ++ plusText i
theorem log_of {i : Int} (h : i.natAbs < 10 ^ 70) : i.natAbs.log2 < 1920 := log_small h
theorem int_len {i : Int} (h : i.natAbs < 10 ^ 70) : (Str.ofString (toString i)).length ≤ 100 := by
  have e := int_text_length_le10 (k := 70) (by decide) h
  rw [PyProof.Rows.ofString_len]
  omega
theorem plus_len {i : Int} (h : i.natAbs < 10 ^ 70) : (plusText i).length ≤ 101 := by
  have := int_len h
  unfold plusText
  split
  · omega
  · rw [len_app]
    have : (("+" : String) : Str).length = 1 := rfl
    omega
theorem tm_len {i : Int} (hz : Nm z) (h : i.natAbs < 10 ^ 70) : (tmT z i).length ≤ 109 := by
  have := plus_len h
  have := hz.hi
  unfold tmT
  split
  · omega
  · rw [len_app]; omega
--IF D_term_text
theorem e_term_text {i : Int} (hz : Nm z) (h : i.natAbs < 10 ^ 70) : D_term_text Pg w K [.v (.str z), .v (.int i)] μ = .ok (.v (.str (tmT z i))) μ := eq_wo (by
  have lz := hz.hi
  have lp := plus_len h
  have e2 : fJoined (fJCons (fFmt (fVar 0)) (fJCons (fFmtP (fVar 1)) fJNil)) [some (.v (.str z)), some (.v (.int i))] μ = .ok (.v (.str (z ++ plusText i))) μ := by
    unfold fJoined
    rw [j_cons (z := z ++ plusText i) (m2 := μ) (m := μ) (y := z) (by
      show (if z.length ≤ 1000000 then O.ok (W.v (.str z)) μ else .bad) = _
      rw [if_pos (by omega)]) (by rw [str_nil]; omega) (j_cons (m := μ) (y := plusText i) (by
      show (if i.natAbs.log2 < 1920 then O.ok (W.v (.str (plusText i))) μ else .bad) = _
      rw [if_pos (log_of h)]) (by rw [str_nil, len_app]; omega) (by rw [str_nil]; rfl))]
    rfl
  unfold D_term_text
  walk_at "pu wdef"
  walk_at "pu wp"
  refine bi_if (fun c => ?_) fun c => ?_
  · walk_at "pu wp"
    refine ⟨?_, List.take_length⟩
    unfold tmT
    rw [if_pos (by simpa using c)]
  · refine wo_eq e2 ?_
    walk_at "pu wp"
    refine ⟨?_, List.take_length⟩
    unfold tmT
    rw [if_neg (by simpa using c)])
--END
/-- the text of a dict in the brackets of its class -/
def txtE (t : Tb) : Str := ("Earliest(" : Str) ++ txtT t ++ ")"
--IF D_Earliest___repr__
theorem e_Earliest_repr (h : Sm t) (l : t.length ≤ 40) : D_Earliest___repr__ Pg w K [.v (eaP K t)] μ = .ok (.v (.str (txtE t))) μ := eq_wo (by
  have lt := txt_len h l
  have e1 : fFmtR (fFld (ga K "Earliest") "_shifts" (fVar 0)) [some (.v (eaP K t))] μ = .ok (.v (.str (txtT t))) μ := by
    have e0 : fFld (ga K "Earliest") "_shifts" (fVar 0) [some (.v (eaP K t))] μ = .ok (.v (dctP t)) μ := by
      refine eq_wo ?_
      walk_at "pu wp"
      exact ⟨rfl, rfl⟩
    show (fFld (ga K "Earliest") "_shifts" (fVar 0) [some (.v (eaP K t))] μ).bind fmtRV = _
    rw [e0]
    exact fmtR_t h l
  have e2 : fJoined (fJCons (fC (.str "Earliest(")) (fJCons (fFmtR (fFld (ga K "Earliest") "_shifts" (fVar 0))) (fJCons (fC (.str ")")) fJNil))) [some (.v (eaP K t))] μ = .ok (.v (.str (txtE t))) μ := by
    unfold fJoined
    rw [j_cons (z := txtE t) (m2 := μ) (m := μ) rfl (by decide) (j_cons e1 (by rw [len_app]; show 9 + _ ≤ _; omega) (j_cons (m := μ) rfl (by rw [len_app, len_app]; show 9 + _ + 1 ≤ _; omega) (by rw [str_nil]; rfl)))]
    rfl
  unfold D_Earliest___repr__
  walk_at "pu wdef"
  walk_at "pu wp"
  refine wo_eq e2 ?_
  walk_at "pu wp"
  walk_at "pu wdone")
--END
/-- the terms' texts, with blanks -/
def strE (t : Tb) : Str := Txt.join " " ((keys t).map fun z => tmT z (val t z))
theorem sum_le {l : List Nat} {c : Nat} (h : ∀ x ∈ l, x ≤ c) : l.sum ≤ c * l.length := by
  induction l with
  | nil => exact Nat.zero_le _
  | cons a l ih =>
    have := h a List.mem_cons_self
    have := ih fun x m => h x (List.mem_cons_of_mem _ m)
    rw [List.sum_cons, List.length_cons, Nat.mul_add]
    omega
--IF D_Earliest___str__
theorem e_Earliest_str (h : Sm t) (nd : (keys t).Nodup) (l : t.length ≤ 40) : D_Earliest___str__ Pg w K [.v (eaP K t)] μ = .ok (.v (.str (strE t))) μ := eq_wo (by
  have hk : ∀ z ∈ keys t, Nm z ∧ (val t z).natAbs < 10 ^ 70 := fun z mz => by
    obtain ⟨p, mp, rfl⟩ := List.mem_map.mp mz
    rw [val_at nd (v := p.2) mp]
    exact h p mp
  unfold D_Earliest___str__
  walk_at "pu wdef"
  walk_at "pu wp"
  refine wo_join ?_
  walk_at "pu wp"
  refine ⟨_, rfl, ?_⟩
  repeat (first | walk_at "pu wp1" | with_reducible refine wo_eq (it_d (t := t) (show t.length ≤ 100000 by omega)) ?_)
  refine wl_all P.str (fun z => P.str (tmT z (val t z))) (l := keys t) (fun z mz => ⟨_, rfl, ?_⟩) ?_
  · repeat (first | walk_at "pu wp1" | with_reducible refine wo_eq (dget_ok (val_of mz)) ?_)
    refine wo_eq (e_term_text (hk z mz).1 (hk z mz).2) ?_
    exact ⟨rfl, rfl⟩
  rw [show ((keys t).map fun z => P.str (tmT z (val t z))) = ((keys t).map fun z => tmT z (val t z)).map P.str by rw [List.map_map]; rfl]
  refine ⟨_, strs_str _, ?_, ?_⟩
  · have := sum_le (l := ((keys t).map fun z => tmT z (val t z)).map (·.length)) (c := 109) fun x mx => by
      obtain ⟨s, ms, rfl⟩ := List.mem_map.mp mx
      obtain ⟨z, mz, rfl⟩ := List.mem_map.mp ms
      exact tm_len (hk z mz).1 (hk z mz).2
    rw [List.length_map, List.length_map, len_keys] at this
    rw [List.length_map, len_keys, show ((" " : String) : Str).length = 1 from rfl, Nat.mul_one]
    omega
  walk_at "pu wp"
  exact ⟨rfl, List.take_length⟩)
--END
end
end Pu
set_option Elab.async false
set_option linter.all false
set_option maxRecDepth 100000
set_option maxHeartbeats 4000000
namespace Pu
open L2 PySem PySem.Spec PyProof.Rows E10
section
variable {Q : W → Μ → Prop} {X : XP} {γ : Γ} {μ m : Μ} {F : EF} {j : Nat} {ps qs : List P} {ks : List (Key × P)}
theorem wo_back (h : WO (F γ μ) (fun w m => ∃ ps, rdL m w = some ps ∧ Q (.v (.lst ps.reverse)) m) X) : WO (fBack F γ μ) Q X := wo_bind (wo_mono h (fun w m ⟨ps, e, z⟩ => by rw [e]; exact z) fun _ _ _ z => z)
theorem catC_w {x y : W} (hx : rdL μ x = some ps) (hy : rdL μ y = some qs) (l : ps.length + qs.length ≤ 100000) : fCatC x y μ = .ok (.loc μ.length) (μ ++ [.lst (ps ++ qs)]) := by
  unfold fCatC
  rw [hx, hy]
  exact if_pos l
theorem wo_dclear (h : m[j]? = some (.dct ks)) (q : Q (.v .non) (m.set j (.dct []))) : WO (mDClear (.loc j) [] m) Q X := by
  unfold mDClear
  rw [wD_at h]
  exact q
end
end Pu
set_option Elab.async false
set_option linter.all false
set_option maxRecDepth 100000
set_option maxHeartbeats 4000000
namespace Pu
open L2 PySem PySem.Spec PyProof.Rows E10
/-! ### == and != of dicts from names, at places too -/
section
variable {S : List Str} {f g : Str → P} {μ : Μ} {x y : W}
/-- a dict: a value, or at a place -/
def DcW (μ : Μ) (x : W) (ks : List (Key × P)) : Prop := x = .v (.dct ks) ∨ ∃ j, x = .loc j ∧ μ[j]? = some (.dct ks)
theorem DcW.rd {ks : List (Key × P)} (h : DcW μ x ks) : rdD μ x = some ks := by
  rcases h with rfl | ⟨j, rfl, e⟩
  · rfl
  · unfold rdD; simp only [e]
theorem DcW.frz {ks : List (Key × P)} (h : DcW μ x ks) : frzV μ x = some (.dct ks) := by
  rcases h with rfl | ⟨j, rfl, e⟩
  · rfl
  · unfold frzV; simp only [e]; rfl
/-- the pairs of a dict -/
theorem wo_listIts {F : EF} {γ : Γ} {Q : W → Μ → Prop} {X : XP} (h : WO (F γ μ) (fun w m => ∃ ks, rdD m w = some ks ∧ Q (.v (.lst (ks.map fun kp => .tup [keyOf kp.1, kp.2]))) m) X) : WO (fListIts F γ μ) Q X := wo_bind (wo_mono h (fun w m ⟨ks, e, z⟩ => by rw [e]; exact z) fun _ _ _ z => z)
end
end Pu
set_option Elab.async false
set_option linter.all false
set_option maxRecDepth 100000
set_option maxHeartbeats 16000000
namespace Pu
open L2 PySem PySem.Spec PyProof.Rows E10
open He (ga ma)
local macro_rules | `(tactic| walk_at "pu wq1") => `(tactic| first | ((with_reducible apply wo_var); next => rfl) | with_reducible refine wo_c ?_ | with_reducible refine wo_op ?_ | with_reducible refine wo_call ?_ | with_reducible refine wa_cons ?_ | with_reducible refine wa_nil ?_ | with_reducible refine wo_eq add_ii ?_ | with_reducible refine wo_eq sub_ii ?_ | with_reducible refine wo_eq le_ii ?_ | with_reducible refine wo_eq lt_ii ?_ | with_reducible refine wo_eq gt_ii ?_ | with_reducible refine wo_eq eq_ii ?_ | with_reducible refine ws_seq ?_ | with_reducible refine ws_set ?_ | ((with_reducible apply st1); next => ((try simp only [List.set_cons_zero, List.set_cons_succ]); first | done | rfl)) | with_reducible refine ws_ret ?_ | with_reducible refine ws_drop ?_ | with_reducible refine ws_next ?_ | with_reducible refine ws_for ?_ | with_reducible refine wt_test ?_ | with_reducible refine isB ?_ | with_reducible refine isV ?_ | with_reducible refine isI ?_ | with_reducible refine bi_tt ?_ | with_reducible refine bi_ff ?_ | with_reducible refine bi_not ?_ | with_reducible refine bi_bneF ?_ | with_reducible refine bi_bneT ?_ | ((with_reducible refine bi_T ?_ ?_); next => assumption) | ((with_reducible refine bi_F ?_ ?_); next => assumption) | ((with_reducible refine bi_dT ?_ ?_); next => assumption) | ((with_reducible refine bi_dF ?_ ?_); next => assumption) | with_reducible refine wt_not ?_ | with_reducible refine wt_and ?_ | with_reducible refine wt_or ?_ | with_reducible refine wt_yes ?_ | with_reducible refine wo_andV ?_ | with_reducible refine wo_orV ?_ | with_reducible refine wo_notV ?_ | with_reducible refine wo_if ?_ | with_reducible refine wo_chain ?_ | with_reducible refine wo_seq ?_ | with_reducible refine wo_lstC ?_ | with_reducible refine isVs1 ?_ | with_reducible refine isVs0 ?_ | with_reducible refine isVsA ?_ | with_reducible refine isVsM ?_ | ((with_reducible refine few1 ?_ ?_); next => (first | decide | (simp only [List.length_map, List.length_append, List.length_cons, List.length_nil]; omega))) | with_reducible refine wo_fld ?_ | with_reducible refine wo_meth ?_ | with_reducible refine wo_prop ?_ | with_reducible refine isO ?_ | with_reducible refine wo_callO ?_ | with_reducible refine wo_mk ?_ | with_reducible refine wo_frz ?_ | with_reducible refine wo_frzv ?_ | with_reducible refine wo_drop ?_ | ((with_reducible apply wo_fldv); next => rfl) | ((with_reducible apply noF); next => rfl) | with_reducible refine isC1 ?_ | ((with_reducible refine leM ?_ ?_); next => (first | exact Nat.le_refl _ | exact pot_le (by assumption) (by assumption))) | ((with_reducible apply wo_isi (c := true)); (next => rfl); (next => decide); (next => decide)) | ((with_reducible apply wo_isi (c := false)); (next => rfl); (next => decide); (next => decide)) | ((with_reducible refine wo_isiO1 ?_ ?_); next => simp) | ((with_reducible refine wo_isiOb ?_ ?_ ?_); (next => simp); (next => simp)) | ((with_reducible apply wo_isibO); (next => rfl); (next => simp)) | ((with_reducible refine wo_eqO ?_ ?_); next => simp) | ((with_reducible refine wo_neO ?_ ?_); next => simp) | with_reducible refine wo_own2 ?_ | with_reducible refine wo_ownI ?_ | with_reducible refine wo_iown ?_ | with_reducible refine wo_ixO ?_ | with_reducible refine wo_inO ?_ | with_reducible refine wi_any ?_ | with_reducible refine wi_vals ?_ | with_reducible refine wi_items ?_ | with_reducible refine wi_rg1 ?_ | with_reducible refine wo_lc ?_ | with_reducible refine wo_dc ?_ | ((with_reducible apply wo_lock); next => rfl) | ((with_reducible apply ws_lock); next => rfl) | with_reducible refine ws_par ?_ | with_reducible refine is2 ?_ | with_reducible refine ws_par3 ?_ | with_reducible refine is3 ?_ | with_reducible refine ws_asg ?_ | with_reducible refine wo_un ?_ | with_reducible refine wo_eq neg_i ?_ | with_reducible refine wo_eq eq_bb ?_ | with_reducible refine wo_eq eq_ss ?_ | with_reducible refine wo_eq max_ii ?_ | with_reducible refine wo_eq min_ii ?_ | with_reducible refine lew_v ?_ | with_reducible refine wo_bm ?_ | with_reducible refine wo_sl ?_ | with_reducible refine wq_none ?_ | with_reducible refine wq_some ?_ | with_reducible refine wo_ok ?_ | with_reducible refine ws_nx ?_ | with_reducible refine wo_get2 ?_ | ((with_reducible refine wo_eq (mul_ii ?_) ?_); next => (first | exact .inl (by decide) | exact .inr (by decide))) | ((with_reducible refine wo_eq (mod_ii ?_) ?_); next => decide) | ((with_reducible refine wo_eq (div_ii ?_) ?_); next => decide) | ((with_reducible refine wo_eq (pow_ii ?_) ?_); next => decide))
local macro_rules | `(tactic| walk_at "pu wp1") => `(tactic| first | walk_at "pu wq1" | with_reducible refine ws_if ?_)
local macro_rules | `(tactic| walk_at "pu wp") => `(tactic| repeat walk_at "pu wp1")
local macro_rules | `(tactic| walk_at "pu wq") => `(tactic| repeat walk_at "pu wq1")
local macro_rules | `(tactic| walk_at "pu wdef") => `(tactic| (apply wo_def rfl; next => ((try simp only [List.map_cons, List.map_nil, List.replicate_succ, List.replicate_zero, List.cons_append, List.nil_append, List.append_nil, List.length_cons, List.length_nil, Nat.reduceAdd, Nat.reduceSub]); first | done | rfl)))
local macro_rules | `(tactic| walk_at "pu wdone") => `(tactic| exact ⟨rfl, by first | rfl | exact List.take_length⟩)
section
variable {Pg : Program} {w : World} {K : PySem.W.Frag} {r m μ : Μ} {Q : W → Μ → Prop} {X : XP}
theorem s_letter (hm : Pot r m) (k : ∀ c m', 97 ≤ c ∧ c ≤ 122 → Pot r m' → Q (.v (.str (ch c))) m') : WO (D__law_choice Pg w K [.loc 0, .v (.str abcS)] m) Q X := by
  unfold D__law_choice
  walk_at "pu wdef"
  repeat (first | walk_at "pu wp1" | with_reducible refine wo_eq (len_s (z := abcS) (by rw [abc_len]; decide)) ?_)
  rw [abc_len]
  refine s_draw hm (by omega) (by omega) fun z m1 h0 h1 hm1 => ?_
  obtain ⟨i, rfl⟩ := Int.eq_ofNat_of_zero_le h0
  have lt : i < abcS.cps.toList.length := by rw [show abcS.cps.toList.length = 26 from abc_len]; omega
  repeat (first | walk_at "pu wp1" | with_reducible refine wo_eq (ix_s (z := abcS) (by rw [abc_len]; decide) (List.getElem?_eq_getElem lt)) ?_)
  exact k _ _ (abc_mem' (List.getElem_mem lt)) (hm.cut0 hm1)
theorem s_size (hm : Pot r m) (k : ∀ (v : Nat) m', 1 ≤ v → v ≤ 8 → Pot r m' → Q (.v (.int (v : Int))) m') : WO (D__law_choice Pg w K [.loc 0, .v (.lst [.int 1, .int 1, .int 2, .int 3, .int 8])] m) Q X := by
  unfold D__law_choice
  walk_at "pu wdef"
  repeat (first | walk_at "pu wp1" | with_reducible refine wo_eq (len_l) ?_)
  refine s_draw hm (by show (0 : Int) < 5; decide) (by show (5 : Int) < _; decide) fun z m1 h0 h1 hm1 => ?_
  obtain ⟨i, rfl⟩ := Int.eq_ofNat_of_zero_le h0
  have h1 : (i : Int) < 5 := h1
  have ex : ∃ v : Nat, [P.int 1, P.int 1, P.int 2, P.int 3, P.int 8][i]? = some (.int v) ∧ 1 ≤ v ∧ v ≤ 8 := by
    match i, h1 with
    | 0, _ => exact ⟨1, rfl, by omega, by omega⟩
    | 1, _ => exact ⟨1, rfl, by omega, by omega⟩
    | 2, _ => exact ⟨2, rfl, by omega, by omega⟩
    | 3, _ => exact ⟨3, rfl, by omega, by omega⟩
    | 4, _ => exact ⟨8, rfl, by omega, by omega⟩
  obtain ⟨v, ev, v1, v8⟩ := ex
  repeat (first | walk_at "pu wp1" | with_reducible refine wo_eq (ix_l ev) ?_)
  exact k v _ v1 v8 (hm.cut0 hm1)
theorem cut_len (wd : Str) (c : Nat) : (cutS wd none (some 6)).length + (⟨#[c]⟩ : Str).length ≤ 100000 := by
  have h := congrArg List.length (cut_n wd 6)
  have l : (wd.cps.toList.take 6).length ≤ 6 := List.length_take_le ..
  have e : (cutS wd none (some ((6 : Nat) : Int))).length = (cutS wd none (some ((6 : Nat) : Int))).cps.toList.length := by simp [Str.length]
  have e2 : (⟨#[c]⟩ : Str).length = 1 := rfl
  show (cutS wd none (some ((6 : Nat) : Int))).length + _ ≤ _
  omega
theorem sum_chs (cs : List Nat) : ((cs.map ch).map (·.length)).sum = cs.length := by
  rw [List.map_map, show ((fun z : Str => z.length) ∘ ch) = fun _ => 1 from rfl]
  induction cs with
  | nil => rfl
  | cons a l ih => rw [List.map_cons, List.sum_cons, ih, List.length_cons]; omega
/-- a near name: six signs, a letter, a q -/
def nearQ (w : Str) (c : Nat) : Str := nearC 6 w c ++ "q"
theorem nearQ_list (w : Str) (c : Nat) : (nearQ w c).cps.toList = w.cps.toList.take 6 ++ [c] ++ [113] := by
  unfold nearQ
  rw [Str.cps_append, Array.toList_append, near_list]
  rfl
theorem nearQ_inj {w : Str} {c d : Nat} (h : nearQ w c = nearQ w d) : c = d := by
  have h := congrArg (fun z : Str => z.cps.toList) h
  simp only [nearQ_list] at h
  have h := List.append_cancel_right h
  exact (List.cons.inj (List.append_cancel_left h)).1
theorem nearQ_nm {w : Str} {c : Nat} (h : Nm w) (hc : 97 ≤ c ∧ c ≤ 122) : Nm (nearQ w c) := by
  have hl := h.lo
  have e : (nearQ w c).length = (w.cps.toList.take 6).length + 2 := by
    have := congrArg List.length (nearQ_list w c)
    rw [List.length_append, List.length_append] at this
    simpa [Str.length] using this
  have l6 : (w.cps.toList.take 6).length ≤ 6 := List.length_take_le ..
  refine ⟨by omega, by omega, fun d hd => ?_⟩
  rw [nearQ_list] at hd
  rcases List.mem_append.mp hd with hd | hd
  · rcases List.mem_append.mp hd with hd | hd
    · exact h.az d (List.mem_of_mem_take hd)
    · rw [List.mem_singleton.mp hd]; exact hc
  · rw [List.mem_singleton.mp hd]; omega
theorem nearQ_fresh (w : Str) {zs : List Str} (few : zs.length ≤ 25) : ∃ c ∈ abcS.cps.toList, nearQ w c ∉ zs := by
  refine Classical.byContradiction fun no => ?_
  have all : ∀ x ∈ abcS.cps.toList.map (nearQ w), x ∈ zs := fun x hx => by
    obtain ⟨c, hc, rfl⟩ := List.mem_map.mp hx
    exact Classical.byContradiction fun q => no ⟨c, hc, q⟩
  have nd : (abcS.cps.toList.map (nearQ w)).Nodup := by
    rw [abc_list]
    refine List.pairwise_map.mpr (List.pairwise_map.mpr (List.nodup_range.imp fun ne e => ne ?_))
    have := nearQ_inj e
    omega
  have := nodup_le nd all
  rw [List.length_map, show abcS.cps.toList.length = 26 from abc_len] at this
  omega
theorem s_names {n : Nat} (hm : Pot r m) (hn : n ≤ 20) (k : ∀ (zs : List Str) m', zs.length = n → zs.Nodup → (∀ z ∈ zs, Nm z) → Pot r m' → Q (.v (.lst (zs.map P.str))) m') : WO (D__law_names Pg w K [.loc 0, .v (.int (n : Int))] m) Q X := by
  unfold D__law_names
  walk_at "pu wdef"
  walk_at "pu wp"
  rw [hm.len]
  walk_at "pu wp"
  refine isRg (by omega) ?_
  have hm0 : Pot (r ++ [.lst []]) (m ++ [.lst []]) := hm.add
  refine wf_inv (fun j γ m => ∃ zs : List Str, zs.length = j ∧ zs.Nodup ∧ (∀ z ∈ zs, Nm z) ∧ Pot (r ++ [.lst (zs.map P.str)]) m ∧ ∃ a b c d e f g, γ = [some (.loc 0), some (.v (.int (n : Int))), some (.v (.str abcS)), some (.loc (r.length + 1)), a, b, c, d, e, f, g])
    ⟨[], rfl, List.nodup_nil, (fun z h => by cases h), hm0, _, _, _, _, _, _, _, rfl⟩ (fun j p γ m hp ⟨zs, e1, nd, nm, hm1, a, b, c, d, e, f, g, eg⟩ => ?_) fun γ m ⟨zs, e1, nd, nm, hm1, a, b, c, d, e, f, g, eg⟩ => ?_
  · subst eg
    obtain ⟨lt, rfl⟩ := rng_at hp
    refine ⟨_, rfl, ?_⟩
    walk_at "pu wp"
    refine s_size hm1 fun v m2 v1 v8 hm2 => ?_
    walk_at "pu wp"
    refine wo_join ?_
    walk_at "pu wp"
    refine ⟨_, rfl, ?_⟩
    walk_at "pu wp"
    refine isRg (by omega) ?_
    refine wl_inv (fun j acc m => ∃ cs : List Nat, acc = (cs.map ch).map P.str ∧ cs.length = j ∧ (∀ c ∈ cs, 97 ≤ c ∧ c ≤ 122) ∧ Pot (r ++ [.lst (zs.map P.str)]) m) ⟨[], rfl, rfl, (fun c h => by cases h), hm2⟩ (fun j p acc m1 hp ⟨cs, e1, e3, e4, hm1⟩ => ?_) fun qs m3 ⟨cs, e2, e3, e4, hm3⟩ => ?_
    · refine ⟨_, rfl, ?_⟩
      walk_at "pu wp"
      refine s_letter hm1 fun c m' hc hm' => ?_
      walk_at "pu wp"
      refine ⟨cs ++ [c], by rw [e1]; simp, by rw [List.length_append, e3]; rfl, fun d hd => ?_, hm'⟩
      rcases List.mem_append.mp hd with q | q
      · exact e4 d q
      · rw [List.mem_singleton.mp q]; exact hc
    subst e2
    rw [rng_len] at e3
    walk_at "pu wp"
    refine ⟨cs.map ch, strs_str _, by
      have := sum_chs cs
      rw [this, show ("" : Str).length = 0 from rfl]
      omega, ?_⟩
    rw [join_ch]
    have nw : Nm ⟨cs.toArray⟩ := nm_of (by omega) (by omega) e4
    generalize (⟨cs.toArray⟩ : Str) = wd at *
    repeat (first | walk_at "pu wp1" | with_reducible refine wo_eq (it_s (z := abcS) (show (chrP abcS).length ≤ 100000 by rw [len_chr, abc_len]; decide)) ?_)
    refine wl_all (fun c => P.str ⟨#[c]⟩) (fun c => P.str (nearQ wd c)) (l := abcS.cps.toList) (fun c hc => ?_) ?_
    · refine ⟨_, rfl, ?_⟩
      repeat (first | walk_at "pu wp1" | with_reducible refine wo_eq (sl_sS (z := wd) (by have := nw.hi; omega)) ?_ | with_reducible refine wo_eq (add_ss (a := cutS wd none (some 6)) (b := ⟨#[c]⟩) (cut_len wd c)) ?_)
      refine wo_eq (add_ss (a := cutS wd none (some 6) ++ ⟨#[c]⟩) (b := "q") (by
        have := cut_len wd c
        rw [len_app]
        have l6 := congrArg List.length (cut_n wd 6)
        have l : (wd.cps.toList.take 6).length ≤ 6 := List.length_take_le ..
        have e : (cutS wd none (some ((6 : Nat) : Int))).length = (cutS wd none (some ((6 : Nat) : Int))).cps.toList.length := by simp [Str.length]
        have e2 : (⟨#[c]⟩ : Str).length = 1 := rfl
        have e3 : ("q" : Str).length = 1 := rfl
        show (cutS wd none (some ((6 : Nat) : Int))).length + _ + _ ≤ _
        omega)) ?_
      exact ⟨rfl, rfl⟩
    rw [show (abcS.cps.toList.map fun c => P.str (nearQ wd c)) = (abcS.cps.toList.map (nearQ wd)).map P.str by rw [List.map_map]; rfl]
    walk_at "pu wp"
    refine wo_eq (add_ll (a := [P.str wd]) (b := (abcS.cps.toList.map (nearQ wd)).map P.str) ?_) ?_
    · rw [List.length_map, List.length_map, show abcS.cps.toList.length = 26 from abc_len]
      show 1 + 26 ≤ 100000
      omega
    rw [show [P.str wd] ++ (abcS.cps.toList.map (nearQ wd)).map P.str = (wd :: abcS.cps.toList.map (nearQ wd)).map P.str from rfl]
    have nsp : ∀ z ∈ wd :: abcS.cps.toList.map (nearQ wd), Nm z := fun z hz => by
      rcases List.mem_cons.mp hz with rfl | hz
      · exact nw
      · obtain ⟨c, hc, rfl⟩ := List.mem_map.mp hz
        exact nearQ_nm nw (abc_mem' hc)
    have fr : ∃ z ∈ wd :: abcS.cps.toList.map (nearQ wd), z ∉ zs := by
      obtain ⟨c, hc, n⟩ := nearQ_fresh wd (zs := zs) (by omega)
      exact ⟨_, List.mem_cons_of_mem _ (List.mem_map.mpr ⟨c, hc, rfl⟩), n⟩
    have lsp : (wd :: abcS.cps.toList.map (nearQ wd)).length = 27 := by
      rw [List.length_cons, List.length_map, show abcS.cps.toList.length = 26 from abc_len]
    generalize (wd :: abcS.cps.toList.map (nearQ wd)) = sp at *
    walk_at "pu wp"
    refine ⟨isTy_at hm3.last, ?_⟩
    have hin : ∀ z : Str, gIn true (.v (.str z)) (.loc (r.length + 1)) m3 = .ok (.v (.bl (decide (z ∈ zs) != true))) m3 := fun z => in_strs (rdL_at hm3.last)
    repeat (first | walk_at "pu wp1" | with_reducible refine wo_eq (it_strs (zs := sp) (by omega)) ?_)
    refine wl_on P.str (fun z => decide (z ∉ zs)) P.str (fun z hz => ?_) ?_
    · refine ⟨_, rfl, ?_, fun c => ?_⟩
      · repeat (first | walk_at "pu wp1" | with_reducible refine wo_eq (hin z) ?_)
        exact ⟨by simp, rfl⟩
      · walk_at "pu wp"
        exact ⟨rfl, rfl⟩
    cases el : sp.filter fun z => decide (z ∉ zs) with
    | nil =>
      obtain ⟨z, hz, n⟩ := fr
      have : z ∈ sp.filter fun z => decide (z ∉ zs) := List.mem_filter.mpr ⟨hz, decide_eq_true n⟩
      rw [el] at this
      cases this
    | cons z zr =>
      have mz : z ∈ sp.filter fun z => decide (z ∉ zs) := by rw [el]; exact List.mem_cons_self
      obtain ⟨mz, nz⟩ := List.mem_filter.mp mz
      have nz := of_decide_eq_true nz
      rw [List.map_cons]
      repeat (first | walk_at "pu wp1" | with_reducible refine wo_eq (ix_0 (v := P.str z) (l := zr.map P.str)) ?_)
      refine wo_append hm3.last (by rw [List.length_map]; omega) ?_
      refine ⟨zs ++ [z], by rw [List.length_append, e1]; rfl, ?_, fun y hy => ?_, ?_, _, _, _, _, _, _, _, rfl⟩
      · rw [List.nodup_append]
        exact ⟨nd, List.pairwise_singleton _ z, fun a ha b hb => fun e => nz (by rw [← List.mem_singleton.mp hb, ← e]; exact ha)⟩
      · rcases List.mem_append.mp hy with q | q
        · exact nm y q
        · rw [List.mem_singleton.mp q]; exact nsp z mz
      · have := hm3.setl (d := .lst (zs.map P.str ++ [P.str z]))
        rw [List.map_append]
        exact this
  · subst eg
    rw [rng_len] at e1
    refine ws_fixL (p := .lst (zs.map P.str)) rfl hm1.last rfl ?_
    walk_at "pu wp"
    have h5 := hm.cut1 (hm1.setl (d := .dead))
    rw [hm.len] at h5
    exact k zs _ e1 nd nm h5
theorem s_number (hm : Pot r m) (k : ∀ (i : Int) m', i.natAbs < 10 ^ 61 → Pot r m' → Q (.v (.int i)) m') : WO (D__law_number Pg w K [.loc 0] m) Q X := by
  unfold D__law_number
  walk_at "pu wdef"
  walk_at "pu wp"
  refine s_draw (n := 5) hm (by omega) (by omega) fun u m1 u0 u1 hm1 => ?_
  obtain ⟨u, rfl⟩ := Int.eq_ofNat_of_zero_le u0
  walk_at "pu wp"
  refine s_draw (n := 9) hm1 (by omega) (by omega) fun v m2 v0 v1 hm2 => ?_
  walk_at "pu wp"
  refine bi_if (fun c => ?_) fun c => ?_
  · have ex : ∃ i : Int, [P.int 0, P.int (v - 4), P.int (v - 4)][u]? = some (.int i) ∧ i.natAbs ≤ 4 := by
      match u, c with
      | 0, _ => exact ⟨0, rfl, by omega⟩
      | 1, _ => exact ⟨v - 4, rfl, by omega⟩
      | 2, _ => exact ⟨v - 4, rfl, by omega⟩
    obtain ⟨i, ei, hi⟩ := ex
    repeat (first | walk_at "pu wp1" | with_reducible refine wo_eq (ix_l ei) ?_)
    exact k i _ (Nat.lt_of_le_of_lt hi (by decide)) (hm.cut0 hm2)
  walk_at "pu wp"
  refine s_draw (n := 10 ^ 6) hm2 (by decide) (by decide) fun a m3 a0 a1 hm3 => ?_
  repeat (first | walk_at "pu wp1" | with_reducible refine wo_eq (mul_ii (i := a) (j := 10 ^ 54) (.inl (by omega))) ?_)
  refine s_draw (n := 10 ^ 6) hm3 (by decide) (by decide) fun b m4 b0 b1 hm4 => ?_
  walk_at "pu wp"
  have bd : (a * 10 ^ 54 + b).natAbs < 10 ^ 61 := by
    have h1 : a * 10 ^ 54 ≤ (10 ^ 6 - 1) * 10 ^ 54 := Int.mul_le_mul_of_nonneg_right (by omega) (by decide)
    have h2 : 0 ≤ a * 10 ^ 54 := Int.mul_nonneg a0 (by decide)
    omega
  refine bi_by (fun c => ?_) fun c => ?_
  · walk_at "pu wp"
    exact k _ _ bd (hm.cut0 hm4)
  · walk_at "pu wp"
    exact k _ _ (by rw [Int.natAbs_neg]; exact bd) (hm.cut0 hm4)
end
end Pu
set_option Elab.async false
set_option linter.all false
set_option maxRecDepth 100000
set_option maxHeartbeats 16000000
namespace Pu
open L2 PySem PySem.Spec PyProof.Rows E10
open He (ga ma)
/-! ### texts that are compared -/
theorem mapO_str (n : Nat) : ∀ zs : List Str, mapO (toD n) (zs.map P.str) = some (zs.map PyData.str)
  | [] => rfl
  | z :: zs => by
    show (toD n (.str z)).bind (fun y => (mapO (toD n) (zs.map P.str)).map (y :: ·)) = _
    rw [mapO_str n zs]
    cases n <;> rfl
/-- data that is shown in few signs -/
structure Fw (n : Nat) (d : PyData) : Prop where
  sh : d.showable = true
  dp : d.depth ≤ 3
  nd : d.hasDict = false
  le : d.shown.length ≤ n
theorem fw_str {z : Str} (h : Nm z) : Fw 100 (.str z) := ⟨rfl, Nat.zero_le _, rfl, Nat.le_trans (repr_abc_len h) (by decide)⟩
theorem fw_int {i : Int} (h : i.natAbs < 10 ^ 70) : Fw 100 (.int i) := ⟨decide_eq_true (log_small h), Nat.zero_le _, rfl, int_len h⟩
theorem fw_all {n k : Nat} (hk : k ≤ 3) : ∀ {ds : List PyData}, (∀ d ∈ ds, Fw n d ∧ d.depth ≤ k) → PyData.showableAll ds = true ∧ PyData.depthAll ds ≤ k ∧ PyData.hasDictAll ds = false ∧ piled (PyData.shownAll ds) ≤ (n + 2) * ds.length
  | [], _ => ⟨rfl, Nat.zero_le _, rfl, Nat.le_refl _⟩
  | d :: ds, h => by
    obtain ⟨a, da⟩ := h d List.mem_cons_self
    obtain ⟨b1, b2, b3, b4⟩ := fw_all hk fun x m => h x (List.mem_cons_of_mem _ m)
    refine ⟨?_, ?_, ?_, ?_⟩
    · show (_ && _) = true
      rw [a.sh, b1]
      rfl
    · show max _ _ ≤ k
      exact Nat.max_le.mpr ⟨da, b2⟩
    · show (_ || _) = false
      rw [a.nd, b3]
      rfl
    · show piled (_ :: _) ≤ _
      have := a.le
      rw [piled_cons, List.length_cons, Nat.mul_add]
      omega
theorem fw_tup {n k m : Nat} (hk : k ≤ 2) {ds : List PyData} (h : ∀ d ∈ ds, Fw n d ∧ d.depth ≤ k) (l : ds.length ≤ m) : Fw ((n + 2) * m + 3) (.tuple ds) ∧ PyData.depth (.tuple ds) ≤ k + 1 := by
  obtain ⟨a, b, c, e⟩ := fw_all (by omega) h
  have t := tupLen (PyData.shownAll ds)
  have : (n + 2) * ds.length ≤ (n + 2) * m := Nat.mul_le_mul_left _ l
  refine ⟨⟨a, ?_, c, ?_⟩, ?_⟩
  · show PyData.depthAll ds + 1 ≤ 3
    omega
  · show (tupleText (PyData.shownAll ds)).length ≤ _
    omega
  · show PyData.depthAll ds + 1 ≤ k + 1
    omega
theorem fw_lst {n k m : Nat} (hk : k ≤ 2) {ds : List PyData} (h : ∀ d ∈ ds, Fw n d ∧ d.depth ≤ k) (l : ds.length ≤ m) : Fw ((n + 2) * m + 2) (.list ds) ∧ PyData.depth (.list ds) ≤ k + 1 := by
  obtain ⟨a, b, c, e⟩ := fw_all (by omega) h
  have t := listLen (PyData.shownAll ds)
  have : (n + 2) * ds.length ≤ (n + 2) * m := Nat.mul_le_mul_left _ l
  refine ⟨⟨a, ?_, c, ?_⟩, ?_⟩
  · show PyData.depthAll ds + 1 ≤ 3
    omega
  · show (listText (PyData.shownAll ds)).length ≤ _
    omega
  · show PyData.depthAll ds + 1 ≤ k + 1
    omega
theorem fw_ok {n : Nat} {d : PyData} (h : Fw n d) (l : n ≤ 1000000) : okR d = true := by
  unfold okR
  simp only [h.sh, h.nd, Bool.true_and, Bool.not_false, Bool.and_eq_true, decide_eq_true_eq]
  exact ⟨by have := h.dp; omega, Nat.le_trans h.le l⟩
section
variable {s t : Tb} {zs : List Str}
/-- a table of the law -/
structure Sz (s : Tb) : Prop extends Ok s where
  bd : ∀ p ∈ s, p.2.natAbs < 10 ^ 70
theorem Sz.sm (h : Sz s) : Sm s := fun p m => ⟨h.nm p.1 (List.mem_map.mpr ⟨p, m, rfl⟩), h.bd p m⟩
theorem Sz.vb (h : Sz s) {z : Str} (m : z ∈ keys s) : (val s z).natAbs < 10 ^ 70 := by
  obtain ⟨p, mp, rfl⟩ := List.mem_map.mp m
  rw [val_at h.nd (v := p.2) mp]
  exact h.bd p mp
theorem Sz.ord (h : Sz s) : Sz (Pu.ord s) := by
  refine ⟨⟨fun e => h.ne (List.eq_nil_of_length_eq_zero (by rw [← len_ord, e]; rfl)), fun z m => h.nm z (mem_ord.mp m), by rw [keys_ord]; exact srt_nodup h.nd, by rw [len_ord]; exact h.le⟩, fun p mp => ?_⟩
  obtain ⟨z, mz, rfl⟩ := List.mem_map.mp (show p ∈ (srt (keys s)).map fun z => (z, val s z) from mp)
  exact h.vb (srt_mem.mp mz)
theorem repr_names {n : Nat} (nm : ∀ z ∈ zs, Nm z) (l : zs.length ≤ 8) (hn : n ≤ 8) : ∃ x, ∀ μ, fReprX [.v (.lst [.tup (zs.map P.str), .int (n : Int)])] μ = .ok (.v (.str x)) μ := by
  obtain ⟨f1, f2⟩ := fw_tup (k := 0) (m := 8) (by omega) (ds := zs.map PyData.str) (fun d md => by
    obtain ⟨z, mz, rfl⟩ := List.mem_map.mp md
    exact ⟨fw_str (nm z mz), Nat.le_refl 0⟩) (by rw [List.length_map]; exact l)
  obtain ⟨g1, _⟩ := fw_lst (n := (100 + 2) * 8 + 3) (k := 1) (m := 2) (by omega) (ds := [.tuple (zs.map PyData.str), .int (n : Int)]) (fun d md => by
    rcases List.mem_cons.mp md with rfl | md
    · exact ⟨f1, f2⟩
    · rw [List.mem_singleton.mp md]
      have := fw_int (i := (n : Int)) (Nat.lt_of_le_of_lt (show (n : Int).natAbs ≤ 8 by omega) (by decide))
      exact ⟨⟨this.sh, this.dp, this.nd, Nat.le_trans this.le (by decide)⟩, Nat.zero_le _⟩) (Nat.le_refl 2)
  refine ⟨PyData.shown (.list [.tuple (zs.map PyData.str), .int (n : Int)]), fun μ => ?_⟩
  have e : toD 30 (.lst [.tup (zs.map P.str), .int (n : Int)]) = some (.list [.tuple (zs.map PyData.str), .int (n : Int)]) := by
    show (mapO (toD 29) [.tup (zs.map P.str), .int (n : Int)]).map PyData.list = _
    show (((mapO (toD 28) (zs.map P.str)).map PyData.tuple).bind fun y => (mapO (toD 29) [.int (n : Int)]).map (y :: ·)).map PyData.list = _
    rw [mapO_str]
    rfl
  show O.or (match toD 30 (.lst [.tup (zs.map P.str), .int (n : Int)]) with
    | some d => if okR d = true then O.ok (W.v (.str d.shown)) μ else .bad
    | none => .bad) _ = _
  rw [e]
  show O.or (if okR _ = true then _ else _) _ = _
  rw [if_pos (fw_ok g1 (by decide))]
  rfl
/-- the law's rows -/
abbrev etP (s : Tb) : P := .lst ((srt (keys s)).map fun z => P.tup [.str z, .int (val s z)])
theorem mapO_en (n : Nat) (s : Tb) : ∀ zs : List Str, mapO (toD (n + 1)) (zs.map fun z => P.tup [.str z, .int (val s z)]) = some (zs.map fun z => PyData.tuple [.str z, .int (val s z)])
  | [] => rfl
  | z :: zs => by
    show (toD (n + 1) (P.tup [.str z, .int (val s z)])).bind (fun y => (mapO (toD (n + 1)) (zs.map fun z => P.tup [.str z, .int (val s z)])).map (y :: ·)) = _
    rw [mapO_en n s zs]
    cases n <;> rfl
theorem repr_rows (h : Sz s) : ∃ x, ∀ μ, fReprX [.v (.lst [dctP (ord s), etP s])] μ = .ok (.v (.str x)) μ := by
  have l8 := h.le
  have ds : ∀ d ∈ (srt (keys s)).map fun z => PyData.tuple [.str z, .int (val s z)], Fw ((100 + 2) * 2 + 3) d ∧ d.depth ≤ 1 := fun d md => by
    obtain ⟨z, mz, rfl⟩ := List.mem_map.mp md
    have mz := srt_mem.mp mz
    refine fw_tup (k := 0) (m := 2) (by omega) (fun x mx => ?_) (Nat.le_refl 2)
    rcases List.mem_cons.mp mx with rfl | mx
    · exact ⟨fw_str (h.nm z mz), Nat.le_refl 0⟩
    · rw [List.mem_singleton.mp mx]
      exact ⟨fw_int (h.vb mz), Nat.le_refl 0⟩
  obtain ⟨g1, _⟩ := fw_lst (k := 1) (m := 8) (by omega) ds (by rw [List.length_map, srt_len, len_keys]; exact l8)
  have e1 : elP (dctP (ord s)) = some (.dict ((ord s).map fun p => (PyData.str p.1, PyData.int p.2))) := by
    show (if ((ord s).map rowP).length ≤ 40 then (((ord s).map rowP).mapM tkv).map PyData.dict else none) = _
    rw [if_pos (by rw [List.length_map, len_ord]; omega), tkv_tb h.ord.sm]
    rfl
  have e2 : elP (etP s) = some (.list ((srt (keys s)).map fun z => PyData.tuple [.str z, .int (val s z)])) := by
    show ((mapO (toD 29) ((srt (keys s)).map fun z => P.tup [.str z, .int (val s z)])).map PyData.list).bind _ = _
    rw [mapO_en]
    show (if _ then _ else _) = _
    rw [if_pos ⟨fw_ok g1 (by decide), Nat.le_trans g1.le (by decide)⟩]
  refine ⟨PyData.shown (.list [.dict ((ord s).map fun p => (PyData.str p.1, PyData.int p.2)), .list ((srt (keys s)).map fun z => PyData.tuple [.str z, .int (val s z)])]), fun μ => ?_⟩
  show O.or (match toD 30 (.lst [dctP (ord s), etP s]) with
    | some d => if okR d = true then O.ok (W.v (.str d.shown)) μ else .bad
    | none => .bad) (O.or .bad (match [dctP (ord s), etP s].mapM elP with
        | some ds => O.ok (W.v (.str (PyData.list ds).shown)) μ
        | none => .bad)) = _
  rw [show toD 30 (.lst [dctP (ord s), etP s]) = none from rfl, List.mapM_cons, e1, List.mapM_cons, e2]
  rfl
theorem repr_tb (h : Sz s) : ∀ μ, fReprX [.v (dctP s)] μ = .ok (.v (.str (txtT s))) μ := fun μ => by
  have l8 := h.le
  show O.or .bad (O.or (if (s.map rowP).length ≤ 40 then match (s.map rowP).mapM tkv with
        | some ds => O.ok (W.v (.str (PyData.dict ds).shown)) μ
        | none => .bad
      else .bad) _) = _
  rw [O.or_bad, if_pos (by rw [List.length_map]; omega), tkv_tb h.sm]
  rfl
end
end Pu
set_option Elab.async false
set_option linter.all false
set_option maxRecDepth 100000
set_option maxHeartbeats 16000000
namespace Pu
open L2 PySem PySem.Spec PyProof.Rows E10
open He (ga ma)
local macro_rules | `(tactic| walk_at "pu wq1") => `(tactic| first | ((with_reducible apply wo_var); next => rfl) | with_reducible refine wo_c ?_ | with_reducible refine wo_op ?_ | with_reducible refine wo_call ?_ | with_reducible refine wa_cons ?_ | with_reducible refine wa_nil ?_ | with_reducible refine wo_eq add_ii ?_ | with_reducible refine wo_eq sub_ii ?_ | with_reducible refine wo_eq le_ii ?_ | with_reducible refine wo_eq lt_ii ?_ | with_reducible refine wo_eq gt_ii ?_ | with_reducible refine wo_eq eq_ii ?_ | with_reducible refine ws_seq ?_ | with_reducible refine ws_set ?_ | ((with_reducible apply st1); next => ((try simp only [List.set_cons_zero, List.set_cons_succ]); first | done | rfl)) | with_reducible refine ws_ret ?_ | with_reducible refine ws_drop ?_ | with_reducible refine ws_next ?_ | with_reducible refine ws_for ?_ | with_reducible refine wt_test ?_ | with_reducible refine isB ?_ | with_reducible refine isV ?_ | with_reducible refine isI ?_ | with_reducible refine bi_tt ?_ | with_reducible refine bi_ff ?_ | with_reducible refine bi_not ?_ | with_reducible refine bi_bneF ?_ | with_reducible refine bi_bneT ?_ | ((with_reducible refine bi_T ?_ ?_); next => assumption) | ((with_reducible refine bi_F ?_ ?_); next => assumption) | ((with_reducible refine bi_dT ?_ ?_); next => assumption) | ((with_reducible refine bi_dF ?_ ?_); next => assumption) | with_reducible refine wt_not ?_ | with_reducible refine wt_and ?_ | with_reducible refine wt_or ?_ | with_reducible refine wt_yes ?_ | with_reducible refine wo_andV ?_ | with_reducible refine wo_orV ?_ | with_reducible refine wo_notV ?_ | with_reducible refine wo_if ?_ | with_reducible refine wo_chain ?_ | with_reducible refine wo_seq ?_ | with_reducible refine wo_lstC ?_ | with_reducible refine isVs1 ?_ | with_reducible refine isVs0 ?_ | with_reducible refine isVsA ?_ | with_reducible refine isVsM ?_ | ((with_reducible refine few1 ?_ ?_); next => (first | decide | (simp only [List.length_map, List.length_append, List.length_cons, List.length_nil]; omega))) | with_reducible refine wo_fld ?_ | with_reducible refine wo_meth ?_ | with_reducible refine wo_prop ?_ | with_reducible refine isO ?_ | with_reducible refine wo_callO ?_ | with_reducible refine wo_mk ?_ | with_reducible refine wo_frz ?_ | with_reducible refine wo_frzv ?_ | with_reducible refine wo_drop ?_ | ((with_reducible apply wo_fldv); next => rfl) | ((with_reducible apply noF); next => rfl) | with_reducible refine isC1 ?_ | ((with_reducible refine leM ?_ ?_); next => (first | exact Nat.le_refl _ | exact pot_le (by assumption) (by assumption))) | ((with_reducible apply wo_isi (c := true)); (next => rfl); (next => decide); (next => decide)) | ((with_reducible apply wo_isi (c := false)); (next => rfl); (next => decide); (next => decide)) | ((with_reducible refine wo_isiO1 ?_ ?_); next => simp) | ((with_reducible refine wo_isiOb ?_ ?_ ?_); (next => simp); (next => simp)) | ((with_reducible apply wo_isibO); (next => rfl); (next => simp)) | ((with_reducible refine wo_eqO ?_ ?_); next => simp) | ((with_reducible refine wo_neO ?_ ?_); next => simp) | with_reducible refine wo_own2 ?_ | with_reducible refine wo_ownI ?_ | with_reducible refine wo_iown ?_ | with_reducible refine wo_ixO ?_ | with_reducible refine wo_inO ?_ | with_reducible refine wi_any ?_ | with_reducible refine wi_vals ?_ | with_reducible refine wi_items ?_ | with_reducible refine wi_rg1 ?_ | with_reducible refine wo_lc ?_ | with_reducible refine wo_dc ?_ | ((with_reducible apply wo_lock); next => rfl) | ((with_reducible apply ws_lock); next => rfl) | with_reducible refine ws_par ?_ | with_reducible refine is2 ?_ | with_reducible refine ws_par3 ?_ | with_reducible refine is3 ?_ | with_reducible refine ws_asg ?_ | with_reducible refine wo_un ?_ | with_reducible refine wo_eq neg_i ?_ | with_reducible refine wo_eq eq_bb ?_ | with_reducible refine wo_eq eq_ss ?_ | with_reducible refine wo_eq max_ii ?_ | with_reducible refine wo_eq min_ii ?_ | with_reducible refine lew_v ?_ | with_reducible refine wo_bm ?_ | with_reducible refine wo_sl ?_ | with_reducible refine wq_none ?_ | with_reducible refine wq_some ?_ | with_reducible refine wo_ok ?_ | with_reducible refine ws_nx ?_ | with_reducible refine wo_get2 ?_ | ((with_reducible refine wo_eq (mul_ii ?_) ?_); next => (first | exact .inl (by decide) | exact .inr (by decide))) | ((with_reducible refine wo_eq (mod_ii ?_) ?_); next => decide) | ((with_reducible refine wo_eq (div_ii ?_) ?_); next => decide) | ((with_reducible refine wo_eq (pow_ii ?_) ?_); next => decide))
local macro_rules | `(tactic| walk_at "pu wp1") => `(tactic| first | walk_at "pu wq1" | with_reducible refine ws_if ?_)
local macro_rules | `(tactic| walk_at "pu wp") => `(tactic| repeat walk_at "pu wp1")
local macro_rules | `(tactic| walk_at "pu wq") => `(tactic| repeat walk_at "pu wq1")
local macro_rules | `(tactic| walk_at "pu wdef") => `(tactic| (apply wo_def rfl; next => ((try simp only [List.map_cons, List.map_nil, List.replicate_succ, List.replicate_zero, List.cons_append, List.nil_append, List.append_nil, List.length_cons, List.length_nil, Nat.reduceAdd, Nat.reduceSub]); first | done | rfl)))
local macro_rules | `(tactic| walk_at "pu wdone") => `(tactic| exact ⟨rfl, by first | rfl | exact List.take_length⟩)
section
variable {Pg : Program} {w : World} {K : PySem.W.Frag} {r m μ : Μ} {Q : W → Μ → Prop} {X : XP} {s t : Tb} {zs : List Str} {z : Str}
theorem mul_sS {k : Int} (h : 0 ≤ k ∧ k ≤ 1) : gMul (.v (.str z)) (.v (.int k)) μ = .ok (.v (.str (if k = 1 then z else Str.empty))) μ := by
  show O.or .bad (O.or .bad (if 0 ≤ k ∧ k ≤ 1 then O.ok (W.v (.str (if k = 1 then z else Str.empty))) μ else .bad)) = _
  rw [if_pos h]
  rfl
theorem int_bl {b : Bool} : fInt [.v (.bl b)] μ = .ok (.v (.int (if b = true then 1 else 0))) μ := by
  cases b <;> rfl
theorem strI {i : Int} (h : i.natAbs < 10 ^ 70) : fStrI [.v (.int i)] μ = .ok (.v (.str (Str.ofString (toString i)))) μ := if_pos (log_of h)
theorem e_law_text {i : Int} (hz : Nm z) (h : i.natAbs < 10 ^ 70) : D__law_text Pg w K [.v (.str z), .v (.int i)] μ = .ok (.v (.str (tmT z i))) μ := eq_wo (by
  have lz := hz.hi
  have li := int_len h
  have e1 : (("+" : String) : Str).length = 1 := rfl
  unfold D__law_text
  walk_at "pu wdef"
  walk_at "pu wp"
  refine bi_if (fun c => ?_) fun c => ?_
  · walk_at "pu wp"
    refine ⟨?_, List.take_length⟩
    unfold tmT
    rw [if_pos (by simpa using c)]
  have c : ¬ i = 0 := by simpa using c
  walk_at "pu wp"
  refine wo_eq int_bl ?_
  by_cases g : 0 < i
  · rw [decide_eq_true (p := (0 : Int) < i) g]
    refine wo_eq (mul_sS (by decide)) ?_
    rw [if_pos rfl, if_pos rfl]
    walk_at "pu wp"
    refine wo_eq (add_ss (a := z) (b := ("+" : Str)) (by omega)) ?_
    walk_at "pu wp"
    refine wo_eq (strI h) ?_
    refine wo_eq (add_ss (by rw [len_app]; omega)) ?_
    refine lew_v ⟨?_, List.take_length⟩
    unfold tmT plusText
    rw [if_neg c, if_neg (show ¬ i < 0 by omega), str_assoc]
  · rw [decide_eq_false (p := (0 : Int) < i) g]
    refine wo_eq (mul_sS (by decide)) ?_
    rw [if_neg (show ¬ (if false = true then (1 : Int) else 0) = 1 by decide)]
    walk_at "pu wp"
    refine wo_eq (add_ss (a := z) (b := Str.empty) (by have : Str.empty.length = 0 := rfl; omega)) ?_
    rw [str_nilR]
    walk_at "pu wp"
    refine wo_eq (strI h) ?_
    refine wo_eq (add_ss (by omega)) ?_
    refine lew_v ⟨?_, List.take_length⟩
    unfold tmT plusText
    rw [if_neg c, if_pos (show i < 0 by omega)])
theorem isC_ea : isC (ga K "Earliest") μ (.v (eaP K t)) = true := decide_eq_true rfl
theorem txt_ea {D : FF} {x : Str} (e : D [.v (eaP K t)] μ = .ok (.v (.str x)) μ) : fTextC (ga K "Earliest") D [.v (eaP K t)] μ = .ok (.v (.str x)) μ := by
  show (if isC (ga K "Earliest") μ (.v (eaP K t)) = true then _ else _) = _
  rw [if_pos isC_ea, e]
  rfl
theorem e_Earliest_len : D_Earliest___len__ Pg w K [.v (eaP K t)] μ = .ok (.v (.int t.length)) μ := eq_wo (by
  unfold D_Earliest___len__
  walk_at "pu wdef"
  repeat (first | walk_at "pu wp1" | with_reducible refine wo_eq (len_t) ?_)
  walk_at "pu wdone")
theorem ord_strE (nd : (keys s).Nodup) : strE (ord s) = Txt.join " " ((srt (keys s)).map fun z => tmT z (val s z)) := by
  unfold strE
  rw [keys_ord, show (srt (keys s)).map (fun z => tmT z (val (ord s) z)) = (srt (keys s)).map fun z => tmT z (val s z) from List.map_congr_left fun z _ => by rw [val_ord nd]]
theorem dict_en (nd : (keys s).Nodup) : gDict .val [.v (etP s)] μ = .ok (.v (dctP (ord s))) μ := by
  have := dict_pairs (μ := μ) (k := fun z : Str => z) (v := fun z => val s z) (l := srt (keys s)) (by rw [List.map_id']; exact srt_nodup nd)
  exact this
theorem eq_pair {a b : Str} : gEqX false (.v (.lst [.str a, .str b])) (.v (.lst [.str a, .str b])) μ = .ok (.v (.bl true)) μ := by
  have e : eqX 8 (.lst [.str a, .str b]) (.lst [.str a, .str b]) = some (decide ([a, b] = [a, b])) := eqX_l P.str (as := [a, b]) (bs := [a, b]) fun _ _ _ _ => eqX_s
  have := eq_X (μ := μ) (neg := false) (p := .lst [.str a, .str b]) (q := .lst [.str a, .str b]) (h := e) (hd := fun e => by cases e)
  simpa using this
theorem e_is_earliest (h : Sz s) : D__law_is_earliest Pg w K [.v (eaP K (ord s)), .v (dctP s)] μ = .ok (.v (.bl true)) μ := eq_wo (by
  have l8 := h.le
  have nd := h.nd
  have ls : (srt (keys s)).length ≤ 8 := by rw [srt_len, len_keys]; exact l8
  have hk : ∀ z ∈ srt (keys s), z ∈ keys s := fun z m => srt_mem.mp m
  obtain ⟨x1, hx1⟩ := repr_names (zs := srt (keys s)) (n := (srt (keys s)).length) (fun z m => h.nm z (hk z m)) ls ls
  obtain ⟨x2, hx2⟩ := repr_rows h
  have hx3 := repr_tb h.ord
  have ho := h.ord
  unfold D__law_is_earliest
  walk_at "pu wdef"
  repeat (first | walk_at "pu wp1" | with_reducible refine wo_eq (sort_t (t := s) (by omega)) ?_ | with_reducible refine wo_eq (it_strs (zs := srt (keys s)) (by omega)) ?_)
  refine wl_all P.str (fun z => .tup [.str z, .int (val s z)]) (l := srt (keys s)) (fun z mz => ⟨_, rfl, ?_⟩) ?_
  · repeat (first | walk_at "pu wp1" | with_reducible refine wo_eq (dget_ok (val_of (hk z mz))) ?_)
    exact ⟨rfl, rfl⟩
  repeat (first | walk_at "pu wp1" | with_reducible refine wo_eq (e_Earliest_moments) ?_)
  rw [keys_ord]
  refine wo_lenO ?_
  repeat (first | walk_at "pu wp1" | with_reducible refine wo_eq (e_Earliest_len) ?_)
  rw [show ((ord s).length : Int) = ((srt (keys s)).length : Nat) by rw [len_ord, srt_len, len_keys]]
  refine ⟨⟨by omega, by omega⟩, ?_⟩
  walk_at "pu wp"
  refine wo_eq (hx1 _) ?_
  repeat (first | walk_at "pu wp1" | with_reducible refine wo_eq (sort_t (t := s) (by omega)) ?_ | with_reducible refine wo_eq (tup_l) ?_ | with_reducible refine wo_eq (len_l) ?_)
  rw [List.length_map]
  refine wo_eq (hx1 _) ?_
  walk_at "pu wp"
  refine bi_T (by simp) ?_
  have it2 : ∀ μ, iAnyW (.v (etP s)) μ = .ok ((srt (keys s)).map fun z => P.tup [.str z, .int (val s z)]) μ := fun μ => it_l (by rw [List.length_map]; omega)
  repeat (first | walk_at "pu wp1" | with_reducible refine wo_eq (e_Earliest_shifts) ?_)
  refine wo_eq (frz_l rfl) ?_
  walk_at "pu wp"
  refine wo_eq (it2 _) ?_
  refine wl_all (fun z => P.tup [.str z, .int (val s z)]) (fun z => .tup [.str z, .int (val s z)]) (l := srt (keys s)) (fun z mz => ⟨_, rfl, ?_⟩) ?_
  · repeat (first | walk_at "pu wp1" | with_reducible refine wo_eq (e_Earliest_getitem (t := ord s) (z := z) (mem_ord.mpr (hk z mz))) ?_)
    rw [val_ord nd]
    exact ⟨rfl, rfl⟩
  walk_at "pu wp"
  refine wo_eq (hx2 _) ?_
  walk_at "pu wp"
  refine wo_eq (dict_en nd) ?_
  walk_at "pu wp"
  refine wo_eq (hx2 _) ?_
  walk_at "pu wp"
  refine bi_T (by simp) ?_
  walk_at "pu wp"
  refine wo_eq (it2 _) ?_
  refine wl_all (fun z => P.tup [.str z, .int (val s z)]) (fun z => P.str (tmT z (val s z))) (l := srt (keys s)) (fun z mz => ⟨_, rfl, ?_⟩) ?_
  · walk_at "pu wp"
    refine wo_eq (e_law_text (h.nm z (hk z mz)) (h.vb (hk z mz))) ?_
    exact ⟨rfl, rfl⟩
  rw [show ((srt (keys s)).map fun z => P.str (tmT z (val s z))) = ((srt (keys s)).map fun z => tmT z (val s z)).map P.str by rw [List.map_map]; rfl]
  walk_at "pu wp"
  refine wo_join ?_
  walk_at "pu wp"
  refine ⟨_, rfl, ?_⟩
  walk_at "pu wp"
  refine ⟨_, strs_str _, ?_, ?_⟩
  · have := sum_le (l := ((srt (keys s)).map fun z => tmT z (val s z)).map (·.length)) (c := 109) fun x mx => by
      obtain ⟨y, my, rfl⟩ := List.mem_map.mp mx
      obtain ⟨z, mz, rfl⟩ := List.mem_map.mp my
      exact tm_len (h.nm z (hk z mz)) (h.vb (hk z mz))
    rw [List.length_map, List.length_map] at this
    rw [List.length_map, show ((" " : String) : Str).length = 1 from rfl, Nat.mul_one]
    omega
  rw [← ord_strE nd]
  walk_at "pu wp"
  refine wo_eq (dict_en nd) ?_
  walk_at "pu wp"
  refine wo_eq (hx3 _) ?_
  have lt := txt_len ho.sm (by rw [len_ord]; omega)
  walk_at "pu wp"
  refine wo_eq (add_ss (a := ("Earliest(" : Str)) (b := txtT (ord s)) (by show 9 + _ ≤ _; omega)) ?_
  walk_at "pu wp"
  refine wo_eq (add_ss (a := ("Earliest(" : Str) ++ txtT (ord s)) (b := (")" : Str)) (by rw [len_app]; show 9 + _ + 1 ≤ _; omega)) ?_
  rw [show (("Earliest(" : Str) ++ txtT (ord s) ++ (")" : Str)) = txtE (ord s) from rfl]
  walk_at "pu wp"
  refine wo_eq (txt_ea (e_Earliest_str ho.sm ho.nd (by rw [len_ord]; omega))) ?_
  walk_at "pu wp"
  refine wo_eq (txt_ea (e_Earliest_repr ho.sm (by rw [len_ord]; omega))) ?_
  walk_at "pu wp"
  refine wo_eq eq_pair ?_
  walk_at "pu wp"
  walk_at "pu wdone")
end
end Pu
set_option Elab.async false
set_option linter.all false
set_option maxRecDepth 100000
set_option maxHeartbeats 16000000
namespace Pu
open L2 PySem PySem.Spec PyProof.Rows E10
open He (ga ma)
local macro_rules | `(tactic| walk_at "pu wq1") => `(tactic| first | ((with_reducible apply wo_var); next => rfl) | with_reducible refine wo_c ?_ | with_reducible refine wo_op ?_ | with_reducible refine wo_call ?_ | with_reducible refine wa_cons ?_ | with_reducible refine wa_nil ?_ | with_reducible refine wo_eq add_ii ?_ | with_reducible refine wo_eq sub_ii ?_ | with_reducible refine wo_eq le_ii ?_ | with_reducible refine wo_eq lt_ii ?_ | with_reducible refine wo_eq gt_ii ?_ | with_reducible refine wo_eq eq_ii ?_ | with_reducible refine ws_seq ?_ | with_reducible refine ws_set ?_ | ((with_reducible apply st1); next => ((try simp only [List.set_cons_zero, List.set_cons_succ]); first | done | rfl)) | with_reducible refine ws_ret ?_ | with_reducible refine ws_drop ?_ | with_reducible refine ws_next ?_ | with_reducible refine ws_for ?_ | with_reducible refine wt_test ?_ | with_reducible refine isB ?_ | with_reducible refine isV ?_ | with_reducible refine isI ?_ | with_reducible refine bi_tt ?_ | with_reducible refine bi_ff ?_ | with_reducible refine bi_not ?_ | with_reducible refine bi_bneF ?_ | with_reducible refine bi_bneT ?_ | ((with_reducible refine bi_T ?_ ?_); next => assumption) | ((with_reducible refine bi_F ?_ ?_); next => assumption) | ((with_reducible refine bi_dT ?_ ?_); next => assumption) | ((with_reducible refine bi_dF ?_ ?_); next => assumption) | with_reducible refine wt_not ?_ | with_reducible refine wt_and ?_ | with_reducible refine wt_or ?_ | with_reducible refine wt_yes ?_ | with_reducible refine wo_andV ?_ | with_reducible refine wo_orV ?_ | with_reducible refine wo_notV ?_ | with_reducible refine wo_if ?_ | with_reducible refine wo_chain ?_ | with_reducible refine wo_seq ?_ | with_reducible refine wo_lstC ?_ | with_reducible refine isVs1 ?_ | with_reducible refine isVs0 ?_ | with_reducible refine isVsA ?_ | with_reducible refine isVsM ?_ | ((with_reducible refine few1 ?_ ?_); next => (first | decide | (simp only [List.length_map, List.length_append, List.length_cons, List.length_nil]; omega))) | with_reducible refine wo_fld ?_ | with_reducible refine wo_meth ?_ | with_reducible refine wo_prop ?_ | with_reducible refine isO ?_ | with_reducible refine wo_callO ?_ | with_reducible refine wo_mk ?_ | with_reducible refine wo_frz ?_ | with_reducible refine wo_frzv ?_ | with_reducible refine wo_drop ?_ | ((with_reducible apply wo_fldv); next => rfl) | ((with_reducible apply noF); next => rfl) | with_reducible refine isC1 ?_ | ((with_reducible refine leM ?_ ?_); next => (first | exact Nat.le_refl _ | exact pot_le (by assumption) (by assumption))) | ((with_reducible apply wo_isi (c := true)); (next => rfl); (next => decide); (next => decide)) | ((with_reducible apply wo_isi (c := false)); (next => rfl); (next => decide); (next => decide)) | ((with_reducible refine wo_isiO1 ?_ ?_); next => simp) | ((with_reducible refine wo_isiOb ?_ ?_ ?_); (next => simp); (next => simp)) | ((with_reducible apply wo_isibO); (next => rfl); (next => simp)) | ((with_reducible refine wo_eqO ?_ ?_); next => simp) | ((with_reducible refine wo_neO ?_ ?_); next => simp) | with_reducible refine wo_own2 ?_ | with_reducible refine wo_ownI ?_ | with_reducible refine wo_iown ?_ | with_reducible refine wo_ixO ?_ | with_reducible refine wo_inO ?_ | with_reducible refine wi_any ?_ | with_reducible refine wi_vals ?_ | with_reducible refine wi_items ?_ | with_reducible refine wi_rg1 ?_ | with_reducible refine wo_lc ?_ | with_reducible refine wo_dc ?_ | ((with_reducible apply wo_lock); next => rfl) | ((with_reducible apply ws_lock); next => rfl) | with_reducible refine ws_par ?_ | with_reducible refine is2 ?_ | with_reducible refine ws_par3 ?_ | with_reducible refine is3 ?_ | with_reducible refine ws_asg ?_ | with_reducible refine wo_un ?_ | with_reducible refine wo_eq neg_i ?_ | with_reducible refine wo_eq eq_bb ?_ | with_reducible refine wo_eq eq_ss ?_ | with_reducible refine wo_eq max_ii ?_ | with_reducible refine wo_eq min_ii ?_ | with_reducible refine lew_v ?_ | with_reducible refine wo_bm ?_ | with_reducible refine wo_sl ?_ | with_reducible refine wq_none ?_ | with_reducible refine wq_some ?_ | with_reducible refine wo_ok ?_ | with_reducible refine ws_nx ?_ | with_reducible refine wo_get2 ?_ | ((with_reducible refine wo_eq (mul_ii ?_) ?_); next => (first | exact .inl (by decide) | exact .inr (by decide))) | ((with_reducible refine wo_eq (mod_ii ?_) ?_); next => decide) | ((with_reducible refine wo_eq (div_ii ?_) ?_); next => decide) | ((with_reducible refine wo_eq (pow_ii ?_) ?_); next => decide))
local macro_rules | `(tactic| walk_at "pu wp1") => `(tactic| first | walk_at "pu wq1" | with_reducible refine ws_if ?_)
local macro_rules | `(tactic| walk_at "pu wp") => `(tactic| repeat walk_at "pu wp1")
local macro_rules | `(tactic| walk_at "pu wq") => `(tactic| repeat walk_at "pu wq1")
local macro_rules | `(tactic| walk_at "pu wdef") => `(tactic| (apply wo_def rfl; next => ((try simp only [List.map_cons, List.map_nil, List.replicate_succ, List.replicate_zero, List.cons_append, List.nil_append, List.append_nil, List.length_cons, List.length_nil, Nat.reduceAdd, Nat.reduceSub]); first | done | rfl)))
local macro_rules | `(tactic| walk_at "pu wdone") => `(tactic| exact ⟨rfl, by first | rfl | exact List.take_length⟩)
section
variable {Pg : Program} {w : World} {K : PySem.W.Frag} {r m μ : Μ} {Q : W → Μ → Prop} {X : XP} {s t : Tb} {zs : List Str} {z : Str}
theorem wl_id {γ : Γ} {t : GF} {E : EF} {QL : List P → Μ → Prop} (e : P → P) {l : List P} {m : Μ} (h : ∀ a ∈ l, ∃ γ1, t a γ = some γ1 ∧ WO (E γ1 m) (fun w m' => w = .v (e a) ∧ m' = m) X0) (k : QL (l.map e) m) : WO (lcGo t fYes E γ l m) QL X := by
  have := wl_all (X := X) (γ := γ) (t := t) (E := E) (fun p : P => p) e (l := l) h k
  rwa [List.map_id'] at this
/-- values that are no text -/
def NoS (K : PySem.W.Frag) (p : P) : Prop := p = .non ∨ (∃ i, p = .int i) ∨ (∃ b, p = .bl b) ∨ (∃ ps, p = .tup ps) ∨ (∃ ps, p = .lst ps) ∨ (∃ ks, p = .dct ks) ∨ ∃ z n, p = teP K z n
theorem no_isi {p : P} (h : NoS K p) : fIsi [(ga K "Earliest"), (ga K "Term")] [.v p, .v (.ty "str")] μ = .ok (.v (.bl false)) μ := by
  rcases h with rfl | ⟨i, rfl⟩ | ⟨b, rfl⟩ | ⟨ps, rfl⟩ | ⟨ps, rfl⟩ | ⟨ks, rfl⟩ | ⟨z, n, rfl⟩
  · exact eq_wo (by walk_at "pu wp"; exact ⟨rfl, rfl⟩)
  · exact eq_wo (by walk_at "pu wp"; exact ⟨rfl, rfl⟩)
  · exact eq_wo (by walk_at "pu wp"; exact ⟨rfl, rfl⟩)
  · exact eq_wo (by walk_at "pu wp"; exact ⟨rfl, rfl⟩)
  · exact eq_wo (by walk_at "pu wp"; exact ⟨rfl, rfl⟩)
  · exact eq_wo (by walk_at "pu wp"; exact ⟨rfl, rfl⟩)
  · exact eq_wo (wo_isiOb (by simp) (by simp) ⟨rfl, rfl⟩)
theorem e_contains_no {p : P} (h : NoS K p) : D_Earliest___contains__ Pg w K [.v (eaP K t), .v p] μ = .ok (.v (.bl false)) μ := eq_wo (by
  have e : D_is_moment_of Pg w K [.v p, .v (dctP t)] μ = .ok (.v (.bl false)) μ := eq_wo (by
    unfold D_is_moment_of
    walk_at "pu wdef"
    walk_at "pu wp"
    refine wo_eq (no_isi h) ?_
    walk_at "pu wp"
    walk_at "pu wdone")
  unfold D_Earliest___contains__
  walk_at "pu wdef"
  walk_at "pu wp"
  refine wo_eq e ?_
  walk_at "pu wp"
  walk_at "pu wdone")
theorem nl_out {y : Str} (h : ∀ z ∈ keys s, Nm z) : (y ++ "\n" : Str) ∉ keys s := fun m => by
  have := (h _ m).az 10 (by rw [Str.cps_append, Array.toList_append]; exact List.mem_append_right _ (by decide))
  omega
theorem sp_out {y : Str} (h : ∀ z ∈ keys s, Nm z) : ((" " : Str) ++ y) ∉ keys s := fun m => by
  have := (h _ m).az 32 (by rw [Str.cps_append, Array.toList_append]; exact List.mem_append_left _ (by decide))
  omega
theorem e_in_right (h : Sz s) : D__law_in_right Pg w K [.v (eaP K (ord s)), .v (dctP s)] μ = .ok (.v (.bl true)) μ := eq_wo (by
  have l8 := h.le
  obtain ⟨z0, zr, ek⟩ : ∃ a l, keys s = a :: l := by
    cases e : keys s with
    | nil => exact absurd e (keys_ne h.ne)
    | cons a l => exact ⟨a, l, rfl⟩
  have m0 : z0 ∈ keys s := by rw [ek]; exact List.mem_cons_self
  have n0 := h.nm z0 m0
  have h0 := n0.hi
  have k0 : ∀ μ, gIx (.v (.lst ((keys s).map P.str))) (.v (.int 0)) μ = .ok (.v (.str z0)) μ := fun μ => by
    rw [ek, List.map_cons]
    exact ix_0
  unfold D__law_in_right
  walk_at "pu wdef"
  walk_at "pu wp"
  rw [show (P.lst [.str "a", .str "q", .str "zzzzzzzz", .str "", .str "A"]) = .lst ((["a", "q", "zzzzzzzz", "", "A"] : List Str).map P.str) from rfl]
  refine wo_eq (it_strs (zs := ["a", "q", "zzzzzzzz", "", "A"]) (by decide)) ?_
  refine wl_on P.str (fun z => decide (z ∉ keys s)) P.str (l := ["a", "q", "zzzzzzzz", "", "A"]) (fun z mz => ⟨_, rfl, ?_, fun _ => ?_⟩) ?_
  · repeat (first | walk_at "pu wp1" | with_reducible refine wo_eq (din_ok true) ?_)
    exact ⟨by simp, rfl⟩
  · walk_at "pu wp"
    exact ⟨rfl, rfl⟩
  have l5 : ((["a", "q", "zzzzzzzz", "", "A"] : List Str).filter fun z => decide (z ∉ keys s)).length ≤ 5 := List.length_filter_le _ _
  have out5 : ∀ z ∈ (["a", "q", "zzzzzzzz", "", "A"] : List Str).filter (fun z => decide (z ∉ keys s)), z ∉ keys s := fun z mz => of_decide_eq_true (List.mem_filter.mp mz).2
  generalize ((["a", "q", "zzzzzzzz", "", "A"] : List Str).filter fun z => decide (z ∉ keys s)) = L5 at *
  repeat (first | walk_at "pu wp1" | with_reducible refine wo_eq (tup_t) ?_ | with_reducible refine wo_eq (list_t) ?_)
  refine wo_mkDv ?_
  repeat (first | walk_at "pu wp1" | with_reducible refine wo_eq (tup_t) ?_ | with_reducible refine wo_eq (list_t) ?_)
  refine wo_eq (k0 _) ?_
  walk_at "pu wp"
  have tm : ∀ μ, (makeP (ga K "Term") (fDfl dv1_Term___init__ (D_Term___init__ Pg w K)) [.v (.str z0)] μ).bind (frzP μ.length) = .ok (.v (teP K z0 0)) μ := fun μ => e_Term (n := 0) n0
  refine wo_eq (tm _) ?_
  walk_at "pu wp"
  refine wo_eq (add_ll (by rw [List.length_map]; show _ + 9 ≤ _; omega)) ?_
  repeat (first | walk_at "pu wp1" | with_reducible refine wo_eq (list_t) ?_)
  refine wo_eq (k0 _) ?_
  walk_at "pu wp"
  refine wo_eq (add_ss (a := z0) (b := "\n") (by show _ + 1 ≤ _; omega)) ?_
  repeat (first | walk_at "pu wp1" | with_reducible refine wo_eq (list_t) ?_)
  refine wo_eq (k0 _) ?_
  walk_at "pu wp"
  refine wo_eq (add_ss (a := " ") (b := z0) (by show 1 + _ ≤ _; omega)) ?_
  walk_at "pu wp"
  refine wo_eq (add_ll (by rw [List.length_append, List.length_map]; show _ + 9 + 2 ≤ _; omega)) ?_
  repeat (first | walk_at "pu wp1" | with_reducible refine wo_eq (it_d (t := s) (show s.length ≤ 100000 by omega)) ?_)
  refine wl_all P.str (fun _ => P.bl true) (l := keys s) (fun z mz => ⟨_, rfl, ?_⟩) ?_
  · repeat (first | walk_at "pu wp1" | with_reducible refine wo_eq (e_Earliest_contains) ?_)
    rw [decide_eq_true (mem_ord.mpr mz)]
    exact ⟨rfl, rfl⟩
  repeat (first | walk_at "pu wp1" | with_reducible refine wo_eq (bls_all (bls_map (fun _ => true) (keys s))) ?_)
  rw [show ((keys s).map fun _ => true).all id = true by simp]
  walk_at "pu wp"
  refine wo_eq (it_l (by rw [List.length_append, List.length_append, List.length_map]; show _ + 9 + 2 ≤ _; omega)) ?_
  refine wl_id (fun _ => P.bl false) (fun p mp => ⟨_, rfl, ?_⟩) ?_
  · have str : ∀ z, z ∉ keys s → D_Earliest___contains__ Pg w K [.v (eaP K (ord s)), .v (.str z)] μ = .ok (.v (.bl false)) μ := fun z nz => by
      rw [e_Earliest_contains, decide_eq_false fun h => nz (mem_ord.mp h)]
    have oth : ∀ p, NoS K p → D_Earliest___contains__ Pg w K [.v (eaP K (ord s)), .v p] μ = .ok (.v (.bl false)) μ := fun p hp => e_contains_no hp
    walk_at "pu wp"
    refine wo_eq (a := .v (.bl false)) (m := μ) ?_ (by walk_at "pu wp"; exact ⟨rfl, rfl⟩)
    rcases List.mem_append.mp mp with mp | mp
    · rcases List.mem_append.mp mp with mp | mp
      · obtain ⟨z, mz, rfl⟩ := List.mem_map.mp mp
        exact str z (out5 z mz)
      · refine oth p ?_
        simp only [List.mem_cons, List.not_mem_nil, or_false] at mp
        rcases mp with rfl | rfl | rfl | rfl | rfl | rfl | rfl | rfl | rfl
        · exact .inl rfl
        · exact .inr (.inl ⟨_, rfl⟩)
        · exact .inr (.inr (.inl ⟨_, rfl⟩))
        · exact .inr (.inr (.inr (.inl ⟨_, rfl⟩)))
        · exact .inr (.inr (.inr (.inr (.inl ⟨_, rfl⟩))))
        · exact .inr (.inr (.inr (.inr (.inr (.inl ⟨_, rfl⟩)))))
        · exact .inr (.inr (.inr (.inl ⟨_, rfl⟩)))
        · exact .inr (.inr (.inr (.inr (.inl ⟨_, rfl⟩))))
        · exact .inr (.inr (.inr (.inr (.inr (.inr ⟨_, _, rfl⟩)))))
    · simp only [List.mem_cons, List.not_mem_nil, or_false] at mp
      rcases mp with rfl | rfl
      · exact str _ (nl_out h.nm)
      · exact str _ (sp_out h.nm)
  walk_at "pu wp"
  refine wo_eq (bls_all (bls_map (fun _ => false) _)) ?_
  walk_at "pu wp"
  exact ⟨by simp, List.take_length⟩)
end
end Pu
set_option Elab.async false
set_option linter.all false
set_option maxRecDepth 100000
set_option maxHeartbeats 16000000
namespace Pu
open L2 PySem PySem.Spec PyProof.Rows E10
open He (ga ma)
local macro_rules | `(tactic| walk_at "pu wq1") => `(tactic| first | ((with_reducible apply wo_var); next => rfl) | with_reducible refine wo_c ?_ | with_reducible refine wo_op ?_ | with_reducible refine wo_call ?_ | with_reducible refine wa_cons ?_ | with_reducible refine wa_nil ?_ | with_reducible refine wo_eq add_ii ?_ | with_reducible refine wo_eq sub_ii ?_ | with_reducible refine wo_eq le_ii ?_ | with_reducible refine wo_eq lt_ii ?_ | with_reducible refine wo_eq gt_ii ?_ | with_reducible refine wo_eq eq_ii ?_ | with_reducible refine ws_seq ?_ | with_reducible refine ws_set ?_ | ((with_reducible apply st1); next => ((try simp only [List.set_cons_zero, List.set_cons_succ]); first | done | rfl)) | with_reducible refine ws_ret ?_ | with_reducible refine ws_drop ?_ | with_reducible refine ws_next ?_ | with_reducible refine ws_for ?_ | with_reducible refine wt_test ?_ | with_reducible refine isB ?_ | with_reducible refine isV ?_ | with_reducible refine isI ?_ | with_reducible refine bi_tt ?_ | with_reducible refine bi_ff ?_ | with_reducible refine bi_not ?_ | with_reducible refine bi_bneF ?_ | with_reducible refine bi_bneT ?_ | ((with_reducible refine bi_T ?_ ?_); next => assumption) | ((with_reducible refine bi_F ?_ ?_); next => assumption) | ((with_reducible refine bi_dT ?_ ?_); next => assumption) | ((with_reducible refine bi_dF ?_ ?_); next => assumption) | with_reducible refine wt_not ?_ | with_reducible refine wt_and ?_ | with_reducible refine wt_or ?_ | with_reducible refine wt_yes ?_ | with_reducible refine wo_andV ?_ | with_reducible refine wo_orV ?_ | with_reducible refine wo_notV ?_ | with_reducible refine wo_if ?_ | with_reducible refine wo_chain ?_ | with_reducible refine wo_seq ?_ | with_reducible refine wo_lstC ?_ | with_reducible refine isVs1 ?_ | with_reducible refine isVs0 ?_ | with_reducible refine isVsA ?_ | with_reducible refine isVsM ?_ | ((with_reducible refine few1 ?_ ?_); next => (first | decide | (simp only [List.length_map, List.length_append, List.length_cons, List.length_nil]; omega))) | with_reducible refine wo_fld ?_ | with_reducible refine wo_meth ?_ | with_reducible refine wo_prop ?_ | with_reducible refine isO ?_ | with_reducible refine wo_callO ?_ | with_reducible refine wo_mk ?_ | with_reducible refine wo_frz ?_ | with_reducible refine wo_frzv ?_ | with_reducible refine wo_drop ?_ | ((with_reducible apply wo_fldv); next => rfl) | ((with_reducible apply noF); next => rfl) | with_reducible refine isC1 ?_ | ((with_reducible refine leM ?_ ?_); next => (first | exact Nat.le_refl _ | exact pot_le (by assumption) (by assumption))) | ((with_reducible apply wo_isi (c := true)); (next => rfl); (next => decide); (next => decide)) | ((with_reducible apply wo_isi (c := false)); (next => rfl); (next => decide); (next => decide)) | ((with_reducible refine wo_isiO1 ?_ ?_); next => simp) | ((with_reducible refine wo_isiOb ?_ ?_ ?_); (next => simp); (next => simp)) | ((with_reducible apply wo_isibO); (next => rfl); (next => simp)) | ((with_reducible refine wo_eqO ?_ ?_); next => simp) | ((with_reducible refine wo_neO ?_ ?_); next => simp) | with_reducible refine wo_own2 ?_ | with_reducible refine wo_ownI ?_ | with_reducible refine wo_iown ?_ | with_reducible refine wo_ixO ?_ | with_reducible refine wo_inO ?_ | with_reducible refine wi_any ?_ | with_reducible refine wi_vals ?_ | with_reducible refine wi_items ?_ | with_reducible refine wi_rg1 ?_ | with_reducible refine wo_lc ?_ | with_reducible refine wo_dc ?_ | ((with_reducible apply wo_lock); next => rfl) | ((with_reducible apply ws_lock); next => rfl) | with_reducible refine ws_par ?_ | with_reducible refine is2 ?_ | with_reducible refine ws_par3 ?_ | with_reducible refine is3 ?_ | with_reducible refine ws_asg ?_ | with_reducible refine wo_un ?_ | with_reducible refine wo_eq neg_i ?_ | with_reducible refine wo_eq eq_bb ?_ | with_reducible refine wo_eq eq_ss ?_ | with_reducible refine wo_eq max_ii ?_ | with_reducible refine wo_eq min_ii ?_ | with_reducible refine lew_v ?_ | with_reducible refine wo_bm ?_ | with_reducible refine wo_sl ?_ | with_reducible refine wq_none ?_ | with_reducible refine wq_some ?_ | with_reducible refine wo_ok ?_ | with_reducible refine ws_nx ?_ | with_reducible refine wo_get2 ?_ | ((with_reducible refine wo_eq (mul_ii ?_) ?_); next => (first | exact .inl (by decide) | exact .inr (by decide))) | ((with_reducible refine wo_eq (mod_ii ?_) ?_); next => decide) | ((with_reducible refine wo_eq (div_ii ?_) ?_); next => decide) | ((with_reducible refine wo_eq (pow_ii ?_) ?_); next => decide))
local macro_rules | `(tactic| walk_at "pu wp1") => `(tactic| first | walk_at "pu wq1" | with_reducible refine ws_if ?_)
local macro_rules | `(tactic| walk_at "pu wp") => `(tactic| repeat walk_at "pu wp1")
local macro_rules | `(tactic| walk_at "pu wq") => `(tactic| repeat walk_at "pu wq1")
local macro_rules | `(tactic| walk_at "pu wdef") => `(tactic| (apply wo_def rfl; next => ((try simp only [List.map_cons, List.map_nil, List.replicate_succ, List.replicate_zero, List.cons_append, List.nil_append, List.append_nil, List.length_cons, List.length_nil, Nat.reduceAdd, Nat.reduceSub]); first | done | rfl)))
local macro_rules | `(tactic| walk_at "pu wdone") => `(tactic| exact ⟨rfl, by first | rfl | exact List.take_length⟩)
section
variable {Pg : Program} {w : World} {K : PySem.W.Frag} {r m μ : Μ} {Q : W → Μ → Prop} {X : XP} {s t : Tb} {zs : List Str} {z : Str}
/-- what the two are called by -/
abbrev cs2 (K : PySem.W.Frag) : List Addr := [ga K "Earliest", ga K "Term"]
theorem e_eq_no (E : ErK K) {p : P} (h : NoS K p ∨ ∃ z, p = .str z) : fEqO (ga K "Earliest") (cs2 K) (D_Earliest___eq__ Pg w K) (.v (eaP K t)) (.v p) μ = .ok (.v (.bl false)) μ := by
  have e : D_Earliest___eq__ Pg w K [.v (eaP K t), .v p] μ = .ok (.v (.bl false)) μ := eq_wo (by
    unfold D_Earliest___eq__
    walk_at "pu wdef"
    rcases h with (rfl | ⟨i, rfl⟩ | ⟨b, rfl⟩ | ⟨ps, rfl⟩ | ⟨ps, rfl⟩ | ⟨ks, rfl⟩ | ⟨z, n, rfl⟩) | ⟨z, rfl⟩
    · walk_at "pu wp"
      walk_at "pu wdone"
    · walk_at "pu wp"
      walk_at "pu wdone"
    · walk_at "pu wp"
      walk_at "pu wdone"
    · walk_at "pu wp"
      walk_at "pu wdone"
    · walk_at "pu wp"
      walk_at "pu wdone"
    · walk_at "pu wp"
      walk_at "pu wdone"
    · walk_at "pu wp"
      refine wo_isiO (by simp) (by simp) ?_
      rw [decide_eq_false fun e => E.ne_Earliest_Term e.symm]
      walk_at "pu wp"
      walk_at "pu wdone"
    · walk_at "pu wp"
      walk_at "pu wdone")
  have nf : ∃ T, tyP (cs2 K) μ (.v p) = some T ∧ nfP (cs2 K) T = true := by
    rcases h with (rfl | ⟨i, rfl⟩ | ⟨b, rfl⟩ | ⟨ps, rfl⟩ | ⟨ps, rfl⟩ | ⟨ks, rfl⟩ | ⟨z, n, rfl⟩) | ⟨z, rfl⟩
    · exact ⟨_, rfl, by simp [nfP]⟩
    · exact ⟨_, rfl, by simp [nfP]⟩
    · exact ⟨_, rfl, by simp [nfP]⟩
    · exact ⟨_, rfl, by simp [nfP]⟩
    · exact ⟨_, rfl, by simp [nfP]⟩
    · exact ⟨_, rfl, by simp [nfP]⟩
    · exact ⟨.ref (ga K "Term"), if_pos (by simp), decide_eq_true (by simp)⟩
    · exact ⟨_, rfl, by simp [nfP]⟩
  obtain ⟨T, e1, e2⟩ := nf
  unfold fEqO
  rw [if_pos isC_ea, e1]
  show (if nfP (cs2 K) T = true then _ else _) = _
  rw [if_pos e2, e]
  rfl
theorem e_eq_ea {a b : Tb} : fEqO (ga K "Earliest") (cs2 K) (D_Earliest___eq__ Pg w K) (.v (eaP K a)) (.v (eaP K b)) μ = .ok (.v (.bl (same a b))) μ := eq_wo (by
  refine wo_eqO (by simp) ?_
  refine wo_eq e_Earliest_eq ?_
  exact ⟨rfl, rfl⟩)
theorem ne_of {D : FF} {x y : W} {b : Bool} (e : fEqO (ga K "Earliest") (cs2 K) D x y μ = .ok (.v (.bl b)) μ) : fNeO (ga K "Earliest") (cs2 K) D x y μ = .ok (.v (.bl (!b))) μ := by
  unfold fNeO
  rw [e]
  rfl
theorem wo_static {F : FF} {ks : List Str} {A : AF} {γ : Γ} (h : WO (A γ μ) (fun ws m => ∃ ps, vals ws = some ps ∧ ps.length = ks.length ∧ WO (F [.v (.dct (kzP ks ps))] m) Q X) X) : WO (fStatic F ks A γ μ) Q X := wo_bind (wo_mono h (fun ws m ⟨ps, e, l, z⟩ => by
  rw [e]
  show WO (if ps.length = ks.length then _ else _) Q X
  rw [if_pos l]
  exact z) fun _ _ _ z => z)
theorem cut_lastP {α : Type} {xs : List α} {a : α} : cutP (xs ++ [a]) none (some (-1)) = xs := by
  unfold cutP
  have e : HT.sIx (xs ++ [a]).length (xs ++ [a]).length (some (-1)) = xs.length := by
    show (if (-1 : Int) < 0 then ((-1 : Int) + ((xs ++ [a]).length : Int)).toNat else min (-1 : Int).toNat (xs ++ [a]).length) = _
    rw [if_pos (by decide), List.length_append]
    show ((-1 : Int) + ((xs.length + 1 : Nat) : Int)).toNat = _
    omega
  rw [e]
  show ((xs ++ [a]).drop 0).take (xs.length - 0) = _
  rw [List.drop_zero, Nat.sub_zero, List.take_left]
theorem ix_lastP {xs : List P} {a : P} : gIx (.v (.lst (xs ++ [a]))) (.v (.int (-1))) μ = .ok (.v a) μ := by
  have e0 : ixN (xs ++ [a]).length (-1) = some xs.length := by
    unfold ixN
    rw [if_neg (by decide), List.length_append]
    have e1 : ((xs.length + [a].length : Nat) : Int) = (xs.length : Int) + 1 := by show ((xs.length + 1 : Nat) : Int) = _; omega
    rw [e1]
    simp
    omega
  have e : atI (xs ++ [a]) (-1) = some a := by
    unfold atI
    rw [e0]
    show (xs ++ [a])[xs.length]? = some a
    simp
  show O.or (match atI (xs ++ [a]) (-1) with
    | some p => O.ok (W.v p) μ
    | none => .bad) _ = _
  rw [e]
  rfl
theorem val_row {t : Tb} (nd : (keys t).Nodup) {z : Str} (m : z ∈ keys t) : (z, val t z) ∈ t := by
  obtain ⟨p, mp, rfl⟩ := List.mem_map.mp m
  rw [val_at nd (v := p.2) mp]
  exact mp
theorem keys_app (a b : Tb) : keys (a ++ b) = keys a ++ keys b := List.map_append
theorem ord_rev (nd : (keys s).Nodup) : ord s.reverse = ord s := by
  have kr : keys s.reverse = (keys s).reverse := List.map_reverse
  have nr : (keys s.reverse).Nodup := by rw [kr]; exact (List.reverse_perm _).nodup_iff.mpr nd
  unfold ord
  rw [srt_eq (show (keys s.reverse).Perm (keys s) by rw [kr]; exact List.reverse_perm _)]
  refine List.map_congr_left fun z mz => ?_
  have mz := srt_mem.mp mz
  have e : val s.reverse z = val s z := val_at nr (List.mem_reverse.mpr (val_row nd mz))
  rw [e]
end
end Pu
set_option Elab.async false
set_option linter.all false
set_option maxRecDepth 100000
set_option maxHeartbeats 16000000
namespace Pu
open L2 PySem PySem.Spec PyProof.Rows E10
open He (ga ma)
local macro_rules | `(tactic| walk_at "pu wq1") => `(tactic| first | ((with_reducible apply wo_var); next => rfl) | with_reducible refine wo_c ?_ | with_reducible refine wo_op ?_ | with_reducible refine wo_call ?_ | with_reducible refine wa_cons ?_ | with_reducible refine wa_nil ?_ | with_reducible refine wo_eq add_ii ?_ | with_reducible refine wo_eq sub_ii ?_ | with_reducible refine wo_eq le_ii ?_ | with_reducible refine wo_eq lt_ii ?_ | with_reducible refine wo_eq gt_ii ?_ | with_reducible refine wo_eq eq_ii ?_ | with_reducible refine ws_seq ?_ | with_reducible refine ws_set ?_ | ((with_reducible apply st1); next => ((try simp only [List.set_cons_zero, List.set_cons_succ]); first | done | rfl)) | with_reducible refine ws_ret ?_ | with_reducible refine ws_drop ?_ | with_reducible refine ws_next ?_ | with_reducible refine ws_for ?_ | with_reducible refine wt_test ?_ | with_reducible refine isB ?_ | with_reducible refine isV ?_ | with_reducible refine isI ?_ | with_reducible refine bi_tt ?_ | with_reducible refine bi_ff ?_ | with_reducible refine bi_not ?_ | with_reducible refine bi_bneF ?_ | with_reducible refine bi_bneT ?_ | ((with_reducible refine bi_T ?_ ?_); next => assumption) | ((with_reducible refine bi_F ?_ ?_); next => assumption) | ((with_reducible refine bi_dT ?_ ?_); next => assumption) | ((with_reducible refine bi_dF ?_ ?_); next => assumption) | with_reducible refine wt_not ?_ | with_reducible refine wt_and ?_ | with_reducible refine wt_or ?_ | with_reducible refine wt_yes ?_ | with_reducible refine wo_andV ?_ | with_reducible refine wo_orV ?_ | with_reducible refine wo_notV ?_ | with_reducible refine wo_if ?_ | with_reducible refine wo_chain ?_ | with_reducible refine wo_seq ?_ | with_reducible refine wo_lstC ?_ | with_reducible refine isVs1 ?_ | with_reducible refine isVs0 ?_ | with_reducible refine isVsA ?_ | with_reducible refine isVsM ?_ | ((with_reducible refine few1 ?_ ?_); next => (first | decide | (simp only [List.length_map, List.length_append, List.length_cons, List.length_nil]; omega))) | with_reducible refine wo_fld ?_ | with_reducible refine wo_meth ?_ | with_reducible refine wo_prop ?_ | with_reducible refine isO ?_ | with_reducible refine wo_callO ?_ | with_reducible refine wo_mk ?_ | with_reducible refine wo_frz ?_ | with_reducible refine wo_frzv ?_ | with_reducible refine wo_drop ?_ | ((with_reducible apply wo_fldv); next => rfl) | ((with_reducible apply noF); next => rfl) | with_reducible refine isC1 ?_ | ((with_reducible refine leM ?_ ?_); next => (first | exact Nat.le_refl _ | exact pot_le (by assumption) (by assumption))) | ((with_reducible apply wo_isi (c := true)); (next => rfl); (next => decide); (next => decide)) | ((with_reducible apply wo_isi (c := false)); (next => rfl); (next => decide); (next => decide)) | ((with_reducible refine wo_isiO1 ?_ ?_); next => simp) | ((with_reducible refine wo_isiOb ?_ ?_ ?_); (next => simp); (next => simp)) | ((with_reducible apply wo_isibO); (next => rfl); (next => simp)) | ((with_reducible refine wo_eqO ?_ ?_); next => simp) | ((with_reducible refine wo_neO ?_ ?_); next => simp) | with_reducible refine wo_own2 ?_ | with_reducible refine wo_ownI ?_ | with_reducible refine wo_iown ?_ | with_reducible refine wo_ixO ?_ | with_reducible refine wo_inO ?_ | with_reducible refine wi_any ?_ | with_reducible refine wi_vals ?_ | with_reducible refine wi_items ?_ | with_reducible refine wi_rg1 ?_ | with_reducible refine wo_lc ?_ | with_reducible refine wo_dc ?_ | ((with_reducible apply wo_lock); next => rfl) | ((with_reducible apply ws_lock); next => rfl) | with_reducible refine ws_par ?_ | with_reducible refine is2 ?_ | with_reducible refine ws_par3 ?_ | with_reducible refine is3 ?_ | with_reducible refine ws_asg ?_ | with_reducible refine wo_un ?_ | with_reducible refine wo_eq neg_i ?_ | with_reducible refine wo_eq eq_bb ?_ | with_reducible refine wo_eq eq_ss ?_ | with_reducible refine wo_eq max_ii ?_ | with_reducible refine wo_eq min_ii ?_ | with_reducible refine lew_v ?_ | with_reducible refine wo_bm ?_ | with_reducible refine wo_sl ?_ | with_reducible refine wq_none ?_ | with_reducible refine wq_some ?_ | with_reducible refine wo_ok ?_ | with_reducible refine ws_nx ?_ | with_reducible refine wo_get2 ?_ | ((with_reducible refine wo_eq (mul_ii ?_) ?_); next => (first | exact .inl (by decide) | exact .inr (by decide))) | ((with_reducible refine wo_eq (mod_ii ?_) ?_); next => decide) | ((with_reducible refine wo_eq (div_ii ?_) ?_); next => decide) | ((with_reducible refine wo_eq (pow_ii ?_) ?_); next => decide))
local macro_rules | `(tactic| walk_at "pu wp1") => `(tactic| first | walk_at "pu wq1" | with_reducible refine ws_if ?_)
local macro_rules | `(tactic| walk_at "pu wp") => `(tactic| repeat walk_at "pu wp1")
local macro_rules | `(tactic| walk_at "pu wq") => `(tactic| repeat walk_at "pu wq1")
local macro_rules | `(tactic| walk_at "pu wdef") => `(tactic| (apply wo_def rfl; next => ((try simp only [List.map_cons, List.map_nil, List.replicate_succ, List.replicate_zero, List.cons_append, List.nil_append, List.append_nil, List.length_cons, List.length_nil, Nat.reduceAdd, Nat.reduceSub]); first | done | rfl)))
local macro_rules | `(tactic| walk_at "pu wdone") => `(tactic| exact ⟨rfl, by first | rfl | exact List.take_length⟩)
section
variable {Pg : Program} {w : World} {K : PySem.W.Frag} {r m μ : Μ} {Q : W → Μ → Prop} {X : XP} {s t : Tb} {zs : List Str} {z : Str}
theorem its_s : ((s.map rowP).map fun kp => P.tup [keyOf kp.1, kp.2]) = s.map fun p => .tup [.str p.1, .int p.2] := by
  rw [List.map_map]
  rfl
theorem so_sz (h : Sz s) : So (ord s) := ⟨h.ord.toOk, ord_ord h.nd⟩
theorem same_no {a b : Tb} (ha : Sz a) (hb : Sz b) (ne : ∃ z, (z ∈ keys a ∧ z ∉ keys b) ∨ (z ∈ keys b ∧ z ∉ keys a) ∨ (z ∈ keys a ∧ z ∈ keys b ∧ val a z ≠ val b z)) : same (ord a) (ord b) = false := by
  rw [same_iff (so_sz ha) (so_sz hb)]
  refine decide_eq_false fun e => ?_
  obtain ⟨z, ⟨h1, h2⟩ | ⟨h1, h2⟩ | ⟨h1, h2, h3⟩⟩ := ne
  · exact h2 (mem_ord.mp (by rw [← e]; exact mem_ord.mpr h1))
  · exact h2 (mem_ord.mp (by rw [e]; exact mem_ord.mpr h1))
  · refine h3 ?_
    rw [← val_ord ha.nd, ← val_ord hb.nd, e]
theorem wo_mkKwL {C : Addr} {F : FF} {A : AF} {γ : Γ} (h : WO (A γ μ) (fun ws m => ∃ p fs, ws = [.v p] ∧ F [.loc m.length, .v p] (m ++ [.ins C []]) = .ok (.v .non) (m ++ [.ins C fs]) ∧ Q (.loc m.length) (m ++ [.ins C fs])) X) : WO (fMakeKw C [0] 1 F A γ μ) Q X := wo_bind (wo_mono h (fun ws m ⟨p, fs, e, e2, z⟩ => by
  subst e
  rw [if_pos (show [W.v p].length = 1 from rfl), show (W.loc m.length :: pick [0] [.v p]) = [.loc m.length, .v p] from rfl, e2]
  exact z) fun _ _ _ z => z)
theorem it_lockL {ps : List P} {j : Nat} (h : m[j]? = some (.lstL ps)) (l : ps.length ≤ 100000) : iAnyW (.loc j) m = .ok ps m := by
  unfold iAnyW
  simp only [h]
  exact few_le l
/-- one letter more -/
theorem letter_ex (l : s.length ≤ 8) : ∃ c ∈ ("abcdefghi" : Str).cps.toList, (⟨#[c]⟩ : Str) ∉ keys s := by
  refine Classical.byContradiction fun no => ?_
  have all : ∀ x ∈ (("abcdefghi" : Str).cps.toList.map fun c => (⟨#[c]⟩ : Str)), x ∈ keys s := fun x mx => by
    obtain ⟨c, mc, rfl⟩ := List.mem_map.mp mx
    exact Classical.byContradiction fun q => no ⟨c, mc, q⟩
  have nd : (("abcdefghi" : Str).cps.toList.map fun c => (⟨#[c]⟩ : Str)).Nodup := by decide +kernel
  have := nodup_le nd all
  rw [List.length_map, len_keys, show ("abcdefghi" : Str).cps.toList.length = 9 from by decide +kernel] at this
  omega
theorem letter_nm {c : Nat} (h : c ∈ ("abcdefghi" : Str).cps.toList) : Nm ⟨#[c]⟩ := by
  have az : 97 ≤ c ∧ c ≤ 122 := by
    have : ("abcdefghi" : Str).cps.toList = (List.range 9).map (97 + ·) := by decide +kernel
    rw [this] at h
    obtain ⟨i, hi, rfl⟩ := List.mem_map.mp h
    have := List.mem_range.mp hi
    omega
  exact ⟨by show 1 ≤ 1; omega, by show 1 ≤ 8; omega, fun d hd => by rw [List.mem_singleton.mp (show d ∈ [c] from hd)]; exact az⟩
theorem e_equals_right (E : ErK K) (h : Sz s) (bd : ∀ p ∈ s, p.2.natAbs < 10 ^ 69) : WO (D__law_equals_right Pg w K [.v (eaP K (ord s)), .v (dctP s)] μ) (fun w m => w = .v (.bl true) ∧ m = μ) X0 := by
  have l8 := h.le
  obtain ⟨s0, zl, vl, rfl⟩ : ∃ a z v, s = a ++ [(z, v)] := ⟨s.dropLast, (s.getLast h.ne).1, (s.getLast h.ne).2, (List.dropLast_concat_getLast h.ne).symm⟩
  have nd := h.nd
  have kk : keys (s0 ++ [(zl, vl)]) = keys s0 ++ [zl] := keys_app _ _
  have kk1 : keys (s0 ++ [(zl, vl - 1)]) = keys s0 ++ [zl] := keys_app _ _
  have ml : zl ∈ keys (s0 ++ [(zl, vl)]) := by rw [kk]; exact List.mem_append_right _ List.mem_cons_self
  have vl0 : val (s0 ++ [(zl, vl)]) zl = vl := val_at nd (List.mem_append_right _ List.mem_cons_self)
  have ls : s0.length + 1 ≤ 8 := by rw [List.length_append] at l8; exact l8
  have b1 : (vl - 1).natAbs < 10 ^ 70 := by have := bd (zl, vl) (List.mem_append_right _ List.mem_cons_self); have this : vl.natAbs < 10 ^ 69 := this; omega
  have h1 : Sz (s0 ++ [(zl, vl - 1)]) := ⟨⟨by simp, fun z m => h.nm z (by rw [kk]; rw [kk1] at m; exact m), by rw [kk1, ← kk]; exact nd, by rw [List.length_append]; exact ls⟩, fun p mp => by
    rcases List.mem_append.mp mp with mp | mp
    · exact h.bd p (List.mem_append_left _ mp)
    · rw [List.mem_singleton.mp mp]; exact b1⟩
  have vl1 : val (s0 ++ [(zl, vl - 1)]) zl = vl - 1 := val_at h1.nd (List.mem_append_right _ List.mem_cons_self)
  have s1 : same (ord (s0 ++ [(zl, vl)])) (ord (s0 ++ [(zl, vl - 1)])) = false := same_no h h1 ⟨zl, .inr (.inr ⟨ml, by rw [kk1, ← kk]; exact ml, by rw [vl0, vl1]; omega⟩)⟩
  have k1 : ∀ μ, gIx (.v (.lst ((keys (s0 ++ [(zl, vl)])).map P.str))) (.v (.int (-1))) μ = .ok (.v (.str zl)) μ := fun μ => by
    rw [kk, List.map_append]
    exact ix_lastP
  obtain ⟨f0, fr, ef⟩ : ∃ a l, srt (keys (s0 ++ [(zl, vl)])) = a :: l := by
    cases e : srt (keys (s0 ++ [(zl, vl)])) with
    | nil => exact absurd (by have := congrArg List.length e; rw [srt_len, len_keys] at this; exact List.eq_nil_of_length_eq_zero this) h.ne
    | cons a l => exact ⟨a, l, rfl⟩
  have mf : f0 ∈ keys (s0 ++ [(zl, vl)]) := srt_mem.mp (by rw [ef]; exact List.mem_cons_self)
  have nf := h.nm f0 mf
  have k2 : ∀ μ, gIx (.v (.lst ((srt (keys (s0 ++ [(zl, vl)]))).map P.str))) (.v (.int 0)) μ = .ok (.v (.str f0)) μ := fun μ => by
    rw [ef, List.map_cons]
    exact ix_0
  have rv : ord (s0 ++ [(zl, vl)]).reverse = ord (s0 ++ [(zl, vl)]) := ord_rev nd
  have hr : Ok (s0 ++ [(zl, vl)]).reverse := ⟨by simp, fun z m => h.nm z (by rw [show keys (s0 ++ [(zl, vl)]).reverse = (keys (s0 ++ [(zl, vl)])).reverse from List.map_reverse] at m; exact List.mem_reverse.mp m), by rw [show keys (s0 ++ [(zl, vl)]).reverse = (keys (s0 ++ [(zl, vl)])).reverse from List.map_reverse]; exact (List.reverse_perm _).nodup_iff.mpr nd, by rw [List.length_reverse]; exact l8⟩
  have ss : same (ord (s0 ++ [(zl, vl)])) (ord (s0 ++ [(zl, vl)])) = true := same_refl h.ord.nd
  have cutl : ∀ μ, gSlX (.v (.lst ((s0 ++ [(zl, vl)]).map fun p => P.tup [.str p.1, .int p.2]))) none (some (-1)) μ = .ok (.v (.lst (s0.map fun p => P.tup [.str p.1, .int p.2]))) μ := fun μ => by
    rw [sl_l, List.map_append, List.map_cons, List.map_nil, cut_lastP]
  obtain ⟨cl, mcl, ncl⟩ := letter_ex (s := s0 ++ [(zl, vl)]) l8
  generalize hs : s0 ++ [(zl, vl)] = s at *
  unfold D__law_equals_right
  walk_at "pu wdef"
  repeat (first | walk_at "pu wp1" | with_reducible refine wo_eq (sort_t (t := s) (by omega)) ?_)
  refine wo_eq (k2 _) ?_
  walk_at "pu wp"
  refine wo_listIts ?_
  walk_at "pu wp"
  refine ⟨s.map rowP, rfl, ?_⟩
  rw [its_s]
  repeat (first | walk_at "pu wp1" | with_reducible refine wo_eq (it_s (z := ("abcdefghi" : Str)) (by decide +kernel)) ?_)
  refine wl_on (fun c => P.str ⟨#[c]⟩) (fun c => decide ((⟨#[c]⟩ : Str) ∉ keys s)) (fun c => P.str ⟨#[c]⟩) (l := ("abcdefghi" : Str).cps.toList) (fun c mc => ⟨_, rfl, ?_, fun _ => ?_⟩) ?_
  · repeat (first | walk_at "pu wp1" | with_reducible refine wo_eq (din_ok true) ?_)
    exact ⟨by simp, rfl⟩
  · walk_at "pu wp"
    exact ⟨rfl, rfl⟩
  obtain ⟨c, cr, ec⟩ : ∃ c l, (("abcdefghi" : Str).cps.toList.filter fun c => decide ((⟨#[c]⟩ : Str) ∉ keys s)) = c :: l := by
    cases e : (("abcdefghi" : Str).cps.toList.filter fun c => decide ((⟨#[c]⟩ : Str) ∉ keys s)) with
    | nil =>
      have : cl ∈ (("abcdefghi" : Str).cps.toList.filter fun c => decide ((⟨#[c]⟩ : Str) ∉ keys s)) := List.mem_filter.mpr ⟨mcl, decide_eq_true ncl⟩
      rw [e] at this
      cases this
    | cons a l => exact ⟨a, l, rfl⟩
  obtain ⟨mc, nc⟩ := List.mem_filter.mp (show c ∈ (("abcdefghi" : Str).cps.toList.filter fun c => decide ((⟨#[c]⟩ : Str) ∉ keys s)) by rw [ec]; exact List.mem_cons_self)
  have nc := of_decide_eq_true nc
  rw [ec, List.map_cons]
  repeat (first | walk_at "pu wp1" | with_reducible refine wo_eq (ix_0 (v := P.str ⟨#[c]⟩) (l := cr.map fun c => P.str ⟨#[c]⟩)) ?_)
  rw [show [P.tup [.str ⟨#[c]⟩, .int 0]] = [((⟨#[c]⟩ : Str), (0 : Int))].map (fun p => P.tup [.str p.1, .int p.2]) from rfl]
  refine wo_eq (add_ll (by rw [List.length_map]; show _ + 1 ≤ _; omega)) ?_
  rw [← List.map_append]
  have k2' : keys (s ++ [((⟨#[c]⟩ : Str), (0 : Int))]) = keys s ++ [⟨#[c]⟩] := keys_app _ _
  have nd2 : (keys (s ++ [((⟨#[c]⟩ : Str), (0 : Int))])).Nodup := by
    rw [k2', List.nodup_append]
    exact ⟨nd, List.pairwise_singleton .., fun a ma b mb e => nc (by rw [← List.mem_singleton.mp mb, ← e]; exact ma)⟩
  walk_at "pu wp"
  refine wo_eq (dict_pairs (k := fun x : Str × Int => x.1) (v := fun x : Str × Int => x.2) (l := s ++ [((⟨#[c]⟩ : Str), (0 : Int))]) nd2) ?_
  rw [show ((s ++ [((⟨#[c]⟩ : Str), (0 : Int))]).map fun a => (a.1, a.2)) = s ++ [((⟨#[c]⟩ : Str), (0 : Int))] from List.map_id _]
  walk_at "pu wp"
  refine wo_listIts ?_
  walk_at "pu wp"
  refine ⟨s.map rowP, rfl, ?_⟩
  rw [its_s]
  walk_at "pu wp"
  refine wo_eq (cutl _) ?_
  repeat (first | walk_at "pu wp1" | with_reducible refine wo_eq (list_t) ?_)
  refine wo_eq (k1 _) ?_
  repeat (first | walk_at "pu wp1" | with_reducible refine wo_eq (list_t) ?_)
  refine wo_eq (k1 _) ?_
  repeat (first | walk_at "pu wp1" | with_reducible refine wo_eq (dget_ok (val_of ml)) ?_)
  rw [vl0]
  walk_at "pu wp"
  rw [show [P.tup [.str zl, .int (vl - 1)]] = [(zl, vl - 1)].map (fun p => P.tup [.str p.1, .int p.2]) from rfl]
  refine wo_eq (add_ll (by rw [List.length_map]; show _ + 1 ≤ _; omega)) ?_
  rw [← List.map_append]
  walk_at "pu wp"
  refine wo_eq (dict_pairs (k := fun x : Str × Int => x.1) (v := fun x : Str × Int => x.2) (l := s0 ++ [(zl, vl - 1)]) h1.nd) ?_
  rw [show ((s0 ++ [(zl, vl - 1)]).map fun a => (a.1, a.2)) = s0 ++ [(zl, vl - 1)] from List.map_id _]
  walk_at "pu wp"
  refine wo_eq (e_Earliest h1.toOk) ?_
  walk_at "pu wp"
  have bs := h.ord
  repeat (first | walk_at "pu wp1" | with_reducible refine wo_eq (dict_tv) ?_)
  refine wo_eq (txt_ea (e_Earliest_str bs.sm bs.nd (by rw [len_ord]; omega))) ?_
  repeat (first | walk_at "pu wp1" | with_reducible refine wo_eq (dget_ok (val_of mf)) ?_)
  refine wo_eq (e_Term nf) ?_
  walk_at "pu wp"
  refine wo_listIts ?_
  walk_at "pu wp"
  refine ⟨s.map rowP, rfl, ?_⟩
  rw [its_s]
  walk_at "pu wp"
  refine wo_eq (catC_w (ps := [eaP K (ord (s0 ++ [(zl, vl - 1)]))]) (qs := [dctP s, .str (strE (ord s)), .non, .str f0, teP K f0 (val s f0), .lst (s.map fun p => .tup [.str p.1, .int p.2]), .lst [eaP K (ord s)]]) (rdL_at at0) rfl (by show 1 + 7 ≤ _; decide)) ?_
  have mE : ∀ (c : PC), (μ ++ [.lst [eaP K (ord (s0 ++ [(zl, vl - 1)]))]] ++ [c]) = μ ++ [.lst [eaP K (ord (s0 ++ [(zl, vl - 1)]))], c] := fun c => by rw [List.append_assoc]; rfl
  have lE : (μ ++ [PC.lst [eaP K (ord (s0 ++ [(zl, vl - 1)]))]]).length = μ.length + 1 := by rw [List.length_append]; rfl
  rw [mE, lE]
  have noS : ∀ p, (NoS K p ∨ ∃ z, p = .str z) → ∀ μ, fEqO (ga K "Earliest") (cs2 K) (D_Earliest___eq__ Pg w K) (.v (eaP K (ord s))) (.v p) μ = .ok (.v (.bl false)) μ := fun p hp μ => e_eq_no E hp
  walk_at "pu wq"
  refine ws_mid (fun γ m => ∃ ps : List P, m = μ ++ [.lst [eaP K (ord (s0 ++ [(zl, vl - 1)]))], .lst ps] ∧ ps.length ≤ 20 ∧ (∀ p ∈ ps, ∀ μ, fEqO (ga K "Earliest") (cs2 K) (D_Earliest___eq__ Pg w K) (.v (eaP K (ord s))) (.v p) μ = .ok (.v (.bl false)) μ) ∧ γ = [some (.v (eaP K (ord s))), some (.v (dctP s)), some (.v (.str f0)), some (.v (dctP (s ++ [((⟨#[c]⟩ : Str), (0 : Int))]))), some (.loc (μ.length + 1)), none, none, none]) ?_ fun γ m ⟨ps, em, lp, hp, eg⟩ => ?_
  · have base : ∀ p ∈ [eaP K (ord (s0 ++ [(zl, vl - 1)]))] ++ [dctP s, .str (strE (ord s)), .non, .str f0, teP K f0 (val s f0), .lst (s.map fun p => .tup [.str p.1, .int p.2]), .lst [eaP K (ord s)]], ∀ μ, fEqO (ga K "Earliest") (cs2 K) (D_Earliest___eq__ Pg w K) (.v (eaP K (ord s))) (.v p) μ = .ok (.v (.bl false)) μ := fun p mp μ => by
      simp only [List.cons_append, List.nil_append, List.mem_cons, List.not_mem_nil, or_false] at mp
      rcases mp with rfl | rfl | rfl | rfl | rfl | rfl | rfl | rfl
      · rw [e_eq_ea, s1]
      · exact noS _ (.inl (.inr (.inr (.inr (.inr (.inr (.inl ⟨_, rfl⟩))))))) _
      · exact noS _ (.inr ⟨_, rfl⟩) _
      · exact noS _ (.inl (.inl rfl)) _
      · exact noS _ (.inr ⟨_, rfl⟩) _
      · exact noS _ (.inl (.inr (.inr (.inr (.inr (.inr (.inr ⟨_, _, rfl⟩))))))) _
      · exact noS _ (.inl (.inr (.inr (.inr (.inr (.inl ⟨_, rfl⟩)))))) _
      · exact noS _ (.inl (.inr (.inr (.inr (.inr (.inl ⟨_, rfl⟩)))))) _
    repeat (first | walk_at "pu wp1" | with_reducible refine wo_eq (len_t) ?_)
    refine bi_if (fun c9 => ?_) fun c9 => ?_
    · have l2 : (s ++ [((⟨#[c]⟩ : Str), (0 : Int))]).length ≤ 8 := by omega
      have h2 : Sz (s ++ [((⟨#[c]⟩ : Str), (0 : Int))]) := ⟨⟨by simp, fun z m => by
        rw [k2'] at m
        rcases List.mem_append.mp m with m | m
        · exact h.nm z m
        · rw [List.mem_singleton.mp m]; exact letter_nm mc, nd2, l2⟩, fun p mp => by
        rcases List.mem_append.mp mp with mp | mp
        · exact h.bd p mp
        · rw [List.mem_singleton.mp mp]; exact (by decide : (0 : Int).natAbs < 10 ^ 70)⟩
      have s2 : same (ord s) (ord (s ++ [((⟨#[c]⟩ : Str), (0 : Int))])) = false := same_no h h2 ⟨⟨#[c]⟩, .inr (.inl ⟨by rw [k2']; exact List.mem_append_right _ List.mem_cons_self, nc⟩)⟩
      walk_at "pu wp"
      refine ⟨isTy_at ap1, ?_⟩
      walk_at "pu wp"
      refine wo_eq (e_Earliest h2.toOk) ?_
      walk_at "pu wp"
      refine wo_append ap1 (by rw [List.length_append]; show 1 + 7 < _; decide) ?_
      rw [as1]
      refine ⟨_, rfl, by rw [List.length_append, List.length_append]; show 1 + 7 + 1 ≤ 20; decide, fun p mp μ => ?_, rfl⟩
      rcases List.mem_append.mp mp with mp | mp
      · exact base p mp μ
      · rw [List.mem_singleton.mp mp, e_eq_ea, s2]
    · walk_at "pu wp"
      exact ⟨_, rfl, by rw [List.length_append]; show 1 + 7 ≤ 20; decide, base, rfl⟩
  subst em
  subst eg
  walk_at "pu wp"
  refine wo_lockL rfl ap1 ?_
  rw [as1]
  walk_at "pu wp"
  refine wo_eq (it_lockL ap1 (by omega)) ?_
  refine wl_id (fun _ => P.bl false) (fun p mp => ⟨_, rfl, ?_⟩) ?_
  · refine wo_op ?_
    walk_at "pu wp"
    refine wo_eq (hp p mp _) ?_
    exact ⟨rfl, rfl⟩
  refine ⟨ap1, ?_⟩
  rw [as1]
  repeat (first | walk_at "pu wp1" | with_reducible refine wo_eq (bls_all (bls_map (fun _ => false) ps)) ?_)
  rw [show (ps.map fun _ => false).any id = false by simp]
  walk_at "pu wp"
  refine wo_lockL rfl ap1 ?_
  rw [as1]
  walk_at "pu wp"
  refine wo_eq (it_lockL ap1 (by omega)) ?_
  refine wl_id (fun _ => P.bl true) (fun p mp => ⟨_, rfl, ?_⟩) ?_
  · refine wo_op ?_
    walk_at "pu wp"
    refine wo_eq (ne_of (hp p mp _)) ?_
    exact ⟨rfl, rfl⟩
  refine ⟨ap1, ?_⟩
  rw [as1]
  repeat (first | walk_at "pu wp1" | with_reducible refine wo_eq (bls_all (bls_map (fun _ => true) ps)) ?_)
  rw [show (ps.map fun _ => true).all id = true by simp]
  walk_at "pu wp"
  refine wo_back ?_
  refine wo_listIts ?_
  walk_at "pu wp"
  refine ⟨s.map rowP, rfl, ?_⟩
  rw [its_s]
  refine ⟨_, rfl, ?_⟩
  rw [← List.map_reverse]
  walk_at "pu wp"
  refine wo_eq (dict_pairs (k := fun x : Str × Int => x.1) (v := fun x : Str × Int => x.2) (l := s.reverse) hr.nd) ?_
  rw [show (s.reverse.map fun a => (a.1, a.2)) = s.reverse from List.map_id _]
  walk_at "pu wp"
  refine wo_eq (e_Earliest hr) ?_
  rw [rv]
  walk_at "pu wp"
  refine wo_mkKwL ?_
  repeat (first | walk_at "pu wp1" | with_reducible refine wo_eq (dict_tv) ?_)
  refine ⟨_, _, rfl, e_Earliest_init h.toOk, ?_⟩
  refine wo_eq (frz_l rfl) ?_
  walk_at "pu wp"
  have ie : ∀ μ, D__law_is_earliest Pg w K [.v (eaP K (ord s)), .v (dctP s)] μ = .ok (.v (.bl true)) μ := fun μ => e_is_earliest h
  refine wo_eq (it_l (ps := [eaP K (ord s), eaP K (ord s)]) (show 2 ≤ 100000 by decide)) ?_
  have two : ∀ p ∈ [eaP K (ord s), eaP K (ord s)], p = eaP K (ord s) := fun p mp => by
    rcases List.mem_cons.mp mp with rfl | mp
    · rfl
    · exact List.mem_singleton.mp mp
  refine wl_id (fun _ => P.bl true) (fun p mp => ⟨_, rfl, ?_⟩) ?_
  · rw [two p mp]
    walk_at "pu wp"
    refine wo_eq (ie _) ?_
    exact ⟨rfl, rfl⟩
  repeat (first | walk_at "pu wp1" | with_reducible refine wo_eq (bls_all (bls_map (fun _ => true) [eaP K (ord s), eaP K (ord s)])) ?_)
  refine bi_T rfl ?_
  walk_at "pu wp"
  refine wo_eq (it_l (ps := [eaP K (ord s), eaP K (ord s)]) (show 2 ≤ 100000 by decide)) ?_
  refine wl_id (fun _ => P.bl true) (fun p mp => ⟨_, rfl, ?_⟩) ?_
  · rw [two p mp]
    repeat (first | walk_at "pu wp1" | with_reducible refine wo_eq (e_Earliest_eq) ?_)
    rw [ss]
    repeat (first | walk_at "pu wp1" | with_reducible refine wo_eq (e_Earliest_eq) ?_)
    exact ⟨rfl, rfl⟩
  repeat (first | walk_at "pu wp1" | with_reducible refine wo_eq (bls_all (bls_map (fun _ => true) [eaP K (ord s), eaP K (ord s)])) ?_)
  refine bi_T rfl ?_
  walk_at "pu wp"
  refine wo_eq (it_l (ps := [eaP K (ord s), eaP K (ord s)]) (show 2 ≤ 100000 by decide)) ?_
  refine wl_id (fun _ => P.bl false) (fun p mp => ⟨_, rfl, ?_⟩) ?_
  · rw [two p mp]
    repeat (first | walk_at "pu wp1" | with_reducible refine wo_eq (e_Earliest_eq) ?_)
    rw [ss]
    walk_at "pu wp"
    exact ⟨rfl, rfl⟩
  repeat (first | walk_at "pu wp1" | with_reducible refine wo_eq (bls_all (bls_map (fun _ => false) [eaP K (ord s), eaP K (ord s)])) ?_)
  exact ⟨rfl, List.take_left⟩
end
end Pu
set_option Elab.async false
set_option linter.all false
set_option maxRecDepth 100000
set_option maxHeartbeats 16000000
namespace Pu
open L2 PySem PySem.Spec PyProof.Rows E10
open He (ga ma)
local macro_rules | `(tactic| walk_at "pu wq1") => `(tactic| first | ((with_reducible apply wo_var); next => rfl) | with_reducible refine wo_c ?_ | with_reducible refine wo_op ?_ | with_reducible refine wo_call ?_ | with_reducible refine wa_cons ?_ | with_reducible refine wa_nil ?_ | with_reducible refine wo_eq add_ii ?_ | with_reducible refine wo_eq sub_ii ?_ | with_reducible refine wo_eq le_ii ?_ | with_reducible refine wo_eq lt_ii ?_ | with_reducible refine wo_eq gt_ii ?_ | with_reducible refine wo_eq eq_ii ?_ | with_reducible refine ws_seq ?_ | with_reducible refine ws_set ?_ | ((with_reducible apply st1); next => ((try simp only [List.set_cons_zero, List.set_cons_succ]); first | done | rfl)) | with_reducible refine ws_ret ?_ | with_reducible refine ws_drop ?_ | with_reducible refine ws_next ?_ | with_reducible refine ws_for ?_ | with_reducible refine wt_test ?_ | with_reducible refine isB ?_ | with_reducible refine isV ?_ | with_reducible refine isI ?_ | with_reducible refine bi_tt ?_ | with_reducible refine bi_ff ?_ | with_reducible refine bi_not ?_ | with_reducible refine bi_bneF ?_ | with_reducible refine bi_bneT ?_ | ((with_reducible refine bi_T ?_ ?_); next => assumption) | ((with_reducible refine bi_F ?_ ?_); next => assumption) | ((with_reducible refine bi_dT ?_ ?_); next => assumption) | ((with_reducible refine bi_dF ?_ ?_); next => assumption) | with_reducible refine wt_not ?_ | with_reducible refine wt_and ?_ | with_reducible refine wt_or ?_ | with_reducible refine wt_yes ?_ | with_reducible refine wo_andV ?_ | with_reducible refine wo_orV ?_ | with_reducible refine wo_notV ?_ | with_reducible refine wo_if ?_ | with_reducible refine wo_chain ?_ | with_reducible refine wo_seq ?_ | with_reducible refine wo_lstC ?_ | with_reducible refine isVs1 ?_ | with_reducible refine isVs0 ?_ | with_reducible refine isVsA ?_ | with_reducible refine isVsM ?_ | ((with_reducible refine few1 ?_ ?_); next => (first | decide | (simp only [List.length_map, List.length_append, List.length_cons, List.length_nil]; omega))) | with_reducible refine wo_fld ?_ | with_reducible refine wo_meth ?_ | with_reducible refine wo_prop ?_ | with_reducible refine isO ?_ | with_reducible refine wo_callO ?_ | with_reducible refine wo_mk ?_ | with_reducible refine wo_frz ?_ | with_reducible refine wo_frzv ?_ | with_reducible refine wo_drop ?_ | ((with_reducible apply wo_fldv); next => rfl) | ((with_reducible apply noF); next => rfl) | with_reducible refine isC1 ?_ | ((with_reducible refine leM ?_ ?_); next => (first | exact Nat.le_refl _ | exact pot_le (by assumption) (by assumption))) | ((with_reducible apply wo_isi (c := true)); (next => rfl); (next => decide); (next => decide)) | ((with_reducible apply wo_isi (c := false)); (next => rfl); (next => decide); (next => decide)) | ((with_reducible refine wo_isiO1 ?_ ?_); next => simp) | ((with_reducible refine wo_isiOb ?_ ?_ ?_); (next => simp); (next => simp)) | ((with_reducible apply wo_isibO); (next => rfl); (next => simp)) | ((with_reducible refine wo_eqO ?_ ?_); next => simp) | ((with_reducible refine wo_neO ?_ ?_); next => simp) | with_reducible refine wo_own2 ?_ | with_reducible refine wo_ownI ?_ | with_reducible refine wo_iown ?_ | with_reducible refine wo_ixO ?_ | with_reducible refine wo_inO ?_ | with_reducible refine wi_any ?_ | with_reducible refine wi_vals ?_ | with_reducible refine wi_items ?_ | with_reducible refine wi_rg1 ?_ | with_reducible refine wo_lc ?_ | with_reducible refine wo_dc ?_ | ((with_reducible apply wo_lock); next => rfl) | ((with_reducible apply ws_lock); next => rfl) | with_reducible refine ws_par ?_ | with_reducible refine is2 ?_ | with_reducible refine ws_par3 ?_ | with_reducible refine is3 ?_ | with_reducible refine ws_asg ?_ | with_reducible refine wo_un ?_ | with_reducible refine wo_eq neg_i ?_ | with_reducible refine wo_eq eq_bb ?_ | with_reducible refine wo_eq eq_ss ?_ | with_reducible refine wo_eq max_ii ?_ | with_reducible refine wo_eq min_ii ?_ | with_reducible refine lew_v ?_ | with_reducible refine wo_bm ?_ | with_reducible refine wo_sl ?_ | with_reducible refine wq_none ?_ | with_reducible refine wq_some ?_ | with_reducible refine wo_ok ?_ | with_reducible refine ws_nx ?_ | with_reducible refine wo_get2 ?_ | ((with_reducible refine wo_eq (mul_ii ?_) ?_); next => (first | exact .inl (by decide) | exact .inr (by decide))) | ((with_reducible refine wo_eq (mod_ii ?_) ?_); next => decide) | ((with_reducible refine wo_eq (div_ii ?_) ?_); next => decide) | ((with_reducible refine wo_eq (pow_ii ?_) ?_); next => decide))
local macro_rules | `(tactic| walk_at "pu wp1") => `(tactic| first | walk_at "pu wq1" | with_reducible refine ws_if ?_)
local macro_rules | `(tactic| walk_at "pu wp") => `(tactic| repeat walk_at "pu wp1")
local macro_rules | `(tactic| walk_at "pu wq") => `(tactic| repeat walk_at "pu wq1")
local macro_rules | `(tactic| walk_at "pu wdef") => `(tactic| (apply wo_def rfl; next => ((try simp only [List.map_cons, List.map_nil, List.replicate_succ, List.replicate_zero, List.cons_append, List.nil_append, List.append_nil, List.length_cons, List.length_nil, Nat.reduceAdd, Nat.reduceSub]); first | done | rfl)))
local macro_rules | `(tactic| walk_at "pu wdone") => `(tactic| exact ⟨rfl, by first | rfl | exact List.take_length⟩)
section
variable {Pg : Program} {w : World} {K : PySem.W.Frag} {r m μ : Μ} {Q : W → Μ → Prop} {X : XP} {s t : Tb} {zs : List Str} {z : Str}
theorem Sz.lout (h : Sz s) (l : 1 < s.length) {y : Str} (my : y ∈ keys s) : Sz (Pu.lout s y) := by
  have kl : keys (Pu.lout s y) = (keys s).filter fun z => (z == y) != true := keys_lout _ _
  obtain ⟨z0, m0, n0⟩ : ∃ z ∈ keys s, z ≠ y := by
    refine Classical.byContradiction fun no => ?_
    have all : ∀ z ∈ keys s, z ∈ [y] := fun z mz => List.mem_singleton.mpr (Classical.byContradiction fun n => no ⟨z, mz, n⟩)
    have := nodup_le h.nd all
    rw [len_keys] at this
    have : s.length ≤ 1 := this
    omega
  have mk : z0 ∈ keys (Pu.lout s y) := by rw [kl]; exact List.mem_filter.mpr ⟨m0, by simpa using n0⟩
  refine ⟨⟨(fun e => by rw [e] at mk; cases mk), fun z m => h.nm z (by rw [kl] at m; exact (List.mem_filter.mp m).1), nd_lout h.nd y, by rw [← len_keys, kl]; exact Nat.le_trans (List.length_filter_le _ _) (by rw [len_keys]; exact h.le)⟩, fun p mp => ?_⟩
  obtain ⟨z, mz, rfl⟩ := List.mem_map.mp (show p ∈ ((keys s).filter fun z => (z == y) != true).map fun z => (z, val s z) from mp)
  exact h.vb (List.mem_filter.mp mz).1
/-- the rows without a name -/
def cutT (s : Tb) (y : Str) : Tb := s.filter fun p => (p.1 == y) != true
theorem keys_cut (s : Tb) (y : Str) : keys (cutT s y) = (keys s).filter fun z => (z == y) != true := by
  unfold cutT keys
  rw [List.filter_map]
  rfl
theorem cut_sz (h : Sz s) (l : 1 < s.length) {y : Str} (my : y ∈ keys s) : Sz (cutT s y) := by
  have hl := h.lout l my
  refine ⟨⟨fun e => ?_, fun z m => ?_, ?_, ?_⟩, fun p mp => h.bd p (List.mem_filter.mp mp).1⟩
  · have := hl.ne
    refine this (List.eq_nil_of_length_eq_zero ?_)
    rw [← len_keys, keys_lout, ← keys_cut, e]
    rfl
  · rw [keys_cut, ← keys_lout] at m
    exact hl.nm z m
  · rw [keys_cut]
    exact h.nd.filter _
  · exact Nat.le_trans (List.length_filter_le _ _) h.le
theorem lout_cut (h : Sz s) (y : Str) : Pu.lout (ord s) y = ord (cutT s y) := by
  have nc : (keys (cutT s y)).Nodup := by rw [keys_cut]; exact h.nd.filter _
  unfold Pu.lout
  rw [keys_ord, show (srt (keys s)).filter (fun z => (z == y) != true) = srt ((keys s).filter fun z => (z == y) != true) from uniq_sorted ((srt_pw _).filter _) (srt_pw _) (((srt_perm _).filter _).trans (srt_perm _).symm), ← keys_cut]
  conv => rhs; unfold ord
  refine List.map_congr_left fun z mz => ?_
  have mz := srt_mem.mp mz
  have ms : z ∈ keys s := by rw [keys_cut] at mz; exact (List.mem_filter.mp mz).1
  rw [val_ord h.nd]
  have : val (cutT s y) z = val s z := val_at nc (List.mem_filter.mpr ⟨val_row h.nd ms, by rw [keys_cut] at mz; exact (List.mem_filter.mp mz).2⟩)
  rw [this]
theorem e_without_right (h : Sz s) : D__law_without_right Pg w K [.v (eaP K (ord s)), .v (dctP s)] μ = .ok (.v (.bl true)) μ := eq_wo (by
  have l8 := h.le
  have nd := h.nd
  have ie : ∀ μ, D__law_is_earliest Pg w K [.v (eaP K (ord s)), .v (dctP s)] μ = .ok (.v (.bl true)) μ := fun μ => e_is_earliest h
  unfold D__law_without_right
  walk_at "pu wdef"
  repeat (first | walk_at "pu wp1" | with_reducible refine wo_eq (len_t) ?_)
  refine bi_if (fun c => ?_) fun c => ?_
  · repeat (first | walk_at "pu wp1" | with_reducible refine wo_eq (it_d (t := s) (show s.length ≤ 100000 by omega)) ?_)
    refine wf_inv (fun j γ m => m = μ ∧ ∃ a b c d e f, γ = [some (W.v (eaP K (ord s))), some (.v (dctP s)), a, b, c, d, e, f]) ⟨rfl, _, _, _, _, _, _, rfl⟩ (fun j p γ m hp ⟨em, a, b, c', d, e, f, eg⟩ => ?_) fun γ m ⟨em, a, b, c', d, e, f, eg⟩ => ?_
    · subst em
      subst eg
      obtain ⟨z, mz, rfl⟩ := List.mem_map.mp (List.mem_of_getElem? hp)
      have hc := cut_sz h (by omega) mz
      have ic : ∀ μ, D__law_is_earliest Pg w K [.v (eaP K (Pu.lout (ord s) z)), .v (dctP (cutT s z))] μ = .ok (.v (.bl true)) μ := fun μ => by rw [lout_cut h]; exact e_is_earliest hc
      obtain ⟨z1, m1, n1⟩ : ∃ z' ∈ keys (ord s), z' ≠ z := by
        obtain ⟨z1, m1⟩ := List.exists_mem_of_ne_nil _ (keys_ne hc.ne)
        rw [keys_cut] at m1
        obtain ⟨m1, n1⟩ := List.mem_filter.mp m1
        exact ⟨z1, mem_ord.mpr m1, by simpa using n1⟩
      have wo : ∀ μ, D_Earliest_without Pg w K [.v (eaP K (ord s)), .v (.str z)] μ = .ok (.v (eaP K (Pu.lout (ord s) z))) μ := fun μ => e_Earliest_without (so_sz h) (mem_ord.mpr mz) ⟨z1, m1, n1⟩
      refine ⟨_, rfl, ?_⟩
      repeat (first | walk_at "pu wp1" | with_reducible refine wo_eq (it_i (t := s) (show s.length ≤ 100000 by omega)) ?_)
      refine wl_on (fun p : Str × Int => P.tup [.str p.1, .int p.2]) (fun p => (p.1 == z) != true) (fun p => P.tup [.str p.1, .int p.2]) (l := s) (fun p mp => ⟨_, rfl, ?_, fun _ => ?_⟩) ?_
      · walk_at "pu wp"
        exact ⟨rfl, rfl⟩
      · walk_at "pu wp"
        exact ⟨rfl, rfl⟩
      walk_at "pu wp"
      refine wo_eq (dict_pairs (k := fun x : Str × Int => x.1) (v := fun x : Str × Int => x.2) (l := cutT s z) hc.nd) ?_
      rw [show ((cutT s z).map fun a => (a.1, a.2)) = cutT s z from List.map_id _]
      walk_at "pu wp"
      refine wo_eq (wo _) ?_
      walk_at "pu wp"
      refine wo_eq (wo _) ?_
      walk_at "pu wp"
      refine wo_eq (it_l (ps := [eaP K (Pu.lout (ord s) z), eaP K (Pu.lout (ord s) z)]) (show 2 ≤ 100000 by decide)) ?_
      refine wl_id (fun _ => P.bl true) (fun p mp => ⟨_, rfl, ?_⟩) ?_
      · have : p = eaP K (Pu.lout (ord s) z) := by
          rcases List.mem_cons.mp mp with rfl | mp
          · rfl
          · exact List.mem_singleton.mp mp
        rw [this]
        walk_at "pu wp"
        refine wo_eq (ic _) ?_
        exact ⟨rfl, rfl⟩
      repeat (first | walk_at "pu wp1" | with_reducible refine wo_eq (bls_all (bls_map (fun _ => true) [eaP K (Pu.lout (ord s) z), eaP K (Pu.lout (ord s) z)])) ?_)
      refine bi_T rfl ?_
      walk_at "pu wp"
      refine wo_eq (ie _) ?_
      walk_at "pu wp"
      exact ⟨rfl, _, _, _, _, _, _, rfl⟩
    · subst em
      subst eg
      walk_at "pu wp"
      walk_at "pu wdone"
  · walk_at "pu wp"
    refine wo_mkDv ?_
    walk_at "pu wp"
    refine wo_eq (it_d (t := []) (by decide)) ?_
    refine wf_inv (fun j γ m => m = μ ∧ γ = [some (W.v (eaP K (ord s))), some (.v (dctP s)), none, none, none, none, none, none]) ⟨rfl, rfl⟩ (fun j p γ m hp _ => by simp [keys] at hp) fun γ m ⟨em, eg⟩ => ?_
    subst em
    subst eg
    walk_at "pu wp"
    walk_at "pu wdone")
end
end Pu
set_option Elab.async false
set_option linter.all false
set_option maxRecDepth 100000
set_option maxHeartbeats 16000000
namespace Pu
open L2 PySem PySem.Spec PyProof.Rows E10
open He (ga ma)
local macro_rules | `(tactic| walk_at "pu wq1") => `(tactic| first | ((with_reducible apply wo_var); next => rfl) | with_reducible refine wo_c ?_ | with_reducible refine wo_op ?_ | with_reducible refine wo_call ?_ | with_reducible refine wa_cons ?_ | with_reducible refine wa_nil ?_ | with_reducible refine wo_eq add_ii ?_ | with_reducible refine wo_eq sub_ii ?_ | with_reducible refine wo_eq le_ii ?_ | with_reducible refine wo_eq lt_ii ?_ | with_reducible refine wo_eq gt_ii ?_ | with_reducible refine wo_eq eq_ii ?_ | with_reducible refine ws_seq ?_ | with_reducible refine ws_set ?_ | ((with_reducible apply st1); next => ((try simp only [List.set_cons_zero, List.set_cons_succ]); first | done | rfl)) | with_reducible refine ws_ret ?_ | with_reducible refine ws_drop ?_ | with_reducible refine ws_next ?_ | with_reducible refine ws_for ?_ | with_reducible refine wt_test ?_ | with_reducible refine isB ?_ | with_reducible refine isV ?_ | with_reducible refine isI ?_ | with_reducible refine bi_tt ?_ | with_reducible refine bi_ff ?_ | with_reducible refine bi_not ?_ | with_reducible refine bi_bneF ?_ | with_reducible refine bi_bneT ?_ | ((with_reducible refine bi_T ?_ ?_); next => assumption) | ((with_reducible refine bi_F ?_ ?_); next => assumption) | ((with_reducible refine bi_dT ?_ ?_); next => assumption) | ((with_reducible refine bi_dF ?_ ?_); next => assumption) | with_reducible refine wt_not ?_ | with_reducible refine wt_and ?_ | with_reducible refine wt_or ?_ | with_reducible refine wt_yes ?_ | with_reducible refine wo_andV ?_ | with_reducible refine wo_orV ?_ | with_reducible refine wo_notV ?_ | with_reducible refine wo_if ?_ | with_reducible refine wo_chain ?_ | with_reducible refine wo_seq ?_ | with_reducible refine wo_lstC ?_ | with_reducible refine isVs1 ?_ | with_reducible refine isVs0 ?_ | with_reducible refine isVsA ?_ | with_reducible refine isVsM ?_ | ((with_reducible refine few1 ?_ ?_); next => (first | decide | (simp only [List.length_map, List.length_append, List.length_cons, List.length_nil]; omega))) | with_reducible refine wo_fld ?_ | with_reducible refine wo_meth ?_ | with_reducible refine wo_prop ?_ | with_reducible refine isO ?_ | with_reducible refine wo_callO ?_ | with_reducible refine wo_mk ?_ | with_reducible refine wo_frz ?_ | with_reducible refine wo_frzv ?_ | with_reducible refine wo_drop ?_ | ((with_reducible apply wo_fldv); next => rfl) | ((with_reducible apply noF); next => rfl) | with_reducible refine isC1 ?_ | ((with_reducible refine leM ?_ ?_); next => (first | exact Nat.le_refl _ | exact pot_le (by assumption) (by assumption))) | ((with_reducible apply wo_isi (c := true)); (next => rfl); (next => decide); (next => decide)) | ((with_reducible apply wo_isi (c := false)); (next => rfl); (next => decide); (next => decide)) | ((with_reducible refine wo_isiO1 ?_ ?_); next => simp) | ((with_reducible refine wo_isiOb ?_ ?_ ?_); (next => simp); (next => simp)) | ((with_reducible apply wo_isibO); (next => rfl); (next => simp)) | ((with_reducible refine wo_eqO ?_ ?_); next => simp) | ((with_reducible refine wo_neO ?_ ?_); next => simp) | with_reducible refine wo_own2 ?_ | with_reducible refine wo_ownI ?_ | with_reducible refine wo_iown ?_ | with_reducible refine wo_ixO ?_ | with_reducible refine wo_inO ?_ | with_reducible refine wi_any ?_ | with_reducible refine wi_vals ?_ | with_reducible refine wi_items ?_ | with_reducible refine wi_rg1 ?_ | with_reducible refine wo_lc ?_ | with_reducible refine wo_dc ?_ | ((with_reducible apply wo_lock); next => rfl) | ((with_reducible apply ws_lock); next => rfl) | with_reducible refine ws_par ?_ | with_reducible refine is2 ?_ | with_reducible refine ws_par3 ?_ | with_reducible refine is3 ?_ | with_reducible refine ws_asg ?_ | with_reducible refine wo_un ?_ | with_reducible refine wo_eq neg_i ?_ | with_reducible refine wo_eq eq_bb ?_ | with_reducible refine wo_eq eq_ss ?_ | with_reducible refine wo_eq max_ii ?_ | with_reducible refine wo_eq min_ii ?_ | with_reducible refine lew_v ?_ | with_reducible refine wo_bm ?_ | with_reducible refine wo_sl ?_ | with_reducible refine wq_none ?_ | with_reducible refine wq_some ?_ | with_reducible refine wo_ok ?_ | with_reducible refine ws_nx ?_ | with_reducible refine wo_get2 ?_ | ((with_reducible refine wo_eq (mul_ii ?_) ?_); next => (first | exact .inl (by decide) | exact .inr (by decide))) | ((with_reducible refine wo_eq (mod_ii ?_) ?_); next => decide) | ((with_reducible refine wo_eq (div_ii ?_) ?_); next => decide) | ((with_reducible refine wo_eq (pow_ii ?_) ?_); next => decide))
local macro_rules | `(tactic| walk_at "pu wp1") => `(tactic| first | walk_at "pu wq1" | with_reducible refine ws_if ?_)
local macro_rules | `(tactic| walk_at "pu wp") => `(tactic| repeat walk_at "pu wp1")
local macro_rules | `(tactic| walk_at "pu wq") => `(tactic| repeat walk_at "pu wq1")
local macro_rules | `(tactic| walk_at "pu wdef") => `(tactic| (apply wo_def rfl; next => ((try simp only [List.map_cons, List.map_nil, List.replicate_succ, List.replicate_zero, List.cons_append, List.nil_append, List.append_nil, List.length_cons, List.length_nil, Nat.reduceAdd, Nat.reduceSub]); first | done | rfl)))
local macro_rules | `(tactic| walk_at "pu wdone") => `(tactic| exact ⟨rfl, by first | rfl | exact List.take_length⟩)
section
variable {Pg : Program} {w : World} {K : PySem.W.Frag} {r m μ : Μ} {Q : W → Μ → Prop} {X : XP} {s t : Tb} {zs : List Str} {z : Str}
theorem shf_keys (s : Tb) (n : Int) : keys (shf s n) = keys s := by
  unfold shf keys
  rw [List.map_map]
  exact List.map_congr_left fun _ _ => rfl
theorem shf_val (nd : (keys s).Nodup) (n : Int) {z : Str} (m : z ∈ keys s) : val (shf s n) z = val s z + n := val_at (by rw [shf_keys]; exact nd) (List.mem_map.mpr ⟨(z, val s z), val_row nd m, rfl⟩)
theorem ord_shf (nd : (keys s).Nodup) (n : Int) : shf (ord s) n = ord (shf s n) := by
  unfold ord
  rw [shf_keys]
  unfold shf
  rw [List.map_map]
  refine List.map_congr_left fun z mz => ?_
  have := shf_val nd n (srt_mem.mp mz)
  unfold shf at this
  rw [this]
  rfl
theorem shf_sz (h : Sz s) {n : Int} (b : ∀ p ∈ s, (p.2 + n).natAbs < 10 ^ 70) : Sz (shf s n) := ⟨⟨fun e => h.ne (List.map_eq_nil_iff.mp e), fun z m => h.nm z (by rwa [shf_keys] at m), by rw [shf_keys]; exact h.nd, by unfold shf; rw [List.length_map]; exact h.le⟩, fun p mp => by
  obtain ⟨x, mx, rfl⟩ := List.mem_map.mp mp
  exact b x mx⟩
theorem shf_back (s : Tb) (n : Int) : shf (shf s n) (-n) = s := by
  unfold shf
  rw [List.map_map]
  have : (fun p : Str × Int => (p.1, p.2 + -n)) ∘ (fun p : Str × Int => (p.1, p.2 + n)) = id := funext fun p => Prod.ext rfl (show p.2 + n + -n = p.2 by omega)
  rw [this, List.map_id]
theorem sz_rev (h : Sz s) : Sz s.reverse := by
  have kr : keys s.reverse = (keys s).reverse := List.map_reverse
  exact ⟨⟨by simpa using h.ne, fun z m => h.nm z (by rw [kr] at m; exact List.mem_reverse.mp m), by rw [kr]; exact (List.reverse_perm _).nodup_iff.mpr h.nd, by rw [List.length_reverse]; exact h.le⟩, fun p mp => h.bd p (List.mem_reverse.mp mp)⟩
theorem repr_at {j : Nat} (hj : m[j]? = some (.dct (s.map rowP))) (h : Sz s) : fReprX [.loc j] m = .ok (.v (.str (txtT s))) m := by
  have l8 := h.le
  have e0 : frzV m (.loc j) = some (dctP s) := by
    unfold frzV
    simp only [hj]
    rfl
  have e1 : fReprG [.loc j] m = .bad := by
    unfold fReprG
    simp only [e0]
    rfl
  have e2 : fReprDct [.loc j] m = .ok (.v (.str (txtT s))) m := by
    unfold fReprDct
    simp only [rdD_at hj]
    rw [if_pos (by rw [List.length_map]; omega), tkv_tb h.sm]
    rfl
  show O.or (fReprG [.loc j] m) (O.or (fReprDct [.loc j] m) _) = _
  rw [e1, e2]
  rfl
theorem wo_dupdate {j : Nat} {ks qs : List (Key × P)} (h : m[j]? = some (.dct ks)) (l : ks.length + qs.length ≤ 100000) (q : Q (.v .non) (m.set j (.dct (mergeP ks qs)))) : WO (mDUpdate (.loc j) [.v (.dct qs)] m) Q X := by
  unfold mDUpdate
  rw [wD_at h]
  show WO (if ks.length + qs.length ≤ 100000 then _ else _) Q X
  rw [if_pos l]
  exact q
/-- dicts of words by hand -/
theorem sz_two {n : Int} (h : n.natAbs < 10 ^ 70) : Sz [("ann", 0), ("bus", n)] := by
  refine ⟨⟨by simp, fun z m => ?_, by show (["ann", "bus"] : List Str).Nodup; decide +kernel, (show 2 ≤ 8 by decide)⟩, fun p mp => ?_⟩
  · rcases List.mem_cons.mp (show z ∈ (["ann", "bus"] : List Str) from m) with rfl | m
    · exact ⟨by decide +kernel, by decide +kernel, by decide +kernel⟩
    · rw [List.mem_singleton.mp m]
      exact ⟨by decide +kernel, by decide +kernel, by decide +kernel⟩
  · rcases List.mem_cons.mp mp with rfl | mp
    · exact (by decide : (0 : Int).natAbs < 10 ^ 70)
    · rw [List.mem_singleton.mp mp]; exact h
theorem sz_one {n : Int} (h : n.natAbs < 10 ^ 70) : Sz [("zz", n)] := by
  refine ⟨⟨by simp, fun z m => ?_, List.pairwise_singleton .., (show 1 ≤ 8 by decide)⟩, fun p mp => ?_⟩
  · rw [List.mem_singleton.mp (show z ∈ (["zz"] : List Str) from m)]
    exact ⟨by decide +kernel, by decide +kernel, by decide +kernel⟩
  · rw [List.mem_singleton.mp mp]; exact h
theorem e_of (h : Sz s) : D_Earliest_of Pg w K [.v (dctP s)] μ = .ok (.v (eaP K (ord s))) μ := eq_wo (by
  unfold D_Earliest_of
  walk_at "pu wdef"
  walk_at "pu wp"
  refine wo_eq (e_Earliest h.toOk) ?_
  walk_at "pu wp"
  walk_at "pu wdone")
theorem sl_two {a b c : P} {j : Nat} (hj : m[j]? = some (.lst [a, b, c])) : gSlX (.loc j) none (some 2) m = .ok (.v (.lst [a, b])) m := by
  have e : fSlL (.loc j) none (some 2) m = .ok (.v (.lst [a, b])) m := by
    unfold fSlL
    rw [rdL_at hj]
    rfl
  show O.or (O.or (fSlL (.loc j) none (some 2) m) _) _ = _
  rw [e]
  rfl
theorem zz_no : ¬ ("zz" : Str) ∈ (["ann", "bus"] : List Str) := by decide +kernel
theorem kz2 {n : Int} : P.dct (kzP ["ann", "bus"] [.int 0, .int n]) = dctP [("ann", 0), ("bus", n)] := rfl
theorem kz1 {n : Int} : P.dct (kzP ["zz"] [.int n]) = dctP [("zz", n)] := rfl
theorem kz3 {n : Int} : P.dct (kzP ["bus", "ann"] [.int n, .int 0]) = dctP ([("ann", 0), ("bus", n)] : Tb).reverse := rfl
theorem mg2 {n : Int} : P.dct (mergeP [] [((Sum.inr "ann" : Key), P.int 0), (Sum.inr "bus", P.int n)]) = dctP [("ann", 0), ("bus", n)] := rfl
theorem mg1 {n : Int} : P.dct (mergeP [] [((Sum.inr "zz" : Key), P.int n)]) = dctP [("zz", n)] := rfl
theorem of_facts {n : Int} (h : n.natAbs < 10 ^ 70) : ∃ A B : Tb,
    (∀ μ, D__law_is_earliest Pg w K [.v (eaP K A), .v (P.dct (mergeP [] [((Sum.inr "ann" : Key), P.int 0), (Sum.inr "bus", P.int n)]))] μ = .ok (.v (.bl true)) μ) ∧
    (∀ μ, D__law_is_earliest Pg w K [.v (eaP K B), .v (P.dct (mergeP [] [((Sum.inr "zz" : Key), P.int n)]))] μ = .ok (.v (.bl true)) μ) ∧
    (∀ μ, D_Earliest_of Pg w K [.v (.dct (kzP ["bus", "ann"] [.int n, .int 0]))] μ = .ok (.v (eaP K A)) μ) ∧
    (∀ μ, D_Earliest_of Pg w K [.v (.dct (kzP ["ann", "bus"] [.int 0, .int n]))] μ = .ok (.v (eaP K A)) μ) ∧
    (∀ μ, D_Earliest_of Pg w K [.v (.dct (kzP ["zz"] [.int n]))] μ = .ok (.v (eaP K B)) μ) ∧ same A A = true ∧ same A B = false := by
  have ta := sz_two h
  have tz := sz_one h
  refine ⟨_, _, fun μ => ?_, fun μ => ?_, fun μ => ?_, fun μ => ?_, fun μ => ?_, same_refl ta.ord.nd, same_no ta tz ⟨"zz", .inr (.inl ⟨List.mem_cons_self, fun m => absurd (show ("zz" : Str) ∈ (["ann", "bus"] : List Str) from m) zz_no⟩)⟩⟩
  · rw [mg2]
    exact e_is_earliest ta
  · rw [mg1]
    exact e_is_earliest tz
  · have t := e_of (Pg := Pg) (w := w) (K := K) (μ := μ) (sz_rev ta)
    rw [ord_rev ta.nd] at t
    rw [kz3]
    exact t
  · rw [kz2]
    exact e_of ta
  · rw [kz1]
    exact e_of tz
theorem s_right (E : ErK K) (hm : Pot [] m) : WO (D__law_right Pg w K [.loc 0] m) (fun w _ => w = .v (.bl true)) X0 := by
  unfold D__law_right
  walk_at "pu wdef"
  walk_at "pu wp"
  refine s_draw (n := 8) hm (by omega) (by omega) fun u m1 u0 u1 hm1 => ?_
  obtain ⟨u, rfl⟩ := Int.eq_ofNat_of_zero_le u0
  walk_at "pu wp"
  rw [show (1 : Int) + (u : Int) = ((1 + u : Nat) : Int) by omega]
  refine s_names hm1 (by omega) fun zs m2 lz nd nm hm2 => ?_
  walk_at "pu wp"
  refine wo_eq (it_strs (zs := zs) (by omega)) ?_
  refine wl_each (β := Int) (Pot []) P.str (fun z (v : Int) => .tup [.str z, .int v]) (fun _ v => v.natAbs < 10 ^ 61) (fun _ _ e => P.str.inj e) hm2 (fun z mz m hm => ?_) fun s m4 ex hb hm4 => ?_
  · refine ⟨_, rfl, ?_⟩
    walk_at "pu wp"
    refine s_number hm fun i m5 hi hm5 => ?_
    walk_at "pu wp"
    exact ⟨i, rfl, hi, hm5⟩
  have kx : keys s = zs := ex
  repeat (first | walk_at "pu wp1" | with_reducible refine wo_eq (dict_pairs (k := fun x : Str × Int => x.1) (v := fun x : Str × Int => x.2) (l := s) (by rw [ex]; exact nd)) ?_)
  rw [show (s.map fun a => (a.1, a.2)) = s from List.map_id _]
  have b61 : ∀ p ∈ s, p.2.natAbs < 10 ^ 61 := fun p mp => hb p mp
  have h : Sz s := ⟨⟨fun e => by rw [e] at kx; rw [← kx] at lz; simp [keys] at lz; omega, fun z m => nm z (by rwa [kx] at m), by rw [kx]; exact nd, by rw [← len_keys, kx]; omega⟩, fun p mp => Nat.lt_of_lt_of_le (b61 p mp) (by decide)⟩
  have l8 := h.le
  repeat (first | walk_at "pu wp1" | with_reducible refine wo_eq (show gDict .cell [.v (dctP s)] m4 = .ok (.loc m4.length) (m4 ++ [.dct (s.map rowP)]) from rfl) ?_)
  have hm5 : Pot [.dct (s.map rowP)] (m4 ++ [.dct (s.map rowP)]) := hm4.add
  rw [show m4.length = 1 from hm4.len]
  refine s_number hm5 fun n m6 hn hm6 => ?_
  walk_at "pu wp"
  have a1 : m6[1]? = some (.dct (s.map rowP)) := Pot.last (r := []) hm6
  refine wo_eq (e_EarliestL a1 h.toOk) ?_
  walk_at "pu wp"
  refine wo_eq (repr_at a1 h) ?_
  walk_at "pu wp"
  refine wo_eq (repr_tb h _) ?_
  walk_at "pu wp"
  refine bi_T (by simp) ?_
  have ie : ∀ μ, D__law_is_earliest Pg w K [.v (eaP K (ord s)), .v (dctP s)] μ = .ok (.v (.bl true)) μ := fun μ => e_is_earliest h
  walk_at "pu wp"
  refine wo_eq (ie _) ?_
  walk_at "pu wp"
  refine ⟨isTyD_at a1, ?_⟩
  walk_at "pu wp"
  refine wo_dclear a1 ?_
  repeat (first | walk_at "pu wp1" | with_reducible refine wo_eq (e_Earliest_shifts) ?_)
  refine ⟨isTyD_at at0, ?_⟩
  walk_at "pu wp"
  refine wo_disp (wd_cons ?_)
  walk_at "pu wp"
  refine isKs ?_
  walk_at "pu wp"
  refine wd_nil ?_
  refine few15 (by simp) ?_
  refine wo_mkDv ?_
  walk_at "pu wp"
  refine wo_dupdate at0 (by rw [List.length_map, len_ord]; show _ + 1 ≤ _; omega) ?_
  repeat (first | walk_at "pu wp1" | with_reducible refine wo_eq (e_Earliest_shifts) ?_)
  refine ⟨isTyD_at at0, ?_⟩
  walk_at "pu wp"
  refine wo_dclear at0 ?_
  walk_at "pu wp"
  refine wo_eq (ie _) ?_
  walk_at "pu wp"
  refine wo_eq (e_in_right h) ?_
  walk_at "pu wp"
  refine wo_to (e_equals_right E h fun p mp => Nat.lt_of_lt_of_le (b61 p mp) (by decide)) fun v m7 ⟨ev, em⟩ => ?_
  subst ev
  subst em
  walk_at "pu wp"
  generalize hM : (List.set (List.set (List.set m6 1 (PC.dct []) ++ _) _ _ ++ _) _ (PC.dct [])) = M
  have b62 : ∀ p ∈ s, (p.2 + n).natAbs < 10 ^ 70 := fun p mp => by
    have h1 := b61 p mp
    have : (10 : Nat) ^ 61 + 10 ^ 61 ≤ 10 ^ 70 := by decide
    omega
  have n70 : n.natAbs < 10 ^ 70 := Nat.lt_of_lt_of_le hn (by decide)
  have hsh := shf_sz h b62
  have so := so_sz h
  have f1 : ∀ μ, D_Earliest___add__ Pg w K [.v (eaP K (ord s)), .v (.int n)] μ = .ok (.v (eaP K (ord (shf s n)))) μ := fun μ => by
    rw [← ord_shf h.nd]
    exact e_Earliest_add so n
  have f2 : ∀ μ, D_Earliest___radd__ Pg w K [.v (eaP K (ord s)), .v (.int n)] μ = .ok (.v (eaP K (ord (shf s n)))) μ := fun μ => by
    rw [← ord_shf h.nd]
    exact e_Earliest_radd so n
  have f3 : ∀ μ, D_Earliest___sub__ Pg w K [.v (eaP K (ord s)), .v (.int (-n))] μ = .ok (.v (eaP K (ord (shf s n)))) μ := fun μ => by
    have := e_Earliest_sub (Pg := Pg) (w := w) (K := K) (μ := μ) so (-n)
    rwa [Int.neg_neg, ord_shf h.nd] at this
  have f4 : ∀ μ, D_Earliest___sub__ Pg w K [.v (eaP K (ord (shf s n))), .v (.int n)] μ = .ok (.v (eaP K (ord s))) μ := fun μ => by
    have := e_Earliest_sub (Pg := Pg) (w := w) (K := K) (μ := μ) (so_sz hsh) n
    rwa [show shf (ord (shf s n)) (-n) = ord s by rw [← ord_shf h.nd, shf_back]] at this
  have i2 : ∀ μ, D__law_is_earliest Pg w K [.v (eaP K (ord (shf s n))), .v (dctP (shf s n))] μ = .ok (.v (.bl true)) μ := fun μ => e_is_earliest hsh
  refine wo_eq (f1 _) ?_
  walk_at "pu wp"
  refine wo_eq (f2 _) ?_
  walk_at "pu wp"
  refine wo_eq (f3 _) ?_
  repeat (first | walk_at "pu wp1" | with_reducible refine wo_eq (it_i (t := s) (show s.length ≤ 100000 by omega)) ?_)
  refine wl_all (fun p : Str × Int => P.tup [.str p.1, .int p.2]) (fun p => P.tup [.str p.1, .int (p.2 + n)]) (l := s) (fun p mp => ⟨_, rfl, ?_⟩) ?_
  · walk_at "pu wp"
    exact ⟨rfl, rfl⟩
  walk_at "pu wp"
  refine wo_eq (dict_pairs (k := fun x : Str × Int => x.1) (v := fun x : Str × Int => x.2 + n) (l := s) h.nd) ?_
  rw [show (s.map fun a => (a.1, a.2 + n)) = shf s n from rfl]
  walk_at "pu wp"
  refine wo_eq (it_l (ps := [eaP K (ord (shf s n)), eaP K (ord (shf s n)), eaP K (ord (shf s n))]) (show 3 ≤ 100000 by decide)) ?_
  refine wl_id (fun _ => P.bl true) (fun p mp => ⟨_, rfl, ?_⟩) ?_
  · have : p = eaP K (ord (shf s n)) := by
      simp only [List.mem_cons, List.not_mem_nil, or_false, or_self] at mp
      exact mp
    rw [this]
    walk_at "pu wp"
    refine wo_eq (i2 _) ?_
    exact ⟨rfl, rfl⟩
  repeat (first | walk_at "pu wp1" | with_reducible refine wo_eq (bls_all (bls_map (fun _ => true) [eaP K (ord (shf s n)), eaP K (ord (shf s n)), eaP K (ord (shf s n))])) ?_)
  refine bi_T rfl ?_
  walk_at "pu wp"
  refine wo_eq (ix_0 (v := eaP K (ord (shf s n))) (l := [eaP K (ord (shf s n)), eaP K (ord (shf s n))])) ?_
  walk_at "pu wp"
  refine wo_eq (f4 _) ?_
  walk_at "pu wp"
  refine wo_eq e_Earliest_eq ?_
  rw [same_refl h.ord.nd]
  walk_at "pu wp"
  obtain ⟨A, B, i3, i4, o1, o2, o3, q1, q2⟩ := of_facts (Pg := Pg) (w := w) (K := K) n70
  refine wo_static ?_
  walk_at "pu wp"
  refine ⟨[.int n, .int 0], rfl, rfl, wo_eq (o1 _) ?_⟩
  walk_at "pu wp"
  refine wo_static ?_
  walk_at "pu wp"
  refine ⟨[.int 0, .int n], rfl, rfl, wo_eq (o2 _) ?_⟩
  walk_at "pu wp"
  refine wo_static ?_
  walk_at "pu wp"
  refine ⟨[.int n], rfl, rfl, wo_eq (o3 _) ?_⟩
  walk_at "pu wp"
  refine wo_eq (sl_two at0) ?_
  walk_at "pu wp"
  refine wo_eq (it_l (ps := [eaP K A, eaP K A]) (show 2 ≤ 100000 by decide)) ?_
  refine wl_id (fun _ => P.bl true) (fun p mp => ⟨_, rfl, ?_⟩) ?_
  · have : p = eaP K A := by
      simp only [List.mem_cons, List.not_mem_nil, or_false, or_self] at mp
      exact mp
    rw [this]
    walk_at "pu wp"
    refine wo_disp (wd_cons ?_)
    walk_at "pu wp"
    refine isKs ?_
    walk_at "pu wp"
    refine wd_cons ?_
    walk_at "pu wp"
    refine isKs ?_
    walk_at "pu wp"
    refine wd_nil ?_
    refine few15 (show 2 ≤ 15 by decide) ?_
    refine wo_mkDv ?_
    walk_at "pu wp"
    refine wo_eq (i3 _) ?_
    exact ⟨rfl, rfl⟩
  repeat (first | walk_at "pu wp1" | with_reducible refine wo_eq (bls_all (bls_map (fun _ => true) [eaP K A, eaP K A])) ?_)
  refine bi_T rfl ?_
  walk_at "pu wp"
  refine wo_eq (ix_loc (k := 2) (rdL_at at0) rfl) ?_
  walk_at "pu wp"
  refine wo_disp (wd_cons ?_)
  walk_at "pu wp"
  refine isKs ?_
  walk_at "pu wp"
  refine wd_nil ?_
  refine few15 (show 1 ≤ 15 by decide) ?_
  refine wo_mkDv ?_
  walk_at "pu wp"
  refine wo_eq (i4 _) ?_
  walk_at "pu wp"
  refine wo_eq (ix_loc (k := 0) (rdL_at at0) rfl) ?_
  walk_at "pu wp"
  refine wo_eq (ix_loc (k := 1) (rdL_at at0) rfl) ?_
  walk_at "pu wp"
  refine wo_eq e_Earliest_eq ?_
  rw [q1]
  walk_at "pu wp"
  refine wo_eq (ix_loc (k := 0) (rdL_at at0) rfl) ?_
  walk_at "pu wp"
  refine wo_eq (ix_loc (k := 2) (rdL_at at0) rfl) ?_
  walk_at "pu wp"
  refine wo_eq e_Earliest_eq ?_
  rw [q2]
  walk_at "pu wp"
  refine wo_eq (e_without_right h) ?_
  walk_at "pu wp"
  refine wo_eq (ie _) ?_
  walk_at "pu wp"
  rfl
end
end Pu
set_option Elab.async false
set_option linter.all false
set_option maxRecDepth 100000
set_option maxHeartbeats 4000000
namespace E10
open L2 PySem PySem.Spec PyProof.Rows
open He (ga ma)
abbrev lawLevel : Nat := 9
noncomputable def spLaw (P : Program) (w : World) (K : PySem.W.Frag) : Sp := Pu.noE (Pu.spP 1 (Pu.D_law P w K))
section
variable {P : Program} {w : World} {K : PySem.W.Frag} {mg : Str → Option Value} {base : Heap}
theorem law_of (X : K.In base) (G : base.Ns mainGlobals mg) (c : obsK K = val0) : ∃ fd, Fun K "law" "law" s_law (ga K "law") fd ∧ FnG P w K mg base lawLevel (ga K "law") fd ["_law_script"] (spLaw P w K) := by
  obtain ⟨fd, F⟩ := F_law c
  exact ⟨fd, F, (Pu.fx_law X G c F).g⟩
theorem law_wants (c : obsK K = val0) (H : Hp) (a : Addr) (ns : List Int) (hl : ns.length ≤ 63) (hS : SqL K H a (ns.map V.int)) : spLaw P w K [.ref a] H (fun v _ => v = .bl true) L2.E0 := Pu.law_want (bNol c) hS (Pu.e_law (fun m h => Pu.s_right (Pu.erK c) h) ns hl)
theorem binds_law {f : Addr} {fd : FuncData} (F : Fun K "law" "law" s_law f fd) (s : Shared) (u : Value) : BindsTo s fd ⟨[u], []⟩ [("_law_script", u)] := by
  obtain ⟨oc, od, kV, doc, pm, an, cdv, ct, osl, rfl, _⟩ := F.ex
  exact BindsTo.of_eq rfl
end
end E10
set_option Elab.async false
set_option linter.all false
set_option maxRecDepth 100000
set_option maxHeartbeats 4000000
open PySem PySem.W PySem.Calls PyProof.Rows
theorem PySem.Challenge.cw_anyofthese_k12_earliest_ones_made_and_to_holds : PySem.Challenge.rw_anyofthese_k12_earliest_ones_made_and_to.Holds := by
  w_on; o_law
  refine HandSHeadRun.head_any (r := E10.R) (q := E10.qv) (H := E10.hook) (ob := E10.ob) (M := 60000) (loose := E10.names) (d := HandSHeadRun.topDef E10.R.prog E10.iLaw) (kwd := []) E10.ob_eq
    (by kernel_rfl) (fun s => by kernel_rfl) E10.run (by kernel_rfl) (by kernel_rfl) (by kernel_rfl) (by rfl) (by first | assumption | decide +kernel) (by decide +kernel) ⟨rfl, rfl, rfl, rfl, rfl, by decide +kernel⟩ ?hw ?hc
  case hw => w_witness2
  case hc =>
    refine E10.walkG (l := PySem.Challenge.rw_anyofthese_k12_earliest_ones_made_and_to) (n := 63) (k := E10.lawLevel) (y := "_law_script") rfl (by decide) (by kernel_rfl) ⟨rfl, by decide, by decide⟩ ?F
    intro w mg f h Y G g
    obtain ⟨K, X, c⟩ := Y
    have g2 : mg ("law" : PySem.Str) = some (.ref f) := by
      have e : (HandSHeadRun.topDef E10.R.prog E10.iLaw).name = ("law" : PySem.Str) := by kernel_rfl
      rw [← e]
      exact g
    have g3 : mg ("law" : PySem.Str) = some (.ref (He.ga K "law")) := E10.g_law X G c
    have ef : f = He.ga K "law" := by
      have z := g2.symm.trans g3
      simpa using z
    subst ef
    obtain ⟨fd, F, _⟩ := E10.law_of (P := (PySem.Challenge.rw_anyofthese_k12_earliest_ones_made_and_to).prog) (w := w) X G c
    refine ⟨K, fd, E10.spLaw (PySem.Challenge.rw_anyofthese_k12_earliest_ones_made_and_to).prog w K, X, E10.binds_law F, fun H a ns hl hS => E10.law_wants c H a ns hl hS, fun base X2 G2 => ?_⟩
    obtain ⟨fd2, F2, L⟩ := E10.law_of (P := (PySem.Challenge.rw_anyofthese_k12_earliest_ones_made_and_to).prog) (w := w) X2 G2 c
    rw [E10.one_fd F F2] at L
    exact L
