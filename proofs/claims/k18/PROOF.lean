import PyProof.Rows.All
import Wide.All
import OpenK.AllK
import Wide.FinOn
import KE.KExcInit
import KE.KExcIs
import KE.KIsAll
import HandS.ForMost
import HandS.Exc
import HandS.ExcInit
import HandS.ExcIs
import HandS.IsInst
import HandS.DeepEq
import HandS.Defaults
import HandS.Flow
import HandS.Dict
import HandS.Ends
import HandS.Comp
import KE.KExcSuper
import HandS.HeadHook2
import KE.KStateDown
import HandS.Head0
import HandS.Head1
import HandS.Head2
import PySem.Challenge.RW_anyofthese_k18_errors_made_with_any_valu
set_option Elab.async false
set_option linter.all false
set_option maxRecDepth 100000
set_option maxHeartbeats 4000000
/-! Errors as values: made by position and by keyword, their attributes, isinstance. -/
namespace E18
open L2 PySem PySem.Spec PyProof.Rows Builtin.ObjectAttr

/-- what the text says of an own class of errors, over whichever built-in -/
structure ExC (K : PySem.W.Frag) (C : Addr) : Prop where
  fam : ∃ (B nI iI : String) (mB : List Value), ExcBaseFacts B nI iI mB ∧ StoreFacts B mB "object.__setattr__" "object" ∧
    PySem.W.excInitIn K C mB nI = true ∧ PySem.W.excOver K C mB = true
  dct : PySem.W.hasDictIn K C = true
  sa : PySem.W.findIn K (.ref C) "__setattr__" = some (some (.builtin "object.__setattr__"))
  kp : PySem.W.keepIn K (.ref C) = true
  ga : PySem.W.findIn K (.ref C) "__getattribute__" = some (some (.builtin "BaseException.__getattribute__"))
  gn : PySem.W.findIn K (.ref C) "__getattr__" = some none
  sub : PySem.W.subIn K (.ref C) (.type "BaseException") = some true
  ca : PySem.W.findIn K (.ref C) "__class__" = some (some (.builtin "object.__class__"))
  mo : PySem.W.mroIn K C (.type "object") = some true
  sp : PySem.W.specialIn K (.builtin "object.__class__") "__get__" = some (some (.builtin "getset_descriptor.__get__"))
  tk : PySem.W.takesIn K (.builtin "object.__class__") = some true

theorem noTaker {K : PySem.W.Frag} {C : Addr} {f : Str} (n : PySem.W.findIn K (.ref C) f = some none) : PySem.W.takerIn K C f = some none :=
  NoAttr.taker n

section
variable {prog : Program} {w : World} {A : Around} {E : Value → Shared → Prop} {R : Result → Shared → Prop} {hp : Heap} {gs : Array GenState} {dr : Drawn} {n : Nat} {os : OsState}
variable {K : PySem.W.Frag} {C x tp : Addr} {f : Str} {tk : Tok} {v : Value}
/-- the first attribute -/
theorem put0 (T : ExC K C) (X : K.In hp) (hx : hp.get? x = some (PySem.W.excObj C tp none .none)) (nf : PySem.W.findIn K (.ref C) f = some none)
    (go : ∀ h' tk' dx, (∀ b o, b ≠ x → hp.get? b = some o → h'.get? b = some o) → hp.objs.size ≤ dx → dx ≠ x →
      h'.get? x = some (PySem.W.excObj C tp (some dx) .none) → h'.Ns1 dx (fun y => if y = f then some v else none) → R (.ok (.ret .none)) ⟨h', gs, dr, tk', os⟩) :
    codeAny (model prog w) A (.call (.builtin "object.__setattr__") ⟨[.ref x, .str f tk, v], []⟩) R ⟨hp, gs, dr, n, os⟩ := by
  obtain ⟨B, nI, iI, mB, _, sf, _, ov⟩ := T.fam
  refine PySem.W.osa_openX (od := none) sf X ⟨hx, rfl, rfl, trivial⟩ ov (noTaker nf) fun b => ?_
  obtain ⟨cd, hcd, hd⟩ := PySem.W.any_some T.dct
  have hxs : x ≠ hp.objs.size := Nat.ne_of_lt (Heap.lt_size hx)
  refine wpAny_bind ?_
  refine wpAny_pure ?_
  refine wpAny_bind ?_
  refine PySem.W.instanceDict_exc hx (PySem.W.looks_clsIn X hcd) hd ?_
  show wpAny _ _ (storeInDict hp.objs.size (.str f tk) f v) _ _ _
  have hpush : (hp.push (PySem.W.dictOf [] 0)).get? x = some (PySem.W.excObj C tp none .none) := Heap.get?_push_of_some _ hx
  refine PySem.HandSPX.store_in_new ?_ ?_
  · exact ⟨_, #[], _, (Heap.get?_update_ne _ _ _ _ hxs.symm).trans (Heap.get?_push_at rfl rfl), rfl, fun e he => absurd he (by simp), fun _ => rfl⟩
  · intro h' tk' hn sb
    refine go h' tk' hp.objs.size (fun b o hb ho => ?_) (Nat.le_refl _) hxs.symm ?_ hn
    · refine (sb.2 b (Nat.ne_of_lt (Heap.lt_size ho))).trans ?_
      exact (Heap.get?_update_ne _ _ _ _ hb).trans (Heap.get?_push_of_some _ ho)
    · exact (sb.2 x hxs).trans (Heap.get?_update_self _ hpush rfl)
end
end E18

set_option Elab.async false
set_option linter.all false
set_option maxRecDepth 100000
set_option maxHeartbeats 4000000
namespace E18
open PySem PySem.Spec PyProof.Rows L2 Builtin.ObjectAttr Builtin
section
variable {prog : Program} {w : World} {M : Model} {A : Around} {E : Value → Shared → Prop} {R : Result → Shared → Prop} {h : Heap} {g : Array GenState} {d : Drawn} {t : Nat} {os : OsState}
variable {nm q : Str} {C N : Addr} {bs bm bmB : List Value} {hdct : Bool} {sn : List Str} {sub : List Value} {ab : Bool} {col : Option Bool} {dd : Option Addr} {k0 k1 k2 k3 k5 : Option Value} {B newId initId : String}

theorem chkNew (F : ExcBaseFacts B newId initId bmB) (hT : ∀ X : String, bm.contains (.type X) = bmB.contains (.type X)) {us : List Value} {kw : List (Str × Value)} {Q : Unit → Shared → Prop}
    (hC : h.get? C = some (excClassObj nm q C N bs bm hdct sn sub ab col dd k0 k1 k2 k3 k5 newId)) (hq : Q () ⟨h, g, d, t, os⟩) : wpAny M A (checkBuiltinCall newId ⟨.ref C :: us, kw⟩) Q E ⟨h, g, d, t, os⟩ := by
  have hc : (Value.ref C :: bm).contains (.type B) = true := by
    rw [List.contains_cons, hT, F.hasB]
    exact Bool.or_true _
  have hs := F.noStar
  simp only [checkBuiltinCall, F.newKind, F.newSplit, F.newRow]
  repeat (first
    | refine wpAny_loadPart_at hC ?_
    | (refine wpAny_isSubtype_exc hC ?_; rw [hc])
    | refine wpAny_staticBase_exc hC ?_
    | refine wpAny_madeBy_exc hC ?_
    | simp only [bne_self_eq_false, Bool.false_eq_true, if_false]
    | wp_step)
  all_goals exact hq

theorem newKw (F : ExcBaseFacts B newId initId bmB) (hT : ∀ X : String, bm.contains (.type X) = bmB.contains (.type X)) {us : List Value} {kw : List (Str × Value)}
    (hC : h.get? C = some (excClassObj nm q C N bs bm hdct sn sub ab col dd k0 k1 k2 k3 k5 newId)) (room : us.length ≤ sizeLine)
    (hq : R (.ok (.ret (.ref (h.objs.size + 1)))) ⟨(h.push (PySem.W.kdv_tup us)).push (PySem.HandSPX.excO C h.objs.size), g, d, t, os⟩) :
    codeAny (model prog w) A (.builtin newId ⟨.ref C :: us, kw⟩) R ⟨h, g, d, t, os⟩ := by
  have ends := F.ends
  have inB : (Value.ref C :: bm).contains (.type B) = true := by
    rw [List.contains_cons, hT, F.hasB]
    exact Bool.or_true _
  have noA : (Value.ref C :: bm).contains (.type "AttributeError") = false := by
    rw [List.contains_cons, hT, F.noAttr]
    rfl
  have noN : (Value.ref C :: bm).contains (.type "NameError") = false := by
    rw [List.contains_cons, hT, F.noName]
    rfl
  refine codeAny_builtinAt F.entry ?_
  unfold Builtin.«BaseException.__new__»
  refine PySem.wpAt_bind ?_
  show PySem.wpAt _ _ _ (stack >>= _) _ _ _
  refine PySem.wpAt_bind (PySem.wpAt_stack fun pp bl => PySem.wpAt_of_wpAny ?_)
  wp_walk
  refine PySem.wpAt_of_wpAny ?_
  rw [F.owner]
  repeat (first
    | with_reducible refine wpAny_madeHere_exc F.canon hC ?_
    | with_reducible refine wpAny_loadPart_at hC ?_
    | (with_reducible refine wpAny_isSubtype_exc hC ?_; first | rw [inB] | rw [noA] | rw [noN])
    | wp_step)
  show R _ _
  rw [Heap.size_push]
  exact hq

theorem typeCallKw (F : ExcBaseFacts B newId initId bmB) (hT : ∀ X : String, bm.contains (.type X) = bmB.contains (.type X)) {us : List Value} {kw : List (Str × Value)} {fI : Addr} {Q : Fin → Shared → Prop}
    (hC : h.get? C = some (excClassObj nm q C N bs bm hdct sn sub ab col dd k0 k1 k2 k3 k5 newId))
    (li : PySem.W.Looks (model prog w) h (typeLookup (.ref C) "__init__") (some (.ref fI)))
    (lb : ∀ self, PySem.W.Looks (model prog w) h (bindSpecial (.ref fI) self) (.ref fI, [self])) (room : us.length ≤ sizeLine)
    (hq : codeAny (model prog w) A (.call (.ref fI) ⟨.ref (h.objs.size + 1) :: us, kw⟩)
      (fun r s' => match r with
        | .ok (.ret v) => v = .none ∧ Q (.done (.ret (.ref (h.objs.size + 1)))) s'
        | .ok _ => False
        | .error e => E e s')
      ⟨(h.push (PySem.W.kdv_tup us)).push (PySem.HandSPX.excO C h.objs.size), g, d, t, os⟩) :
    wpAny (model prog w) A (Builtin.«type.__call__» ⟨.ref C :: us, kw⟩) Q E ⟨h, g, d, t, os⟩ := by
  repeat (first
    | with_reducible refine wpAny_loadPart_at hC ?_
    | with_reducible refine wpAny_madeBy_exc hC ?_
    | wp_step)
  refine codeAny_call_builtin_code (Code.quiet_builtin _ F.quiet) (chkNew F hT hC ?_)
  refine newKw F hT hC room ?_
  show wpAny _ _ _ _ _ _
  have kp : ∀ b o, h.get? b = some o → ((h.push (PySem.W.kdv_tup us)).push (PySem.HandSPX.excO C h.objs.size)).get? b = some o := fun b o e =>
    Heap.get?_push_of_some _ (Heap.get?_push_of_some _ e)
  have hC1 := kp _ _ hC
  have at1 : ((h.push (PySem.W.kdv_tup us)).push (PySem.HandSPX.excO C h.objs.size)).get? (h.objs.size + 1) = some (PySem.HandSPX.excO C h.objs.size) := by
    heap_get
  have inC : (Value.ref C :: bm).contains (.ref C) = true := by simp
  have l1 := li.keeps kp
  have l2 := (lb (.ref (h.objs.size + 1))).keeps kp
  unfold isInstance
  repeat (first
    | with_reducible refine wpAny_loadPart_at at1 ?_
    | (with_reducible refine wpAny_isSubtype_exc hC1 ?_; rw [inC])
    | wp_step)
  show wpAny _ _ (typeLookup (.ref C) _) _ _ _
  refine l1.at ?_
  refine wpAny_holding (wpAny_bind (l2.at ?_))
  refine wpAny_bind (wpAny_call (codeAny_mono hq fun r s' z => ?_))
  rcases r with e | (v | _ | _ | _) <;> first | exact z | exact z.elim | skip
  obtain ⟨rfl, z⟩ := z
  first
    | exact wpAny_pure (wpAny_pure z)
    | (wp_walk; exact z)

theorem callKw (F : ExcBaseFacts B newId initId bmB) (hT : ∀ X : String, bm.contains (.type X) = bmB.contains (.type X)) {us : List Value} {kw : List (Str × Value)} {fI : Addr}
    (hC : h.get? C = some (excClassObj nm q C N bs bm hdct sn sub ab col dd k0 k1 k2 k3 k5 newId))
    (li : PySem.W.Looks (model prog w) h (typeLookup (.ref C) "__init__") (some (.ref fI)))
    (lb : ∀ self, PySem.W.Looks (model prog w) h (bindSpecial (.ref fI) self) (.ref fI, [self])) (room : us.length ≤ sizeLine)
    (hq : codeAny (model prog w) (A.under (.builtin "type.__call__" ⟨.ref C :: us, kw⟩)) (.call (.ref fI) ⟨.ref (h.objs.size + 1) :: us, kw⟩) (PySem.W.InitBack (h.objs.size + 1) R)
      ⟨(h.push (PySem.W.kdv_tup us)).push (PySem.HandSPX.excO C h.objs.size), g, d, t, os⟩) :
    codeAny (model prog w) A (.call (.ref C) ⟨us, kw⟩) R ⟨h, g, d, t, os⟩ := by
  have f1 := tc_lookup
  have f2 := tc_bind (.ref C)
  have ty : (⟨h, g, d, t, os⟩ : Shared).TypeIs (.ref C) "type" := ⟨_, hC, rfl⟩
  refine codeAny_of_tree ?_
  show wpAny _ _ (callAny (.ref C) _) _ _ _
  repeat (any_goals (first
    | assumption
    | with_reducible refine wpAny_loadPart_at hC ?_
    | wp_step))
  refine ⟨rfl, ?_⟩
  refine codeAny_call_builtin_at (Code.quiet_builtin _ (by decide +kernel)) entry_typeCall ?_
  have chk : ∀ {Q : Unit → Shared → Prop} {E : Value → Shared → Prop}, Q () ⟨h, g, d, t, os⟩ → wpAny (model prog w) A.in1 (checkBuiltinCall "type.__call__" ⟨.ref C :: us, kw⟩) Q E ⟨h, g, d, t, os⟩ := by
    intro Q E z
    have f3 := tc_sub
    simp only [checkBuiltinCall, tc_kind, tc_split]
    repeat (any_goals (first
      | assumption
      | with_reducible refine wpAny_loadPart_at hC ?_
      | with_reducible refine wpAny_onRaise ?_
      | with_reducible refine wpAny_map ?_
      | wp_step))
  refine chk (typeCallKw F hT hC li lb room ?_)
  refine codeAny_mono hq fun r s' z => ?_
  rcases r with e | (v | _ | _ | _) <;> exact z
end
end E18

set_option Elab.async false
set_option linter.all false
set_option maxRecDepth 100000
set_option maxHeartbeats 4000000
namespace E18
open L2 PySem PySem.Spec PyProof.Rows
/-- an error with its attributes -/
def Err (H : Hp) (e C : Addr) (fs : List (Str × V)) : Prop := ∃ d, H e = some (exo e C (some d)) ∧ H d = some (exd d fs)

section
variable {X : Cx} {pins : List (Addr × Obj)} {σ : L2.St} {H : Hp} {s : Shared} {a C dx : Addr} {f : Str} {y : V} {u : Value} {fs : List (Str × V)} {Q : Unit → Shared → Prop} {E : Value → Shared → Prop} {A : Around}
theorem rel_one {mA : Str → Option Value} (ry : RelV y u) (r : ∀ g, RelO (fs.lookup g) (mA g)) : ∀ g, RelO (((f, y) :: fs).lookup g) (if g = f then some u else mA g) :=
  fun g => relO_put ry r g
/-- self.f = y, where no attribute stands -/
theorem set_new (T : ExC X.K C) (I : Inv X pins σ H s) (e : H a = some (exo a C none)) (nf : PySem.W.findIn X.K (.ref C) f = some none) (ry : RelV y u)
    (go : ∀ dx s', H dx = none → dx ≠ a → Inv X pins σ (upd (upd H dx (exd dx [(f, y)])) a (exo a C (some dx))) s' → Q () s') :
    wpAny (model X.prog X.w) A (setAttr (.ref a) f u) Q E s := by
  obtain ⟨t1, ho⟩ := exo_at I.hok e
  obtain ⟨hp, g, d, t, os⟩ := s
  refine PySem.W.set_plain I.kIn (ox := PySem.W.excObj C t1 none .none) (od := none) ⟨ho, rfl, rfl, trivial⟩ T.sa ?_
  refine put0 T I.kIn ho nf fun h' tk' dx kp hsz dne hx hn => ?_
  have hnd : H dx = none := I.hok.fresh hsz
  -- the heap between: the dict is laid, the object is as it was
  let h1 : Heap := h'.update a fun _ => PySem.W.excObj C t1 none .none
  have e1 : h1.get? a = some (PySem.W.excObj C t1 none .none) := Heap.get?_update_self _ hx rfl
  have e2 : ∀ b, b ≠ a → h1.get? b = h'.get? b := fun b hb => Heap.get?_update_ne _ _ _ _ hb
  have k1 : ∀ b o, hp.get? b = some o → h1.get? b = some o := fun b o q => by
    by_cases hb : b = a
    · rw [hb] at q ⊢
      rw [e1]
      exact ho.symm.trans q
    · rw [e2 b hb]
      exact kp b o hb q
  have n1 : h1.Ns1 dx (fun z => if z = f then some u else none) := hn.at fun o q => by rw [e2 dx dne]; exact q
  have I1 : Inv X pins σ (upd H dx (exd dx [(f, y)])) ⟨h1, g, d, tk', os⟩ :=
    I.laid (t' := tk') k1 hsz (exd_ok n1 (rel_one (fs := []) (mA := fun _ => none) ry fun _ => True.intro))
  have ea : upd H dx (exd dx [(f, y)]) a = some (exo a C none) := by rw [upd_ne dne.symm]; exact e
  have I2 := I1.write (t' := tk') (h' := h') (x := a) (e := a) (o := exo a C (some dx)) (by rw [ea]; exact True.intro) (.inl rfl) (fun b o hb q => by rw [← e2 b hb]; exact q) ⟨_, hx⟩ (exo_ok hx)
  exact go dx _ hnd dne I2
/-- self.f = y, a further attribute -/
theorem set_more (T : ExC X.K C) (I : Inv X pins σ H s) (e : H a = some (exo a C (some dx))) (ed : H dx = some (exd dx fs)) (room : fs.length ≤ 900) (nf : PySem.W.findIn X.K (.ref C) f = some none) (ry : RelV y u)
    (go : ∀ s', Inv X pins σ (upd H dx (exd dx ((f, y) :: fs))) s' → Q () s') :
    wpAny (model X.prog X.w) A (setAttr (.ref a) f u) Q E s := by
  obtain ⟨t1, ho⟩ := exo_at I.hok e
  obtain ⟨mA, hns, rel⟩ := exd_at I.hok ed
  have hw := within_of rel
  obtain ⟨hp, g, d, t, os⟩ := s
  obtain ⟨oD, _, _, hoD, _, _⟩ := hns.count hw
  obtain ⟨B, nI, iI, mB, _, sf, _, ov⟩ := T.fam
  refine PySem.W.set_plain I.kIn (ox := PySem.W.excObj C t1 (some dx) .none) (od := some oD) ⟨ho, rfl, rfl, hoD⟩ T.sa ?_
  refine PySem.W.osa_openX (od := some oD) sf I.kIn ⟨ho, rfl, rfl, hoD⟩ ov (noTaker nf) fun b => ?_
  obtain ⟨cd, hcd, hd⟩ := PySem.W.any_some T.dct
  refine wpAny_bind (wpAny_pure (wpAny_bind (wpAny_bind ?_)))
  refine wpAny_loadPart ho ?_
  refine wpAny_bind ((PySem.W.looks_clsIn I.kIn hcd).at ?_)
  rw [hd]
  refine wpAny_pure (a := some dx) ?_
  refine PySem.OEX.store_in_old hns hw (by rw [List.length_map]; omega) fun h' tk' hn sb => ?_
  have there : ∃ o, h'.get? dx = some o := by
    obtain ⟨o, _, _, e', _⟩ := hn
    exact ⟨o, e'⟩
  exact go _ (I.write (t' := tk') (x := dx) (e := dx) (o := exd dx ((f, y) :: fs)) (by rw [ed]; exact True.intro) (.inl rfl) (fun b o hb q => (sb.2 b hb).trans q) there (exd_ok hn (rel_one ry rel)))
end

/-- self.f = e in an error's __init__ -/
def sExf (K : PySem.W.Frag) (f : Str) (to te : TE) : TS := fun D σ H => te σ H fun y H1 => to σ H1 fun x H2 => ∃ a C : Addr, x = .ref a ∧ ExC K C ∧ PySem.W.findIn K (.ref C) f = some none ∧
  ((H2 a = some (exo a C none) ∧ ∀ dx, H2 dx = none → dx ≠ a → D.nx σ (upd (upd H2 dx (exd dx [(f, y)])) a (exo a C (some dx)))) ∨
    ∃ (dx : Addr) (fs : List (Str × V)), H2 a = some (exo a C (some dx)) ∧ H2 dx = some (exd dx fs) ∧ fs.length ≤ 900 ∧ D.nx σ (upd H2 dx (exd dx ((f, y) :: fs))))
/-- e.f of an error -/
def tExf (K : PySem.W.Frag) (f : Str) (te : TE) : TE := fun σ H Q => te σ H fun x H1 => ∃ a C fs v, x = .ref a ∧ ExC K C ∧ PySem.W.findIn K (.ref C) f = some none ∧ Err H1 a C fs ∧ fs.lookup f = some v ∧ Q v H1
/-- isinstance(e, D) of an error -/
def rIsx (K : PySem.W.Frag) : List V → Hp → VK → Prop := fun xs H Q => ∃ (a C : Addr) (fs : List (Str × V)) (D : V) (u : Value) (b : Bool), xs = [.ref a, D] ∧ ClsV D u ∧ ExC K C ∧ (Err H a C fs ∨ H a = some (exo a C none)) ∧ PySem.W.kitOne K (.ref C) u = some b ∧ Q (.bl b) H
section
variable {X : Cx} {o e : Expr} {to te : TE} {f : Str} {p' pos : Pos}
theorem ps_exf (ho : PE X o to) (he : PE X e te) (hs : swapsWith e (some (.Attribute o f p')) pos.line X.env = pure false := by rfl) : PS X (.Assign [.Attribute o f p'] e pos) (sExf X.K f to te) := by
  refine ⟨fun pins s σ H D I h => ?_⟩
  refine plainObj_wpAny_Assign_Attribute (thn (he.run pins s σ H _ I h) fun v s1 hv => ?_) hs
  obtain ⟨y, H1, I1, r1, q1⟩ := hv
  refine thn (ho.run pins s1 σ H1 _ I1 q1) fun u s2 hu => ?_
  obtain ⟨x, H2, I2, r2, a, C, ex, T, nf, q⟩ := hu
  subst ex
  obtain rfl : u = Value.ref a := r2
  rcases q with ⟨ea, q⟩ | ⟨dx, fs, ea, ed, hl, q⟩
  · exact set_new T I2 ea nf r1 fun dx s' n ne J => ⟨σ, _, J, q dx n ne⟩
  · exact set_more T I2 ea ed hl nf r1 fun s' J => ⟨σ, _, J, q⟩
theorem pe_exf (he : PE X e te) (hb : attributeBase e f X.env (eval e X.env) = eval e X.env := by rfl) : PE X (.Attribute e f pos) (tExf X.K f te) := by
  refine ⟨fun pins s σ H Q I h => ?_⟩
  refine attr_of hb (thn (he.run pins s σ H _ I h) fun u s1 hu => ?_)
  obtain ⟨x, H1, I1, rx, a, C, fs, v, ex, T, nf, ⟨dd, ea, ed⟩, l, q⟩ := hu
  subst ex
  obtain rfl : u = Value.ref a := rx
  obtain ⟨t1, ho⟩ := exo_at I1.hok ea
  obtain ⟨mA, hns, rel⟩ := exd_at I1.hok ed
  obtain ⟨od, hod, hl⟩ := lookIn_ns hns
  obtain ⟨w, hw, rw'⟩ := RelO.some_of (v := v) (o := mA f) (by rw [← l]; exact rel f)
  have J : PySem.W.InstAt s1.heap a _ C (some od) := ⟨ho, rfl, rfl, hod⟩
  exact HandSPX.exc_get I1.kIn J T.ga T.gn T.sub (PySem.W.findObj_own T.dct nf rfl (by rw [hl, hw])) (handed_of rw') ⟨v, H1, I1.tok _, rw', q⟩
theorem call_isx : CallR X (.builtin "isinstance") (rIsx X.K) := by
  intro pins s σ H xs us Q I r h
  obtain ⟨a, C, fs, D, u, b, rfl, k, T, ha, e, q⟩ := h
  obtain ⟨u1, u2, rfl, r1, r2⟩ := vals2 r
  have e2 := k.eq r2
  subst e2
  obtain rfl : u1 = Value.ref a := r1
  obtain ⟨cd, hcd, _⟩ := PySem.W.any_some T.dct
  have hcl : (PySem.W.clsIn X.K C).isSome = true := by rw [hcd]; rfl
  rcases ha with ⟨d, ea, ed⟩ | ea
  · obtain ⟨t1, ho⟩ := exo_at I.hok ea
    obtain ⟨mA, hns, rel⟩ := exd_at I.hok ed
    obtain ⟨od, hod, _⟩ := lookIn_ns hns
    exact PySem.W.kia_one (PySem.W.kitx_exc (od := some od) hcl T.ga T.gn T.sub T.ca T.sp T.tk T.mo) I.kIn ⟨ho, rfl, rfl, hod⟩ e (fun z => nomatch z) fun tk => ⟨.bl b, H, I.tok tk, rfl, q⟩
  · obtain ⟨t1, ho⟩ := exo_at I.hok ea
    exact PySem.W.kia_one (PySem.W.kitx_exc (od := none) hcl T.ga T.gn T.sub T.ca T.sp T.tk T.mo) I.kIn ⟨ho, rfl, rfl, trivial⟩ e (fun z => nomatch z) fun tk => ⟨.bl b, H, I.tok tk, rfl, q⟩
end
end E18

set_option Elab.async false
set_option linter.all false
set_option maxRecDepth 100000
set_option maxHeartbeats 4000000
namespace E18
open L2 PySem PySem.Spec PyProof.Rows
/-! ### an error is made -/
section
variable {X : Cx} {pins : List (Addr × Obj)} {σ : L2.St} {H : Hp} {s : Shared} {C fI : Addr} {fd : FuncData} {k n : Nat} {ps ks : List Str} {sp : Sp} {Q : VK} {us ws : List Value} {vs zs : List V} {g : List Value → List Value → List Value} {gV : List V → List V → List V}
theorem run_mkx (T : ExC X.K C) (iC : PySem.W.findIn X.K (.ref C) "__init__" = some (some (.ref fI))) (tI : PySem.W.typeIn X.K (.ref fI) = some (.type "function"))
    (F1 : FnOk X.prog X.w X.K X.mg X.base CX0 k fI fd ps sp) (hr : Room (k + 1) X.A) (hb : KBn X.K fd ps (n + 1) ks g gV) (I : Inv X pins σ H s) (r : Vals vs us) (rz : Vals zs ws)
    (l1 : vs.length = n) (l2 : zs.length = ks.length) (room : n ≤ 1000)
    (go : ∀ a, H a = none → sp (gV (.ref a :: vs) zs) (upd H a (exo a C none)) (fun v H2 => v = .non ∧ Q (.ref a) H2) E0) :
    wpAny (model X.prog X.w) X.A (call (.ref C) us (ks.zip ws)) (EP X pins σ Q) X.xe s := by
  obtain ⟨B, nI, iI, mB, fb, _, qi, _⟩ := T.fam
  obtain ⟨nm, N, qn, bs, bm, hdct, sn, sub, ab, col, dd, k0, k1, k2, k3, k5, hC, hT⟩ := PySem.W.excInit_of I.kIn qi
  obtain ⟨hp, gs, dr, tk, os⟩ := s
  have hsz : hp.objs.size ≤ hp.objs.size + 1 := Nat.le_succ _
  have hn : H (hp.objs.size + 1) = none := I.hok.fresh hsz
  have hq := go (hp.objs.size + 1) hn
  have kk : ∀ b o, hp.get? b = some o → ((hp.push (PySem.W.kdv_tup us)).push (PySem.HandSPX.excO C hp.objs.size)).get? b = some o := fun b o e =>
    Heap.get?_push_of_some _ (Heap.get?_push_of_some _ e)
  have hget : ((hp.push (PySem.W.kdv_tup us)).push (PySem.HandSPX.excO C hp.objs.size)).get? (hp.objs.size + 1) = some (PySem.HandSPX.excO C hp.objs.size) := by
    heap_get
  have I2 : Inv X pins σ (upd H (hp.objs.size + 1) (exo (hp.objs.size + 1) C none)) ⟨(hp.push (PySem.W.kdv_tup us)).push (PySem.HandSPX.excO C hp.objs.size), gs, dr, tk, os⟩ :=
    I.laid (t' := tk) (a := hp.objs.size + 1) (o := exo (hp.objs.size + 1) C none) kk hsz (exo_ok hget)
  have r1 : Vals (V.ref (hp.objs.size + 1) :: vs) (Value.ref (hp.objs.size + 1) :: us) := .cons rfl r
  have r2 := hb.rel r1 rz
  have e1 : (Value.ref (hp.objs.size + 1) :: us).length = n + 1 := r1.length.symm.trans (congrArg Nat.succ l1)
  have e2 : ws.length = ks.length := rz.length.symm.trans l2
  have hus : us.length ≤ sizeLine := by
    have : us.length = n := Nat.succ.inj e1
    rw [this, sizeLine_eq]
    omega
  refine wpAny_call (callKw fb hT hC (PySem.W.looks_findIn I.kIn iC) (fun self => PySem.W.bind_fn I.kIn self tI) hus ?_)
  refine codeAny_mono (F1.run _ X.stack _ _ ⟨Value.ref (hp.objs.size + 1) :: us, ks.zip ws⟩ (g (Value.ref (hp.objs.size + 1) :: us) ws) _ _ E0 (hr.make C us (ks.zip ws)) (I2.env0.make C us (ks.zip ws)) (hb.to _ _ ws I2.kIn e1 e2) r2 hq) fun r s' hq' => ?_
  cases r with
  | error e => exact (show False from hq').elim
  | ok fl =>
    cases fl with
    | ret u =>
      obtain ⟨v, H', I3, rv, ev, q3⟩ := I2.after hq'
      subst ev
      exact ⟨rv, ⟨V.ref (hp.objs.size + 1), H', I3, rfl, q3⟩⟩
    | next => exact False.elim hq'
    | brk => exact False.elim hq'
    | cont => exact False.elim hq'
end
/-- what C(..) gives: vs by place, zs by name; fs of them the attributes -/
def tMkx (n m : Nat) (C : Addr) (sp : Sp) (gV : List V → List V → List V) (t tk : TA) : TE := fun σ H Q => t σ H fun vs H1 => tk σ H1 fun zs H2 => vs.length = n ∧ zs.length = m ∧
  ∀ a, H2 a = none → sp (gV (.ref a :: vs) zs) (upd H2 a (exo a C none)) (fun v H3 => v = .non ∧ Q (.ref a) H3) E0
section
variable {X : Cx} {C fI : Addr} {fd : FuncData} {k n : Nat} {ps ks : List Str} {sp : Sp} {x : Str} {p pos : Pos} {e : Expr} {es : List Expr} {kws : List Keyword} {t tk : TA} {g : List Value → List Value → List Value} {gV : List V → List V → List V}
theorem pe_mkx (T : ExC X.K C) (iC : PySem.W.findIn X.K (.ref C) "__init__" = some (some (.ref fI))) (tI : PySem.W.typeIn X.K (.ref fI) = some (.type "function"))
    (F1 : FnOk X.prog X.w X.K X.mg X.base CX0 k fI fd ps sp) (hr : Room (k + 1) X.A) (hb : KBn X.K fd ps (n + 1) ks g gV) (room : n ≤ 1000) (hg : Gl X x) (hm : X.mg x = some (.ref C))
    (ha : PA X (e :: es) t) (hkw : PK X kws tk) (hall : (backToKw pos (keywordEach kws X.env)).all (·.1.isSome) = true := by rfl) (hks : (backToKw pos (keywordEach kws X.env)).filterMap (·.1) = ks := by rfl)
    (hdb : (x == ("__debug__" : Str)) = false := by decide) (he : starEach (e :: es) X.env = (false, eval e X.env) :: starEach es X.env := by rfl)
    (hpl : ((backTo pos (starEach (e :: es) X.env)).any (·.1) || (backToKw pos (keywordEach kws X.env)).any (·.1.isNone)) = false := by rfl) :
    PE X (.Call (.Name x p) (e :: es) kws pos) (tMkx n ks.length C sp gV t tk) := by
  refine ⟨fun pins s σ H Q I h => ?_⟩
  refine wpAny_Call_Name_kw (ld_glob I hg hm ?_ hdb)
  refine PySem.W.callWith_KW (h₀ := X.base) I.ok.mod.kin T.kp hall (thn (ha.run pos pins s σ H _ I h) fun us s1 hu => ?_) hpl he
  obtain ⟨vs, H1, I1, r, q⟩ := hu
  refine thn (hkw.run pos pins s1 σ H1 _ I1 q) fun ws s2 hw => ?_
  obtain ⟨zs, H2, I2, rz, l1, l2, q2⟩ := hw
  refine ⟨I2.kIn, ?_⟩
  rw [hks]
  exact run_mkx T iC tI F1 hr hb I2 r rz l1 l2 room q2
theorem pe_mkxK (T : ExC X.K C) (iC : PySem.W.findIn X.K (.ref C) "__init__" = some (some (.ref fI))) (tI : PySem.W.typeIn X.K (.ref fI) = some (.type "function"))
    (F1 : FnOk X.prog X.w X.K X.mg X.base CX0 k fI fd ps sp) (hr : Room (k + 1) X.A) (hb : KBn X.K fd ps 1 ks g gV) (hg : Gl X x) (hm : X.mg x = some (.ref C))
    (hkw : PK X kws tk) (hall : (backToKw pos (keywordEach kws X.env)).all (·.1.isSome) = true := by rfl) (hks : (backToKw pos (keywordEach kws X.env)).filterMap (·.1) = ks := by rfl)
    (hdb : (x == ("__debug__" : Str)) = false := by decide)
    (hpl : ((backTo pos (starEach [] X.env)).any (·.1) || (backToKw pos (keywordEach kws X.env)).any (·.1.isNone)) = false := by rfl) :
    PE X (.Call (.Name x p) [] kws pos) (tMkx 0 ks.length C sp gV tNil tk) := by
  refine ⟨fun pins s σ H Q I h => ?_⟩
  refine wpAny_Call_Name_kw (ld_glob I hg hm ?_ hdb)
  refine PySem.W.callWith_KW0 (h₀ := X.base) I.ok.mod.kin T.kp hall (thn (hkw.run pos pins s σ H _ I h) fun ws s2 hw => ?_) hpl
  obtain ⟨zs, H2, I2, rz, l1, l2, q2⟩ := hw
  refine ⟨I2.kIn, ?_⟩
  rw [hks]
  exact run_mkx (us := []) (vs := []) (n := 0) T iC tI F1 hr hb I2 .nil rz rfl l2 (Nat.zero_le _) q2
theorem pe_mkx0 (T : ExC X.K C) (iC : PySem.W.findIn X.K (.ref C) "__init__" = some (some (.ref fI))) (tI : PySem.W.typeIn X.K (.ref fI) = some (.type "function"))
    (F1 : FnOk X.prog X.w X.K X.mg X.base CX0 k fI fd ps sp) (hr : Room (k + 1) X.A) (hb : KBn X.K fd ps 1 [] g gV) (hg : Gl X x) (hm : X.mg x = some (.ref C))
    (hdb : (x == ("__debug__" : Str)) = false := by decide) :
    PE X (.Call (.Name x p) [] [] pos) (tMkx 0 0 C sp gV tNil tNil) := by
  refine ⟨fun pins s σ H Q I h => ?_⟩
  refine wpAny_Call_Name_kw (ld_glob I hg hm ?_ hdb)
  exact PySem.W.callWith_K0 I.kIn T.kp (run_mkx (us := []) (vs := []) (ws := []) (zs := []) (ks := []) (n := 0) T iC tI F1 hr hb I .nil .nil rfl rfl (Nat.zero_le _) h.2.2)
end
end E18

set_option Elab.async false
set_option linter.all false
set_option maxRecDepth 100000
set_option maxHeartbeats 4000000
namespace E18
open L2 PySem PySem.Spec PyProof.Rows
/-! ### the __init__ of errors with one attribute, and with two -/
/-- self.f = value, nothing else stands on the object -/
def spI1 (K : PySem.W.Frag) (f : Str) : Sp := fun vs H Q _ => ∃ (a C : Addr) (v : V), vs = [.ref a, v] ∧ ExC K C ∧ PySem.W.findIn K (.ref C) f = some none ∧ H a = some (exo a C none) ∧
  ∀ d, H d = none → d ≠ a → Q .non (upd (upd H d (exd d [(f, v)])) a (exo a C (some d)))
def spI2 (K : PySem.W.Frag) (f g : Str) : Sp := fun vs H Q _ => ∃ (a C : Addr) (v u : V), vs = [.ref a, v, u] ∧ ExC K C ∧ PySem.W.findIn K (.ref C) f = some none ∧ PySem.W.findIn K (.ref C) g = some none ∧ H a = some (exo a C none) ∧
  ∀ d, H d = none → d ≠ a → Q .non (upd (upd (upd H d (exd d [(f, v)])) a (exo a C (some d))) d (exd d [(g, u), (f, v)]))
def ini1 (f : Str) (a1 a2 p1 p2 p3 p4 q : Pos) : Stmt := .FunctionDef "__init__" { posonlyargs := [], args := [{ arg := "self", annotation := none, pos := a1 }, { arg := f, annotation := none, pos := a2 }], vararg := none, kwonlyargs := [], kw_defaults := [], kwarg := none, defaults := [] }
  [.Assign [.Attribute (.Name "self" p1) f p2] (.Name f p3) p4] [] none [] { kind := .function, names := [(Str.ofString "self", .local), (f, .local)], isGenerator := false, isCoroutine := false, more := [] } none "__init__" q
def ini2 (f g : Str) (a1 a2 a3 p1 p2 p3 p4 r1 r2 r3 r4 q : Pos) : Stmt := .FunctionDef "__init__" { posonlyargs := [], args := [{ arg := "self", annotation := none, pos := a1 }, { arg := f, annotation := none, pos := a2 }, { arg := g, annotation := none, pos := a3 }], vararg := none, kwonlyargs := [], kw_defaults := [], kwarg := none, defaults := [] }
  [.Assign [.Attribute (.Name "self" p1) f p2] (.Name f p3) p4, .Assign [.Attribute (.Name "self" r1) g r2] (.Name g r3) r4] [] none [] { kind := .function, names := [(Str.ofString "self", .local), (f, .local), (g, .local)], isGenerator := false, isCoroutine := false, more := [] } none "__init__" q
theorem kbn_of {K : PySem.W.Frag} {x qual : Str} {st : Stmt} {fa : Addr} {fd : FuncData} {ps ks : List Str} {n : Nat} {g : {α : Type} → List α → List α → List α} (F : Fun K x qual st fa fd)
    (rel : ∀ {vs : List V} {us : List Value} {zs : List V} {ws : List Value}, Vals vs us → Vals zs ws → Vals (g vs zs) (g us ws))
    (h : ∀ (kV doc pm : Value) (an : Option Addr) (cdv ct : Value) (us ws : List Value), us.length = n → ws.length = ks.length →
      bindArgs (PySem.W.fnOf x qual (defArgs st) (defBody st) (defScope st) .none kV doc pm an cdv ct) ⟨us, ks.zip ws⟩ = pure (ps.zip (g us ws))) : KBn K fd ps n ks (fun us ws => g us ws) (fun us ws => g us ws) := by
  obtain ⟨oc, od, kV, doc, pm, an, cdv, ct, osl, rfl, lk, hcd⟩ := F.ex
  exact ⟨fun s us ws _ l1 l2 => BindsTo.of_eq (h kV doc pm an cdv ct us ws l1 l2), rel⟩
def gApp : {α : Type} → List α → List α → List α := fun us ws => us ++ ws
/-- self by place, the other two by name, the later one first -/
def gTurn : {α : Type} → List α → List α → List α := fun us ws => us ++ ws.reverse
theorem rel_app {vs : List V} {us : List Value} {zs : List V} {ws : List Value} (a : Vals vs us) (b : Vals zs ws) : Vals (gApp vs zs) (gApp us ws) := a.append b
theorem rel_rev : ∀ {zs : List V} {ws : List Value}, Vals zs ws → Vals zs.reverse ws.reverse
  | _, _, .nil => .nil
  | _, _, .cons r t => by
    rw [List.reverse_cons, List.reverse_cons]
    exact (rel_rev t).append (.cons r .nil)
theorem rel_turn {vs : List V} {us : List Value} {zs : List V} {ws : List Value} (a : Vals vs us) (b : Vals zs ws) : Vals (gTurn vs zs) (gTurn us ws) := a.append (rel_rev b)
section
variable {P : Program} {w : World} {K : PySem.W.Frag} {mg : Str → Option Value} {base : Heap} {qual : Str} {fa : Addr} {fd : FuncData}
theorem sc_value {a1 a2 p1 p2 p3 p4 q : Pos} : FnScope ["self", "value"] ["self", "value"] (defScope (ini1 "value" a1 a2 p1 p2 p3 p4 q)) :=
  ⟨rfl, rfl, rfl, by decide +kernel, rfl, by show ∀ x ∈ (["self", "value"] : List Str), List.lookup x ([(Str.ofString "self", .local), (("value" : Str), .local)] : List (Str × NameKind)) = some .local ∨ List.lookup x ([(Str.ofString "self", .local), (("value" : Str), .local)] : List (Str × NameKind)) = some .cell; decide +kernel, by show ∀ y ∈ ([(Str.ofString "self", .local), (("value" : Str), .local)] : List (Str × NameKind)), _; decide +kernel⟩
theorem ok_value {a1 a2 p1 p2 p3 p4 q : Pos} (F : Fun K "__init__" qual (ini1 "value" a1 a2 p1 p2 p3 p4 q) fa fd) : FnOk P w K mg base CX0 1 fa fd ["self", "value"] (spI1 K "value") := by
  refine F.ok sc_value (fun vs H Q E h => ?_) (fun cdv A outer s H vs Q E hr h => ?_)
  · obtain ⟨a, C, v, rfl, _⟩ := h
    rfl
  · obtain ⟨a, C, v, rfl, T, nf, ha, go⟩ := h
    refine ⟨_, pss_one (ps_exf (pv 0) (pv 1)), ?_⟩
    exact ⟨v, rfl, .ref a, rfl, a, C, rfl, T, nf, Or.inl ⟨ha, fun d hd ne => go d hd ne⟩⟩
theorem kb_value {a1 a2 p1 p2 p3 p4 q : Pos} (F : Fun K "__init__" qual (ini1 "value" a1 a2 p1 p2 p3 p4 q) fa fd) : KBn K fd ["self", "value"] 2 [] (fun us ws => gApp us ws) (fun us ws => gApp us ws) :=
  kbn_of (g := gApp) F rel_app fun _ _ _ _ _ _ us ws l1 l2 => match us, ws, l1, l2 with | [_, _], [], _, _ => rfl
theorem kk_value {a1 a2 p1 p2 p3 p4 q : Pos} (F : Fun K "__init__" qual (ini1 "value" a1 a2 p1 p2 p3 p4 q) fa fd) : KBn K fd ["self", "value"] 1 ["value"] (fun us ws => gApp us ws) (fun us ws => gApp us ws) :=
  kbn_of (g := gApp) F rel_app fun _ _ _ _ _ _ us ws l1 l2 => match us, ws, l1, l2 with | [_], [_], _, _ => rfl
theorem sc_name {a1 a2 p1 p2 p3 p4 q : Pos} : FnScope ["self", "name"] ["self", "name"] (defScope (ini1 "name" a1 a2 p1 p2 p3 p4 q)) :=
  ⟨rfl, rfl, rfl, by decide +kernel, rfl, by show ∀ x ∈ (["self", "name"] : List Str), List.lookup x ([(Str.ofString "self", .local), (("name" : Str), .local)] : List (Str × NameKind)) = some .local ∨ List.lookup x ([(Str.ofString "self", .local), (("name" : Str), .local)] : List (Str × NameKind)) = some .cell; decide +kernel, by show ∀ y ∈ ([(Str.ofString "self", .local), (("name" : Str), .local)] : List (Str × NameKind)), _; decide +kernel⟩
theorem ok_name {a1 a2 p1 p2 p3 p4 q : Pos} (F : Fun K "__init__" qual (ini1 "name" a1 a2 p1 p2 p3 p4 q) fa fd) : FnOk P w K mg base CX0 1 fa fd ["self", "name"] (spI1 K "name") := by
  refine F.ok sc_name (fun vs H Q E h => ?_) (fun cdv A outer s H vs Q E hr h => ?_)
  · obtain ⟨a, C, v, rfl, _⟩ := h
    rfl
  · obtain ⟨a, C, v, rfl, T, nf, ha, go⟩ := h
    refine ⟨_, pss_one (ps_exf (pv 0) (pv 1)), ?_⟩
    exact ⟨v, rfl, .ref a, rfl, a, C, rfl, T, nf, Or.inl ⟨ha, fun d hd ne => go d hd ne⟩⟩
theorem kb_name {a1 a2 p1 p2 p3 p4 q : Pos} (F : Fun K "__init__" qual (ini1 "name" a1 a2 p1 p2 p3 p4 q) fa fd) : KBn K fd ["self", "name"] 2 [] (fun us ws => gApp us ws) (fun us ws => gApp us ws) :=
  kbn_of (g := gApp) F rel_app fun _ _ _ _ _ _ us ws l1 l2 => match us, ws, l1, l2 with | [_, _], [], _, _ => rfl
theorem kk_name {a1 a2 p1 p2 p3 p4 q : Pos} (F : Fun K "__init__" qual (ini1 "name" a1 a2 p1 p2 p3 p4 q) fa fd) : KBn K fd ["self", "name"] 1 ["name"] (fun us ws => gApp us ws) (fun us ws => gApp us ws) :=
  kbn_of (g := gApp) F rel_app fun _ _ _ _ _ _ us ws l1 l2 => match us, ws, l1, l2 with | [_], [_], _, _ => rfl
theorem sc_position {a1 a2 p1 p2 p3 p4 q : Pos} : FnScope ["self", "position"] ["self", "position"] (defScope (ini1 "position" a1 a2 p1 p2 p3 p4 q)) :=
  ⟨rfl, rfl, rfl, by decide +kernel, rfl, by show ∀ x ∈ (["self", "position"] : List Str), List.lookup x ([(Str.ofString "self", .local), (("position" : Str), .local)] : List (Str × NameKind)) = some .local ∨ List.lookup x ([(Str.ofString "self", .local), (("position" : Str), .local)] : List (Str × NameKind)) = some .cell; decide +kernel, by show ∀ y ∈ ([(Str.ofString "self", .local), (("position" : Str), .local)] : List (Str × NameKind)), _; decide +kernel⟩
theorem ok_position {a1 a2 p1 p2 p3 p4 q : Pos} (F : Fun K "__init__" qual (ini1 "position" a1 a2 p1 p2 p3 p4 q) fa fd) : FnOk P w K mg base CX0 1 fa fd ["self", "position"] (spI1 K "position") := by
  refine F.ok sc_position (fun vs H Q E h => ?_) (fun cdv A outer s H vs Q E hr h => ?_)
  · obtain ⟨a, C, v, rfl, _⟩ := h
    rfl
  · obtain ⟨a, C, v, rfl, T, nf, ha, go⟩ := h
    refine ⟨_, pss_one (ps_exf (pv 0) (pv 1)), ?_⟩
    exact ⟨v, rfl, .ref a, rfl, a, C, rfl, T, nf, Or.inl ⟨ha, fun d hd ne => go d hd ne⟩⟩
theorem kb_position {a1 a2 p1 p2 p3 p4 q : Pos} (F : Fun K "__init__" qual (ini1 "position" a1 a2 p1 p2 p3 p4 q) fa fd) : KBn K fd ["self", "position"] 2 [] (fun us ws => gApp us ws) (fun us ws => gApp us ws) :=
  kbn_of (g := gApp) F rel_app fun _ _ _ _ _ _ us ws l1 l2 => match us, ws, l1, l2 with | [_, _], [], _, _ => rfl
theorem kk_position {a1 a2 p1 p2 p3 p4 q : Pos} (F : Fun K "__init__" qual (ini1 "position" a1 a2 p1 p2 p3 p4 q) fa fd) : KBn K fd ["self", "position"] 1 ["position"] (fun us ws => gApp us ws) (fun us ws => gApp us ws) :=
  kbn_of (g := gApp) F rel_app fun _ _ _ _ _ _ us ws l1 l2 => match us, ws, l1, l2 with | [_], [_], _, _ => rfl
theorem sc_line {a1 a2 p1 p2 p3 p4 q : Pos} : FnScope ["self", "line"] ["self", "line"] (defScope (ini1 "line" a1 a2 p1 p2 p3 p4 q)) :=
  ⟨rfl, rfl, rfl, by decide +kernel, rfl, by show ∀ x ∈ (["self", "line"] : List Str), List.lookup x ([(Str.ofString "self", .local), (("line" : Str), .local)] : List (Str × NameKind)) = some .local ∨ List.lookup x ([(Str.ofString "self", .local), (("line" : Str), .local)] : List (Str × NameKind)) = some .cell; decide +kernel, by show ∀ y ∈ ([(Str.ofString "self", .local), (("line" : Str), .local)] : List (Str × NameKind)), _; decide +kernel⟩
theorem ok_line {a1 a2 p1 p2 p3 p4 q : Pos} (F : Fun K "__init__" qual (ini1 "line" a1 a2 p1 p2 p3 p4 q) fa fd) : FnOk P w K mg base CX0 1 fa fd ["self", "line"] (spI1 K "line") := by
  refine F.ok sc_line (fun vs H Q E h => ?_) (fun cdv A outer s H vs Q E hr h => ?_)
  · obtain ⟨a, C, v, rfl, _⟩ := h
    rfl
  · obtain ⟨a, C, v, rfl, T, nf, ha, go⟩ := h
    refine ⟨_, pss_one (ps_exf (pv 0) (pv 1)), ?_⟩
    exact ⟨v, rfl, .ref a, rfl, a, C, rfl, T, nf, Or.inl ⟨ha, fun d hd ne => go d hd ne⟩⟩
theorem kb_line {a1 a2 p1 p2 p3 p4 q : Pos} (F : Fun K "__init__" qual (ini1 "line" a1 a2 p1 p2 p3 p4 q) fa fd) : KBn K fd ["self", "line"] 2 [] (fun us ws => gApp us ws) (fun us ws => gApp us ws) :=
  kbn_of (g := gApp) F rel_app fun _ _ _ _ _ _ us ws l1 l2 => match us, ws, l1, l2 with | [_, _], [], _, _ => rfl
theorem kk_line {a1 a2 p1 p2 p3 p4 q : Pos} (F : Fun K "__init__" qual (ini1 "line" a1 a2 p1 p2 p3 p4 q) fa fd) : KBn K fd ["self", "line"] 1 ["line"] (fun us ws => gApp us ws) (fun us ws => gApp us ws) :=
  kbn_of (g := gApp) F rel_app fun _ _ _ _ _ _ us ws l1 l2 => match us, ws, l1, l2 with | [_], [_], _, _ => rfl
theorem sc_one {a1 a2 a3 p1 p2 p3 p4 r1 r2 r3 r4 q : Pos} : FnScope ["self", "one", "other"] ["self", "one", "other"] (defScope (ini2 "one" "other" a1 a2 a3 p1 p2 p3 p4 r1 r2 r3 r4 q)) :=
  ⟨rfl, rfl, rfl, by decide +kernel, rfl, by show ∀ x ∈ (["self", "one", "other"] : List Str), List.lookup x ([(Str.ofString "self", .local), (("one" : Str), .local), (("other" : Str), .local)] : List (Str × NameKind)) = some .local ∨ List.lookup x ([(Str.ofString "self", .local), (("one" : Str), .local), (("other" : Str), .local)] : List (Str × NameKind)) = some .cell; decide +kernel, by show ∀ y ∈ ([(Str.ofString "self", .local), (("one" : Str), .local), (("other" : Str), .local)] : List (Str × NameKind)), _; decide +kernel⟩
theorem ok_one {a1 a2 a3 p1 p2 p3 p4 r1 r2 r3 r4 q : Pos} (F : Fun K "__init__" qual (ini2 "one" "other" a1 a2 a3 p1 p2 p3 p4 r1 r2 r3 r4 q) fa fd) : FnOk P w K mg base CX0 1 fa fd ["self", "one", "other"] (spI2 K "one" "other") := by
  refine F.ok sc_one (fun vs H Q E h => ?_) (fun cdv A outer s H vs Q E hr h => ?_)
  · obtain ⟨a, C, v, u, rfl, _⟩ := h
    rfl
  · obtain ⟨a, C, v, u, rfl, T, nf, ng, ha, go⟩ := h
    refine ⟨_, pss_cons (ps_exf (pv 0) (pv 1)) (pss_one (ps_exf (pv 0) (pv 2))), ?_⟩
    refine ⟨v, rfl, .ref a, rfl, a, C, rfl, T, nf, Or.inl ⟨ha, fun d hd ne => ?_⟩⟩
    refine ⟨u, rfl, .ref a, rfl, a, C, rfl, T, ng, Or.inr ⟨d, _, upd_same, ?_, ?_, go d hd ne⟩⟩
    · rw [upd_ne ne, upd_same]
    · show 1 ≤ 900
      decide
theorem kb_one {a1 a2 a3 p1 p2 p3 p4 r1 r2 r3 r4 q : Pos} (F : Fun K "__init__" qual (ini2 "one" "other" a1 a2 a3 p1 p2 p3 p4 r1 r2 r3 r4 q) fa fd) : KBn K fd ["self", "one", "other"] 3 [] (fun us ws => gApp us ws) (fun us ws => gApp us ws) :=
  kbn_of (g := gApp) F rel_app fun _ _ _ _ _ _ us ws l1 l2 => match us, ws, l1, l2 with | [_, _, _], [], _, _ => rfl
theorem kt_one {a1 a2 a3 p1 p2 p3 p4 r1 r2 r3 r4 q : Pos} (F : Fun K "__init__" qual (ini2 "one" "other" a1 a2 a3 p1 p2 p3 p4 r1 r2 r3 r4 q) fa fd) : KBn K fd ["self", "one", "other"] 1 ["other", "one"] (fun us ws => gTurn us ws) (fun us ws => gTurn us ws) :=
  kbn_of (g := gTurn) F rel_turn fun _ _ _ _ _ _ us ws l1 l2 => match us, ws, l1, l2 with | [_], [_, _], _, _ => rfl
theorem km_one {a1 a2 a3 p1 p2 p3 p4 r1 r2 r3 r4 q : Pos} (F : Fun K "__init__" qual (ini2 "one" "other" a1 a2 a3 p1 p2 p3 p4 r1 r2 r3 r4 q) fa fd) : KBn K fd ["self", "one", "other"] 2 ["other"] (fun us ws => gApp us ws) (fun us ws => gApp us ws) :=
  kbn_of (g := gApp) F rel_app fun _ _ _ _ _ _ us ws l1 l2 => match us, ws, l1, l2 with | [_, _], [_], _, _ => rfl
theorem sc_what {a1 a2 a3 p1 p2 p3 p4 r1 r2 r3 r4 q : Pos} : FnScope ["self", "what", "limit"] ["self", "what", "limit"] (defScope (ini2 "what" "limit" a1 a2 a3 p1 p2 p3 p4 r1 r2 r3 r4 q)) :=
  ⟨rfl, rfl, rfl, by decide +kernel, rfl, by show ∀ x ∈ (["self", "what", "limit"] : List Str), List.lookup x ([(Str.ofString "self", .local), (("what" : Str), .local), (("limit" : Str), .local)] : List (Str × NameKind)) = some .local ∨ List.lookup x ([(Str.ofString "self", .local), (("what" : Str), .local), (("limit" : Str), .local)] : List (Str × NameKind)) = some .cell; decide +kernel, by show ∀ y ∈ ([(Str.ofString "self", .local), (("what" : Str), .local), (("limit" : Str), .local)] : List (Str × NameKind)), _; decide +kernel⟩
theorem ok_what {a1 a2 a3 p1 p2 p3 p4 r1 r2 r3 r4 q : Pos} (F : Fun K "__init__" qual (ini2 "what" "limit" a1 a2 a3 p1 p2 p3 p4 r1 r2 r3 r4 q) fa fd) : FnOk P w K mg base CX0 1 fa fd ["self", "what", "limit"] (spI2 K "what" "limit") := by
  refine F.ok sc_what (fun vs H Q E h => ?_) (fun cdv A outer s H vs Q E hr h => ?_)
  · obtain ⟨a, C, v, u, rfl, _⟩ := h
    rfl
  · obtain ⟨a, C, v, u, rfl, T, nf, ng, ha, go⟩ := h
    refine ⟨_, pss_cons (ps_exf (pv 0) (pv 1)) (pss_one (ps_exf (pv 0) (pv 2))), ?_⟩
    refine ⟨v, rfl, .ref a, rfl, a, C, rfl, T, nf, Or.inl ⟨ha, fun d hd ne => ?_⟩⟩
    refine ⟨u, rfl, .ref a, rfl, a, C, rfl, T, ng, Or.inr ⟨d, _, upd_same, ?_, ?_, go d hd ne⟩⟩
    · rw [upd_ne ne, upd_same]
    · show 1 ≤ 900
      decide
theorem kb_what {a1 a2 a3 p1 p2 p3 p4 r1 r2 r3 r4 q : Pos} (F : Fun K "__init__" qual (ini2 "what" "limit" a1 a2 a3 p1 p2 p3 p4 r1 r2 r3 r4 q) fa fd) : KBn K fd ["self", "what", "limit"] 3 [] (fun us ws => gApp us ws) (fun us ws => gApp us ws) :=
  kbn_of (g := gApp) F rel_app fun _ _ _ _ _ _ us ws l1 l2 => match us, ws, l1, l2 with | [_, _, _], [], _, _ => rfl
theorem kt_what {a1 a2 a3 p1 p2 p3 p4 r1 r2 r3 r4 q : Pos} (F : Fun K "__init__" qual (ini2 "what" "limit" a1 a2 a3 p1 p2 p3 p4 r1 r2 r3 r4 q) fa fd) : KBn K fd ["self", "what", "limit"] 1 ["limit", "what"] (fun us ws => gTurn us ws) (fun us ws => gTurn us ws) :=
  kbn_of (g := gTurn) F rel_turn fun _ _ _ _ _ _ us ws l1 l2 => match us, ws, l1, l2 with | [_], [_, _], _, _ => rfl
theorem km_what {a1 a2 a3 p1 p2 p3 p4 r1 r2 r3 r4 q : Pos} (F : Fun K "__init__" qual (ini2 "what" "limit" a1 a2 a3 p1 p2 p3 p4 r1 r2 r3 r4 q) fa fd) : KBn K fd ["self", "what", "limit"] 2 ["limit"] (fun us ws => gApp us ws) (fun us ws => gApp us ws) :=
  kbn_of (g := gApp) F rel_app fun _ _ _ _ _ _ us ws l1 l2 => match us, ws, l1, l2 with | [_, _], [_], _, _ => rfl
end
end E18

set_option Elab.async false
set_option linter.all false
set_option maxRecDepth 100000
set_option maxHeartbeats 4000000
namespace E18
open L2 PySem PySem.Spec PyProof.Rows
/-! ### classes as the law finds them, and what their calls give -/
theorem PE.wk {X : Cx} {e : Expr} {t t' : TE} (h : PE X e t) (i : ∀ σ H Q, t' σ H Q → t σ H Q) : PE X e t' := ⟨fun pins s σ H Q I q => h.run pins s σ H Q I (i σ H Q q)⟩
structure Mk1 (P : Program) (w : World) (K : PySem.W.Frag) (mg : Str → Option Value) (base : Heap) (x f : Str) (C : Addr) : Prop where
  T : ExC K C
  nf : PySem.W.findIn K (.ref C) f = some none
  gm : mg x = some (.ref C)
  ini : ∃ (fI : Addr) (fd : FuncData), PySem.W.findIn K (.ref C) "__init__" = some (some (.ref fI)) ∧ PySem.W.typeIn K (.ref fI) = some (.type "function") ∧ FnOk P w K mg base CX0 1 fI fd ["self", f] (spI1 K f) ∧
    KBn K fd ["self", f] 2 [] (fun us ws => gApp us ws) (fun us ws => gApp us ws) ∧ KBn K fd ["self", f] 1 [f] (fun us ws => gApp us ws) (fun us ws => gApp us ws)
structure Mk2 (P : Program) (w : World) (K : PySem.W.Frag) (mg : Str → Option Value) (base : Heap) (x f g : Str) (C : Addr) : Prop where
  T : ExC K C
  nf : PySem.W.findIn K (.ref C) f = some none
  ng : PySem.W.findIn K (.ref C) g = some none
  gm : mg x = some (.ref C)
  ini : ∃ (fI : Addr) (fd : FuncData), PySem.W.findIn K (.ref C) "__init__" = some (some (.ref fI)) ∧ PySem.W.typeIn K (.ref fI) = some (.type "function") ∧ FnOk P w K mg base CX0 1 fI fd ["self", f, g] (spI2 K f g) ∧
    KBn K fd ["self", f, g] 3 [] (fun us ws => gApp us ws) (fun us ws => gApp us ws) ∧ KBn K fd ["self", f, g] 1 [g, f] (fun us ws => gTurn us ws) (fun us ws => gTurn us ws) ∧ KBn K fd ["self", f, g] 2 [g] (fun us ws => gApp us ws) (fun us ws => gApp us ws)
/-- C(v), in whatever way; v stands in the slot i -/
def tE1 (C : Addr) (f : Str) (i : Nat) : TE := fun σ H Q => ∃ v, σ[i]? = some (some v) ∧ ∀ e H2, H e = none → Same H H2 → Err H2 e C [(f, v)] → Q (.ref e) H2
def tE2 (C : Addr) (f g : Str) (i j : Nat) : TE := fun σ H Q => ∃ v u, σ[i]? = some (some v) ∧ σ[j]? = some (some u) ∧ ∀ e H2, H e = none → Same H H2 → Err H2 e C [(g, u), (f, v)] → Q (.ref e) H2
theorem two_same {H : Hp} {a d C : Addr} {fs : List (Str × V)} (na : H a = none) (nd : (upd H a (exo a C none)) d = none) (ne : d ≠ a) :
    Same H (upd (upd (upd H a (exo a C none)) d (exd d fs)) a (exo a C (some d))) := fun b o e => by
  have nd' : H d = none := by rw [upd_ne ne] at nd; exact nd
  rw [upd_ne (ne_of_none e na), upd_ne (ne_of_none e nd'), upd_ne (ne_of_none e na)]
  exact e
theorem three_same {H : Hp} {a d C : Addr} {fs gs : List (Str × V)} (na : H a = none) (nd : (upd H a (exo a C none)) d = none) (ne : d ≠ a) :
    Same H (upd (upd (upd (upd H a (exo a C none)) d (exd d fs)) a (exo a C (some d))) d (exd d gs)) := fun b o e => by
  have nd' : H d = none := by rw [upd_ne ne] at nd; exact nd
  rw [upd_ne (ne_of_none e nd')]
  exact two_same na nd ne b o e
section
variable {X : Cx} {C : Addr} {f g x y z : Str} {p pos kp kq q q' : Pos} {i j : Nat}
theorem got1 {v : V} {H : Hp} {Q : VK} (T : ExC X.K C) (nf : PySem.W.findIn X.K (.ref C) f = some none) (h : ∀ e H2, H e = none → Same H H2 → Err H2 e C [(f, v)] → Q (.ref e) H2) (a : Addr) (na : H a = none) :
    spI1 X.K f [.ref a, v] (upd H a (exo a C none)) (fun v H3 => v = .non ∧ Q (.ref a) H3) E0 := by
  refine ⟨a, C, v, rfl, T, nf, upd_same, fun d nd ne => ⟨rfl, h a _ na (two_same na nd ne) ⟨d, upd_same, ?_⟩⟩⟩
  rw [upd_ne ne, upd_same]
theorem got2 {v u : V} {H : Hp} {Q : VK} (T : ExC X.K C) (nf : PySem.W.findIn X.K (.ref C) f = some none) (ng : PySem.W.findIn X.K (.ref C) g = some none)
    (h : ∀ e H2, H e = none → Same H H2 → Err H2 e C [(g, u), (f, v)] → Q (.ref e) H2) (a : Addr) (na : H a = none) :
    spI2 X.K f g [.ref a, v, u] (upd H a (exo a C none)) (fun v H3 => v = .non ∧ Q (.ref a) H3) E0 := by
  refine ⟨a, C, v, u, rfl, T, nf, ng, upd_same, fun d nd ne => ⟨rfl, h a _ na (three_same na nd ne) ⟨d, ?_, upd_same⟩⟩⟩
  rw [upd_ne ne.symm, upd_same]
theorem mk1 (M : Mk1 X.prog X.w X.K X.mg X.base x f C) (hr : Room 2 X.A) (hg : Gl X x) (he : PE X (.Name y q) (tVar i)) (hdb : (x == ("__debug__" : Str)) = false := by decide)
    (hs : starEach [.Name y q] X.env = (false, eval (.Name y q) X.env) :: starEach [] X.env := by rfl) :
    PE X (.Call (.Name x p) [.Name y q] [] pos) (tE1 C f i) := by
  obtain ⟨fI, fd, i1, i2, i3, i4, _⟩ := M.ini
  refine PE.wk (pe_mkx (n := 1) M.T i1 i2 i3 hr i4 (by decide) hg M.gm (pa_cons he pa_nil hs) pk_nil rfl rfl hdb hs rfl) fun σ H Q h => ?_
  obtain ⟨v, hv, h⟩ := h
  exact ⟨v, hv, rfl, rfl, fun a na => got1 M.T M.nf h a na⟩
theorem mk1k (M : Mk1 X.prog X.w X.K X.mg X.base x f C) (hr : Room 2 X.A) (hg : Gl X x) (he : PE X (.Name y q) (tVar i)) (hdb : (x == ("__debug__" : Str)) = false := by decide) :
    PE X (.Call (.Name x p) [] [⟨some f, .Name y q, kp⟩] pos) (tE1 C f i) := by
  obtain ⟨fI, fd, i1, i2, i3, _, i4⟩ := M.ini
  refine PE.wk (pe_mkxK M.T i1 i2 i3 hr i4 hg M.gm (pk_cons he pk_nil) rfl rfl hdb rfl) fun σ H Q h => ?_
  obtain ⟨v, hv, h⟩ := h
  exact ⟨v, hv, rfl, rfl, fun a na => got1 M.T M.nf h a na⟩
theorem mk2 (M : Mk2 X.prog X.w X.K X.mg X.base x f g C) (hr : Room 2 X.A) (hg : Gl X x) (he : PE X (.Name y q) (tVar i)) (he' : PE X (.Name z q') (tVar j)) (hdb : (x == ("__debug__" : Str)) = false := by decide)
    (hs' : starEach [.Name z q'] X.env = (false, eval (.Name z q') X.env) :: starEach [] X.env := by rfl)
    (hs : starEach [.Name y q, .Name z q'] X.env = (false, eval (.Name y q) X.env) :: starEach [.Name z q'] X.env := by rfl) :
    PE X (.Call (.Name x p) [.Name y q, .Name z q'] [] pos) (tE2 C f g i j) := by
  obtain ⟨fI, fd, i1, i2, i3, i4, _⟩ := M.ini
  refine PE.wk (pe_mkx (n := 2) M.T i1 i2 i3 hr i4 (by decide) hg M.gm (pa_cons he (pa_cons he' pa_nil hs') hs) pk_nil rfl rfl hdb hs rfl) fun σ H Q h => ?_
  obtain ⟨v, u, hv, hu, h⟩ := h
  exact ⟨v, hv, u, hu, rfl, rfl, fun a na => got2 M.T M.nf M.ng h a na⟩
theorem mk2t (M : Mk2 X.prog X.w X.K X.mg X.base x f g C) (hr : Room 2 X.A) (hg : Gl X x) (he : PE X (.Name y q) (tVar i)) (he' : PE X (.Name z q') (tVar j)) (hdb : (x == ("__debug__" : Str)) = false := by decide) :
    PE X (.Call (.Name x p) [] [⟨some g, .Name z q', kp⟩, ⟨some f, .Name y q, kq⟩] pos) (tE2 C f g i j) := by
  obtain ⟨fI, fd, i1, i2, i3, _, i4, _⟩ := M.ini
  refine PE.wk (pe_mkxK M.T i1 i2 i3 hr i4 hg M.gm (pk_cons he' (pk_cons he pk_nil)) rfl rfl hdb rfl) fun σ H Q h => ?_
  obtain ⟨v, u, hv, hu, h⟩ := h
  exact ⟨u, hu, v, hv, rfl, rfl, fun a na => got2 M.T M.nf M.ng h a na⟩
theorem mk2m (M : Mk2 X.prog X.w X.K X.mg X.base x f g C) (hr : Room 2 X.A) (hg : Gl X x) (he : PE X (.Name y q) (tVar i)) (he' : PE X (.Name z q') (tVar j)) (hdb : (x == ("__debug__" : Str)) = false := by decide)
    (hs : starEach [.Name y q] X.env = (false, eval (.Name y q) X.env) :: starEach [] X.env := by rfl) :
    PE X (.Call (.Name x p) [.Name y q] [⟨some g, .Name z q', kp⟩] pos) (tE2 C f g i j) := by
  obtain ⟨fI, fd, i1, i2, i3, _, _, i4⟩ := M.ini
  refine PE.wk (pe_mkx (n := 1) M.T i1 i2 i3 hr i4 (by decide) hg M.gm (pa_cons he pa_nil hs) (pk_cons he' pk_nil) rfl rfl hdb hs rfl) fun σ H Q h => ?_
  obtain ⟨v, u, hv, hu, h⟩ := h
  exact ⟨v, hv, u, hu, rfl, rfl, fun a na => got2 M.T M.nf M.ng h a na⟩
end
/-- C() with nothing on it -/
def tE0 (C : Addr) : TE := fun _ H Q => ∀ e H2, H e = none → Same H H2 → H2 e = some (exo e C none) → Q (.ref e) H2
def spI0 (C : Addr) : Sp := fun vs H Q _ => ∃ a : Addr, vs = [.ref a] ∧ H a = some (exo a C none) ∧ ∀ H', Same H H' → Q .non H'
structure Mk0 (P : Program) (w : World) (K : PySem.W.Frag) (mg : Str → Option Value) (base : Heap) (x : Str) (C : Addr) : Prop where
  T : ExC K C
  gm : mg x = some (.ref C)
  ini : ∃ (fI : Addr) (fd : FuncData), PySem.W.findIn K (.ref C) "__init__" = some (some (.ref fI)) ∧ PySem.W.typeIn K (.ref fI) = some (.type "function") ∧ FnOk P w K mg base CX0 1 fI fd ["self"] (spI0 C) ∧
    KBn K fd ["self"] 1 [] (fun us ws => gApp us ws) (fun us ws => gApp us ws)
section
variable {X : Cx} {C : Addr} {x : Str} {p pos : Pos}
theorem mk0 (M : Mk0 X.prog X.w X.K X.mg X.base x C) (hr : Room 2 X.A) (hg : Gl X x) (hdb : (x == ("__debug__" : Str)) = false := by decide) : PE X (.Call (.Name x p) [] [] pos) (tE0 C) := by
  obtain ⟨fI, fd, i1, i2, i3, i4⟩ := M.ini
  refine PE.wk (pe_mkx0 M.T i1 i2 i3 hr i4 hg M.gm hdb) fun σ H Q h => ?_
  refine ⟨rfl, rfl, fun a na => ⟨a, rfl, upd_same, fun H' sm => ⟨rfl, h a H' na (fun b o e => sm b o ?_) (sm a _ upd_same)⟩⟩⟩
  rw [upd_ne (ne_of_none e na)]
  exact e
end
end E18

set_option Elab.async false
set_option linter.all false
set_option maxRecDepth 100000
set_option maxHeartbeats 4000000
namespace E18
open L2 PySem PySem.Spec PyProof.Rows
/-! ### the values that errors are made with: data of small size -/
def tiny : V → Option PyData
  | .non => some .none
  | .bl b => some (.bool b)
  | .int i => if i.natAbs < 10 ^ 70 then some (.int i) else none
  | .str z => if (reprText z).length ≤ 100 then some (.str z) else none
  | _ => none
/-- x is the data d in H, of depth at most n; no list of it stands where the modules' dict does -/
def Val (H : Hp) : Nat → V → PyData → Prop
  | 0, x, d => tiny x = some d
  | n + 1, x, d => tiny x = some d ∨
    (∃ a xs ds, x = .ref a ∧ a ≠ sysModules ∧ H a = some (.lst xs) ∧ d = .list ds ∧ xs.length ≤ 2 ∧ Paired (Val H n) xs ds) ∨
    (∃ a xs ds, x = .ref a ∧ H a = some (.tup xs) ∧ d = .tuple ds ∧ xs.length ≤ 2 ∧ Paired (Val H n) xs ds) ∨
    (∃ a, x = .ref a ∧ H a = some (.dK []) ∧ d = .dict []) ∨
    ∃ a k v kd vd, x = .ref a ∧ H a = some (.dK [(k, v)]) ∧ d = .dict [(kd, vd)] ∧ tiny (kV k) = some kd ∧ Val H n v vd
theorem Paired.wk {α β : Type} {F G : α → β → Prop} : ∀ {l : List α} {m : List β}, Paired F l m → (∀ a b, F a b → G a b) → Paired G l m
  | _, _, .nil, _ => .nil
  | _, _, .cons r t, f => .cons (f _ _ r) (Paired.wk t f)
theorem Val.mono {H H' : Hp} (sm : Same H H') : ∀ (n : Nat) {x : V} {d : PyData}, Val H n x d → Val H' n x d
  | 0, _, _, h => h
  | n + 1, x, d, h => by
    rcases h with h | ⟨a, xs, ds, e, ns, ha, ed, hl, hp⟩ | ⟨a, xs, ds, e, ha, ed, hl, hp⟩ | ⟨a, e, ha, ed⟩ | ⟨a, k, v, kd, vd, e, ha, ed, hk, hv⟩
    · exact .inl h
    · exact .inr (.inl ⟨a, xs, ds, e, ns, sm _ _ ha, ed, hl, Paired.wk hp fun _ _ q => Val.mono sm n q⟩)
    · exact .inr (.inr (.inl ⟨a, xs, ds, e, sm _ _ ha, ed, hl, Paired.wk hp fun _ _ q => Val.mono sm n q⟩))
    · exact .inr (.inr (.inr (.inl ⟨a, e, sm _ _ ha, ed⟩)))
    · exact .inr (.inr (.inr (.inr ⟨a, k, v, kd, vd, e, sm _ _ ha, ed, hk, Val.mono sm n hv⟩)))
theorem tiny_flat {x : V} {d : PyData} (h : tiny x = some d) : flatB x = true := by
  cases x <;> first | rfl | (simp [tiny] at h)
theorem tiny_scal {x : V} {d : PyData} (h : tiny x = some d) : scal x x = true := by
  cases x <;> first | rfl | (simp [tiny] at h)
/-- one and the same, as an item -/
def Me (x : V) : Prop := flatB x = true ∨ ∃ a, x = .ref a
theorem Val.me {H : Hp} : ∀ {n : Nat} {x : V} {d : PyData}, Val H n x d → Me x
  | 0, _, _, h => .inl (tiny_flat h)
  | n + 1, _, _, h => by
    rcases h with h | ⟨a, _, _, e, _⟩ | ⟨a, _, _, e, _⟩ | ⟨a, e, _⟩ | ⟨a, _, _, _, _, e, _⟩
    · exact .inl (tiny_flat h)
    all_goals exact .inr ⟨a, e⟩
theorem Me.eqAt {A : Around} {s : Shared} {x : V} {u v : Value} (m : Me x) (r : RelV x u) (r' : RelV x v) : SeqAt.EqAt A s u v true := by
  rcases m with f | ⟨a, rfl⟩
  · exact eqAt_same r r' f
  · cases (show u = Value.ref a from r)
    cases (show v = Value.ref a from r')
    exact SeqAt.EqAt.same _
theorem Me.eqV {K : PySem.W.Frag} {H : Hp} {x : V} (m : Me x) (n : Nat) : EqV K H (n + 1) x x := by
  rcases m with f | ⟨a, rfl⟩
  · exact .inl ⟨rfl, f⟩
  · exact .inr (.inl ⟨a, rfl, rfl⟩)
theorem me_at {A : Around} {s : Shared} : ∀ {xs : List V} {us ws : List Value}, (∀ x ∈ xs, Me x) → Vals xs us → Vals xs ws → ∀ j (h1 : j < us.length) (h2 : j < ws.length), SeqAt.EqAt A s us[j] ws[j] true
  | _, _, _, _, .nil, .nil, j, h1, _ => absurd h1 (Nat.not_lt_zero j)
  | _, _, _, m, .cons r t, .cons r' t', 0, _, _ => (m _ List.mem_cons_self).eqAt r r'
  | _, _, _, m, .cons r t, .cons r' t', j + 1, h1, h2 => me_at (fun x hx => m x (List.mem_cons_of_mem _ hx)) t t' j (Nat.lt_of_succ_lt_succ h1) (Nat.lt_of_succ_lt_succ h2)
theorem me_pair {K : PySem.W.Frag} {H : Hp} (n : Nat) : ∀ {xs : List V}, (∀ x ∈ xs, Me x) → Paired (EqV K H (n + 1)) xs xs
  | [], _ => .nil
  | _ :: _, m => .cons ((m _ List.mem_cons_self).eqV n) (me_pair n fun x hx => m x (List.mem_cons_of_mem _ hx))
theorem paired_me {H : Hp} {n : Nat} : ∀ {xs : List V} {ds : List PyData}, Paired (Val H n) xs ds → ∀ x ∈ xs, Me x
  | _, _, .nil, _, h => by cases h
  | _, _, .cons r t, x, h => by
    rcases List.mem_cons.mp h with e | h
    · rw [e]
      exact r.me
    · exact paired_me t x h
section
variable {X : Cx}
/-- v == v -/
def rSelf : R2 := fun x y H Q => x = y ∧ (∃ n d, Val H n x d) ∧ Q (.bl true) H
theorem op_self (hu : X.A.units + 64 < cLine) : OpR X (compareOp .Eq) rSelf := by
  intro pins s σ H x y v u Q I rx ry h
  obtain ⟨rfl, ⟨n, d, hv⟩, q⟩ := h
  have base : tiny x = some d → wpAny (model X.prog X.w) X.A (compareOp .Eq v u) (EP X pins σ Q) X.xe s := fun t => by
    refine op_eq pins s σ H x x v u Q I rx ry ⟨tiny_scal t, ?_⟩
    rw [decide_eq_true rfl]
    exact q
  cases n with
  | zero => exact base hv
  | succ n =>
    rcases hv with t | ⟨a, xs, ds, rfl, _, ha, _, _, hp⟩ | ⟨a, xs, ds, rfl, ha, _, _, hp⟩ | ⟨a, rfl, ha, _⟩ | ⟨a, k, w, kd, vd, rfl, ha, _, _, hw⟩
    · exact base t
    · have m := paired_me hp
      exact op_eqV hu pins s σ H _ _ v u Q I rx ry ⟨1, by decide, .inl ⟨a, a, xs, xs, rfl, rfl, .inl (.inl ha), .inl (.inl ha), me_pair 0 m⟩, q⟩
    · have m := paired_me hp
      cases (show v = Value.ref a from rx)
      cases (show u = Value.ref a from ry)
      obtain ⟨_, its, rv, o, h1, h2, k, h3⟩ := (show ObjOk X.prog X.w H s.heap a (.tup xs) from I.hok a _ ha)
      refine SeqAt.RcAt.tuples (e := fun _ => true) ⟨o, h1, h2, k, h3⟩ ⟨o, h1, h2, k, h3⟩ (by omega) (fun j p1 p2 => ?_) _ _ _ _ ⟨.bl true, H, I, ?_, q⟩
      · have z := me_at (A := X.A.in1) (s := s) m rv rv j (by simpa using p1) (by simpa using p2)
        simpa using z
      · show Value.bool _ = Value.bool true
        simp
    · exact op_eqV hu pins s σ H _ _ v u Q I rx ry ⟨1, by decide, .inr ⟨a, a, [], [], rfl, rfl, ha, ha, rfl, fun p hp => by cases hp⟩, q⟩
    · refine op_eqV hu pins s σ H _ _ v u Q I rx ry ⟨1, by decide, .inr ⟨a, a, _, _, rfl, rfl, ha, ha, rfl, fun p hp => ?_⟩, q⟩
      rcases List.mem_cons.mp hp with e | hp
      · subst e
        exact ⟨w, valV_pos rfl, hw.me.eqV 0⟩
      · cases hp
/-- [v, ..] == [v, ..] item by item the same -/
def rLstMe (K : PySem.W.Frag) (b : Bool) : R2 := fun x y H Q => ∃ l m xs, x = .ref l ∧ y = .ref m ∧ SqL K H l xs ∧ SqL K H m xs ∧ (∀ z ∈ xs, Me z) ∧ Q (.bl b) H
theorem op_eqMe (hu : X.A.units + 64 < cLine) : OpR X (compareOp .Eq) (rLstMe X.K true) := by
  intro pins s σ H x y v u Q I rx ry h
  obtain ⟨l, m, xs, rfl, rfl, hl, hm, me, q⟩ := h
  exact op_eqV hu pins s σ H _ _ v u Q I rx ry ⟨1, by decide, .inl ⟨l, m, xs, xs, rfl, rfl, hl, hm, me_pair 0 me⟩, q⟩
theorem op_neMe (hu : X.A.units + 64 < cLine) : OpR X (compareOp .NotEq) (rLstMe X.K false) := by
  intro pins s σ H x y v u Q I rx ry h
  obtain ⟨l, m, xs, rfl, rfl, hl, hm, me, q⟩ := h
  cases (show v = Value.ref l from rx)
  cases (show u = Value.ref m from ry)
  obtain ⟨us, r1, p1, _⟩ := I.list hl
  obtain ⟨ws, r2, p2, _⟩ := I.list hm
  have hsz : us.toArray.size = ws.toArray.size := by
    rw [List.size_toArray, List.size_toArray, ← r1.length, ← r2.length]
  refine SeqAt.RcNeAt.lists (e := fun _ => true) p1.isList p2.isList hsz (by omega) (fun j h1 h2 => ?_) _ _ _ _ ⟨.bl false, H, I, ?_, q⟩
  · have z := me_at (A := X.A.in1) (s := s) me r1 r2 j (by simpa using h1) (by simpa using h2)
    simpa using z
  · show Value.bool _ = Value.bool false
    simp
end
end E18

set_option Elab.async false
set_option linter.all false
set_option maxRecDepth 100000
set_option maxHeartbeats 4000000
namespace E18
open L2 PySem PySem.Spec PyProof.Rows
/-! ### repr of such data: what is written hangs on the data alone -/
def lid : Nat → Nat
  | 0 => 100
  | n + 1 => 2 * lid n + 110
theorem lid_big : ∀ n, 100 ≤ lid n
  | 0 => Nat.le_refl _
  | n + 1 => by
    have := lid_big n
    show 100 ≤ 2 * lid n + 110
    omega
theorem listLen (ts : List Str) : (listText ts).length ≤ piled ts + 2 := by
  have e1 : ((("[" : String) : Str)).length = 1 := rfl
  have e2 : ((("]" : String) : Str)).length = 1 := rfl
  have e3 : ((("" : String) : Str)).length = 0 := rfl
  cases ts with
  | nil =>
    unfold listText
    rw [strLen_append, e2]
    show (("[" : String) : Str).length + 1 ≤ 0 + 2
    rw [e1]
    decide
  | cons t r =>
    unfold listText
    rw [strLen_append, e2]
    show (textFrom 1 (((("[" : String) : Str) ++ (("" : String) : Str)) ++ t) r).length + 1 ≤ _
    rw [textFrom_length_pos _ _ _ (by decide), strLen_append, strLen_append, e1, e3, piled_cons]
    omega
theorem tupLen (ts : List Str) : (tupleText ts).length ≤ piled ts + 3 := by
  have e1 : ((("(" : String) : Str)).length = 1 := rfl
  have e3 : (((if ts.length == 1 then ",)" else ")" : String) : Str)).length ≤ 2 := by split <;> decide
  unfold tupleText
  rw [strLen_append, strLen_append, e1]
  by_cases h : ts = []
  · subst h
    have : (Str.join ", " []).length = 0 := rfl
    rw [this, piled_nil]
    omega
  · have := join_length_add ts h
    omega
theorem dictLen (ts : List Str) : (dictText ts).length ≤ piled ts + 2 := by
  have e1 : ((("{" : String) : Str)).length = 1 := rfl
  have e2 : ((("}" : String) : Str)).length = 1 := rfl
  unfold dictText
  rw [strLen_append, strLen_append, e1, e2]
  by_cases h : ts = []
  · subst h
    have : (Str.join ", " []).length = 0 := rfl
    rw [this, piled_nil]
    omega
  · have := join_length_add ts h
    omega
theorem log_small {i : Int} (h : i.natAbs < 10 ^ 70) : i.natAbs.log2 < 1920 := by
  by_cases z : i.natAbs = 0
  · rw [z]
    decide
  · exact (Nat.log2_lt z).mpr (Nat.lt_of_lt_of_le h (by decide +kernel))
theorem tiny_int {i : Int} {d : PyData} (h : tiny (.int i) = some d) : i.natAbs < 10 ^ 70 ∧ d = .int i := by
  have h' : (if i.natAbs < 10 ^ 70 then some (PyData.int i) else none) = some d := h
  by_cases c : i.natAbs < 10 ^ 70
  · rw [if_pos c] at h'
    exact ⟨c, (Option.some.inj h').symm⟩
  · rw [if_neg c] at h'
    cases h'
theorem tiny_str {z : Str} {d : PyData} (h : tiny (.str z) = some d) : (reprText z).length ≤ 100 ∧ d = .str z := by
  have h' : (if (reprText z).length ≤ 100 then some (PyData.str z) else none) = some d := h
  by_cases c : (reprText z).length ≤ 100
  · rw [if_pos c] at h'
    exact ⟨c, (Option.some.inj h').symm⟩
  · rw [if_neg c] at h'
    cases h'
theorem tiny_ok {x : V} {d : PyData} (h : tiny x = some d) : d.showable = true ∧ d.depth = 0 ∧ d.shown.length ≤ 100 := by
  cases x with
  | non =>
    cases h
    exact ⟨rfl, rfl, by decide⟩
  | bl b =>
    cases h
    cases b <;> exact ⟨rfl, rfl, by decide⟩
  | int i =>
    obtain ⟨hi, rfl⟩ := tiny_int h
    refine ⟨decide_eq_true (log_small hi), rfl, ?_⟩
    show (Str.ofString (toString i)).length ≤ 100
    have e := int_text_length_le10 (k := 70) (by decide) hi
    rw [PyProof.Rows.ofString_len]
    omega
  | str z =>
    obtain ⟨hz, rfl⟩ := tiny_str h
    exact ⟨rfl, rfl, hz⟩
  | _ => simp [tiny] at h
theorem shownLen2 {n : Nat} : ∀ (ds : List PyData), ds.length ≤ 2 → (∀ d ∈ ds, d.shown.length ≤ n) → piled (PyData.shownAll ds) ≤ 2 * (n + 2)
  | [], _, _ => Nat.zero_le _
  | [a], _, h => by
    have := h a List.mem_cons_self
    show piled [a.shown] ≤ _
    rw [piled_cons, piled_nil]
    omega
  | [a, b], _, h => by
    have h1 := h a List.mem_cons_self
    have h2 := h b (List.mem_cons_of_mem _ List.mem_cons_self)
    show piled [a.shown, b.shown] ≤ _
    rw [piled_cons, piled_cons, piled_nil]
    omega
  | a :: b :: c :: r, h, _ => by
    simp at h
theorem paired_data {H : Hp} {n : Nat} {P : PyData → Prop} (ih : ∀ {x d}, Val H n x d → P d) : ∀ {xs : List V} {ds : List PyData}, Paired (Val H n) xs ds → ∀ d ∈ ds, P d
  | _, _, .nil, _, h => by cases h
  | _, _, .cons r t, d, h => by
    rcases List.mem_cons.mp h with e | h
    · rw [e]
      exact ih r
    · exact paired_data ih t d h
theorem paired_len {α β : Type} {F : α → β → Prop} : ∀ {l : List α} {m : List β}, Paired F l m → l.length = m.length
  | _, _, .nil => rfl
  | _, _, .cons _ t => congrArg Nat.succ (paired_len t)
theorem showAll_of : ∀ {ds : List PyData}, (∀ d ∈ ds, d.showable = true) → PyData.showableAll ds = true
  | [], _ => rfl
  | d :: ds, h => by
    show (d.showable && PyData.showableAll ds) = true
    rw [h d List.mem_cons_self, showAll_of fun e he => h e (List.mem_cons_of_mem _ he)]
    rfl
theorem depthAll_of {n : Nat} : ∀ {ds : List PyData}, (∀ d ∈ ds, d.depth ≤ n) → PyData.depthAll ds ≤ n
  | [], _ => Nat.zero_le _
  | d :: ds, h => by
    have h1 := h d List.mem_cons_self
    have h2 := depthAll_of fun e he => h e (List.mem_cons_of_mem _ he)
    show max d.depth (PyData.depthAll ds) ≤ n
    omega
theorem Val.ok {H : Hp} : ∀ (n : Nat) {x : V} {d : PyData}, Val H n x d → d.showable = true ∧ d.depth ≤ n ∧ d.shown.length ≤ lid n
  | 0, _, _, h => by
    obtain ⟨a, b, c⟩ := tiny_ok h
    exact ⟨a, by omega, c⟩
  | n + 1, x, d, h => by
    have big := lid_big (n + 1)
    have bn := lid_big n
    have step : lid (n + 1) = 2 * lid n + 110 := rfl
    rcases h with h | ⟨a, xs, ds, _, _, _, rfl, hl, hp⟩ | ⟨a, xs, ds, _, _, rfl, hl, hp⟩ | ⟨a, _, _, rfl⟩ | ⟨a, k, v, kd, vd, _, _, rfl, hk, hv⟩
    · obtain ⟨a, b, c⟩ := tiny_ok h
      exact ⟨a, by omega, by omega⟩
    · have len := paired_len hp
      refine ⟨showAll_of (paired_data (fun z => (Val.ok n z).1) hp), ?_, ?_⟩
      · have := depthAll_of (n := n) (paired_data (fun z => (Val.ok n z).2.1) hp)
        show PyData.depthAll ds + 1 ≤ n + 1
        omega
      · have l1 := listLen (PyData.shownAll ds)
        have l2 := shownLen2 (n := lid n) ds (by omega) (paired_data (fun z => (Val.ok n z).2.2) hp)
        show (listText (PyData.shownAll ds)).length ≤ _
        omega
    · have len := paired_len hp
      refine ⟨showAll_of (paired_data (fun z => (Val.ok n z).1) hp), ?_, ?_⟩
      · have := depthAll_of (n := n) (paired_data (fun z => (Val.ok n z).2.1) hp)
        show PyData.depthAll ds + 1 ≤ n + 1
        omega
      · have l1 := tupLen (PyData.shownAll ds)
        have l2 := shownLen2 (n := lid n) ds (by omega) (paired_data (fun z => (Val.ok n z).2.2) hp)
        show (tupleText (PyData.shownAll ds)).length ≤ _
        omega
    · refine ⟨rfl, Nat.le_add_left _ _, ?_⟩
      have l1 := dictLen []
      rw [piled_nil] at l1
      show (dictText []).length ≤ _
      omega
    · obtain ⟨a1, b1, c1⟩ := tiny_ok hk
      obtain ⟨a2, b2, c2⟩ := Val.ok n hv
      refine ⟨?_, ?_, ?_⟩
      · show (kd.showable && vd.showable && true) = true
        rw [a1, a2]
        rfl
      · show max (max kd.depth vd.depth) 0 + 1 ≤ n + 1
        omega
      · have l1 := dictLen [kd.shown ++ ((": " : String) : Str) ++ vd.shown]
        have e : ((": " : String) : Str).length = 2 := rfl
        rw [piled_cons, piled_nil, strLen_append, strLen_append, e] at l1
        show (dictText [kd.shown ++ ((": " : String) : Str) ++ vd.shown]).length ≤ _
        omega
section
variable {X : Cx} {pins : List (Addr × Obj)} {σ : L2.St} {H : Hp} {s : Shared}
theorem tiny_reads {h : Heap} {x : V} {d : PyData} {u : Value} (t : tiny x = some d) (r : RelV x u) : Reads h u d [] := by
  cases x with
  | non =>
    cases t
    cases (show u = Value.none from r)
    exact .none
  | bl b =>
    cases t
    cases (show u = Value.bool b from r)
    exact .bool b
  | int i =>
    obtain ⟨_, rfl⟩ := tiny_int t
    obtain ⟨k, rfl⟩ := (show ∃ t, u = Value.int i t from r)
    exact .int i k
  | str z =>
    obtain ⟨_, rfl⟩ := tiny_str t
    obtain ⟨k, rfl⟩ := (show ∃ t, u = Value.str z t from r)
    exact .str z k
  | _ => simp [tiny] at t
theorem all_reads {h : Heap} {n : Nat} (ih : ∀ {x : V} {d : PyData} {u : Value}, Val H n x d → RelV x u → ∃ as, Reads h u d as ∧ sysModules ∉ as) : ∀ {xs : List V} {ds : List PyData} {us : List Value}, Paired (Val H n) xs ds → Vals xs us → ∃ as, ReadsAll h us ds as ∧ sysModules ∉ as
  | _, _, _, .nil, .nil => ⟨[], .nil, by simp⟩
  | _, _, _, .cons r t, .cons q k => by
    obtain ⟨as, h1, h2⟩ := ih r q
    obtain ⟨bs, h3, h4⟩ := all_reads ih t k
    exact ⟨as ++ bs, .cons h1 h3, by simp [h2, h4]⟩
theorem Val.reads (I : Inv X pins σ H s) : ∀ (n : Nat) {x : V} {d : PyData} {u : Value}, Val H n x d → RelV x u → ∃ as, Reads s.heap u d as ∧ sysModules ∉ as
  | 0, _, _, _, h, r => ⟨[], tiny_reads h r, by simp⟩
  | n + 1, x, d, u, h, r => by
    rcases h with h | ⟨a, xs, ds, rfl, ns, ha, rfl, hl, hp⟩ | ⟨a, xs, ds, rfl, ha, rfl, hl, hp⟩ | ⟨a, rfl, ha, rfl⟩ | ⟨a, k, v, kd, vd, rfl, ha, rfl, hk, hv⟩
    · exact ⟨[], tiny_reads h r, by simp⟩
    · cases (show u = Value.ref a from r)
      obtain ⟨_, its, m, rv, e⟩ := (show ObjOk X.prog X.w H s.heap a (.lst xs) from I.hok a _ ha)
      obtain ⟨as, h1, h2⟩ := all_reads (Val.reads I n) hp rv
      exact ⟨a :: as, .list e rfl rfl (by simpa using h1), by simp [h2, Ne.symm ns]⟩
    · cases (show u = Value.ref a from r)
      obtain ⟨_, its, rv, o, h1, h2, m, h3⟩ := (show ObjOk X.prog X.w H s.heap a (.tup xs) from I.hok a _ ha)
      obtain ⟨as, k1, k2⟩ := all_reads (Val.reads I n) hp rv
      exact ⟨as, .tuple h1 h2 h3 (by simpa using k1), k2⟩
    · cases (show u = Value.ref a from r)
      obtain ⟨_, ns, vs, rel, o, es, ep, h1, ex, h3, _, prs, _⟩ := (show ObjOk X.prog X.w H s.heap a (.dK []) from I.hok a _ ha)
      cases rel
      have e0 : es.toList = [] := by
        cases hq : es.toList with
        | nil => rfl
        | cons p q => rw [hq] at prs; cases prs
      have na : sysModules ≠ a := fun z => by rw [z] at ns; simp at ns
      refine ⟨a :: [] ++ [], .dict h1 ex.1 h3 (by rw [e0]; exact .nil) (by rw [e0]; exact .nil), by simp [na]⟩
    · cases (show u = Value.ref a from r)
      obtain ⟨_, ns, vs, rel, o, es, ep, h1, ex, h3, _, prs, _⟩ := (show ObjOk X.prog X.w H s.heap a (.dK [(k, v)]) from I.hok a _ ha)
      have na : sysModules ≠ a := fun z => by rw [z] at ns; simp at ns
      cases rel with
      | @cons _ q _ _ hq hr =>
        cases hr
        obtain ⟨qk, qv⟩ := q
        obtain ⟨e1, e2⟩ := hq
        simp only at e1 e2
        subst e1
        cases hes : es.toList with
        | nil => rw [hes] at prs; cases prs
        | cons p r =>
          rw [hes] at prs
          cases prs with
          | cons i1 i2 i3 =>
            cases i3
            have kr : Reads s.heap p.key kd [] := by
              rcases keyIs_shape (show keyIs k p.key = true from i1) with ⟨i, t, e, e'⟩ | ⟨z, t, e, e'⟩
              · subst e
                exact tiny_reads hk ⟨t, e'⟩
              · subst e
                exact tiny_reads hk ⟨t, e'⟩
            obtain ⟨as, k1, k2⟩ := Val.reads I n hv (show RelV v p.val by rw [i2]; exact e2)
            refine ⟨a :: ([] ++ []) ++ (as ++ []), .dict h1 ex.1 h3 ?_ ?_, by simp [na, k2]⟩
            · rw [hes]
              exact .cons kr .nil
            · rw [hes]
              exact .cons k1 .nil
end
/-- repr of a list (a tuple, a dict) of data -/
def rRepr : List V → Hp → VK → Prop := fun xs H Q => ∃ a n d, xs = [.ref a] ∧ n ≤ 4 ∧ Val H n (.ref a) d ∧ Q (.str d.shown) H
theorem call_repr {X : Cx} (hg : X.A.guards = some []) (hu : X.A.units + 64 < cLine) : CallR X (.builtin "repr") rRepr := by
  intro pins s σ H xs us Q I r h
  obtain ⟨a, n, d, rfl, hn, hv, q⟩ := h
  obtain ⟨u, rfl, ru⟩ := vals1 r
  cases (show u = Value.ref a from ru)
  obtain ⟨as, rd, ns⟩ := Val.reads I n hv (show RelV (.ref a) (.ref a) from rfl)
  obtain ⟨o1, o2, o3⟩ := Val.ok n hv
  have small : lid n ≤ sizeLine := by
    have : ∀ m, m ≤ 4 → lid m ≤ 5000 := by decide
    exact Nat.le_trans (this n hn) (by decide)
  exact repr_of_reads' rd o1 (fun _ => ns) hg (by omega) (fun _ _ e => e) (fun h' u tk hk => ⟨.str d.shown, H, I.kept (t' := tk) hk, ⟨u, rfl⟩, q⟩) (Nat.le_trans o3 small)
end E18

set_option Elab.async false
set_option linter.all false
set_option maxRecDepth 100000
set_option maxHeartbeats 4000000
namespace E18
open L2 PySem PySem.Spec PyProof.Rows
/-! ### the text by places -/
abbrev top (i : Nat) : Stmt := PySem.Challenge.pw_anyofthese_k18_errors_made_with_any_valu.main.body.getD i (.Pass ⟨0, 0, 0, 0⟩)
abbrev sPot : Stmt := top 33
abbrev sDraw : Stmt := top 34
abbrev sChoice : Stmt := top 35
abbrev sValue : Stmt := top 36
abbrev sBases : Stmt := top 37
abbrev sBase : Stmt := top 38
abbrev sValues : Stmt := top 39
abbrev sPositions : Stmt := top 40
abbrev sOthers : Stmt := top 41
abbrev sKinds : Stmt := top 42
abbrev sStates : Stmt := top 43
abbrev sApart : Stmt := top 44
abbrev sRight : Stmt := top 45
abbrev sLaw : Stmt := top 46
/-- an error, with attributes or without -/
def Ob (H : Hp) (e C : Addr) : Prop := (∃ fs, Err H e C fs) ∨ H e = some (exo e C none)
theorem Err.mono {H H' : Hp} {e C : Addr} {fs : List (Str × V)} (sm : Same H H') (h : Err H e C fs) : Err H' e C fs := by
  obtain ⟨d, a, b⟩ := h
  exact ⟨d, sm _ _ a, sm _ _ b⟩
theorem Ob.mono {H H' : Hp} {e C : Addr} (sm : Same H H') (h : Ob H e C) : Ob H' e C := by
  rcases h with ⟨fs, h⟩ | h
  · exact .inl ⟨fs, h.mono sm⟩
  · exact .inr (sm _ _ h)
/-- of the four families, C is of the r-th -/
structure Fam (K : PySem.W.Frag) (b : Nat → Addr) (C : Addr) (r : Nat) : Prop where
  T : ExC K C
  own : ∀ j, j < 4 → PySem.W.kitOne K (.ref C) (.ref (b j)) = some (decide (r = j))
  p0 : PySem.W.kitOne K (.ref C) (.type "ValueError") = some (decide (r = 0))
  p1 : PySem.W.kitOne K (.ref C) (.type "LookupError") = some (decide (r = 1))
  p2 : PySem.W.kitOne K (.ref C) (.type "RuntimeError") = some (decide (r = 2))
  p3 : PySem.W.kitOne K (.ref C) (.type "ArithmeticError") = some (decide (r = 3))
def four (r : Nat) : List V := [.bl (decide (r = 0)), .bl (decide (r = 1)), .bl (decide (r = 2)), .bl (decide (r = 3))]
theorem new_same {H : Hp} {p : Addr} {o : HO} (np : H p = none) : Same H (upd H p o) := fun c u e => (upd_ne (ne_of_none e np)).trans e
/-- at p stands what _law_bases and _law_base tell of the r-th family -/
def Told (H : Hp) (p : Addr) (r : Nat) : Prop := ∃ q1 q2, H p = some (.lst [.ref q1, .ref q2]) ∧ H q1 = some (.lst (four r)) ∧ H q2 = some (.lst (four r))
def spBases (K : PySem.W.Frag) (b : Nat → Addr) : Sp := fun vs H Q _ => ∃ (e C : Addr) (r : Nat), vs = [.ref e] ∧ Ob H e C ∧ Fam K b C r ∧ ∀ p H', Same H H' → Told H' p r → Q (.ref p) H'
/-- isinstance(e, D) of an error, with attributes or without -/
def rIso (K : PySem.W.Frag) : List V → Hp → VK → Prop := fun xs H Q => ∃ (a C : Addr) (D : V) (u : Value) (b : Bool), xs = [.ref a, D] ∧ ClsV D u ∧ ExC K C ∧ Ob H a C ∧ PySem.W.kitOne K (.ref C) u = some b ∧ Q (.bl b) H
theorem call_iso {X : Cx} : CallR X (.builtin "isinstance") (rIso X.K) := by
  intro pins s σ H xs us Q I r h
  obtain ⟨a, C, D, u, b, rfl, k, T, o, e, q⟩ := h
  rcases o with ⟨fs, o⟩ | o
  · exact call_isx pins s σ H _ us Q I r ⟨a, C, fs, D, u, b, rfl, k, T, .inl o, e, q⟩
  · exact call_isx pins s σ H _ us Q I r ⟨a, C, [], D, u, b, rfl, k, T, .inr o, e, q⟩
theorem boot_isi : bootBuiltins "isinstance" = some (.builtin "isinstance") := by decide +kernel
theorem boot_VE : bootBuiltins "ValueError" = some (.type "ValueError") := by decide +kernel
theorem boot_LE : bootBuiltins "LookupError" = some (.type "LookupError") := by decide +kernel
theorem boot_RE : bootBuiltins "RuntimeError" = some (.type "RuntimeError") := by decide +kernel
theorem boot_AE : bootBuiltins "ArithmeticError" = some (.type "ArithmeticError") := by decide +kernel
/-- the names that the law leans on -/
structure Nam (mg : Str → Option Value) (b : Nat → Addr) : Prop where
  any : mg "AnyError" = some (.ref (b 0))
  mis : mg "MissingError" = some (.ref (b 1))
  sta : mg "StateError" = some (.ref (b 2))
  lim : mg "LimitError" = some (.ref (b 3))
  isi : mg "isinstance" = none
  ve : mg "ValueError" = none
  le : mg "LookupError" = none
  re : mg "RuntimeError" = none
  ae : mg "ArithmeticError" = none
  rng : mg "range" = none
  all_ : mg "all" = none
  len : mg "len" = none
  rep : mg "repr" = none
  int_ : mg "int" = none
  mx : mg "max" = none
  mn : mg "min" = none
  ab : mg "abs" = none
  dm : mg "divmod" = none
theorem pgC {X : Cx} {x : Str} {a : Addr} {pos : Pos} (hg : Gl X x) (hm : X.mg x = some (.ref a)) (hd : (x == ("__debug__" : Str)) = false := by decide) : PE X (.Name x pos) (tC (.ref a)) := pe_glob hg hm rfl hd
theorem pbT {X : Cx} {x : Str} {n : String} {pos : Pos} (hg : Gl X x) (hm : X.mg x = none) (hv : bootBuiltins x = some (.type n)) (hn : x ≠ "__name__" := by decide) (hd : (x == ("__debug__" : Str)) = false := by decide) : PE X (.Name x pos) (tC (.ty n)) :=
  pe_bltn hg hm hv rfl hn hd
section
variable {P : Program} {w : World} {K : PySem.W.Frag} {mg : Str → Option Value} {base : Heap} {b : Nat → Addr} {f : Addr} {fd : FuncData}
theorem scBases : FnScope ["_law_error", "_law_found", "_law_python"] ["_law_error"] (defScope sBases) := ⟨rfl, rfl, rfl, by decide +kernel, rfl, by decide +kernel, by decide +kernel⟩
theorem ok_bases (N : Nam mg b) (F : Fun K "_law_bases" "_law_bases" sBases f fd) : FnOk P w K mg base CX0 1 f fd ["_law_error"] (spBases K b) := by
  refine F.ok scBases (fun vs H Q E h => ?_) (fun cdv A outer s H vs Q E hr h => ?_)
  · obtain ⟨e, C, r, rfl, _⟩ := h
    rfl
  · obtain ⟨e, C, r, rfl, o, fam, go⟩ := h
    refine ⟨_, pss_cons (ps_set (i := 1) scBases.nd rfl (Or.inl rfl) (pe_lst (pa_cons (pe_callB call_iso rfl N.isi boot_isi (pa_cons (pv 0) (pa_cons (pgC rfl N.any) pa_nil)))
          (pa_cons (pe_callB call_iso rfl N.isi boot_isi (pa_cons (pv 0) (pa_cons (pgC rfl N.mis) pa_nil)))
          (pa_cons (pe_callB call_iso rfl N.isi boot_isi (pa_cons (pv 0) (pa_cons (pgC rfl N.sta) pa_nil))) pa_nil)))))
      (pss_cons (ps_expr (pe_bm PySem.F.plainAttrs_list PySem.F.slot_list_append PySem.F.type_list_append mt_append (pv 1)
          (pa_cons (pe_callB call_iso rfl N.isi boot_isi (pa_cons (pv 0) (pa_cons (pgC rfl N.lim) pa_nil))) pa_nil)))
      (pss_cons (ps_set (i := 2) scBases.nd rfl (Or.inl rfl) (pe_lst (pa_cons (pe_callB call_iso rfl N.isi boot_isi (pa_cons (pv 0) (pa_cons (pbT rfl N.ve boot_VE) pa_nil)))
          (pa_cons (pe_callB call_iso rfl N.isi boot_isi (pa_cons (pv 0) (pa_cons (pbT rfl N.le boot_LE) pa_nil)))
          (pa_cons (pe_callB call_iso rfl N.isi boot_isi (pa_cons (pv 0) (pa_cons (pbT rfl N.re boot_RE) pa_nil))) pa_nil)))))
      (pss_cons (ps_expr (pe_bm PySem.F.plainAttrs_list PySem.F.slot_list_append PySem.F.type_list_append mt_append (pv 2)
          (pa_cons (pe_callB call_iso rfl N.isi boot_isi (pa_cons (pv 0) (pa_cons (pbT rfl N.ae boot_AE) pa_nil))) pa_nil)))
      (pss_one (ps_ret (pe_lst (pa_cons (pv 1) (pa_cons (pv 2) pa_nil)))))))), ?_⟩
    refine ⟨_, rfl, e, C, _, _, _, rfl, .own _, fam.T, o, (fam.own 0 (by decide)), ?_⟩
    refine ⟨_, rfl, e, C, _, _, _, rfl, .own _, fam.T, o, (fam.own 1 (by decide)), ?_⟩
    refine ⟨_, rfl, e, C, _, _, _, rfl, .own _, fam.T, o, (fam.own 2 (by decide)), by show 3 ≤ sizeLine; decide, fun p np => ?_⟩
    have s1 : Same H (upd H p (.lst [.bl (decide (r = 0)), .bl (decide (r = 1)), .bl (decide (r = 2))])) := fun c u e => by rw [upd_ne (ne_of_none e np)]; exact e
    refine ⟨_, rfl, Or.inl ⟨rfl, _, Or.inl (Or.inl upd_same)⟩, _, rfl, e, C, _, _, _, rfl, .own _, fam.T, (o.mono s1), (fam.own 3 (by decide)), ?_⟩
    refine ⟨p, _, _, rfl, rfl, upd_same, by show 3 < sizeLine; decide, ?_⟩
    rw [upd_upd]
    have s2 : Same H (upd H p (.lst (four r))) := fun c u e => by rw [upd_ne (ne_of_none e np)]; exact e
    have o2 := o.mono s2
    refine ⟨_, rfl, e, C, _, _, _, rfl, .ty _, fam.T, o2, fam.p0, ?_⟩
    refine ⟨_, rfl, e, C, _, _, _, rfl, .ty _, fam.T, o2, fam.p1, ?_⟩
    refine ⟨_, rfl, e, C, _, _, _, rfl, .ty _, fam.T, o2, fam.p2, by show 3 ≤ sizeLine; decide, fun q nq => ?_⟩
    have nqp : q ≠ p := fun z => by
      rw [z] at nq
      have : upd H p (.lst (four r)) p = none := nq
      rw [upd_same] at this
      cases this
    have s3 : Same H (upd (upd H p (.lst (four r))) q (.lst [.bl (decide (r = 0)), .bl (decide (r = 1)), .bl (decide (r = 2))])) := s2.trans fun c u e => by rw [upd_ne (ne_of_none e nq)]; exact e
    refine ⟨_, rfl, Or.inl ⟨rfl, _, Or.inl (Or.inl upd_same)⟩, _, rfl, e, C, _, _, _, rfl, .ty _, fam.T, (o.mono s3), fam.p3, ?_⟩
    refine ⟨q, _, _, rfl, rfl, upd_same, by show 3 < sizeLine; decide, ?_⟩
    rw [upd_upd]
    refine ⟨_, rfl, _, rfl, by show 2 ≤ sizeLine; decide, fun m nm => ?_⟩
    have mp : p ≠ m := fun z => by
      have : upd (upd H p (.lst (four r))) q (.lst (four r)) m = none := nm
      rw [← z, upd_ne nqp.symm, upd_same] at this
      cases this
    have mq : q ≠ m := fun z => by
      have : upd (upd H p (.lst (four r))) q (.lst (four r)) m = none := nm
      rw [← z, upd_same] at this
      cases this
    refine go m _ (s2.trans fun c u e => ?_) ⟨p, q, upd_same, ?_, ?_⟩
    · have e1 : upd (upd H p (.lst (four r))) q (.lst (four r)) c = some u := by rw [upd_ne (ne_of_none e nq)]; exact e
      exact (upd_ne (ne_of_none e1 nm)).trans e1
    · exact (upd_ne mp).trans ((upd_ne nqp.symm).trans upd_same)
    · exact (upd_ne mq).trans upd_same
def spBase : Sp := fun vs H Q _ => ∃ (r : Nat), vs = [.int r] ∧ ∀ p H', Same H H' → Told H' p r → Q (.ref p) H'
theorem scBase : FnScope ["_law_number", "_law_found", "_law_k"] ["_law_number"] (defScope sBase) := ⟨rfl, rfl, rfl, by decide +kernel, rfl, by decide +kernel, by decide +kernel⟩
theorem ok_base (N : Nam mg b) (F : Fun K "_law_base" "_law_base" sBase f fd) : FnOk P w K mg base CX0 1 f fd ["_law_number"] spBase := by
  refine F.ok scBase (fun vs H Q E h => ?_) (fun cdv A outer s H vs Q E hr h => ?_)
  · obtain ⟨r, rfl, _⟩ := h
    rfl
  · obtain ⟨r, rfl, go⟩ := h
    refine ⟨_, pss_cons (ps_setLc (i := 1) (own := [("_law_k", 2)]) (g := gName 2) (tt := tYes) (by rfl) scBase.nd rfl rfl (sw_true rfl rfl rfl (by decide +kernel)) (pi_range1 rfl N.rng (pa_cons pe_int pa_nil))
        (blkOk_by (own := [("_law_k", 2)]) (N := ["_law_number", "_law_found", "_law_k"]) (sc := defScope sBase) (by decide +kernel)) (fun _ _ _ _ _ => pg_name (i := 2) scBase.nd rfl (Or.inl rfl)) (fun _ _ _ _ _ => pts_nil)
        (fun _ _ _ _ _ => pe_cmpR op_eq (pv 0) (pv 2) (nomark _)))
      (pss_one (ps_ret (pe_lst (pa_cons (pv 1) (pa_cons (pv 1) pa_nil))))), ?_⟩
    refine ⟨4, rfl, by decide, by decide, fun D nD => ?_⟩
    refine lc_range (lo := 0) (n := 4) (fun i H' => Same H H' ∧ H' D = some (.lst ((List.range i).map fun k => V.bl (decide (r = k))))) ⟨new_same nD, upd_same⟩ ?_ ?_
    · rintro i H' hi ⟨sm, hD⟩
      refine ⟨rfl, ?_⟩
      refine ⟨_, rfl, _, rfl, rfl, _, hD, by rw [List.length_map, List.length_range]; exact Nat.lt_of_lt_of_le hi (by decide), fun c u e => ?_, ?_⟩
      · rw [upd_ne (ne_of_none e nD)]
        exact sm c u e
      · rw [upd_same, List.range_succ, List.map_append]
        have e : decide (V.int (r : Int) = V.int (0 + (i : Int))) = decide (r = i) := by
          rw [Bool.eq_iff_iff]
          simp only [decide_eq_true_eq, V.int.injEq]
          omega
        rw [e]
        rfl
    · rintro H' ⟨sm, hD⟩
      refine ⟨_, rfl, _, rfl, by show 2 ≤ sizeLine; decide, fun p np => ?_⟩
      have pD : D ≠ p := fun z => by
        have np' : H' p = none := np
        rw [← z, hD] at np'
        cases np'
      exact go p _ (sm.trans (new_same np)) ⟨D, D, upd_same, (upd_ne pD).trans hD, (upd_ne pD).trans hD⟩
end
end E18

set_option Elab.async false
set_option linter.all false
set_option maxRecDepth 100000
set_option maxHeartbeats 4000000
namespace E18
open L2 PySem PySem.Spec PyProof.Rows
/-- all([.. for .. in xs]) where each turn gives True and leaves what is tracked -/
theorem lc_true {K : PySem.W.Frag} {a : Addr} {xs : List V} {g : TG} {te : TE} {vs : List Nat} {σ : L2.St} {H1 : Hp} {D : Addr} {Qd : Hp → Prop} (nD : H1 D = none) (ha : H1 a = some (.lst xs)) (small : xs.length ≤ 1000)
    (turn : ∀ x ∈ xs, ∀ (H' : Hp) (R : V → Hp → Prop), Same H1 H' → (∀ H3, Same H' H3 → R (.bl true) H3) → g x (wipe σ vs) H' fun σ2 H2 => wipe σ2 vs = wipe σ vs ∧ te σ2 H2 R)
    (done : ∀ H3, Same H1 H3 → H3 D = some (.lst (List.replicate xs.length (.bl true))) → Qd H3) :
    ∃ W : Nat → Nat → Hp → Prop, (∃ m, W 0 m (upd H1 D (.lst []))) ∧ ∀ i m H, W i m H →
      ((Itl K a).stop i H ∧ Qd H) ∨ ((Itl K a).go i H ∧ ∃ Nx : Hp → Prop, (∀ H', Nx H' → ∃ m', m' < m ∧ W (i + 1) m' H') ∧ ∀ x H', (Itl K a).yld i H x H' → g x (wipe σ vs) H' fun σ2 H2 => wipe σ2 vs = wipe σ vs ∧ tYes σ2 H2 fun b H3 =>
        if b = true then te σ2 H3 fun y H4 => ∃ acc, H4 D = some (.lst acc) ∧ acc.length < sizeLine ∧ Nx (upd H4 D (.lst (acc ++ [y]))) else Nx H3) := by
  refine lc_list (K := K) (a := a) (xs := xs) (fun i H' => Same H1 H' ∧ H' D = some (.lst (List.replicate i (.bl true)))) ⟨new_same nD, upd_same⟩ (fun i H' _ h => .inl (.inl (h.1 _ _ ha))) ?_ (fun H' h => done H' h.1 h.2)
  rintro i x H' hx ⟨sm, hD⟩
  have lt := (List.getElem?_eq_some_iff.mp hx).1
  exact turn x (List.mem_of_getElem? hx) H' (fun y H4 => ∃ acc, H4 D = some (.lst acc) ∧ acc.length < sizeLine ∧ (Same H1 (upd H4 D (.lst (acc ++ [y]))) ∧ upd H4 D (.lst (acc ++ [y])) D = some (.lst (List.replicate (i + 1) (.bl true))))) sm fun H3 s3 => by
    refine ⟨_, s3 _ _ hD, by rw [List.length_replicate]; exact Nat.lt_of_lt_of_le (Nat.lt_of_lt_of_le lt small) (by decide), fun c u e => ?_, ?_⟩
    · rw [upd_ne (ne_of_none e nD)]
      exact s3 _ _ (sm c u e)
    · rw [upd_same, List.replicate_succ']
theorem all_true (n : Nat) : (List.replicate n true).all id = true := by
  rw [List.all_eq_true]
  intro x h
  rw [(List.mem_replicate.mp h).2]
  rfl
theorem all_seq {K : PySem.W.Frag} {H : Hp} {D : Addr} {n : Nat} (h : H D = some (.lst (List.replicate n (.bl true)))) : SqL K H D ((List.replicate n true).map V.bl) := by
  rw [List.map_replicate]
  exact .inl (.inl h)
theorem all_bl (n : Nat) : V.bl ((List.replicate n true).all id) = V.bl true := congrArg V.bl (all_true n)
theorem boot_all' : bootBuiltins "all" = some (.builtin "all") := by decide +kernel
theorem Told.mono {H H' : Hp} {p : Addr} {r : Nat} (sm : Same H H') (h : Told H p r) : Told H' p r := by
  obtain ⟨a, c, h1, h2, h3⟩ := h
  exact ⟨a, c, sm _ _ h1, sm _ _ h2, sm _ _ h3⟩
/-- p and q tell the same -/
def rTold : R2 := fun x y H Q => ∃ p q r, x = .ref p ∧ y = .ref q ∧ Told H p r ∧ Told H q r ∧ Q (.bl true) H
theorem four_eqV {K : PySem.W.Frag} {H : Hp} (r : Nat) : Paired (EqV K H 1) (four r) (four r) := me_pair 0 fun x hx => by
  unfold four at hx
  simp only [List.mem_cons, List.not_mem_nil, or_false] at hx
  rcases hx with rfl | rfl | rfl | rfl <;> exact .inl rfl
theorem op_told {X : Cx} (hu : X.A.units + 64 < cLine) : OpR X (compareOp .Eq) rTold := by
  intro pins s σ H x y v u Q I rx ry h
  obtain ⟨p, q, r, rfl, rfl, ⟨a1, a2, ha, h1, h2⟩, ⟨b1, b2, hb, h3, h4⟩, go⟩ := h
  refine op_eqV hu pins s σ H _ _ v u Q I rx ry ⟨2, by decide, .inl ⟨p, q, _, _, rfl, rfl, .inl (.inl ha), .inl (.inl hb), ?_⟩, go⟩
  refine .cons (.inr (.inr (.inl ⟨a1, b1, _, _, rfl, rfl, .inl (.inl h1), .inl (.inl h3), four_eqV r⟩))) (.cons (.inr (.inr (.inl ⟨a2, b2, _, _, rfl, rfl, .inl (.inl h2), .inl (.inl h4), four_eqV r⟩))) .nil)
/-- what is no list stands as it was -/
def Sx (H H' : Hp) : Prop := ∀ b o, H b = some o → (∀ l, o ≠ .lst l) → H' b = some o
theorem Sx.of {H H' : Hp} (sm : Same H H') : Sx H H' := fun b o e _ => sm b o e
theorem Sx.trans {H H1 H2 : Hp} (a : Sx H H1) (b : Sx H1 H2) : Sx H H2 := fun c o e n => b c o (a c o e n) n
theorem Sx.upd {H : Hp} {L : Addr} {xs : List V} {o : HO} (h : H L = some (.lst xs)) : Sx H (upd H L o) := fun b u e n => by
  refine (upd_ne fun z => ?_).trans e
  rw [z, h] at e
  exact n xs (Option.some.inj e).symm
theorem exo_lst {e C : Addr} {d : Option Addr} (l : List V) : exo e C d ≠ .lst l := fun z => by
  have z' : HO.ext _ = HO.lst l := z
  cases z'
theorem exd_lst {e : Addr} {fs : List (Str × V)} (l : List V) : exd e fs ≠ .lst l := fun z => by
  have z' : HO.ext _ = HO.lst l := z
  cases z'
theorem Err.sx {H H' : Hp} {e C : Addr} {fs : List (Str × V)} (sm : Sx H H') (h : Err H e C fs) : Err H' e C fs := by
  obtain ⟨d, a, b⟩ := h
  exact ⟨d, sm _ _ a exo_lst, sm _ _ b exd_lst⟩
theorem Ob.sx {H H' : Hp} {e C : Addr} (sm : Sx H H') (h : Ob H e C) : Ob H' e C := by
  rcases h with ⟨fs, h⟩ | h
  · exact .inl ⟨fs, h.sx sm⟩
  · exact .inr (sm _ _ h exo_lst)
/-- an error of one attribute with the value v, of the r-th family -/
def One (K : PySem.W.Frag) (b : Nat → Addr) (f : Str) (v : V) (r : Nat) (H : Hp) (e : Addr) : Prop := ∃ C, Err H e C [(f, v)] ∧ Fam K b C r ∧ PySem.W.findIn K (.ref C) f = some none
theorem One.sx {K : PySem.W.Frag} {b : Nat → Addr} {f : Str} {v : V} {r : Nat} {H H' : Hp} {e : Addr} (sm : Sx H H') (h : One K b f v r H e) : One K b f v r H' e := by
  obtain ⟨C, a, c, d⟩ := h
  exact ⟨C, a.sx sm, c, d⟩
/-- a pair of such -/
def Two (K : PySem.W.Frag) (b : Nat → Addr) (f : Str) (v : V) (H : Hp) (x : V) : Prop := ∃ t e e', x = .ref t ∧ H t = some (.tup [.ref e, .ref e']) ∧ One K b f v 0 H e ∧ One K b f v 0 H e'
theorem Two.sx {K : PySem.W.Frag} {b : Nat → Addr} {f : Str} {v : V} {H H' : Hp} {x : V} (sm : Sx H H') (h : Two K b f v H x) : Two K b f v H' x := by
  obtain ⟨t, e, e', rfl, a, c, d⟩ := h
  exact ⟨t, e, e', rfl, sm _ _ a (fun l z => by cases z), c.sx sm, d.sx sm⟩
/-- (C(v), C(f=v)) -/
def tPair (K : PySem.W.Frag) (b : Nat → Addr) (f : Str) (i : Nat) : TE := fun σ H Q => ∃ v, σ[i]? = some (some v) ∧ ∀ t H2, H t = none → Same H H2 → Two K b f v H2 (.ref t) → Q (.ref t) H2
theorem pair_pe {X : Cx} {b : Nat → Addr} {C : Addr} {f x y : Str} {p p' q q' kp pos pos' tpos : Pos} {i k : Nat} (M : Mk1 X.prog X.w X.K X.mg X.base x f C) (fam : Fam X.K b C 0) (hr : Room 2 X.A) (hg : Gl X x) (he : PE X (.Name y q) (tVar i)) (he' : PE X (.Name y q') (tVar i))
    (hdb : (x == ("__debug__" : Str)) = false := by decide) (hs : starEach [.Name y q] X.env = (false, eval (.Name y q) X.env) :: starEach [] X.env := by rfl)
    (h1 : starEach [.Call (.Name x p') [] [⟨some f, .Name y q', kp⟩] pos'] X.env = (false, eval (.Call (.Name x p') [] [⟨some f, .Name y q', kp⟩] pos') X.env) :: starEach [] X.env := by rfl)
    (h2 : starEach [.Call (.Name x p) [.Name y q] [] pos, .Call (.Name x p') [] [⟨some f, .Name y q', kp⟩] pos'] X.env = (false, eval (.Call (.Name x p) [.Name y q] [] pos) X.env) :: starEach [.Call (.Name x p') [] [⟨some f, .Name y q', kp⟩] pos'] X.env := by rfl) :
    PE X (.Tuple [.Call (.Name x p) [.Name y q] [] pos, .Call (.Name x p') [] [⟨some f, .Name y q', kp⟩] pos'] k tpos) (tPair X.K b f i) := by
  refine PE.wk (pe_tup (pa_cons (mk1 M hr hg he hdb hs) (pa_cons (mk1k M hr hg he' hdb) pa_nil h1) h2)) fun σ H Q h => ?_
  obtain ⟨v, hv, go⟩ := h
  refine ⟨v, hv, fun e H2 ne s2 a2 => ⟨v, hv, fun e' H3 ne' s3 a3 => ⟨by show 2 ≤ sizeLine; decide, fun t nt => ?_⟩⟩⟩
  have s4 : Same H3 (upd H3 t (.tup [.ref e, .ref e'])) := new_same nt
  have all := (s2.trans s3).trans s4
  exact go t _ ((s2.trans s3).free nt) all ⟨t, e, e', rfl, upd_same, ⟨C, (a2.mono s3).mono s4, fam, M.nf⟩, ⟨C, a3.mono s4, fam, M.nf⟩⟩
/-- how far the pairs have come: H at the def's entry, now H' -/
structure Got (Z : Hp → V → Prop) (H H' : Hp) (L : Addr) (xs : List V) (n : Nat) : Prop where
  sm : Same H H'
  at_ : H' L = some (.lst xs)
  ok : ∀ x ∈ xs, Z H' x
  len : xs.length = n
theorem Got.grow {Z : Hp → V → Prop} (zx : ∀ {H H' : Hp} {x : V}, Sx H H' → Z H x → Z H' x) {H H1 H2 : Hp} {L : Addr} {xs : List V} {n : Nat} {y : V} (nL : H L = none) (G : Got Z H H1 L xs n) (s : Same H1 H2) (hy : Z H2 y) : Got Z H (upd H2 L (.lst (xs ++ [y]))) L (xs ++ [y]) (n + 1) := by
  have at2 := s _ _ G.at_
  have ux : Sx H2 (upd H2 L (.lst (xs ++ [y]))) := Sx.upd at2
  refine ⟨fun c u e => ?_, upd_same, fun x hx => ?_, by rw [List.length_append, G.len]; rfl⟩
  · rw [upd_ne (ne_of_none e nL)]
    exact s _ _ (G.sm c u e)
  · rcases List.mem_append.mp hx with h | h
    · exact zx ux (zx (Sx.of s) (G.ok x h))
    · rw [List.mem_singleton.mp h]
      exact zx ux hy
end E18

set_option Elab.async false
set_option linter.all false
set_option maxRecDepth 100000
set_option maxHeartbeats 8000000
namespace E18
open L2 PySem PySem.Spec PyProof.Rows
/-- what the top has made, as the law leans on it: b the four bases, c the seventeen, z the eight states, cU, cT the other two -/
structure Top (P : Program) (w : World) (K : PySem.W.Frag) (mg : Str → Option Value) (base : Heap) (b c z : Nat → Addr) (cU cT : Addr) : Prop where
  N : Nam mg b
  a0 : Mk1 P w K mg base "InvalidName" "value" (c 0)
  a1 : Mk1 P w K mg base "InvalidShift" "value" (c 1)
  a2 : Mk1 P w K mg base "InvalidShifts" "name" (c 2)
  a3 : Mk1 P w K mg base "InvalidTimes" "value" (c 3)
  a4 : Mk1 P w K mg base "InvalidMoments" "position" (c 4)
  a5 : Mk1 P w K mg base "InvalidRules" "position" (c 5)
  a6 : Mk1 P w K mg base "InvalidPosition" "value" (c 6)
  a7 : Mk1 P w K mg base "InvalidPositions" "position" (c 7)
  a8 : Mk1 P w K mg base "InvalidNames" "value" (c 8)
  a9 : Mk1 P w K mg base "InvalidCount" "value" (c 9)
  a10 : Mk1 P w K mg base "InvalidChoice" "position" (c 10)
  a11 : Mk1 P w K mg base "InvalidCeilings" "value" (c 11)
  a12 : Mk1 P w K mg base "InvalidTerms" "position" (c 12)
  a13 : Mk1 P w K mg base "InvalidPace" "value" (c 13)
  a14 : Mk1 P w K mg base "InvalidText" "line" (c 14)
  a15 : Mk1 P w K mg base "InvalidClaim" "value" (c 15)
  a16 : Mk1 P w K mg base "InvalidCommand" "value" (c 16)
  fa : ∀ i, i < 17 → Fam K b (c i) 0
  ka : ∀ i j, i < 17 → j < 17 → PySem.W.kitOne K (.ref (c i)) (.ref (c j)) = some (decide (i = j))
  z0 : Mk1 P w K mg base "LastOne" "value" (z 0)
  z1 : Mk1 P w K mg base "NameTaken" "value" (z 1)
  z2 : Mk2 P w K mg base "OtherMoments" "one" "other" (z 2)
  z3 : Mk0 P w K mg base "NoRun" (z 3)
  z4 : Mk1 P w K mg base "NotKept" "position" (z 4)
  z5 : Mk1 P w K mg base "BackNeeded" "position" (z 5)
  z6 : Mk0 P w K mg base "NothingToUndo" (z 6)
  z7 : Mk1 P w K mg base "CommandFailed" "position" (z 7)
  fz : ∀ i, i < 8 → Fam K b (z i) 2
  kz : ∀ i j, i < 8 → j < 8 → PySem.W.kitOne K (.ref (z i)) (.ref (z j)) = some (decide (i = j))
  u : Mk1 P w K mg base "UnknownMoment" "value" cU
  fu : Fam K b cU 1
  t : Mk2 P w K mg base "TooMany" "what" "limit" cT
  ft : Fam K b cT 3
section
variable {P : Program} {w : World} {K : PySem.W.Frag} {mg : Str → Option Value} {base : Heap} {b c z : Nat → Addr} {cU cT : Addr} {f fB fA : Addr} {fd fdB fdA : FuncData}
/-- of a value: nothing that is tracked changes, True comes -/
def spThing : Sp := fun vs H Q _ => ∃ v, vs = [v] ∧ (∃ n d, Val H n v d) ∧ ∀ H', Same H H' → Q (.bl true) H'
/-- how a law's own def is found -/
structure Def (P : Program) (w : World) (K : PySem.W.Frag) (mg : Str → Option Value) (base : Heap) (x : Str) (ps : List Str) (k : Nat) (sp : Sp) : Prop where
  ex : ∃ (f : Addr) (fd : FuncData), FnOk P w K mg base CX0 k f fd ps sp ∧ mg x = some (.ref f) ∧ PySem.W.keepIn K (.ref f) = true ∧ Binds K fd ps []
theorem call1 {X : Cx} {x a : Str} {k : Nat} {sp : Sp} {e : Expr} {te : TE} {p pos : Pos} (D : Def X.prog X.w X.K X.mg X.base x [a] k sp) (hr : Room k X.A) (hg : Gl X x) (he : PE X e te) (hdb : (x == ("__debug__" : Str)) = false := by decide)
    (hs : starEach [e] X.env = (false, eval e X.env) :: starEach [] X.env := by rfl) : PE X (.Call (.Name x p) [e] [] pos) (tCall sp [] E0 (tCons te tNil)) := by
  obtain ⟨f, fd, h1, h2, h3, h4⟩ := D.ex
  exact pe_call h1 hr hg h2 h3 h4 .nil pass0 (pa_cons he pa_nil hs) hdb hs rfl
theorem scValues : FnScope ["_law_thing", "_law_pairs", "_law_lost", "_law_state", "_law_first", "_law_last"] ["_law_thing"] (defScope sValues) := ⟨rfl, rfl, rfl, by decide +kernel, rfl, by decide +kernel, by decide +kernel⟩
theorem ok_values (T : Top P w K mg base b c z cU cT) (DB : Def P w K mg base "_law_bases" ["_law_error"] 1 (spBases K b)) (DA : Def P w K mg base "_law_base" ["_law_number"] 1 spBase)
    (F : Fun K "_law_values_right" "_law_values_right" sValues f fd) : FnOk P w K mg base CX0 4 f fd ["_law_thing"] spThing := by
  refine F.ok scValues (fun vs H Q E h => ?_) (fun cdv A outer s H vs Q E hr h => ?_)
  · obtain ⟨v, rfl, _⟩ := h
    rfl
  · obtain ⟨v, rfl, ⟨vn, vd, hv⟩, go⟩ := h
    refine ⟨_, pss_cons (ps_set (i := 1) scValues.nd rfl (Or.inl rfl) (pe_lst (pa_cons (pair_pe T.a0 (T.fa 0 (by decide)) (hr.mono (by decide)) rfl (pv 0) (pv 0)) (pa_cons (pair_pe T.a1 (T.fa 1 (by decide)) (hr.mono (by decide)) rfl (pv 0) (pv 0)) pa_nil)))) 
      (pss_cons (ps_expr (pe_bm PySem.F.plainAttrs_list PySem.F.slot_list_append PySem.F.type_list_append mt_append (pv 1) (pa_cons (pair_pe T.a3 (T.fa 3 (by decide)) (hr.mono (by decide)) rfl (pv 0) (pv 0)) pa_nil)))
      (pss_cons (ps_expr (pe_bm PySem.F.plainAttrs_list PySem.F.slot_list_append PySem.F.type_list_append mt_append (pv 1) (pa_cons (pair_pe T.a6 (T.fa 6 (by decide)) (hr.mono (by decide)) rfl (pv 0) (pv 0)) pa_nil)))
      (pss_cons (ps_expr (pe_bm PySem.F.plainAttrs_list PySem.F.slot_list_append PySem.F.type_list_append mt_append (pv 1) (pa_cons (pair_pe T.a8 (T.fa 8 (by decide)) (hr.mono (by decide)) rfl (pv 0) (pv 0)) pa_nil)))
      (pss_cons (ps_expr (pe_bm PySem.F.plainAttrs_list PySem.F.slot_list_append PySem.F.type_list_append mt_append (pv 1) (pa_cons (pair_pe T.a9 (T.fa 9 (by decide)) (hr.mono (by decide)) rfl (pv 0) (pv 0)) pa_nil)))
      (pss_cons (ps_expr (pe_bm PySem.F.plainAttrs_list PySem.F.slot_list_append PySem.F.type_list_append mt_append (pv 1) (pa_cons (pair_pe T.a11 (T.fa 11 (by decide)) (hr.mono (by decide)) rfl (pv 0) (pv 0)) pa_nil)))
      (pss_cons (ps_expr (pe_bm PySem.F.plainAttrs_list PySem.F.slot_list_append PySem.F.type_list_append mt_append (pv 1) (pa_cons (pair_pe T.a13 (T.fa 13 (by decide)) (hr.mono (by decide)) rfl (pv 0) (pv 0)) pa_nil)))
      (pss_cons (ps_expr (pe_bm PySem.F.plainAttrs_list PySem.F.slot_list_append PySem.F.type_list_append mt_append (pv 1) (pa_cons (pair_pe T.a15 (T.fa 15 (by decide)) (hr.mono (by decide)) rfl (pv 0) (pv 0)) pa_nil)))
      (pss_cons (ps_expr (pe_bm PySem.F.plainAttrs_list PySem.F.slot_list_append PySem.F.type_list_append mt_append (pv 1) (pa_cons (pair_pe T.a16 (T.fa 16 (by decide)) (hr.mono (by decide)) rfl (pv 0) (pv 0)) pa_nil)))
      (pss_cons (ps_if (pt_not (pt_val (pe_callB (cr_all rfl) rfl T.N.all_ boot_all' (pa_cons (pe_lc (own := [("_law_first", 4), ("_law_last", 5)]) (g := gTup K 2 (gCons (gName 4) (gCons (gName 5) gNil))) (tt := tYes) (te := tOp (rLstMe K true) (tLst (tCons (tExf K "value" (tVar 4)) (tCons (tExf K "value" (tVar 5)) tNil))) (tLst (tCons (tVar 0) (tCons (tVar 0) tNil)))) (by rfl) scValues.nd (pi_list (pv 1))
        (blkOk_by (own := [("_law_first", 4), ("_law_last", 5)]) (N := ["_law_thing", "_law_pairs", "_law_lost", "_law_state", "_law_first", "_law_last"]) (sc := defScope sValues) (by decide +kernel)) (fun _ _ _ _ _ => pg_tup rfl (pgs_cons (pg_name (i := 4) scValues.nd rfl (Or.inl rfl)) (pgs_cons (pg_name (i := 5) scValues.nd rfl (Or.inl rfl)) pgs_nil))) (fun _ _ _ _ _ => pts_nil)
        (fun _ _ _ _ _ => (pe_cmpR (op_eqMe hr.units) (pe_lst (pa_cons (pe_exf (f := "value") (pv 4)) (pa_cons (pe_exf (f := "value") (pv 5)) pa_nil))) (pe_lst (pa_cons (pv 0) (pa_cons (pv 0) pa_nil))) (nomark _)))) pa_nil)))) (pss_one (ps_ret pe_bl)) pss_nil)
      (pss_cons (ps_if (pt_not (pt_val (pe_callB (cr_all rfl) rfl T.N.all_ boot_all' (pa_cons (pe_lc (own := [("_law_first", 4), ("_law_last", 5)]) (g := gTup K 2 (gCons (gName 4) (gCons (gName 5) gNil))) (tt := tYes) (by rfl) scValues.nd (pi_list (pv 1))
        (blkOk_by (own := [("_law_first", 4), ("_law_last", 5)]) (N := ["_law_thing", "_law_pairs", "_law_lost", "_law_state", "_law_first", "_law_last"]) (sc := defScope sValues) (by decide +kernel)) (fun _ _ _ _ _ => pg_tup rfl (pgs_cons (pg_name (i := 4) scValues.nd rfl (Or.inl rfl)) (pgs_cons (pg_name (i := 5) scValues.nd rfl (Or.inl rfl)) pgs_nil))) (fun _ _ _ _ _ => pts_nil)
        (fun _ _ _ _ _ => (pe_and (pe_cmpR (op_told hr.units) (call1 DB (hr.mono (by decide)) rfl (pv 4)) (call1 DA (hr.mono (by decide)) rfl pe_int) (nomark _)) (pe_one (pe_cmpR (op_told hr.units) (call1 DB (hr.mono (by decide)) rfl (pv 5)) (call1 DA (hr.mono (by decide)) rfl pe_int) (nomark _)))))) pa_nil)))) (pss_one (ps_ret pe_bl)) pss_nil)
      (pss_cons (ps_set (i := 2) scValues.nd rfl (Or.inl rfl) (pe_lst (pa_cons (mk1 T.u (hr.mono (by decide)) rfl (pv 0)) (pa_cons (mk1k T.u (hr.mono (by decide)) rfl (pv 0)) pa_nil))))
      (pss_cons (ps_set (i := 3) scValues.nd rfl (Or.inl rfl) (pe_lst (pa_cons (mk1 T.z0 (hr.mono (by decide)) rfl (pv 0)) (pa_cons (mk1k T.z0 (hr.mono (by decide)) rfl (pv 0)) (pa_cons (mk1 T.z1 (hr.mono (by decide)) rfl (pv 0)) (pa_cons (mk1k T.z1 (hr.mono (by decide)) rfl (pv 0)) pa_nil))))))
      (pss_cons (ps_if (pt_not (pt_val (pe_callB (cr_all rfl) rfl T.N.all_ boot_all' (pa_cons (pe_lc (own := [("_law_first", 4)]) (g := gName 4) (tt := tYes) (te := tOp rSelf (tExf K "value" (tVar 4)) (tVar 0)) (by rfl) scValues.nd (pi_list (pe_op op_cat (pv 2) (pv 3)))
        (blkOk_by (own := [("_law_first", 4)]) (N := ["_law_thing", "_law_pairs", "_law_lost", "_law_state", "_law_first", "_law_last"]) (sc := defScope sValues) (by decide +kernel)) (fun _ _ _ _ _ => pg_name (i := 4) scValues.nd rfl (Or.inl rfl)) (fun _ _ _ _ _ => pts_nil)
        (fun _ _ _ _ _ => (pe_cmpR (op_self hr.units) (pe_exf (f := "value") (pv 4)) (pv 0) (nomark _)))) pa_nil)))) (pss_one (ps_ret pe_bl)) pss_nil)
      (pss_cons (ps_if (pt_not (pt_val (pe_callB (cr_all rfl) rfl T.N.all_ boot_all' (pa_cons (pe_lc (own := [("_law_first", 4)]) (g := gName 4) (tt := tYes) (by rfl) scValues.nd (pi_list (pv 2))
        (blkOk_by (own := [("_law_first", 4)]) (N := ["_law_thing", "_law_pairs", "_law_lost", "_law_state", "_law_first", "_law_last"]) (sc := defScope sValues) (by decide +kernel)) (fun _ _ _ _ _ => pg_name (i := 4) scValues.nd rfl (Or.inl rfl)) (fun _ _ _ _ _ => pts_nil)
        (fun _ _ _ _ _ => (pe_cmpR (op_told hr.units) (call1 DB (hr.mono (by decide)) rfl (pv 4)) (call1 DA (hr.mono (by decide)) rfl pe_int) (nomark _)))) pa_nil)))) (pss_one (ps_ret pe_bl)) pss_nil)
      (pss_one (ps_ret (pe_callB (cr_all rfl) rfl T.N.all_ boot_all' (pa_cons (pe_lc (own := [("_law_first", 4)]) (g := gName 4) (tt := tYes) (by rfl) scValues.nd (pi_list (pv 3))
        (blkOk_by (own := [("_law_first", 4)]) (N := ["_law_thing", "_law_pairs", "_law_lost", "_law_state", "_law_first", "_law_last"]) (sc := defScope sValues) (by decide +kernel)) (fun _ _ _ _ _ => pg_name (i := 4) scValues.nd rfl (Or.inl rfl)) (fun _ _ _ _ _ => pts_nil)
        (fun _ _ _ _ _ => (pe_cmpR (op_told hr.units) (call1 DB (hr.mono (by decide)) rfl (pv 4)) (call1 DA (hr.mono (by decide)) rfl pe_int) (nomark _)))) pa_nil)))))))))))))))))), ?_⟩
    -- the pairs, one behind another
    refine ⟨v, rfl, fun t1 H1 n1 s1 p1 => ⟨v, rfl, fun t2 H2 n2 s2 p2 => ⟨by show 2 ≤ sizeLine; decide, fun L nL => ?_⟩⟩⟩
    have nL0 : H L = none := (s1.trans s2).free nL
    have zx : ∀ {H H' : Hp} {x : V}, Sx H H' → Two K b "value" v H x → Two K b "value" v H' x := fun sm h => h.sx sm
    have G2 : Got (Two K b "value" v) H (upd H2 L (.lst [.ref t1, .ref t2])) L [.ref t1, .ref t2] 2 := by
      have u : Same H2 (upd H2 L (.lst [.ref t1, .ref t2])) := new_same nL
      refine ⟨(s1.trans s2).trans u, upd_same, fun x hx => ?_, rfl⟩
      simp only [List.mem_cons, List.not_mem_nil, or_false] at hx
      rcases hx with rfl | rfl
      · exact zx (Sx.of (s2.trans u)) p1
      · exact zx (Sx.of u) p2
    refine ⟨_, rfl, Or.inl ⟨rfl, _, Or.inl (Or.inl G2.at_)⟩, v, rfl, fun t3 H3 n3 s3 p3 => ⟨L, _, .ref t3, rfl, rfl, s3 _ _ G2.at_, by rw [G2.len]; decide, ?_⟩⟩
    have G3 := Got.grow (Z := Two K b "value" v) zx nL0 G2 s3 p3
    refine ⟨_, rfl, Or.inl ⟨rfl, _, Or.inl (Or.inl G3.at_)⟩, v, rfl, fun t4 H4 n4 s4 p4 => ⟨L, _, .ref t4, rfl, rfl, s4 _ _ G3.at_, by rw [G3.len]; decide, ?_⟩⟩
    have G4 := Got.grow (Z := Two K b "value" v) zx nL0 G3 s4 p4
    refine ⟨_, rfl, Or.inl ⟨rfl, _, Or.inl (Or.inl G4.at_)⟩, v, rfl, fun t5 H5 n5 s5 p5 => ⟨L, _, .ref t5, rfl, rfl, s5 _ _ G4.at_, by rw [G4.len]; decide, ?_⟩⟩
    have G5 := Got.grow (Z := Two K b "value" v) zx nL0 G4 s5 p5
    refine ⟨_, rfl, Or.inl ⟨rfl, _, Or.inl (Or.inl G5.at_)⟩, v, rfl, fun t6 H6 n6 s6 p6 => ⟨L, _, .ref t6, rfl, rfl, s6 _ _ G5.at_, by rw [G5.len]; decide, ?_⟩⟩
    have G6 := Got.grow (Z := Two K b "value" v) zx nL0 G5 s6 p6
    refine ⟨_, rfl, Or.inl ⟨rfl, _, Or.inl (Or.inl G6.at_)⟩, v, rfl, fun t7 H7 n7 s7 p7 => ⟨L, _, .ref t7, rfl, rfl, s7 _ _ G6.at_, by rw [G6.len]; decide, ?_⟩⟩
    have G7 := Got.grow (Z := Two K b "value" v) zx nL0 G6 s7 p7
    refine ⟨_, rfl, Or.inl ⟨rfl, _, Or.inl (Or.inl G7.at_)⟩, v, rfl, fun t8 H8 n8 s8 p8 => ⟨L, _, .ref t8, rfl, rfl, s8 _ _ G7.at_, by rw [G7.len]; decide, ?_⟩⟩
    have G8 := Got.grow (Z := Two K b "value" v) zx nL0 G7 s8 p8
    refine ⟨_, rfl, Or.inl ⟨rfl, _, Or.inl (Or.inl G8.at_)⟩, v, rfl, fun t9 H9 n9 s9 p9 => ⟨L, _, .ref t9, rfl, rfl, s9 _ _ G8.at_, by rw [G8.len]; decide, ?_⟩⟩
    have G9 := Got.grow (Z := Two K b "value" v) zx nL0 G8 s9 p9
    refine ⟨_, rfl, Or.inl ⟨rfl, _, Or.inl (Or.inl G9.at_)⟩, v, rfl, fun t10 H10 n10 s10 p10 => ⟨L, _, .ref t10, rfl, rfl, s10 _ _ G9.at_, by rw [G9.len]; decide, ?_⟩⟩
    have G10 := Got.grow (Z := Two K b "value" v) zx nL0 G9 s10 p10
    -- their values
    refine ⟨_, rfl, L, rfl, ⟨_, .inl (.inl G10.at_)⟩, fun D nD => lc_true nD G10.at_ (by rw [G10.len]; decide) (fun x hx H' R sm fin => ?_) (fun Ha sa ha => ⟨_, _, rfl, all_seq ha, true, all_bl _, ?_⟩)⟩
    · obtain ⟨t, e, e', rfl, ht, ⟨C, o1, f1, nf1⟩, ⟨C', o2, f2, nf2⟩⟩ := zx (Sx.of sm) (G10.ok x hx)
      refine ⟨t, _, rfl, .inl (.inl ht), rfl, _, _, rfl, _, _, rfl, rfl, rfl, ?_⟩
      refine ⟨_, rfl, e, C, _, v, rfl, f1.T, nf1, o1, rfl, _, rfl, e', C', _, v, rfl, f2.T, nf2, o2, rfl, by show 2 ≤ sizeLine; decide, fun p np => ?_⟩
      refine ⟨_, rfl, _, rfl, by show 2 ≤ sizeLine; decide, fun q nq => ?_⟩
      have pq : p ≠ q := fun z => by
        rw [← z, upd_same] at nq
        cases nq
      refine ⟨p, q, [v, v], rfl, rfl, .inl (.inl ((upd_ne pq).trans upd_same)), .inl (.inl upd_same), fun y hy => ?_, fin _ ((new_same np).trans (new_same nq))⟩
      simp only [List.mem_cons, List.not_mem_nil, or_false, or_self] at hy
      rw [hy]
      exact hv.me
    -- their families
    refine ⟨_, rfl, L, rfl, ⟨_, .inl (.inl (sa _ _ G10.at_))⟩, fun D2 nD2 => lc_true nD2 (sa _ _ G10.at_) (by rw [G10.len]; decide) (fun x hx H' R sm fin => ?_) (fun Hb sb hb => ⟨_, _, rfl, all_seq hb, true, all_bl _, ?_⟩)⟩
    · obtain ⟨t, e, e', rfl, ht, ⟨C, o1, f1, nf1⟩, ⟨C', o2, f2, nf2⟩⟩ := zx (Sx.of (sa.trans sm)) (G10.ok x hx)
      refine ⟨t, _, rfl, .inl (.inl ht), rfl, _, _, rfl, _, _, rfl, rfl, rfl, ?_⟩
      refine ⟨_, rfl, e, C, 0, rfl, .inl ⟨_, o1⟩, f1, fun p Hp sp tp => ⟨0, rfl, fun q Hq sq tq => ⟨p, q, 0, rfl, rfl, tp.mono sq, tq, true, rfl, ?_⟩⟩⟩
      refine ⟨_, rfl, e', C', 0, rfl, .inl ⟨_, (o2.mono sp).mono sq⟩, f2, fun p' Hp' sp' tp' => ⟨0, rfl, fun q' Hq' sq' tq' => ⟨p', q', 0, rfl, rfl, tp'.mono sq', tq', fin _ (((sp.trans sq).trans sp').trans sq')⟩⟩⟩
    -- the others
    have sB : Same H Hb := (G10.sm.trans sa).trans sb
    refine ⟨_, rfl, fun u1 H11 m1 r1 q1 => ⟨_, rfl, fun u2 H12 m2 r2 q2 => ⟨by show 2 ≤ sizeLine; decide, fun La nLa => ?_⟩⟩⟩
    refine ⟨_, rfl, fun w1 H13 m3 r3 q3 => ⟨_, rfl, fun w2 H14 m4 r4 q4 => ⟨_, rfl, fun w3 H15 m5 r5 q5 => ⟨_, rfl, fun w4 H16 m6 r6 q6 => ⟨by show 4 ≤ sizeLine; decide, fun Lb nLb => ?_⟩⟩⟩⟩⟩
    have ra : Same H12 (upd H12 La (.lst [.ref u1, .ref u2])) := new_same nLa
    have rb : Same H16 (upd H16 Lb (.lst [.ref w1, .ref w2, .ref w3, .ref w4])) := new_same nLb
    have r36 : Same (upd H12 La (.lst [.ref u1, .ref u2])) H16 := ((r3.trans r4).trans r5).trans r6
    generalize hHc : upd H16 Lb (.lst [.ref w1, .ref w2, .ref w3, .ref w4]) = Hc at *
    have la : Hc La = some (.lst [.ref u1, .ref u2]) := rb _ _ (r36 _ _ upd_same)
    have lb : Hc Lb = some (.lst [.ref w1, .ref w2, .ref w3, .ref w4]) := by rw [← hHc, upd_same]
    have sC : Same H Hc := (((((sB.trans r1).trans r2).trans ra).trans r36).trans rb)
    have lost : ∀ x ∈ [V.ref u1, V.ref u2], ∃ e, x = .ref e ∧ One K b "value" v 1 Hc e := fun x hx => by
      have k2 : Same H12 Hc := (ra.trans r36).trans rb
      simp only [List.mem_cons, List.not_mem_nil, or_false] at hx
      rcases hx with rfl | rfl
      · exact ⟨u1, rfl, cU, (q1.mono r2).mono k2, T.fu, T.u.nf⟩
      · exact ⟨u2, rfl, cU, q2.mono k2, T.fu, T.u.nf⟩
    have states : ∀ x ∈ [V.ref w1, V.ref w2, V.ref w3, V.ref w4], ∃ e, x = .ref e ∧ One K b "value" v 2 Hc e := fun x hx => by
      simp only [List.mem_cons, List.not_mem_nil, or_false] at hx
      rcases hx with rfl | rfl | rfl | rfl
      · exact ⟨w1, rfl, z 0, q3.mono (((r4.trans r5).trans r6).trans rb), T.fz 0 (by decide), T.z0.nf⟩
      · exact ⟨w2, rfl, z 0, q4.mono ((r5.trans r6).trans rb), T.fz 0 (by decide), T.z0.nf⟩
      · exact ⟨w3, rfl, z 1, q5.mono (r6.trans rb), T.fz 1 (by decide), T.z1.nf⟩
      · exact ⟨w4, rfl, z 1, q6.mono rb, T.fz 1 (by decide), T.z1.nf⟩
    refine ⟨_, rfl, _, rfl, La, Lb, _, _, rfl, rfl, la, lb, by show 2 + 4 ≤ sizeLine; decide, fun Lc nLc => ?_⟩
    have rc : Same Hc (upd Hc Lc (.lst ([V.ref u1, V.ref u2] ++ [V.ref w1, V.ref w2, V.ref w3, V.ref w4]))) := new_same nLc
    refine ⟨Lc, rfl, ⟨_, .inl (.inl upd_same)⟩, fun D3 nD3 => lc_true nD3 upd_same (by show 6 ≤ 1000; decide) (fun x hx H' R sm fin => ?_) (fun Hd sd hd => ⟨_, _, rfl, all_seq hd, true, all_bl _, ?_⟩)⟩
    · have both : ∃ e r, x = .ref e ∧ One K b "value" v r Hc e := by
        rcases List.mem_append.mp hx with h | h
        · obtain ⟨e, a1, a2⟩ := lost x h
          exact ⟨e, 1, a1, a2⟩
        · obtain ⟨e, a1, a2⟩ := states x h
          exact ⟨e, 2, a1, a2⟩
      obtain ⟨e, r, rfl, C, o1, f1, nf1⟩ := both
      have k3 := rc.trans sm
      exact ⟨rfl, _, rfl, e, C, _, v, rfl, f1.T, nf1, o1.mono k3, rfl, _, rfl, rfl, ⟨vn, vd, hv.mono (sC.trans k3)⟩, fin _ (Same.refl _)⟩
    have rd : Same Hc Hd := rc.trans sd
    refine ⟨_, rfl, La, rfl, ⟨_, .inl (.inl (rd _ _ la))⟩, fun D4 nD4 => lc_true nD4 (rd _ _ la) (by show 2 ≤ 1000; decide) (fun x hx H' R sm fin => ?_) (fun He se he => ⟨_, _, rfl, all_seq he, true, all_bl _, ?_⟩)⟩
    · obtain ⟨e, rfl, C, o1, f1, nf1⟩ := lost x hx
      exact ⟨rfl, _, rfl, e, C, 1, rfl, .inl ⟨_, o1.mono (rd.trans sm)⟩, f1, fun p Hp sp tp => ⟨1, rfl, fun q Hq sq tq => ⟨p, q, 1, rfl, rfl, tp.mono sq, tq, fin _ (sp.trans sq)⟩⟩⟩
    have re : Same Hc He := rd.trans se
    refine ⟨_, rfl, Lb, rfl, ⟨_, .inl (.inl (re _ _ lb))⟩, fun D5 nD5 => lc_true nD5 (re _ _ lb) (by show 4 ≤ 1000; decide) (fun x hx H' R sm fin => ?_) (fun Hf sf hf => ⟨_, _, rfl, all_seq hf, by rw [all_bl]; exact go _ ((sC.trans re).trans sf)⟩)⟩
    · obtain ⟨e, rfl, C, o1, f1, nf1⟩ := states x hx
      exact ⟨rfl, _, rfl, e, C, 2, rfl, .inl ⟨_, o1.mono (re.trans sm)⟩, f1, fun p Hp sp tp => ⟨2, rfl, fun q Hq sq tq => ⟨p, q, 2, rfl, rfl, tp.mono sq, tq, fin _ (sp.trans sq)⟩⟩⟩
end
end E18

set_option Elab.async false
set_option linter.all false
set_option maxRecDepth 100000
set_option maxHeartbeats 8000000
namespace E18
open L2 PySem PySem.Spec PyProof.Rows
section
variable {P : Program} {w : World} {K : PySem.W.Frag} {mg : Str → Option Value} {base : Heap} {b c z : Nat → Addr} {cU cT : Addr} {f : Addr} {fd : FuncData}
theorem scPositions : FnScope ["_law_thing", "_law_pairs", "_law_state", "_law_first", "_law_last"] ["_law_thing"] (defScope sPositions) := ⟨rfl, rfl, rfl, by decide +kernel, rfl, by decide +kernel, by decide +kernel⟩
theorem ok_positions (T : Top P w K mg base b c z cU cT) (DB : Def P w K mg base "_law_bases" ["_law_error"] 1 (spBases K b)) (DA : Def P w K mg base "_law_base" ["_law_number"] 1 spBase)
    (F : Fun K "_law_positions_right" "_law_positions_right" sPositions f fd) : FnOk P w K mg base CX0 4 f fd ["_law_thing"] spThing := by
  refine F.ok scPositions (fun vs H Q E h => ?_) (fun cdv A outer s H vs Q E hr h => ?_)
  · obtain ⟨v, rfl, _⟩ := h
    rfl
  · obtain ⟨v, rfl, ⟨vn, vd, hv⟩, go⟩ := h
    refine ⟨_, pss_cons (ps_set (i := 1) scPositions.nd rfl (Or.inl rfl) (pe_lst (pa_cons (pair_pe T.a4 (T.fa 4 (by decide)) (hr.mono (by decide)) rfl (pv 0) (pv 0)) pa_nil))) 
      (pss_cons (ps_expr (pe_bm PySem.F.plainAttrs_list PySem.F.slot_list_append PySem.F.type_list_append mt_append (pv 1) (pa_cons (pair_pe T.a5 (T.fa 5 (by decide)) (hr.mono (by decide)) rfl (pv 0) (pv 0)) pa_nil)))
      (pss_cons (ps_expr (pe_bm PySem.F.plainAttrs_list PySem.F.slot_list_append PySem.F.type_list_append mt_append (pv 1) (pa_cons (pair_pe T.a7 (T.fa 7 (by decide)) (hr.mono (by decide)) rfl (pv 0) (pv 0)) pa_nil)))
      (pss_cons (ps_expr (pe_bm PySem.F.plainAttrs_list PySem.F.slot_list_append PySem.F.type_list_append mt_append (pv 1) (pa_cons (pair_pe T.a10 (T.fa 10 (by decide)) (hr.mono (by decide)) rfl (pv 0) (pv 0)) pa_nil)))
      (pss_cons (ps_expr (pe_bm PySem.F.plainAttrs_list PySem.F.slot_list_append PySem.F.type_list_append mt_append (pv 1) (pa_cons (pair_pe T.a12 (T.fa 12 (by decide)) (hr.mono (by decide)) rfl (pv 0) (pv 0)) pa_nil)))
      (pss_cons (ps_if (pt_not (pt_val (pe_callB (cr_all rfl) rfl T.N.all_ boot_all' (pa_cons (pe_lc (own := [("_law_first", 3), ("_law_last", 4)]) (g := gTup K 2 (gCons (gName 3) (gCons (gName 4) gNil))) (tt := tYes) (te := tOp (rLstMe K true) (tLst (tCons (tExf K "position" (tVar 3)) (tCons (tExf K "position" (tVar 4)) tNil))) (tLst (tCons (tVar 0) (tCons (tVar 0) tNil)))) (by rfl) scPositions.nd (pi_list (pv 1))
        (blkOk_by (own := [("_law_first", 3), ("_law_last", 4)]) (N := ["_law_thing", "_law_pairs", "_law_state", "_law_first", "_law_last"]) (sc := defScope sPositions) (by decide +kernel)) (fun _ _ _ _ _ => pg_tup rfl (pgs_cons (pg_name (i := 3) scPositions.nd rfl (Or.inl rfl)) (pgs_cons (pg_name (i := 4) scPositions.nd rfl (Or.inl rfl)) pgs_nil))) (fun _ _ _ _ _ => pts_nil)
        (fun _ _ _ _ _ => (pe_cmpR (op_eqMe hr.units) (pe_lst (pa_cons (pe_exf (f := "position") (pv 3)) (pa_cons (pe_exf (f := "position") (pv 4)) pa_nil))) (pe_lst (pa_cons (pv 0) (pa_cons (pv 0) pa_nil))) (nomark _)))) pa_nil)))) (pss_one (ps_ret pe_bl)) pss_nil)
      (pss_cons (ps_if (pt_not (pt_val (pe_callB (cr_all rfl) rfl T.N.all_ boot_all' (pa_cons (pe_lc (own := [("_law_first", 3), ("_law_last", 4)]) (g := gTup K 2 (gCons (gName 3) (gCons (gName 4) gNil))) (tt := tYes) (by rfl) scPositions.nd (pi_list (pv 1))
        (blkOk_by (own := [("_law_first", 3), ("_law_last", 4)]) (N := ["_law_thing", "_law_pairs", "_law_state", "_law_first", "_law_last"]) (sc := defScope sPositions) (by decide +kernel)) (fun _ _ _ _ _ => pg_tup rfl (pgs_cons (pg_name (i := 3) scPositions.nd rfl (Or.inl rfl)) (pgs_cons (pg_name (i := 4) scPositions.nd rfl (Or.inl rfl)) pgs_nil))) (fun _ _ _ _ _ => pts_nil)
        (fun _ _ _ _ _ => (pe_and (pe_cmpR (op_told hr.units) (call1 DB (hr.mono (by decide)) rfl (pv 3)) (call1 DA (hr.mono (by decide)) rfl pe_int) (nomark _)) (pe_one (pe_cmpR (op_told hr.units) (call1 DB (hr.mono (by decide)) rfl (pv 4)) (call1 DA (hr.mono (by decide)) rfl pe_int) (nomark _)))))) pa_nil)))) (pss_one (ps_ret pe_bl)) pss_nil)
      (pss_cons (ps_set (i := 2) scPositions.nd rfl (Or.inl rfl) (pe_lst (pa_cons (mk1 T.z4 (hr.mono (by decide)) rfl (pv 0)) (pa_cons (mk1k T.z4 (hr.mono (by decide)) rfl (pv 0)) (pa_cons (mk1 T.z5 (hr.mono (by decide)) rfl (pv 0)) (pa_cons (mk1k T.z5 (hr.mono (by decide)) rfl (pv 0)) pa_nil))))))
      (pss_cons (ps_set (i := 2) scPositions.nd rfl (Or.inl rfl) (pe_op op_cat (pv 2) (pe_lst (pa_cons (mk1 T.z7 (hr.mono (by decide)) rfl (pv 0)) (pa_cons (mk1k T.z7 (hr.mono (by decide)) rfl (pv 0)) pa_nil)))))
      (pss_one (ps_ret (pe_callB (cr_all rfl) rfl T.N.all_ boot_all' (pa_cons (pe_lc (own := [("_law_first", 3)]) (g := gName 3) (tt := tYes) (te := tAndV (tOp rSelf (tExf K "position" (tVar 3)) (tVar 0)) (tOp rTold (tCall (spBases K b) [] E0 (tCons (tVar 3) tNil)) (tCall spBase [] E0 (tCons (tC (.int 2)) tNil)))) (by rfl) scPositions.nd (pi_list (pv 2))
        (blkOk_by (own := [("_law_first", 3)]) (N := ["_law_thing", "_law_pairs", "_law_state", "_law_first", "_law_last"]) (sc := defScope sPositions) (by decide +kernel)) (fun _ _ _ _ _ => pg_name (i := 3) scPositions.nd rfl (Or.inl rfl)) (fun _ _ _ _ _ => pts_nil)
        (fun _ _ _ _ _ => (pe_and (pe_cmpR (op_self hr.units) (pe_exf (f := "position") (pv 3)) (pv 0) (nomark _)) (pe_one (pe_cmpR (op_told hr.units) (call1 DB (hr.mono (by decide)) rfl (pv 3)) (call1 DA (hr.mono (by decide)) rfl pe_int) (nomark _)))))) pa_nil)))))))))))), ?_⟩
    refine ⟨v, rfl, fun t1 H1 n1 s1 p1 => ⟨by show 1 ≤ sizeLine; decide, fun L nL => ?_⟩⟩
    have nL0 : H L = none := s1.free nL
    have zx : ∀ {H H' : Hp} {x : V}, Sx H H' → Two K b "position" v H x → Two K b "position" v H' x := fun sm h => h.sx sm
    have G1 : Got (Two K b "position" v) H (upd H1 L (.lst [.ref t1])) L [.ref t1] 1 := by
      have u : Same H1 (upd H1 L (.lst [.ref t1])) := new_same nL
      refine ⟨s1.trans u, upd_same, fun x hx => ?_, rfl⟩
      rw [List.mem_singleton.mp hx]
      exact zx (Sx.of u) p1
    refine ⟨_, rfl, Or.inl ⟨rfl, _, Or.inl (Or.inl G1.at_)⟩, v, rfl, fun t2 H2 n2 s2 p2 => ⟨L, _, .ref t2, rfl, rfl, s2 _ _ G1.at_, by rw [G1.len]; decide, ?_⟩⟩
    have G2 := Got.grow (Z := Two K b "position" v) zx nL0 G1 s2 p2
    refine ⟨_, rfl, Or.inl ⟨rfl, _, Or.inl (Or.inl G2.at_)⟩, v, rfl, fun t3 H3 n3 s3 p3 => ⟨L, _, .ref t3, rfl, rfl, s3 _ _ G2.at_, by rw [G2.len]; decide, ?_⟩⟩
    have G3 := Got.grow (Z := Two K b "position" v) zx nL0 G2 s3 p3
    refine ⟨_, rfl, Or.inl ⟨rfl, _, Or.inl (Or.inl G3.at_)⟩, v, rfl, fun t4 H4 n4 s4 p4 => ⟨L, _, .ref t4, rfl, rfl, s4 _ _ G3.at_, by rw [G3.len]; decide, ?_⟩⟩
    have G4 := Got.grow (Z := Two K b "position" v) zx nL0 G3 s4 p4
    refine ⟨_, rfl, Or.inl ⟨rfl, _, Or.inl (Or.inl G4.at_)⟩, v, rfl, fun t5 H5 n5 s5 p5 => ⟨L, _, .ref t5, rfl, rfl, s5 _ _ G4.at_, by rw [G4.len]; decide, ?_⟩⟩
    have G5 := Got.grow (Z := Two K b "position" v) zx nL0 G4 s5 p5
    refine ⟨_, rfl, L, rfl, ⟨_, .inl (.inl G5.at_)⟩, fun D nD => lc_true nD G5.at_ (by rw [G5.len]; decide) (fun x hx H' R sm fin => ?_) (fun Ha sa ha => ⟨_, _, rfl, all_seq ha, true, all_bl _, ?_⟩)⟩
    · obtain ⟨t, e, e', rfl, ht, ⟨C, o1, f1, nf1⟩, ⟨C', o2, f2, nf2⟩⟩ := zx (Sx.of sm) (G5.ok x hx)
      refine ⟨t, _, rfl, .inl (.inl ht), rfl, _, _, rfl, _, _, rfl, rfl, rfl, ?_⟩
      refine ⟨_, rfl, e, C, _, v, rfl, f1.T, nf1, o1, rfl, _, rfl, e', C', _, v, rfl, f2.T, nf2, o2, rfl, by show 2 ≤ sizeLine; decide, fun p np => ?_⟩
      refine ⟨_, rfl, _, rfl, by show 2 ≤ sizeLine; decide, fun q nq => ?_⟩
      have pq : p ≠ q := fun z => by
        rw [← z, upd_same] at nq
        cases nq
      refine ⟨p, q, [v, v], rfl, rfl, .inl (.inl ((upd_ne pq).trans upd_same)), .inl (.inl upd_same), fun y hy => ?_, fin _ ((new_same np).trans (new_same nq))⟩
      simp only [List.mem_cons, List.not_mem_nil, or_false, or_self] at hy
      rw [hy]
      exact hv.me
    refine ⟨_, rfl, L, rfl, ⟨_, .inl (.inl (sa _ _ G5.at_))⟩, fun D2 nD2 => lc_true nD2 (sa _ _ G5.at_) (by rw [G5.len]; decide) (fun x hx H' R sm fin => ?_) (fun Hb sb hb => ⟨_, _, rfl, all_seq hb, true, all_bl _, ?_⟩)⟩
    · obtain ⟨t, e, e', rfl, ht, ⟨C, o1, f1, nf1⟩, ⟨C', o2, f2, nf2⟩⟩ := zx (Sx.of (sa.trans sm)) (G5.ok x hx)
      refine ⟨t, _, rfl, .inl (.inl ht), rfl, _, _, rfl, _, _, rfl, rfl, rfl, ?_⟩
      refine ⟨_, rfl, e, C, 0, rfl, .inl ⟨_, o1⟩, f1, fun p Hp sp tp => ⟨0, rfl, fun q Hq sq tq => ⟨p, q, 0, rfl, rfl, tp.mono sq, tq, true, rfl, ?_⟩⟩⟩
      refine ⟨_, rfl, e', C', 0, rfl, .inl ⟨_, (o2.mono sp).mono sq⟩, f2, fun p' Hp' sp' tp' => ⟨0, rfl, fun q' Hq' sq' tq' => ⟨p', q', 0, rfl, rfl, tp'.mono sq', tq', fin _ (((sp.trans sq).trans sp').trans sq')⟩⟩⟩
    have sB : Same H Hb := (G5.sm.trans sa).trans sb
    refine ⟨_, rfl, fun w1 H13 m3 r3 q3 => ⟨_, rfl, fun w2 H14 m4 r4 q4 => ⟨_, rfl, fun w3 H15 m5 r5 q5 => ⟨_, rfl, fun w4 H16 m6 r6 q6 => ⟨by show 4 ≤ sizeLine; decide, fun La nLa => ?_⟩⟩⟩⟩⟩
    refine ⟨_, rfl, _, rfl, fun w5 H17 m7 r7 q7 => ⟨_, rfl, fun w6 H18 m8 r8 q8 => ⟨by show 2 ≤ sizeLine; decide, fun Lb nLb => ?_⟩⟩⟩
    have ra : Same H16 (upd H16 La (.lst [.ref w1, .ref w2, .ref w3, .ref w4])) := new_same nLa
    have rb : Same H18 (upd H18 Lb (.lst [.ref w5, .ref w6])) := new_same nLb
    generalize hHc : upd H18 Lb (.lst [.ref w5, .ref w6]) = Hc at *
    have la : Hc La = some (.lst [.ref w1, .ref w2, .ref w3, .ref w4]) := rb _ _ (r8 _ _ (r7 _ _ upd_same))
    have lb : Hc Lb = some (.lst [.ref w5, .ref w6]) := by rw [← hHc, upd_same]
    refine ⟨La, Lb, _, _, rfl, rfl, la, lb, by show 4 + 2 ≤ sizeLine; decide, fun Lc nLc => ?_⟩
    have rc : Same Hc (upd Hc Lc (.lst ([V.ref w1, V.ref w2, V.ref w3, V.ref w4] ++ [V.ref w5, V.ref w6]))) := new_same nLc
    have sC : Same H Hc := (((((((sB.trans r3).trans r4).trans r5).trans r6).trans ra).trans r7).trans r8).trans rb
    refine ⟨_, rfl, Lc, rfl, ⟨_, .inl (.inl upd_same)⟩, fun D3 nD3 => lc_true nD3 upd_same (by show 6 ≤ 1000; decide) (fun x hx H' R sm fin => ?_) (fun Hd sd hd => ⟨_, _, rfl, all_seq hd, by rw [all_bl]; exact go _ ((sC.trans rc).trans sd)⟩)⟩
    · have each : ∃ e, x = .ref e ∧ One K b "position" v 2 Hc e := by
        have k6 : Same H16 Hc := ((ra.trans r7).trans r8).trans rb
        simp only [List.cons_append, List.nil_append, List.mem_cons, List.not_mem_nil, or_false] at hx
        rcases hx with rfl | rfl | rfl | rfl | rfl | rfl
        · exact ⟨w1, rfl, z 4, q3.mono (((r4.trans r5).trans r6).trans k6), T.fz 4 (by decide), T.z4.nf⟩
        · exact ⟨w2, rfl, z 4, q4.mono ((r5.trans r6).trans k6), T.fz 4 (by decide), T.z4.nf⟩
        · exact ⟨w3, rfl, z 5, q5.mono (r6.trans k6), T.fz 5 (by decide), T.z5.nf⟩
        · exact ⟨w4, rfl, z 5, q6.mono k6, T.fz 5 (by decide), T.z5.nf⟩
        · exact ⟨w5, rfl, z 7, q7.mono (r8.trans rb), T.fz 7 (by decide), T.z7.nf⟩
        · exact ⟨w6, rfl, z 7, q8.mono rb, T.fz 7 (by decide), T.z7.nf⟩
      obtain ⟨e, rfl, C, o1, f1, nf1⟩ := each
      have k3 := rc.trans sm
      exact ⟨rfl, _, rfl, e, C, _, v, rfl, f1.T, nf1, o1.mono k3, rfl, _, rfl, rfl, ⟨vn, vd, hv.mono (sC.trans k3)⟩, true, rfl, _, rfl, e, C, 2, rfl, .inl ⟨_, o1.mono k3⟩, f1, fun p Hp sp tp => ⟨2, rfl, fun q Hq sq tq => ⟨p, q, 2, rfl, rfl, tp.mono sq, tq, fin _ (sp.trans sq)⟩⟩⟩
end
end E18

set_option Elab.async false
set_option linter.all false
set_option maxRecDepth 100000
set_option maxHeartbeats 8000000
namespace E18
open L2 PySem PySem.Spec PyProof.Rows
/-! ### lists of rows -/
/-- two rows of the same items -/
def Row (K : PySem.W.Frag) (H : Hp) (x y : V) : Prop := ∃ p q zs, x = .ref p ∧ y = .ref q ∧ SqL K H p zs ∧ SqL K H q zs ∧ ∀ z ∈ zs, Me z
def rRows (K : PySem.W.Frag) (b : Bool) : R2 := fun x y H Q => ∃ l m xs ys, x = .ref l ∧ y = .ref m ∧ SqL K H l xs ∧ SqL K H m ys ∧ Paired (Row K H) xs ys ∧ Q (.bl b) H
section
variable {X : Cx}
theorem op_eqRows (hu : X.A.units + 64 < cLine) : OpR X (compareOp .Eq) (rRows X.K true) := by
  intro pins s σ H x y v u Q I rx ry h
  obtain ⟨l, m, xs, ys, rfl, rfl, hl, hm, hp, q⟩ := h
  refine op_eqV hu pins s σ H _ _ v u Q I rx ry ⟨2, by decide, .inl ⟨l, m, xs, ys, rfl, rfl, hl, hm, Paired.wk hp fun a c r => ?_⟩, q⟩
  obtain ⟨p, q, zs, rfl, rfl, h1, h2, me⟩ := r
  exact .inr (.inr (.inl ⟨p, q, zs, zs, rfl, rfl, h1, h2, me_pair 0 me⟩))
theorem rows_at {A : Around} {pins : List (Addr × Obj)} {σ : L2.St} {H : Hp} {s : Shared} (I : Inv X pins σ H s) (hu : A.units < cLine) : ∀ {xs ys : List V} {us ws : List Value}, Paired (Row X.K H) xs ys → Vals xs us → Vals ys ws → ∀ j (h1 : j < us.length) (h2 : j < ws.length), SeqAt.EqAt A s us[j] ws[j] true
  | _, _, _, _, .nil, .nil, .nil, j, h1, _ => absurd h1 (Nat.not_lt_zero j)
  | _, _, _, _, .cons r _, .cons r1 _, .cons r2 _, 0, _, _ => by
    obtain ⟨p, q, zs, rfl, rfl, h1, h2, me⟩ := r
    cases r1
    cases r2
    obtain ⟨us, k1, p1, _⟩ := I.list h1
    obtain ⟨ws, k2, p2, _⟩ := I.list h2
    by_cases e : p = q
    · subst e
      exact SeqAt.EqAt.same _
    · have hsz : us.toArray.size = ws.toArray.size := by
        rw [List.size_toArray, List.size_toArray, ← k1.length, ← k2.length]
      have r := SeqAt.RcAt.lists (e := fun _ => true) p1.isList p2.isList hsz hu (fun j a1 a2 => by
        have z := me_at (A := A.in1) (s := s) me k1 k2 j (by simpa using a1) (by simpa using a2)
        simpa using z)
      have t : ((List.range us.toArray.size).all fun _ => true) = true := List.all_eq_true.mpr fun _ _ => rfl
      rw [t] at r
      exact SeqAt.EqAt.of_refs e r
  | _, _, _, _, .cons _ t, .cons _ t1, .cons _ t2, j + 1, h1, h2 => rows_at I hu t t1 t2 j (Nat.lt_of_succ_lt_succ h1) (Nat.lt_of_succ_lt_succ h2)
theorem op_neRows (hu : X.A.units + 64 < cLine) : OpR X (compareOp .NotEq) (rRows X.K false) := by
  intro pins s σ H x y v u Q I rx ry h
  obtain ⟨l, m, xs, ys, rfl, rfl, hl, hm, hp, q⟩ := h
  cases (show v = Value.ref l from rx)
  cases (show u = Value.ref m from ry)
  obtain ⟨us, r1, p1, _⟩ := I.list hl
  obtain ⟨ws, r2, p2, _⟩ := I.list hm
  have hsz : us.toArray.size = ws.toArray.size := by
    rw [List.size_toArray, List.size_toArray, ← r1.length, ← r2.length]
    exact paired_len hp
  refine SeqAt.RcNeAt.lists (e := fun _ => true) p1.isList p2.isList hsz (by omega) (fun j h1 h2 => ?_) _ _ _ _ ⟨.bl false, H, I, ?_, q⟩
  · have z := rows_at (A := X.A.in1) I (by show X.A.units + 1 < cLine; omega) hp r1 r2 j (by simpa using h1) (by simpa using h2)
    simpa using z
  · show Value.bool _ = Value.bool false
    simp
end
/-- at D stands a list of rows, the j-th with the items fz j -/
structure RowsAt (H : Hp) (D : Addr) (fz : Nat → List V) (ps : List Addr) : Prop where
  at_ : H D = some (.lst (ps.map V.ref))
  no : D ∉ ps
  row : ∀ j p, ps[j]? = some p → H p = some (.lst (fz j))
theorem RowsAt.mono {H H' : Hp} {D : Addr} {fz : Nat → List V} {ps : List Addr} (sm : Same H H') (h : RowsAt H D fz ps) : RowsAt H' D fz ps := ⟨sm _ _ h.at_, h.no, fun j p e => sm _ _ (h.row j p e)⟩
theorem RowsAt.grow {H H' : Hp} {D p : Addr} {fz : Nat → List V} {ps : List Addr} (h : RowsAt H D fz ps) (sm : Same H H') (np : H p = none) (hp : H' p = some (.lst (fz ps.length))) : RowsAt (upd H' D (.lst (ps.map V.ref ++ [.ref p]))) D fz (ps ++ [p]) := by
  have pD : p ≠ D := fun z => by
    rw [z, h.at_] at np
    cases np
  refine ⟨by rw [upd_same, List.map_append]; rfl, fun m => ?_, fun j q e => ?_⟩
  · rcases List.mem_append.mp m with m | m
    · exact h.no m
    · exact pD (List.mem_singleton.mp m).symm
  · by_cases lt : j < ps.length
    · rw [List.getElem?_append_left lt] at e
      have qD : q ≠ D := fun z => h.no (by rw [← z]; exact List.mem_of_getElem? e)
      rw [upd_ne qD]
      exact sm _ _ (h.row j q e)
    · rw [List.getElem?_append_right (Nat.le_of_not_lt lt)] at e
      have ej : j - ps.length = 0 := by
        have := (List.getElem?_eq_some_iff.mp e).1
        simp at this
        omega
      rw [ej] at e
      have eq : p = q := Option.some.inj e
      have ejl : j = ps.length := by omega
      rw [← eq, upd_ne pD, ejl]
      exact hp
/-- [row for x in xs] -/
theorem lc_rowsL {K : PySem.W.Frag} {a : Addr} {xs : List V} {g : TG} {te : TE} {vs : List Nat} {σ : L2.St} {H1 : Hp} {D : Addr} {Qd : Hp → Prop} (fz : Nat → List V) (nD : H1 D = none) (ha : H1 a = some (.lst xs)) (small : xs.length ≤ 1000)
    (turn : ∀ i x, xs[i]? = some x → ∀ (H' : Hp) (R : V → Hp → Prop), Same H1 H' → (∀ p H3, H' p = none → Same H' H3 → H3 p = some (.lst (fz i)) → R (.ref p) H3) → g x (wipe σ vs) H' fun σ2 H2 => wipe σ2 vs = wipe σ vs ∧ te σ2 H2 R)
    (done : ∀ H3 ps, Same H1 H3 → ps.length = xs.length → RowsAt H3 D fz ps → Qd H3) :
    ∃ W : Nat → Nat → Hp → Prop, (∃ m, W 0 m (upd H1 D (.lst []))) ∧ ∀ i m H, W i m H →
      ((Itl K a).stop i H ∧ Qd H) ∨ ((Itl K a).go i H ∧ ∃ Nx : Hp → Prop, (∀ H', Nx H' → ∃ m', m' < m ∧ W (i + 1) m' H') ∧ ∀ x H', (Itl K a).yld i H x H' → g x (wipe σ vs) H' fun σ2 H2 => wipe σ2 vs = wipe σ vs ∧ tYes σ2 H2 fun b H3 =>
        if b = true then te σ2 H3 fun y H4 => ∃ acc, H4 D = some (.lst acc) ∧ acc.length < sizeLine ∧ Nx (upd H4 D (.lst (acc ++ [y]))) else Nx H3) := by
  refine lc_list (K := K) (a := a) (xs := xs) (fun i H' => Same H1 H' ∧ ∃ ps : List Addr, ps.length = i ∧ RowsAt H' D fz ps) ⟨new_same nD, [], rfl, upd_same, List.not_mem_nil, fun j p e => by simp at e⟩ (fun i H' _ h => .inl (.inl (h.1 _ _ ha))) ?_ (fun H' h => ?_)
  · rintro i x H' hx ⟨sm, ps, hps, ok⟩
    have lt := (List.getElem?_eq_some_iff.mp hx).1
    exact turn i x hx H' (fun y H4 => ∃ acc, H4 D = some (.lst acc) ∧ acc.length < sizeLine ∧ (Same H1 (upd H4 D (.lst (acc ++ [y]))) ∧ ∃ ps : List Addr, ps.length = i + 1 ∧ RowsAt (upd H4 D (.lst (acc ++ [y]))) D fz ps)) sm fun p H3 np s3 hp => by
      refine ⟨_, s3 _ _ ok.at_, by rw [List.length_map, hps]; exact Nat.lt_of_lt_of_le (Nat.lt_of_lt_of_le lt small) (by decide), fun c u e => ?_, ps ++ [p], by rw [List.length_append, hps]; rfl, ok.grow s3 np (by rw [hps]; exact hp)⟩
      rw [upd_ne (ne_of_none e nD)]
      exact s3 _ _ (sm c u e)
  · obtain ⟨sm, ps, hps, ok⟩ := h
    exact done H' ps sm hps ok
/-- [row for i in range(n)] -/
theorem lc_rowsR {n : Nat} {g : TG} {te : TE} {vs : List Nat} {σ : L2.St} {H1 : Hp} {D : Addr} {Qd : Hp → Prop} (fz : Nat → List V) (nD : H1 D = none) (small : n ≤ 1000)
    (turn : ∀ i, i < n → ∀ (H' : Hp) (R : V → Hp → Prop), Same H1 H' → (∀ p H3, H' p = none → Same H' H3 → H3 p = some (.lst (fz i)) → R (.ref p) H3) → g (.int (0 + i)) (wipe σ vs) H' fun σ2 H2 => wipe σ2 vs = wipe σ vs ∧ te σ2 H2 R)
    (done : ∀ H3 ps, Same H1 H3 → ps.length = n → RowsAt H3 D fz ps → Qd H3) :
    ∃ W : Nat → Nat → Hp → Prop, (∃ m, W 0 m (upd H1 D (.lst []))) ∧ ∀ i m H, W i m H →
      ((Itr 0 n).stop i H ∧ Qd H) ∨ ((Itr 0 n).go i H ∧ ∃ Nx : Hp → Prop, (∀ H', Nx H' → ∃ m', m' < m ∧ W (i + 1) m' H') ∧ ∀ x H', (Itr 0 n).yld i H x H' → g x (wipe σ vs) H' fun σ2 H2 => wipe σ2 vs = wipe σ vs ∧ tYes σ2 H2 fun b H3 =>
        if b = true then te σ2 H3 fun y H4 => ∃ acc, H4 D = some (.lst acc) ∧ acc.length < sizeLine ∧ Nx (upd H4 D (.lst (acc ++ [y]))) else Nx H3) := by
  refine lc_range (lo := 0) (n := n) (fun i H' => Same H1 H' ∧ ∃ ps : List Addr, ps.length = i ∧ RowsAt H' D fz ps) ⟨new_same nD, [], rfl, upd_same, List.not_mem_nil, fun j p e => by simp at e⟩ ?_ (fun H' h => ?_)
  · rintro i H' lt ⟨sm, ps, hps, ok⟩
    exact turn i lt H' (fun y H4 => ∃ acc, H4 D = some (.lst acc) ∧ acc.length < sizeLine ∧ (Same H1 (upd H4 D (.lst (acc ++ [y]))) ∧ ∃ ps : List Addr, ps.length = i + 1 ∧ RowsAt (upd H4 D (.lst (acc ++ [y]))) D fz ps)) sm fun p H3 np s3 hp => by
      refine ⟨_, s3 _ _ ok.at_, by rw [List.length_map, hps]; exact Nat.lt_of_lt_of_le (Nat.lt_of_lt_of_le lt small) (by decide), fun c u e => ?_, ps ++ [p], by rw [List.length_append, hps]; rfl, ok.grow s3 np (by rw [hps]; exact hp)⟩
      rw [upd_ne (ne_of_none e nD)]
      exact s3 _ _ (sm c u e)
  · obtain ⟨sm, ps, hps, ok⟩ := h
    exact done H' ps sm hps ok
/-- the truths k = 0, 1, .. of the i-th -/
def bits (n i : Nat) : List V := (List.range n).map fun k => V.bl (decide (i = k))
theorem bits_me {n i : Nat} : ∀ z ∈ bits n i, Me z := fun z h => by
  obtain ⟨k, _, rfl⟩ := List.mem_map.mp h
  exact .inl rfl
theorem rows_pair {K : PySem.W.Frag} {H : Hp} {n D D' : Addr} {m : Nat} (me : ∀ j, ∀ z ∈ bits m j, Me z) : ∀ {ps qs : List Addr} (k : Nat), ps.length = qs.length → (∀ j p, ps[j]? = some p → H p = some (.lst (bits m (k + j)))) → (∀ j p, qs[j]? = some p → H p = some (.lst (bits m (k + j)))) → Paired (Row K H) (ps.map V.ref) (qs.map V.ref)
  | [], [], _, _, _, _ => .nil
  | [], _ :: _, _, h, _, _ => by simp at h
  | _ :: _, [], _, h, _, _ => by simp at h
  | p :: ps, q :: qs, k, h, h1, h2 => .cons ⟨p, q, _, rfl, rfl, .inl (.inl (h1 0 p rfl)), .inl (.inl (h2 0 q rfl)), me _⟩
      (rows_pair (n := n) (D := D) (D' := D') me (k + 1) (Nat.succ.inj h) (fun j p' e => by have := h1 (j + 1) p' e; rw [show k + (j + 1) = k + 1 + j by omega] at this; exact this) (fun j p' e => by have := h2 (j + 1) p' e; rw [show k + (j + 1) = k + 1 + j by omega] at this; exact this))
end E18

set_option Elab.async false
set_option linter.all false
set_option maxRecDepth 100000
set_option maxHeartbeats 8000000
namespace E18
open L2 PySem PySem.Spec PyProof.Rows
/-- of the i-th of n classes -/
def spKinds (c : Nat → Addr) (n : Nat) : Sp := fun vs H Q _ => ∃ (e : Addr) (i : Nat), vs = [.ref e] ∧ i < n ∧ Ob H e (c i) ∧ ∀ p H', H p = none → Same H H' → H' p = some (.lst (bits n i)) → Q (.ref p) H'
section
variable {P : Program} {w : World} {K : PySem.W.Frag} {mg : Str → Option Value} {base : Heap} {b c z : Nat → Addr} {cU cT : Addr} {f : Addr} {fd : FuncData}
theorem scKinds : FnScope ["_law_error", "_law_found"] ["_law_error"] (defScope sKinds) := ⟨rfl, rfl, rfl, by decide +kernel, rfl, by decide +kernel, by decide +kernel⟩
theorem ok_kinds (T : Top P w K mg base b c z cU cT) (F : Fun K "_law_kinds" "_law_kinds" sKinds f fd) : FnOk P w K mg base CX0 1 f fd ["_law_error"] (spKinds c 17) := by
  refine F.ok scKinds (fun vs H Q E h => ?_) (fun cdv A outer s H vs Q E hr h => ?_)
  · obtain ⟨e, i, rfl, _⟩ := h
    rfl
  · obtain ⟨e, i, rfl, hi, o, go⟩ := h
    have TT := (T.fa i hi).T
    refine ⟨_, pss_cons (ps_set (i := 1) scKinds.nd rfl (Or.inl rfl) (pe_lst (pa_cons (pe_callB call_iso rfl T.N.isi boot_isi (pa_cons (pv 0) (pa_cons (pgC rfl T.a0.gm) pa_nil))) (pa_cons (pe_callB call_iso rfl T.N.isi boot_isi (pa_cons (pv 0) (pa_cons (pgC rfl T.a1.gm) pa_nil))) (pa_cons (pe_callB call_iso rfl T.N.isi boot_isi (pa_cons (pv 0) (pa_cons (pgC rfl T.a2.gm) pa_nil))) pa_nil)))))
      (pss_cons (ps_set (i := 1) scKinds.nd rfl (Or.inl rfl) (pe_op op_cat (pv 1) (pe_lst (pa_cons (pe_callB call_iso rfl T.N.isi boot_isi (pa_cons (pv 0) (pa_cons (pgC rfl T.a3.gm) pa_nil))) (pa_cons (pe_callB call_iso rfl T.N.isi boot_isi (pa_cons (pv 0) (pa_cons (pgC rfl T.a4.gm) pa_nil))) pa_nil)))))
      (pss_cons (ps_set (i := 1) scKinds.nd rfl (Or.inl rfl) (pe_op op_cat (pv 1) (pe_lst (pa_cons (pe_callB call_iso rfl T.N.isi boot_isi (pa_cons (pv 0) (pa_cons (pgC rfl T.a5.gm) pa_nil))) (pa_cons (pe_callB call_iso rfl T.N.isi boot_isi (pa_cons (pv 0) (pa_cons (pgC rfl T.a6.gm) pa_nil))) pa_nil)))))
      (pss_cons (ps_set (i := 1) scKinds.nd rfl (Or.inl rfl) (pe_op op_cat (pv 1) (pe_lst (pa_cons (pe_callB call_iso rfl T.N.isi boot_isi (pa_cons (pv 0) (pa_cons (pgC rfl T.a7.gm) pa_nil))) (pa_cons (pe_callB call_iso rfl T.N.isi boot_isi (pa_cons (pv 0) (pa_cons (pgC rfl T.a8.gm) pa_nil))) pa_nil)))))
      (pss_cons (ps_set (i := 1) scKinds.nd rfl (Or.inl rfl) (pe_op op_cat (pv 1) (pe_lst (pa_cons (pe_callB call_iso rfl T.N.isi boot_isi (pa_cons (pv 0) (pa_cons (pgC rfl T.a9.gm) pa_nil))) (pa_cons (pe_callB call_iso rfl T.N.isi boot_isi (pa_cons (pv 0) (pa_cons (pgC rfl T.a10.gm) pa_nil))) pa_nil)))))
      (pss_cons (ps_set (i := 1) scKinds.nd rfl (Or.inl rfl) (pe_op op_cat (pv 1) (pe_lst (pa_cons (pe_callB call_iso rfl T.N.isi boot_isi (pa_cons (pv 0) (pa_cons (pgC rfl T.a11.gm) pa_nil))) (pa_cons (pe_callB call_iso rfl T.N.isi boot_isi (pa_cons (pv 0) (pa_cons (pgC rfl T.a12.gm) pa_nil))) pa_nil)))))
      (pss_cons (ps_set (i := 1) scKinds.nd rfl (Or.inl rfl) (pe_op op_cat (pv 1) (pe_lst (pa_cons (pe_callB call_iso rfl T.N.isi boot_isi (pa_cons (pv 0) (pa_cons (pgC rfl T.a13.gm) pa_nil))) (pa_cons (pe_callB call_iso rfl T.N.isi boot_isi (pa_cons (pv 0) (pa_cons (pgC rfl T.a14.gm) pa_nil))) pa_nil)))))
      (pss_one (ps_ret (pe_op op_cat (pv 1) (pe_lst (pa_cons (pe_callB call_iso rfl T.N.isi boot_isi (pa_cons (pv 0) (pa_cons (pgC rfl T.a15.gm) pa_nil))) (pa_cons (pe_callB call_iso rfl T.N.isi boot_isi (pa_cons (pv 0) (pa_cons (pgC rfl T.a16.gm) pa_nil))) pa_nil)))))))))))), ?_⟩
    refine ⟨_, rfl, e, c i, _, _, _, rfl, .own _, TT, o, T.ka i 0 hi (by decide), ⟨_, rfl, e, c i, _, _, _, rfl, .own _, TT, o, T.ka i 1 hi (by decide), ⟨_, rfl, e, c i, _, _, _, rfl, .own _, TT, o, T.ka i 2 hi (by decide), ⟨by show 3 ≤ sizeLine; decide, fun l0 nl0 => ?_⟩⟩⟩⟩
    have s0 := new_same (o := .lst [.bl (decide (i = 0)), .bl (decide (i = 1)), .bl (decide (i = 2))]) nl0
    have a0 : upd H l0 (.lst [.bl (decide (i = 0)), .bl (decide (i = 1)), .bl (decide (i = 2))]) l0 = _ := upd_same
    revert s0 a0
    generalize upd H l0 (.lst [.bl (decide (i = 0)), .bl (decide (i = 1)), .bl (decide (i = 2))]) = H0
    intro s0 a0
    refine ⟨_, rfl, ⟨_, rfl, e, c i, _, _, _, rfl, .own _, TT, (o.mono s0), T.ka i 3 hi (by decide), ⟨_, rfl, e, c i, _, _, _, rfl, .own _, TT, (o.mono s0), T.ka i 4 hi (by decide), ⟨by show 2 ≤ sizeLine; decide, fun q1 nq1 => ⟨l0, q1, _, _, rfl, rfl, (upd_ne (ne_of_none a0 nq1)).trans a0, upd_same, by show 3 + 2 ≤ sizeLine; decide, fun l1 nl1 => ?_⟩⟩⟩⟩⟩
    have s1 := (s0.trans (new_same nq1)).trans (new_same (o := .lst [.bl (decide (i = 0)), .bl (decide (i = 1)), .bl (decide (i = 2)), .bl (decide (i = 3)), .bl (decide (i = 4))]) nl1)
    have a1 : upd (upd H0 q1 (.lst [.bl (decide (i = 3)), .bl (decide (i = 4))])) l1 (.lst [.bl (decide (i = 0)), .bl (decide (i = 1)), .bl (decide (i = 2)), .bl (decide (i = 3)), .bl (decide (i = 4))]) l1 = _ := upd_same
    show (fun H' : Hp => _) (upd (upd H0 q1 (.lst [.bl (decide (i = 3)), .bl (decide (i = 4))])) l1 (.lst [.bl (decide (i = 0)), .bl (decide (i = 1)), .bl (decide (i = 2)), .bl (decide (i = 3)), .bl (decide (i = 4))]))
    revert s1 a1
    generalize upd (upd H0 q1 (.lst [.bl (decide (i = 3)), .bl (decide (i = 4))])) l1 (.lst [.bl (decide (i = 0)), .bl (decide (i = 1)), .bl (decide (i = 2)), .bl (decide (i = 3)), .bl (decide (i = 4))]) = H1
    intro s1 a1
    refine ⟨_, rfl, ⟨_, rfl, e, c i, _, _, _, rfl, .own _, TT, (o.mono s1), T.ka i 5 hi (by decide), ⟨_, rfl, e, c i, _, _, _, rfl, .own _, TT, (o.mono s1), T.ka i 6 hi (by decide), ⟨by show 2 ≤ sizeLine; decide, fun q2 nq2 => ⟨l1, q2, _, _, rfl, rfl, (upd_ne (ne_of_none a1 nq2)).trans a1, upd_same, by show 5 + 2 ≤ sizeLine; decide, fun l2 nl2 => ?_⟩⟩⟩⟩⟩
    have s2 := (s1.trans (new_same nq2)).trans (new_same (o := .lst [.bl (decide (i = 0)), .bl (decide (i = 1)), .bl (decide (i = 2)), .bl (decide (i = 3)), .bl (decide (i = 4)), .bl (decide (i = 5)), .bl (decide (i = 6))]) nl2)
    have a2 : upd (upd H1 q2 (.lst [.bl (decide (i = 5)), .bl (decide (i = 6))])) l2 (.lst [.bl (decide (i = 0)), .bl (decide (i = 1)), .bl (decide (i = 2)), .bl (decide (i = 3)), .bl (decide (i = 4)), .bl (decide (i = 5)), .bl (decide (i = 6))]) l2 = _ := upd_same
    show (fun H' : Hp => _) (upd (upd H1 q2 (.lst [.bl (decide (i = 5)), .bl (decide (i = 6))])) l2 (.lst [.bl (decide (i = 0)), .bl (decide (i = 1)), .bl (decide (i = 2)), .bl (decide (i = 3)), .bl (decide (i = 4)), .bl (decide (i = 5)), .bl (decide (i = 6))]))
    revert s2 a2
    generalize upd (upd H1 q2 (.lst [.bl (decide (i = 5)), .bl (decide (i = 6))])) l2 (.lst [.bl (decide (i = 0)), .bl (decide (i = 1)), .bl (decide (i = 2)), .bl (decide (i = 3)), .bl (decide (i = 4)), .bl (decide (i = 5)), .bl (decide (i = 6))]) = H2
    intro s2 a2
    refine ⟨_, rfl, ⟨_, rfl, e, c i, _, _, _, rfl, .own _, TT, (o.mono s2), T.ka i 7 hi (by decide), ⟨_, rfl, e, c i, _, _, _, rfl, .own _, TT, (o.mono s2), T.ka i 8 hi (by decide), ⟨by show 2 ≤ sizeLine; decide, fun q3 nq3 => ⟨l2, q3, _, _, rfl, rfl, (upd_ne (ne_of_none a2 nq3)).trans a2, upd_same, by show 7 + 2 ≤ sizeLine; decide, fun l3 nl3 => ?_⟩⟩⟩⟩⟩
    have s3 := (s2.trans (new_same nq3)).trans (new_same (o := .lst [.bl (decide (i = 0)), .bl (decide (i = 1)), .bl (decide (i = 2)), .bl (decide (i = 3)), .bl (decide (i = 4)), .bl (decide (i = 5)), .bl (decide (i = 6)), .bl (decide (i = 7)), .bl (decide (i = 8))]) nl3)
    have a3 : upd (upd H2 q3 (.lst [.bl (decide (i = 7)), .bl (decide (i = 8))])) l3 (.lst [.bl (decide (i = 0)), .bl (decide (i = 1)), .bl (decide (i = 2)), .bl (decide (i = 3)), .bl (decide (i = 4)), .bl (decide (i = 5)), .bl (decide (i = 6)), .bl (decide (i = 7)), .bl (decide (i = 8))]) l3 = _ := upd_same
    show (fun H' : Hp => _) (upd (upd H2 q3 (.lst [.bl (decide (i = 7)), .bl (decide (i = 8))])) l3 (.lst [.bl (decide (i = 0)), .bl (decide (i = 1)), .bl (decide (i = 2)), .bl (decide (i = 3)), .bl (decide (i = 4)), .bl (decide (i = 5)), .bl (decide (i = 6)), .bl (decide (i = 7)), .bl (decide (i = 8))]))
    revert s3 a3
    generalize upd (upd H2 q3 (.lst [.bl (decide (i = 7)), .bl (decide (i = 8))])) l3 (.lst [.bl (decide (i = 0)), .bl (decide (i = 1)), .bl (decide (i = 2)), .bl (decide (i = 3)), .bl (decide (i = 4)), .bl (decide (i = 5)), .bl (decide (i = 6)), .bl (decide (i = 7)), .bl (decide (i = 8))]) = H3
    intro s3 a3
    refine ⟨_, rfl, ⟨_, rfl, e, c i, _, _, _, rfl, .own _, TT, (o.mono s3), T.ka i 9 hi (by decide), ⟨_, rfl, e, c i, _, _, _, rfl, .own _, TT, (o.mono s3), T.ka i 10 hi (by decide), ⟨by show 2 ≤ sizeLine; decide, fun q4 nq4 => ⟨l3, q4, _, _, rfl, rfl, (upd_ne (ne_of_none a3 nq4)).trans a3, upd_same, by show 9 + 2 ≤ sizeLine; decide, fun l4 nl4 => ?_⟩⟩⟩⟩⟩
    have s4 := (s3.trans (new_same nq4)).trans (new_same (o := .lst [.bl (decide (i = 0)), .bl (decide (i = 1)), .bl (decide (i = 2)), .bl (decide (i = 3)), .bl (decide (i = 4)), .bl (decide (i = 5)), .bl (decide (i = 6)), .bl (decide (i = 7)), .bl (decide (i = 8)), .bl (decide (i = 9)), .bl (decide (i = 10))]) nl4)
    have a4 : upd (upd H3 q4 (.lst [.bl (decide (i = 9)), .bl (decide (i = 10))])) l4 (.lst [.bl (decide (i = 0)), .bl (decide (i = 1)), .bl (decide (i = 2)), .bl (decide (i = 3)), .bl (decide (i = 4)), .bl (decide (i = 5)), .bl (decide (i = 6)), .bl (decide (i = 7)), .bl (decide (i = 8)), .bl (decide (i = 9)), .bl (decide (i = 10))]) l4 = _ := upd_same
    show (fun H' : Hp => _) (upd (upd H3 q4 (.lst [.bl (decide (i = 9)), .bl (decide (i = 10))])) l4 (.lst [.bl (decide (i = 0)), .bl (decide (i = 1)), .bl (decide (i = 2)), .bl (decide (i = 3)), .bl (decide (i = 4)), .bl (decide (i = 5)), .bl (decide (i = 6)), .bl (decide (i = 7)), .bl (decide (i = 8)), .bl (decide (i = 9)), .bl (decide (i = 10))]))
    revert s4 a4
    generalize upd (upd H3 q4 (.lst [.bl (decide (i = 9)), .bl (decide (i = 10))])) l4 (.lst [.bl (decide (i = 0)), .bl (decide (i = 1)), .bl (decide (i = 2)), .bl (decide (i = 3)), .bl (decide (i = 4)), .bl (decide (i = 5)), .bl (decide (i = 6)), .bl (decide (i = 7)), .bl (decide (i = 8)), .bl (decide (i = 9)), .bl (decide (i = 10))]) = H4
    intro s4 a4
    refine ⟨_, rfl, ⟨_, rfl, e, c i, _, _, _, rfl, .own _, TT, (o.mono s4), T.ka i 11 hi (by decide), ⟨_, rfl, e, c i, _, _, _, rfl, .own _, TT, (o.mono s4), T.ka i 12 hi (by decide), ⟨by show 2 ≤ sizeLine; decide, fun q5 nq5 => ⟨l4, q5, _, _, rfl, rfl, (upd_ne (ne_of_none a4 nq5)).trans a4, upd_same, by show 11 + 2 ≤ sizeLine; decide, fun l5 nl5 => ?_⟩⟩⟩⟩⟩
    have s5 := (s4.trans (new_same nq5)).trans (new_same (o := .lst [.bl (decide (i = 0)), .bl (decide (i = 1)), .bl (decide (i = 2)), .bl (decide (i = 3)), .bl (decide (i = 4)), .bl (decide (i = 5)), .bl (decide (i = 6)), .bl (decide (i = 7)), .bl (decide (i = 8)), .bl (decide (i = 9)), .bl (decide (i = 10)), .bl (decide (i = 11)), .bl (decide (i = 12))]) nl5)
    have a5 : upd (upd H4 q5 (.lst [.bl (decide (i = 11)), .bl (decide (i = 12))])) l5 (.lst [.bl (decide (i = 0)), .bl (decide (i = 1)), .bl (decide (i = 2)), .bl (decide (i = 3)), .bl (decide (i = 4)), .bl (decide (i = 5)), .bl (decide (i = 6)), .bl (decide (i = 7)), .bl (decide (i = 8)), .bl (decide (i = 9)), .bl (decide (i = 10)), .bl (decide (i = 11)), .bl (decide (i = 12))]) l5 = _ := upd_same
    show (fun H' : Hp => _) (upd (upd H4 q5 (.lst [.bl (decide (i = 11)), .bl (decide (i = 12))])) l5 (.lst [.bl (decide (i = 0)), .bl (decide (i = 1)), .bl (decide (i = 2)), .bl (decide (i = 3)), .bl (decide (i = 4)), .bl (decide (i = 5)), .bl (decide (i = 6)), .bl (decide (i = 7)), .bl (decide (i = 8)), .bl (decide (i = 9)), .bl (decide (i = 10)), .bl (decide (i = 11)), .bl (decide (i = 12))]))
    revert s5 a5
    generalize upd (upd H4 q5 (.lst [.bl (decide (i = 11)), .bl (decide (i = 12))])) l5 (.lst [.bl (decide (i = 0)), .bl (decide (i = 1)), .bl (decide (i = 2)), .bl (decide (i = 3)), .bl (decide (i = 4)), .bl (decide (i = 5)), .bl (decide (i = 6)), .bl (decide (i = 7)), .bl (decide (i = 8)), .bl (decide (i = 9)), .bl (decide (i = 10)), .bl (decide (i = 11)), .bl (decide (i = 12))]) = H5
    intro s5 a5
    refine ⟨_, rfl, ⟨_, rfl, e, c i, _, _, _, rfl, .own _, TT, (o.mono s5), T.ka i 13 hi (by decide), ⟨_, rfl, e, c i, _, _, _, rfl, .own _, TT, (o.mono s5), T.ka i 14 hi (by decide), ⟨by show 2 ≤ sizeLine; decide, fun q6 nq6 => ⟨l5, q6, _, _, rfl, rfl, (upd_ne (ne_of_none a5 nq6)).trans a5, upd_same, by show 13 + 2 ≤ sizeLine; decide, fun l6 nl6 => ?_⟩⟩⟩⟩⟩
    have s6 := (s5.trans (new_same nq6)).trans (new_same (o := .lst [.bl (decide (i = 0)), .bl (decide (i = 1)), .bl (decide (i = 2)), .bl (decide (i = 3)), .bl (decide (i = 4)), .bl (decide (i = 5)), .bl (decide (i = 6)), .bl (decide (i = 7)), .bl (decide (i = 8)), .bl (decide (i = 9)), .bl (decide (i = 10)), .bl (decide (i = 11)), .bl (decide (i = 12)), .bl (decide (i = 13)), .bl (decide (i = 14))]) nl6)
    have a6 : upd (upd H5 q6 (.lst [.bl (decide (i = 13)), .bl (decide (i = 14))])) l6 (.lst [.bl (decide (i = 0)), .bl (decide (i = 1)), .bl (decide (i = 2)), .bl (decide (i = 3)), .bl (decide (i = 4)), .bl (decide (i = 5)), .bl (decide (i = 6)), .bl (decide (i = 7)), .bl (decide (i = 8)), .bl (decide (i = 9)), .bl (decide (i = 10)), .bl (decide (i = 11)), .bl (decide (i = 12)), .bl (decide (i = 13)), .bl (decide (i = 14))]) l6 = _ := upd_same
    show (fun H' : Hp => _) (upd (upd H5 q6 (.lst [.bl (decide (i = 13)), .bl (decide (i = 14))])) l6 (.lst [.bl (decide (i = 0)), .bl (decide (i = 1)), .bl (decide (i = 2)), .bl (decide (i = 3)), .bl (decide (i = 4)), .bl (decide (i = 5)), .bl (decide (i = 6)), .bl (decide (i = 7)), .bl (decide (i = 8)), .bl (decide (i = 9)), .bl (decide (i = 10)), .bl (decide (i = 11)), .bl (decide (i = 12)), .bl (decide (i = 13)), .bl (decide (i = 14))]))
    revert s6 a6
    generalize upd (upd H5 q6 (.lst [.bl (decide (i = 13)), .bl (decide (i = 14))])) l6 (.lst [.bl (decide (i = 0)), .bl (decide (i = 1)), .bl (decide (i = 2)), .bl (decide (i = 3)), .bl (decide (i = 4)), .bl (decide (i = 5)), .bl (decide (i = 6)), .bl (decide (i = 7)), .bl (decide (i = 8)), .bl (decide (i = 9)), .bl (decide (i = 10)), .bl (decide (i = 11)), .bl (decide (i = 12)), .bl (decide (i = 13)), .bl (decide (i = 14))]) = H6
    intro s6 a6
    refine ⟨_, rfl, ⟨_, rfl, e, c i, _, _, _, rfl, .own _, TT, (o.mono s6), T.ka i 15 hi (by decide), ⟨_, rfl, e, c i, _, _, _, rfl, .own _, TT, (o.mono s6), T.ka i 16 hi (by decide), ⟨by show 2 ≤ sizeLine; decide, fun q7 nq7 => ⟨l6, q7, _, _, rfl, rfl, (upd_ne (ne_of_none a6 nq7)).trans a6, upd_same, by show 15 + 2 ≤ sizeLine; decide, fun l7 nl7 => ?_⟩⟩⟩⟩⟩
    exact go l7 _ ((s6.trans (new_same nq7)).free nl7) ((s6.trans (new_same nq7)).trans (new_same nl7)) upd_same
theorem scStates : FnScope ["_law_error", "_law_found"] ["_law_error"] (defScope sStates) := ⟨rfl, rfl, rfl, by decide +kernel, rfl, by decide +kernel, by decide +kernel⟩
theorem ok_states (T : Top P w K mg base b c z cU cT) (F : Fun K "_law_states" "_law_states" sStates f fd) : FnOk P w K mg base CX0 1 f fd ["_law_error"] (spKinds z 8) := by
  refine F.ok scStates (fun vs H Q E h => ?_) (fun cdv A outer s H vs Q E hr h => ?_)
  · obtain ⟨e, i, rfl, _⟩ := h
    rfl
  · obtain ⟨e, i, rfl, hi, o, go⟩ := h
    have TT := (T.fz i hi).T
    refine ⟨_, pss_cons (ps_set (i := 1) scStates.nd rfl (Or.inl rfl) (pe_lst (pa_cons (pe_callB call_iso rfl T.N.isi boot_isi (pa_cons (pv 0) (pa_cons (pgC rfl T.z0.gm) pa_nil))) (pa_cons (pe_callB call_iso rfl T.N.isi boot_isi (pa_cons (pv 0) (pa_cons (pgC rfl T.z1.gm) pa_nil))) (pa_cons (pe_callB call_iso rfl T.N.isi boot_isi (pa_cons (pv 0) (pa_cons (pgC rfl T.z2.gm) pa_nil))) pa_nil)))))
      (pss_cons (ps_set (i := 1) scStates.nd rfl (Or.inl rfl) (pe_op op_cat (pv 1) (pe_lst (pa_cons (pe_callB call_iso rfl T.N.isi boot_isi (pa_cons (pv 0) (pa_cons (pgC rfl T.z3.gm) pa_nil))) (pa_cons (pe_callB call_iso rfl T.N.isi boot_isi (pa_cons (pv 0) (pa_cons (pgC rfl T.z4.gm) pa_nil))) (pa_cons (pe_callB call_iso rfl T.N.isi boot_isi (pa_cons (pv 0) (pa_cons (pgC rfl T.z5.gm) pa_nil))) pa_nil))))))
      (pss_one (ps_ret (pe_op op_cat (pv 1) (pe_lst (pa_cons (pe_callB call_iso rfl T.N.isi boot_isi (pa_cons (pv 0) (pa_cons (pgC rfl T.z6.gm) pa_nil))) (pa_cons (pe_callB call_iso rfl T.N.isi boot_isi (pa_cons (pv 0) (pa_cons (pgC rfl T.z7.gm) pa_nil))) pa_nil))))))), ?_⟩
    refine ⟨_, rfl, e, z i, _, _, _, rfl, .own _, TT, o, T.kz i 0 hi (by decide), ⟨_, rfl, e, z i, _, _, _, rfl, .own _, TT, o, T.kz i 1 hi (by decide), ⟨_, rfl, e, z i, _, _, _, rfl, .own _, TT, o, T.kz i 2 hi (by decide), ⟨by show 3 ≤ sizeLine; decide, fun l0 nl0 => ?_⟩⟩⟩⟩
    have s0 := new_same (o := .lst [.bl (decide (i = 0)), .bl (decide (i = 1)), .bl (decide (i = 2))]) nl0
    have a0 : upd H l0 (.lst [.bl (decide (i = 0)), .bl (decide (i = 1)), .bl (decide (i = 2))]) l0 = _ := upd_same
    revert s0 a0
    generalize upd H l0 (.lst [.bl (decide (i = 0)), .bl (decide (i = 1)), .bl (decide (i = 2))]) = H0
    intro s0 a0
    refine ⟨_, rfl, ⟨_, rfl, e, z i, _, _, _, rfl, .own _, TT, (o.mono s0), T.kz i 3 hi (by decide), ⟨_, rfl, e, z i, _, _, _, rfl, .own _, TT, (o.mono s0), T.kz i 4 hi (by decide), ⟨_, rfl, e, z i, _, _, _, rfl, .own _, TT, (o.mono s0), T.kz i 5 hi (by decide), ⟨by show 3 ≤ sizeLine; decide, fun q1 nq1 => ⟨l0, q1, _, _, rfl, rfl, (upd_ne (ne_of_none a0 nq1)).trans a0, upd_same, by show 3 + 3 ≤ sizeLine; decide, fun l1 nl1 => ?_⟩⟩⟩⟩⟩⟩
    have s1 := (s0.trans (new_same nq1)).trans (new_same (o := .lst [.bl (decide (i = 0)), .bl (decide (i = 1)), .bl (decide (i = 2)), .bl (decide (i = 3)), .bl (decide (i = 4)), .bl (decide (i = 5))]) nl1)
    have a1 : upd (upd H0 q1 (.lst [.bl (decide (i = 3)), .bl (decide (i = 4)), .bl (decide (i = 5))])) l1 (.lst [.bl (decide (i = 0)), .bl (decide (i = 1)), .bl (decide (i = 2)), .bl (decide (i = 3)), .bl (decide (i = 4)), .bl (decide (i = 5))]) l1 = _ := upd_same
    show (fun H' : Hp => _) (upd (upd H0 q1 (.lst [.bl (decide (i = 3)), .bl (decide (i = 4)), .bl (decide (i = 5))])) l1 (.lst [.bl (decide (i = 0)), .bl (decide (i = 1)), .bl (decide (i = 2)), .bl (decide (i = 3)), .bl (decide (i = 4)), .bl (decide (i = 5))]))
    revert s1 a1
    generalize upd (upd H0 q1 (.lst [.bl (decide (i = 3)), .bl (decide (i = 4)), .bl (decide (i = 5))])) l1 (.lst [.bl (decide (i = 0)), .bl (decide (i = 1)), .bl (decide (i = 2)), .bl (decide (i = 3)), .bl (decide (i = 4)), .bl (decide (i = 5))]) = H1
    intro s1 a1
    refine ⟨_, rfl, ⟨_, rfl, e, z i, _, _, _, rfl, .own _, TT, (o.mono s1), T.kz i 6 hi (by decide), ⟨_, rfl, e, z i, _, _, _, rfl, .own _, TT, (o.mono s1), T.kz i 7 hi (by decide), ⟨by show 2 ≤ sizeLine; decide, fun q2 nq2 => ⟨l1, q2, _, _, rfl, rfl, (upd_ne (ne_of_none a1 nq2)).trans a1, upd_same, by show 6 + 2 ≤ sizeLine; decide, fun l2 nl2 => ?_⟩⟩⟩⟩⟩
    exact go l2 _ ((s1.trans (new_same nq2)).free nl2) ((s1.trans (new_same nq2)).trans (new_same nl2)) upd_same
end
end E18

set_option Elab.async false
set_option linter.all false
set_option maxRecDepth 100000
set_option maxHeartbeats 8000000
namespace E18
open L2 PySem PySem.Spec PyProof.Rows
/-- from k on, the items are errors of the classes c k, c (k + 1), .. -/
def Idx (c : Nat → Addr) (H : Hp) : Nat → List V → Prop
  | _, [] => True
  | k, x :: xs => (∃ e, x = .ref e ∧ Ob H e (c k)) ∧ Idx c H (k + 1) xs
theorem Idx.get {c : Nat → Addr} {H : Hp} : ∀ {xs : List V} {k i : Nat} {x : V}, Idx c H k xs → xs[i]? = some x → ∃ e, x = .ref e ∧ Ob H e (c (k + i))
  | [], _, _, _, _, h => by simp at h
  | _ :: _, k, 0, _, h, e => by
    obtain ⟨⟨a, rfl, o⟩, _⟩ := h
    exact ⟨a, (Option.some.inj e).symm, o⟩
  | _ :: _, k, i + 1, _, h, e => by
    obtain ⟨a, e1, o⟩ := Idx.get h.2 (show _ from e)
    exact ⟨a, e1, by rw [show k + (i + 1) = k + 1 + i by omega]; exact o⟩
section
variable {P : Program} {w : World} {K : PySem.W.Frag} {mg : Str → Option Value} {base : Heap} {b c z : Nat → Addr} {cU cT : Addr} {f : Addr} {fd : FuncData}
theorem scApart : FnScope ["_law_thing", "_law_found", "_law_state", "_law_error", "_law_at", "_law_k"] ["_law_thing"] (defScope sApart) := ⟨rfl, rfl, rfl, by decide +kernel, rfl, by decide +kernel, by decide +kernel⟩
/-- the truths at == k, row by row -/
theorem grid {H1 : Hp} {D : Addr} {n : Nat} {σ : L2.St} {Qd : Hp → Prop} {m : Int} (hm : m = (n : Int)) (small : n ≤ 1000) (nD : H1 D = none) (hσ : σ.length = 6)
    (done : ∀ H3 ps, Same H1 H3 → ps.length = n → RowsAt H3 D (bits n) ps → Qd H3) :
    ∃ W : Nat → Nat → Hp → Prop, (∃ m, W 0 m (upd H1 D (.lst []))) ∧ ∀ i m' H, W i m' H →
      ((Itr 0 n).stop i H ∧ Qd H) ∨ ((Itr 0 n).go i H ∧ ∃ Nx : Hp → Prop, (∀ H', Nx H' → ∃ m2, m2 < m' ∧ W (i + 1) m2 H') ∧ ∀ x H', (Itr 0 n).yld i H x H' → gName 4 x (wipe σ [4]) H' fun σ2 H2 => wipe σ2 [4] = wipe σ [4] ∧ tYes σ2 H2 fun b H3 =>
        if b = true then (tLc (iRng1 (tCons (tC (.int m)) tNil)) (gName 5) tYes (tOp rEq (tVar 4) (tVar 5)) [5]) σ2 H3 fun y H4 => ∃ acc, H4 D = some (.lst acc) ∧ acc.length < sizeLine ∧ Nx (upd H4 D (.lst (acc ++ [y]))) else Nx H3) := by
  subst hm
  refine lc_rowsR (bits n) nD small (fun i hi H' R sm fin => ⟨?_, n, rfl, by omega, by omega, fun p np => ?_⟩) done
  · show ((σ.set 4 none).set 4 (some (.int (0 + i)))).set 4 none = σ.set 4 none
    rw [List.set_set, List.set_set]
  · refine lc_range (lo := 0) (n := n) (fun k H'' => Same H' H'' ∧ H'' p = some (.lst (bits k i))) ⟨new_same np, upd_same⟩ ?_ (fun H'' h => fin p H'' np h.1 h.2)
    rintro k H'' hk ⟨s2, hp⟩
    refine ⟨?_, .int (0 + i), ?_, .int (0 + k), ?_, rfl, _, hp, by unfold bits; rw [List.length_map, List.length_range]; exact Nat.lt_of_lt_of_le (Nat.lt_of_lt_of_le hk small) (by decide), fun c u e => ?_, ?_⟩
    · show ((((σ.set 4 none).set 4 (some (.int (0 + i)))).set 5 none).set 5 (some (.int (0 + k)))).set 5 none = ((σ.set 4 none).set 4 (some (.int (0 + i)))).set 5 none
      rw [List.set_set, List.set_set]
    · show ((((σ.set 4 none).set 4 (some (.int (0 + i)))).set 5 none).set 5 (some (.int (0 + k))))[4]? = _
      rw [List.getElem?_set_ne (by decide), List.getElem?_set_ne (by decide), List.getElem?_set_self (by rw [List.length_set, hσ]; decide)]
    · show ((((σ.set 4 none).set 4 (some (.int (0 + i)))).set 5 none).set 5 (some (.int (0 + k))))[5]? = _
      rw [List.getElem?_set_self (by rw [List.length_set, List.length_set, List.length_set, hσ]; decide)]
    · rw [upd_ne (ne_of_none e np)]
      exact s2 c u e
    · rw [upd_same]
      unfold bits
      rw [List.range_succ, List.map_append]
      have e : decide (V.int (0 + (i : Int)) = V.int (0 + (k : Int))) = decide (i = k) := by
        rw [Bool.eq_iff_iff]
        simp only [decide_eq_true_eq, V.int.injEq]
        omega
      rw [e]
      rfl
theorem ok_apart (T : Top P w K mg base b c z cU cT) (DK : Def P w K mg base "_law_kinds" ["_law_error"] 1 (spKinds c 17)) (DS : Def P w K mg base "_law_states" ["_law_error"] 1 (spKinds z 8))
    (F : Fun K "_law_apart_right" "_law_apart_right" sApart f fd) : FnOk P w K mg base CX0 4 f fd ["_law_thing"] spThing := by
  refine F.ok scApart (fun vs H Q E h => ?_) (fun cdv A outer s H vs Q E hr h => ?_)
  · obtain ⟨v, rfl, _⟩ := h
    rfl
  · obtain ⟨v, rfl, ⟨vn, vd, hv⟩, go⟩ := h
    refine ⟨_, pss_cons (ps_set (i := 1) scApart.nd rfl (Or.inl rfl) (pe_lst (pa_cons (mk1 T.a0 (hr.mono (by decide)) rfl (pv 0)) (pa_cons (mk1 T.a1 (hr.mono (by decide)) rfl (pv 0)) (pa_cons (mk1 T.a2 (hr.mono (by decide)) rfl (pv 0)) (pa_cons (mk1 T.a3 (hr.mono (by decide)) rfl (pv 0)) (pa_cons (mk1 T.a4 (hr.mono (by decide)) rfl (pv 0)) pa_nil)))))))
      (pss_cons (ps_set (i := 1) scApart.nd rfl (Or.inl rfl) (pe_op op_cat (pv 1) (pe_lst (pa_cons (mk1 T.a5 (hr.mono (by decide)) rfl (pv 0)) (pa_cons (mk1 T.a6 (hr.mono (by decide)) rfl (pv 0)) (pa_cons (mk1 T.a7 (hr.mono (by decide)) rfl (pv 0)) (pa_cons (mk1 T.a8 (hr.mono (by decide)) rfl (pv 0)) pa_nil)))))))
      (pss_cons (ps_set (i := 1) scApart.nd rfl (Or.inl rfl) (pe_op op_cat (pv 1) (pe_lst (pa_cons (mk1 T.a9 (hr.mono (by decide)) rfl (pv 0)) (pa_cons (mk1 T.a10 (hr.mono (by decide)) rfl (pv 0)) (pa_cons (mk1 T.a11 (hr.mono (by decide)) rfl (pv 0)) (pa_cons (mk1 T.a12 (hr.mono (by decide)) rfl (pv 0)) pa_nil)))))))
      (pss_cons (ps_set (i := 1) scApart.nd rfl (Or.inl rfl) (pe_op op_cat (pv 1) (pe_lst (pa_cons (mk1 T.a13 (hr.mono (by decide)) rfl (pv 0)) (pa_cons (mk1 T.a14 (hr.mono (by decide)) rfl (pv 0)) (pa_cons (mk1 T.a15 (hr.mono (by decide)) rfl (pv 0)) (pa_cons (mk1 T.a16 (hr.mono (by decide)) rfl (pv 0)) pa_nil)))))))
      (pss_cons (ps_if (pt_cmpR (op_neRows hr.units) (pe_lc (own := [("_law_error", 3)]) (g := gName 3) (tt := tYes) (te := tCall (spKinds c 17) [] E0 (tCons (tVar 3) tNil)) (by rfl) scApart.nd (pi_list (pv 1))
        (blkOk_by (own := [("_law_error", 3)]) (N := ["_law_thing", "_law_found", "_law_state", "_law_error", "_law_at", "_law_k"]) (sc := defScope sApart) (by decide +kernel)) (fun _ _ _ _ _ => pg_name (i := 3) scApart.nd rfl (Or.inl rfl)) (fun _ _ _ _ _ => pts_nil)
        (fun _ _ _ _ _ => call1 DK (hr.mono (by decide)) rfl (pv 3))) (pe_lc (own := [("_law_at", 4)]) (g := gName 4) (tt := tYes) (te := tLc (iRng1 (tCons (tC (.int 17)) tNil)) (gName 5) tYes (tOp rEq (tVar 4) (tVar 5)) [5]) (by rfl) scApart.nd (pi_range1 rfl T.N.rng (pa_cons pe_int pa_nil))
        (blkOk_by (own := [("_law_at", 4)]) (N := ["_law_thing", "_law_found", "_law_state", "_law_error", "_law_at", "_law_k"]) (sc := defScope sApart) (by decide +kernel)) (fun _ _ _ _ _ => pg_name (i := 4) scApart.nd rfl (Or.inr rfl)) (fun _ _ _ _ _ => pts_nil)
        (fun _ _ _ _ _ => (pe_lc (own := [("_law_k", 5)]) (g := gName 5) (tt := tYes) (te := tOp rEq (tVar 4) (tVar 5)) (by rfl) scApart.nd (pi_range1 rfl T.N.rng (pa_cons pe_int pa_nil))
        (blkOk_by (own := [("_law_k", 5)]) (N := ["_law_thing", "_law_found", "_law_state", "_law_error", "_law_at", "_law_k"]) (sc := relS { kind := .function, names := [(".0", .local), ("_law_at", .cell), ("range", .globalImplicit)], isGenerator := false, isCoroutine := false } (defScope sApart)) (by decide +kernel)) (fun _ _ _ _ _ => pg_name (i := 5) scApart.nd rfl (Or.inl rfl)) (fun _ _ _ _ _ => pts_nil)
        (fun _ _ _ _ _ => pe_cmpR op_eq (pv 4) (pv 5) (nomark _))))) (nomark _)) (pss_one (ps_ret pe_bl)) pss_nil)
      (pss_cons (ps_set (i := 2) scApart.nd rfl (Or.inl rfl) (pe_lst (pa_cons (mk1 T.z0 (hr.mono (by decide)) rfl (pv 0)) (pa_cons (mk1 T.z1 (hr.mono (by decide)) rfl (pv 0)) (pa_cons (mk2 T.z2 (hr.mono (by decide)) rfl (pv 0) (pv 0)) (pa_cons (mk0 T.z3 (hr.mono (by decide)) rfl) (pa_cons (mk1 T.z4 (hr.mono (by decide)) rfl (pv 0)) (pa_cons (mk1 T.z5 (hr.mono (by decide)) rfl (pv 0)) pa_nil))))))))
      (pss_cons (ps_set (i := 2) scApart.nd rfl (Or.inl rfl) (pe_op op_cat (pv 2) (pe_lst (pa_cons (mk0 T.z6 (hr.mono (by decide)) rfl) (pa_cons (mk1 T.z7 (hr.mono (by decide)) rfl (pv 0)) pa_nil)))))
      (pss_one (ps_ret (pe_cmpR (op_eqRows hr.units) (pe_lc (own := [("_law_error", 3)]) (g := gName 3) (tt := tYes) (te := tCall (spKinds z 8) [] E0 (tCons (tVar 3) tNil)) (by rfl) scApart.nd (pi_list (pv 2))
        (blkOk_by (own := [("_law_error", 3)]) (N := ["_law_thing", "_law_found", "_law_state", "_law_error", "_law_at", "_law_k"]) (sc := defScope sApart) (by decide +kernel)) (fun _ _ _ _ _ => pg_name (i := 3) scApart.nd rfl (Or.inl rfl)) (fun _ _ _ _ _ => pts_nil)
        (fun _ _ _ _ _ => call1 DS (hr.mono (by decide)) rfl (pv 3))) (pe_lc (own := [("_law_at", 4)]) (g := gName 4) (tt := tYes) (te := tLc (iRng1 (tCons (tC (.int 8)) tNil)) (gName 5) tYes (tOp rEq (tVar 4) (tVar 5)) [5]) (by rfl) scApart.nd (pi_range1 rfl T.N.rng (pa_cons pe_int pa_nil))
        (blkOk_by (own := [("_law_at", 4)]) (N := ["_law_thing", "_law_found", "_law_state", "_law_error", "_law_at", "_law_k"]) (sc := defScope sApart) (by decide +kernel)) (fun _ _ _ _ _ => pg_name (i := 4) scApart.nd rfl (Or.inr rfl)) (fun _ _ _ _ _ => pts_nil)
        (fun _ _ _ _ _ => (pe_lc (own := [("_law_k", 5)]) (g := gName 5) (tt := tYes) (te := tOp rEq (tVar 4) (tVar 5)) (by rfl) scApart.nd (pi_range1 rfl T.N.rng (pa_cons pe_int pa_nil))
        (blkOk_by (own := [("_law_k", 5)]) (N := ["_law_thing", "_law_found", "_law_state", "_law_error", "_law_at", "_law_k"]) (sc := relS { kind := .function, names := [(".0", .local), ("_law_at", .cell), ("range", .globalImplicit)], isGenerator := false, isCoroutine := false } (defScope sApart)) (by decide +kernel)) (fun _ _ _ _ _ => pg_name (i := 5) scApart.nd rfl (Or.inl rfl)) (fun _ _ _ _ _ => pts_nil)
        (fun _ _ _ _ _ => pe_cmpR op_eq (pv 4) (pv 5) (nomark _))))) (nomark _)))))))))), ?_⟩
    refine ⟨v, rfl, fun e0 A0 nA0 sA0 oA0 => ⟨v, rfl, fun e1 A1 nA1 sA1 oA1 => ⟨v, rfl, fun e2 A2 nA2 sA2 oA2 => ⟨v, rfl, fun e3 A3 nA3 sA3 oA3 => ⟨v, rfl, fun e4 A4 nA4 sA4 oA4 => ⟨by show 5 ≤ sizeLine; decide, fun l0 nl0 => ?_⟩⟩⟩⟩⟩⟩
    have k0 : Same A4 (upd A4 l0 (.lst [.ref e0, .ref e1, .ref e2, .ref e3, .ref e4])) := new_same nl0
    have at0 : upd A4 l0 (.lst [.ref e0, .ref e1, .ref e2, .ref e3, .ref e4]) l0 = _ := upd_same
    revert k0 at0
    generalize upd A4 l0 (.lst [.ref e0, .ref e1, .ref e2, .ref e3, .ref e4]) = B0
    intro k0 at0
    refine ⟨_, rfl, ⟨v, rfl, fun e5 A5 nA5 sA5 oA5 => ⟨v, rfl, fun e6 A6 nA6 sA6 oA6 => ⟨v, rfl, fun e7 A7 nA7 sA7 oA7 => ⟨v, rfl, fun e8 A8 nA8 sA8 oA8 => ⟨by show 4 ≤ sizeLine; decide, fun q1 nq1 => ⟨l0, q1, _, _, rfl, rfl, (upd_ne (ne_of_none (sA8 _ _ (sA7 _ _ (sA6 _ _ (sA5 _ _ at0)))) nq1)).trans (sA8 _ _ (sA7 _ _ (sA6 _ _ (sA5 _ _ at0)))), upd_same, by show 5 + 4 ≤ sizeLine; decide, fun l1 nl1 => ?_⟩⟩⟩⟩⟩⟩⟩
    have k1 : Same A8 _ := (new_same (o := .lst [.ref e5, .ref e6, .ref e7, .ref e8]) nq1).trans (new_same (o := .lst [.ref e0, .ref e1, .ref e2, .ref e3, .ref e4, .ref e5, .ref e6, .ref e7, .ref e8]) nl1)
    have at1 : upd (upd A8 q1 (.lst [.ref e5, .ref e6, .ref e7, .ref e8])) l1 (.lst [.ref e0, .ref e1, .ref e2, .ref e3, .ref e4, .ref e5, .ref e6, .ref e7, .ref e8]) l1 = _ := upd_same
    revert k1 at1
    show _ → _ → (fun H' : Hp => _) (upd (upd A8 q1 (.lst [.ref e5, .ref e6, .ref e7, .ref e8])) l1 (.lst [.ref e0, .ref e1, .ref e2, .ref e3, .ref e4, .ref e5, .ref e6, .ref e7, .ref e8]))
    generalize upd (upd A8 q1 (.lst [.ref e5, .ref e6, .ref e7, .ref e8])) l1 (.lst [.ref e0, .ref e1, .ref e2, .ref e3, .ref e4, .ref e5, .ref e6, .ref e7, .ref e8]) = B1
    intro k1 at1
    refine ⟨_, rfl, ⟨v, rfl, fun e9 A9 nA9 sA9 oA9 => ⟨v, rfl, fun e10 A10 nA10 sA10 oA10 => ⟨v, rfl, fun e11 A11 nA11 sA11 oA11 => ⟨v, rfl, fun e12 A12 nA12 sA12 oA12 => ⟨by show 4 ≤ sizeLine; decide, fun q2 nq2 => ⟨l1, q2, _, _, rfl, rfl, (upd_ne (ne_of_none (sA12 _ _ (sA11 _ _ (sA10 _ _ (sA9 _ _ at1)))) nq2)).trans (sA12 _ _ (sA11 _ _ (sA10 _ _ (sA9 _ _ at1)))), upd_same, by show 9 + 4 ≤ sizeLine; decide, fun l2 nl2 => ?_⟩⟩⟩⟩⟩⟩⟩
    have k2 : Same A12 _ := (new_same (o := .lst [.ref e9, .ref e10, .ref e11, .ref e12]) nq2).trans (new_same (o := .lst [.ref e0, .ref e1, .ref e2, .ref e3, .ref e4, .ref e5, .ref e6, .ref e7, .ref e8, .ref e9, .ref e10, .ref e11, .ref e12]) nl2)
    have at2 : upd (upd A12 q2 (.lst [.ref e9, .ref e10, .ref e11, .ref e12])) l2 (.lst [.ref e0, .ref e1, .ref e2, .ref e3, .ref e4, .ref e5, .ref e6, .ref e7, .ref e8, .ref e9, .ref e10, .ref e11, .ref e12]) l2 = _ := upd_same
    revert k2 at2
    show _ → _ → (fun H' : Hp => _) (upd (upd A12 q2 (.lst [.ref e9, .ref e10, .ref e11, .ref e12])) l2 (.lst [.ref e0, .ref e1, .ref e2, .ref e3, .ref e4, .ref e5, .ref e6, .ref e7, .ref e8, .ref e9, .ref e10, .ref e11, .ref e12]))
    generalize upd (upd A12 q2 (.lst [.ref e9, .ref e10, .ref e11, .ref e12])) l2 (.lst [.ref e0, .ref e1, .ref e2, .ref e3, .ref e4, .ref e5, .ref e6, .ref e7, .ref e8, .ref e9, .ref e10, .ref e11, .ref e12]) = B2
    intro k2 at2
    refine ⟨_, rfl, ⟨v, rfl, fun e13 A13 nA13 sA13 oA13 => ⟨v, rfl, fun e14 A14 nA14 sA14 oA14 => ⟨v, rfl, fun e15 A15 nA15 sA15 oA15 => ⟨v, rfl, fun e16 A16 nA16 sA16 oA16 => ⟨by show 4 ≤ sizeLine; decide, fun q3 nq3 => ⟨l2, q3, _, _, rfl, rfl, (upd_ne (ne_of_none (sA16 _ _ (sA15 _ _ (sA14 _ _ (sA13 _ _ at2)))) nq3)).trans (sA16 _ _ (sA15 _ _ (sA14 _ _ (sA13 _ _ at2)))), upd_same, by show 13 + 4 ≤ sizeLine; decide, fun l3 nl3 => ?_⟩⟩⟩⟩⟩⟩⟩
    have k3 : Same A16 _ := (new_same (o := .lst [.ref e13, .ref e14, .ref e15, .ref e16]) nq3).trans (new_same (o := .lst [.ref e0, .ref e1, .ref e2, .ref e3, .ref e4, .ref e5, .ref e6, .ref e7, .ref e8, .ref e9, .ref e10, .ref e11, .ref e12, .ref e13, .ref e14, .ref e15, .ref e16]) nl3)
    have at3 : upd (upd A16 q3 (.lst [.ref e13, .ref e14, .ref e15, .ref e16])) l3 (.lst [.ref e0, .ref e1, .ref e2, .ref e3, .ref e4, .ref e5, .ref e6, .ref e7, .ref e8, .ref e9, .ref e10, .ref e11, .ref e12, .ref e13, .ref e14, .ref e15, .ref e16]) l3 = _ := upd_same
    revert k3 at3
    show _ → _ → (fun H' : Hp => _) (upd (upd A16 q3 (.lst [.ref e13, .ref e14, .ref e15, .ref e16])) l3 (.lst [.ref e0, .ref e1, .ref e2, .ref e3, .ref e4, .ref e5, .ref e6, .ref e7, .ref e8, .ref e9, .ref e10, .ref e11, .ref e12, .ref e13, .ref e14, .ref e15, .ref e16]))
    generalize upd (upd A16 q3 (.lst [.ref e13, .ref e14, .ref e15, .ref e16])) l3 (.lst [.ref e0, .ref e1, .ref e2, .ref e3, .ref e4, .ref e5, .ref e6, .ref e7, .ref e8, .ref e9, .ref e10, .ref e11, .ref e12, .ref e13, .ref e14, .ref e15, .ref e16]) = B3
    intro k3 at3
    have y16 : Same A16 B3 := k3
    have y15 : Same A15 B3 := sA16.trans y16
    have y14 : Same A14 B3 := sA15.trans y15
    have y13 : Same A13 B3 := sA14.trans y14
    have y12 : Same A12 B3 := k2.trans (sA13.trans y13)
    have y11 : Same A11 B3 := sA12.trans y12
    have y10 : Same A10 B3 := sA11.trans y11
    have y9 : Same A9 B3 := sA10.trans y10
    have y8 : Same A8 B3 := k1.trans (sA9.trans y9)
    have y7 : Same A7 B3 := sA8.trans y8
    have y6 : Same A6 B3 := sA7.trans y7
    have y5 : Same A5 B3 := sA6.trans y6
    have y4 : Same A4 B3 := k0.trans (sA5.trans y5)
    have y3 : Same A3 B3 := sA4.trans y4
    have y2 : Same A2 B3 := sA3.trans y3
    have y1 : Same A1 B3 := sA2.trans y2
    have y0 : Same A0 B3 := sA1.trans y1
    have sB : Same H B3 := sA0.trans y0
    have idx : Idx c B3 0 _ := show Idx c B3 0 [.ref e0, .ref e1, .ref e2, .ref e3, .ref e4, .ref e5, .ref e6, .ref e7, .ref e8, .ref e9, .ref e10, .ref e11, .ref e12, .ref e13, .ref e14, .ref e15, .ref e16] from ⟨⟨e0, rfl, .inl ⟨_, oA0.mono y0⟩⟩, ⟨e1, rfl, .inl ⟨_, oA1.mono y1⟩⟩, ⟨e2, rfl, .inl ⟨_, oA2.mono y2⟩⟩, ⟨e3, rfl, .inl ⟨_, oA3.mono y3⟩⟩, ⟨e4, rfl, .inl ⟨_, oA4.mono y4⟩⟩, ⟨e5, rfl, .inl ⟨_, oA5.mono y5⟩⟩, ⟨e6, rfl, .inl ⟨_, oA6.mono y6⟩⟩, ⟨e7, rfl, .inl ⟨_, oA7.mono y7⟩⟩, ⟨e8, rfl, .inl ⟨_, oA8.mono y8⟩⟩, ⟨e9, rfl, .inl ⟨_, oA9.mono y9⟩⟩, ⟨e10, rfl, .inl ⟨_, oA10.mono y10⟩⟩, ⟨e11, rfl, .inl ⟨_, oA11.mono y11⟩⟩, ⟨e12, rfl, .inl ⟨_, oA12.mono y12⟩⟩, ⟨e13, rfl, .inl ⟨_, oA13.mono y13⟩⟩, ⟨e14, rfl, .inl ⟨_, oA14.mono y14⟩⟩, ⟨e15, rfl, .inl ⟨_, oA15.mono y15⟩⟩, ⟨e16, rfl, .inl ⟨_, oA16.mono y16⟩⟩, True.intro⟩
    refine ⟨_, rfl, l3, rfl, ⟨_, .inl (.inl at3)⟩, fun D nD => lc_rowsL (bits 17) nD at3 (by show 17 ≤ 1000; decide) (fun i x hx H' R sm fin => ?_) (fun Ha ps sa hps rows => ?_)⟩
    · obtain ⟨e, rfl, oe⟩ := Idx.get idx hx
      have lt : i < 17 := (List.getElem?_eq_some_iff.mp hx).1
      exact ⟨rfl, _, rfl, e, i, rfl, lt, by rw [Nat.zero_add] at oe; exact oe.mono sm, fun p H3 np s3 hp => fin p H3 np s3 hp⟩
    refine ⟨17, rfl, by decide, by decide, fun D' nD' => grid (n := 17) rfl (by decide) nD' rfl (fun Hb qs sb hqs rows' => ?_)⟩
    refine ⟨D, D', _, _, rfl, rfl, .inl (.inl (rows.mono sb).at_), .inl (.inl rows'.at_), rows_pair (n := 0) (D := 0) (D' := 0) (fun j => bits_me) 0 (hps.trans hqs.symm) (fun j p e => by rw [Nat.zero_add]; exact (rows.mono sb).row j p e) (fun j p e => by rw [Nat.zero_add]; exact rows'.row j p e), false, rfl, ?_⟩
    have sH : Same H Hb := (sB.trans sa).trans sb
    refine ⟨v, rfl, fun t0 Z0 nZ0 sZ0 oZ0 => ⟨v, rfl, fun t1 Z1 nZ1 sZ1 oZ1 => ⟨v, v, rfl, rfl, fun t2 Z2 nZ2 sZ2 oZ2 => (fun t3 Z3 nZ3 sZ3 oZ3 => ⟨v, rfl, fun t4 Z4 nZ4 sZ4 oZ4 => ⟨v, rfl, fun t5 Z5 nZ5 sZ5 oZ5 => ⟨by show 6 ≤ sizeLine; decide, fun m0 nm0 => ?_⟩⟩⟩)⟩⟩⟩
    have x0 : Same Z5 (upd Z5 m0 (.lst [.ref t0, .ref t1, .ref t2, .ref t3, .ref t4, .ref t5])) := new_same nm0
    have bt0 : upd Z5 m0 (.lst [.ref t0, .ref t1, .ref t2, .ref t3, .ref t4, .ref t5]) m0 = _ := upd_same
    revert x0 bt0
    generalize upd Z5 m0 (.lst [.ref t0, .ref t1, .ref t2, .ref t3, .ref t4, .ref t5]) = C0
    intro x0 bt0
    refine ⟨_, rfl, (fun t6 Z6 nZ6 sZ6 oZ6 => ⟨v, rfl, fun t7 Z7 nZ7 sZ7 oZ7 => ⟨by show 2 ≤ sizeLine; decide, fun q nq => ⟨m0, q, _, _, rfl, rfl, (upd_ne (ne_of_none (sZ7 _ _ (sZ6 _ _ bt0)) nq)).trans (sZ7 _ _ (sZ6 _ _ bt0)), upd_same, by show 6 + 2 ≤ sizeLine; decide, fun m1 nm1 => ?_⟩⟩⟩)⟩
    have x1 : Same Z7 _ := (new_same (o := .lst [.ref t6, .ref t7]) nq).trans (new_same (o := .lst [.ref t0, .ref t1, .ref t2, .ref t3, .ref t4, .ref t5, .ref t6, .ref t7]) nm1)
    have bt1 : upd (upd Z7 q (.lst [.ref t6, .ref t7])) m1 (.lst [.ref t0, .ref t1, .ref t2, .ref t3, .ref t4, .ref t5, .ref t6, .ref t7]) m1 = _ := upd_same
    revert x1 bt1
    show _ → _ → (fun H' : Hp => _) (upd (upd Z7 q (.lst [.ref t6, .ref t7])) m1 (.lst [.ref t0, .ref t1, .ref t2, .ref t3, .ref t4, .ref t5, .ref t6, .ref t7]))
    generalize upd (upd Z7 q (.lst [.ref t6, .ref t7])) m1 (.lst [.ref t0, .ref t1, .ref t2, .ref t3, .ref t4, .ref t5, .ref t6, .ref t7]) = C1
    intro x1 bt1
    have v7 : Same Z7 C1 := x1
    have v6 : Same Z6 C1 := sZ7.trans v7
    have v5 : Same Z5 C1 := x0.trans (sZ6.trans v6)
    have v4 : Same Z4 C1 := sZ5.trans v5
    have v3 : Same Z3 C1 := sZ4.trans v4
    have v2 : Same Z2 C1 := sZ3.trans v3
    have v1 : Same Z1 C1 := sZ2.trans v2
    have v0 : Same Z0 C1 := sZ1.trans v1
    have idz : Idx z C1 0 _ := show Idx z C1 0 [.ref t0, .ref t1, .ref t2, .ref t3, .ref t4, .ref t5, .ref t6, .ref t7] from ⟨⟨t0, rfl, .inl ⟨_, oZ0.mono v0⟩⟩, ⟨t1, rfl, .inl ⟨_, oZ1.mono v1⟩⟩, ⟨t2, rfl, .inl ⟨_, oZ2.mono v2⟩⟩, ⟨t3, rfl, .inr (v3 _ _ oZ3)⟩, ⟨t4, rfl, .inl ⟨_, oZ4.mono v4⟩⟩, ⟨t5, rfl, .inl ⟨_, oZ5.mono v5⟩⟩, ⟨t6, rfl, .inr (v6 _ _ oZ6)⟩, ⟨t7, rfl, .inl ⟨_, oZ7.mono v7⟩⟩, True.intro⟩
    refine ⟨_, rfl, m1, rfl, ⟨_, .inl (.inl bt1)⟩, fun E1 nE => lc_rowsL (bits 8) nE bt1 (by show 8 ≤ 1000; decide) (fun i x hx H' R sm fin => ?_) (fun Hc ps2 sc2 hps2 rows2 => ?_)⟩
    · obtain ⟨e, rfl, oe⟩ := Idx.get idz hx
      have lt : i < 8 := (List.getElem?_eq_some_iff.mp hx).1
      exact ⟨rfl, _, rfl, e, i, rfl, lt, by rw [Nat.zero_add] at oe; exact oe.mono sm, fun p H3 np s3 hp => fin p H3 np s3 hp⟩
    refine ⟨8, rfl, by decide, by decide, fun E2 nE2 => grid (n := 8) rfl (by decide) nE2 rfl (fun Hd qs2 sd hqs2 rows3 => ?_)⟩
    exact ⟨E1, E2, _, _, rfl, rfl, .inl (.inl (rows2.mono sd).at_), .inl (.inl rows3.at_), rows_pair (n := 0) (D := 0) (D' := 0) (fun j => bits_me) 0 (hps2.trans hqs2.symm) (fun j p e => by rw [Nat.zero_add]; exact (rows2.mono sd).row j p e) (fun j p e => by rw [Nat.zero_add]; exact rows3.row j p e),
      go _ ((((sH.trans sZ0).trans v0).trans sc2).trans sd)⟩
end
end E18

set_option Elab.async false
set_option linter.all false
set_option maxRecDepth 100000
set_option maxHeartbeats 8000000
namespace E18
open L2 PySem PySem.Spec PyProof.Rows
/-- [v for .. in xs]: each turn gives one and the same value -/
theorem lc_same {K : PySem.W.Frag} {a : Addr} {xs : List V} {g : TG} {te : TE} {vs : List Nat} {σ : L2.St} {H1 : Hp} {D : Addr} {Qd : Hp → Prop} (y0 : V) (nD : H1 D = none) (ha : H1 a = some (.lst xs)) (small : xs.length ≤ 1000)
    (turn : ∀ x ∈ xs, ∀ (H' : Hp) (R : V → Hp → Prop), Same H1 H' → (∀ H3, Same H' H3 → R y0 H3) → g x (wipe σ vs) H' fun σ2 H2 => wipe σ2 vs = wipe σ vs ∧ te σ2 H2 R)
    (done : ∀ H3, Same H1 H3 → H3 D = some (.lst (List.replicate xs.length y0)) → Qd H3) :
    ∃ W : Nat → Nat → Hp → Prop, (∃ m, W 0 m (upd H1 D (.lst []))) ∧ ∀ i m H, W i m H →
      ((Itl K a).stop i H ∧ Qd H) ∨ ((Itl K a).go i H ∧ ∃ Nx : Hp → Prop, (∀ H', Nx H' → ∃ m', m' < m ∧ W (i + 1) m' H') ∧ ∀ x H', (Itl K a).yld i H x H' → g x (wipe σ vs) H' fun σ2 H2 => wipe σ2 vs = wipe σ vs ∧ tYes σ2 H2 fun b H3 =>
        if b = true then te σ2 H3 fun y H4 => ∃ acc, H4 D = some (.lst acc) ∧ acc.length < sizeLine ∧ Nx (upd H4 D (.lst (acc ++ [y]))) else Nx H3) := by
  refine lc_list (K := K) (a := a) (xs := xs) (fun i H' => Same H1 H' ∧ H' D = some (.lst (List.replicate i y0))) ⟨new_same nD, upd_same⟩ (fun i H' _ h => .inl (.inl (h.1 _ _ ha))) ?_ (fun H' h => done H' h.1 h.2)
  rintro i x H' hx ⟨sm, hD⟩
  have lt := (List.getElem?_eq_some_iff.mp hx).1
  exact turn x (List.mem_of_getElem? hx) H' (fun y H4 => ∃ acc, H4 D = some (.lst acc) ∧ acc.length < sizeLine ∧ (Same H1 (upd H4 D (.lst (acc ++ [y]))) ∧ upd H4 D (.lst (acc ++ [y])) D = some (.lst (List.replicate (i + 1) y0)))) sm fun H3 s3 => by
    refine ⟨_, s3 _ _ hD, by rw [List.length_replicate]; exact Nat.lt_of_lt_of_le (Nat.lt_of_lt_of_le lt small) (by decide), fun c u e => ?_, ?_⟩
    · rw [upd_ne (ne_of_none e nD)]
      exact s3 _ _ (sm c u e)
    · rw [upd_same, List.replicate_succ']
theorem rows_rep {K : PySem.W.Frag} {H : Hp} {q : Addr} {zs : List V} (hq : H q = some (.lst zs)) (me : ∀ z ∈ zs, Me z) : ∀ {ps : List Addr}, (∀ (j : Nat) (p : Addr), ps[j]? = some p → H p = some (.lst zs)) → Paired (Row K H) (ps.map V.ref) (List.replicate ps.length (V.ref q))
  | [], _ => .nil
  | p :: ps, h => .cons ⟨p, q, zs, rfl, rfl, .inl (.inl (h 0 p rfl)), .inl (.inl hq), me⟩ (rows_rep hq me fun j p' e => h (j + 1) p' e)
def spOthers : Sp := fun vs H Q _ => ∃ v u, vs = [v, u] ∧ (∃ n d, Val H n v d) ∧ (∃ n d, Val H n u d) ∧ ∀ H', Same H H' → Q (.bl true) H'
section
variable {P : Program} {w : World} {K : PySem.W.Frag} {mg : Str → Option Value} {base : Heap} {b c z : Nat → Addr} {cU cT : Addr} {f : Addr} {fd : FuncData}
theorem scOthers : FnScope ["_law_first", "_law_last", "_law_shifts", "_law_text", "_law_moments", "_law_many", "_law_state", "_law_error"] ["_law_first", "_law_last"] (defScope sOthers) := ⟨rfl, rfl, rfl, by decide +kernel, rfl, by decide +kernel, by decide +kernel⟩
theorem ok_others (T : Top P w K mg base b c z cU cT) (DB : Def P w K mg base "_law_bases" ["_law_error"] 1 (spBases K b)) (DA : Def P w K mg base "_law_base" ["_law_number"] 1 spBase)
    (F : Fun K "_law_others_right" "_law_others_right" sOthers f fd) : FnOk P w K mg base CX0 4 f fd ["_law_first", "_law_last"] spOthers := by
  refine F.ok scOthers (fun vs H Q E h => ?_) (fun cdv A outer s H vs Q E hr h => ?_)
  · obtain ⟨v, u, rfl, _⟩ := h
    rfl
  · obtain ⟨v, u, rfl, ⟨vn, vd, hv⟩, ⟨un, ud, hu⟩, go⟩ := h
    refine ⟨_, pss_cons (ps_par (i := 2) (j := 3) (by rfl) scOthers.nd rfl rfl (by decide) rfl rfl (pa_cons (pe_lst (pa_cons (mk1 T.a2 (hr.mono (by decide)) rfl (pv 0)) (pa_cons (mk1k T.a2 (hr.mono (by decide)) rfl (pv 0)) pa_nil))) (pa_cons (pe_lst (pa_cons (mk1 T.a14 (hr.mono (by decide)) rfl (pv 0)) (pa_cons (mk1k T.a14 (hr.mono (by decide)) rfl (pv 0)) pa_nil))) pa_nil)) (by rfl))
      (pss_cons (ps_if (PW.pt (pw_or (pt_cmpR (op_neMe hr.units) (pe_lc (own := [("_law_error", 7)]) (g := gName 7) (tt := tYes) (te := tExf K "name" (tVar 7)) (by rfl) scOthers.nd (pi_list (pv 2))
        (blkOk_by (own := [("_law_error", 7)]) (N := ["_law_first", "_law_last", "_law_shifts", "_law_text", "_law_moments", "_law_many", "_law_state", "_law_error"]) (sc := defScope sOthers) (by decide +kernel)) (fun _ _ _ _ _ => pg_name (i := 7) scOthers.nd rfl (Or.inl rfl)) (fun _ _ _ _ _ => pts_nil)
        (fun _ _ _ _ _ => pe_exf (f := "name") (pv 7))) (pe_lst (pa_cons (pv 0) (pa_cons (pv 0) pa_nil))) (nomark _)) (pw_or1 (pt_cmpR (op_neMe hr.units) (pe_lc (own := [("_law_error", 7)]) (g := gName 7) (tt := tYes) (te := tExf K "line" (tVar 7)) (by rfl) scOthers.nd (pi_list (pv 3))
        (blkOk_by (own := [("_law_error", 7)]) (N := ["_law_first", "_law_last", "_law_shifts", "_law_text", "_law_moments", "_law_many", "_law_state", "_law_error"]) (sc := defScope sOthers) (by decide +kernel)) (fun _ _ _ _ _ => pg_name (i := 7) scOthers.nd rfl (Or.inl rfl)) (fun _ _ _ _ _ => pts_nil)
        (fun _ _ _ _ _ => pe_exf (f := "line") (pv 7))) (pe_lst (pa_cons (pv 0) (pa_cons (pv 0) pa_nil))) (nomark _))))) (pss_one (ps_ret pe_bl)) pss_nil)
      (pss_cons (ps_set (i := 4) scOthers.nd rfl (Or.inl rfl) (pe_lst (pa_cons (mk2 T.z2 (hr.mono (by decide)) rfl (pv 0) (pv 1)) (pa_cons (mk2t T.z2 (hr.mono (by decide)) rfl (pv 0) (pv 1)) (pa_cons (mk2m T.z2 (hr.mono (by decide)) rfl (pv 0) (pv 1)) pa_nil)))))
      (pss_cons (ps_set (i := 5) scOthers.nd rfl (Or.inl rfl) (pe_lst (pa_cons (mk2 T.t (hr.mono (by decide)) rfl (pv 0) (pv 1)) (pa_cons (mk2t T.t (hr.mono (by decide)) rfl (pv 0) (pv 1)) (pa_cons (mk2m T.t (hr.mono (by decide)) rfl (pv 0) (pv 1)) pa_nil)))))
      (pss_cons (ps_if (pt_cmpR (op_neRows hr.units) (pe_lc (own := [("_law_error", 7)]) (g := gName 7) (tt := tYes) (te := tLst (tCons (tExf K "one" (tVar 7)) (tCons (tExf K "other" (tVar 7)) tNil))) (by rfl) scOthers.nd (pi_list (pv 4))
        (blkOk_by (own := [("_law_error", 7)]) (N := ["_law_first", "_law_last", "_law_shifts", "_law_text", "_law_moments", "_law_many", "_law_state", "_law_error"]) (sc := defScope sOthers) (by decide +kernel)) (fun _ _ _ _ _ => pg_name (i := 7) scOthers.nd rfl (Or.inl rfl)) (fun _ _ _ _ _ => pts_nil)
        (fun _ _ _ _ _ => pe_lst (pa_cons (pe_exf (f := "one") (pv 7)) (pa_cons (pe_exf (f := "other") (pv 7)) pa_nil)))) (pe_op op_rep (pe_lst (pa_cons (pe_lst (pa_cons (pv 0) (pa_cons (pv 1) pa_nil))) pa_nil)) pe_int) (nomark _)) (pss_one (ps_ret pe_bl)) pss_nil)
      (pss_cons (ps_if (pt_cmpR (op_neRows hr.units) (pe_lc (own := [("_law_error", 7)]) (g := gName 7) (tt := tYes) (te := tLst (tCons (tExf K "what" (tVar 7)) (tCons (tExf K "limit" (tVar 7)) tNil))) (by rfl) scOthers.nd (pi_list (pv 5))
        (blkOk_by (own := [("_law_error", 7)]) (N := ["_law_first", "_law_last", "_law_shifts", "_law_text", "_law_moments", "_law_many", "_law_state", "_law_error"]) (sc := defScope sOthers) (by decide +kernel)) (fun _ _ _ _ _ => pg_name (i := 7) scOthers.nd rfl (Or.inl rfl)) (fun _ _ _ _ _ => pts_nil)
        (fun _ _ _ _ _ => pe_lst (pa_cons (pe_exf (f := "what") (pv 7)) (pa_cons (pe_exf (f := "limit") (pv 7)) pa_nil)))) (pe_op op_rep (pe_lst (pa_cons (pe_lst (pa_cons (pv 0) (pa_cons (pv 1) pa_nil))) pa_nil)) pe_int) (nomark _)) (pss_one (ps_ret pe_bl)) pss_nil)
      (pss_cons (ps_if (pt_not (pt_val (pe_callB (cr_all rfl) rfl T.N.all_ boot_all' (pa_cons (pe_lc (own := [("_law_error", 7)]) (g := gName 7) (tt := tYes) (te := tOp rTold (tCall (spBases K b) [] E0 (tCons (tVar 7) tNil)) (tCall spBase [] E0 (tCons (tC (.int 0)) tNil))) (by rfl) scOthers.nd (pi_list (pe_op op_cat (pv 2) (pv 3)))
        (blkOk_by (own := [("_law_error", 7)]) (N := ["_law_first", "_law_last", "_law_shifts", "_law_text", "_law_moments", "_law_many", "_law_state", "_law_error"]) (sc := defScope sOthers) (by decide +kernel)) (fun _ _ _ _ _ => pg_name (i := 7) scOthers.nd rfl (Or.inl rfl)) (fun _ _ _ _ _ => pts_nil)
        (fun _ _ _ _ _ => (pe_cmpR (op_told hr.units) (call1 DB (hr.mono (by decide)) rfl (pv 7)) (call1 DA (hr.mono (by decide)) rfl pe_int) (nomark _)))) pa_nil)))) (pss_one (ps_ret pe_bl)) pss_nil)
      (pss_cons (ps_set (i := 6) scOthers.nd rfl (Or.inl rfl) (pe_op op_cat (pv 4) (pe_lst (pa_cons (mk0 T.z3 (hr.mono (by decide)) rfl) (pa_cons (mk0 T.z6 (hr.mono (by decide)) rfl) pa_nil)))))
      (pss_cons (ps_if (pt_not (pt_val (pe_callB (cr_all rfl) rfl T.N.all_ boot_all' (pa_cons (pe_lc (own := [("_law_error", 7)]) (g := gName 7) (tt := tYes) (te := tOp rTold (tCall (spBases K b) [] E0 (tCons (tVar 7) tNil)) (tCall spBase [] E0 (tCons (tC (.int 3)) tNil))) (by rfl) scOthers.nd (pi_list (pv 5))
        (blkOk_by (own := [("_law_error", 7)]) (N := ["_law_first", "_law_last", "_law_shifts", "_law_text", "_law_moments", "_law_many", "_law_state", "_law_error"]) (sc := defScope sOthers) (by decide +kernel)) (fun _ _ _ _ _ => pg_name (i := 7) scOthers.nd rfl (Or.inl rfl)) (fun _ _ _ _ _ => pts_nil)
        (fun _ _ _ _ _ => (pe_cmpR (op_told hr.units) (call1 DB (hr.mono (by decide)) rfl (pv 7)) (call1 DA (hr.mono (by decide)) rfl pe_int) (nomark _)))) pa_nil)))) (pss_one (ps_ret pe_bl)) pss_nil)
      (pss_one (ps_ret (pe_callB (cr_all rfl) rfl T.N.all_ boot_all' (pa_cons (pe_lc (own := [("_law_error", 7)]) (g := gName 7) (tt := tYes) (te := tOp rTold (tCall (spBases K b) [] E0 (tCons (tVar 7) tNil)) (tCall spBase [] E0 (tCons (tC (.int 2)) tNil))) (by rfl) scOthers.nd (pi_list (pv 6))
        (blkOk_by (own := [("_law_error", 7)]) (N := ["_law_first", "_law_last", "_law_shifts", "_law_text", "_law_moments", "_law_many", "_law_state", "_law_error"]) (sc := defScope sOthers) (by decide +kernel)) (fun _ _ _ _ _ => pg_name (i := 7) scOthers.nd rfl (Or.inl rfl)) (fun _ _ _ _ _ => pts_nil)
        (fun _ _ _ _ _ => (pe_cmpR (op_told hr.units) (call1 DB (hr.mono (by decide)) rfl (pv 7)) (call1 DA (hr.mono (by decide)) rfl pe_int) (nomark _)))) pa_nil)))))))))))), ?_⟩
    -- shifts, text
    refine ⟨v, rfl, fun a1 H1 n1 s1 o1 => ⟨v, rfl, fun a2 H2 n2 s2 o2 => ⟨by show 2 ≤ sizeLine; decide, fun La nLa => ?_⟩⟩⟩
    have ra := new_same (o := .lst [.ref a1, .ref a2]) nLa
    refine ⟨v, rfl, fun a3 H3 n3 s3 o3 => ⟨v, rfl, fun a4 H4 n4 s4 o4 => ⟨by show 2 ≤ sizeLine; decide, fun Lb nLb => ?_⟩⟩⟩
    have rb := new_same (o := .lst [.ref a3, .ref a4]) nLb
    refine ⟨_, _, rfl, ?_⟩
    have at_a : upd H4 Lb (.lst [.ref a3, .ref a4]) La = some (.lst [.ref a1, .ref a2]) := rb _ _ (s4 _ _ (s3 _ _ upd_same))
    have at_b : upd H4 Lb (.lst [.ref a3, .ref a4]) Lb = some (.lst [.ref a3, .ref a4]) := upd_same
    have s0 : Same H (upd H4 Lb (.lst [.ref a3, .ref a4])) := ((((s1.trans s2).trans ra).trans s3).trans s4).trans rb
    have p1 := o1.mono ((((s2.trans ra).trans s3).trans s4).trans rb)
    have p2 := o2.mono (((ra.trans s3).trans s4).trans rb)
    have p3 := o3.mono (s4.trans rb)
    have p4 := o4.mono rb
    revert at_a at_b s0 p1 p2 p3 p4
    generalize upd H4 Lb (.lst [.ref a3, .ref a4]) = G
    intro at_a at_b s0 p1 p2 p3 p4
    have me2 : ∀ y ∈ [v, v], Me y := fun y hy => by
      simp only [List.mem_cons, List.not_mem_nil, or_false, or_self] at hy
      rw [hy]
      exact hv.me
    have mes : ∀ y ∈ [v, u], Me y := fun y hy => by
      simp only [List.mem_cons, List.not_mem_nil, or_false] at hy
      rcases hy with rfl | rfl
      · exact hv.me
      · exact hu.me
    -- their names, their lines
    refine ⟨_, rfl, La, rfl, ⟨_, .inl (.inl at_a)⟩, fun D1 nD1 => lc_same v nD1 at_a (by show 2 ≤ 1000; decide) (fun x hx H' R sm fin => ?_) (fun G1 t1 d1 => ?_)⟩
    · simp only [List.mem_cons, List.not_mem_nil, or_false] at hx
      rcases hx with rfl | rfl
      · exact ⟨rfl, _, rfl, a1, c 2, _, v, rfl, T.a2.T, T.a2.nf, p1.mono sm, rfl, fin _ (Same.refl _)⟩
      · exact ⟨rfl, _, rfl, a2, c 2, _, v, rfl, T.a2.T, T.a2.nf, p2.mono sm, rfl, fin _ (Same.refl _)⟩
    refine ⟨v, rfl, v, rfl, by show 2 ≤ sizeLine; decide, fun e1 ne1 => ⟨D1, e1, [v, v], rfl, rfl, .inl (.inl ((upd_ne (ne_of_none d1 ne1)).trans d1)), .inl (.inl upd_same), me2, false, rfl, ?_⟩⟩
    have t2 := t1.trans (new_same (o := .lst [v, v]) ne1)
    refine ⟨_, rfl, Lb, rfl, ⟨_, .inl (.inl (t2 _ _ at_b))⟩, fun D2 nD2 => lc_same v nD2 (t2 _ _ at_b) (by show 2 ≤ 1000; decide) (fun x hx H' R sm fin => ?_) (fun G2 t3 d2 => ?_)⟩
    · simp only [List.mem_cons, List.not_mem_nil, or_false] at hx
      rcases hx with rfl | rfl
      · exact ⟨rfl, _, rfl, a3, c 14, _, v, rfl, T.a14.T, T.a14.nf, (p3.mono t2).mono sm, rfl, fin _ (Same.refl _)⟩
      · exact ⟨rfl, _, rfl, a4, c 14, _, v, rfl, T.a14.T, T.a14.nf, (p4.mono t2).mono sm, rfl, fin _ (Same.refl _)⟩
    refine ⟨v, rfl, v, rfl, by show 2 ≤ sizeLine; decide, fun e2 ne2 => ⟨D2, e2, [v, v], rfl, rfl, .inl (.inl ((upd_ne (ne_of_none d2 ne2)).trans d2)), .inl (.inl upd_same), me2, false, rfl, ?_⟩⟩
    have t4 := (t2.trans t3).trans (new_same (o := .lst [v, v]) ne2)
    -- moments, many
    refine ⟨v, u, rfl, rfl, fun b1 J1 k1 x1 q1 => ⟨v, u, rfl, rfl, fun b2 J2 k2 x2 q2 => ⟨v, u, rfl, rfl, fun b3 J3 k3 x3 q3 => ⟨by show 3 ≤ sizeLine; decide, fun Lc nLc => ?_⟩⟩⟩⟩
    have rc := new_same (o := .lst [.ref b1, .ref b2, .ref b3]) nLc
    refine ⟨v, u, rfl, rfl, fun b4 J4 k4 x4 q4 => ⟨v, u, rfl, rfl, fun b5 J5 k5 x5 q5 => ⟨v, u, rfl, rfl, fun b6 J6 k6 x6 q6 => ⟨by show 3 ≤ sizeLine; decide, fun Ld nLd => ?_⟩⟩⟩⟩
    have rd := new_same (o := .lst [.ref b4, .ref b5, .ref b6]) nLd
    have at_c : upd J6 Ld (.lst [.ref b4, .ref b5, .ref b6]) Lc = some (.lst [.ref b1, .ref b2, .ref b3]) := rd _ _ (x6 _ _ (x5 _ _ (x4 _ _ upd_same)))
    have at_d : upd J6 Ld (.lst [.ref b4, .ref b5, .ref b6]) Ld = some (.lst [.ref b4, .ref b5, .ref b6]) := upd_same
    have y5 := x6.trans rd
    have y4 := x5.trans y5
    have y3 := rc.trans (x4.trans y4)
    have y2 := x3.trans y3
    have y1 := x2.trans y2
    have t5 := t4.trans (x1.trans y1)
    have w1 := q1.mono y1
    have w2 := q2.mono y2
    have w3 := q3.mono y3
    have w4 := q4.mono y4
    have w5 := q5.mono y5
    have w6 := q6.mono rd
    clear y1 y2 y3 y4 y5
    revert at_c at_d t5 w1 w2 w3 w4 w5 w6
    generalize upd J6 Ld (.lst [.ref b4, .ref b5, .ref b6]) = M
    intro at_c at_d t5 w1 w2 w3 w4 w5 w6
    refine ⟨_, rfl, Lc, rfl, ⟨_, .inl (.inl at_c)⟩, fun E1 nE1 => lc_rowsL (fun _ => [v, u]) nE1 at_c (by show 3 ≤ 1000; decide) (fun i x hx H' R sm fin => ?_) (fun M1 psE1 m1 lE1 rE1 => ?_)⟩
    · have hx := List.mem_of_getElem? hx
      simp only [List.mem_cons, List.not_mem_nil, or_false] at hx
      rcases hx with rfl | rfl | rfl
      · exact ⟨rfl, _, rfl, b1, z 2, _, v, rfl, T.z2.T, T.z2.nf, (w1).mono sm, rfl, _, rfl, b1, z 2, _, u, rfl, T.z2.T, T.z2.ng, (w1).mono sm, rfl, by show 2 ≤ sizeLine; decide, fun p np => fin p _ np (new_same np) upd_same⟩
      · exact ⟨rfl, _, rfl, b2, z 2, _, v, rfl, T.z2.T, T.z2.nf, (w2).mono sm, rfl, _, rfl, b2, z 2, _, u, rfl, T.z2.T, T.z2.ng, (w2).mono sm, rfl, by show 2 ≤ sizeLine; decide, fun p np => fin p _ np (new_same np) upd_same⟩
      · exact ⟨rfl, _, rfl, b3, z 2, _, v, rfl, T.z2.T, T.z2.nf, (w3).mono sm, rfl, _, rfl, b3, z 2, _, u, rfl, T.z2.T, T.z2.ng, (w3).mono sm, rfl, by show 2 ≤ sizeLine; decide, fun p np => fin p _ np (new_same np) upd_same⟩
    refine ⟨v, rfl, u, rfl, by show 2 ≤ sizeLine; decide, fun fE1 nfE1 => ⟨by show 1 ≤ sizeLine; decide, fun gE1 ngE1 => ⟨gE1, 3, [.ref fE1], rfl, rfl, upd_same, by decide, by decide, by show 1 * 3 ≤ sizeLine; decide, fun hE1 nhE1 => ?_⟩⟩⟩
    have zE1 := ((new_same (o := .lst [v, u]) nfE1).trans (new_same (o := .lst [.ref fE1]) ngE1)).trans (new_same (o := .lst [.ref fE1, .ref fE1, .ref fE1]) nhE1)
    have f_at : upd (upd (upd M1 fE1 (.lst [v, u])) gE1 (.lst [.ref fE1])) hE1 (.lst [.ref fE1, .ref fE1, .ref fE1]) fE1 = some (.lst [v, u]) := (new_same (o := .lst [.ref fE1, .ref fE1, .ref fE1]) nhE1) _ _ ((new_same (o := .lst [.ref fE1]) ngE1) _ _ upd_same)
    refine ⟨E1, hE1, _, List.replicate psE1.length (.ref fE1), rfl, rfl, .inl (.inl (rE1.mono zE1).at_), .inl (.inl (upd_same.trans (by rw [lE1]; rfl))), rows_rep f_at mes (fun j p e => (rE1.mono zE1).row j p e), false, rfl, ?_⟩
    have m2 := m1.trans zE1
    refine ⟨_, rfl, Ld, rfl, ⟨_, .inl (.inl (m2 _ _ at_d))⟩, fun E2 nE2 => lc_rowsL (fun _ => [v, u]) nE2 (m2 _ _ at_d) (by show 3 ≤ 1000; decide) (fun i x hx H' R sm fin => ?_) (fun M2 psE2 m3 lE2 rE2 => ?_)⟩
    · have hx := List.mem_of_getElem? hx
      simp only [List.mem_cons, List.not_mem_nil, or_false] at hx
      rcases hx with rfl | rfl | rfl
      · exact ⟨rfl, _, rfl, b4, cT, _, v, rfl, T.t.T, T.t.nf, (w4.mono m2).mono sm, rfl, _, rfl, b4, cT, _, u, rfl, T.t.T, T.t.ng, (w4.mono m2).mono sm, rfl, by show 2 ≤ sizeLine; decide, fun p np => fin p _ np (new_same np) upd_same⟩
      · exact ⟨rfl, _, rfl, b5, cT, _, v, rfl, T.t.T, T.t.nf, (w5.mono m2).mono sm, rfl, _, rfl, b5, cT, _, u, rfl, T.t.T, T.t.ng, (w5.mono m2).mono sm, rfl, by show 2 ≤ sizeLine; decide, fun p np => fin p _ np (new_same np) upd_same⟩
      · exact ⟨rfl, _, rfl, b6, cT, _, v, rfl, T.t.T, T.t.nf, (w6.mono m2).mono sm, rfl, _, rfl, b6, cT, _, u, rfl, T.t.T, T.t.ng, (w6.mono m2).mono sm, rfl, by show 2 ≤ sizeLine; decide, fun p np => fin p _ np (new_same np) upd_same⟩
    refine ⟨v, rfl, u, rfl, by show 2 ≤ sizeLine; decide, fun fE2 nfE2 => ⟨by show 1 ≤ sizeLine; decide, fun gE2 ngE2 => ⟨gE2, 3, [.ref fE2], rfl, rfl, upd_same, by decide, by decide, by show 1 * 3 ≤ sizeLine; decide, fun hE2 nhE2 => ?_⟩⟩⟩
    have zE2 := ((new_same (o := .lst [v, u]) nfE2).trans (new_same (o := .lst [.ref fE2]) ngE2)).trans (new_same (o := .lst [.ref fE2, .ref fE2, .ref fE2]) nhE2)
    have f_at : upd (upd (upd M2 fE2 (.lst [v, u])) gE2 (.lst [.ref fE2])) hE2 (.lst [.ref fE2, .ref fE2, .ref fE2]) fE2 = some (.lst [v, u]) := (new_same (o := .lst [.ref fE2, .ref fE2, .ref fE2]) nhE2) _ _ ((new_same (o := .lst [.ref fE2]) ngE2) _ _ upd_same)
    refine ⟨E2, hE2, _, List.replicate psE2.length (.ref fE2), rfl, rfl, .inl (.inl (rE2.mono zE2).at_), .inl (.inl (upd_same.trans (by rw [lE2]; rfl))), rows_rep f_at mes (fun j p e => (rE2.mono zE2).row j p e), false, rfl, ?_⟩
    have m4 := (m2.trans m3).trans zE2
    -- the families
    have t6 := t5.trans m4
    have at_a6 := t6 _ _ at_a
    have at_b6 := t6 _ _ at_b
    have at_c6 := m4 _ _ at_c
    have at_d6 := m4 _ _ at_d
    refine ⟨_, rfl, _, rfl, La, Lb, _, _, rfl, rfl, at_a6, at_b6, by show 2 + 2 ≤ sizeLine; decide, fun Le nLe => ?_⟩
    have r_e := new_same (o := .lst ([V.ref a1, V.ref a2] ++ [V.ref a3, V.ref a4])) nLe
    refine ⟨Le, rfl, ⟨_, .inl (.inl upd_same)⟩, fun D3 nD3 => lc_true nD3 upd_same (by show 4 ≤ 1000; decide) (fun x hx H' R sm fin => ?_) (fun N1 j1 h1 => ⟨_, _, rfl, all_seq h1, true, all_bl _, ?_⟩)⟩
    · have k := t6.trans (r_e.trans sm)
      have one : ∃ e C, x = .ref e ∧ Ob H' e C ∧ Fam K b C 0 := by
        simp only [List.cons_append, List.nil_append, List.mem_cons, List.not_mem_nil, or_false] at hx
        rcases hx with rfl | rfl | rfl | rfl
        · exact ⟨a1, c 2, rfl, .inl ⟨_, p1.mono k⟩, T.fa 2 (by decide)⟩
        · exact ⟨a2, c 2, rfl, .inl ⟨_, p2.mono k⟩, T.fa 2 (by decide)⟩
        · exact ⟨a3, c 14, rfl, .inl ⟨_, p3.mono k⟩, T.fa 14 (by decide)⟩
        · exact ⟨a4, c 14, rfl, .inl ⟨_, p4.mono k⟩, T.fa 14 (by decide)⟩
      obtain ⟨e, C, rfl, oe, fe⟩ := one
      exact ⟨rfl, _, rfl, e, C, 0, rfl, oe, fe, fun p Hp sp tp => ⟨0, rfl, fun q Hq sq tq => ⟨p, q, 0, rfl, rfl, tp.mono sq, tq, fin _ (sp.trans sq)⟩⟩⟩
    have t7 := r_e.trans j1
    have at_c7 := t7 _ _ at_c6
    have at_d7 := t7 _ _ at_d6
    refine ⟨_, rfl, fun g1 K1 ng1 v1 og1 => fun g2 K2 ng2 v2 og2 => ⟨by show 2 ≤ sizeLine; decide, fun Lf nLf => ⟨Lc, Lf, _, _, rfl, rfl, (new_same nLf) _ _ (v2 _ _ (v1 _ _ at_c7)), upd_same, by show 3 + 2 ≤ sizeLine; decide, fun Lg nLg => ?_⟩⟩⟩
    have r_f := (new_same (o := .lst [.ref g1, .ref g2]) nLf).trans (new_same (o := .lst ([V.ref b1, V.ref b2, V.ref b3] ++ [V.ref g1, V.ref g2])) nLg)
    have t8 := t7.trans ((v1.trans v2).trans r_f)
    have og1' := r_f _ _ (v2 _ _ og1)
    have og2' := r_f _ _ og2
    have at_d8 := t8 _ _ at_d6
    have at_g : upd (upd K2 Lf (.lst [.ref g1, .ref g2])) Lg (.lst ([V.ref b1, V.ref b2, V.ref b3] ++ [V.ref g1, V.ref g2])) Lg = some (.lst ([V.ref b1, V.ref b2, V.ref b3] ++ [V.ref g1, V.ref g2])) := upd_same
    refine ⟨_, rfl, Ld, rfl, ⟨_, .inl (.inl at_d8)⟩, fun D4 nD4 => lc_true nD4 at_d8 (by show 3 ≤ 1000; decide) (fun x hx H' R sm fin => ?_) (fun N2 j2 h2 => ⟨_, _, rfl, all_seq h2, true, all_bl _, ?_⟩)⟩
    · have k := m4.trans (t8.trans sm)
      have one : ∃ e, x = .ref e ∧ Ob H' e cT := by
        simp only [List.mem_cons, List.not_mem_nil, or_false] at hx
        rcases hx with rfl | rfl | rfl
        · exact ⟨b4, rfl, .inl ⟨_, w4.mono k⟩⟩
        · exact ⟨b5, rfl, .inl ⟨_, w5.mono k⟩⟩
        · exact ⟨b6, rfl, .inl ⟨_, w6.mono k⟩⟩
      obtain ⟨e, rfl, oe⟩ := one
      exact ⟨rfl, _, rfl, e, cT, 3, rfl, oe, T.ft, fun p Hp sp tp => ⟨3, rfl, fun q Hq sq tq => ⟨p, q, 3, rfl, rfl, tp.mono sq, tq, fin _ (sp.trans sq)⟩⟩⟩
    refine ⟨_, rfl, Lg, rfl, ⟨_, .inl (.inl (j2 _ _ at_g))⟩, fun D5 nD5 => lc_true nD5 (j2 _ _ at_g) (by show 5 ≤ 1000; decide) (fun x hx H' R sm fin => ?_) (fun N3 j3 h3 => ⟨_, _, rfl, all_seq h3, by rw [all_bl]; exact go _ ((((s0.trans t6).trans t8).trans j2).trans j3)⟩)⟩
    · have k0 := j2.trans sm
      have k := m4.trans (t8.trans k0)
      have one : ∃ e C, x = .ref e ∧ Ob H' e C ∧ Fam K b C 2 := by
        simp only [List.cons_append, List.nil_append, List.mem_cons, List.not_mem_nil, or_false] at hx
        rcases hx with rfl | rfl | rfl | rfl | rfl
        · exact ⟨b1, z 2, rfl, .inl ⟨_, w1.mono k⟩, T.fz 2 (by decide)⟩
        · exact ⟨b2, z 2, rfl, .inl ⟨_, w2.mono k⟩, T.fz 2 (by decide)⟩
        · exact ⟨b3, z 2, rfl, .inl ⟨_, w3.mono k⟩, T.fz 2 (by decide)⟩
        · exact ⟨g1, z 3, rfl, .inr (k0 _ _ og1'), T.fz 3 (by decide)⟩
        · exact ⟨g2, z 6, rfl, .inr (k0 _ _ og2'), T.fz 6 (by decide)⟩
      obtain ⟨e, C, rfl, oe, fe⟩ := one
      exact ⟨rfl, _, rfl, e, C, 2, rfl, oe, fe, fun p Hp sp tp => ⟨2, rfl, fun q Hq sq tq => ⟨p, q, 2, rfl, rfl, tp.mono sq, tq, fin _ (sp.trans sq)⟩⟩⟩
end
end E18

set_option Elab.async false
set_option linter.all false
set_option maxRecDepth 100000
set_option maxHeartbeats 8000000
namespace E18
open L2 PySem PySem.Spec PyProof.Rows
/-! ### the pot that is drawn from -/
def PotAt (H : Hp) (a : Addr) : Prop := ∃ x y : Int, H a = some (.lst [.int x, .int y]) ∧ 0 ≤ x ∧ 0 ≤ y ∧ y < 2147483630
/-- all but what stands at a is as it was -/
def SameB (a : Addr) (H H' : Hp) : Prop := ∀ b o, H b = some o → b ≠ a → H' b = some o
theorem SameB.of {a : Addr} {H H' : Hp} (s : Same H H') : SameB a H H' := fun b o e _ => s b o e
theorem SameB.trans {a : Addr} {H H1 H2 : Hp} (s : SameB a H H1) (t : SameB a H1 H2) : SameB a H H2 := fun b o e n => t b o (s b o e n) n
theorem SameB.del {a : Addr} {H H' : Hp} (s : SameB a H H') : Same (del H a) (del H' a) := fun b o e => by
  by_cases h : b = a
  · rw [h, del_same] at e
    cases e
  · rw [del_ne h] at e ⊢
    exact s b o e h
theorem del_sub {a : Addr} {H : Hp} : Same (del H a) H := fun b o e => by
  by_cases h : b = a
  · rw [h, del_same] at e
    cases e
  · rw [del_ne h] at e
    exact e
def spPot (K : PySem.W.Frag) : Sp := fun vs H Q _ => ∃ (a : Addr) (ns : List Int) (k : Nat), vs = [.ref a, .int k] ∧ SqL K H a (ns.map V.int) ∧ k < 3 ∧ ns.length ≤ 63 ∧ ∀ p H', H p = none → Same H H' → PotAt H' p → Q (.ref p) H'
def spDraw : Sp := fun vs H Q _ => ∃ (a : Addr) (m : Int), vs = [.ref a, .int m] ∧ PotAt H a ∧ 0 < m ∧ m < 1073741824 ∧ ∀ (d : Int) H', 0 ≤ d → d < m → PotAt H' a → SameB a H H' → Q (.int d) H'
def spChoice : Sp := fun vs H Q _ => ∃ (a l : Addr) (xs : List V), vs = [.ref a, .ref l] ∧ PotAt H a ∧ H l = some (.lst xs) ∧ l ≠ a ∧ 0 < xs.length ∧ xs.length ≤ 1000 ∧ ∀ x ∈ xs, ∀ H', PotAt H' a → SameB a H H' → Q x H'
theorem small_mod (i : Int) : 0 ≤ i % 2147483629 ∧ i % 2147483629 < 2147483629 := ⟨Int.emod_nonneg _ (by decide), Int.emod_lt_of_pos _ (by decide)⟩
section
variable {P : Program} {w : World} {K : PySem.W.Frag} {mg : Str → Option Value} {base : Heap} {b c z : Nat → Addr} {cU cT : Addr} {f : Addr} {fd : FuncData}
theorem scPot : FnScope ["_law_script", "_law_k", "_law_cell"] ["_law_script", "_law_k"] (defScope sPot) := ⟨rfl, rfl, rfl, by decide +kernel, rfl, by decide +kernel, by decide +kernel⟩
theorem ok_pot (N : Nam mg b) (F : Fun K "_law_pot" "_law_pot" sPot f fd) : FnOk P w K mg base CX0 1 f fd ["_law_script", "_law_k"] (spPot K) := by
  refine F.ok scPot (fun vs H Q E h => ?_) (fun cdv A outer s H vs Q E hr h => ?_)
  · obtain ⟨a, ns, k, rfl, _⟩ := h
    rfl
  · obtain ⟨a, ns, k, rfl, hS, hk, hl, go⟩ := h
    refine ⟨_, pss_cons (ps_set (i := 2) scPot.nd rfl (Or.inl rfl) (pe_op op_add (pe_op op_mul pe_int (pv 1)) pe_int))
      (pss_cons (ps_if (pt_cmpR op_lt (pv 1) (pe_callB call_len_seq rfl N.len PySem.boot_len (pa_cons (pv 0) pa_nil)) (nomark _))
        (pss_one (ps_set (i := 2) scPot.nd rfl (Or.inl rfl) (pe_callB call_abs rfl N.ab PyProof.Rows.boot_abs (pa_cons (pe_ix ix_list (pv 0) (pv 1) (fun _ _ => rfl)) pa_nil)))) pss_nil)
      (pss_one (ps_ret (pe_lst (pa_cons (pe_callB (call_max2 rfl) rfl N.mx PyProof.Rows.boot_max (pa_cons pe_int (pa_cons (pe_op op_sub (pv 2) (pe_op op_pow pe_int pe_int)) pa_nil)))
        (pa_cons (pe_op op_add (pe_op op_mod (pe_callTy call_int1 rfl N.int_ PyProof.Rows.boot_int (pa_cons (pe_op op_add (pe_op op_add (pe_op op_mul (pe_op op_mod (pe_callTy call_int1 rfl N.int_ PyProof.Rows.boot_int (pa_cons (pv 2) pa_nil)) pe_int) pe_int) (pe_op op_mul pe_int (pv 1))) pe_int) pa_nil)) pe_int) pe_int) pa_nil)))))), ?_⟩
    refine ⟨_, rfl, 79, k, rfl, rfl, .inl ⟨by decide, by decide⟩, _, _, rfl, rfl, ?_⟩
    refine ⟨_, rfl, _, rfl, a, _, rfl, .inl hS, _, _, rfl, rfl, _, rfl, ?_⟩
    refine ite2 (fun lt => ?_) (fun _ => ?_)
    · have lt' : (k : Int) < ((ns.map V.int).length : Int) := of_decide_eq_true lt
      rw [List.length_map] at lt'
      have ltn : k < ns.length := by omega
      have hat : atI (ns.map V.int) (k : Int) = some (.int ns[k]) := atI_nat (by rw [List.getElem?_map, List.getElem?_eq_getElem ltn]; rfl)
      refine ⟨_, rfl, _, rfl, a, _, k, _, rfl, rfl, hS, hat, _, rfl, ?_⟩
      refine ⟨_, rfl, 10, 18, rfl, rfl, ⟨by decide, by decide, by decide⟩, _, _, rfl, rfl, 0, _, rfl, ?_⟩
      refine ⟨_, rfl, .inl ⟨_, rfl, _, 2147483563, rfl, rfl, by show (0:Int) < 2147483563; decide, _, 35993, rfl, rfl, .inr ⟨by decide, by decide⟩, _, rfl, 19013, k, rfl, rfl, .inl ⟨by decide, by decide⟩, _, _, rfl, rfl, _, _, rfl, rfl, .inl ⟨_, rfl, _, 2147483629, rfl, rfl, by show (0:Int) < 2147483629; decide, _, _, rfl, rfl, by show 2 ≤ sizeLine; decide, fun p np => ?_⟩⟩⟩
      refine go p _ np (new_same np) ⟨_, _, upd_same, ?_, ?_, ?_⟩
      · split <;> omega
      · have := (small_mod ((if ns[k] < 0 then -ns[k] else ns[k]) % 2147483563 * 35993 + 19013 * ↑k + 67)).1
        omega
      · have := (small_mod ((if ns[k] < 0 then -ns[k] else ns[k]) % 2147483563 * 35993 + 19013 * ↑k + 67)).2
        omega
    · refine ⟨_, rfl, 10, 18, rfl, rfl, ⟨by decide, by decide, by decide⟩, _, _, rfl, rfl, 0, _, rfl, ?_⟩
      refine ⟨_, rfl, .inl ⟨_, rfl, _, 2147483563, rfl, rfl, by show (0:Int) < 2147483563; decide, _, 35993, rfl, rfl, .inr ⟨by decide, by decide⟩, _, rfl, 19013, k, rfl, rfl, .inl ⟨by decide, by decide⟩, _, _, rfl, rfl, _, _, rfl, rfl, .inl ⟨_, rfl, _, 2147483629, rfl, rfl, by show (0:Int) < 2147483629; decide, _, _, rfl, rfl, by show 2 ≤ sizeLine; decide, fun p np => ?_⟩⟩⟩
      refine go p _ np (new_same np) ⟨_, _, upd_same, ?_, ?_, ?_⟩
      · split <;> omega
      · have := (small_mod ((79 * (k : Int) + 31) % 2147483563 * 35993 + 19013 * ↑k + 67)).1
        omega
      · have := (small_mod ((79 * (k : Int) + 31) % 2147483563 * 35993 + 19013 * ↑k + 67)).2
        omega
theorem scDraw : FnScope ["_law_pot_here", "_law_many", "_law_digit"] ["_law_pot_here", "_law_many"] (defScope sDraw) := ⟨rfl, rfl, rfl, by decide +kernel, rfl, by decide +kernel, by decide +kernel⟩
theorem ok_draw (N : Nam mg b) (F : Fun K "_law_draw" "_law_draw" sDraw f fd) : FnOk P w K mg base CX0 1 f fd ["_law_pot_here", "_law_many"] spDraw := by
  refine F.ok scDraw (fun vs H Q E h => ?_) (fun cdv A outer s H vs Q E hr h => ?_)
  · obtain ⟨a, m, rfl, _⟩ := h
    rfl
  · obtain ⟨a, m, rfl, ⟨x, y, ha, hx, hy, hz⟩, h0, hm, go⟩ := h
    refine ⟨_, pss_cons (ps_if (pt_cmpR op_gt (pe_ix ix_list (pv 0) pe_int (fun _ _ => rfl)) pe_int (nomark _))
        (pss_cons (ps_asg (pe_callB call_divmod rfl N.dm PyProof.Rows.boot_divmod (pa_cons (pe_ix ix_list (pv 0) pe_int (fun _ _ => rfl)) (pa_cons (pv 1) pa_nil)))
            (pg_tup (by rfl) (pgs_cons (pg_sub (pv 0) pe_int set_list) (pgs_cons (pg_name (i := 2) scDraw.nd rfl (Or.inl rfl)) pgs_nil))))
          (pss_one (ps_ret (pv 2)))) pss_nil)
      (pss_cons (ps_asg (pe_op op_mod (pe_callTy call_int1 rfl N.int_ PyProof.Rows.boot_int (pa_cons (pe_op op_add (pe_op op_mul (pe_ix ix_list (pv 0) pe_int (fun _ _ => rfl)) pe_int) pe_int) pa_nil)) pe_int) (pg_sub (pv 0) pe_int set_list))
      (pss_one (ps_ret (pe_op op_mod (pe_callTy call_int1 rfl N.int_ PyProof.Rows.boot_int (pa_cons (pe_op op_fdiv (pe_op op_mod (pe_callTy call_int1 rfl N.int_ PyProof.Rows.boot_int (pa_cons (pe_op op_mul (pe_ix ix_list (pv 0) pe_int (fun _ _ => rfl)) (pe_ix ix_list (pv 0) pe_int (fun _ _ => rfl))) pa_nil)) pe_int) pe_int) pa_nil)) (pv 1))))), ?_⟩
    refine ⟨_, rfl, a, _, 0, _, rfl, rfl, .inl (.inl ha), rfl, _, _, rfl, rfl, _, rfl, ?_⟩
    refine ite2 (fun gt => ?_) (fun _ => ?_)
    · have gt' : (0 : Int) < x := of_decide_eq_true gt
      refine ⟨_, rfl, a, _, 0, _, rfl, rfl, .inl (.inl ha), rfl, _, rfl, _, _, rfl, ⟨h0, hm⟩, fun t nt => ?_⟩
      have at1 : upd H t (.tup [.int (x / m), .int (x % m)]) a = some (.lst [.int x, .int y]) := (upd_ne (ne_of_none ha nt)).trans ha
      refine ⟨t, _, rfl, .inl (.inl upd_same), rfl, _, _, rfl, ?_⟩
      refine ⟨_, rfl, a, _, 0, 0, rfl, rfl, at1, rfl, _, _, rfl, rfl, ?_⟩
      refine ⟨_, rfl, go (x % m) _ (Int.emod_nonneg _ (by omega)) (Int.emod_lt_of_pos _ h0) ⟨x / m, y, upd_same, Int.ediv_nonneg hx (by omega), hy, hz⟩ fun c o e n => ?_⟩
      rw [upd_ne n]
      exact (upd_ne (ne_of_none e nt)).trans e
    · refine ⟨_, rfl, a, _, 1, _, rfl, rfl, .inl (.inl ha), rfl, _, 39989, rfl, rfl, .inr ⟨by decide, by decide⟩, _, _, rfl, rfl, .inl ⟨_, rfl, _, 2147483629, rfl, rfl, by show (0:Int) < 2147483629; decide, ?_⟩⟩
      have sm := small_mod (y * 39989 + 30011)
      refine ⟨_, rfl, a, _, 1, 1, rfl, rfl, ha, rfl, ?_⟩
      have at2 : upd H a (.lst ([V.int x, V.int y].set 1 (.int ((y * 39989 + 30011) % 2147483629)))) a = some (.lst [.int x, .int ((y * 39989 + 30011) % 2147483629)]) := upd_same
      refine ⟨_, rfl, a, _, 1, _, rfl, rfl, .inl (.inl at2), rfl, _, rfl, a, _, 1, _, rfl, rfl, .inl (.inl at2), rfl, _, _, rfl, rfl, .inl ⟨by omega, by omega⟩, .inl ⟨_, rfl, _, 2147483549, rfl, rfl, by show (0:Int) < 2147483549; decide, _, 23, rfl, rfl, ⟨by decide, by decide⟩, .inl ⟨_, rfl, _, rfl, _, _, rfl, rfl, h0, ?_⟩⟩⟩
      exact go _ _ (Int.emod_nonneg _ (by omega)) (Int.emod_lt_of_pos _ h0) ⟨x, ((y * 39989 + 30011) % 2147483629), at2, hx, by omega, by omega⟩ fun c o e n => (upd_ne n).trans e
theorem scChoice : FnScope ["_law_pot_here", "_law_some"] ["_law_pot_here", "_law_some"] (defScope sChoice) := ⟨rfl, rfl, rfl, by decide +kernel, rfl, by decide +kernel, by decide +kernel⟩
theorem call2 {X : Cx} {x a a' : Str} {k : Nat} {sp : Sp} {e e' : Expr} {te te' : TE} {p pos : Pos} (D : Def X.prog X.w X.K X.mg X.base x [a, a'] k sp) (hr : Room k X.A) (hg : Gl X x) (he : PE X e te) (he' : PE X e' te') (hdb : (x == ("__debug__" : Str)) = false := by decide)
    (hs' : starEach [e'] X.env = (false, eval e' X.env) :: starEach [] X.env := by rfl) (hs : starEach [e, e'] X.env = (false, eval e X.env) :: starEach [e'] X.env := by rfl) : PE X (.Call (.Name x p) [e, e'] [] pos) (tCall sp [] E0 (tCons te (tCons te' tNil))) := by
  obtain ⟨f, fd, h1, h2, h3, h4⟩ := D.ex
  exact pe_call h1 hr hg h2 h3 h4 .nil pass0 (pa_cons he (pa_cons he' pa_nil hs') hs) hdb hs (by rw [hs']; rfl)
theorem ok_choice (N : Nam mg b) (DD : Def P w K mg base "_law_draw" ["_law_pot_here", "_law_many"] 1 spDraw) (F : Fun K "_law_choice" "_law_choice" sChoice f fd) : FnOk P w K mg base CX0 2 f fd ["_law_pot_here", "_law_some"] spChoice := by
  refine F.ok scChoice (fun vs H Q E h => ?_) (fun cdv A outer s H vs Q E hr h => ?_)
  · obtain ⟨a, l, xs, rfl, _⟩ := h
    rfl
  · obtain ⟨a, l, xs, rfl, hp, hl, ne, pos, small, go⟩ := h
    refine ⟨_, pss_one (ps_ret (pe_ix ix_list (pv 1) (call2 DD hr rfl (pv 0) (pe_callB call_len_seq rfl N.len PySem.boot_len (pa_cons (pv 1) pa_nil))) (fun _ _ => rfl))), ?_⟩
    refine ⟨_, rfl, _, rfl, _, rfl, l, _, rfl, .inl (.inl (.inl hl)), a, _, rfl, hp, by omega, by omega, fun d H' d0 dm pa sb => ?_⟩
    have hl' := sb _ _ hl ne
    obtain ⟨n, rfl⟩ := Int.eq_ofNat_of_zero_le d0
    have lt : n < xs.length := by omega
    exact ⟨l, xs, _, xs[n], rfl, rfl, .inl (.inl hl'), atI_nat (List.getElem?_eq_getElem lt), go _ (List.getElem_mem lt) _ pa sb⟩
end
end E18

set_option Elab.async false
set_option linter.all false
set_option maxRecDepth 100000
set_option maxHeartbeats 8000000
namespace E18
open L2 PySem PySem.Spec PyProof.Rows
/-! ### expressions that make data -/
/-- the heap without what a test finds -/
def cut (E : Addr → Bool) (H : Hp) : Hp := fun b => if E b then none else H b
theorem cut_no {E : Addr → Bool} {H : Hp} {b : Addr} (h : E b = false) : cut E H b = H b := by
  unfold cut
  rw [h]
  rfl
theorem cut_at {E : Addr → Bool} {H : Hp} {b : Addr} {o : HO} (h : cut E H b = some o) : E b = false ∧ H b = some o := by
  unfold cut at h
  cases e : E b with
  | true => rw [e] at h; cases h
  | false => rw [e] at h; exact ⟨rfl, h⟩
theorem cut_mono {E : Addr → Bool} {H H' : Hp} (s : Same H H') : Same (cut E H) (cut E H') := fun b o e => by
  obtain ⟨h1, h2⟩ := cut_at e
  rw [cut_no h1]
  exact s _ _ h2
theorem tiny_val {H : Hp} {x : V} {d : PyData} (t : tiny x = some d) : ∀ n, Val H n x d
  | 0 => t
  | _ + 1 => .inl t
def Num (σ : L2.St) : Prop := ∃ n : Int, σ[1]? = some (some (.int n)) ∧ 0 ≤ n ∧ n < 1000000000
/-- some data of depth n, new but for what E finds -/
def tOk (n : Nat) : TE := fun σ H Q => Num σ ∧ ∃ E : Addr → Bool, (∀ b, E b = true → H b ≠ none) ∧ ∀ v d H', Same H H' → Val (cut E H') n v d → Q v H'
def tOks (n k : Nat) : TA := fun σ H Q => Num σ ∧ ∃ E : Addr → Bool, (∀ b, E b = true → H b ≠ none) ∧ ∀ vs ds H', Same H H' → Paired (Val (cut E H') n) vs ds → vs.length = k → Q vs H'
theorem PA.wk {X : Cx} {es : List Expr} {t t' : TA} (h : PA X es t) (i : ∀ σ H Q, t' σ H Q → t σ H Q) : PA X es t' := ⟨fun pos pins s σ H Q I q => h.run pos pins s σ H Q I (i σ H Q q)⟩
theorem stays {H H' : Hp} {E : Addr → Bool} (h : ∀ b, E b = true → H b ≠ none) (s : Same H H') : ∀ b, E b = true → H' b ≠ none := fun b e q => by
  cases z : H b with
  | none => exact h b e z
  | some o =>
    rw [s _ _ z] at q
    cases q
theorem fresh_out {H : Hp} {E : Addr → Bool} {p : Addr} (h : ∀ b, E b = true → H b ≠ none) (np : H p = none) : E p = false := by
  cases z : E p with
  | false => rfl
  | true => exact absurd np (h p z)
theorem new_at {H : Hp} {E : Addr → Bool} {p : Addr} {o : HO} (h : E p = false) : cut E (upd H p o) p = some o := by rw [cut_no h]; exact upd_same
theorem trans2 {H H1 H2 : Hp} (s : Same H H1) (t : Same H1 H2) : Same H H2 := fun b o e => t b o (s b o e)
theorem t_small {i : Int} (h0 : 0 ≤ i) (h9 : i < 1000000000) : tiny (.int i) = some (.int i) := if_pos (show i.natAbs < 10 ^ 70 by omega)
theorem two_line {k : Nat} {l : List V} (e : l.length = k) (h : k ≤ 2) : l.length ≤ sizeLine := Nat.le_trans (e ▸ h) (show 2 ≤ sizeLine by decide)
section
variable {X : Cx} {pos : Pos} {n k : Nat}
theorem ok_c {e : Expr} {v : V} {d : PyData} (h : PE X e (tC v)) (t : tiny v = some d) : PE X e (tOk n) :=
  PE.wk h fun _ H _ ⟨_, _, _, go⟩ => go v d H (Same.refl H) (tiny_val t n)
theorem ok_get {e : Expr} {t : TE} {v : V} {d : PyData} (h : PE X e t) (ti : tiny v = some d) (i : ∀ {σ H Q}, Q v H → t σ H Q) : PE X e (tOk n) :=
  PE.wk h fun _ H _ ⟨_, _, _, go⟩ => i (go v d H (Same.refl H) (tiny_val ti n))
theorem ok_number {e : Expr} (h : PE X e (tVar 1)) : PE X e (tOk n) :=
  PE.wk h fun _ H _ ⟨⟨i, hi, h0, h9⟩, _, _, go⟩ => ⟨_, hi, go (.int i) (.int i) H (Same.refl H) (tiny_val (t_small h0 h9) n)⟩
theorem oks_nil : PA X [] (tOks n 0) := PA.wk pa_nil fun _ H _ ⟨_, _, _, go⟩ => go [] [] H (Same.refl H) .nil rfl
theorem oks_cons {e : Expr} {es : List Expr} (h : PE X e (tOk n)) (t : PA X es (tOks n k)) (hs : starEach (e :: es) X.env = (false, eval e X.env) :: starEach es X.env := by rfl) : PA X (e :: es) (tOks n (k + 1)) :=
  PA.wk (pa_cons h t hs) fun σ H Q ⟨N, E, hE, go⟩ => ⟨N, E, hE, fun v d H1 s1 w1 => ⟨N, E, stays hE s1, fun vs ds H2 s2 w2 l =>
    go (v :: vs) (d :: ds) H2 (trans2 s1 s2) (.cons (Val.mono (cut_mono s2) n w1) w2) (congrArg (· + 1) l)⟩⟩
/-- a list display, whose place is not that of the modules -/
def tLstN (t : TA) : TE := fun σ H Q => t σ H fun ys H1 => ys.length ≤ sizeLine ∧ ∀ q, H1 q = none → q ≠ sysModules → Q (.ref q) (upd H1 q (.lst ys))
theorem pe_lstN {es : List Expr} {t : TA} (h : PA X es t) : PE X (.List es pos) (tLstN t) := ⟨fun pins s σ H Q I hq => wpAny_List_spliced (thn (h.run pos pins s σ H _ I hq) fun us s1 ⟨ys, H1, I1, r, z, q⟩ =>
  ⟨by rw [← r.length]; exact z, .ref s1.heap.objs.size, upd H1 s1.heap.objs.size (.lst ys),
    I1.laid (t' := s1.toks) (fun b u e => Heap.get?_push_of_some _ e) (Nat.le_refl _) ⟨z, us, 0, r, Heap.get?_push_size _ rfl⟩, rfl,
    q _ (I1.hok.fresh (Nat.le_refl _)) (Nat.ne_of_gt I1.big)⟩)⟩
theorem ok_lst {es : List Expr} (h : PA X es (tOks n k)) (hk : k ≤ 2) : PE X (.List es pos) (tOk (n + 1)) :=
  PE.wk (pe_lstN h) fun σ H Q ⟨N, E, hE, go⟩ => ⟨N, E, hE, fun vs ds H1 s1 w l => ⟨two_line l hk, fun p np ns =>
    go (.ref p) (.list ds) _ (trans2 s1 (new_same np)) (.inr (.inl ⟨p, vs, ds, rfl, ns, new_at (fresh_out (stays hE s1) np), rfl, by omega, Paired.wk w fun _ _ => Val.mono (cut_mono (new_same np)) n⟩))⟩⟩
theorem ok_tup {x1 : Nat} {es : List Expr} (h : PA X es (tOks n k)) (hk : k ≤ 2) : PE X (.Tuple es x1 pos) (tOk (n + 1)) :=
  PE.wk (pe_tup h) fun σ H Q ⟨N, E, hE, go⟩ => ⟨N, E, hE, fun vs ds H1 s1 w l => ⟨two_line l hk, fun p np =>
    go (.ref p) (.tuple ds) _ (trans2 s1 (new_same np)) (.inr (.inr (.inl ⟨p, vs, ds, rfl, new_at (fresh_out (stays hE s1) np), rfl, by omega, Paired.wk w fun _ _ => Val.mono (cut_mono (new_same np)) n⟩)))⟩⟩
theorem ok_nodict : PE X (.Dict [] [] pos) (tOk (n + 1)) :=
  PE.wk pe_dnewK fun σ H Q ⟨N, E, hE, go⟩ p np => go (.ref p) (.dict []) _ (new_same np) (.inr (.inr (.inr (.inl ⟨p, rfl, new_at (fresh_out hE np), rfl⟩))))
theorem ok_dict {e e' : Expr} {ky : Key} {kd : PyData} (h : PE X e (tC (kV ky))) (tk : tiny (kV ky) = some kd) (h' : PE X e' (tOk n)) : PE X (.Dict [some e] [e'] pos) (tOk (n + 1)) := by
  refine PE.wk (pe_disp (pps_cons h h' pps_nil) rfl rfl (by intro q; cases q) (by show 1 ≤ 15; decide)) fun σ H Q ⟨N, E, hE, go⟩ p np => ?_
  have hp : E p = false := fresh_out hE np
  refine ⟨N, fun b => E b || b == p, fun b hb => ?_, fun v d H1 s1 w1 => ?_⟩
  · by_cases e : b = p
    · rw [e, upd_same]
      exact fun q => by cases q
    · rw [upd_ne e]
      refine hE b ?_
      rcases Bool.or_eq_true_iff.mp hb with q | q
      · exact q
      · exact absurd (eq_of_beq q) e
  · refine ⟨s1 _ _ upd_same, [(ky, v)], rfl, by show 1 ≤ 15; decide, ?_⟩
    refine go (.ref p) (.dict [(kd, d)]) _ (fun b o e => ?_) (.inr (.inr (.inr (.inr ⟨p, ky, v, kd, d, rfl, new_at hp, rfl, tk, Val.mono (fun b o e => ?_) n w1⟩))))
    · have ne := ne_of_none e np
      rw [upd_ne ne]
      exact s1 _ _ ((upd_ne ne).trans e)
    · obtain ⟨h1, h2⟩ := cut_at e
      obtain ⟨h3, h4⟩ := Bool.or_eq_false_iff.mp h1
      have ne : b ≠ p := fun q => by
        rw [q, beq_self_eq_true] at h4
        cases h4
      rw [cut_no h3, upd_ne ne]
      exact h2
end
end E18

set_option Elab.async false
set_option linter.all false
set_option maxRecDepth 100000
set_option maxHeartbeats 8000000
namespace E18
open L2 PySem PySem.Spec PyProof.Rows
/-- a pot gives a value that is data of depth 2, apart from the pot -/
def spValue : Sp := fun vs H Q _ => ∃ a : Addr, vs = [.ref a] ∧ PotAt H a ∧ ∀ v d H', Val (del H' a) 2 v d → PotAt H' a → SameB a H H' → Q v H'
theorem cut_del {H : Hp} {a : Addr} : Same (cut (fun b => b == a) H) (del H a) := fun b o e => by
  obtain ⟨h1, h2⟩ := cut_at e
  have ne : b ≠ a := fun q => by
    rw [q] at h1
    simp at h1
  exact (del_ne ne).trans h2
theorem paired_mem {F : V → PyData → Prop} : ∀ {xs : List V} {ds : List PyData}, Paired F xs ds → ∀ x ∈ xs, ∃ d, F x d
  | _, _, .nil, _, h => by cases h
  | _, _, .cons r t, x, h => by
    rcases List.mem_cons.mp h with e | h
    · exact ⟨_, e ▸ r⟩
    · exact paired_mem t x h
theorem t_str {z : Str} (h : (reprText z).length ≤ 100) : tiny (.str z) = some (.str z) := if_pos h
theorem tiny_e : tiny (.str "") = some (.str "") := t_str (by decide +kernel)
theorem tiny_a : tiny (.str "a") = some (.str "a") := t_str (by decide +kernel)
theorem tiny_n : tiny (.str "ann") = some (.str "ann") := t_str (by decide +kernel)
theorem tiny_x : tiny (.str "x y") = some (.str "x y") := t_str (by decide +kernel)
theorem tiny_b : tiny (.str "b") = some (.str "b") := t_str (by decide +kernel)
section
variable {P : Program} {w : World} {K : PySem.W.Frag} {mg : Str → Option Value} {base : Heap} {b c z : Nat → Addr} {cU cT : Addr} {f : Addr} {fd : FuncData}
theorem scValue : FnScope ["_law_pot_here", "_law_number", "_law_some"] ["_law_pot_here"] (defScope (top 36)) := ⟨rfl, rfl, rfl, by decide +kernel, rfl, by decide +kernel, by decide +kernel⟩
theorem ok_theValue (N : Nam mg b) (DD : Def P w K mg base "_law_draw" ["_law_pot_here", "_law_many"] 1 spDraw) (DC : Def P w K mg base "_law_choice" ["_law_pot_here", "_law_some"] 2 spChoice) (F : Fun K "_law_value" "_law_value" (top 36) f fd) :
    FnOk P w K mg base CX0 3 f fd ["_law_pot_here"] spValue := by
  refine F.ok scValue (fun vs H Q E h => ?_) (fun cdv A outer s H vs Q E hr h => ?_)
  · obtain ⟨a, rfl, _⟩ := h
    rfl
  · obtain ⟨a, rfl, hp, go⟩ := h
    refine ⟨_, pss_cons (ps_set (i := 1) scValue.nd rfl (Or.inl rfl) (call2 DD (hr.mono (by decide)) rfl (pv 0) (pe_op op_pow pe_int pe_int)))
      (pss_cons (ps_set (i := 2) scValue.nd rfl (Or.inl rfl) (pe_lst (oks_cons (n := 2) (ok_c pe_non rfl) (oks_cons (ok_c pe_bl rfl) (oks_cons (ok_c pe_bl rfl) (oks_cons (ok_c pe_int rfl) (oks_cons (ok_get (pe_un un_neg pe_int) (v := .int (-1)) rfl fun q => ⟨1, rfl, q⟩)
         (oks_cons (ok_number (pv 1)) (oks_cons (ok_get (pe_op op_pow pe_int pe_int) (v := .int (10 ^ 59)) rfl fun q => ⟨10, 59, rfl, rfl, ⟨by decide, by decide, by decide⟩, q⟩) (oks_cons (ok_c pe_str tiny_e) (oks_cons (ok_c pe_str tiny_a) (oks_cons (ok_c pe_str tiny_n) (oks_cons (ok_c pe_str tiny_x)
         (oks_cons (ok_tup oks_nil (by decide)) (oks_cons (ok_tup (oks_cons (ok_c pe_int rfl) (oks_cons (ok_c pe_str tiny_a) oks_nil)) (by decide)) (oks_cons (ok_lst oks_nil (by decide)) (oks_cons (ok_lst (oks_cons (ok_number (pv 1)) oks_nil) (by decide))
         (oks_cons ok_nodict oks_nil))))))))))))))))))
      (pss_one (ps_ret (call2 DC (hr.mono (by decide)) rfl (pv 0) (pe_op op_cat (pv 2) (pe_lst (oks_cons (n := 2) (ok_dict (ky := .inr "a") pe_str tiny_a (ok_lst (oks_cons (ok_c pe_int rfl) oks_nil) (by decide)))
         (oks_cons (ok_tup (oks_cons (ok_c pe_non rfl) (oks_cons (ok_lst (oks_cons (ok_c pe_int rfl) oks_nil) (by decide)) oks_nil)) (by decide))
         (oks_cons (ok_lst (oks_cons (ok_lst (oks_cons (ok_c pe_str tiny_b) oks_nil) (by decide)) (oks_cons ok_nodict oks_nil)) (by decide))
         (oks_cons (ok_dict (ky := .inl 5) pe_int rfl (ok_c pe_non rfl)) oks_nil)))))))))), ?_⟩
    refine ⟨_, rfl, 10, 9, rfl, rfl, ⟨by decide, by decide, by decide⟩, a, _, rfl, hp, by show (0:Int) < 10 ^ 9; decide, by show (10:Int) ^ 9 < 1073741824; decide, fun n H1 n0 n9 p1 s1 => ?_⟩
    obtain ⟨x0, y0, ha, hxy⟩ := p1
    have hN : Num [some (.ref a), some (.int n), none] := ⟨n, rfl, n0, n9⟩
    refine ⟨hN, fun b => b == a, fun b e q => ?_, fun xs ds H2 s2 w2 l2 => ⟨by rw [l2]; show 16 ≤ sizeLine; decide, fun l nl => ?_⟩⟩
    · rw [eq_of_beq e, ha] at q
      cases q
    have la : l ≠ a := (ne_of_none (s2 _ _ ha) nl).symm
    have s3 : Same H1 (upd H2 l (.lst xs)) := trans2 s2 (new_same nl)
    have a3 := s3 _ _ ha
    refine ⟨_, rfl, _, rfl, ⟨n, rfl, n0, n9⟩, fun b => b == a, fun b e q => ?_, fun ys es H4 s4 w4 l4 => ⟨by rw [l4]; show 4 ≤ sizeLine; decide, fun q nq => ?_⟩⟩
    · rw [eq_of_beq e, a3] at q
      cases q
    have a4 := s4 _ _ a3
    have s5 : Same (upd H2 l (.lst xs)) (upd H4 q (.lst ys)) := trans2 s4 (new_same nq)
    have s6 : Same H2 (upd H4 q (.lst ys)) := trans2 (new_same nl) s5
    refine ⟨l, q, xs, ys, rfl, rfl, s5 _ _ upd_same, upd_same, by rw [l2, l4]; show 20 ≤ sizeLine; decide, fun r nr => ?_⟩
    have a5 : upd H4 q (.lst ys) a = some (.lst [.int x0, .int y0]) := s5 _ _ a3
    have s7 := new_same (o := .lst (xs ++ ys)) nr
    have ra : r ≠ a := (ne_of_none a5 nr).symm
    refine ⟨a, r, xs ++ ys, rfl, ⟨x0, y0, s7 _ _ a5, hxy⟩, upd_same, ra, by rw [List.length_append, l2, l4]; decide, by rw [List.length_append, l2, l4]; decide, fun x hx H' p' s' => ?_⟩
    have all : ∃ d, Val (del (upd (upd H4 q (.lst ys)) r (.lst (xs ++ ys))) a) 2 x d := by
      rcases List.mem_append.mp hx with h | h
      · obtain ⟨d, hd⟩ := paired_mem w2 x h
        exact ⟨d, Val.mono (trans2 (cut_mono (trans2 s6 s7)) cut_del) 2 hd⟩
      · obtain ⟨d, hd⟩ := paired_mem w4 x h
        exact ⟨d, Val.mono (trans2 (cut_mono (trans2 (new_same nq) s7)) cut_del) 2 hd⟩
    obtain ⟨d, hd⟩ := all
    exact go x d H' (Val.mono (SameB.del s') 2 hd) p' (SameB.trans s1 (SameB.trans (SameB.of (trans2 s3 (trans2 s5 s7))) s'))
end
end E18

set_option Elab.async false
set_option linter.all false
set_option maxRecDepth 100000
set_option maxHeartbeats 8000000
namespace E18
open L2 PySem PySem.Spec PyProof.Rows
/-! ### defs that are called where no text of a container is being made -/
structure FnG (P : Program) (w : World) (K : PySem.W.Frag) (mg : Str → Option Value) (base : Heap) (k : Nat) (f : Addr) (fd : FuncData) (ps : List Str) (sp : Sp) : Prop where
  few : ∀ {vs H Q E}, sp vs H Q E → vs.length = ps.length
  goes : ∀ {A : Around} {fr : List Env} {s : Shared} {H : Hp} {ar : Args} {us : List Value} {vs : List V} {Q : VK} {E : XK}, A.guards = some [] → Room k A → Env0 P w K mg base A fr s H → BindsTo s fd ar (ps.zip us) → Vals vs us → sp vs H Q E →
    codeAny (model P w) A (.call (.ref f) ar) (CR CX0 fr P w H s Q E) s
section
variable {P : Program} {w : World} {K : PySem.W.Frag} {mg : Str → Option Value} {base : Heap} {k : Nat} {f : Addr} {fd : FuncData} {ps N : List Str} {sp : Sp}
theorem Fun.okG {x qual : Str} {st : Stmt} (F : Fun K x qual st f fd) (S : FnScope N ps (defScope st)) (few : ∀ {vs H Q E}, sp vs H Q E → vs.length = ps.length)
    (body : ∀ (cdv : Value) (A : Around) (fr : List Env) (s : Shared) (H : Hp) (vs : List V) (Q : VK) (E : XK), A.guards = some [] → Room k (A.deeper (envOfC qual (defScope st) s.heap.objs.size f cdv)) → sp vs H Q E →
      ∃ t, PSs (cxOf CX0 P w K mg base N qual (defScope st) f cdv A fr s H E).nox (defBody st) t ∧ t { nx := fun _ H' => Q .non H', rt := Q } (start N vs) H) : FnG P w K mg base (k + 1) f fd ps sp := by
  obtain ⟨oc, od, kV, doc, pm, an, cdv, ct, osl, rfl, lk, code⟩ := F.ex
  refine ⟨few, fun {A fr s H ar us vs Q E} hG room env bind val want => ?_⟩
  have inK : K.In s.heap := env.mod.kin.keeps fun c o e => (env.bs c o e).1
  refine codeAny_call_function room.depth (inK _ _ lk) rfl S.co S.gen rfl (PySem.W.codeRec_of inK code) (bind _ _ _ _ ?_)
  refine wpAny_newFunctionEnv_cells S.kind (fun ⟨n, v⟩ hy => (S.par n (List.of_mem_zip hy).1).elim .inl fun q => .inr ⟨q, PySem.W.cellsFrom_some _ _ _ (.inl q)⟩) fun own same s1 x => ?_
  subst same
  obtain ⟨t, T, wish⟩ := body cdv A fr s H vs Q E hG (room.deeper _) want
  have begun : Inv (cxOf CX0 P w K mg base N qual (defScope st) f cdv A fr s H E) [] (start N vs) H s1 := inv_start S room.hd env (few want) val x
  refine ⟨(env.mod.nolimit.keeps fun c o e => (env.bs c o e).1).keeps x.toInCall.keep, codeAny_func (wpAny_mono (T.nox.run [] s1 _ H _ begun wish) (fun fl s2 ends => ?_) fun _ _ z => z)⟩
  match fl, ends with
  | .ret _, ⟨v, _, H2, J, rv, q⟩ => exact ⟨v, H2, J.os, J.bare, J.base, J.hok, rv, q⟩
  | .next, ⟨_, H2, J, q⟩ => exact ⟨V.non, H2, J.os, J.bare, J.base, J.hok, rfl, q⟩
  | .brk, ⟨_, _, _, q⟩ => exact q.elim
  | .cont, ⟨_, _, _, q⟩ => exact q.elim
/-- f(e) of such a def -/
theorem pe_callG {X : Cx} {x y : Str} {e : Expr} {te : TE} {p pos : Pos} (F : FnG X.prog X.w X.K X.mg X.base k f fd [y] sp) (hG : X.A.guards = some []) (room : Room k X.A) (g : Gl X x) (m : X.mg x = some (.ref f)) (kp : PySem.W.keepIn X.K (.ref f) = true)
    (bi : Binds X.K fd [y] []) (he : PE X e te) (hdb : (x == ("__debug__" : Str)) = false := by decide) (hs : starEach [e] X.env = (false, eval e X.env) :: starEach [] X.env := by rfl) : PE X (.Call (.Name x p) [e] [] pos) (tCall sp [] E0 (tCons te tNil)) := by
  refine ⟨fun pins s σ H Q I h => wpAny_Call_Name_kw (ld_glob I g m (PySem.W.callWith_K (h₀ := X.base) I.ok.mod.kin kp (thn ((pa_cons he pa_nil hs).run pos pins s σ H _ I h) fun us s1 ⟨vs, H1, I1, r, q⟩ => ⟨I1.kIn, ?_⟩) hs rfl) hdb)⟩
  have r2 := r.append (show Vals [] [] from .nil)
  have n1 : (us ++ []).length = [y].length := r2.length.symm.trans (F.few q)
  refine wpAny_call (codeAny_mono (F.goes hG room I1.env0 (bi s1 us I1.kIn n1) r2 q) fun res s2 ends => ?_)
  match res, ends with
  | .error _, z => exact pass0 pins σ H1 s1 _ s2 I1 z
  | .ok (.ret _), z => exact I1.after z
  | .ok .next, z => exact z.elim
  | .ok .brk, z => exact z.elim
  | .ok .cont, z => exact z.elim
end
end E18

set_option Elab.async false
set_option linter.all false
set_option maxRecDepth 100000
set_option maxHeartbeats 8000000
namespace E18
open L2 PySem PySem.Spec PyProof.Rows
/-- a pot of which anything may come -/
def spRight : Sp := fun vs H Q _ => ∃ a : Addr, vs = [.ref a] ∧ PotAt H a ∧ ∀ H', SameB a H H' → Q (.bl true) H'
theorem boot_repr : bootBuiltins "repr" = some (.builtin "repr") := by decide +kernel
theorem two_val {H : Hp} {v u : V} {d e : PyData} {p : Addr} (hv : Val H 2 v d) (hu : Val H 2 u e) (np : H p = none) (ns : p ≠ sysModules) : Val (upd H p (.lst [v, u])) 3 (.ref p) (.list [d, e]) :=
  .inr (.inl ⟨p, [v, u], [d, e], rfl, ns, upd_same, rfl, Nat.le_refl 2, .cons (Val.mono (new_same np) 2 hv) (.cons (Val.mono (new_same np) 2 hu) .nil)⟩)
section
variable {P : Program} {w : World} {K : PySem.W.Frag} {mg : Str → Option Value} {base : Heap} {b c z : Nat → Addr} {cU cT : Addr} {f : Addr} {fd : FuncData}
theorem scRight : FnScope ["_law_pot_here", "_law_first", "_law_last", "_law_kept"] ["_law_pot_here"] (defScope sRight) := ⟨rfl, rfl, rfl, by decide +kernel, rfl, by decide +kernel, by decide +kernel⟩
theorem ok_right (N : Nam mg b) (DV : Def P w K mg base "_law_value" ["_law_pot_here"] 3 spValue) (D1 : Def P w K mg base "_law_values_right" ["_law_thing"] 4 spThing) (D2 : Def P w K mg base "_law_positions_right" ["_law_thing"] 4 spThing)
    (D3 : Def P w K mg base "_law_others_right" ["_law_first", "_law_last"] 4 spOthers) (D4 : Def P w K mg base "_law_apart_right" ["_law_thing"] 4 spThing) (F : Fun K "_law_right" "_law_right" sRight f fd) : FnG P w K mg base 5 f fd ["_law_pot_here"] spRight := by
  refine Fun.okG F scRight (fun {vs H Q E} h => ?_) (fun cdv A outer s H vs Q E hG hr h => ?_)
  · obtain ⟨a, rfl, _⟩ := h
    rfl
  · obtain ⟨a, rfl, hp, go⟩ := h
    refine ⟨_, pss_cons (ps_par (i := 1) (j := 2) (by rfl) scRight.nd rfl rfl (by decide) rfl rfl (pa_cons (call1 DV (hr.mono (by decide)) rfl (pv 0)) (pa_cons (call1 DV (hr.mono (by decide)) rfl (pv 0)) pa_nil)) (by rfl))
      (pss_cons (ps_set (i := 3) scRight.nd rfl (Or.inl rfl) (pe_callB (call_repr hG hr.units) rfl N.rep boot_repr (pa_cons (pe_lstN (pa_cons (pv 1) (pa_cons (pv 2) pa_nil))) pa_nil)))
      (pss_cons (ps_if (PW.pt (pw_or (pt_not (pt_val (call1 D1 hr rfl (pv 1)))) (pw_or (pt_not (pt_val (call1 D2 hr rfl (pv 2)))) (pw_or1 (pt_not (pt_val (call2 D3 hr rfl (pv 1) (pv 2)))))))) (pss_one (ps_ret pe_bl)) pss_nil)
      (pss_one (ps_ret (pe_and (call1 D4 hr rfl (pv 2)) (pe_one (pe_cmpR op_eq (pe_callB (call_repr hG hr.units) rfl N.rep boot_repr (pa_cons (pe_lstN (pa_cons (pv 1) (pa_cons (pv 2) pa_nil))) pa_nil)) (pv 3) (nomark _)))))))), ?_⟩
    refine ⟨_, rfl, a, rfl, hp, fun v d H1 hv p1 s1 => ⟨_, rfl, a, rfl, p1, fun u e H2 hu p2 s2 => ⟨_, _, rfl, ?_⟩⟩⟩
    have v2 : Val H2 2 v d := Val.mono del_sub 2 (Val.mono (SameB.del s2) 2 hv)
    have u2 : Val H2 2 u e := Val.mono del_sub 2 hu
    refine ⟨_, rfl, _, rfl, by show 2 ≤ sizeLine; decide, fun p np ns => ⟨p, 3, _, rfl, by decide, two_val v2 u2 np ns, ?_⟩⟩
    have sp := new_same (o := .lst [v, u]) np
    refine ⟨_, rfl, v, rfl, ⟨2, d, Val.mono sp 2 v2⟩, fun H3 s3 => ⟨true, rfl, ?_⟩⟩
    refine ⟨_, rfl, u, rfl, ⟨2, e, Val.mono (sp.trans s3) 2 u2⟩, fun H4 s4 => ⟨true, rfl, ?_⟩⟩
    refine ⟨_, rfl, _, rfl, v, u, rfl, ⟨2, d, Val.mono ((sp.trans s3).trans s4) 2 v2⟩, ⟨2, e, Val.mono ((sp.trans s3).trans s4) 2 u2⟩, fun H5 s5 => ⟨true, rfl, ?_⟩⟩
    have s15 := ((sp.trans s3).trans s4).trans s5
    refine ⟨_, rfl, u, rfl, ⟨2, e, Val.mono s15 2 u2⟩, fun H6 s6 => ⟨true, rfl, ?_⟩⟩
    have s16 := s15.trans s6
    refine ⟨_, rfl, _, rfl, by show 2 ≤ sizeLine; decide, fun q nq ns' => ⟨q, 3, _, rfl, by decide, two_val (Val.mono s16 2 v2) (Val.mono s16 2 u2) nq ns', ?_⟩⟩
    refine ⟨_, rfl, rfl, ?_⟩
    rw [decide_eq_true rfl]
    exact go _ (SameB.trans s1 (SameB.trans s2 (SameB.of (s16.trans (new_same nq)))))
end
end E18

set_option Elab.async false
set_option linter.all false
set_option maxRecDepth 100000
set_option maxHeartbeats 8000000
namespace E18
open L2 PySem PySem.Spec PyProof.Rows
/-- the law, of a script -/
def spLaw (K : PySem.W.Frag) : Sp := fun vs H Q _ => ∃ (a : Addr) (ns : List Int), vs = [.ref a] ∧ SqL K H a (ns.map V.int) ∧ ns.length ≤ 63 ∧ ∀ H', Q (.bl true) H'
structure DefG (P : Program) (w : World) (K : PySem.W.Frag) (mg : Str → Option Value) (base : Heap) (x y : Str) (k : Nat) (sp : Sp) : Prop where
  ex : ∃ (f : Addr) (fd : FuncData), FnG P w K mg base k f fd [y] sp ∧ mg x = some (.ref f) ∧ PySem.W.keepIn K (.ref f) = true ∧ Binds K fd [y] []
theorem callG {X : Cx} {x y : Str} {k : Nat} {sp : Sp} {e : Expr} {te : TE} {p pos : Pos} (D : DefG X.prog X.w X.K X.mg X.base x y k sp) (hG : X.A.guards = some []) (hr : Room k X.A) (hg : Gl X x) (he : PE X e te) (hdb : (x == ("__debug__" : Str)) = false := by decide)
    (hs : starEach [e] X.env = (false, eval e X.env) :: starEach [] X.env := by rfl) : PE X (.Call (.Name x p) [e] [] pos) (tCall sp [] E0 (tCons te tNil)) := by
  obtain ⟨f, fd, h1, h2, h3, h4⟩ := D.ex
  exact pe_callG h1 hG hr hg h2 h3 h4 he hdb hs
theorem SqL.sm {K : PySem.W.Frag} {H H' : Hp} {a : Addr} {xs : List V} (s : Same H H') (h : SqL K H a xs) : SqL K H' a xs := by
  rcases h with (e | ⟨o, e⟩) | h
  · exact .inl (.inl (s _ _ e))
  · exact .inl (.inr ⟨o, s _ _ e⟩)
  · exact .inr h
theorem SameB.new {a : Addr} {H H' : Hp} (n : H a = none) (s : SameB a H H') : Same H H' := fun b o e => s b o e (ne_of_none e n)
theorem three (n : Nat) : ∃ m : Nat, (if (if (3 : Int) < n then 3 else (n : Int)) > 1 then (if (3 : Int) < n then 3 else (n : Int)) else 1) = (m : Int) ∧ m ≤ 3 := by
  by_cases h : (3 : Int) < n
  · exact ⟨3, by rw [if_pos h]; rfl, by decide⟩
  · rw [if_neg h]
    by_cases h1 : (n : Int) > 1
    · exact ⟨n, by rw [if_pos h1], by omega⟩
    · exact ⟨1, by rw [if_neg h1]; rfl, by decide⟩
section
variable {P : Program} {w : World} {K : PySem.W.Frag} {mg : Str → Option Value} {base : Heap} {b c z : Nat → Addr} {cU cT : Addr} {f : Addr} {fd : FuncData}
theorem scLaw : FnScope ["_law_script", "_law_k"] ["_law_script"] (defScope sLaw) := ⟨rfl, rfl, rfl, by decide +kernel, rfl, by decide +kernel, by decide +kernel⟩
theorem ok_law (N : Nam mg b) (DP : Def P w K mg base "_law_pot" ["_law_script", "_law_k"] 1 (spPot K)) (DR : DefG P w K mg base "_law_right" "_law_pot_here" 5 spRight) (F : Fun K "law" "law" sLaw f fd) : FnG P w K mg base 6 f fd ["_law_script"] (spLaw K) := by
  refine Fun.okG F scLaw (fun {vs H Q E} h => ?_) (fun cdv A outer s H vs Q E hG hr h => ?_)
  · obtain ⟨a, ns, rfl, _⟩ := h
    rfl
  · obtain ⟨a, ns, rfl, hS, hl, go⟩ := h
    refine ⟨_, pss_one (ps_ret (pe_callB (cr_all rfl) rfl N.all_ boot_all' (pa_cons (pe_lc (own := [("_law_k", 1)]) (g := gName 1) (tt := tYes) (te := tCall spRight [] E0 (tCons (tCall (spPot K) [] E0 (tCons (tVar 0) (tCons (tVar 1) tNil))) tNil)) (by rfl) scLaw.nd
        (pi_range1 rfl N.rng (pa_cons (pe_callB (call_max2 rfl) rfl N.mx PyProof.Rows.boot_max (pa_cons pe_int (pa_cons (pe_callB (call_min2 rfl) rfl N.mn PyProof.Rows.boot_min (pa_cons (pe_callB call_len_seq rfl N.len PySem.boot_len (pa_cons (pv 0) pa_nil)) (pa_cons pe_int pa_nil))) pa_nil))) pa_nil))
        (blkOk_by (own := [("_law_k", 1)]) (N := ["_law_script", "_law_k"]) (sc := defScope sLaw) (by decide +kernel)) (fun _ _ _ _ _ => pg_name (i := 1) scLaw.nd rfl (Or.inl rfl)) (fun _ _ _ _ _ => pts_nil)
        (fun _ _ _ _ _ => callG DR hG hr rfl (call2 DP (hr.mono (by decide)) rfl (pv 0) (pv 1)))) pa_nil))), ?_⟩
    refine ⟨_, rfl, a, _, rfl, .inl hS, _, _, rfl, _, _, rfl, ?_⟩
    rw [List.length_map]
    obtain ⟨m, em, m3⟩ := three ns.length
    refine ⟨_, rfl, ?_⟩
    rw [em]
    refine ⟨by omega, by omega, fun D nD => ?_⟩
    refine lc_range (lo := 0) (n := m) (fun i H' => Same H H' ∧ H' D = some (.lst (List.replicate i (.bl true)))) ⟨new_same nD, upd_same⟩ ?_ ?_
    · rintro i H' hi ⟨sm, hD⟩
      refine ⟨rfl, ?_⟩
      refine ⟨_, rfl, _, rfl, a, ns, i, by show [V.ref a, V.int (0 + (i : Int))] = _; rw [Int.zero_add], SqL.sm sm hS, by omega, hl, fun p H2 np s2 hp => ⟨p, rfl, hp, fun H3 s3 => ?_⟩⟩
      have s4 : Same H' H3 := fun b o e => s3 b o (s2 b o e) (ne_of_none e np)
      refine ⟨_, s4 _ _ hD, by rw [List.length_replicate]; exact Nat.lt_of_lt_of_le (Nat.lt_of_lt_of_le hi m3) (by decide), fun c u e => ?_, ?_⟩
      · rw [upd_ne (ne_of_none e nD)]
        exact s4 _ _ (sm c u e)
      · rw [upd_same, List.replicate_succ']
    · rintro H' ⟨sm, hD⟩
      refine ⟨D, List.replicate m true, rfl, all_seq hD, ?_⟩
      rw [all_bl]
      exact go H'
end
end E18

set_option Elab.async false
set_option linter.all false
set_option maxRecDepth 100000
set_option maxHeartbeats 8000000
namespace E18
open L2 PySem PySem.Spec PyProof.Rows
/-! ### the law's call, at the heap behind the top -/
/-- what is tracked there: the script, or nothing -/
structure Begins (K : PySem.W.Frag) (H : Hp) (a : Addr) (o : Obj) (xs : List V) : Prop where
  just : ∀ b u, H b = some u → b = a ∧ u = .frz o (.lst xs) ∧ K.lookup a = none
  seq : SqL K H a xs
theorem begins {K : PySem.W.Frag} {h : Heap} {a : Addr} {vs : List Value} {xs : List V} (inK : K.In h) (at_ : h.get? a = some { cls := .type "list", data := .seq vs.toArray }) (r : Vals xs vs) (few : xs.length ≤ sizeLine) :
    ∃ H, Begins K H a { cls := .type "list", data := .seq vs.toArray } xs := by
  cases z : K.lookup a with
  | none =>
    refine ⟨fun b => if b = a then some (.frz { cls := .type "list", data := .seq vs.toArray } (.lst xs)) else none, ⟨fun b u e => ?_, .inl (.inr ⟨_, if_pos rfl⟩)⟩⟩
    by_cases q : b = a
    · have e2 := (if_pos q).symm.trans e
      cases e2
      exact ⟨q, rfl, z⟩
    · have e2 := (if_neg q).symm.trans e
      cases e2
  | some o =>
    have same := inK _ _ z
    rw [at_] at same
    cases same
    refine ⟨fun _ => none, ⟨fun b u e => ?_, .inr ⟨_, vs.toArray, _, z, rfl, rfl, rfl, by rw [List.size_toArray, ← r.length]; exact few, r⟩⟩⟩
    cases (show (none : Option HO) = some u from e)
theorem goes_at {P : Program} {w : World} {K : PySem.W.Frag} {mg mb : Str → Option Value} {k : Nat} {f a : Addr} {fd : FuncData} {y : Str} {sp : Sp} {t : Shared} {vs : List Value} {xs : List V}
    (inK : K.In t.heap) (g : t.heap.Ns mainGlobals mg) (bn : t.heap.Ns builtinsNs mb) (bb : ∀ x : Str, x ≠ "__name__" → mb x = bootBuiltins x) (lim : t.heap.NoLimit) (no : t.gens = #[])
    (at_ : t.heap.get? a = some { cls := .type "list", data := .seq vs.toArray }) (r : Vals xs vs) (few : xs.length ≤ sizeLine) (room : Room k callerA)
    (F : ∀ base : Heap, K.In base → base.Ns mainGlobals mg → FnG P w K mg base k f fd [y] sp) (bi : ∀ (s : Shared) (u : Value), BindsTo s fd ⟨[u], []⟩ [(y, u)])
    (want : ∀ H : Hp, SqL K H a xs → sp [.ref a] H (fun v _ => v = .bl true) E0) :
    codeAny (model P w) callerA (.call (.ref f) ⟨[.ref a], []⟩) (fun res t' => res = .ok (.ret (.bool true)) ∧ OldK t.heap t'.heap ∧ t'.os = t.os ∧ AllBare t'.gens) t := by
  obtain ⟨H, B⟩ := begins inK at_ r few
  have ok : HOk P w H t.heap := fun b u e => by
    obtain ⟨rfl, rfl, _⟩ := B.just b u e
    exact ⟨at_, few, vs, _, r, at_⟩
  have out : ∀ {b : Addr} {m : Str → Option Value}, t.heap.Ns b m → (hidT t.heap H).Ns b m := fun {b m} ⟨o, es, ep, e, d, q⟩ => by
    refine ⟨o, es, ep, hidT_get e ?_, d, q⟩
    cases z : H b with
    | none => rfl
    | some u =>
      obtain ⟨rfl, _, _⟩ := B.just b u z
      rw [at_] at e
      cases e
      cases (show Data.seq vs.toArray _ = Data.dict es ep from d)
  have inB : K.In (hidT t.heap H) := fun b o e => by
    refine hidT_get (inK b o e) ?_
    cases z : H b with
    | none => rfl
    | some u =>
      obtain ⟨rfl, _, n⟩ := B.just b u z
      rw [n] at e
      cases e
  obtain ⟨mc, l1, l2⟩ := lim
  have env : Env0 P w K mg (hidT t.heap H) callerA [] t H := ⟨rfl, ⟨inB, out g, ⟨mb, out bn, bb⟩, ⟨mc, out l1, l2⟩⟩, fun _ _ e => of_hidT e, Nat.le_of_eq (hidT_size _ _), trivial, (fun b m => absurd (show b ∈ ([] : List Addr) from m) (List.not_mem_nil)), ok, .of_eq no⟩
  refine codeAny_mono ((F _ inB (out g)).goes (us := [.ref a]) (vs := [.ref a]) rfl room env (bi t (.ref a)) (.cons rfl .nil) (want H B.seq)) fun res t' ends => ?_
  match res, ends with
  | .error _, z => exact z.elim
  | .ok .next, z => exact z.elim
  | .ok .brk, z => exact z.elim
  | .ok .cont, z => exact z.elim
  | .ok (.ret u), ⟨v, H', os, bare, un, ok', rv, q⟩ =>
    cases (show v = V.bl true from q)
    cases (show u = Value.bool true from rv)
    refine ⟨rfl, OldK.of_keep fun b o e => ?_, os, bare⟩
    cases z : H b with
    | none => exact un.keep b o e z (fun m => by cases m) (fun m => by cases m)
    | some u =>
      obtain ⟨rfl, rfl, _⟩ := B.just b u z
      rw [at_] at e
      cases e
      exact (ok' _ _ (un.frzs _ _ _ z)).1
theorem walkG {l : PySem.W.OpenLaw} {n k : Nat} {q : Program} {loose : List Str} {XP : (Str → Option Value) → Heap → Prop} {YP : World → Heap → Prop} {d : DefRec} {y : Str} (most : l.most = some n) (line : n ≤ sizeLine) (df : d.params.defaults = []) (room : Room k callerA)
    (F : ∀ (w : World) (mg : Str → Option Value) (f : Addr) (h : Heap), YP w h → h.Ns mainGlobals mg → mg d.name = some (.ref f) → ∃ (K : PySem.W.Frag) (fd : FuncData) (sp : Sp), K.In h ∧ (∀ (s : Shared) (u : Value), BindsTo s fd ⟨[u], []⟩ [(y, u)]) ∧
      (∀ (H : Hp) (a : Addr) (ns : List Int), ns.length ≤ n → SqL K H a (ns.map V.int) → sp [.ref a] H (fun v _ => v = .bl true) E0) ∧ ∀ base : Heap, K.In base → base.Ns mainGlobals mg → FnG l.prog w K mg base k f fd [y] sp) :
    PySem.W.WalkO q loose XP YP l.row.toRowW d [] (fun f vs => PySem.call f vs) := by
  refine Att.attach_call most df fun w s0 t mg mb f o pm cd doc a vs ns G Y at_f is_f rec_f is_g at_a nums few no => ?_
  obtain ⟨K, fd, sp, inK, bi, want, G2⟩ := F w mg f _ Y G.T.g is_g
  exact goes_at inK G.T.g G.T.b G.T.builtins G.T.nolimit no at_a (vals_ints nums) (by rw [List.length_map]; exact Nat.le_trans few line) room G2 bi fun H S => want H a ns few S
end E18

set_option Elab.async false
set_option linter.all false
set_option maxRecDepth 100000
set_option maxHeartbeats 8000000
namespace E18
open L2 PySem PySem.Spec PyProof.Rows
/-! ### an __init__ that says super().__init__() alone -/
abbrev sc0 : Scope := { kind := .function, names := [(Str.ofString "self", .local), (Str.ofString "__class__", .free), (Str.ofString "super", .globalImplicit)], isGenerator := false, isCoroutine := false, more := [] }
abbrev body0 (p0 p1 p2 p3 p4 : Pos) : List Stmt := [.Expr (.Call (.Attribute (.Call (.Name "super" p0) [] [] p1) "__init__" p2) [] [] p3) p4]
abbrev args0 (a : Pos) : Arguments := { posonlyargs := [], args := [{ arg := "self", annotation := none, pos := a }], vararg := none, kwonlyargs := [], kw_defaults := [], kwarg := none, defaults := [] }
/-- how the call is evaluated, at these places of the text -/
def Evs (p0 p1 p2 p3 : Pos) : Prop := ∀ env : Env, ∃ pl : Sem Bool, eval (.Call (.Attribute (.Call (.Name "super" p0) [] [] p1) "__init__" p2) [] [] p3) env = (do
  let ov ← attributeBase (.Call (.Name "super" p0) [] [] p1) "__init__" env (eval (.Call (.Name "super" p0) [] [] p1) env)
  standAt p2.atName
  let (f, first) ← holding [ov] (getMethod ov "__init__" pl)
  callWith p3 f first (backTo p3 (starEach [] env)) [])
structure Sup (P : Program) (K : PySem.W.Frag) (mg : Str → Option Value) (C f : Addr) (fd : FuncData) : Prop where
  fn : ∃ (oc : Value) (od : Option Addr) (kV doc pm : Value) (an : Option Addr) (cda cc : Addr) (ct : Value) (osl : Array (Option Value)) (a p0 p1 p2 p3 p4 : Pos) (vs : Array Value) (file : Str) (tf : Tok) (c1 c2 : Value) (d1 d2 : Option Addr) (s1 s2 : Array (Option Value)) (qual : Str),
    fd = PySem.W.fnX "__init__" qual (args0 a) (body0 p0 p1 p2 p3 p4) sc0 [("__class__", cc)] .none kV doc pm an (.ref cda) ct ∧ K.lookup f = some ⟨oc, od, .func fd, osl⟩ ∧ PySem.W.codeIn K (.ref cda) qual = true ∧
    K.lookup cda = some ⟨c1, d1, .fields vs, s1⟩ ∧ vs[2]? = some (.str file tf) ∧ ((P.main.file : Str) == file) = true ∧ K.lookup cc = some ⟨c2, d2, .cell (some (.ref C)), s2⟩ ∧ Evs p0 p1 p2 p3
  cls : ∃ cd, PySem.W.clsIn K C = some cd
  sub : PySem.W.mroIn K C (.ref C) = some true
  sup : PySem.W.ks_superIn K C C "__init__" = some (some (.builtin "RuntimeError.__init__"))
  run : PySem.W.subIn K (.ref C) (.type "RuntimeError") = some true
  any : PySem.W.nsIn K cStatics "thirdparty.any" = some none
  mgs : mg "super" = none
  ini : PySem.W.excInitIn K C [.type "RuntimeError", .type "Exception", .type "BaseException", .type "object"] "RuntimeError.__new__" = true
  top : (P.main.scope.names.lookup ("super" : Str)).isSome = false
theorem boot_super : bootBuiltins "super" = some (.type "super") := by decide +kernel
section
variable {P : Program} {w : World} {A : Around} {E : Value → Shared → Prop} {h : Heap} {g : Array GenState} {d : Drawn} {t : Nat} {os : OsState} {K : PySem.W.Frag} {C a u t1 : Addr}
/-- the bound __init__ of RuntimeError, called -/
theorem call_mw (X : K.In h) (q : PySem.W.excInitIn K C [.type "RuntimeError", .type "Exception", .type "BaseException", .type "object"] "RuntimeError.__new__" = true)
    (hu : h.get? u = some (PySem.W.kxs_mw "RuntimeError.__init__" a)) (ha : h.get? a = some (PySem.W.excObj C t1 none .none)) {Q : Value → Shared → Prop}
    (go : ∀ h' t2, (∀ b o, b ≠ a → h.get? b = some o → h'.get? b = some o) → h'.get? a = some (PySem.W.excObj C t2 none .none) → Q .none ⟨h', g, d, t, os⟩) :
    wpAny (model P w) A (call (.ref u) []) Q E ⟨h, g, d, t, os⟩ := by
  obtain ⟨nm, N', qn, bs, bm, hdct, sn, sub, ab, col, dd, k0, k1, k2, k3, k5, hC, hT⟩ := PySem.W.excInit_of X q
  refine wpAny_call (codeAny_of_tree ?_)
  show wpAny _ A.in1 (callAny (.ref u) ⟨[], []⟩) _ _ _
  simp only [callAny]
  refine wpAny_bind (wpAny_load hu ?_)
  simp only [PySem.W.kxs_mw, show (Value.type "method-wrapper" == Value.type "method" || Value.type "method-wrapper" == Value.type "builtin_function_or_method" || Value.type "method-wrapper" == Value.type "method-wrapper") = true by decide, if_true]
  refine PySem.W.KFB.if_so (by decide) (wpAny_bind (PySem.W.check_bound_init PySem.F.excBase_RuntimeError.toExcCallFacts hC ha rfl (wpAny_bind (wpAny_pure (wpAny_pure ?_)))))
  refine ⟨plainId_quiet PySem.F.excBase_RuntimeError.init.plain _, codeAny_builtin PySem.F.excBase_RuntimeError.initEntry ?_⟩
  exact PySem.W.exc_init_tree (cls := .ref C) (t0 := t1) (dv := none) (c2 := .none) (c3 := .none) (b4 := .bool false) ha (Nat.zero_le _) fun h' k e _ => go h' _ k e
end
section
variable {P : Program} {w : World} {K : PySem.W.Frag} {mg : Str → Option Value} {base : Heap} {C f : Addr} {fd : FuncData}
theorem same_upd {H : Hp} {a : Addr} {o : HO} (e : H a = some o) : upd H a o = H := funext fun b => by
  by_cases q : b = a
  · rw [q, upd_same, e]
  · rw [upd_ne q]
theorem ok_sup (S : Sup P K mg C f fd) : FnOk P w K mg base CX0 1 f fd ["self"] (spI0 C) := by
  refine ⟨fun vs H Q E h => by obtain ⟨a, rfl, _⟩ := h; rfl, fun A outer s H args us vs Q E hr e0 hb r hsp => ?_⟩
  obtain ⟨a, rfl, ha, go⟩ := hsp
  obtain ⟨u, rfl, ru⟩ := vals1 r
  cases (show u = Value.ref a from ru)
  obtain ⟨oc, od, kV, doc, pm, an, cda, cc, ct, osl, pa, p0, p1, p2, p3, p4, vs, file, tf, c1, c2, d1, d2, s1, s2, qual, rfl, lk, code, lcda, hvs, hfile, lcc, evs⟩ := S.fn
  obtain ⟨cd, hcd⟩ := S.cls
  have KX : K.In s.heap := e0.mod.kin.keeps fun b o e => (e0.bs b o e).1
  have lim : s.heap.NoLimit := e0.mod.nolimit.keeps fun b o e => (e0.bs b o e).1
  obtain ⟨mb, mb1, mb2⟩ := e0.mod.blt
  obtain ⟨t1, hx⟩ := exo_at e0.hok ha
  obtain ⟨hh, g, d, t, os⟩ := s
  refine ks_codeAny_call_defAt (body := body0 p0 p1 p2 p3 p4) (binds := [("self", .ref a)]) hr.depth (KX _ _ lk) rfl lim (PySem.W.codeRec_of KX code) rfl hb (by show ∀ x ∈ sc0.names, x.2 ≠ .cell; decide +kernel)
    (fun x hx => by rw [List.mem_singleton.mp hx]; show sc0.names.lookup ("self" : Str) = _; decide +kernel) (fun h0 hns k0 => ?_)
  have X0 : K.In h0 := KX.keeps k0
  have kg : ∀ {b : Addr} {m : Str → Option Value}, base.Ns b m → h0.Ns b m := fun n => n.keeps fun b o e => k0 b o (e0.bs b o e).1
  obtain ⟨pl, ev⟩ := evs (callEnv (PySem.W.fnX "__init__" qual (args0 pa) (body0 p0 p1 p2 p3 p4) sc0 [("__class__", cc)] .none kV doc pm an (.ref cda) ct) hh.objs.size f)
  refine ks_wpAt_execs_cons (ks_wpAt_Expr_any (ks_wpAt_MethodCall (pl := pl) ?_ ev))
  obtain ⟨oD, hD1, hD2⟩ : ∃ oD, h0.get? C = some oD ∧ oD.data = .cls cd := by
    have z := hcd
    unfold PySem.W.clsIn at z
    split at z
    · rename_i c dd cd' sl ho
      cases z
      exact ⟨_, X0 _ _ ho, rfl⟩
    · cases z
  refine ks_wpAt_super_base (env := callEnv (PySem.W.fnX "__init__" qual (args0 pa) (body0 p0 p1 p2 p3 p4) sc0 [("__class__", cc)] .none kV doc pm an (.ref cda) ct) hh.objs.size f) (by rfl) (by rfl) (by decide) rfl (X0 _ _ lk) rfl rfl rfl (X0 _ _ lcda) rfl hvs hfile S.top ?_
  refine PySem.W.ks_loadName_global rfl (by rfl) (Calls.loadGlobal_builtin (kg e0.mod.glob) S.mgs (kg mb1) ((mb2 _ (by decide)).trans boot_super) ⟨rfl, ?_⟩)
  refine wpAny_loadName_free rfl (by rfl) (by rfl) ⟨_, X0 _ _ lcc, rfl⟩ ?_
  refine wpAny_loadName_local rfl (by rfl) hns (by rfl) ?_
  refine ks_wpAny_isType_cls hD1 hD2 ⟨rfl, ?_⟩
  have hx0 := k0 _ _ hx
  refine ks_wpAny_call_super hD1 hD2 hx0 rfl (fun c e => by cases e) (PySem.W.looks_mroIn X0 S.sub) (fun h1 e1 k1 => ?_)
  have X1 := X0.keeps k1
  have I : PySem.W.InstAt h1 a (PySem.W.excObj C t1 none .none) C none := ⟨k1 _ _ hx0, rfl, rfl, trivial⟩
  refine PySem.W.kxs_getMethod PySem.W.kxs_RuntimeError e1 (PySem.W.looks_opaque X1 S.any) (l₀ := cd.mro) (fun A Q E s k q => wpAny_bind ((PySem.W.looks_clsIn X1 hcd) A _ E s k (wpAny_pure q))) rfl X1 (K := K)
    (by have z := S.sup; unfold PySem.W.ks_superIn at z; rw [hcd] at z; exact z) (I.type.andThen (PySem.W.looks_subIn X1 S.run)) (PySem.W.ks_ne X1 I hcd) (by decide) ?_
  refine PySem.W.kxs_callWith (i := "RuntimeError.__init__") (x := a) (by rfl) (evalArgs_empty ⟨Heap.get?_push_at rfl rfl, ?_⟩)
  have k2 : ∀ b o, hh.get? b = some o → (h1.push (PySem.W.kxs_mw "RuntimeError.__init__" a)).get? b = some o := fun b o e => Heap.get?_push_of_some _ (k1 _ _ (k0 _ _ e))
  refine call_mw (KX.keeps k2) S.ini (Heap.get?_push_at rfl rfl) (k2 _ _ hx) fun h' t2 k3 e3 => ?_
  have k4 : ∀ b o, b ≠ a → hh.get? b = some o → h'.get? b = some o := fun b o ne e => k3 b o ne (k2 b o e)
  let h4 : Heap := h'.update a fun _ => PySem.W.excObj C t1 none .none
  have a4 : h4.get? a = some (PySem.W.excObj C t1 none .none) := Heap.get?_update_self _ e3 rfl
  have b4 : ∀ b, b ≠ a → h4.get? b = h'.get? b := fun b ne => Heap.get?_update_ne _ _ _ _ ne
  have ok4 : HOk P w H h4 := e0.hok.kept fun b o e => by
    by_cases q : b = a
    · rw [q] at e ⊢
      rw [a4]
      exact hx.symm.trans e
    · rw [b4 b q]
      exact k4 b o q e
  have ok5 : HOk P w (upd H a (exo a C none)) h' := ok4.write (x := a) (e := a) (by rw [ha]; exact True.intro) (.inl rfl) (fun b o ne q => by rw [← b4 b ne]; exact q) ⟨_, e3⟩ (exo_ok e3)
  have un5 : Un (frs outer) [] H (upd H a (exo a C none)) hh h' := Un.write (x := a) (e := a) (by rw [ha]; exact True.intro) (.inl rfl) k4 ⟨_, e3⟩
  rw [same_upd ha] at ok5 un5
  exact wpAt_of_wpAny (wpAny_execs_nil ⟨V.non, H, rfl, e0.bare, un5, ok5, rfl, go H (Same.refl H)⟩)
end
end E18

set_option Elab.async false
set_option linter.all false
set_option maxRecDepth 100000
set_option maxHeartbeats 8000000
namespace E18
open L2 PySem PySem.Spec PyProof.Rows
/-! ### what is looked up behind the top -/
def n17 : List Str := ["InvalidName", "InvalidShift", "InvalidShifts", "InvalidTimes", "InvalidMoments", "InvalidRules", "InvalidPosition", "InvalidPositions", "InvalidNames", "InvalidCount", "InvalidChoice", "InvalidCeilings", "InvalidTerms", "InvalidPace", "InvalidText", "InvalidClaim", "InvalidCommand"]
def n8 : List Str := ["LastOne", "NameTaken", "OtherMoments", "NoRun", "NotKept", "BackNeeded", "NothingToUndo", "CommandFailed"]
def n4 : List Str := ["AnyError", "MissingError", "StateError", "LimitError"]
def nf : List Str := ["isinstance", "ValueError", "LookupError", "RuntimeError", "ArithmeticError", "range", "all", "len", "repr", "int", "max", "min", "abs", "divmod", "super"]
def nth (K : PySem.W.Frag) (l : List Str) (i : Nat) : Addr := He.ga K (l.getD i Str.empty)
def gloB (K : PySem.W.Frag) (x : Str) : Bool := He.eqO (PySem.W.nsIn K mainGlobals x) (some (some (.ref (He.ga K x))))
def freeB (K : PySem.W.Frag) (x : Str) : Bool := He.eqO (PySem.W.nsIn K mainGlobals x) (some none)
/-- the Python class that the r-th family rests on -/
def pyc : Nat → String × String × List Value
  | 0 => ("ValueError", "ValueError.__new__", [.type "ValueError", .type "Exception", .type "BaseException", .type "object"])
  | 1 => ("LookupError", "LookupError.__new__", [.type "LookupError", .type "Exception", .type "BaseException", .type "object"])
  | 2 => ("RuntimeError", "RuntimeError.__new__", [.type "RuntimeError", .type "Exception", .type "BaseException", .type "object"])
  | _ => ("ArithmeticError", "ArithmeticError.__new__", [.type "ArithmeticError", .type "Exception", .type "BaseException", .type "object"])
def excB (K : PySem.W.Frag) (C : Addr) (r : Nat) : Bool :=
  PySem.W.excInitIn K C (pyc r).2.2 (pyc r).2.1 && (PySem.W.excOver K C (pyc r).2.2 && (PySem.W.hasDictIn K C && (He.eqO (PySem.W.findIn K (.ref C) "__setattr__") (some (some (.builtin "object.__setattr__"))) && (PySem.W.keepIn K (.ref C) &&
    (He.eqO (PySem.W.findIn K (.ref C) "__getattribute__") (some (some (.builtin "BaseException.__getattribute__"))) && (He.eqO (PySem.W.findIn K (.ref C) "__getattr__") (some none) && (decide (PySem.W.subIn K (.ref C) (.type "BaseException") = some true) &&
    (He.eqO (PySem.W.findIn K (.ref C) "__class__") (some (some (.builtin "object.__class__"))) && (decide (PySem.W.mroIn K C (.type "object") = some true) && (He.eqO (PySem.W.specialIn K (.builtin "object.__class__") "__get__") (some (some (.builtin "getset_descriptor.__get__"))) &&
    decide (PySem.W.takesIn K (.builtin "object.__class__") = some true)))))))))))
def famB (K : PySem.W.Frag) (C : Addr) (r : Nat) : Bool :=
  ((List.range 4).all fun j => decide (PySem.W.kitOne K (.ref C) (.ref (nth K n4 j)) = some (decide (r = j)))) && (decide (PySem.W.kitOne K (.ref C) (.type "ValueError") = some (decide (r = 0))) && (decide (PySem.W.kitOne K (.ref C) (.type "LookupError") = some (decide (r = 1))) &&
    (decide (PySem.W.kitOne K (.ref C) (.type "RuntimeError") = some (decide (r = 2))) && decide (PySem.W.kitOne K (.ref C) (.type "ArithmeticError") = some (decide (r = 3))))))
def iniB (K : PySem.W.Frag) (C : Addr) : Bool := He.eqO (PySem.W.findIn K (.ref C) "__init__") (some (some (.ref (He.ma K C "__init__")))) && decide (PySem.W.typeIn K (.ref (He.ma K C "__init__")) = some (.type "function"))
/-- a class: its name, its family, its attributes -/
def clsB (K : PySem.W.Frag) (c : Str × Nat × List Str) : Bool := gloB K c.1 && (excB K (He.ga K c.1) c.2.1 && (famB K (He.ga K c.1) c.2.1 && (iniB K (He.ga K c.1) && c.2.2.all fun f => He.eqO (PySem.W.findIn K (.ref (He.ga K c.1)) f) (some none))))
def clss : List (Str × Nat × List Str) := [("InvalidName", 0, ["value"]), ("InvalidShift", 0, ["value"]), ("InvalidShifts", 0, ["name"]), ("InvalidTimes", 0, ["value"]), ("InvalidMoments", 0, ["position"]), ("InvalidRules", 0, ["position"]), ("InvalidPosition", 0, ["value"]),
  ("InvalidPositions", 0, ["position"]), ("InvalidNames", 0, ["value"]), ("InvalidCount", 0, ["value"]), ("InvalidChoice", 0, ["position"]), ("InvalidCeilings", 0, ["value"]), ("InvalidTerms", 0, ["position"]), ("InvalidPace", 0, ["value"]), ("InvalidText", 0, ["line"]), ("InvalidClaim", 0, ["value"]),
  ("InvalidCommand", 0, ["value"]), ("LastOne", 2, ["value"]), ("NameTaken", 2, ["value"]), ("OtherMoments", 2, ["one", "other"]), ("NoRun", 2, []), ("NotKept", 2, ["position"]), ("BackNeeded", 2, ["position"]), ("NothingToUndo", 2, []), ("CommandFailed", 2, ["position"]),
  ("UnknownMoment", 1, ["value"]), ("TooMany", 3, ["what", "limit"])]
def apart (K : PySem.W.Frag) (l : List Str) : Bool := (List.range l.length).all fun i => (List.range l.length).all fun j => decide (PySem.W.kitOne K (.ref (nth K l i)) (.ref (nth K l j)) = some (decide (i = j)))
/-- of a def that says super(): the cell, the code's file -/
def cellB (K : PySem.W.Frag) (cc C : Addr) : Bool := match K.lookup cc with
  | some ⟨_, _, .cell (some (.ref D)), _⟩ => decide (D = C)
  | _ => false
def fileB (K : PySem.W.Frag) (file : Str) (cda : Addr) : Bool := match K.lookup cda with
  | some ⟨_, _, .fields vs, _⟩ => (match (vs[2]? : Option Value) with
    | some (.str g _) => file == g
    | _ => false)
  | _ => false
def noDfl : Value → Bool
  | .none => true
  | _ => false
def codeB (K : PySem.W.Frag) (file : Str) : Value → Bool
  | .ref cda => fileB K file cda
  | _ => false
def closB (K : PySem.W.Frag) (C : Addr) : List (Str × Addr) → Bool
  | [(n, cc)] => decide (n = "__class__") && cellB K cc C
  | _ => false
def supFd (K : PySem.W.Frag) (file : Str) (C : Addr) (fd : FuncData) : Bool := PySem.W.codeIn K fd.code fd.qualname && (noDfl fd.defaults && (codeB K file fd.code && closB K C fd.closure))
def supB (K : PySem.W.Frag) (file x : Str) : Bool :=
  (PySem.W.clsIn K (He.ga K x)).isSome && (decide (PySem.W.mroIn K (He.ga K x) (.ref (He.ga K x)) = some true) && (He.eqO (PySem.W.ks_superIn K (He.ga K x) (He.ga K x) "__init__") (some (some (.builtin "RuntimeError.__init__"))) &&
  (decide (PySem.W.subIn K (.ref (He.ga K x)) (.type "RuntimeError") = some true) && match K.lookup (He.ma K (He.ga K x) "__init__") with
    | some ⟨_, _, .func fd, _⟩ => supFd K file (He.ga K x) fd
    | _ => false)))
def meth (i : Nat) : Stmt := match top i with
  | .ClassDef (body := b) .. => b.getD 0 (.Pass ⟨0, 0, 0, 0⟩)
  | _ => .Pass ⟨0, 0, 0, 0⟩
def dM (i : Nat) (x q : Str) : He.DefD := ⟨(x, some "__init__"), "__init__", q, defArgs (meth i), defBody (meth i), defScope (meth i), [], []⟩
def dF (i : Nat) (x : Str) : He.DefD := ⟨(x, none), x, x, defArgs (top i), defBody (top i), defScope (top i), [], []⟩
def dfs : List He.DefD := [dM 2 "InvalidName" "InvalidName.__init__", dM 3 "InvalidShift" "InvalidShift.__init__", dM 4 "InvalidShifts" "InvalidShifts.__init__", dM 5 "InvalidTimes" "InvalidTimes.__init__", dM 6 "InvalidMoments" "InvalidMoments.__init__", dM 7 "InvalidRules" "InvalidRules.__init__",
  dM 8 "InvalidPosition" "InvalidPosition.__init__", dM 9 "InvalidPositions" "InvalidPositions.__init__", dM 10 "InvalidNames" "InvalidNames.__init__", dM 11 "InvalidCount" "InvalidCount.__init__", dM 12 "InvalidChoice" "InvalidChoice.__init__", dM 13 "InvalidCeilings" "InvalidCeilings.__init__",
  dM 14 "InvalidTerms" "InvalidTerms.__init__", dM 15 "InvalidPace" "InvalidPace.__init__", dM 16 "InvalidText" "InvalidText.__init__", dM 17 "InvalidClaim" "InvalidClaim.__init__", dM 18 "InvalidCommand" "InvalidCommand.__init__", dM 22 "LastOne" "LastOne.__init__", dM 23 "NameTaken" "NameTaken.__init__",
  dM 24 "OtherMoments" "OtherMoments.__init__", dM 26 "NotKept" "NotKept.__init__", dM 27 "BackNeeded" "BackNeeded.__init__", dM 29 "CommandFailed" "CommandFailed.__init__", dM 20 "UnknownMoment" "UnknownMoment.__init__", dM 31 "TooMany" "TooMany.__init__",
  dF 33 "_law_pot", dF 34 "_law_draw", dF 35 "_law_choice", dF 36 "_law_value", dF 37 "_law_bases", dF 38 "_law_base", dF 39 "_law_values_right", dF 40 "_law_positions_right", dF 41 "_law_others_right", dF 42 "_law_kinds", dF 43 "_law_states", dF 44 "_law_apart_right", dF 45 "_law_right", dF 46 "law"]
def defNames : List Str := ["_law_pot", "_law_draw", "_law_choice", "_law_value", "_law_bases", "_law_base", "_law_values_right", "_law_positions_right", "_law_others_right", "_law_kinds", "_law_states", "_law_apart_right", "_law_right", "law"]
def file0 : Str := PySem.Challenge.pw_anyofthese_k18_errors_made_with_any_valu.main.file
def chks (K : PySem.W.Frag) : List Bool := [n4.all (gloB K), nf.all (freeB K), defNames.all (gloB K), clss.all (clsB K), apart K n17, apart K n8, supB K file0 "NoRun", supB K file0 "NothingToUndo", He.eqO (PySem.W.nsIn K cStatics "thirdparty.any") (some none), dfs.all (He.DefD.ok K)]
/-- of the two defs that say super(): all but the cell's place -/
abbrev SupW : Type := Option (Str × Arguments × FuncBody × Scope × Addr × Addr)
def supW (K : PySem.W.Frag) (x : Str) : SupW := match K.lookup (He.ma K (He.ga K x) "__init__") with
  | some ⟨_, _, .func fd, _⟩ => some (fd.name, fd.params, fd.body, fd.scope, fd.globals, fd.builtins)
  | _ => none
def supV (i : Nat) : SupW := some ("__init__", defArgs (meth i), .stmts (defBody (meth i)), defScope (meth i), mainGlobals, builtinsNs)
abbrev Al : Type := Bool × List He.FnW × SupW × SupW
def obsK (K : PySem.W.Frag) : Al := ((chks K).all id, dfs.map fun d => He.fnW K d.at_, supW K "NoRun", supW K "NothingToUndo")
def val0 : Al := (true, dfs.map He.DefD.val, supV 25, supV 28)
def frag (g : Addr → Option Obj) : PySem.W.Frag := He.frG g (cStatics :: He.asD g 4)
def hook : PySem.W.Hook where
  α := Al
  obs := fun s => obsK (frag s.heap.get?)
  val := fun _ => val0
  says := fun _ h => ∃ K : PySem.W.Frag, K.In h ∧ obsK K = val0
  of := fun _ _ e => ⟨_, He.frG_in, e⟩
  keeps := fun _ _ _ ⟨K, hK, c⟩ k => ⟨K, PySem.W.Frag.In.keeps hK k, c⟩
end E18

set_option Elab.async false
set_option linter.all false
set_option maxRecDepth 100000
set_option maxHeartbeats 0
namespace E18
open L2 PySem PySem.Spec PyProof.Rows
/-! ### the top, run -/
abbrev R : PySem.W.OpenRow := PySem.W.OpenLaw.row PySem.Challenge.rw_anyofthese_k18_errors_made_with_any_valu
abbrev qv : Program := PySem.W.view R.prog [46]
def names1 : List Str := ["AnyError", "InvalidName", "InvalidShift", "InvalidShifts", "InvalidTimes", "InvalidMoments", "InvalidRules", "InvalidPosition", "InvalidPositions", "InvalidNames", "InvalidCount", "InvalidChoice", "InvalidCeilings", "InvalidTerms", "InvalidPace", "InvalidText", "InvalidClaim", "InvalidCommand", "MissingError", "UnknownMoment"]
def names2 : List Str := ["StateError", "LastOne", "NameTaken", "OtherMoments", "NoRun", "NotKept", "BackNeeded", "NothingToUndo", "CommandFailed", "LimitError", "TooMany"]
def names3 : List Str := ["_law_pot", "_law_draw", "_law_choice", "_law_value", "_law_bases", "_law_base", "_law_values_right", "_law_positions_right", "_law_others_right", "_law_kinds", "_law_states", "_law_apart_right", "_law_right"]
def names : List Str := names1 ++ (names2 ++ names3)
def ob (s : PySem.W.SharedT) : Al := obsK (frag (HandSHeadRun.getT s))
theorem ob_eq (s : PySem.W.SharedT) : ob s = hook.obs s.abs := by
  have e : HandSHeadRun.getT s = s.abs.heap.get? := funext (HandSHeadRun.getT_eq s)
  show obsK (frag (HandSHeadRun.getT s)) = _
  rw [e]
  rfl
end E18

set_option Elab.async false
set_option linter.all false
set_option maxRecDepth 100000
set_option maxHeartbeats 8000000
namespace E18
open L2 PySem PySem.Spec PyProof.Rows
/-! ### from what is looked up to what the walk wants -/
theorem fun_of {K : PySem.W.Frag} {x qual : Str} {st : Stmt} {f : Addr} {fd : FuncData} (F : FunD K x qual (defArgs st) (defBody st) (defScope st) [] [] f fd) : Fun K x qual st f fd := by
  obtain ⟨oc, od, dV, kV, doc, pm, an, cdv, ct, osl, e, lk, hcd, hD, _⟩ := F.ex
  rcases hD with ⟨_, rfl⟩ | ⟨ne, _⟩
  · exact ⟨⟨oc, od, kV, doc, pm, an, cdv, ct, osl, e, lk, hcd⟩, F.kp⟩
  · exact absurd rfl ne
section
variable {K : PySem.W.Frag}
theorem def_of (c : obsK K = val0) (i : Nat) {d : He.DefD} (h : dfs[i]? = some d := by rfl) : ∃ fd, FunD K d.name d.qual d.params d.body d.scope (d.dvs K) (d.kws K) (He.fAd K d.at_) fd := by
  have all : (chks K).all id = true := congrArg (fun t : Al => t.1) c
  have c2 : dfs.all (He.DefD.ok K) = true := List.all_eq_true.mp all _ (List.mem_of_getElem? (i := 9) rfl)
  have e : dfs.map (fun d => He.fnW K d.at_) = dfs.map He.DefD.val := congrArg (fun t : Al => t.2.1) c
  have e2 : (dfs.map fun d => He.fnW K d.at_)[i]? = (dfs.map He.DefD.val)[i]? := by rw [e]
  rw [List.getElem?_map, List.getElem?_map, h] at e2
  exact He.DefD.funD (Option.some.inj e2) (List.all_eq_true.mp c2 d (List.mem_of_getElem? h))
theorem bit_of (c : obsK K = val0) (i : Nat) {b : Bool} (h : (chks K)[i]? = some b := by rfl) : b = true :=
  List.all_eq_true.mp (show (chks K).all id = true from congrArg (fun t : Al => t.1) c) _ (List.mem_of_getElem? h)
theorem exc_ok {C : Addr} {r : Nat} (h : excB K C r = true) : ExC K C := by
  obtain ⟨h1, h⟩ := He.ba h
  obtain ⟨h2, h⟩ := He.ba h
  obtain ⟨h3, h⟩ := He.ba h
  obtain ⟨h4, h⟩ := He.ba h
  obtain ⟨h5, h⟩ := He.ba h
  obtain ⟨h6, h⟩ := He.ba h
  obtain ⟨h7, h⟩ := He.ba h
  obtain ⟨h8, h⟩ := He.ba h
  obtain ⟨h9, h⟩ := He.ba h
  obtain ⟨h10, h⟩ := He.ba h
  obtain ⟨h11, h12⟩ := He.ba h
  refine ⟨?_, h3, He.eqO_ok h4, h5, He.eqO_ok h6, He.eqO_ok h7, of_decide_eq_true h8, He.eqO_ok h9, of_decide_eq_true h10, He.eqO_ok h11, of_decide_eq_true h12⟩
  match r, h1, h2 with
  | 0, h1, h2 => exact ⟨_, _, _, _, PySem.F.excBase_ValueError, PySem.F.store_ValueError, h1, h2⟩
  | 1, h1, h2 => exact ⟨_, _, _, _, PySem.F.excBase_LookupError, PySem.F.store_LookupError, h1, h2⟩
  | 2, h1, h2 => exact ⟨_, _, _, _, PySem.F.excBase_RuntimeError, PySem.F.store_RuntimeError, h1, h2⟩
  | _ + 3, h1, h2 => exact ⟨_, _, _, _, PySem.F.excBase_ArithmeticError, PySem.F.store_ArithmeticError, h1, h2⟩
theorem fam_ok {C : Addr} {r : Nat} (T : ExC K C) (h : famB K C r = true) : Fam K (nth K n4) C r := by
  obtain ⟨h1, h⟩ := He.ba h
  obtain ⟨h2, h⟩ := He.ba h
  obtain ⟨h3, h⟩ := He.ba h
  obtain ⟨h4, h5⟩ := He.ba h
  exact ⟨T, fun j hj => of_decide_eq_true (List.all_eq_true.mp h1 j (List.mem_range.mpr hj)), of_decide_eq_true h2, of_decide_eq_true h3, of_decide_eq_true h4, of_decide_eq_true h5⟩
theorem cls_of (c : obsK K = val0) (i : Nat) {d : Str × Nat × List Str} (h : clss[i]? = some d := by rfl) : clsB K d = true :=
  List.all_eq_true.mp (bit_of c 3 (b := clss.all (clsB K))) d (List.mem_of_getElem? h)
theorem cls_fam (c : obsK K = val0) (i : Nat) {x : Str} {r : Nat} {fs : List Str} (h : clss[i]? = some (x, r, fs) := by rfl) : Fam K (nth K n4) (He.ga K x) r := by
  obtain ⟨_, q⟩ := He.ba (cls_of c i h)
  obtain ⟨q1, q⟩ := He.ba q
  exact fam_ok (exc_ok q1) (He.ba q).1
theorem apart_ok {l : List Str} (h : apart K l = true) (i j : Nat) (hi : i < l.length) (hj : j < l.length) : PySem.W.kitOne K (.ref (nth K l i)) (.ref (nth K l j)) = some (decide (i = j)) :=
  of_decide_eq_true (List.all_eq_true.mp (List.all_eq_true.mp h i (List.mem_range.mpr hi)) j (List.mem_range.mpr hj))
end
section
variable {P : Program} {w : World} {K : PySem.W.Frag} {mg : Str → Option Value} {base : Heap}
theorem glo_of (X : K.In base) (G : base.Ns mainGlobals mg) {l : List Str} (h : l.all (gloB K) = true) (i : Nat) {x : Str} (e : l[i]? = some x := by rfl) : mg x = some (.ref (He.ga K x)) :=
  PySem.W.mg_of X G (He.eqO_ok (List.all_eq_true.mp h x (List.mem_of_getElem? e)))
theorem free_of (X : K.In base) (G : base.Ns mainGlobals mg) {l : List Str} (h : l.all (freeB K) = true) (i : Nat) {x : Str} (e : l[i]? = some x := by rfl) : mg x = none :=
  PySem.W.mg_none_of X G (He.eqO_ok (List.all_eq_true.mp h x (List.mem_of_getElem? e)))
theorem mk1_of (X : K.In base) (G : base.Ns mainGlobals mg) {x f : Str} {r : Nat} {fd : FuncData} (c : clsB K (x, r, [f]) = true) (F : FnOk P w K mg base CX0 1 (He.ma K (He.ga K x) "__init__") fd ["self", f] (spI1 K f))
    (b1 : KBn K fd ["self", f] 2 [] (fun us ws => gApp us ws) (fun us ws => gApp us ws)) (b2 : KBn K fd ["self", f] 1 [f] (fun us ws => gApp us ws) (fun us ws => gApp us ws)) : Mk1 P w K mg base x f (He.ga K x) := by
  obtain ⟨q0, q⟩ := He.ba c
  obtain ⟨q1, q⟩ := He.ba q
  obtain ⟨_, q⟩ := He.ba q
  obtain ⟨q3, q4⟩ := He.ba q
  obtain ⟨i1, i2⟩ := He.ba q3
  exact ⟨exc_ok q1, He.eqO_ok (List.all_eq_true.mp q4 f List.mem_cons_self), PySem.W.mg_of X G (He.eqO_ok q0), _, fd, He.eqO_ok i1, of_decide_eq_true i2, F, b1, b2⟩
theorem mk2_of (X : K.In base) (G : base.Ns mainGlobals mg) {x f g : Str} {r : Nat} {fd : FuncData} (c : clsB K (x, r, [f, g]) = true) (F : FnOk P w K mg base CX0 1 (He.ma K (He.ga K x) "__init__") fd ["self", f, g] (spI2 K f g))
    (b1 : KBn K fd ["self", f, g] 3 [] (fun us ws => gApp us ws) (fun us ws => gApp us ws)) (b2 : KBn K fd ["self", f, g] 1 [g, f] (fun us ws => gTurn us ws) (fun us ws => gTurn us ws)) (b3 : KBn K fd ["self", f, g] 2 [g] (fun us ws => gApp us ws) (fun us ws => gApp us ws)) :
    Mk2 P w K mg base x f g (He.ga K x) := by
  obtain ⟨q0, q⟩ := He.ba c
  obtain ⟨q1, q⟩ := He.ba q
  obtain ⟨_, q⟩ := He.ba q
  obtain ⟨q3, q4⟩ := He.ba q
  obtain ⟨i1, i2⟩ := He.ba q3
  exact ⟨exc_ok q1, He.eqO_ok (List.all_eq_true.mp q4 f List.mem_cons_self), He.eqO_ok (List.all_eq_true.mp q4 g (List.mem_cons_of_mem _ List.mem_cons_self)), PySem.W.mg_of X G (He.eqO_ok q0), _, fd, He.eqO_ok i1, of_decide_eq_true i2, F, b1, b2, b3⟩
theorem mk_InvalidName (X : K.In base) (G : base.Ns mainGlobals mg) (c : obsK K = val0) : Mk1 P w K mg base "InvalidName" "value" (He.ga K "InvalidName") := by
  obtain ⟨fd, FD⟩ := def_of c 0
  have e : meth 2 = ini1 "value" _ _ _ _ _ _ _ := rfl
  have F := fun_of (st := meth 2) FD
  rw [e] at F
  exact mk1_of X G (cls_of c 0) (ok_value F) (kb_value F) (kk_value F)
theorem mk_InvalidShift (X : K.In base) (G : base.Ns mainGlobals mg) (c : obsK K = val0) : Mk1 P w K mg base "InvalidShift" "value" (He.ga K "InvalidShift") := by
  obtain ⟨fd, FD⟩ := def_of c 1
  have e : meth 3 = ini1 "value" _ _ _ _ _ _ _ := rfl
  have F := fun_of (st := meth 3) FD
  rw [e] at F
  exact mk1_of X G (cls_of c 1) (ok_value F) (kb_value F) (kk_value F)
theorem mk_InvalidShifts (X : K.In base) (G : base.Ns mainGlobals mg) (c : obsK K = val0) : Mk1 P w K mg base "InvalidShifts" "name" (He.ga K "InvalidShifts") := by
  obtain ⟨fd, FD⟩ := def_of c 2
  have e : meth 4 = ini1 "name" _ _ _ _ _ _ _ := rfl
  have F := fun_of (st := meth 4) FD
  rw [e] at F
  exact mk1_of X G (cls_of c 2) (ok_name F) (kb_name F) (kk_name F)
theorem mk_InvalidTimes (X : K.In base) (G : base.Ns mainGlobals mg) (c : obsK K = val0) : Mk1 P w K mg base "InvalidTimes" "value" (He.ga K "InvalidTimes") := by
  obtain ⟨fd, FD⟩ := def_of c 3
  have e : meth 5 = ini1 "value" _ _ _ _ _ _ _ := rfl
  have F := fun_of (st := meth 5) FD
  rw [e] at F
  exact mk1_of X G (cls_of c 3) (ok_value F) (kb_value F) (kk_value F)
theorem mk_InvalidMoments (X : K.In base) (G : base.Ns mainGlobals mg) (c : obsK K = val0) : Mk1 P w K mg base "InvalidMoments" "position" (He.ga K "InvalidMoments") := by
  obtain ⟨fd, FD⟩ := def_of c 4
  have e : meth 6 = ini1 "position" _ _ _ _ _ _ _ := rfl
  have F := fun_of (st := meth 6) FD
  rw [e] at F
  exact mk1_of X G (cls_of c 4) (ok_position F) (kb_position F) (kk_position F)
theorem mk_InvalidRules (X : K.In base) (G : base.Ns mainGlobals mg) (c : obsK K = val0) : Mk1 P w K mg base "InvalidRules" "position" (He.ga K "InvalidRules") := by
  obtain ⟨fd, FD⟩ := def_of c 5
  have e : meth 7 = ini1 "position" _ _ _ _ _ _ _ := rfl
  have F := fun_of (st := meth 7) FD
  rw [e] at F
  exact mk1_of X G (cls_of c 5) (ok_position F) (kb_position F) (kk_position F)
theorem mk_InvalidPosition (X : K.In base) (G : base.Ns mainGlobals mg) (c : obsK K = val0) : Mk1 P w K mg base "InvalidPosition" "value" (He.ga K "InvalidPosition") := by
  obtain ⟨fd, FD⟩ := def_of c 6
  have e : meth 8 = ini1 "value" _ _ _ _ _ _ _ := rfl
  have F := fun_of (st := meth 8) FD
  rw [e] at F
  exact mk1_of X G (cls_of c 6) (ok_value F) (kb_value F) (kk_value F)
theorem mk_InvalidPositions (X : K.In base) (G : base.Ns mainGlobals mg) (c : obsK K = val0) : Mk1 P w K mg base "InvalidPositions" "position" (He.ga K "InvalidPositions") := by
  obtain ⟨fd, FD⟩ := def_of c 7
  have e : meth 9 = ini1 "position" _ _ _ _ _ _ _ := rfl
  have F := fun_of (st := meth 9) FD
  rw [e] at F
  exact mk1_of X G (cls_of c 7) (ok_position F) (kb_position F) (kk_position F)
theorem mk_InvalidNames (X : K.In base) (G : base.Ns mainGlobals mg) (c : obsK K = val0) : Mk1 P w K mg base "InvalidNames" "value" (He.ga K "InvalidNames") := by
  obtain ⟨fd, FD⟩ := def_of c 8
  have e : meth 10 = ini1 "value" _ _ _ _ _ _ _ := rfl
  have F := fun_of (st := meth 10) FD
  rw [e] at F
  exact mk1_of X G (cls_of c 8) (ok_value F) (kb_value F) (kk_value F)
theorem mk_InvalidCount (X : K.In base) (G : base.Ns mainGlobals mg) (c : obsK K = val0) : Mk1 P w K mg base "InvalidCount" "value" (He.ga K "InvalidCount") := by
  obtain ⟨fd, FD⟩ := def_of c 9
  have e : meth 11 = ini1 "value" _ _ _ _ _ _ _ := rfl
  have F := fun_of (st := meth 11) FD
  rw [e] at F
  exact mk1_of X G (cls_of c 9) (ok_value F) (kb_value F) (kk_value F)
theorem mk_InvalidChoice (X : K.In base) (G : base.Ns mainGlobals mg) (c : obsK K = val0) : Mk1 P w K mg base "InvalidChoice" "position" (He.ga K "InvalidChoice") := by
  obtain ⟨fd, FD⟩ := def_of c 10
  have e : meth 12 = ini1 "position" _ _ _ _ _ _ _ := rfl
  have F := fun_of (st := meth 12) FD
  rw [e] at F
  exact mk1_of X G (cls_of c 10) (ok_position F) (kb_position F) (kk_position F)
theorem mk_InvalidCeilings (X : K.In base) (G : base.Ns mainGlobals mg) (c : obsK K = val0) : Mk1 P w K mg base "InvalidCeilings" "value" (He.ga K "InvalidCeilings") := by
  obtain ⟨fd, FD⟩ := def_of c 11
  have e : meth 13 = ini1 "value" _ _ _ _ _ _ _ := rfl
  have F := fun_of (st := meth 13) FD
  rw [e] at F
  exact mk1_of X G (cls_of c 11) (ok_value F) (kb_value F) (kk_value F)
theorem mk_InvalidTerms (X : K.In base) (G : base.Ns mainGlobals mg) (c : obsK K = val0) : Mk1 P w K mg base "InvalidTerms" "position" (He.ga K "InvalidTerms") := by
  obtain ⟨fd, FD⟩ := def_of c 12
  have e : meth 14 = ini1 "position" _ _ _ _ _ _ _ := rfl
  have F := fun_of (st := meth 14) FD
  rw [e] at F
  exact mk1_of X G (cls_of c 12) (ok_position F) (kb_position F) (kk_position F)
theorem mk_InvalidPace (X : K.In base) (G : base.Ns mainGlobals mg) (c : obsK K = val0) : Mk1 P w K mg base "InvalidPace" "value" (He.ga K "InvalidPace") := by
  obtain ⟨fd, FD⟩ := def_of c 13
  have e : meth 15 = ini1 "value" _ _ _ _ _ _ _ := rfl
  have F := fun_of (st := meth 15) FD
  rw [e] at F
  exact mk1_of X G (cls_of c 13) (ok_value F) (kb_value F) (kk_value F)
theorem mk_InvalidText (X : K.In base) (G : base.Ns mainGlobals mg) (c : obsK K = val0) : Mk1 P w K mg base "InvalidText" "line" (He.ga K "InvalidText") := by
  obtain ⟨fd, FD⟩ := def_of c 14
  have e : meth 16 = ini1 "line" _ _ _ _ _ _ _ := rfl
  have F := fun_of (st := meth 16) FD
  rw [e] at F
  exact mk1_of X G (cls_of c 14) (ok_line F) (kb_line F) (kk_line F)
theorem mk_InvalidClaim (X : K.In base) (G : base.Ns mainGlobals mg) (c : obsK K = val0) : Mk1 P w K mg base "InvalidClaim" "value" (He.ga K "InvalidClaim") := by
  obtain ⟨fd, FD⟩ := def_of c 15
  have e : meth 17 = ini1 "value" _ _ _ _ _ _ _ := rfl
  have F := fun_of (st := meth 17) FD
  rw [e] at F
  exact mk1_of X G (cls_of c 15) (ok_value F) (kb_value F) (kk_value F)
theorem mk_InvalidCommand (X : K.In base) (G : base.Ns mainGlobals mg) (c : obsK K = val0) : Mk1 P w K mg base "InvalidCommand" "value" (He.ga K "InvalidCommand") := by
  obtain ⟨fd, FD⟩ := def_of c 16
  have e : meth 18 = ini1 "value" _ _ _ _ _ _ _ := rfl
  have F := fun_of (st := meth 18) FD
  rw [e] at F
  exact mk1_of X G (cls_of c 16) (ok_value F) (kb_value F) (kk_value F)
theorem mk_LastOne (X : K.In base) (G : base.Ns mainGlobals mg) (c : obsK K = val0) : Mk1 P w K mg base "LastOne" "value" (He.ga K "LastOne") := by
  obtain ⟨fd, FD⟩ := def_of c 17
  have e : meth 22 = ini1 "value" _ _ _ _ _ _ _ := rfl
  have F := fun_of (st := meth 22) FD
  rw [e] at F
  exact mk1_of X G (cls_of c 17) (ok_value F) (kb_value F) (kk_value F)
theorem mk_NameTaken (X : K.In base) (G : base.Ns mainGlobals mg) (c : obsK K = val0) : Mk1 P w K mg base "NameTaken" "value" (He.ga K "NameTaken") := by
  obtain ⟨fd, FD⟩ := def_of c 18
  have e : meth 23 = ini1 "value" _ _ _ _ _ _ _ := rfl
  have F := fun_of (st := meth 23) FD
  rw [e] at F
  exact mk1_of X G (cls_of c 18) (ok_value F) (kb_value F) (kk_value F)
theorem mk_OtherMoments (X : K.In base) (G : base.Ns mainGlobals mg) (c : obsK K = val0) : Mk2 P w K mg base "OtherMoments" "one" "other" (He.ga K "OtherMoments") := by
  obtain ⟨fd, FD⟩ := def_of c 19
  have e : meth 24 = ini2 "one" "other" _ _ _ _ _ _ _ _ _ _ _ _ := rfl
  have F := fun_of (st := meth 24) FD
  rw [e] at F
  exact mk2_of X G (cls_of c 19) (ok_one F) (kb_one F) (kt_one F) (km_one F)
theorem mk_NotKept (X : K.In base) (G : base.Ns mainGlobals mg) (c : obsK K = val0) : Mk1 P w K mg base "NotKept" "position" (He.ga K "NotKept") := by
  obtain ⟨fd, FD⟩ := def_of c 20
  have e : meth 26 = ini1 "position" _ _ _ _ _ _ _ := rfl
  have F := fun_of (st := meth 26) FD
  rw [e] at F
  exact mk1_of X G (cls_of c 21) (ok_position F) (kb_position F) (kk_position F)
theorem mk_BackNeeded (X : K.In base) (G : base.Ns mainGlobals mg) (c : obsK K = val0) : Mk1 P w K mg base "BackNeeded" "position" (He.ga K "BackNeeded") := by
  obtain ⟨fd, FD⟩ := def_of c 21
  have e : meth 27 = ini1 "position" _ _ _ _ _ _ _ := rfl
  have F := fun_of (st := meth 27) FD
  rw [e] at F
  exact mk1_of X G (cls_of c 22) (ok_position F) (kb_position F) (kk_position F)
theorem mk_CommandFailed (X : K.In base) (G : base.Ns mainGlobals mg) (c : obsK K = val0) : Mk1 P w K mg base "CommandFailed" "position" (He.ga K "CommandFailed") := by
  obtain ⟨fd, FD⟩ := def_of c 22
  have e : meth 29 = ini1 "position" _ _ _ _ _ _ _ := rfl
  have F := fun_of (st := meth 29) FD
  rw [e] at F
  exact mk1_of X G (cls_of c 24) (ok_position F) (kb_position F) (kk_position F)
theorem mk_UnknownMoment (X : K.In base) (G : base.Ns mainGlobals mg) (c : obsK K = val0) : Mk1 P w K mg base "UnknownMoment" "value" (He.ga K "UnknownMoment") := by
  obtain ⟨fd, FD⟩ := def_of c 23
  have e : meth 20 = ini1 "value" _ _ _ _ _ _ _ := rfl
  have F := fun_of (st := meth 20) FD
  rw [e] at F
  exact mk1_of X G (cls_of c 25) (ok_value F) (kb_value F) (kk_value F)
theorem mk_TooMany (X : K.In base) (G : base.Ns mainGlobals mg) (c : obsK K = val0) : Mk2 P w K mg base "TooMany" "what" "limit" (He.ga K "TooMany") := by
  obtain ⟨fd, FD⟩ := def_of c 24
  have e : meth 31 = ini2 "what" "limit" _ _ _ _ _ _ _ _ _ _ _ _ := rfl
  have F := fun_of (st := meth 31) FD
  rw [e] at F
  exact mk2_of X G (cls_of c 26) (ok_what F) (kb_what F) (kt_what F) (km_what F)
end
end E18

set_option Elab.async false
set_option linter.all false
set_option maxRecDepth 100000
set_option maxHeartbeats 4000000
namespace E18
open L2 PySem PySem.Spec PyProof.Rows
section
variable {P : Program} {w : World} {K : PySem.W.Frag} {mg : Str → Option Value} {base : Heap}
theorem kb_sup {C f : Addr} {fd : FuncData} (S : Sup P K mg C f fd) : KBn K fd ["self"] 1 [] (fun us ws => gApp us ws) (fun us ws => gApp us ws) := by
  obtain ⟨oc, od, kV, doc, pm, an, cda, cc, ct, osl, pa, p0, p1, p2, p3, p4, vs, file, tf, c1, c2, d1, d2, s1, s2, qual, rfl, _⟩ := S.fn
  exact ⟨fun s us ws _ l1 l2 => BindsTo.of_eq (match us, ws, l1, l2 with | [_], [], _, _ => rfl), rel_app⟩
theorem cell_of {cc C : Addr} (h : cellB K cc C = true) : ∃ c d sl, K.lookup cc = some ⟨c, d, .cell (some (.ref C)), sl⟩ := by
  unfold cellB at h
  split at h
  · rename_i c d D sl e
    rw [← of_decide_eq_true h]
    exact ⟨c, d, sl, e⟩
  · exact (Bool.false_ne_true h).elim
theorem file_of {file : Str} {cda : Addr} (h : fileB K file cda = true) : ∃ c d vs sl g tf, K.lookup cda = some ⟨c, d, .fields vs, sl⟩ ∧ vs[2]? = some (.str g tf) ∧ (file == g) = true := by
  unfold fileB at h
  split at h
  · rename_i c d vs sl e
    split at h
    · rename_i g tf e2
      exact ⟨c, d, vs, sl, g, tf, e, e2, h⟩
    · exact (Bool.false_ne_true h).elim
  · exact (Bool.false_ne_true h).elim
theorem noDfl_of {v : Value} (h : noDfl v = true) : v = .none := by
  unfold noDfl at h
  split at h
  · rfl
  · exact (Bool.false_ne_true h).elim
theorem code_of {file : Str} {v : Value} (h : codeB K file v = true) : ∃ cda, v = .ref cda ∧ fileB K file cda = true := by
  unfold codeB at h
  split at h
  · exact ⟨_, rfl, h⟩
  · exact (Bool.false_ne_true h).elim
theorem clos_of {C : Addr} {l : List (Str × Addr)} (h : closB K C l = true) : ∃ cc, l = [(("__class__" : Str), cc)] ∧ cellB K cc C = true := by
  unfold closB at h
  split at h
  · obtain ⟨h1, h2⟩ := He.ba h
    rw [of_decide_eq_true h1]
    exact ⟨_, rfl, h2⟩
  · exact (Bool.false_ne_true h).elim
theorem fd_of {f C : Addr} {m : FuncData → Bool} (h : (match K.lookup f with
    | some ⟨_, _, .func fd, _⟩ => m fd
    | _ => false) = true) : ∃ oc od fd osl, K.lookup f = some ⟨oc, od, .func fd, osl⟩ ∧ m fd = true := by
  split at h
  · rename_i oc od fd osl e
    exact ⟨oc, od, fd, osl, e, h⟩
  · exact (Bool.false_ne_true h).elim
theorem sup_of {x : Str} {a p0 p1 p2 p3 p4 : Pos} (file : Str) (h : supB K file x = true) (e : supW K x = some ((("__init__" : Str), args0 a, FuncBody.stmts (body0 p0 p1 p2 p3 p4), sc0, mainGlobals, builtinsNs) : Str × Arguments × FuncBody × Scope × Addr × Addr)) (hc : clsB K (x, 2, []) = true)
    (ho : PySem.W.nsIn K cStatics "thirdparty.any" = some none) (ms : mg "super" = none) (hf : P.main.file = file) (tp : (P.main.scope.names.lookup ("super" : Str)).isSome = false) (ev : Evs p0 p1 p2 p3) :
    ∃ fd, Sup P K mg (He.ga K x) (He.ma K (He.ga K x) "__init__") fd := by
  obtain ⟨q1, h⟩ := He.ba h
  obtain ⟨q2, h⟩ := He.ba h
  obtain ⟨q3, h⟩ := He.ba h
  obtain ⟨q4, h⟩ := He.ba h
  obtain ⟨_, k⟩ := He.ba hc
  obtain ⟨k1, _⟩ := He.ba k
  obtain ⟨k2, _⟩ := He.ba k1
  have cl : ∃ cd, PySem.W.clsIn K (He.ga K x) = some cd := Option.isSome_iff_exists.mp q1
  obtain ⟨oc, od, fd, osl, lk, h⟩ := fd_of (C := 0) h
  unfold supW at e
  rw [lk] at e
  obtain ⟨m1, m2, m3, m4, m5, m6, m7, m8, m9, m10, m11, m12, m13, m14, m15⟩ := fd
  have e2 : (some (m1, m3, m4, m5, m6, m15) : Option (Str × Arguments × FuncBody × Scope × Addr × Addr)) = some ((("__init__" : Str), args0 a, FuncBody.stmts (body0 p0 p1 p2 p3 p4), sc0, mainGlobals, builtinsNs) : Str × Arguments × FuncBody × Scope × Addr × Addr) := e
  simp only [Option.some.injEq, Prod.mk.injEq] at e2
  obtain ⟨g1, g2, g3, g4, g5, g6⟩ := e2
  subst g1 g2 g3 g4 g5 g6
  obtain ⟨j1, h⟩ := He.ba h
  obtain ⟨j2, h⟩ := He.ba h
  obtain ⟨j3, j4⟩ := He.ba h
  have y1 : m8 = .none := noDfl_of j2
  obtain ⟨cda, y2, y3⟩ := code_of (show codeB K file m13 = true from j3)
  obtain ⟨cc, y4, y5⟩ := clos_of (show closB K (He.ga K x) m7 = true from j4)
  subst y1 y2 y4
  obtain ⟨c1, d1, vs, s1, g, tf, z1, z2, z3⟩ := file_of y3
  obtain ⟨c2, d2, s2, z4⟩ := cell_of y5
  exact ⟨_, ⟨⟨oc, od, m9, m10, m11, m12, cda, cc, m14, osl, a, p0, p1, p2, p3, p4, vs, g, tf, c1, c2, d1, d2, s1, s2, m2, rfl, lk, j1, z1, z2, by rw [hf]; exact z3, z4, ev⟩,
    cl, of_decide_eq_true q2, He.eqO_ok q3, of_decide_eq_true q4, ho, ms, k2, tp⟩⟩
theorem mk0_of (X : K.In base) (G : base.Ns mainGlobals mg) {x : Str} {fd : FuncData} (hc : clsB K (x, 2, []) = true) (S : Sup P K mg (He.ga K x) (He.ma K (He.ga K x) "__init__") fd) : Mk0 P w K mg base x (He.ga K x) := by
  obtain ⟨q0, q⟩ := He.ba hc
  obtain ⟨q1, q⟩ := He.ba q
  obtain ⟨_, q⟩ := He.ba q
  obtain ⟨q3, _⟩ := He.ba q
  obtain ⟨i1, i2⟩ := He.ba q3
  exact ⟨exc_ok q1, PySem.W.mg_of X G (He.eqO_ok q0), _, fd, He.eqO_ok i1, of_decide_eq_true i2, ok_sup S, kb_sup S⟩
end
end E18

set_option Elab.async false
set_option linter.all false
set_option maxRecDepth 100000
set_option maxHeartbeats 4000000
namespace E18
open L2 PySem PySem.Spec PyProof.Rows
section
variable {P : Program} {w : World} {K : PySem.W.Frag} {mg : Str → Option Value} {base : Heap}
theorem nam_of (X : K.In base) (G : base.Ns mainGlobals mg) (c : obsK K = val0) : Nam mg (nth K n4) := by
  have a : n4.all (gloB K) = true := bit_of c 0
  have f : nf.all (freeB K) = true := bit_of c 1
  exact ⟨glo_of X G a 0, glo_of X G a 1, glo_of X G a 2, glo_of X G a 3, free_of X G f 0, free_of X G f 1, free_of X G f 2, free_of X G f 3, free_of X G f 4, free_of X G f 5, free_of X G f 6, free_of X G f 7, free_of X G f 8, free_of X G f 9, free_of X G f 10, free_of X G f 11, free_of X G f 12, free_of X G f 13⟩
theorem mk_NoRun (X : K.In base) (G : base.Ns mainGlobals mg) (c : obsK K = val0) (hf : P.main.file = file0) (tp : (P.main.scope.names.lookup ("super" : Str)).isSome = false) : Mk0 P w K mg base "NoRun" (He.ga K "NoRun") := by
  have e : supW K "NoRun" = supV 25 := congrArg (fun t : Al => t.2.2.1) c
  obtain ⟨fd, S⟩ := sup_of (P := P) (mg := mg) file0 (bit_of c 6) (e.trans (show supV 25 = some ((("__init__" : Str), args0 _, FuncBody.stmts (body0 _ _ _ _ _), sc0, mainGlobals, builtinsNs) : Str × Arguments × FuncBody × Scope × Addr × Addr) from rfl)) (cls_of c 20)
    (He.eqO_ok (bit_of c 8)) (free_of X G (bit_of c 1) 14) hf tp (fun _ => ⟨_, rfl⟩)
  exact mk0_of X G (cls_of c 20) S
theorem mk_NothingToUndo (X : K.In base) (G : base.Ns mainGlobals mg) (c : obsK K = val0) (hf : P.main.file = file0) (tp : (P.main.scope.names.lookup ("super" : Str)).isSome = false) : Mk0 P w K mg base "NothingToUndo" (He.ga K "NothingToUndo") := by
  have e : supW K "NothingToUndo" = supV 28 := congrArg (fun t : Al => t.2.2.2) c
  obtain ⟨fd, S⟩ := sup_of (P := P) (mg := mg) file0 (bit_of c 7) (e.trans (show supV 28 = some ((("__init__" : Str), args0 _, FuncBody.stmts (body0 _ _ _ _ _), sc0, mainGlobals, builtinsNs) : Str × Arguments × FuncBody × Scope × Addr × Addr) from rfl)) (cls_of c 23)
    (He.eqO_ok (bit_of c 8)) (free_of X G (bit_of c 1) 14) hf tp (fun _ => ⟨_, rfl⟩)
  exact mk0_of X G (cls_of c 23) S
theorem top_of (X : K.In base) (G : base.Ns mainGlobals mg) (c : obsK K = val0) (hf : P.main.file = file0) (tp : (P.main.scope.names.lookup ("super" : Str)).isSome = false) :
    Top P w K mg base (nth K n4) (nth K n17) (nth K n8) (He.ga K "UnknownMoment") (He.ga K "TooMany") := by
  refine ⟨nam_of X G c, mk_InvalidName X G c, mk_InvalidShift X G c, mk_InvalidShifts X G c, mk_InvalidTimes X G c, mk_InvalidMoments X G c, mk_InvalidRules X G c, mk_InvalidPosition X G c, mk_InvalidPositions X G c, mk_InvalidNames X G c, mk_InvalidCount X G c, mk_InvalidChoice X G c,
    mk_InvalidCeilings X G c, mk_InvalidTerms X G c, mk_InvalidPace X G c, mk_InvalidText X G c, mk_InvalidClaim X G c, mk_InvalidCommand X G c, fun i hi => ?_, fun i j hi hj => apart_ok (bit_of c 4) i j hi hj, mk_LastOne X G c, mk_NameTaken X G c, mk_OtherMoments X G c, mk_NoRun X G c hf tp, mk_NotKept X G c,
    mk_BackNeeded X G c, mk_NothingToUndo X G c hf tp, mk_CommandFailed X G c, fun i hi => ?_, fun i j hi hj => apart_ok (bit_of c 5) i j hi hj, mk_UnknownMoment X G c, cls_fam c 25, mk_TooMany X G c, cls_fam c 26⟩
  · match i, hi with
    | 0, _ => exact cls_fam c 0
    | 1, _ => exact cls_fam c 1
    | 2, _ => exact cls_fam c 2
    | 3, _ => exact cls_fam c 3
    | 4, _ => exact cls_fam c 4
    | 5, _ => exact cls_fam c 5
    | 6, _ => exact cls_fam c 6
    | 7, _ => exact cls_fam c 7
    | 8, _ => exact cls_fam c 8
    | 9, _ => exact cls_fam c 9
    | 10, _ => exact cls_fam c 10
    | 11, _ => exact cls_fam c 11
    | 12, _ => exact cls_fam c 12
    | 13, _ => exact cls_fam c 13
    | 14, _ => exact cls_fam c 14
    | 15, _ => exact cls_fam c 15
    | 16, _ => exact cls_fam c 16
    | n + 17, h => exact absurd h (by omega)
  · match i, hi with
    | 0, _ => exact cls_fam c 17
    | 1, _ => exact cls_fam c 18
    | 2, _ => exact cls_fam c 19
    | 3, _ => exact cls_fam c 20
    | 4, _ => exact cls_fam c 21
    | 5, _ => exact cls_fam c 22
    | 6, _ => exact cls_fam c 23
    | 7, _ => exact cls_fam c 24
    | n + 8, h => exact absurd h (by omega)
end
end E18

set_option Elab.async false
set_option maxRecDepth 100000
set_option maxHeartbeats 0
namespace E18
open L2 PySem PySem.Spec PyProof.Rows
theorem run (w : World) : HandSHeadRun.RunEq R qv hook ob 8000 names w := by
  intro os
  kernel_rfl
end E18

set_option Elab.async false
set_option linter.all false
set_option maxRecDepth 100000
set_option maxHeartbeats 4000000
namespace E18
open L2 PySem PySem.Spec PyProof.Rows
section
variable {P : Program} {w : World} {K : PySem.W.Frag} {mg : Str → Option Value} {base : Heap}
theorem def_mk {x : Str} {ps : List Str} {k : Nat} {sp : Sp} {st : Stmt} {fd : FuncData} (F : Fun K x x st (He.ga K x) fd) (g : mg x = some (.ref (He.ga K x))) (ok : FnOk P w K mg base CX0 k (He.ga K x) fd ps sp)
    (h : ∀ (kV doc pm : Value) (an : Option Addr) (cdv ct : Value) (us : List Value), us.length = ps.length → bindArgs (PySem.W.fnOf x x (defArgs st) (defBody st) (defScope st) .none kV doc pm an cdv ct) ⟨us, []⟩ = pure (ps.zip us)) : Def P w K mg base x ps k sp :=
  ⟨_, fd, ok, g, F.kp, F.binds h⟩
theorem law_of (X : K.In base) (G : base.Ns mainGlobals mg) (c : obsK K = val0) (hf : P.main.file = file0) (tp : (P.main.scope.names.lookup ("super" : Str)).isSome = false) :
    ∃ fd, Fun K "law" "law" sLaw (He.ga K "law") fd ∧ FnG P w K mg base 6 (He.ga K "law") fd ["_law_script"] (spLaw K) := by
  have T := top_of (P := P) (w := w) X G c hf tp
  have N := T.N
  have g : defNames.all (gloB K) = true := bit_of c 2
  obtain ⟨f0, d0⟩ := def_of c 25
  obtain ⟨f1, d1⟩ := def_of c 26
  obtain ⟨f2, d2⟩ := def_of c 27
  obtain ⟨f3, d3⟩ := def_of c 28
  obtain ⟨f4, d4⟩ := def_of c 29
  obtain ⟨f5, d5⟩ := def_of c 30
  obtain ⟨f6, d6⟩ := def_of c 31
  obtain ⟨f7, d7⟩ := def_of c 32
  obtain ⟨f8, d8⟩ := def_of c 33
  obtain ⟨f9, d9⟩ := def_of c 34
  obtain ⟨f10, d10⟩ := def_of c 35
  obtain ⟨f11, d11⟩ := def_of c 36
  obtain ⟨f12, d12⟩ := def_of c 37
  obtain ⟨f13, d13⟩ := def_of c 38
  have F0 : Fun K "_law_pot" "_law_pot" sPot (He.ga K "_law_pot") f0 := fun_of d0
  have F1 : Fun K "_law_draw" "_law_draw" sDraw (He.ga K "_law_draw") f1 := fun_of d1
  have F2 : Fun K "_law_choice" "_law_choice" sChoice (He.ga K "_law_choice") f2 := fun_of d2
  have F3 : Fun K "_law_value" "_law_value" (top 36) (He.ga K "_law_value") f3 := fun_of d3
  have F4 : Fun K "_law_bases" "_law_bases" sBases (He.ga K "_law_bases") f4 := fun_of d4
  have F5 : Fun K "_law_base" "_law_base" sBase (He.ga K "_law_base") f5 := fun_of d5
  have F6 : Fun K "_law_values_right" "_law_values_right" sValues (He.ga K "_law_values_right") f6 := fun_of d6
  have F7 : Fun K "_law_positions_right" "_law_positions_right" sPositions (He.ga K "_law_positions_right") f7 := fun_of d7
  have F8 : Fun K "_law_others_right" "_law_others_right" sOthers (He.ga K "_law_others_right") f8 := fun_of d8
  have F9 : Fun K "_law_kinds" "_law_kinds" sKinds (He.ga K "_law_kinds") f9 := fun_of d9
  have F10 : Fun K "_law_states" "_law_states" sStates (He.ga K "_law_states") f10 := fun_of d10
  have F11 : Fun K "_law_apart_right" "_law_apart_right" sApart (He.ga K "_law_apart_right") f11 := fun_of d11
  have F12 : Fun K "_law_right" "_law_right" sRight (He.ga K "_law_right") f12 := fun_of d12
  have F13 : Fun K "law" "law" sLaw (He.ga K "law") f13 := fun_of d13
  have D0 := def_mk (w := w) (base := base) F0 (glo_of X G g 0) (ok_pot (P := P) N F0) fun _ _ _ _ _ _ us hl => match us, hl with | [_, _], _ => rfl
  have D1 := def_mk (w := w) (base := base) F1 (glo_of X G g 1) (ok_draw (P := P) N F1) fun _ _ _ _ _ _ us hl => match us, hl with | [_, _], _ => rfl
  have D2 := def_mk (w := w) (base := base) F2 (glo_of X G g 2) (ok_choice (P := P) N D1 F2) fun _ _ _ _ _ _ us hl => match us, hl with | [_, _], _ => rfl
  have D3 := def_mk (w := w) (base := base) F3 (glo_of X G g 3) (ok_theValue (P := P) N D1 D2 F3) fun _ _ _ _ _ _ us hl => match us, hl with | [_], _ => rfl
  have D4 := def_mk (w := w) (base := base) F4 (glo_of X G g 4) (ok_bases (P := P) N F4) fun _ _ _ _ _ _ us hl => match us, hl with | [_], _ => rfl
  have D5 := def_mk (w := w) (base := base) F5 (glo_of X G g 5) (ok_base (P := P) N F5) fun _ _ _ _ _ _ us hl => match us, hl with | [_], _ => rfl
  have D6 := def_mk (w := w) (base := base) F6 (glo_of X G g 6) (ok_values T D4 D5 F6) fun _ _ _ _ _ _ us hl => match us, hl with | [_], _ => rfl
  have D7 := def_mk (w := w) (base := base) F7 (glo_of X G g 7) (ok_positions T D4 D5 F7) fun _ _ _ _ _ _ us hl => match us, hl with | [_], _ => rfl
  have D8 := def_mk (w := w) (base := base) F8 (glo_of X G g 8) (ok_others T D4 D5 F8) fun _ _ _ _ _ _ us hl => match us, hl with | [_, _], _ => rfl
  have D9 := def_mk (w := w) (base := base) F9 (glo_of X G g 9) (ok_kinds T F9) fun _ _ _ _ _ _ us hl => match us, hl with | [_], _ => rfl
  have D10 := def_mk (w := w) (base := base) F10 (glo_of X G g 10) (ok_states T F10) fun _ _ _ _ _ _ us hl => match us, hl with | [_], _ => rfl
  have D11 := def_mk (w := w) (base := base) F11 (glo_of X G g 11) (ok_apart T D9 D10 F11) fun _ _ _ _ _ _ us hl => match us, hl with | [_], _ => rfl
  have R12 := ok_right N D3 D6 D7 D8 D11 F12
  have D12 : DefG P w K mg base "_law_right" "_law_pot_here" 5 spRight := ⟨_, f12, R12, glo_of X G g 12, F12.kp, F12.binds fun _ _ _ _ _ _ us hl => match us, hl with | [_], _ => rfl⟩
  exact ⟨f13, F13, ok_law N D0 D12 F13⟩
theorem binds_law {f : Addr} {fd : FuncData} (F : Fun K "law" "law" sLaw f fd) (s : Shared) (u : Value) : BindsTo s fd ⟨[u], []⟩ [("_law_script", u)] := by
  obtain ⟨oc, od, kV, doc, pm, an, cdv, ct, osl, rfl, _⟩ := F.ex
  exact BindsTo.of_eq rfl
theorem one_fd {x q : Str} {st : Stmt} {f : Addr} {fd fd' : FuncData} (F : Fun K x q st f fd) (F' : Fun K x q st f fd') : fd' = fd := by
  obtain ⟨oc, od, _, _, _, _, _, _, osl, _, l, _⟩ := F.ex
  obtain ⟨oc', od', _, _, _, _, _, _, osl', _, l', _⟩ := F'.ex
  have e := l'.symm.trans l
  simp only [Option.some.injEq, Obj.mk.injEq, Data.func.injEq] at e
  exact e.2.2.1
end
end E18
open PySem PySem.W PySem.Calls PyProof.Rows
theorem PySem.Challenge.cw_anyofthese_k18_errors_made_with_any_valu_holds : PySem.Challenge.rw_anyofthese_k18_errors_made_with_any_valu.Holds := by
  w_on; o_law
  refine HandSHeadRun.head_any (r := E18.R) (q := E18.qv) (H := E18.hook) (ob := E18.ob) (M := 8000) (loose := E18.names) (d := HandSHeadRun.topDef E18.R.prog 46) (kwd := []) E18.ob_eq
    (by kernel_rfl) (fun s => by kernel_rfl) E18.run (by kernel_rfl) (by kernel_rfl) (by kernel_rfl) (by rfl) (by first | assumption | decide +kernel) (by decide +kernel) ⟨rfl, rfl, rfl, rfl, rfl, by decide +kernel⟩ ?hw ?hc
  case hw => w_witness2
  case hc =>
    refine E18.walkG (l := PySem.Challenge.rw_anyofthese_k18_errors_made_with_any_valu) (n := 63) (k := 6) (y := "_law_script") rfl (by decide) (by kernel_rfl) ⟨rfl, by decide, by decide⟩ ?F
    intro w mg f h Y G g
    obtain ⟨K, X, c⟩ := Y
    have g2 : mg ("law" : PySem.Str) = some (.ref f) := by
      have e : (HandSHeadRun.topDef E18.R.prog 46).name = ("law" : PySem.Str) := by kernel_rfl
      rw [← e]
      exact g
    have g3 : mg ("law" : PySem.Str) = some (.ref (He.ga K "law")) := E18.glo_of X G (E18.bit_of c 2) 13
    have ef : f = He.ga K "law" := by
      have z := g2.symm.trans g3
      simpa using z
    subst ef
    have hf : (PySem.Challenge.rw_anyofthese_k18_errors_made_with_any_valu).prog.main.file = E18.file0 := by kernel_rfl
    have tp : ((PySem.Challenge.rw_anyofthese_k18_errors_made_with_any_valu).prog.main.scope.names.lookup ("super" : PySem.Str)).isSome = false := by kernel_rfl
    obtain ⟨fd, F, _⟩ := E18.law_of (P := (PySem.Challenge.rw_anyofthese_k18_errors_made_with_any_valu).prog) (w := w) X G c hf tp
    refine ⟨K, fd, E18.spLaw K, X, E18.binds_law F, fun H a ns hl hS => ⟨a, ns, rfl, hS, hl, fun _ => rfl⟩, fun base X2 G2 => ?_⟩
    obtain ⟨fd2, F2, L⟩ := E18.law_of (P := (PySem.Challenge.rw_anyofthese_k18_errors_made_with_any_valu).prog) (w := w) X2 G2 c hf tp
    rw [E18.one_fd F F2] at L
    exact L

