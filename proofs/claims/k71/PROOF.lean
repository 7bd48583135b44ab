import PyProof.Rows.All
import Wide.All
import OpenK.AllK
import Wide.FinOn
import PyProof.InstEq
import KE.KOpsOwn
import HandS.Base
import HandS.Call
import HandS.List
import HandS.Words
import HandS.IsInst
import HandS.Defaults
import HandS.MakeKw
import HandS.Star
import HandS.FStr
import PyProof.Rows.StrIntSpec
import HandS.Dict
import HandS.DeepEq
import KE.KSortTup
import KE.KSortTupAny
import HandS.SortRule
import HandS.DictComp
import HandS.HeadHook2
import HandS.Property
import HandS.More
import HandS.OwnEq
import HandS.HeadNt
import KE.KStateDown
import HandS.Head0
import HandS.Head1
import HandS.Head2
import PyProof.TupleCall
import PyProof.Rows.Range3
import KE.KDictSum
import KE.KDictList
import OpenK.KOps
import HandS.ClsMeth
import PyProof.DictKinds
import PyProof.DictUpdate
import HandS.Iter
import HandS.Walk
import HandS.Set
import HandS.SetFor
import HandS.Strs
import PyProof.Rows.SortStr
import PyProof.Walks
import PyProof.WalksMore
import PyProof.Rows.DictTallyStr
import KE.KExcInit
import KE.KExcIs
import KE.KIsAll
import HandS.ForMost
import HandS.Exc
import HandS.ExcInit
import HandS.ExcIs
import HandS.WordsExc
import HandS.WordsDict
import PyProof.Rows.StrMeet
import HandS.Text
import HandS.RaiseMore
import PyProof.TupleOfSeq
import PyProof.FactsAll.set_2
import PyProof.FactsAll.subtypes_5
import HandS.ListItems
import HandS.Style
import KE.KEqNest
import HandS.NoneIn
import HandS.TupAny
import PySem.Challenge.RW_anyofthese_k71_whole_the_runs_without_th
set_option Elab.async false
set_option linter.all false
set_option maxRecDepth 100000
set_option maxHeartbeats 4000000
/-! Defs and methods called where no text of a container is being made; own operators. -/
namespace E10
open L2 PySem PySem.Spec PyProof.Rows
structure FnG (P : Program) (w : World) (K : PySem.W.Frag) (mg : Str → Option Value) (base : Heap) (k : Nat) (f : Addr) (fd : FuncData) (ps : List Str) (sp : Sp) : Prop where
  few : ∀ {vs H Q E}, sp vs H Q E → vs.length = ps.length
  goes : ∀ {A : Around} {fr : List Env} {s : Shared} {H : Hp} {ar : Args} {us : List Value} {vs : List V} {Q : VK} {E : XK}, A.guards = some [] → Room k A → Env0 P w K mg base A fr s H → BindsTo s fd ar (ps.zip us) → Vals vs us → sp vs H Q E →
    codeAny (model P w) A (.call (.ref f) ar) (CR CX0 fr P w H s Q E) s
section
variable {P : Program} {w : World} {K : PySem.W.Frag} {mg : Str → Option Value} {base : Heap} {k : Nat} {f : Addr} {fd : FuncData} {ps N : List Str} {sp : Sp}
theorem FnG.mono {j : Nat} (F : FnG P w K mg base j f fd ps sp) (h : j ≤ k) : FnG P w K mg base k f fd ps sp :=
  ⟨F.few, fun {A fr s H ar us vs Q E} g room env b v q => F.goes g (room.mono h) env b v q⟩
end
/-- the own class C has the def f under the name n -/
structure Has (K : PySem.W.Frag) (C f : Addr) (n : Str) : Prop where
  at_ : PySem.W.findIn K (.ref C) n = some (some (.ref f))
  fn : PySem.W.isFn K (.ref f) = true
section
variable {X : Cx} {A : Around} {E' : Value → Shared → Prop} {pins : List (Addr × Obj)} {σ : L2.St} {H : Hp} {s : Shared} {Q : VK} {us : List Value} {vs : List V} {k : Nat} {f C : Addr} {fd : FuncData} {ps : List Str} {sp : Sp}
theorem run_at (F : FnG X.prog X.w X.K X.mg X.base k f fd ps sp) (fr : A.frames = X.A.frames) (hG : A.guards = some []) (room : Room k A) (bi : Binds X.K fd ps []) (I : Inv X pins σ H s) (r : Vals vs us) (q : sp vs H Q E0) :
    wpAny (model X.prog X.w) A (call (.ref f) us) (EP X pins σ Q) E' s := by
  have n1 : us.length = ps.length := r.length.symm.trans (F.few q)
  have e0 : Env0 X.prog X.w X.K X.mg X.base A X.stack s H := by
    have e := I.env0
    exact ⟨by rw [fr]; exact e.frames, e.mod, e.bs, e.bsz, e.funs, e.frf, e.hok, e.bare⟩
  refine wpAny_call (codeAny_mono (F.goes (ar := ⟨us, []⟩) hG room e0 (by
    have := bi s us I.kIn (by simpa using n1)
    simpa using this) r q) fun res s2 ends => ?_)
  match res, ends with
  | .error _, z => exact z.elim
  | .ok (.ret _), z => exact I.after z
  | .ok .next, z => exact z.elim
  | .ok .brk, z => exact z.elim
  | .ok .cont, z => exact z.elim
theorem cmpBack {u : Value} {s' : Shared} (h : EP X pins σ Q u s') : PySem.W.CmpBack (EP X pins σ Q) u s' := by
  obtain ⟨v, H', I, r, q⟩ := h
  cases u <;> first | exact ⟨v, H', I, r, q⟩ | (cases v <;> first | (obtain ⟨_, e⟩ := r; cases e) | cases r)
/-- a op n: an own object and an int -/
def rOwnI (C : Addr) (sp : Sp) : R2 := fun x y H Q => ∃ (a dx : Addr) (fs : List (Str × V)) (i : Int), x = .ref a ∧ y = .int i ∧ H a = some (.ins C dx fs) ∧ sp [.ref a, .int i] H Q E0
theorem op_ownI {op : Operator} {fo ro rc : Option Value} (F : FnG X.prog X.w X.K X.mg X.base k f fd ps sp) (hG : X.A.guards = some []) (room : Room k X.A) (bi : Binds X.K fd ps []) (hc : PySem.W.selfFirst X.K C = true) (h : Has X.K C f (PySem.dunder op.info.2))
    (hr : PySem.W.findIn X.K (.ref C) (dunderR op.info.2) = some rc) (hp : rc = none ∨ ∃ g : Addr, rc = some (.ref g)) (h1 : PySem.W.findIn X.K (.type "int") (PySem.dunder op.info.2) = some fo) (h2 : PySem.W.findIn X.K (.type "int") (dunderR op.info.2) = some ro)
    (hsub : PySem.W.subIn X.K (.type "int") (.ref C) = some false) : OpR X (binaryOp op) (rOwnI C sp) := by
  intro pins s σ H x y v u Q I rx ry h0
  obtain ⟨a, dx, fs, i, rfl, rfl, ha, q⟩ := h0
  cases (show v = Value.ref a from rx)
  obtain ⟨t, rfl⟩ := (show ∃ t, u = Value.int i t from ry)
  obtain ⟨mA, O, _⟩ := ins_get I.hok ha
  obtain ⟨od, J, _⟩ := O.look
  obtain ⟨m, hF⟩ := I.fr
  refine PySem.W.ksp_binT (T := "int") hF I.ok.mod.kin J rfl hc h.at_ h.fn hr hp h1 h2 hsub ?_
  exact wpAny_mono (run_at (vs := [.ref a, .int i]) F rfl hG room bi I (.cons rfl (.cons ⟨t, rfl⟩ .nil)) q) (fun _ _ z => cmpBack z) fun _ _ z => z
end
end E10
set_option Elab.async false
set_option linter.all false
set_option maxRecDepth 100000
set_option maxHeartbeats 4000000
namespace E10
open L2 PySem PySem.Spec PyProof.Rows
open AutoSeq1 (wpAny_loadPart')
end E10
set_option Elab.async false
set_option linter.all false
set_option maxRecDepth 100000
set_option maxHeartbeats 4000000
namespace E10
open L2 PySem PySem.Spec PyProof.Rows
end E10
set_option Elab.async false
set_option linter.all false
set_option maxRecDepth 100000
set_option maxHeartbeats 4000000
namespace E10
open L2 PySem PySem.Spec PyProof.Rows
end E10
set_option Elab.async false
set_option linter.all false
set_option maxRecDepth 100000
set_option maxHeartbeats 4000000
namespace E10
open L2 PySem PySem.Spec PyProof.Rows
end E10
set_option Elab.async false
set_option linter.all false
set_option maxRecDepth 100000
set_option maxHeartbeats 4000000
namespace E10
open L2 PySem PySem.Spec PyProof.Rows Builtin Float
end E10
set_option Elab.async false
set_option linter.all false
set_option maxRecDepth 100000
set_option maxHeartbeats 4000000
namespace E10
open L2 PySem PySem.Spec PyProof.Rows
/-! ### repr of a list, a dict of small things -/
def tiny : V → Option PyData
  | .non => some .none
  | .bl b => some (.bool b)
  | .int i => if i.natAbs < 10 ^ 70 then some (.int i) else none
  | .str z => if (reprText z).length ≤ 100 then some (.str z) else none
  | _ => none
theorem log_small {i : Int} (h : i.natAbs < 10 ^ 70) : i.natAbs.log2 < 1920 := by
  by_cases z : i.natAbs = 0
  · rw [z]
    decide
  · exact (Nat.log2_lt z).mpr (Nat.lt_of_lt_of_le h (by decide +kernel))
theorem tiny_int {i : Int} {d : PyData} (h : tiny (.int i) = some d) : i.natAbs < 10 ^ 70 ∧ d = .int i := by
  have h' : (if i.natAbs < 10 ^ 70 then some (PyData.int i) else none) = some d := h
  by_cases c : i.natAbs < 10 ^ 70
  · rw [if_pos c] at h'
    exact ⟨c, (Option.some.inj h').symm⟩
  · rw [if_neg c] at h'
    cases h'
theorem tiny_str {z : Str} {d : PyData} (h : tiny (.str z) = some d) : (reprText z).length ≤ 100 ∧ d = .str z := by
  have h' : (if (reprText z).length ≤ 100 then some (PyData.str z) else none) = some d := h
  by_cases c : (reprText z).length ≤ 100
  · rw [if_pos c] at h'
    exact ⟨c, (Option.some.inj h').symm⟩
  · rw [if_neg c] at h'
    cases h'
theorem tiny_ok {x : V} {d : PyData} (h : tiny x = some d) : d.showable = true ∧ d.depth = 0 ∧ d.shown.length ≤ 100 ∧ d.hasDict = false := by
  cases x with
  | non =>
    cases h
    exact ⟨rfl, rfl, by decide, rfl⟩
  | bl b =>
    cases h
    cases b <;> exact ⟨rfl, rfl, by decide, rfl⟩
  | int i =>
    obtain ⟨hi, rfl⟩ := tiny_int h
    refine ⟨decide_eq_true (log_small hi), rfl, ?_, rfl⟩
    show (Str.ofString (toString i)).length ≤ 100
    have e := int_text_length_le10 (k := 70) (by decide) hi
    rw [PyProof.Rows.ofString_len]
    omega
  | str z =>
    obtain ⟨hz, rfl⟩ := tiny_str h
    exact ⟨rfl, rfl, hz, rfl⟩
  | _ => simp [tiny] at h
theorem listLen (ts : List Str) : (listText ts).length ≤ piled ts + 2 := by
  have e1 : ((("[" : String) : Str)).length = 1 := rfl
  have e2 : ((("]" : String) : Str)).length = 1 := rfl
  have e3 : ((("" : String) : Str)).length = 0 := rfl
  cases ts with
  | nil =>
    unfold listText
    rw [strLen_append, e2]
    show (("[" : String) : Str).length + 1 ≤ 0 + 2
    rw [e1]
    decide
  | cons t r =>
    unfold listText
    rw [strLen_append, e2]
    show (textFrom 1 (((("[" : String) : Str) ++ (("" : String) : Str)) ++ t) r).length + 1 ≤ _
    rw [textFrom_length_pos _ _ _ (by decide), strLen_append, strLen_append, e1, e3, piled_cons]
    omega
end E10
set_option Elab.async false
set_option linter.all false
set_option maxRecDepth 100000
set_option maxHeartbeats 4000000
/-! ### sorted of pairs of an int and a text -/
namespace E10
open L2 PySem PySem.Spec PyProof.Rows SrtO Srt
theorem codes_asym {a b : List Nat} (h : a < b) : ¬ b < a := fun z => List.lt_irrefl a (List.lt_trans h z)
theorem codes_tr {a b c : List Nat} (h1 : ¬ b < a) (h2 : ¬ c < b) : ¬ c < a := List.not_lt.mpr (List.le_trans (List.not_lt.mp h1) (List.not_lt.mp h2))
/-- v is a tuple of this int and this text -/
def IsIS (h : Heap) (v : Value) (x : Int) (y : Str) : Prop := ∃ a o t u n, v = .ref a ∧ h.get? a = some o ∧ o.cls = .type "tuple" ∧ o.data = .seq #[.int x t, .str y u] n
theorem IsIS.keeps {h h' : Heap} {v : Value} {x : Int} {y : Str} (p : IsIS h v x y) (k : ∀ b o, h.get? b = some o → o.cls = .type "tuple" → h'.get? b = some o) : IsIS h' v x y :=
  let ⟨a, o, t, u, n, e, ho, hc, hd⟩ := p
  ⟨a, o, t, u, n, e, k _ _ ho hc, hc, hd⟩
end E10
set_option Elab.async false
set_option linter.all false
set_option maxRecDepth 100000
set_option maxHeartbeats 4000000
namespace E10
open L2 PySem PySem.Spec PyProof.Rows
/-! ### repr of lists and tuples of small things, one in another -/
def Rdr (K : PySem.W.Frag) (H : Hp) : Nat → V → PyData → Prop
  | 0, x, d => tiny x = some d
  | n + 1, x, d => Rdr K H n x d ∨ (∃ a xs ds, x = .ref a ∧ d = .tuple ds ∧ SqT K H a xs ∧ xs.length ≤ 40 ∧ Paired (Rdr K H n) xs ds) ∨ (∃ a xs ds, x = .ref a ∧ d = .list ds ∧ SqL K H a xs ∧ xs.length ≤ 40 ∧ Paired (Rdr K H n) xs ds)
def bnd : Nat → Nat
  | 0 => 100
  | n + 1 => 40 * (bnd n + 2) + 10
theorem bnd_le (n : Nat) : bnd n ≤ bnd (n + 1) := by
  show _ ≤ 40 * (bnd n + 2) + 10
  omega
theorem piled_le {B : Nat} : ∀ {ts : List Str}, (∀ t ∈ ts, t.length ≤ B) → piled ts ≤ ts.length * (B + 2)
  | [], _ => by rw [piled_nil]; exact Nat.zero_le _
  | t :: r, h => by
    have a := h t (.head _)
    have b := piled_le (ts := r) fun z hz => h z (.tail _ hz)
    rw [piled_cons, List.length_cons, Nat.succ_mul]
    omega
theorem tupLen (ts : List Str) : (tupleText ts).length ≤ piled ts + 3 := by
  have e1 : ((("(" : String) : Str)).length = 1 := rfl
  have e2 : ((",)" : String) : Str).length = 2 := rfl
  have e3 : ((")" : String) : Str).length = 1 := rfl
  unfold tupleText
  rw [strLen_append, strLen_append, e1]
  have hj : (Str.join ", " ts).length ≤ piled ts := by
    by_cases h : ts = []
    · subst h
      exact Nat.le_refl 0
    · have := join_length_add ts h
      omega
  split
  · rw [e2]
    omega
  · rw [e3]
    omega
structure RdOk (n : Nat) (d : PyData) : Prop where
  sh : d.showable = true
  dp : d.depth ≤ n
  le : d.shown.length ≤ bnd n
  nd : d.hasDict = false
theorem RdOk.all {K : PySem.W.Frag} {H : Hp} {n : Nat} : ∀ {xs : List V} {ds : List PyData}, Paired (Rdr K H n) xs ds → (∀ x d, Rdr K H n x d → RdOk n d) →
    PyData.showableAll ds = true ∧ PyData.depthAll ds ≤ n ∧ (∀ t ∈ PyData.shownAll ds, t.length ≤ bnd n) ∧ (PyData.shownAll ds).length = xs.length ∧ PyData.hasDictAll ds = false
  | _, _, .nil, _ => ⟨rfl, Nat.zero_le _, nofun, rfl, rfl⟩
  | _, _, .cons r t, h => by
    obtain ⟨a1, a2, a3, a4⟩ := h _ _ r
    obtain ⟨b1, b2, b3, b4, b5⟩ := RdOk.all t h
    refine ⟨?_, ?_, fun z hz => ?_, ?_, ?_⟩
    · show (_ && _) = true
      rw [a1, b1]
      rfl
    · show max _ _ ≤ n
      omega
    · cases hz with
      | head => exact a3
      | tail _ hz => exact b3 z hz
    · show _ + 1 = _ + 1
      rw [b4]
    · show (_ || _) = false
      rw [a4, b5]
      rfl
theorem Rdr.ok {K : PySem.W.Frag} {H : Hp} : ∀ (n : Nat) {x : V} {d : PyData}, Rdr K H n x d → RdOk n d
  | 0, _, _, h => by
    obtain ⟨a, b, c, e⟩ := tiny_ok h
    exact ⟨a, by omega, c, e⟩
  | n + 1, _, _, h => by
    rcases h with h | ⟨a, xs, ds, rfl, rfl, _, l, p⟩ | ⟨a, xs, ds, rfl, rfl, _, l, p⟩
    · obtain ⟨a, b, c, e⟩ := Rdr.ok n h
      exact ⟨a, by omega, Nat.le_trans c (bnd_le n), e⟩
    · obtain ⟨b1, b2, b3, b4, b5⟩ := RdOk.all p fun _ _ => Rdr.ok n
      have pl := piled_le b3
      have tl := tupLen (PyData.shownAll ds)
      have m : (PyData.shownAll ds).length * (bnd n + 2) ≤ 40 * (bnd n + 2) := Nat.mul_le_mul_right _ (by omega)
      refine ⟨b1, show PyData.depthAll ds + 1 ≤ n + 1 by omega, ?_, b5⟩
      show (tupleText (PyData.shownAll ds)).length ≤ 40 * (bnd n + 2) + 10
      omega
    · obtain ⟨b1, b2, b3, b4, b5⟩ := RdOk.all p fun _ _ => Rdr.ok n
      have pl := piled_le b3
      have tl := listLen (PyData.shownAll ds)
      have m : (PyData.shownAll ds).length * (bnd n + 2) ≤ 40 * (bnd n + 2) := Nat.mul_le_mul_right _ (by omega)
      refine ⟨b1, show PyData.depthAll ds + 1 ≤ n + 1 by omega, ?_, b5⟩
      show (listText (PyData.shownAll ds)).length ≤ 40 * (bnd n + 2) + 10
      omega
theorem Rdr.tup {K : PySem.W.Frag} {H : Hp} {n : Nat} {a : Addr} {xs : List V} {ds : List PyData} (h : SqT K H a xs) (l : xs.length ≤ 40) (p : Paired (Rdr K H n) xs ds) : Rdr K H (n + 1) (.ref a) (.tuple ds) := .inr (.inl ⟨a, xs, ds, rfl, rfl, h, l, p⟩)
theorem Rdr.lst {K : PySem.W.Frag} {H : Hp} {n : Nat} {a : Addr} {xs : List V} {ds : List PyData} (h : SqL K H a xs) (l : xs.length ≤ 40) (p : Paired (Rdr K H n) xs ds) : Rdr K H (n + 1) (.ref a) (.list ds) := .inr (.inr ⟨a, xs, ds, rfl, rfl, h, l, p⟩)
end E10
set_option Elab.async false
set_option linter.all false
set_option maxRecDepth 100000
set_option maxHeartbeats 4000000
namespace E10
open L2 PySem PySem.Spec PyProof.Rows
section
variable {X : Cx} {k n : Nat} {f C : Addr} {fd : FuncData} {ps ks : List Str} {sp : Sp}
/-! ### a method called with keywords alone -/
/-! ### o[i], x in o of an own object -/
def rInO (C : Addr) (sp : Sp) (neg : Bool) : R2 := fun x y H Q => ∃ a dx fs, y = .ref a ∧ H a = some (.ins C dx fs) ∧ sp [y, x] H (fun v H' => ∃ b, v = .bl b ∧ Q (.bl (if neg then !b else b)) H') E0
theorem op_inO (F : FnG X.prog X.w X.K X.mg X.base k f fd ps sp) (hG : X.A.guards = some []) (room : Room k X.A) (bi : Binds X.K fd ps []) (h : Has X.K C f "__contains__") : OpR X (compareOp .In) (rInO C sp false) := by
  intro pins s σ H x y v u Q I rx ry h0
  obtain ⟨a, dx, fs, rfl, ha, q⟩ := h0
  cases (show u = Value.ref a from ry)
  obtain ⟨mA, O, _⟩ := ins_get I.hok ha
  obtain ⟨od, J, _⟩ := O.look
  obtain ⟨m, hF⟩ := I.fr
  refine PySem.W.in_K hF I.ok.mod.kin J h.at_ h.fn (wpAny_mono (run_at (vs := [.ref a, x]) F rfl hG room bi I (.cons rfl (.cons rx .nil)) q) (fun r s' hr => ?_) fun _ _ z => z)
  obtain ⟨v', H', I', rv, b, rfl, q'⟩ := hr
  cases (show r = Value.bool b from rv)
  exact wpAny_truthy_bool ⟨.bl b, H', I', rfl, q'⟩
theorem pe_ixO {a b : Expr} {ta tb : TE} {pos : Pos} (F : FnG X.prog X.w X.K X.mg X.base k f fd ps sp) (hG : X.A.guards = some []) (room : Room (k + 1) X.A) (bi : Binds X.K fd ps []) (h : Has X.K C f "__getitem__") (fi : PySem.W.fnIn X.K f = true) (ha : PE X a ta) (hb : PE X b tb)
    (hs : ∀ (x : Addr) (i : Value), subscripted b true (.ref x) i = runValue (.builtin "lifetime.subscript" ⟨[.ref x, i], []⟩) := by intro x i; with_unfolding_all rfl) :
    PE X (.Subscript a b pos) (tOp (fun x y H Q => ∃ a dx fs, x = .ref a ∧ H a = some (.ins C dx fs) ∧ sp [x, y] H Q E0) ta tb) := by
  refine ⟨fun pins s σ H Q I h => ?_⟩
  refine Subscript_ (binT ha hb I h fun v u s2 x y H2 I2 rx ry q => ?_)
  obtain ⟨a, dx, fs, rfl, ha, q⟩ := q
  cases (show v = Value.ref a from rx)
  obtain ⟨mA, O, _⟩ := ins_get I2.hok ha
  obtain ⟨od, J, _⟩ := O.look
  obtain ⟨m, hF⟩ := I2.fr
  exact PySem.W.sub_K hF I2.ok.mod.kin J ‹Has X.K C f "__getitem__"›.at_ fi ‹Has X.K C f "__getitem__"›.fn (run_at (vs := [.ref a, y]) F rfl hG room.in1 bi I2 (.cons rfl (.cons ry .nil)) q) (hs a u)
end
end E10
set_option Elab.async false
set_option linter.all false
set_option maxRecDepth 100000
set_option maxHeartbeats 8000000
namespace E10
open L2 PySem PySem.Spec PyProof.Rows
/-! ### the law's call, at the heap behind the top -/
/-- what is tracked there: the script, or nothing -/
structure Begins (K : PySem.W.Frag) (H : Hp) (a : Addr) (o : Obj) (xs : List V) : Prop where
  just : ∀ b u, H b = some u → b = a ∧ u = .frz o (.lst xs) ∧ K.lookup a = none
  seq : SqL K H a xs
theorem begins {K : PySem.W.Frag} {h : Heap} {a : Addr} {vs : List Value} {xs : List V} (inK : K.In h) (at_ : h.get? a = some { cls := .type "list", data := .seq vs.toArray }) (r : Vals xs vs) (few : xs.length ≤ sizeLine) :
    ∃ H, Begins K H a { cls := .type "list", data := .seq vs.toArray } xs := by
  cases z : K.lookup a with
  | none =>
    refine ⟨fun b => if b = a then some (.frz { cls := .type "list", data := .seq vs.toArray } (.lst xs)) else none, ⟨fun b u e => ?_, .inl (.inr ⟨_, if_pos rfl⟩)⟩⟩
    by_cases q : b = a
    · have e2 := (if_pos q).symm.trans e
      cases e2
      exact ⟨q, rfl, z⟩
    · have e2 := (if_neg q).symm.trans e
      cases e2
  | some o =>
    have same := inK _ _ z
    rw [at_] at same
    cases same
    refine ⟨fun _ => none, ⟨fun b u e => ?_, .inr ⟨_, vs.toArray, _, z, rfl, rfl, rfl, by rw [List.size_toArray, ← r.length]; exact few, r⟩⟩⟩
    cases (show (none : Option HO) = some u from e)
theorem goes_at {P : Program} {w : World} {K : PySem.W.Frag} {mg mb : Str → Option Value} {k : Nat} {f a : Addr} {fd : FuncData} {y : Str} {sp : Sp} {t : Shared} {vs : List Value} {xs : List V}
    (inK : K.In t.heap) (g : t.heap.Ns mainGlobals mg) (bn : t.heap.Ns builtinsNs mb) (bb : ∀ x : Str, x ≠ "__name__" → mb x = bootBuiltins x) (lim : t.heap.NoLimit) (no : t.gens = #[])
    (at_ : t.heap.get? a = some { cls := .type "list", data := .seq vs.toArray }) (r : Vals xs vs) (few : xs.length ≤ sizeLine) (room : Room k callerA)
    (F : ∀ base : Heap, K.In base → base.Ns mainGlobals mg → FnG P w K mg base k f fd [y] sp) (bi : ∀ (s : Shared) (u : Value), BindsTo s fd ⟨[u], []⟩ [(y, u)])
    (want : ∀ H : Hp, SqL K H a xs → sp [.ref a] H (fun v _ => v = .bl true) E0) :
    codeAny (model P w) callerA (.call (.ref f) ⟨[.ref a], []⟩) (fun res t' => res = .ok (.ret (.bool true)) ∧ OldK t.heap t'.heap ∧ t'.os = t.os ∧ AllBare t'.gens) t := by
  obtain ⟨H, B⟩ := begins inK at_ r few
  have ok : HOk P w H t.heap := fun b u e => by
    obtain ⟨rfl, rfl, _⟩ := B.just b u e
    exact ⟨at_, few, vs, _, r, at_⟩
  have out : ∀ {b : Addr} {m : Str → Option Value}, t.heap.Ns b m → (hidT t.heap H).Ns b m := fun {b m} ⟨o, es, ep, e, d, q⟩ => by
    refine ⟨o, es, ep, hidT_get e ?_, d, q⟩
    cases z : H b with
    | none => rfl
    | some u =>
      obtain ⟨rfl, _, _⟩ := B.just b u z
      rw [at_] at e
      cases e
      cases (show Data.seq vs.toArray _ = Data.dict es ep from d)
  have inB : K.In (hidT t.heap H) := fun b o e => by
    refine hidT_get (inK b o e) ?_
    cases z : H b with
    | none => rfl
    | some u =>
      obtain ⟨rfl, _, n⟩ := B.just b u z
      rw [n] at e
      cases e
  obtain ⟨mc, l1, l2⟩ := lim
  have env : Env0 P w K mg (hidT t.heap H) callerA [] t H := ⟨rfl, ⟨inB, out g, ⟨mb, out bn, bb⟩, ⟨mc, out l1, l2⟩⟩, fun _ _ e => of_hidT e, Nat.le_of_eq (hidT_size _ _), trivial, (fun b m => absurd (show b ∈ ([] : List Addr) from m) (List.not_mem_nil)), ok, .of_eq no⟩
  refine codeAny_mono ((F _ inB (out g)).goes (us := [.ref a]) (vs := [.ref a]) rfl room env (bi t (.ref a)) (.cons rfl .nil) (want H B.seq)) fun res t' ends => ?_
  match res, ends with
  | .error _, z => exact z.elim
  | .ok .next, z => exact z.elim
  | .ok .brk, z => exact z.elim
  | .ok .cont, z => exact z.elim
  | .ok (.ret u), ⟨v, H', os, bare, un, ok', rv, q⟩ =>
    cases (show v = V.bl true from q)
    cases (show u = Value.bool true from rv)
    refine ⟨rfl, OldK.of_keep fun b o e => ?_, os, bare⟩
    cases z : H b with
    | none => exact un.keep b o e z (fun m => by cases m) (fun m => by cases m)
    | some u =>
      obtain ⟨rfl, rfl, _⟩ := B.just b u z
      rw [at_] at e
      cases e
      exact (ok' _ _ (un.frzs _ _ _ z)).1
theorem walkG {l : PySem.W.OpenLaw} {n k : Nat} {q : Program} {loose : List Str} {XP : (Str → Option Value) → Heap → Prop} {YP : World → Heap → Prop} {d : DefRec} {y : Str} (most : l.most = some n) (line : n ≤ sizeLine) (df : d.params.defaults = []) (room : Room k callerA)
    (F : ∀ (w : World) (mg : Str → Option Value) (f : Addr) (h : Heap), YP w h → h.Ns mainGlobals mg → mg d.name = some (.ref f) → ∃ (K : PySem.W.Frag) (fd : FuncData) (sp : Sp), K.In h ∧ (∀ (s : Shared) (u : Value), BindsTo s fd ⟨[u], []⟩ [(y, u)]) ∧
      (∀ (H : Hp) (a : Addr) (ns : List Int), ns.length ≤ n → SqL K H a (ns.map V.int) → sp [.ref a] H (fun v _ => v = .bl true) E0) ∧ ∀ base : Heap, K.In base → base.Ns mainGlobals mg → FnG l.prog w K mg base k f fd [y] sp) :
    PySem.W.WalkO q loose XP YP l.row.toRowW d [] (fun f vs => PySem.call f vs) := by
  refine Att.attach_call most df fun w s0 t mg mb f o pm cd doc a vs ns G Y at_f is_f rec_f is_g at_a nums few no => ?_
  obtain ⟨K, fd, sp, inK, bi, want, G2⟩ := F w mg f _ Y G.T.g is_g
  exact goes_at inK G.T.g G.T.b G.T.builtins G.T.nolimit no at_a (vals_ints nums) (by rw [List.length_map]; exact Nat.le_trans few line) room G2 bi fun H S => want H a ns few S
end E10
set_option Elab.async false
set_option linter.all false
set_option maxRecDepth 100000
set_option maxHeartbeats 4000000
namespace E10
open L2 PySem PySem.Spec PyProof.Rows
open He (eqO eqO_ok ba ga ma)
/-! ### looks at the heap behind the top, and what follows from them -/
section
variable {K : PySem.W.Frag}
def gloB (K : PySem.W.Frag) (x : Str) : Bool := eqO (PySem.W.nsIn K mainGlobals x) (some (some (.ref (ga K x))))
def freeB (K : PySem.W.Frag) (x : Str) : Bool := eqO (PySem.W.nsIn K mainGlobals x) (some none)
def intB (K : PySem.W.Frag) (p : Str × Int) : Bool := (He.Fa.int p.1 p.2).ok K
def mB (K : PySem.W.Frag) (C : Addr) (m : Str) : Bool := eqO (PySem.W.findIn K (.ref C) m) (some (some (.ref (ma K C m)))) && PySem.W.isFn K (.ref (ma K C m))
theorem mB_ok {C : Addr} {m : Str} (h : mB K C m = true) : Has K C (ma K C m) m := ⟨eqO_ok (ba h).1, (ba h).2⟩
def clB (K : PySem.W.Frag) (C : Addr) : Bool := PySem.W.plainGet K C Str.empty && (PySem.W.hasDictIn K C && (PySem.W.plainOver K C && eqO (PySem.W.findIn K (.ref C) "__setattr__") (some (some (.builtin "object.__setattr__")))))
theorem clB_ok {C : Addr} (h : clB K C = true) : Cls K C := by
  obtain ⟨a, h⟩ := ba h
  obtain ⟨b, h⟩ := ba h
  obtain ⟨c, d⟩ := ba h
  exact ⟨a, b, c, eqO_ok d⟩
def noB (K : PySem.W.Frag) (C : Addr) (f : Str) : Bool := eqO (PySem.W.findIn K (.ref C) f) (some none)
def propB (K : PySem.W.Frag) (C : Addr) (f : Str) : Bool := eqO (PySem.W.findIn K (.ref C) f) (some (some (.ref (ma K C f)))) && (eqO (PySem.W.specialIn K (.ref (ma K C f)) "__get__") (some (some (.builtin "property.__get__"))) && (decide (PySem.W.takesIn K (.ref (ma K C f)) = some true) &&
  match PySem.W.recIn K (ma K C f) "property" with
  | some (.ref _ :: _) => true
  | _ => false))
theorem propB_ok {C : Addr} {f : Str} (h : propB K C f = true) : PropOf K C f (ma K C f) (He5.wf K C "property" f) := by
  obtain ⟨a, h⟩ := ba h
  obtain ⟨b, h⟩ := ba h
  obtain ⟨c, h⟩ := ba h
  refine ⟨eqO_ok a, eqO_ok b, of_decide_eq_true c, ?_⟩
  unfold He5.wf
  split at h
  · rename_i g r e
    exact ⟨r, by rw [e]⟩
  · cases h
def mkB (K : PySem.W.Frag) (C : Addr) : Bool := PySem.W.makesIn K C && (mB K C "__init__" && PySem.W.keepIn K (.ref C))
theorem mkB_ok {C : Addr} (h : mkB K C = true) : Mk K C (ma K C "__init__") := by
  obtain ⟨a, h⟩ := ba h
  obtain ⟨b, c⟩ := ba h
  exact ⟨a, (mB_ok b).at_, (mB_ok b).fn, c⟩
def intX (K : PySem.W.Frag) (C : Addr) : Bool := decide (PySem.W.subIn K (.type "int") (.ref C) = some false) && decide (PySem.W.subIn K (.ref C) (.type "int") = some false)
theorem intX_ok {C : Addr} (h : intX K C = true) : PySem.W.subIn K (.type "int") (.ref C) = some false ∧ PySem.W.subIn K (.ref C) (.type "int") = some false := ⟨of_decide_eq_true (ba h).1, of_decide_eq_true (ba h).2⟩
def metB (K : PySem.W.Frag) (C : Addr) (m : Str) : Bool := mB K C m && PySem.W.keepIn K (.ref (ma K C m))
theorem metB_ok {C : Addr} {m : Str} (h : metB K C m = true) : Meth K C m (ma K C m) := ⟨(mB_ok (ba h).1).at_, (mB_ok (ba h).1).fn, (ba h).2⟩
variable {x qual : Str} {params : Arguments} {body : List Stmt} {scope : Scope} {dvs : List V} {f : Addr} {fd : FuncData} {ps : List Str}
/-- every parameter is given, by place, to a def that has defaults -/
theorem binds_full (F : FunD K x qual params body scope dvs [] f fd) (hd : dvs ≠ [])
    (h : ∀ (T : Addr) (kV doc pm : Value) (an : Option Addr) (cdv ct : Value) (us its : List Value), us.length = ps.length → its.length = dvs.length →
      ∃ k, bindArgs (PySem.W.fnOf x qual params body scope (.ref T) kV doc pm an cdv ct) ⟨us, []⟩ = seqItems? (.ref T) >>= k ∧ k (some its.toArray) = pure (ps.zip us)) : Binds K fd ps [] := by
  obtain ⟨oc, od, dV, kV, doc, pm, an, cdv, ct, osl, rfl, lk, hcd, hD, _⟩ := F.ex
  rcases hD with ⟨e, _⟩ | ⟨_, T, o, its, m, rfl, lT, oT, rT⟩
  · exact absurd e hd
  · refine fun s us X hlen => ?_
    rw [List.append_nil] at hlen ⊢
    obtain ⟨k, e1, e2⟩ := h T kV doc pm an cdv ct us its hlen rT.length.symm
    refine BindsTo.of_looks fun M => ?_
    rw [e1]
    exact looks_items X lT oT (.of_pure e2)
end
section
variable {P : Program} {w : World} {K : PySem.W.Frag} {mg : Str → Option Value} {base : Heap}
theorem glo_of (X : K.In base) (G : base.Ns mainGlobals mg) {l : List Str} (h : l.all (gloB K) = true) (i : Nat) {x : Str} (e : l[i]? = some x := by rfl) : mg x = some (.ref (ga K x)) :=
  PySem.W.mg_of X G (eqO_ok (List.all_eq_true.mp h x (List.mem_of_getElem? e)))
theorem free_of (X : K.In base) (G : base.Ns mainGlobals mg) {l : List Str} (h : l.all (freeB K) = true) (i : Nat) {x : Str} (e : l[i]? = some x := by rfl) : mg x = none :=
  PySem.W.mg_none_of X G (eqO_ok (List.all_eq_true.mp h x (List.mem_of_getElem? e)))
theorem int_of (X : K.In base) (G : base.Ns mainGlobals mg) {l : List (Str × Int)} (h : l.all (intB K) = true) (i : Nat) {x : Str} {n : Int} (e : l[i]? = some (x, n) := by rfl) : ∃ t, mg x = some (.int n t) :=
  He.int_ok X G (List.all_eq_true.mp h _ (List.mem_of_getElem? e))
theorem fun_of {x qual : Str} {st : Stmt} {f : Addr} {fd : FuncData} (F : FunD K x qual (defArgs st) (defBody st) (defScope st) [] [] f fd) : Fun K x qual st f fd := He5.fun_of F
theorem one_fd {x q : Str} {st : Stmt} {f : Addr} {fd fd' : FuncData} (F : Fun K x q st f fd) (F' : Fun K x q st f fd') : fd' = fd := by
  obtain ⟨oc, od, _, _, _, _, _, _, osl, _, l, _⟩ := F.ex
  obtain ⟨oc', od', _, _, _, _, _, _, osl', _, l', _⟩ := F'.ex
  have e := l'.symm.trans l
  simp only [Option.some.injEq, Obj.mk.injEq, Data.func.injEq] at e
  exact e.2.2.1
end
end E10
set_option Elab.async false
set_option linter.all false
set_option maxRecDepth 100000
set_option maxHeartbeats 4000000
/-! ### what is looked at behind the top -/
namespace Pu
open L2 PySem PySem.Spec PyProof.Rows E10
open He (eqO eqO_ok ba ga ma)
def tyNs : List String := ["NoneType", "bool", "int", "str", "tuple", "list", "dict"]
def tyMs : List String := ["int", "str", "bool", "list", "tuple", "dict"]
def insB (K : PySem.W.Frag) (C : Addr) : Bool := clB K C && (eqO (PySem.W.findIn K (.ref C) "__class__") (some (some (.builtin "object.__class__"))) && (eqO (PySem.W.specialIn K (.builtin "object.__class__") "__get__") (some (some (.builtin "getset_descriptor.__get__"))) &&
  (decide (PySem.W.takesIn K (.builtin "object.__class__") = some true) && decide (PySem.W.mroIn K C (.type "object") = some true))))
def ownsB (K : PySem.W.Frag) (cs : List Addr) : Bool := (cs.all (insB K)) && ((cs.all fun C => tyNs.all fun a => decide (PySem.W.kitOne K (.type a) (.ref C) = some false)) && ((cs.all fun C => cs.all fun D => decide (PySem.W.kitOne K (.ref C) (.ref D) = some (decide (C = D)))) &&
  (cs.all fun C => tyMs.all fun a => decide (PySem.W.kitOne K (.ref C) (.type a) = some false))))
def firB (K : PySem.W.Frag) (C : Addr) : Bool := PySem.W.selfFirst K C && intX K C
/-- no list is tracked behind the top -/
def nolB (K : PySem.W.Frag) : Bool := K.all fun p => match p.2.cls with
  | .type n => decide (n ≠ "list")
  | _ => true
def ccB (K : PySem.W.Frag) (C : Addr) (x : Str) (i : Int) : Bool := (PySem.W.readsIn K C (.type "type") && He.eqO (PySem.W.specialIn K (.ref C) "__getattribute__") (some (some (.builtin "type.__getattribute__")))) && match PySem.W.findCls K (.ref C) (.type "type") x with
  | some (.val (.int j _)) => decide (j = i)
  | _ => false
end Pu
set_option Elab.async false
set_option linter.all false
set_option maxRecDepth 100000
set_option maxHeartbeats 4000000
namespace E10
open L2 PySem PySem.Spec PyProof.Rows
/-! ### the text by places -/
abbrev top (i : Nat) : Stmt := PySem.Challenge.pw_anyofthese_k71_whole_the_runs_without_th.main.body.getD i (.Pass ⟨0, 0, 0, 0⟩)
abbrev inC (i j : Nat) : Stmt := match top i with
  | .ClassDef (body := b) .. => b.getD j (.Pass ⟨0, 0, 0, 0⟩)
  | _ => .Pass ⟨0, 0, 0, 0⟩
abbrev s_is_name : Stmt := top 19
abbrev s_is_integer : Stmt := top 20
abbrev s_is_list : Stmt := top 21
abbrev s_is_position : Stmt := top 22
abbrev s_is_moment_of : Stmt := top 23
abbrev s_are_among : Stmt := top 24
abbrev s_has_names : Stmt := top 25
abbrev s_check_shift : Stmt := top 28
abbrev s_check_moment : Stmt := top 30
abbrev s_check_position : Stmt := top 31
abbrev s_in_order : Stmt := top 33
abbrev s_moved : Stmt := top 34
abbrev s_left_out : Stmt := top 35
abbrev s_least_of : Stmt := top 36
abbrev s_check_shifts : Stmt := top 41
abbrev s_check_names : Stmt := top 46
abbrev s_check_each : Stmt := top 47
abbrev s_check_rules : Stmt := top 48
abbrev s_held_by : Stmt := top 53
abbrev s_holds : Stmt := top 54
abbrev s_is_replaced : Stmt := top 55
abbrev s_check_many : Stmt := top 56
abbrev s_put_into : Stmt := top 57
abbrev s_never_kept : Stmt := top 58
abbrev s_forget : Stmt := top 59
abbrev s__law_pot : Stmt := top 61
abbrev s__law_draw : Stmt := top 62
abbrev s__law_among : Stmt := top 63
abbrev s__law_names : Stmt := top 64
abbrev s__law_row : Stmt := top 65
abbrev s__law_book : Stmt := top 66
abbrev s__law_told : Stmt := top 67
abbrev s__law_keeps : Stmt := top 68
abbrev s__law_tried : Stmt := top 69
abbrev s__law_can_be_completed : Stmt := top 70
abbrev s__law_times : Stmt := top 71
abbrev s__law_right : Stmt := top 72
abbrev s_law : Stmt := top 73
abbrev m_Earliest___init__ : Stmt := inC 42 0
abbrev m_Earliest_moments : Stmt := inC 42 2
abbrev m_Earliest_shifts : Stmt := inC 42 3
abbrev m_Earliest___getitem__ : Stmt := inC 42 4
abbrev m_Earliest___contains__ : Stmt := inC 42 5
abbrev m_Earliest_without : Stmt := inC 42 15
abbrev m_Earliest_put_in : Stmt := inC 42 16
abbrev m_Rule___init__ : Stmt := inC 44 0
abbrev m_Rule_moment : Stmt := inC 44 1
abbrev m_Rule_earliest : Stmt := inC 44 2
abbrev m_Rule_moments : Stmt := inC 44 3
abbrev m_Rule_is_always : Stmt := inC 44 4
abbrev m_Rule_is_never : Stmt := inC 44 5
abbrev m_Book___init__ : Stmt := inC 49 2
abbrev m_Book_moments : Stmt := inC 49 3
abbrev m_Book_rules : Stmt := inC 49 4
abbrev m_Book___getitem__ : Stmt := inC 49 5
abbrev m_Book_rules_of : Stmt := inC 49 9
abbrev m_Term___init__ : Stmt := inC 51 0
abbrev m_Term_shifts : Stmt := inC 51 3
abbrev m_Term___add__ : Stmt := inC 51 5
end E10
set_option Elab.async false
set_option linter.all false
set_option maxRecDepth 100000
set_option maxHeartbeats 4000000
namespace E10
open L2 PySem PySem.Spec PyProof.Rows
open He (ga ma)
/-! ### what is looked at behind the top -/
def nfree : List Str := (["isinstance", "all", "any", "len", "range", "int", "max", "min", "abs", "divmod", "repr", "str", "dict", "zip", "bool", "tuple", "sorted", "list", "sum", "set", "enumerate", "reversed"] : List Str)
def nglob : List Str := (["_law_pot", "_law_draw", "_law_names", "_law_among", "_law_row", "is_name", "has_names", "is_integer", "check_shifts", "in_order", "is_list", "check_names", "are_among", "check_each", "check_rules", "is_moment_of", "check_moment", "is_position", "check_position", "left_out", "held_by", "holds", "check_shift", "is_replaced", "check_many", "moved", "least_of", "_law_told", "_law_times", "_law_keeps"] : List Str) ++ (["_law_tried", "_law_can_be_completed", "_law_book", "never_kept", "put_into", "forget", "_law_right", "law", "Earliest", "Rule", "Book", "Term"] : List Str)
def nints : List (Str × Int) := [("MOST_LETTERS", 8), ("MOST_TERMS", 8)]
def dfs0 : List He5.DefA := [⟨fun K => ga K "_law_pot", "_law_pot", "_law_pot", defArgs s__law_pot, defBody s__law_pot, defScope s__law_pot, [], []⟩,
  ⟨fun K => ga K "_law_draw", "_law_draw", "_law_draw", defArgs s__law_draw, defBody s__law_draw, defScope s__law_draw, [], []⟩,
  ⟨fun K => ga K "_law_names", "_law_names", "_law_names", defArgs s__law_names, defBody s__law_names, defScope s__law_names, [], []⟩,
  ⟨fun K => ga K "_law_among", "_law_among", "_law_among", defArgs s__law_among, defBody s__law_among, defScope s__law_among, [], []⟩,
  ⟨fun K => ga K "_law_row", "_law_row", "_law_row", defArgs s__law_row, defBody s__law_row, defScope s__law_row, [], []⟩,
  ⟨fun K => ga K "is_name", "is_name", "is_name", defArgs s_is_name, defBody s_is_name, defScope s_is_name, [], []⟩,
  ⟨fun K => ga K "has_names", "has_names", "has_names", defArgs s_has_names, defBody s_has_names, defScope s_has_names, [], []⟩,
  ⟨fun K => ga K "is_integer", "is_integer", "is_integer", defArgs s_is_integer, defBody s_is_integer, defScope s_is_integer, [], []⟩,
  ⟨fun K => ga K "check_shifts", "check_shifts", "check_shifts", defArgs s_check_shifts, defBody s_check_shifts, defScope s_check_shifts, [], []⟩,
  ⟨fun K => ga K "in_order", "in_order", "in_order", defArgs s_in_order, defBody s_in_order, defScope s_in_order, [], []⟩,
  ⟨fun K => ma K (ga K "Earliest") "__init__", "__init__", "Earliest.__init__", defArgs m_Earliest___init__, defBody m_Earliest___init__, defScope m_Earliest___init__, [], []⟩,
  ⟨fun K => ma K (ga K "Earliest") "shifts", "shifts", "Earliest.shifts", defArgs m_Earliest_shifts, defBody m_Earliest_shifts, defScope m_Earliest_shifts, [], []⟩,
  ⟨fun K => ga K "is_list", "is_list", "is_list", defArgs s_is_list, defBody s_is_list, defScope s_is_list, [], []⟩,
  ⟨fun K => ga K "check_names", "check_names", "check_names", defArgs s_check_names, defBody s_check_names, defScope s_check_names, [], []⟩,
  ⟨fun K => He5.wf K (ga K "Earliest") "property" "moments", "moments", "Earliest.moments", defArgs m_Earliest_moments, defBody m_Earliest_moments, defScope m_Earliest_moments, [], []⟩,
  ⟨fun K => He5.wf K (ga K "Rule") "property" "moments", "moments", "Rule.moments", defArgs m_Rule_moments, defBody m_Rule_moments, defScope m_Rule_moments, [], []⟩,
  ⟨fun K => ga K "are_among", "are_among", "are_among", defArgs s_are_among, defBody s_are_among, defScope s_are_among, [], []⟩,
  ⟨fun K => ga K "check_each", "check_each", "check_each", defArgs s_check_each, defBody s_check_each, defScope s_check_each, [], []⟩,
  ⟨fun K => ga K "check_rules", "check_rules", "check_rules", defArgs s_check_rules, defBody s_check_rules, defScope s_check_rules, [], []⟩,
  ⟨fun K => ma K (ga K "Book") "__init__", "__init__", "Book.__init__", defArgs m_Book___init__, defBody m_Book___init__, defScope m_Book___init__, [.adr (He.dflAt ("Book", some "__init__") 0)], []⟩]
def dfs1 : List He5.DefA := [⟨fun K => ga K "is_moment_of", "is_moment_of", "is_moment_of", defArgs s_is_moment_of, defBody s_is_moment_of, defScope s_is_moment_of, [], []⟩,
  ⟨fun K => ga K "check_moment", "check_moment", "check_moment", defArgs s_check_moment, defBody s_check_moment, defScope s_check_moment, [], []⟩,
  ⟨fun K => He5.wf K (ga K "Rule") "property" "moment", "moment", "Rule.moment", defArgs m_Rule_moment, defBody m_Rule_moment, defScope m_Rule_moment, [], []⟩,
  ⟨fun K => ma K (ga K "Book") "rules_of", "rules_of", "Book.rules_of", defArgs m_Book_rules_of, defBody m_Book_rules_of, defScope m_Book_rules_of, [], []⟩,
  ⟨fun K => ga K "is_position", "is_position", "is_position", defArgs s_is_position, defBody s_is_position, defScope s_is_position, [], []⟩,
  ⟨fun K => ga K "check_position", "check_position", "check_position", defArgs s_check_position, defBody s_check_position, defScope s_check_position, [], []⟩,
  ⟨fun K => ma K (ga K "Book") "__getitem__", "__getitem__", "Book.__getitem__", defArgs m_Book___getitem__, defBody m_Book___getitem__, defScope m_Book___getitem__, [], []⟩,
  ⟨fun K => ma K (ga K "Earliest") "__getitem__", "__getitem__", "Earliest.__getitem__", defArgs m_Earliest___getitem__, defBody m_Earliest___getitem__, defScope m_Earliest___getitem__, [], []⟩,
  ⟨fun K => He5.wf K (ga K "Rule") "property" "is_never", "is_never", "Rule.is_never", defArgs m_Rule_is_never, defBody m_Rule_is_never, defScope m_Rule_is_never, [], []⟩,
  ⟨fun K => ma K (ga K "Earliest") "__contains__", "__contains__", "Earliest.__contains__", defArgs m_Earliest___contains__, defBody m_Earliest___contains__, defScope m_Earliest___contains__, [], []⟩,
  ⟨fun K => He5.wf K (ga K "Rule") "property" "is_always", "is_always", "Rule.is_always", defArgs m_Rule_is_always, defBody m_Rule_is_always, defScope m_Rule_is_always, [], []⟩,
  ⟨fun K => He5.wf K (ga K "Rule") "property" "earliest", "earliest", "Rule.earliest", defArgs m_Rule_earliest, defBody m_Rule_earliest, defScope m_Rule_earliest, [], []⟩,
  ⟨fun K => ga K "left_out", "left_out", "left_out", defArgs s_left_out, defBody s_left_out, defScope s_left_out, [], []⟩,
  ⟨fun K => ma K (ga K "Earliest") "without", "without", "Earliest.without", defArgs m_Earliest_without, defBody m_Earliest_without, defScope m_Earliest_without, [], []⟩,
  ⟨fun K => ga K "held_by", "held_by", "held_by", defArgs s_held_by, defBody s_held_by, defScope s_held_by, [], []⟩,
  ⟨fun K => ga K "holds", "holds", "holds", defArgs s_holds, defBody s_holds, defScope s_holds, [], []⟩,
  ⟨fun K => He5.wf K (ga K "Book") "property" "moments", "moments", "Book.moments", defArgs m_Book_moments, defBody m_Book_moments, defScope m_Book_moments, [], []⟩,
  ⟨fun K => ga K "check_shift", "check_shift", "check_shift", defArgs s_check_shift, defBody s_check_shift, defScope s_check_shift, [], []⟩,
  ⟨fun K => ma K (ga K "Term") "__init__", "__init__", "Term.__init__", defArgs m_Term___init__, defBody m_Term___init__, defScope m_Term___init__, [.int 0], []⟩,
  ⟨fun K => ma K (ga K "Term") "__add__", "__add__", "Term.__add__", defArgs m_Term___add__, defBody m_Term___add__, defScope m_Term___add__, [], []⟩]
def dfs2 : List He5.DefA := [⟨fun K => ma K (ga K "Term") "shifts", "shifts", "Term.shifts", defArgs m_Term_shifts, defBody m_Term_shifts, defScope m_Term_shifts, [], []⟩,
  ⟨fun K => ma K (ga K "Book") "rules", "rules", "Book.rules", defArgs m_Book_rules, defBody m_Book_rules, defScope m_Book_rules, [], []⟩,
  ⟨fun K => ga K "is_replaced", "is_replaced", "is_replaced", defArgs s_is_replaced, defBody s_is_replaced, defScope s_is_replaced, [], []⟩,
  ⟨fun K => ga K "check_many", "check_many", "check_many", defArgs s_check_many, defBody s_check_many, defScope s_check_many, [], []⟩,
  ⟨fun K => ga K "moved", "moved", "moved", defArgs s_moved, defBody s_moved, defScope s_moved, [], []⟩,
  ⟨fun K => ga K "least_of", "least_of", "least_of", defArgs s_least_of, defBody s_least_of, defScope s_least_of, [], []⟩,
  ⟨fun K => ma K (ga K "Earliest") "put_in", "put_in", "Earliest.put_in", defArgs m_Earliest_put_in, defBody m_Earliest_put_in, defScope m_Earliest_put_in, [], []⟩,
  ⟨fun K => ga K "_law_told", "_law_told", "_law_told", defArgs s__law_told, defBody s__law_told, defScope s__law_told, [], []⟩,
  ⟨fun K => ga K "_law_times", "_law_times", "_law_times", defArgs s__law_times, defBody s__law_times, defScope s__law_times, [], []⟩,
  ⟨fun K => ga K "_law_keeps", "_law_keeps", "_law_keeps", defArgs s__law_keeps, defBody s__law_keeps, defScope s__law_keeps, [], []⟩,
  ⟨fun K => ga K "_law_tried", "_law_tried", "_law_tried", defArgs s__law_tried, defBody s__law_tried, defScope s__law_tried, [], []⟩,
  ⟨fun K => ga K "_law_can_be_completed", "_law_can_be_completed", "_law_can_be_completed", defArgs s__law_can_be_completed, defBody s__law_can_be_completed, defScope s__law_can_be_completed, [], []⟩,
  ⟨fun K => ma K (ga K "Rule") "__init__", "__init__", "Rule.__init__", defArgs m_Rule___init__, defBody m_Rule___init__, defScope m_Rule___init__, [], []⟩,
  ⟨fun K => ga K "_law_book", "_law_book", "_law_book", defArgs s__law_book, defBody s__law_book, defScope s__law_book, [], []⟩,
  ⟨fun K => ga K "never_kept", "never_kept", "never_kept", defArgs s_never_kept, defBody s_never_kept, defScope s_never_kept, [], []⟩,
  ⟨fun K => ga K "put_into", "put_into", "put_into", defArgs s_put_into, defBody s_put_into, defScope s_put_into, [], []⟩,
  ⟨fun K => ga K "forget", "forget", "forget", defArgs s_forget, defBody s_forget, defScope s_forget, [], []⟩,
  ⟨fun K => ga K "_law_right", "_law_right", "_law_right", defArgs s__law_right, defBody s__law_right, defScope s__law_right, [], []⟩,
  ⟨fun K => ga K "law", "law", "law", defArgs s_law, defBody s_law, defScope s_law, [], []⟩]
def dfs : List He5.DefA := dfs0 ++ dfs1 ++ dfs2
def chks (K : PySem.W.Frag) : List Bool := [nfree.all (freeB K),
  nglob.all (gloB K),
  nints.all (intB K),
  Pu.ownsB K [(ga K "Earliest"), (ga K "Rule"), (ga K "Book"), (ga K "Term")],
  Pu.firB K (ga K "Earliest"),
  noB K (ga K "Earliest") "_shifts",
  mB K (ga K "Earliest") (dunderR "add"),
  noB K (ga K "Earliest") (dunderR "sub"),
  Pu.firB K (ga K "Rule"),
  noB K (ga K "Rule") "_earliest",
  noB K (ga K "Rule") "_moment",
  mB K (ga K "Rule") (dunderR "add"),
  noB K (ga K "Rule") (dunderR "sub"),
  Pu.firB K (ga K "Book"),
  noB K (ga K "Book") "_moments",
  noB K (ga K "Book") "_rules",
  Pu.ccB K (ga K "Book") "MOST_MOMENTS" 8,
  Pu.ccB K (ga K "Book") "MOST_RULES" 100,
  Pu.firB K (ga K "Term"),
  noB K (ga K "Term") "_moment",
  noB K (ga K "Term") "_shift",
  mB K (ga K "Term") (dunderR "add"),
  noB K (ga K "Term") (dunderR "sub"),
  mB K (ga K "Term") (PySem.dunder "add"),
  mkB K (ga K "Earliest"),
  metB K (ga K "Earliest") "shifts",
  propB K (ga K "Earliest") "moments",
  propB K (ga K "Rule") "moments",
  mkB K (ga K "Book"),
  propB K (ga K "Rule") "moment",
  metB K (ga K "Book") "rules_of",
  mB K (ga K "Book") "__getitem__",
  PySem.W.fnIn K (ma K (ga K "Book") "__getitem__"),
  mB K (ga K "Earliest") "__getitem__",
  PySem.W.fnIn K (ma K (ga K "Earliest") "__getitem__"),
  propB K (ga K "Rule") "is_never",
  mB K (ga K "Earliest") "__contains__",
  propB K (ga K "Rule") "is_always",
  propB K (ga K "Rule") "earliest",
  metB K (ga K "Earliest") "without",
  propB K (ga K "Book") "moments",
  mkB K (ga K "Term"),
  mB K (ga K "Term") (PySem.dunder "add"),
  metB K (ga K "Term") "shifts",
  metB K (ga K "Book") "rules",
  metB K (ga K "Earliest") "put_in",
  mkB K (ga K "Rule"),
  Pu.nolB K,
  dfs.all (He5.DefA.ok K)]
abbrev Al : Type := Bool × List He.FnW
def obsK (K : PySem.W.Frag) : Al := ((chks K).all id, dfs.map fun d => He5.fnA K (d.at_ K))
def val0 : Al := (true, dfs.map He5.DefA.val)
def ref1 (g : Addr → Option Obj) (old as : List Addr) : List Addr := ((as.flatMap fun a => match g a with
  | some o => He.refsD o
  | none => []).eraseDups).filter fun a => !old.contains a
def isFu (g : Addr → Option Obj) (a : Addr) : Bool := match g a with
  | some ⟨_, _, .func _, _⟩ => true
  | _ => false
def asR (g : Addr → Option Obj) : List Addr :=
  let a1 := He.asD g 1
  let K := He.frG g a1
  let r1 := ref1 g a1 [ga K "Earliest", ga K "Rule", ga K "Book", ga K "Term"]
  let r2 := ref1 g a1 r1
  let r3 := ref1 g a1 r2
  let r4 := ref1 g a1 (r3.filter (isFu g))
  He.asD g 2 ++ (r1 ++ (r2 ++ (r3 ++ r4)))
def frag (g : Addr → Option Obj) : PySem.W.Frag := He.frG g (cStatics :: asR g)
def hook : PySem.W.Hook where
  α := Al
  obs := fun s => obsK (frag s.heap.get?)
  val := fun _ => val0
  says := fun _ h => ∃ K : PySem.W.Frag, K.In h ∧ obsK K = val0
  of := fun _ _ e => ⟨_, He.frG_in, e⟩
  keeps := fun _ _ _ ⟨K, hK, c⟩ k => ⟨K, PySem.W.Frag.In.keeps hK k, c⟩
abbrev R : PySem.W.OpenRow := PySem.W.OpenLaw.row PySem.Challenge.rw_anyofthese_k71_whole_the_runs_without_th
abbrev qv : Program := PySem.W.view R.prog [73]
abbrev iLaw : Nat := 73
def names0 : List Str := (["_wall", "AnyError", "InvalidName", "InvalidShift", "InvalidShifts", "InvalidTimes", "InvalidMoments", "InvalidRules", "InvalidPosition", "InvalidPositions", "MissingError", "UnknownMoment", "StateError", "LastOne", "LimitError", "TooMany", "MOST_LETTERS", "is_name", "is_integer", "is_list"] : List Str)
def names1 : List Str := (["is_position", "is_moment_of", "are_among", "has_names", "is_times", "check_shift", "check_times", "check_moment", "check_position", "in_order", "moved", "left_out", "least_of", "term_text", "MOST_TERMS", "check_shifts", "Earliest", "Rule", "check_names", "check_each"] : List Str)
def names2 : List Str := (["check_rules", "Book", "Term", "held_by", "holds", "is_replaced", "check_many", "put_into", "never_kept", "forget", "_law_pot", "_law_draw", "_law_among", "_law_names", "_law_row", "_law_book", "_law_told", "_law_keeps", "_law_tried", "_law_can_be_completed"] : List Str)
def names3 : List Str := (["_law_times", "_law_right"] : List Str)
def names : List Str := names0 ++ names1 ++ names2 ++ names3
def ob (s : PySem.W.SharedT) : Al := obsK (frag (HandSHeadRun.getT s))
theorem ob_eq (s : PySem.W.SharedT) : ob s = hook.obs s.abs := by
  have e : HandSHeadRun.getT s = s.abs.heap.get? := funext (HandSHeadRun.getT_eq s)
  show obsK (frag (HandSHeadRun.getT s)) = _
  rw [e]
  rfl
section
variable {K : PySem.W.Frag}
theorem bit_of (c : obsK K = val0) (i : Nat) {b : Bool} (h : (chks K)[i]? = some b := by rfl) : b = true :=
  List.all_eq_true.mp (show (chks K).all id = true from congrArg (fun t : Al => t.1) c) _ (List.mem_of_getElem? h)
theorem bFree (c : obsK K = val0) : nfree.all (freeB K) = true := bit_of c 0
theorem bGlob (c : obsK K = val0) : nglob.all (gloB K) = true := bit_of c 1
theorem bInts (c : obsK K = val0) : nints.all (intB K) = true := bit_of c 2
theorem bOwns (c : obsK K = val0) : Pu.ownsB K [(ga K "Earliest"), (ga K "Rule"), (ga K "Book"), (ga K "Term")] = true := bit_of c 3
theorem bNo_Earliest__shifts (c : obsK K = val0) : noB K (ga K "Earliest") "_shifts" = true := bit_of c 5
theorem bNo_Rule__earliest (c : obsK K = val0) : noB K (ga K "Rule") "_earliest" = true := bit_of c 9
theorem bNo_Rule__moment (c : obsK K = val0) : noB K (ga K "Rule") "_moment" = true := bit_of c 10
theorem bNo_Book__moments (c : obsK K = val0) : noB K (ga K "Book") "_moments" = true := bit_of c 14
theorem bNo_Book__rules (c : obsK K = val0) : noB K (ga K "Book") "_rules" = true := bit_of c 15
theorem bCc_Book_MOST_MOMENTS (c : obsK K = val0) : Pu.ccB K (ga K "Book") "MOST_MOMENTS" 8 = true := bit_of c 16
theorem bCc_Book_MOST_RULES (c : obsK K = val0) : Pu.ccB K (ga K "Book") "MOST_RULES" 100 = true := bit_of c 17
theorem bFir_Term (c : obsK K = val0) : Pu.firB K (ga K "Term") = true := bit_of c 18
theorem bNo_Term__moment (c : obsK K = val0) : noB K (ga K "Term") "_moment" = true := bit_of c 19
theorem bNo_Term__shift (c : obsK K = val0) : noB K (ga K "Term") "_shift" = true := bit_of c 20
theorem bRadd_Term (c : obsK K = val0) : mB K (ga K "Term") (dunderR "add") = true := bit_of c 21
theorem bMk_Earliest (c : obsK K = val0) : mkB K (ga K "Earliest") = true := bit_of c 24
theorem bMet_Earliest_shifts (c : obsK K = val0) : metB K (ga K "Earliest") "shifts" = true := bit_of c 25
theorem bProp_Earliest_moments (c : obsK K = val0) : propB K (ga K "Earliest") "moments" = true := bit_of c 26
theorem bProp_Rule_moments (c : obsK K = val0) : propB K (ga K "Rule") "moments" = true := bit_of c 27
theorem bMk_Book (c : obsK K = val0) : mkB K (ga K "Book") = true := bit_of c 28
theorem bProp_Rule_moment (c : obsK K = val0) : propB K (ga K "Rule") "moment" = true := bit_of c 29
theorem bMet_Book_rules_of (c : obsK K = val0) : metB K (ga K "Book") "rules_of" = true := bit_of c 30
theorem bSp_Book___getitem__ (c : obsK K = val0) : mB K (ga K "Book") "__getitem__" = true := bit_of c 31
theorem bFi_Book (c : obsK K = val0) : PySem.W.fnIn K (ma K (ga K "Book") "__getitem__") = true := bit_of c 32
theorem bSp_Earliest___getitem__ (c : obsK K = val0) : mB K (ga K "Earliest") "__getitem__" = true := bit_of c 33
theorem bFi_Earliest (c : obsK K = val0) : PySem.W.fnIn K (ma K (ga K "Earliest") "__getitem__") = true := bit_of c 34
theorem bProp_Rule_is_never (c : obsK K = val0) : propB K (ga K "Rule") "is_never" = true := bit_of c 35
theorem bSp_Earliest___contains__ (c : obsK K = val0) : mB K (ga K "Earliest") "__contains__" = true := bit_of c 36
theorem bProp_Rule_is_always (c : obsK K = val0) : propB K (ga K "Rule") "is_always" = true := bit_of c 37
theorem bProp_Rule_earliest (c : obsK K = val0) : propB K (ga K "Rule") "earliest" = true := bit_of c 38
theorem bMet_Earliest_without (c : obsK K = val0) : metB K (ga K "Earliest") "without" = true := bit_of c 39
theorem bProp_Book_moments (c : obsK K = val0) : propB K (ga K "Book") "moments" = true := bit_of c 40
theorem bMk_Term (c : obsK K = val0) : mkB K (ga K "Term") = true := bit_of c 41
theorem bSp_Term___add__ (c : obsK K = val0) : mB K (ga K "Term") (PySem.dunder "add") = true := bit_of c 42
theorem bMet_Term_shifts (c : obsK K = val0) : metB K (ga K "Term") "shifts" = true := bit_of c 43
theorem bMet_Book_rules (c : obsK K = val0) : metB K (ga K "Book") "rules" = true := bit_of c 44
theorem bMet_Earliest_put_in (c : obsK K = val0) : metB K (ga K "Earliest") "put_in" = true := bit_of c 45
theorem bMk_Rule (c : obsK K = val0) : mkB K (ga K "Rule") = true := bit_of c 46
theorem bNol (c : obsK K = val0) : Pu.nolB K = true := bit_of c 47
theorem bDefs (c : obsK K = val0) : dfs.all (He5.DefA.ok K) = true := bit_of c 48
theorem def_of (c : obsK K = val0) (i : Nat) {d : He5.DefA} (h : dfs[i]? = some d := by rfl) : ∃ fd, FunD K d.name d.qual d.params d.body d.scope (d.dvs K) (d.kws K) (d.at_ K) fd := by
  have e : dfs.map (fun d => He5.fnA K (d.at_ K)) = dfs.map He5.DefA.val := congrArg (fun t : Al => t.2) c
  have e2 : (dfs.map fun d => He5.fnA K (d.at_ K))[i]? = (dfs.map He5.DefA.val)[i]? := by rw [e]
  rw [List.getElem?_map, List.getElem?_map, h] at e2
  exact He5.DefA.funD (Option.some.inj e2) (List.all_eq_true.mp (bDefs c) d (List.mem_of_getElem? h))
theorem F__law_pot (c : obsK K = val0) : ∃ fd, Fun K "_law_pot" "_law_pot" s__law_pot (ga K "_law_pot") fd := (def_of c 0).imp fun _ d => fun_of d
theorem F__law_draw (c : obsK K = val0) : ∃ fd, Fun K "_law_draw" "_law_draw" s__law_draw (ga K "_law_draw") fd := (def_of c 1).imp fun _ d => fun_of d
theorem F__law_names (c : obsK K = val0) : ∃ fd, Fun K "_law_names" "_law_names" s__law_names (ga K "_law_names") fd := (def_of c 2).imp fun _ d => fun_of d
theorem F__law_among (c : obsK K = val0) : ∃ fd, Fun K "_law_among" "_law_among" s__law_among (ga K "_law_among") fd := (def_of c 3).imp fun _ d => fun_of d
theorem F__law_row (c : obsK K = val0) : ∃ fd, Fun K "_law_row" "_law_row" s__law_row (ga K "_law_row") fd := (def_of c 4).imp fun _ d => fun_of d
theorem F_is_name (c : obsK K = val0) : ∃ fd, Fun K "is_name" "is_name" s_is_name (ga K "is_name") fd := (def_of c 5).imp fun _ d => fun_of d
theorem F_has_names (c : obsK K = val0) : ∃ fd, Fun K "has_names" "has_names" s_has_names (ga K "has_names") fd := (def_of c 6).imp fun _ d => fun_of d
theorem F_is_integer (c : obsK K = val0) : ∃ fd, Fun K "is_integer" "is_integer" s_is_integer (ga K "is_integer") fd := (def_of c 7).imp fun _ d => fun_of d
theorem F_check_shifts (c : obsK K = val0) : ∃ fd, Fun K "check_shifts" "check_shifts" s_check_shifts (ga K "check_shifts") fd := (def_of c 8).imp fun _ d => fun_of d
theorem F_in_order (c : obsK K = val0) : ∃ fd, Fun K "in_order" "in_order" s_in_order (ga K "in_order") fd := (def_of c 9).imp fun _ d => fun_of d
theorem F_Earliest___init__ (c : obsK K = val0) : ∃ fd, Fun K "__init__" "Earliest.__init__" m_Earliest___init__ (ma K (ga K "Earliest") "__init__") fd := (def_of c 10).imp fun _ d => fun_of d
theorem F_Earliest_shifts (c : obsK K = val0) : ∃ fd, Fun K "shifts" "Earliest.shifts" m_Earliest_shifts (ma K (ga K "Earliest") "shifts") fd := (def_of c 11).imp fun _ d => fun_of d
theorem F_is_list (c : obsK K = val0) : ∃ fd, Fun K "is_list" "is_list" s_is_list (ga K "is_list") fd := (def_of c 12).imp fun _ d => fun_of d
theorem F_check_names (c : obsK K = val0) : ∃ fd, Fun K "check_names" "check_names" s_check_names (ga K "check_names") fd := (def_of c 13).imp fun _ d => fun_of d
theorem F_Earliest_moments (c : obsK K = val0) : ∃ fd, Fun K "moments" "Earliest.moments" m_Earliest_moments (He5.wf K (ga K "Earliest") "property" "moments") fd := (def_of c 14).imp fun _ d => fun_of d
theorem F_Rule_moments (c : obsK K = val0) : ∃ fd, Fun K "moments" "Rule.moments" m_Rule_moments (He5.wf K (ga K "Rule") "property" "moments") fd := (def_of c 15).imp fun _ d => fun_of d
theorem F_are_among (c : obsK K = val0) : ∃ fd, Fun K "are_among" "are_among" s_are_among (ga K "are_among") fd := (def_of c 16).imp fun _ d => fun_of d
theorem F_check_each (c : obsK K = val0) : ∃ fd, Fun K "check_each" "check_each" s_check_each (ga K "check_each") fd := (def_of c 17).imp fun _ d => fun_of d
theorem F_check_rules (c : obsK K = val0) : ∃ fd, Fun K "check_rules" "check_rules" s_check_rules (ga K "check_rules") fd := (def_of c 18).imp fun _ d => fun_of d
theorem F_Book___init__ (c : obsK K = val0) : ∃ fd, FunD K "__init__" "Book.__init__" (defArgs m_Book___init__) (defBody m_Book___init__) (defScope m_Book___init__) [V.ref (He.dflAt ("Book", some "__init__") 0 K)] [] (ma K (ga K "Book") "__init__") fd := def_of c 19
theorem F_is_moment_of (c : obsK K = val0) : ∃ fd, Fun K "is_moment_of" "is_moment_of" s_is_moment_of (ga K "is_moment_of") fd := (def_of c 20).imp fun _ d => fun_of d
theorem F_check_moment (c : obsK K = val0) : ∃ fd, Fun K "check_moment" "check_moment" s_check_moment (ga K "check_moment") fd := (def_of c 21).imp fun _ d => fun_of d
theorem F_Rule_moment (c : obsK K = val0) : ∃ fd, Fun K "moment" "Rule.moment" m_Rule_moment (He5.wf K (ga K "Rule") "property" "moment") fd := (def_of c 22).imp fun _ d => fun_of d
theorem F_Book_rules_of (c : obsK K = val0) : ∃ fd, Fun K "rules_of" "Book.rules_of" m_Book_rules_of (ma K (ga K "Book") "rules_of") fd := (def_of c 23).imp fun _ d => fun_of d
theorem F_is_position (c : obsK K = val0) : ∃ fd, Fun K "is_position" "is_position" s_is_position (ga K "is_position") fd := (def_of c 24).imp fun _ d => fun_of d
theorem F_check_position (c : obsK K = val0) : ∃ fd, Fun K "check_position" "check_position" s_check_position (ga K "check_position") fd := (def_of c 25).imp fun _ d => fun_of d
theorem F_Book___getitem__ (c : obsK K = val0) : ∃ fd, Fun K "__getitem__" "Book.__getitem__" m_Book___getitem__ (ma K (ga K "Book") "__getitem__") fd := (def_of c 26).imp fun _ d => fun_of d
theorem F_Earliest___getitem__ (c : obsK K = val0) : ∃ fd, Fun K "__getitem__" "Earliest.__getitem__" m_Earliest___getitem__ (ma K (ga K "Earliest") "__getitem__") fd := (def_of c 27).imp fun _ d => fun_of d
theorem F_Rule_is_never (c : obsK K = val0) : ∃ fd, Fun K "is_never" "Rule.is_never" m_Rule_is_never (He5.wf K (ga K "Rule") "property" "is_never") fd := (def_of c 28).imp fun _ d => fun_of d
theorem F_Earliest___contains__ (c : obsK K = val0) : ∃ fd, Fun K "__contains__" "Earliest.__contains__" m_Earliest___contains__ (ma K (ga K "Earliest") "__contains__") fd := (def_of c 29).imp fun _ d => fun_of d
theorem F_Rule_is_always (c : obsK K = val0) : ∃ fd, Fun K "is_always" "Rule.is_always" m_Rule_is_always (He5.wf K (ga K "Rule") "property" "is_always") fd := (def_of c 30).imp fun _ d => fun_of d
theorem F_Rule_earliest (c : obsK K = val0) : ∃ fd, Fun K "earliest" "Rule.earliest" m_Rule_earliest (He5.wf K (ga K "Rule") "property" "earliest") fd := (def_of c 31).imp fun _ d => fun_of d
theorem F_left_out (c : obsK K = val0) : ∃ fd, Fun K "left_out" "left_out" s_left_out (ga K "left_out") fd := (def_of c 32).imp fun _ d => fun_of d
theorem F_Earliest_without (c : obsK K = val0) : ∃ fd, Fun K "without" "Earliest.without" m_Earliest_without (ma K (ga K "Earliest") "without") fd := (def_of c 33).imp fun _ d => fun_of d
theorem F_held_by (c : obsK K = val0) : ∃ fd, Fun K "held_by" "held_by" s_held_by (ga K "held_by") fd := (def_of c 34).imp fun _ d => fun_of d
theorem F_holds (c : obsK K = val0) : ∃ fd, Fun K "holds" "holds" s_holds (ga K "holds") fd := (def_of c 35).imp fun _ d => fun_of d
theorem F_Book_moments (c : obsK K = val0) : ∃ fd, Fun K "moments" "Book.moments" m_Book_moments (He5.wf K (ga K "Book") "property" "moments") fd := (def_of c 36).imp fun _ d => fun_of d
theorem F_check_shift (c : obsK K = val0) : ∃ fd, Fun K "check_shift" "check_shift" s_check_shift (ga K "check_shift") fd := (def_of c 37).imp fun _ d => fun_of d
theorem F_Term___init__ (c : obsK K = val0) : ∃ fd, FunD K "__init__" "Term.__init__" (defArgs m_Term___init__) (defBody m_Term___init__) (defScope m_Term___init__) [V.int 0] [] (ma K (ga K "Term") "__init__") fd := def_of c 38
theorem F_Term___add__ (c : obsK K = val0) : ∃ fd, Fun K "__add__" "Term.__add__" m_Term___add__ (ma K (ga K "Term") "__add__") fd := (def_of c 39).imp fun _ d => fun_of d
theorem F_Term_shifts (c : obsK K = val0) : ∃ fd, Fun K "shifts" "Term.shifts" m_Term_shifts (ma K (ga K "Term") "shifts") fd := (def_of c 40).imp fun _ d => fun_of d
theorem F_Book_rules (c : obsK K = val0) : ∃ fd, Fun K "rules" "Book.rules" m_Book_rules (ma K (ga K "Book") "rules") fd := (def_of c 41).imp fun _ d => fun_of d
theorem F_is_replaced (c : obsK K = val0) : ∃ fd, Fun K "is_replaced" "is_replaced" s_is_replaced (ga K "is_replaced") fd := (def_of c 42).imp fun _ d => fun_of d
theorem F_check_many (c : obsK K = val0) : ∃ fd, Fun K "check_many" "check_many" s_check_many (ga K "check_many") fd := (def_of c 43).imp fun _ d => fun_of d
theorem F_moved (c : obsK K = val0) : ∃ fd, Fun K "moved" "moved" s_moved (ga K "moved") fd := (def_of c 44).imp fun _ d => fun_of d
theorem F_least_of (c : obsK K = val0) : ∃ fd, Fun K "least_of" "least_of" s_least_of (ga K "least_of") fd := (def_of c 45).imp fun _ d => fun_of d
theorem F_Earliest_put_in (c : obsK K = val0) : ∃ fd, Fun K "put_in" "Earliest.put_in" m_Earliest_put_in (ma K (ga K "Earliest") "put_in") fd := (def_of c 46).imp fun _ d => fun_of d
theorem F__law_told (c : obsK K = val0) : ∃ fd, Fun K "_law_told" "_law_told" s__law_told (ga K "_law_told") fd := (def_of c 47).imp fun _ d => fun_of d
theorem F__law_times (c : obsK K = val0) : ∃ fd, Fun K "_law_times" "_law_times" s__law_times (ga K "_law_times") fd := (def_of c 48).imp fun _ d => fun_of d
theorem F__law_keeps (c : obsK K = val0) : ∃ fd, Fun K "_law_keeps" "_law_keeps" s__law_keeps (ga K "_law_keeps") fd := (def_of c 49).imp fun _ d => fun_of d
theorem F__law_tried (c : obsK K = val0) : ∃ fd, Fun K "_law_tried" "_law_tried" s__law_tried (ga K "_law_tried") fd := (def_of c 50).imp fun _ d => fun_of d
theorem F__law_can_be_completed (c : obsK K = val0) : ∃ fd, Fun K "_law_can_be_completed" "_law_can_be_completed" s__law_can_be_completed (ga K "_law_can_be_completed") fd := (def_of c 51).imp fun _ d => fun_of d
theorem F_Rule___init__ (c : obsK K = val0) : ∃ fd, Fun K "__init__" "Rule.__init__" m_Rule___init__ (ma K (ga K "Rule") "__init__") fd := (def_of c 52).imp fun _ d => fun_of d
theorem F__law_book (c : obsK K = val0) : ∃ fd, Fun K "_law_book" "_law_book" s__law_book (ga K "_law_book") fd := (def_of c 53).imp fun _ d => fun_of d
theorem F_never_kept (c : obsK K = val0) : ∃ fd, Fun K "never_kept" "never_kept" s_never_kept (ga K "never_kept") fd := (def_of c 54).imp fun _ d => fun_of d
theorem F_put_into (c : obsK K = val0) : ∃ fd, Fun K "put_into" "put_into" s_put_into (ga K "put_into") fd := (def_of c 55).imp fun _ d => fun_of d
theorem F_forget (c : obsK K = val0) : ∃ fd, Fun K "forget" "forget" s_forget (ga K "forget") fd := (def_of c 56).imp fun _ d => fun_of d
theorem F__law_right (c : obsK K = val0) : ∃ fd, Fun K "_law_right" "_law_right" s__law_right (ga K "_law_right") fd := (def_of c 57).imp fun _ d => fun_of d
theorem F_law (c : obsK K = val0) : ∃ fd, Fun K "law" "law" s_law (ga K "law") fd := (def_of c 58).imp fun _ d => fun_of d
end
section
variable {K : PySem.W.Frag} {mg : Str → Option Value} {base : Heap}
theorem g__law_pot (X : K.In base) (G : base.Ns mainGlobals mg) (c : obsK K = val0) : mg "_law_pot" = some (.ref (ga K "_law_pot")) := glo_of X G (bGlob c) 0
theorem g__law_draw (X : K.In base) (G : base.Ns mainGlobals mg) (c : obsK K = val0) : mg "_law_draw" = some (.ref (ga K "_law_draw")) := glo_of X G (bGlob c) 1
theorem g__law_names (X : K.In base) (G : base.Ns mainGlobals mg) (c : obsK K = val0) : mg "_law_names" = some (.ref (ga K "_law_names")) := glo_of X G (bGlob c) 2
theorem g__law_among (X : K.In base) (G : base.Ns mainGlobals mg) (c : obsK K = val0) : mg "_law_among" = some (.ref (ga K "_law_among")) := glo_of X G (bGlob c) 3
theorem g__law_row (X : K.In base) (G : base.Ns mainGlobals mg) (c : obsK K = val0) : mg "_law_row" = some (.ref (ga K "_law_row")) := glo_of X G (bGlob c) 4
theorem g_is_name (X : K.In base) (G : base.Ns mainGlobals mg) (c : obsK K = val0) : mg "is_name" = some (.ref (ga K "is_name")) := glo_of X G (bGlob c) 5
theorem g_has_names (X : K.In base) (G : base.Ns mainGlobals mg) (c : obsK K = val0) : mg "has_names" = some (.ref (ga K "has_names")) := glo_of X G (bGlob c) 6
theorem g_is_integer (X : K.In base) (G : base.Ns mainGlobals mg) (c : obsK K = val0) : mg "is_integer" = some (.ref (ga K "is_integer")) := glo_of X G (bGlob c) 7
theorem g_check_shifts (X : K.In base) (G : base.Ns mainGlobals mg) (c : obsK K = val0) : mg "check_shifts" = some (.ref (ga K "check_shifts")) := glo_of X G (bGlob c) 8
theorem g_in_order (X : K.In base) (G : base.Ns mainGlobals mg) (c : obsK K = val0) : mg "in_order" = some (.ref (ga K "in_order")) := glo_of X G (bGlob c) 9
theorem g_is_list (X : K.In base) (G : base.Ns mainGlobals mg) (c : obsK K = val0) : mg "is_list" = some (.ref (ga K "is_list")) := glo_of X G (bGlob c) 10
theorem g_check_names (X : K.In base) (G : base.Ns mainGlobals mg) (c : obsK K = val0) : mg "check_names" = some (.ref (ga K "check_names")) := glo_of X G (bGlob c) 11
theorem g_are_among (X : K.In base) (G : base.Ns mainGlobals mg) (c : obsK K = val0) : mg "are_among" = some (.ref (ga K "are_among")) := glo_of X G (bGlob c) 12
theorem g_check_each (X : K.In base) (G : base.Ns mainGlobals mg) (c : obsK K = val0) : mg "check_each" = some (.ref (ga K "check_each")) := glo_of X G (bGlob c) 13
theorem g_check_rules (X : K.In base) (G : base.Ns mainGlobals mg) (c : obsK K = val0) : mg "check_rules" = some (.ref (ga K "check_rules")) := glo_of X G (bGlob c) 14
theorem g_is_moment_of (X : K.In base) (G : base.Ns mainGlobals mg) (c : obsK K = val0) : mg "is_moment_of" = some (.ref (ga K "is_moment_of")) := glo_of X G (bGlob c) 15
theorem g_check_moment (X : K.In base) (G : base.Ns mainGlobals mg) (c : obsK K = val0) : mg "check_moment" = some (.ref (ga K "check_moment")) := glo_of X G (bGlob c) 16
theorem g_is_position (X : K.In base) (G : base.Ns mainGlobals mg) (c : obsK K = val0) : mg "is_position" = some (.ref (ga K "is_position")) := glo_of X G (bGlob c) 17
theorem g_check_position (X : K.In base) (G : base.Ns mainGlobals mg) (c : obsK K = val0) : mg "check_position" = some (.ref (ga K "check_position")) := glo_of X G (bGlob c) 18
theorem g_left_out (X : K.In base) (G : base.Ns mainGlobals mg) (c : obsK K = val0) : mg "left_out" = some (.ref (ga K "left_out")) := glo_of X G (bGlob c) 19
theorem g_held_by (X : K.In base) (G : base.Ns mainGlobals mg) (c : obsK K = val0) : mg "held_by" = some (.ref (ga K "held_by")) := glo_of X G (bGlob c) 20
theorem g_holds (X : K.In base) (G : base.Ns mainGlobals mg) (c : obsK K = val0) : mg "holds" = some (.ref (ga K "holds")) := glo_of X G (bGlob c) 21
theorem g_check_shift (X : K.In base) (G : base.Ns mainGlobals mg) (c : obsK K = val0) : mg "check_shift" = some (.ref (ga K "check_shift")) := glo_of X G (bGlob c) 22
theorem g_is_replaced (X : K.In base) (G : base.Ns mainGlobals mg) (c : obsK K = val0) : mg "is_replaced" = some (.ref (ga K "is_replaced")) := glo_of X G (bGlob c) 23
theorem g_check_many (X : K.In base) (G : base.Ns mainGlobals mg) (c : obsK K = val0) : mg "check_many" = some (.ref (ga K "check_many")) := glo_of X G (bGlob c) 24
theorem g_moved (X : K.In base) (G : base.Ns mainGlobals mg) (c : obsK K = val0) : mg "moved" = some (.ref (ga K "moved")) := glo_of X G (bGlob c) 25
theorem g_least_of (X : K.In base) (G : base.Ns mainGlobals mg) (c : obsK K = val0) : mg "least_of" = some (.ref (ga K "least_of")) := glo_of X G (bGlob c) 26
theorem g__law_told (X : K.In base) (G : base.Ns mainGlobals mg) (c : obsK K = val0) : mg "_law_told" = some (.ref (ga K "_law_told")) := glo_of X G (bGlob c) 27
theorem g__law_times (X : K.In base) (G : base.Ns mainGlobals mg) (c : obsK K = val0) : mg "_law_times" = some (.ref (ga K "_law_times")) := glo_of X G (bGlob c) 28
theorem g__law_keeps (X : K.In base) (G : base.Ns mainGlobals mg) (c : obsK K = val0) : mg "_law_keeps" = some (.ref (ga K "_law_keeps")) := glo_of X G (bGlob c) 29
theorem g__law_tried (X : K.In base) (G : base.Ns mainGlobals mg) (c : obsK K = val0) : mg "_law_tried" = some (.ref (ga K "_law_tried")) := glo_of X G (bGlob c) 30
theorem g__law_can_be_completed (X : K.In base) (G : base.Ns mainGlobals mg) (c : obsK K = val0) : mg "_law_can_be_completed" = some (.ref (ga K "_law_can_be_completed")) := glo_of X G (bGlob c) 31
theorem g__law_book (X : K.In base) (G : base.Ns mainGlobals mg) (c : obsK K = val0) : mg "_law_book" = some (.ref (ga K "_law_book")) := glo_of X G (bGlob c) 32
theorem g_never_kept (X : K.In base) (G : base.Ns mainGlobals mg) (c : obsK K = val0) : mg "never_kept" = some (.ref (ga K "never_kept")) := glo_of X G (bGlob c) 33
theorem g_put_into (X : K.In base) (G : base.Ns mainGlobals mg) (c : obsK K = val0) : mg "put_into" = some (.ref (ga K "put_into")) := glo_of X G (bGlob c) 34
theorem g_forget (X : K.In base) (G : base.Ns mainGlobals mg) (c : obsK K = val0) : mg "forget" = some (.ref (ga K "forget")) := glo_of X G (bGlob c) 35
theorem g__law_right (X : K.In base) (G : base.Ns mainGlobals mg) (c : obsK K = val0) : mg "_law_right" = some (.ref (ga K "_law_right")) := glo_of X G (bGlob c) 36
theorem g_law (X : K.In base) (G : base.Ns mainGlobals mg) (c : obsK K = val0) : mg "law" = some (.ref (ga K "law")) := glo_of X G (bGlob c) 37
theorem g_Earliest (X : K.In base) (G : base.Ns mainGlobals mg) (c : obsK K = val0) : mg "Earliest" = some (.ref (ga K "Earliest")) := glo_of X G (bGlob c) 38
theorem g_Rule (X : K.In base) (G : base.Ns mainGlobals mg) (c : obsK K = val0) : mg "Rule" = some (.ref (ga K "Rule")) := glo_of X G (bGlob c) 39
theorem g_Book (X : K.In base) (G : base.Ns mainGlobals mg) (c : obsK K = val0) : mg "Book" = some (.ref (ga K "Book")) := glo_of X G (bGlob c) 40
theorem g_Term (X : K.In base) (G : base.Ns mainGlobals mg) (c : obsK K = val0) : mg "Term" = some (.ref (ga K "Term")) := glo_of X G (bGlob c) 41
theorem f_isinstance (X : K.In base) (G : base.Ns mainGlobals mg) (c : obsK K = val0) : mg "isinstance" = none := free_of X G (bFree c) 0
theorem f_all (X : K.In base) (G : base.Ns mainGlobals mg) (c : obsK K = val0) : mg "all" = none := free_of X G (bFree c) 1
theorem f_any (X : K.In base) (G : base.Ns mainGlobals mg) (c : obsK K = val0) : mg "any" = none := free_of X G (bFree c) 2
theorem f_len (X : K.In base) (G : base.Ns mainGlobals mg) (c : obsK K = val0) : mg "len" = none := free_of X G (bFree c) 3
theorem f_range (X : K.In base) (G : base.Ns mainGlobals mg) (c : obsK K = val0) : mg "range" = none := free_of X G (bFree c) 4
theorem f_int (X : K.In base) (G : base.Ns mainGlobals mg) (c : obsK K = val0) : mg "int" = none := free_of X G (bFree c) 5
theorem f_max (X : K.In base) (G : base.Ns mainGlobals mg) (c : obsK K = val0) : mg "max" = none := free_of X G (bFree c) 6
theorem f_min (X : K.In base) (G : base.Ns mainGlobals mg) (c : obsK K = val0) : mg "min" = none := free_of X G (bFree c) 7
theorem f_abs (X : K.In base) (G : base.Ns mainGlobals mg) (c : obsK K = val0) : mg "abs" = none := free_of X G (bFree c) 8
theorem f_divmod (X : K.In base) (G : base.Ns mainGlobals mg) (c : obsK K = val0) : mg "divmod" = none := free_of X G (bFree c) 9
theorem f_str (X : K.In base) (G : base.Ns mainGlobals mg) (c : obsK K = val0) : mg "str" = none := free_of X G (bFree c) 11
theorem f_dict (X : K.In base) (G : base.Ns mainGlobals mg) (c : obsK K = val0) : mg "dict" = none := free_of X G (bFree c) 12
theorem f_bool (X : K.In base) (G : base.Ns mainGlobals mg) (c : obsK K = val0) : mg "bool" = none := free_of X G (bFree c) 14
theorem f_tuple (X : K.In base) (G : base.Ns mainGlobals mg) (c : obsK K = val0) : mg "tuple" = none := free_of X G (bFree c) 15
theorem f_sorted (X : K.In base) (G : base.Ns mainGlobals mg) (c : obsK K = val0) : mg "sorted" = none := free_of X G (bFree c) 16
theorem f_list (X : K.In base) (G : base.Ns mainGlobals mg) (c : obsK K = val0) : mg "list" = none := free_of X G (bFree c) 17
theorem f_set (X : K.In base) (G : base.Ns mainGlobals mg) (c : obsK K = val0) : mg "set" = none := free_of X G (bFree c) 19
theorem f_enumerate (X : K.In base) (G : base.Ns mainGlobals mg) (c : obsK K = val0) : mg "enumerate" = none := free_of X G (bFree c) 20
theorem n_MOST_LETTERS (X : K.In base) (G : base.Ns mainGlobals mg) (c : obsK K = val0) : ∃ t, mg "MOST_LETTERS" = some (.int 8 t) := int_of X G (bInts c) 0
theorem n_MOST_TERMS (X : K.In base) (G : base.Ns mainGlobals mg) (c : obsK K = val0) : ∃ t, mg "MOST_TERMS" = some (.int 8 t) := int_of X G (bInts c) 1
end
end E10
set_option Elab.async false
set_option maxRecDepth 100000
set_option maxHeartbeats 0
namespace E10
open L2 PySem PySem.Spec PyProof.Rows
theorem run (w : World) : HandSHeadRun.RunEq R qv hook ob 60000 names w := by
  intro os
  kernel_rfl
end E10
set_option Elab.async false
set_option linter.all false
set_option maxRecDepth 100000
set_option maxHeartbeats 4000000
/-! ### tuple(d): the keys of a dict -/
namespace E10
open L2 PySem PySem.Spec PyProof.Rows
section
variable {prog : Program} {w : World} {A : Around} {E : Value → Shared → Prop} {s : Shared}
theorem meets_tuple_src {d : Addr} {n : Nat} {Pv : Nat → Value → Prop} {OK : Heap → Prop} (KS : PySem.W.KdlSrc prog w "dict" d d n Pv OK) (hn : n ≤ sizeLine) :
    MeetsIn prog w (Builtin.«tuple.__new__» ⟨[.type "tuple", .ref d], []⟩)
      (fun A R s => A.handled = none ∧ OK s.heap ∧ ∀ (h' : Heap) (tk : Nat) (acc : Array Value), (∀ b o, s.heap.get? b = some o → h'.get? b = some o) → ItemsOf Pv acc n →
        R (.ok (.ret (.ref h'.objs.size))) { s with heap := h'.push { cls := .type "tuple", data := .seq acc }, toks := tk }) :=
  .of_wp fun A R s h => by
    obtain ⟨hh, ok, h⟩ := h
    have hsub := PySem.sub_tuple_self
    have hinit := PySem.init_tuple_lookup
    have hmh := PySem.madeHere_tuple
    have hT : s.TypeIs (.ref d) "dict" := KS.type _ ok
    have hh1 : A.in1.handled = none := hh
    have hcol : ∀ {R' : List Value → Shared → Prop} {E' : Value → Shared → Prop}, (∀ (h' : Heap) (tk : Nat) (acc : Array Value), (∀ b o, s.heap.get? b = some o → h'.get? b = some o) → ItemsOf Pv acc n → R' acc.toList { s with heap := h', toks := tk }) → wpAny (model prog w) A.in1 (collect (.ref d)) R' E' s :=
      fun h => PySem.W.kdu_collect KS hh1 ok hn h
    wp_walk using wpAny_typeOf hT, hcol
    intro h' tk acc hk hacc
    show wpAny _ _ (Builtin.Tuple.tupleExact acc.toList.toArray >>= fun v => ret v) _ _ _
    unfold Builtin.Tuple.tupleExact
    refine wpAny_bind (wpAny_newObj_type ?_ (show acc.toList.toArray.size ≤ sizeLine by simp only [Array.toArray_toList]; rw [hacc.1]; exact hn))
    refine wpAny_pure ⟨_, rfl, ?_⟩
    have e : acc.toList.toArray = acc := by simp
    rw [e]
    exact h h' tk acc hk hacc
theorem call_tuple_src {d : Addr} {n : Nat} {Pv : Nat → Value → Prop} {OK : Heap → Prop} {Q : Value → Shared → Prop} (KS : PySem.W.KdlSrc prog w "dict" d d n Pv OK) (hn : n ≤ sizeLine) (hh : A.handled = none) (ok : OK s.heap)
    (h : ∀ (h' : Heap) (tk : Nat) (acc : Array Value), (∀ b o, s.heap.get? b = some o → h'.get? b = some o) → ItemsOf Pv acc n → Q (.ref h'.objs.size) { s with heap := h'.push { cls := .type "tuple", data := .seq acc }, toks := tk }) :
    wpAny (model prog w) A (call (.type "tuple") [.ref d]) Q E s := by
  refine callType_newIn PySem.F.called_tuple (by decide) (PySem.F.typeCall_tuple_1 _) (PySem.F.newCall_tuple_1 _) (fun obj => PySem.F.args_object_init_2 obj _) PySem.F.entry_tuple_new (meets_tuple_src KS hn) ⟨hh, ok, fun h' tk acc hk hacc => ⟨⟨_, Heap.get?_push_size _ rfl, rfl⟩, h h' tk acc hk hacc⟩⟩
end
theorem new_same0 {H : Hp} {p : Addr} {o : HO} (np : H p = none) : Same H (upd H p o) := fun c u e => (upd_ne (ne_of_none e np)).trans e
/-- tuple(d): its keys -/
theorem call_tupleD {X : Cx} (hcalm : X.calm = true) : CallR X (.type "tuple") (fun xs H Q => ∃ (a : Addr) (kvs : List (Key × V)), xs = [.ref a] ∧ Rd H a (.dK kvs) ∧ ∀ p H', H p = none → Same H H' → H' p = some (.tup (kvs.map fun kv => kV kv.1)) → Q (.ref p) H') := by
  intro pins s σ H xs us Q I r q
  obtain ⟨a, kvs, ex, hd, q⟩ := q
  subst ex
  obtain ⟨u, eu, rx⟩ := vals1 r
  subst eu
  cases rx
  obtain ⟨z, lo, vs, rel, dd⟩ := dk_rd I.hok hd
  obtain ⟨ep, hat⟩ := dd.dictAt
  have ek : (kvs.map fun kv => kV kv.1) = vs.map fun p => kV p.1 := by
    have e := congrArg (List.map kV) rel.keys
    rw [List.map_map, List.map_map] at e
    exact e
  refine call_tuple_src (PySem.W.kdl_dict (knd := mixKind X.prog X.w) (kvs := vs) (ep := ep) lo) (by rw [← rel.length]; exact z) (I.ok.hd hcalm) hat fun h' tk acc hk hacc => ?_
  have hv : Vals (vs.map fun p => kV p.1) acc.toList := keys_at (by rw [Array.length_toList]; exact hacc.1) fun j v e => hacc.2 j v (by rw [← Array.getElem?_toList]; exact e)
  have I1 : Inv X pins σ H { s with heap := h', toks := tk } := I.kept (t' := tk) hk
  have I2 : Inv X pins σ (upd H h'.objs.size (.tup (kvs.map fun kv => kV kv.1))) { s with heap := h'.push { cls := .type "tuple", data := .seq acc }, toks := tk } :=
    I1.laid (t' := tk) (fun b o e => Heap.get?_push_of_some _ e) (Nat.le_refl _) (show ObjOk X.prog X.w _ _ _ (.tup (kvs.map fun kv => kV kv.1)) from ⟨by rw [List.length_map]; exact z, acc.toList, by rw [ek]; exact hv, by rw [Array.toArray_toList]; exact IsTup.new _ _⟩)
  have np := I1.hok.fresh (Nat.le_refl _)
  exact ⟨.ref h'.objs.size, _, I2, rfl, q _ _ np (new_same0 np) upd_same⟩
end E10
set_option Elab.async false
set_option linter.all false
set_option maxRecDepth 100000
set_option maxHeartbeats 4000000
/-! ### {d!r} of a dict of small things -/
namespace E10
open L2 PySem PySem.Spec PyProof.Rows
end E10
set_option Elab.async false
set_option linter.all false
set_option maxRecDepth 100000
set_option maxHeartbeats 4000000
/-! ### len(a), x in a: own objects -/
namespace E10
open L2 PySem PySem.Spec PyProof.Rows
end E10
set_option Elab.async false
set_option linter.all false
set_option maxRecDepth 100000
set_option maxHeartbeats 4000000
/-! ### methods where no text of a container is being made; a staticmethod with keywords alone -/
namespace E10
open L2 PySem PySem.Spec PyProof.Rows
/-! ### keywords into a dict -/
end E10
set_option Elab.async false
set_option linter.all false
set_option maxRecDepth 100000
set_option maxHeartbeats 4000000
/-! ### {**d, k: v} -/
namespace E10
open L2 PySem PySem.Spec PyProof.Rows
section
variable {P : Program} {w : World} {A : Around} {E : Value → Shared → Prop} {s : Shared}
abbrev mk (P : Program) (w : World) := mixKind P w
end
end E10
set_option Elab.async false
set_option linter.all false
set_option maxRecDepth 100000
set_option maxHeartbeats 4000000
/-! ### enumerate(tuple) -/
namespace PySem
open Sem (wp)
open AutoSeq1 (wpAny_loadPart')
theorem meets_enumerate_newT (l : Addr) (items : Array Value) (n : Nat) (dct : Option Addr) (sl : Array (Option Value)) :
    Meets (Builtin.«enumerate.__new__» ⟨[.type "enumerate", .ref l], []⟩) (fun _ R s => s.heap.get? l = some { cls := .type "tuple", dict := dct, data := .seq items n, slots := sl } ∧
      R (.ok (.ret (.ref (s.heap.push { cls := .type "tuple_iterator", data := .fields #[.ref l, .int 0 0] }).objs.size)))
        { s with heap := (s.heap.push { cls := .type "tuple_iterator", data := .fields #[.ref l, .int 0 0] }).push { cls := .type "enumerate", data := .fields #[.none, .bool false, .ref s.heap.objs.size, rawInt 0, .none, .none] } }) :=
  .of_wp fun prog w A R s h => by
    obtain ⟨hp, g, d, tk, os⟩ := s; obtain ⟨hl, h⟩ := h
    have hsub := sub_enumerate
    have hL : Heap.IsTuple (Shared.heap ⟨hp, g, d, tk, os⟩) l items := ⟨_, hl, rfl, n, rfl⟩
    wp_walk using wpAny_loadPart' hl
    refine wpAny_stack_any fun st => wpAny_pure ?_
    split
    · rename_i c _ _ _ _ _
      cases (c == Value.type "enumerate")
      · wp_walk using wpAny_loadPart' hl, wpAny_pyIter_tuple hL
        exact ⟨_, rfl, h⟩
      · wp_walk using wpAny_loadPart' hl, wpAny_pyIter_tuple hL
        exact ⟨_, rfl, h⟩
    · wp_walk using wpAny_loadPart' hl, wpAny_pyIter_tuple hL
      exact ⟨_, rfl, h⟩
section
variable {prog : Program} {w : World} {A : Around} {E : Value → Shared → Prop} {s : Shared}
theorem call_enumerate_tuple {l : Addr} {items : Array Value} {Q : Value → Shared → Prop} (hL : s.heap.IsTuple l items)
    (h : ∀ h', IsEnum h' (s.heap.objs.size + 1) s.heap.objs.size 0 .none → h'.IsTupleIter s.heap.objs.size l 0 → h'.objs.size = s.heap.objs.size + 2 →
      (∀ b o, s.heap.get? b = some o → h'.get? b = some o) → Q (.ref (s.heap.objs.size + 1)) { s with heap := h' }) :
    wpAny (model prog w) A (call (.type "enumerate") [.ref l]) Q E s := by
  obtain ⟨⟨c, dct, dt, sl⟩, hl, hc, n, hd⟩ := hL
  replace hc : c = .type "tuple" := hc
  replace hd : dt = .seq items n := hd
  subst hc hd
  refine callType_new F.called_enumerate (by decide) (F.typeCall_enumerate_1 _) (F.newCall_enumerate_1 _) (fun obj => F.args_object_init_2 obj _) F.entry_enumerate_new
    (meets_enumerate_newT l items n dct sl) ⟨hl, ?_⟩
  have hz : (s.heap.push { cls := .type "tuple_iterator", data := .fields #[.ref l, .int 0 0] }).objs.size = s.heap.objs.size + 1 := Heap.size_push ..
  show _ ∧ _
  rw [hz]
  have he : IsEnum ((s.heap.push { cls := .type "tuple_iterator", data := .fields #[.ref l, .int 0 0] }).push
      { cls := .type "enumerate", data := .fields #[.none, .bool false, .ref s.heap.objs.size, rawInt 0, .none, .none] }) (s.heap.objs.size + 1) s.heap.objs.size 0 .none := by
    have := Heap.get?_push_size (s.heap.push { cls := .type "tuple_iterator", data := .fields #[.ref l, .int 0 0] })
      (o := { cls := .type "enumerate", data := .fields #[.none, .bool false, .ref s.heap.objs.size, rawInt 0, .none, .none] }) rfl
    rw [hz] at this; exact this
  refine ⟨⟨_, he, rfl⟩, h _ he ⟨_, Heap.get?_push_of_some _ (Heap.get?_push_size _ rfl), rfl, rfl⟩ (by rw [Heap.size_push, hz]) fun b o x => Heap.get?_push_of_some _ (Heap.get?_push_of_some _ x)⟩
theorem wpAny_nextOf_tuple_item {it t : Addr} {i : Nat} {items} {x : Value} {Q : Value → Shared → Prop} (hit : s.heap.IsTupleIter it t i)
    (ht : s.heap.IsTuple t items) (hx : items[i]? = some x)
    (hQ : ∀ h', h'.IsTupleIter it t (i + 1) → Heap.SameBut it s.heap h' → Q x { s with heap := h' }) :
    wpAny (model prog w) A (Builtin.SmallTypes.nextOf (.ref it)) Q E s := by
  obtain ⟨o, ho, hc, hd⟩ := id hit
  obtain ⟨ol, hol, _, nl, hdl⟩ := ht
  unfold Builtin.SmallTypes.nextOf
  refine wpAny_bind (wpAny_callSpecial?_slot (name := Str.ofString "__next__") hit.typeIs F.slot_tuple_iterator_next
    (wpAny_call_entry F.slot_tuple_iterator_next hit.typeIs F.entry_tuple_iterator_next ?_ (F.args_tuple_iterator_next_1 _)))
  show wpAny _ _ (field (.ref it) 0 >>= _) _ _ s
  refine wpAny_bind (wpAny_field ho hd (x := .ref t) rfl ?_)
  show wpAny _ _ (if (Value.ref t == Value.none) = true then _ else _) _ _ s
  rw [if_neg (show ¬ ((Value.ref t == Value.none) = true) from Bool.false_ne_true)]
  show wpAny _ _ (field (.ref it) 1 >>= _) _ _ s
  refine wpAny_bind (wpAny_field ho hd (x := .int i 0) rfl ?_)
  show wpAny _ _ (seqItems? (.ref t) >>= _) _ _ s
  refine wpAny_bind (wpAny_seqItems hol hdl ?_)
  simp only [Int.toNat_natCast, hx]
  refine wpAny_bind (wpAny_setField ho hd (by simp) (wpAny_pure ⟨x, rfl, wpAny_pure (hQ _ ?_ (Heap.SameBut.update ..))⟩))
  exact ⟨_, Heap.get?_update_self _ ho (Obj.isFreed_of_fields (Obj.data_mapFields hd _)), (Obj.cls_mapFields ..).trans hc, by
    rw [Obj.data_mapFields hd]; simp [rawInt]⟩
theorem wpAny_nextOf_tuple_end {it t : Addr} {i : Nat} {items} {Q : Value → Shared → Prop} (hh : A.handled = none)
    (hit : s.heap.IsTupleIter it t i) (ht : s.heap.IsTuple t items) (hx : items[i]? = none)
    (hE : ∀ h' e, Heap.ExtBut it s.heap h' → (∃ o, h'.get? e = some o ∧ o.cls = .type "StopIteration") → E (.ref e) { s with heap := h' }) :
    wpAny (model prog w) A (Builtin.SmallTypes.nextOf (.ref it)) Q E s := by
  obtain ⟨o, ho, hc, hd⟩ := id hit
  obtain ⟨ol, hol, _, nl, hdl⟩ := ht
  unfold Builtin.SmallTypes.nextOf
  refine wpAny_bind (wpAny_callSpecial?_slot (name := Str.ofString "__next__") hit.typeIs F.slot_tuple_iterator_next
    (wpAny_call_entry F.slot_tuple_iterator_next hit.typeIs F.entry_tuple_iterator_next ?_ (F.args_tuple_iterator_next_1 _)))
  show wpAny _ _ (field (.ref it) 0 >>= _) _ _ s
  refine wpAny_bind (wpAny_field ho hd (x := .ref t) rfl ?_)
  show wpAny _ _ (if (Value.ref t == Value.none) = true then _ else _) _ _ s
  rw [if_neg (show ¬ ((Value.ref t == Value.none) = true) from Bool.false_ne_true)]
  show wpAny _ _ (field (.ref it) 1 >>= _) _ _ s
  refine wpAny_bind (wpAny_field ho hd (x := .int i 0) rfl ?_)
  show wpAny _ _ (seqItems? (.ref t) >>= _) _ _ s
  refine wpAny_bind (wpAny_seqItems hol hdl ?_)
  simp only [Int.toNat_natCast, hx]
  refine wpAny_bind (wpAny_rule (wpAny_bind (wpAny_setField ho hd (by simp) ?_)))
  show wpAny _ _ (newExc (.type "StopIteration") [] >>= _) _ _ _
  refine wpAny_bind ?_
  simp only [newExc, newTuple]
  refine wpAny_bind (wpAny_newObj_type ?_ (by size_fits))
  refine wpAny_bind (m := firstArgMember _ _) (wpAny_of_eq (a := Value.none) (by first | rfl | (simp only [firstArgMember]; rfl)) ?_)
  refine wpAny_newObj_type ?_ (by size_fits)
  simp only [raiseNew]
  refine wpAny_bind (wpAny_handled ?_)
  first | rw [show A.in1.handled = none from hh] | rw [hh]
  refine wpAny_bind (wpAny_pure (wpAny_throw ?_))
  exact hE _ _ (((Heap.SameBut.update ..).extBut.push _).push _) ⟨_, Heap.get?_push_size _ rfl, rfl⟩
end
section
variable {prog : Program} {w : World} {A : Around} {E : Value → Shared → Prop} {s : Shared}
theorem wpAny_pyNext_enum_endT {e it l : Addr} {i : Nat} {items : Array Value} {old : Value} {Q : Option Value → Shared → Prop} (hh : A.handled = none)
    (he : IsEnum s.heap e it i old) (hit : s.heap.IsTupleIter it l i) (hl : s.heap.IsTuple l items) (hx : items[i]? = none)
    (hQ : ∀ h', Heap.ExtBut it s.heap h' → Q none { s with heap := h' }) : wpAny (model prog w) A (pyNext (.ref e)) Q E s := by
  have hT : s.TypeIs (.ref e) "enumerate" := ⟨_, he, rfl⟩
  unfold pyNext
  refine wpAny_bind (wpAny_attempt (wpAny_callSpecial?_slot (name := Str.ofString "__next__") hT F.slot_enumerate_next
    (wpAny_call_entry F.slot_enumerate_next hT F.entry_enumerate_next ?_ (F.args_enumerate_next_1 _))))
  show wpAny _ _ (field (.ref e) 2 >>= _) _ _ _
  refine wpAny_bind (wpAny_field he rfl (x := .ref it) rfl ?_)
  refine wpAny_bind (wpAny_nextOf_tuple_end hh hit hl hx fun h' x he' hx' => ?_)
  obtain ⟨o, ho, hc⟩ := hx'
  refine wpAny_bind (wpAny_isInstance (T := "StopIteration") (b := true) ⟨o, ho, hc⟩ isSubtype_stop ?_)
  exact wpAny_pure (hQ _ he')
end
theorem Draws.tuple {prog : Program} {w : World} {A : Around} (hh : A.handled = none) (it l : Addr) (hne : l ≠ it) (items : Array Value) :
    Draws prog w A it [it, l] items.size (fun i v => items[i]? = some v) (fun i h => h.IsTupleIter it l i ∧ h.IsTuple l items) where
  live := fun _ _ st => let ⟨o, ho, _⟩ := st.1; ⟨o, ho⟩
  frame := fun _ _ _ st hk => ⟨let ⟨o, ho, r⟩ := st.1; ⟨o, hk it (by simp) o ho, r⟩, let ⟨o, ho, r⟩ := st.2; ⟨o, hk l (by simp) o ho, r⟩⟩
  item := fun i s Q E hi st hQ => by
    refine wpAny_nextOf_tuple_item st.1 st.2 (x := items[i]) (by simp [hi]) fun h' hit' hs' => ?_
    exact hQ _ h' s.toks (by simp [hi]) ⟨hit', st.2.extBut hs'.extBut hne⟩ hs'
  done := fun s Q E st hE => wpAny_nextOf_tuple_end hh st.1 st.2 (by simp) hE
end PySem
namespace L2
open PySem PySem.Spec PyProof.Rows
/-- the tuple at a, each item in a new pair -/
def IteT (K : PySem.W.Frag) (a : Addr) : It :=
  ⟨fun i H => ∃ (xs : List V) (x : V), SqT K H a xs ∧ xs[i]? = some x, fun i H v H' => ∃ T x, v = .ref T ∧ H T = none ∧ H' = upd H T (.tup [.int (i : Nat), x]) ∧ ∀ xs, SqT K H a xs → xs[i]? = some x, fun i H => ∃ xs : List V, SqT K H a xs ∧ xs.length ≤ i⟩
theorem turn_enumT {P : Program} {w : World} {K : PySem.W.Frag} {elts : List Expr} {kk : Nat} {tpos : Pos} (a e it : Addr) :
    Turn P w K (.Tuple elts kk tpos) (IteT K a) [e, it] e (fun i h => (∃ old, IsEnum h e it ((i : Nat) : Int) old) ∧ h.IsTupleIter it a i ∧ e ≠ it) where
  mem := by simp
  obj := fun i h st b hb => by
    obtain ⟨⟨old, he⟩, ⟨o, ho, hc, hd⟩, _⟩ := st
    have e' : b = e ∨ b = it := by simpa using hb
    rcases e' with z | z
    · rw [z]; exact ⟨_, he, fun v q => nomatch q⟩
    · rw [z]; exact ⟨o, ho, fun v q => by rw [hd] at q; cases q⟩
  keep := fun i h h' st k => let ⟨⟨old, he⟩, ⟨o, ho, r⟩, hne⟩ := st; ⟨⟨old, k e (by simp) _ he⟩, ⟨o, k it (by simp) _ ho, r⟩, hne⟩
  item := by
    intro X hP hw hK hc i pins s σ H E I hf st hg
    subst hP hw hK
    obtain ⟨⟨old, he⟩, hit, hne⟩ := st
    obtain ⟨xs, x, hq, hx⟩ := hg
    obtain ⟨its, rv, p, hz⟩ := I.tuple hq
    obtain ⟨u, hu, ru⟩ := rv.get hx
    have hel : e < s.heap.objs.size := Heap.lt_size he
    have hil : it < s.heap.objs.size := by obtain ⟨_, q, _⟩ := hit; exact Heap.lt_size q
    have ai : a ≠ it := by
      rintro rfl
      obtain ⟨o1, h1, c1, _⟩ := p
      obtain ⟨o2, h2, c2, _⟩ := hit
      rw [h1] at h2
      cases h2
      rw [c1] at c2
      exact absurd (Value.type.inj c2) (by decide)
    have ae : e ≠ a := by
      rintro rfl
      obtain ⟨o1, h1, c1, _⟩ := p
      have h2 := he
      unfold IsEnum at h2
      rw [h1] at h2
      cases h2
      exact absurd (Value.type.inj c1) (by decide)
    have hlt : i < its.toArray.size := by
      have := (List.getElem?_eq_some_iff.mp hu).1
      simpa using this
    refine wpAny_pyNext_enum_itemD (Draws.tuple (show X.A.in1.handled = none from I.ok.hd hc) it a ai its.toArray) he ⟨hit, p⟩ hlt hne (by simp [hne, ae]) fun x' h' tk px ho st' hT hsz hk => ?_
    obtain rfl : x' = u := by
      have e1 : its.toArray[i]? = some u := by simpa using hu
      exact Option.some.inj (px.symm.trans e1)
    refine ⟨_, rfl, wpAny_letOwnedTupleGo_enum (s := { s with heap := h', toks := tk + 1 }) ho fun h'' he' sb => ?_⟩
    have hT2 : h''.get? s.heap.objs.size = some { cls := .type "tuple", data := .seq #[.int i tk, x'] } := (sb.2 _ (Nat.ne_of_gt hel)).trans hT
    have new : ObjOk X.prog X.w (upd H s.heap.objs.size (.tup [.int (i : Nat), x])) h'' s.heap.objs.size (.tup [.int (i : Nat), x]) :=
      ⟨by show 2 ≤ sizeLine; decide, [.int i tk, x'], .cons ⟨_, rfl⟩ (.cons ru .nil), ⟨_, hT2, rfl, _, rfl⟩⟩
    have I1 : Inv X pins σ (upd H s.heap.objs.size (.tup [.int (i : Nat), x])) { s with heap := h'', toks := tk + 1 } :=
      I.turnedNew (ch := [e, it]) (fun b ob hb q => (sb.2 b (fun z => hb (by simp [z]))).trans (hk b ob (fun z => hb (by simp [z])) (fun z => hb (by simp [z])) q)) hf (Nat.le_refl _) new
    refine ⟨.ref s.heap.objs.size, _, I1, rfl, ⟨_, x, rfl, I.hok.fresh (Nat.le_refl _), rfl, fun ys hy => by rw [I.tuple_inj hy hq]; exact hx⟩, ⟨⟨x', ?_⟩, ?_, hne⟩, fun b hb => ?_⟩
    · have e1 : ((i + 1 : Nat) : Int) = (i : Int) + 1 := by omega
      rw [e1]; exact he'
    · obtain ⟨o, ho2, r⟩ := st'.1
      exact ⟨o, (sb.2 it (Ne.symm hne)).trans ho2, r⟩
    · have hb' : b < s.heap.objs.size := by
        have e' : b = e ∨ b = it := by simpa using hb
        rcases e' with z | z
        · rw [z]; exact hel
        · rw [z]; exact hil
      rw [upd_ne (Nat.ne_of_lt hb')]
      exact (hf b hb).1
  done := by
    intro X hP hw hK hc i pins s σ H E I hf st hg
    subst hP hw hK
    obtain ⟨⟨old, he⟩, hit, hne⟩ := st
    obtain ⟨xs, hq, hx⟩ := hg
    obtain ⟨its, rv, p, hz⟩ := I.tuple hq
    obtain ⟨f0, f1, f2, f3, f4, f5⟩ := hf it (by simp)
    have hl := rv.length
    exact wpAny_pyNext_enum_endT (I.ok.hd hc) he hit p (by simp; omega) fun h' eb => ⟨rfl, I.turned (t' := s.toks) (fun b o hb q => eb b o hb q) f0 f1 f3 f4 f5⟩
  self := fun A i s Q E st h => let ⟨⟨_, he⟩, _⟩ := st; wpAny_pyIter_enum he h
def iEnumT (K : PySem.W.Frag) (ta : TA) : TI := fun σ H R => ta σ H fun vs H1 => ∃ a xs, vs = [.ref a] ∧ SqT K H1 a xs ∧ R (IteT K a) H1
theorem pi_enumT {X : Cx} {e : Expr} {ta : TA} {p pos tpos : Pos} {elts : List Expr} {kk : Nat} (hg : Gl X "enumerate") (hm : X.mg "enumerate" = none) (ha : PA X [e] ta) (hs : starEach [e] X.env = [(false, eval e X.env)] := by rfl) :
    PI X (.Tuple elts kk tpos) (.Call (.Name "enumerate" p) [e] [] pos) (iEnumT X.K ta) := by
  refine ⟨fun pins s σ H R I h => ?_⟩
  refine Call_ (ld_blt I hg hm boot_enumerate (PyProof.Rows.callWith_type1 (thn (ha.run pos pins s σ H _ I h) fun us s1 ⟨vs, H1, I1, r1, q1⟩ => ?_) hs rfl))
  obtain ⟨a, xs, ex, hq, q⟩ := q1
  subst ex
  cases r1 with
  | cons r rr =>
    cases rr
    cases r
    obtain ⟨its, rv, p', hz⟩ := I1.tuple hq
    refine call_enumerate_tuple (show s1.heap.IsTuple a its.toArray from p') fun h' he hit hsz hk => wpAny_pyIter_enum he ?_
    have I2 : Inv X pins σ H1 { s1 with heap := h' } := I1.kept (t' := s1.toks) hk
    refine ⟨s1.heap.objs.size + 1, [s1.heap.objs.size + 1, s1.heap.objs.size], _, _, H1, rfl, I2, turn_enumT a (s1.heap.objs.size + 1) s1.heap.objs.size, ⟨⟨.none, he⟩, hit, Nat.succ_ne_self _⟩, fun b hb => ?_, q⟩
    have e' : b = s1.heap.objs.size + 1 ∨ b = s1.heap.objs.size := by simpa using hb
    have hle : s1.heap.objs.size ≤ b := by
      rcases e' with z | z
      · rw [z]; exact Nat.le_add_right _ _
      · rw [z]; exact Nat.le_refl _
    exact I1.fpOk hle (I1.hok.fresh hle)
theorem walk_enumT {K : PySem.W.Frag} {a : Addr} {xs : List V} : Walk (IteT K a) xs.length (fun H => SqT K H a xs) (YPair (fun i => some (.int (i : Nat))) (fun i => xs[i]?)) := by
  refine ⟨fun i _ hi q => ⟨xs, xs[i], q, by simp [hi]⟩, fun _ q => ⟨xs, q, Nat.le_refl _⟩, fun i H v H' _ q y => ?_⟩
  obtain ⟨T, x, h1, h2, h3, h4⟩ := y
  exact ⟨T, .int (i : Nat), x, h1, h2, h3, rfl, h4 xs q⟩
end L2
set_option Elab.async false
set_option linter.all false
set_option maxRecDepth 100000
set_option maxHeartbeats 4000000
/-! ### an operator of two own objects of one class -/
namespace E10
open L2 PySem PySem.Spec PyProof.Rows
end E10
set_option Elab.async false
set_option linter.all false
set_option maxRecDepth 100000
set_option maxHeartbeats 4000000
/-! ### sets of texts: made, joined, sorted -/
namespace E10
open L2 PySem PySem.Spec PyProof.Rows
def txtOf (e : Int × Value) : Str := PyProof.Rows.strOf e.2
def GoodT (P : Program) (w : World) (e : Int × Value) : Prop := ∃ z tk, e.2 = Value.str z tk ∧ e.1 = (PySem.strKind P w).hash z
/-- what stands in the object of a set of texts: zs, each once, in whatever order -/
structure SetD (P : Program) (w : World) (es : Array (Int × Value)) (t : SetTable) (zs : List Str) : Prop where
  good : ∀ e ∈ es.toList, GoodT P w e
  perm : (es.toList.map txtOf).Perm zs
  nd : zs.Nodup
  few : zs.length < scanBound
  fits : t.fits es.size = true
  ris : Ris t.place.toList
  led : w.params.followText "set-order" = true ∨ t.led = true
def SetT (P : Program) (w : World) (h : Heap) (a : Addr) (zs : List Str) : Prop := ∃ o es ep t, h.get? a = some o ∧ o.ExactSet ∧ o.data = .set es ep t ∧ SetD P w es t zs
def insT (zs : List Str) (z : Str) : List Str := if z ∈ zs then zs else z :: zs
theorem insT_mem {zs : List Str} {z y : Str} : y ∈ insT zs z ↔ y = z ∨ y ∈ zs := by
  unfold insT
  split
  · rename_i h
    exact ⟨.inr, fun e => e.elim (fun q => q ▸ h) id⟩
  · exact List.mem_cons
theorem insT_nd {zs : List Str} {z : Str} (nd : zs.Nodup) : (insT zs z).Nodup := by
  unfold insT
  split
  · exact nd
  · rename_i h
    exact List.nodup_cons.mpr ⟨h, nd⟩
theorem insT_len (zs : List Str) (z : Str) : (insT zs z).length ≤ zs.length + 1 := by
  unfold insT
  split <;> simp
section
variable {P : Program} {w : World} {h h' : Heap} {a : Addr} {zs : List Str} {es : Array (Int × Value)} {t : SetTable}
theorem SetD.size (D : SetD P w es t zs) : es.size = zs.length := by
  have q := D.perm.length_eq
  rwa [List.length_map, Array.length_toList] at q
theorem SetD.elems (D : SetD P w es t zs) : ElemsOf (PySem.strKind P w) es.toList := fun e he => by
  obtain ⟨z, tk, q1, q2⟩ := D.good e he
  refine ⟨⟨z, ?_, q2⟩, ?_⟩
  · rw [q1]
    exact strKind_is P w z tk
  · rw [q1]
    rfl
theorem good_txt {e : Int × Value} (g : GoodT P w e) (z : Str) : (PySem.strKind P w).is z e.2 = decide (z = txtOf e) := by
  obtain ⟨y, tk, q, _⟩ := g
  unfold txtOf
  rw [q]
  exact PySem.KeyKind.is_eq_decide (strKind_is P w y tk) z
theorem SetD.has (D : SetD P w es t zs) (z : Str) : z ∈ zs ↔ ∃ e ∈ es.toList, (PySem.strKind P w).is z e.2 = true := by
  rw [← D.perm.mem_iff, List.mem_map]
  constructor
  · rintro ⟨e, he, rfl⟩
    exact ⟨e, he, by rw [good_txt (D.good e he)]; exact decide_eq_true rfl⟩
  · rintro ⟨e, he, q⟩
    rw [good_txt (D.good e he)] at q
    exact ⟨e, he, (of_decide_eq_true q).symm⟩
theorem SetT.keep (R : SetT P w h a zs) (k : ∀ o, h.get? a = some o → h'.get? a = some o) : SetT P w h' a zs := by
  obtain ⟨o, es, ep, t, ho, r⟩ := R
  exact ⟨o, es, ep, t, k o ho, r⟩
end
section
variable {P : Program} {w : World} {A : Around} {E : Value → Shared → Prop} {s : Shared} {a : Addr} {zs : List Str}
theorem put_at {h : Heap} {o : Obj} {es es' : Array (Int × Value)} {ep : Nat} {t t' : SetTable} (ho : h.get? a = some o) (hd : o.data = .set es ep t) :
    (h.update a (Obj.putSet es' t')).get? a = some { o with data := .set es' (ep + 1) t' } := store_at ho hd
/-- laid, and laid anew where the table is too full -/
theorem add_tail {g : Bool → Sem Unit} (hg : ∀ (b : Bool) (s₁ : Shared) (Q' : Unit → Shared → Prop), Q' () s₁ → wpAny (model P w) A (g b) Q' E s₁)
    {o : Obj} {es es1 : Array (Int × Value)} {ep : Nat} {t t2 : SetTable} (ho : s.heap.get? a = some o) (hex : o.ExactSet) (hd : o.data = .set es ep t) (D : SetD P w es1 t2 zs)
    {dm : Bool} {R : Option Bool → Shared → Prop} (hR : ∀ h', Heap.SameBut a s.heap h' → SetT P w h' a zs → R (some true) { s with heap := h' }) :
    wpAny (model P w) A (do
        storeSet a es1 t2
        if (!dm && t2.tooFull) = true then do
            g (relayAll t2 es1 (SetTable.grown es1.size)).2.2
            storeSet a (relayAll t2 es1 (SetTable.grown es1.size)).1 (relayAll t2 es1 (SetTable.grown es1.size)).2.1
            pure (some true)
          else pure (some true)) R E s := by
  have few1 : es1.size < scanBound := by rw [D.size]; exact D.few
  refine wpAny_bind (wpAny_storeSet_of ho hd ?_ (fits_of_scanBound few1))
  have ho1 := put_at (es' := es1) (t' := t2) ho hd
  have sb1 := Heap.SameBut.update s.heap a (Obj.putSet es1 t2)
  by_cases full : (!dm && t2.tooFull) = true
  · rw [if_pos full]
    obtain ⟨pm, hf3, hr3, hl3⟩ : (relayAll t2 es1 (SetTable.grown es1.size)).1.toList.Perm es1.toList ∧ (relayAll t2 es1 (SetTable.grown es1.size)).2.1.fits (relayAll t2 es1 (SetTable.grown es1.size)).1.size = true ∧
        Ris (relayAll t2 es1 (SetTable.grown es1.size)).2.1.place.toList ∧ (relayAll t2 es1 (SetTable.grown es1.size)).2.1.led = t2.led := ⟨relayAll_perm _ _ _, relayAll_fits _ _ _, relayAll_ris _ _ _, relayAll_led _ _ _⟩
    generalize relayAll t2 es1 (SetTable.grown es1.size) = Z at *
    obtain ⟨es2, t3, gave⟩ := Z
    dsimp only at pm hf3 hr3 hl3 ⊢
    have D2 : SetD P w es2 t3 zs := ⟨fun e he => D.good e (pm.mem_iff.mp he), (pm.map txtOf).trans D.perm, D.nd, D.few, hf3, hr3, D.led.imp id fun z => by rw [hl3]; exact z⟩
    refine wpAny_bind (hg _ _ _ ?_)
    refine wpAny_bind (wpAny_storeSet_of ho1 rfl ?_ (fits_of_scanBound (by rw [D2.size]; exact D2.few)))
    have ho2 := put_at (es' := es2) (t' := t3) ho1 rfl
    exact wpAny_pure (hR _ (sb1.trans (Heap.SameBut.update _ a _)) ⟨_, es2, _, t3, ho2, hex, rfl, D2⟩)
  · rw [if_neg full]
    exact wpAny_pure (hR _ sb1 ⟨_, es1, _, t2, ho1, hex, rfl, D⟩)
theorem addT {z : Str} {tk : Tok} {Q : Bool → Shared → Prop} (R : SetT P w s.heap a zs) (room : zs.length + 1 < scanBound)
    (hQ : ∀ h' b, Heap.SameBut a s.heap h' → SetT P w h' a (insT zs z) → Q b { s with heap := h' }) :
    wpAny (model P w) A (setAddHashed a (.str z tk) ((PySem.strKind P w).hash z)) Q E s := by
  obtain ⟨o, es, ep, t, ho, hex, hd, D⟩ := R
  have few : es.size < scanBound := by rw [D.size]; exact D.few
  unfold setAddHashed setAddHashedIn
  refine wpAny_holding (wpAny_bind (wpAny_setState_of ho hd D.fits ?_))
  dsimp only
  rw [byScan_of (x := Value.str z tk) rfl few D.elems, if_pos rfl]
  unfold setAddByScan
  refine wpAny_bind (wpAny_bind (wpAny_rule (wpAny_bind (wpAny_setScan_of (strKind_is P w z tk) ho hd D.fits D.elems ?_))))
  cases hfi : List.findIdx? (fun e => (PySem.strKind P w).is z e.2) es.toList with
  | some j =>
    dsimp only
    obtain ⟨hj, pj, _⟩ := List.findIdx?_eq_some_iff_getElem.mp hfi
    have hz : z ∈ zs := (D.has z).2 ⟨es.toList[j], List.getElem_mem hj, pj⟩
    refine wpAny_pure (wpAny_pure (hQ s.heap false (Heap.SameBut.refl a s.heap) ?_))
    unfold insT
    rw [if_pos hz]
    exact ⟨o, es, ep, t, ho, hex, hd, D⟩
  | none =>
    dsimp only
    have hz : z ∉ zs := fun m => by
      obtain ⟨e, he, q⟩ := (D.has z).1 m
      exact absurd q (by rw [List.findIdx?_eq_none_iff.mp hfi e he]; exact Bool.false_ne_true)
    have e1 : insT zs z = z :: zs := if_neg hz
    rw [e1] at hQ
    have pm := layNew_perm t es ((PySem.strKind P w).hash z) (.str z tk)
    have hf1 := layNew_fits t es ((PySem.strKind P w).hash z) (.str z tk)
    have hr1 := layNew_ris t es ((PySem.strKind P w).hash z) (.str z tk) D.ris
    have hl1 := layNew_led t es ((PySem.strKind P w).hash z) (.str z tk)
    generalize layNew t es ((PySem.strKind P w).hash z) (.str z tk) = Z at *
    obtain ⟨es1, t1, dm, gave⟩ := Z
    dsimp only at pm hf1 hr1 hl1 ⊢
    rw [Array.toList_push] at pm
    have pc : es1.toList.Perm (((PySem.strKind P w).hash z, Value.str z tk) :: es.toList) := pm.trans (List.perm_append_singleton _ _)
    have D1 : SetD P w es1 t1 (z :: zs) := ⟨fun e he => by
      rcases List.mem_cons.mp (pc.mem_iff.mp he) with q | q
      · rw [q]; exact ⟨z, tk, rfl, rfl⟩
      · exact D.good e q, (pc.map txtOf).trans (List.Perm.cons z D.perm), List.nodup_cons.mpr ⟨hz, D.nd⟩, room, hf1, hr1, D.led.imp id fun q => by rw [hl1]; exact q⟩
    have hg : ∀ (b : Bool) (s₁ : Shared) (Q' : Unit → Shared → Prop), Q' () s₁ → wpAny (model P w) A (match b with | true => rule "set.scan.the-table-gave-way" | false => pure ()) Q' E s₁ :=
      fun b s₁ Q' q => by cases b <;> first | exact wpAny_pure q | exact wpAny_rule q
    refine wpAny_bind (hg _ _ _ ?_)
    by_cases pl : t1.plain = true
    · rw [if_pos pl]
      refine wpAny_bind ?_
      rw [hashByValue_scannable 8 (x := Value.str z tk) rfl]
      refine wpAny_pure ?_
      refine add_tail ?_ ho hex hd (zs := z :: zs) ?_ ?_
      · exact hg
      · split
        · exact D1
        · exact ⟨D1.good, D1.perm, D1.nd, D1.few, SetTable.fits_plain_off D1.fits, D1.ris, D1.led⟩
      · intro h' sb r
        exact wpAny_pure (hQ h' true sb r)
    · rw [if_neg pl]
      refine wpAny_bind (wpAny_pure ?_)
      rw [if_pos rfl]
      refine add_tail hg ho hex hd D1 fun h' sb r => ?_
      exact wpAny_pure (hQ h' true sb r)
/-! ### sorted -/
theorem SetD.strs {es : Array (Int × Value)} {t : SetTable} (D : SetD P w es t zs) {vs : List Value} (pm : vs.Perm (es.toList.map (·.2))) : StrsAre vs (vs.map PyProof.Rows.strOf) ∧ (vs.map PyProof.Rows.strOf).Perm zs := by
  refine ⟨strsAre_map vs fun v hv => ?_, ?_⟩
  · obtain ⟨e, he, rfl⟩ := List.mem_map.mp (pm.mem_iff.mp hv)
    obtain ⟨z, tk, q, _⟩ := D.good e he
    exact ⟨z, tk, q⟩
  · have q := pm.map PyProof.Rows.strOf
    rw [List.map_map] at q
    exact q.trans D.perm
theorem sortT {Q : Value → Shared → Prop} (R : SetT P w s.heap a zs) (hh : A.handled = none) (h64 : zs.length < 64)
    (hQ : ∀ s' p (out : Array Value) (c : Nat) (ys : List Str), (∀ b o, s.heap.get? b = some o → s'.heap.get? b = some o) → s'.gens = s.gens → s'.os = s.os → s.heap.objs.size ≤ p →
      s'.heap.get? p = some (seqObj "list" out c) → StrsAre out.toList ys → ys.Perm zs → sortedS ys = true → Q (.ref p) s') :
    wpAny (model P w) A (call (.builtin "sorted") [.ref a]) Q E s := by
  obtain ⟨o, es, ep, t, ho, hex, hd, D⟩ := R
  refine Calls.call_function_entry kind_sorted plain_sorted entry_sorted (args_sorted1 _) ?_
  unfold Builtin.«sorted»
  refine wpAny_bind (m := checkCount "sorted" 1 1 _) (wpAny_pure (wpAny_bind (collect_set (A := A.in1) hh ⟨o, ho, hex.1, hd⟩ D.fits (by rw [D.size]; exact D.few) D.ris D.led fun s1 vs k1 hz g1 o1 pm => ?_)))
  obtain ⟨hS, pz⟩ := D.strs pm
  have lv : vs.length < 64 := by
    have q := pz.length_eq
    rw [List.length_map] at q
    omega
  refine wpAny_bind (wpAny_newList ?_ (by rw [sizeLine_eq]; omega))
  have hoL : (s1.heap.push (seqObj "list" vs.toArray 0)).get? s1.heap.objs.size = some (seqObj "list" vs.toArray 0) := Heap.get?_push_size _ rfl
  refine wpAny_bind (wpAny_holding (wpAny_call_entry slot_list_sort ⟨_, hoL, rfl⟩ entry_list_sort
    (list_sort_treeK strKind_oneLt hoL hS.keysOf (fun v₁ v₂ rest e => keyKind_strs (by rw [← e]; exact hS)) lv fun st' a1 a2 => ⟨_, rfl, ?_⟩) (args_list_sort _)))
  obtain ⟨ys, h1, h2, h3⟩ := sorted_out_str hS a1 a2
  obtain ⟨c, hc⟩ := sortedHeap_at (vs := vs) (out := (arrOf st').map (·.2)) hoL
  refine wpAny_pure ⟨_, rfl, hQ _ s1.heap.objs.size _ c ys (fun b u e => ?_) g1 o1 hz hc h1 (h2.trans pz) h3⟩
  have q := k1 b u e
  have lt := Heap.lt_size q
  show (sortedHeap (s1.heap.push (seqObj "list" vs.toArray 0)) s1.heap.objs.size vs ((arrOf st').map (·.2))).get? b = some u
  rw [sortedHeap_old (Nat.ne_of_lt lt) (by rw [size_push']; exact Nat.lt_succ_of_lt lt)]
  exact Heap.get?_push_of_some _ q
end
/-- the set of the texts zs at a -/
def SetTO (P : Program) (w : World) (a : Addr) (zs : List Str) : HO := .ext fun h => SetT P w h a zs
section
variable {X : Cx}
theorem setT_ok {P : Program} {w : World} {H : Hp} {h : Heap} {a : Addr} {zs : List Str} (R : SetT P w h a zs) : ObjOk P w H h a (SetTO P w a zs) :=
  ⟨R, by obtain ⟨o, _, _, _, ho, _⟩ := R; exact ⟨o, ho⟩, fun _ _ p k => SetT.keep p k⟩
theorem setT_at {pins : List (Addr × Obj)} {σ : L2.St} {H : Hp} {s : Shared} {a : Addr} {zs : List Str} (I : Inv X pins σ H s) (ha : H a = some (SetTO X.prog X.w a zs)) : SetT X.prog X.w s.heap a zs := (I.hok a _ ha).1
/-- sorted(set), fewer than 64 texts -/
def rSortT (P : Program) (w : World) : List V → Hp → VK → Prop := fun vs H Q => ∃ (a : Addr) (zs : List Str), vs = [V.ref a] ∧ H a = some (SetTO P w a zs) ∧ zs.length < 64 ∧
  ∀ (ys : List Str) (p : Addr), ys.Perm zs → sortedS ys = true → H p = none → Q (.ref p) (upd H p (.lst (ys.map V.str)))
theorem call_sortedT (hc : X.calm = true) : CallR X (.builtin "sorted") (rSortT X.prog X.w) := by
  intro pins s σ H vs us Q I r h
  obtain ⟨a, zs, rfl, ha, h64, q⟩ := h
  rw [Vals.ref1 r]
  refine sortT (setT_at I ha) (I.ok.hd hc) h64 fun s' p out c ys k g o hp hg hi pm so => ?_
  have len : (ys.map V.str).length ≤ sizeLine := by rw [List.length_map, pm.length_eq, sizeLine_eq]; omega
  have hn : H p = none := I.hok.fresh hp
  have J : Inv X pins σ (upd H p (.lst (ys.map V.str))) { s with heap := s'.heap, gens := s'.gens, drawn := s'.drawn, toks := s'.toks } :=
    I.call (ch := []) (Un.laid k hp hn) (I.hok.laid k hp ⟨len, out.toList, c, vals_of_strs hi, hg⟩) (by rw [g]; exact I.bare) (fun _ z => nomatch z)
  have e : s' = { s with heap := s'.heap, gens := s'.gens, drawn := s'.drawn, toks := s'.toks } := by
    cases s'
    cases s
    cases o
    rfl
  rw [e]
  exact ⟨.ref p, _, J, rfl, q ys p pm so hn⟩
end
end E10
set_option Elab.async false
set_option linter.all false
set_option maxRecDepth 100000
set_option maxHeartbeats 4000000
/-! ### set(x) of texts -/
namespace E10
open L2 PySem PySem.Spec PyProof.Rows
def insAll (acc xs : List Str) : List Str := xs.foldl insT acc
theorem insAll_snoc (acc xs : List Str) (z : Str) : insAll acc (xs ++ [z]) = insT (insAll acc xs) z := by
  unfold insAll
  rw [List.foldl_append]
  rfl
theorem insAll_len (acc : List Str) : ∀ xs : List Str, (insAll acc xs).length ≤ acc.length + xs.length := by
  intro xs
  induction xs generalizing acc with
  | nil => exact Nat.le_refl _
  | cons x r ih =>
    have h1 := ih (insT acc x)
    have h2 := insT_len acc x
    show (insAll (insT acc x) r).length ≤ _
    rw [List.length_cons]
    omega
theorem insAll_mem {acc xs : List Str} {y : Str} : y ∈ insAll acc xs ↔ y ∈ acc ∨ y ∈ xs := by
  induction xs generalizing acc with
  | nil => exact ⟨.inl, fun h => h.elim id (fun q => nomatch q)⟩
  | cons x r ih =>
    show y ∈ insAll (insT acc x) r ↔ _
    rw [ih, insT_mem, List.mem_cons]
    constructor
    · rintro ((h | h) | h)
      · exact .inr (.inl h)
      · exact .inl h
      · exact .inr (.inr h)
    · rintro (h | h | h)
      · exact .inl (.inr h)
      · exact .inl (.inl h)
      · exact .inr h
theorem insAll_nd {acc xs : List Str} (nd : acc.Nodup) : (insAll acc xs).Nodup := by
  induction xs generalizing acc with
  | nil => exact nd
  | cons x r ih => exact ih (insT_nd nd)
/-- the object of set() -/
abbrev newSetO (w : World) : Obj := { cls := .type "set", dict := none, data := .set #[] 0 (.fresh 0 0 (!w.params.followText "set-order")) }
theorem setT_new {P : Program} {w : World} {h : Heap} {a : Addr} (ho : h.get? a = some (newSetO w)) : SetT P w h a [] := by
  refine ⟨_, #[], 0, _, ho, ⟨rfl, rfl, rfl⟩, rfl, ⟨fun e he => by simp at he, .nil, List.nodup_nil, by decide, by rfl, List.Pairwise.nil, ?_⟩⟩
  show _ ∨ (!w.params.followText "set-order") = true
  cases w.params.followText "set-order"
  · exact .inr rfl
  · exact .inl rfl
section
variable {P : Program} {w : World} {A : Around} {E : Value → Shared → Prop} {s : Shared}
theorem loopT {I : Addr} {fp wr : List Addr} {G : Array GenState → Array GenState → Prop} {n : Nat} {Pv : Nat → Value → Prop} {St : Nat → Shared → Prop} {R : Result → Shared → Prop}
    (W : WalksS P w A.in1 I fp wr G n Pv St) (S : Addr) (hSf : S ∉ fp) (acc xs : List Str) (hn : n = xs.length) (room : acc.length + xs.length + 1 < scanBound) (val : ∀ i v, Pv i v → ∃ z t, xs[i]? = some z ∧ v = .str z t) :
    ∀ (k i : Nat) (s : Shared), n - i = k → i ≤ n → St i s → SetT P w s.heap S (insAll acc (xs.take i)) →
      (∀ s', Moved (S :: wr) G s s' → SetT P w s'.heap S (insAll acc xs) → R (.ok (.ret .none)) s') →
      codeAny (model P w) A (.builtin "set.update.loop" ⟨[.ref S, .ref I], []⟩) R s := by
  have hSw : S ∉ wr := fun h => hSf (W.sub _ h)
  have more : ∀ b ∈ wr, b ∈ S :: wr := fun b hb => List.mem_cons_of_mem _ hb
  intro k
  induction k with
  | zero =>
    intro i s hk hi hst hS hR
    obtain rfl : i = n := by omega
    refine codeAny_builtin F.entry_set_update_loop ?_
    rw [Around.under_plainId F.plain_set_update_loop _]
    refine wpAny_bind (W.done s _ _ hst fun s' hm => ?_)
    rw [List.take_of_length_le (by omega)] at hS
    exact wpAny_pure (hR s' (hm.mono more) (hS.keep fun o e => hm.heap S o hSw e))
  | succ k ih =>
    intro i s hk hi hst hS hR
    have lt : i < n := by omega
    refine codeAny_builtin F.entry_set_update_loop ?_
    rw [Around.under_plainId F.plain_set_update_loop _]
    refine wpAny_bind (W.item i s _ _ lt hst fun v s' hP hst' hm => ?_)
    obtain ⟨z, t, hz, rfl⟩ := val i v hP
    have hS2 : SetT P w s'.heap S (insAll acc (xs.take i)) := hS.keep fun o e => hm.heap S o hSw e
    have l1 := insAll_len acc (xs.take i)
    have l2 : (xs.take i).length ≤ xs.length := by rw [List.length_take]; exact Nat.min_le_right _ _
    show wpAny _ A.in1 (holding [Value.str z t] (setAdd S (.str z t)) >>= _) _ _ s'
    refine wpAny_bind (wpAny_holding ?_)
    unfold setAdd
    refine wpAny_holding (wpAny_bind ((PySem.strKind P w).pyHash (k := z) (strKind_is _ _ _ _) ?_))
    refine addT (s := { s' with toks := s'.toks + 1 }) hS2 (by omega) fun h' b sb hS3 => ?_
    have e1 : insT (insAll acc (xs.take i)) z = insAll acc (xs.take (i + 1)) := by rw [List.take_add_one, hz]; exact (insAll_snoc _ _ _).symm
    rw [e1] at hS3
    refine wpAny_pure ⟨plainId_quiet F.plain_set_update_loop _, ih (i + 1) _ (by omega) lt (W.frame _ s' _ _ hst' (Nat.le_succ _) fun b hb o e => ?_) hS3 fun s2 hm2 hS4 => ?_⟩
    · rw [sb.2 b (fun h : b = S => hSf (h ▸ hb))]
      exact e
    · refine hR s2 (Moved.trans W.gtrans ((hm.mono more).then_heap (Nat.le_succ _) fun b o hb e => ?_) hm2) hS4
      rw [sb.2 b (fun h : b = S => hb (h ▸ List.mem_cons_self))]
      exact e
/-- set(v), by what its filling does -/
theorem call_setG {v : Value} {zs : List Str} {Q : Value → Shared → Prop} (hh : A.handled = none)
    (fill : ∀ (B : Around) (F : Value → Shared → Prop) (R : Unit → Shared → Prop), B.handled = none → (∀ (h' : Heap) (tk : Nat), SetT P w h' s.heap.objs.size zs → (∀ b o, s.heap.get? b = some o → h'.get? b = some o) → R () { s with heap := h', toks := tk }) →
      wpAny (model P w) B (Builtin.Frozenset.updateFrom "set.__init__" s.heap.objs.size v) R F { s with heap := s.heap.push (newSetO w) })
    (h : ∀ (h' : Heap) (tk : Nat), SetT P w h' s.heap.objs.size zs → (∀ b o, s.heap.get? b = some o → h'.get? b = some o) → Q (.ref s.heap.objs.size) { s with heap := h', toks := tk }) :
    wpAny (model P w) A (call (.type "set") [v]) Q E s := by
  obtain ⟨c, tl, hmro⟩ := F.called_set.mro
  have hmade := F.called_set.made
  have hsub := F.called_set.sub
  refine wpAny_call (codeAny_of_tree ?_)
  show wpAny _ _ (callAny (.type "set") _) _ _ _
  refine wpAny_pure ⟨Code.quiet_builtin _ (by decide +kernel), codeAny_builtin F.entry_type_call ?_⟩
  rw [Around.under_plain (weight_type_call_type "set" [v] []) rfl]
  have h1 := F.called_set.notType
  have h2 := F.called_set.canCreate
  have hct := F.typeCall_set_1 v
  repeat (any_goals (first | assumption | wp_step))
  refine codeAny_mono (code_set_led1 v (E := E) (Q₁ := fun obj s₁ => obj = .ref s.heap.objs.size ∧ s₁ = { s with heap := s.heap.push (newSetO w) }) ⟨rfl, rfl⟩) fun r s₁ hr => ?_
  match r, hr with
  | .error e, hr => exact hr
  | .ok .next, hr => exact hr.elim
  | .ok .brk, hr => exact hr.elim
  | .ok .cont, hr => exact hr.elim
  | .ok (.ret obj), hr =>
    obtain ⟨rfl, rfl⟩ := hr
    have hS : (s.heap.push (newSetO w)).get? s.heap.objs.size = some (newSetO w) := Heap.get?_push_size _ rfl
    have hT : Shared.TypeIs { s with heap := s.heap.push (newSetO w) } (.ref s.heap.objs.size) "set" := ⟨_, hS, rfl⟩
    have hli := F.called_set.init.lookup
    have hbi := F.called_set.init.bind (.ref s.heap.objs.size)
    repeat (any_goals (first | assumption | wp_step))
    refine codeAny_mono (codeAny_call_builtin (R := wants (fun r s₂ => r = .none ∧ ∃ h' tk, s₂ = { s with heap := h', toks := tk } ∧ SetT P w h' s.heap.objs.size zs ∧
        (∀ b o, s.heap.get? b = some o → h'.get? b = some o)) E) F.called_set.init.plain F.entry_set_init (check_set_init_1 hT ?_)) fun r₂ s₂ hr₂ => ?_
    · unfold Builtin.«set.__init__» noKeywords
      generalize hU : Builtin.Frozenset.updateFrom = U
      wp_walk
      subst hU
      refine fill _ _ _ (by simp [hh]) fun h' tk q1 q2 => ?_
      show wpAny _ _ (ret Value.none) _ _ _
      exact wpAny_pure ⟨rfl, h', tk, rfl, q1, q2⟩
    · match r₂, hr₂ with
      | .error e, hr₂ => exact hr₂
      | .ok .next, hr₂ => exact hr₂.elim
      | .ok .brk, hr₂ => exact hr₂.elim
      | .ok .cont, hr₂ => exact hr₂.elim
      | .ok (.ret r), hr₂ =>
        obtain ⟨rfl, h', tk, rfl, q1, q2⟩ := hr₂
        repeat (any_goals (first | assumption | wp_step))
        exact h _ _ q1 q2
end
end E10
set_option Elab.async false
set_option linter.all false
set_option maxRecDepth 100000
set_option maxHeartbeats 4000000
namespace E10
open L2 PySem PySem.Spec PyProof.Rows
section
variable {P : Program} {w : World} {A : Around} {E : Value → Shared → Prop} {s : Shared}
theorem fill_list {l : Addr} {its : Array Value} {xs : List Str} (hl : s.heap.IsList l its) (hi : StrsAre its.toList xs) (room : xs.length + 1 < scanBound) (B : Around) (G : Value → Shared → Prop) (R : Unit → Shared → Prop) (hh : B.handled = none)
    (h : ∀ (h' : Heap) (tk : Nat), SetT P w h' s.heap.objs.size (insAll [] xs) → (∀ b o, s.heap.get? b = some o → h'.get? b = some o) → R () { s with heap := h', toks := tk }) :
    wpAny (model P w) B (Builtin.Frozenset.updateFrom "set.__init__" s.heap.objs.size (.ref l)) R G { s with heap := s.heap.push (newSetO w) } := by
  have isz : its.size = xs.length := by
    have q := StrsAre.length hi
    rwa [Array.length_toList] at q
  obtain ⟨ol, hol, hcl, nl, hdl⟩ := hl
  obtain ⟨ocls, odict, odata, oslots⟩ := ol
  simp only at hcl hdl
  subst hcl
  subst hdl
  have hol' : (s.heap.push (newSetO w)).get? l = some { cls := .type "list", dict := odict, data := .seq its nl, slots := oslots } := Heap.get?_push_of_some _ hol
  have hsls := F.sub_list_set
  have hslf := F.sub_list_frozenset
  have hne : (Value.type "list" == Value.type "dict") = false := by decide
  have hl1 : (s.heap.push (newSetO w)).IsList l its := ⟨_, hol', rfl, nl, rfl⟩
  unfold Builtin.Frozenset.updateFrom
  generalize hPI : pyIter = PI
  wp_walk
  subst hPI
  refine wpAny_pyIter_list hl1 ?_
  refine wpAny_bind (wpAny_runValue ?_)
  have ls : l < s.heap.objs.size := Heap.lt_size hol
  have hh1 : B.in1.handled = none := by simp [hh]
  have zI : (s.heap.push (newSetO w)).objs.size = s.heap.objs.size + 1 := Heap.size_push ..
  have lI : l ≠ (s.heap.push (newSetO w)).objs.size := by rw [zI]; exact Nat.ne_of_lt (Nat.lt_succ_of_lt ls)
  have sf : s.heap.objs.size ∉ [(s.heap.push (newSetO w)).objs.size, l] := by
    rw [zI]
    simp only [List.mem_cons, List.not_mem_nil, or_false, not_or]
    exact ⟨Nat.ne_of_lt (Nat.lt_succ_self _), Nat.ne_of_gt ls⟩
  refine loopT ((Walks.list hh1 _ l lI its).toS) s.heap.objs.size sf [] xs isz (by simpa using room) (fun i v hv => ?_) (its.size - 0) 0 _ (by omega) (Nat.zero_le _)
    ⟨⟨_, Heap.get?_push_size _ rfl, rfl, rfl⟩, hl1.push _⟩ ?_ fun s' hm hS => ?_
  · obtain ⟨y, t, e1, e2⟩ := StrsAre.item hi i v (by rw [Array.getElem?_toList]; exact hv)
    exact ⟨y, t, e2, e1⟩
  · exact setT_new (Heap.get?_push_of_some _ (Heap.get?_push_size _ rfl))
  · obtain ⟨h', g2, d', tk', os'⟩ := s'
    have eg : g2 = s.gens := hm.gens
    have ed : d' = s.drawn := hm.drawn
    have eo : os' = s.os := hm.os
    subst eg
    subst ed
    subst eo
    show wpAny _ _ _ _ _ _
    refine wpAny_pure (h h' tk' hS fun b o e => ?_)
    have lb := Heap.lt_size e
    refine hm.heap b o ?_ (Heap.get?_push_of_some _ (Heap.get?_push_of_some _ e))
    simp only [List.mem_cons, List.not_mem_nil, or_false, not_or]
    rw [zI]
    exact ⟨Nat.ne_of_lt lb, Nat.ne_of_lt (Nat.lt_succ_of_lt lb)⟩
theorem fill_tup {l : Addr} {its : Array Value} {xs : List Str} (hl : s.heap.IsTuple l its) (hi : StrsAre its.toList xs) (room : xs.length + 1 < scanBound) (B : Around) (G : Value → Shared → Prop) (R : Unit → Shared → Prop) (hh : B.handled = none)
    (h : ∀ (h' : Heap) (tk : Nat), SetT P w h' s.heap.objs.size (insAll [] xs) → (∀ b o, s.heap.get? b = some o → h'.get? b = some o) → R () { s with heap := h', toks := tk }) :
    wpAny (model P w) B (Builtin.Frozenset.updateFrom "set.__init__" s.heap.objs.size (.ref l)) R G { s with heap := s.heap.push (newSetO w) } := by
  have isz : its.size = xs.length := by
    have q := StrsAre.length hi
    rwa [Array.length_toList] at q
  obtain ⟨ol, hol, hcl, nl, hdl⟩ := hl
  obtain ⟨ocls, odict, odata, oslots⟩ := ol
  simp only at hcl hdl
  subst hcl
  subst hdl
  have hol' : (s.heap.push (newSetO w)).get? l = some { cls := .type "tuple", dict := odict, data := .seq its nl, slots := oslots } := Heap.get?_push_of_some _ hol
  have hsls := F.sub_tuple_set
  have hslf := F.sub_tuple_frozenset
  have hne : (Value.type "tuple" == Value.type "dict") = false := by decide
  have hl1 : (s.heap.push (newSetO w)).IsTuple l its := ⟨_, hol', rfl, nl, rfl⟩
  unfold Builtin.Frozenset.updateFrom
  generalize hPI : pyIter = PI
  wp_walk
  subst hPI
  refine wpAny_pyIter_tuple hl1 ?_
  refine wpAny_bind (wpAny_runValue ?_)
  have ls : l < s.heap.objs.size := Heap.lt_size hol
  have hh1 : B.in1.handled = none := by simp [hh]
  have zI : (s.heap.push (newSetO w)).objs.size = s.heap.objs.size + 1 := Heap.size_push ..
  have lI : l ≠ (s.heap.push (newSetO w)).objs.size := by rw [zI]; exact Nat.ne_of_lt (Nat.lt_succ_of_lt ls)
  have sf : s.heap.objs.size ∉ [(s.heap.push (newSetO w)).objs.size, l] := by
    rw [zI]
    simp only [List.mem_cons, List.not_mem_nil, or_false, not_or]
    exact ⟨Nat.ne_of_lt (Nat.lt_succ_self _), Nat.ne_of_gt ls⟩
  refine loopT ((Walks.tuple hh1 _ l lI its).toS) s.heap.objs.size sf [] xs isz (by simpa using room) (fun i v hv => ?_) (its.size - 0) 0 _ (by omega) (Nat.zero_le _)
    ⟨⟨_, Heap.get?_push_size _ rfl, rfl, rfl⟩, hl1.push _⟩ ?_ fun s' hm hS => ?_
  · obtain ⟨y, t, e1, e2⟩ := StrsAre.item hi i v (by rw [Array.getElem?_toList]; exact hv)
    exact ⟨y, t, e2, e1⟩
  · exact setT_new (Heap.get?_push_of_some _ (Heap.get?_push_size _ rfl))
  · obtain ⟨h', g2, d', tk', os'⟩ := s'
    have eg : g2 = s.gens := hm.gens
    have ed : d' = s.drawn := hm.drawn
    have eo : os' = s.os := hm.os
    subst eg
    subst ed
    subst eo
    show wpAny _ _ _ _ _ _
    refine wpAny_pure (h h' tk' hS fun b o e => ?_)
    have lb := Heap.lt_size e
    refine hm.heap b o ?_ (Heap.get?_push_of_some _ (Heap.get?_push_of_some _ e))
    simp only [List.mem_cons, List.not_mem_nil, or_false, not_or]
    rw [zI]
    exact ⟨Nat.ne_of_lt lb, Nat.ne_of_lt (Nat.lt_succ_of_lt lb)⟩
end
end E10
set_option Elab.async false
set_option linter.all false
set_option maxRecDepth 100000
set_option maxHeartbeats 4000000
/-! ### a set's table laid anew: every text finds a slot -/
namespace E10
open L2 PySem PySem.Spec PyProof.Rows
/-- the slots one behind the other once the hash's high part is used up -/
def hop (m : Nat) : Nat → Nat → Nat
  | 0, i => i
  | n + 1, i => hop m n ((i * 5 + 1) % (m + 1))
def meets (m i : Nat) : Nat → Nat → Bool
  | 0, _ => false
  | n + 1, j => j == i || meets m i n ((j * 5 + 1) % (m + 1))
theorem meets_hop {m i : Nat} : ∀ {n j : Nat}, meets m i n j = true → ∃ k, k < n ∧ hop m k j = i
  | 0, _, h => nomatch h
  | n + 1, j, h => by
    rw [show meets m i (n + 1) j = (j == i || meets m i n ((j * 5 + 1) % (m + 1))) from rfl, Bool.or_eq_true] at h
    rcases h with h | h
    · exact ⟨0, Nat.succ_pos _, eq_of_beq h⟩
    · obtain ⟨k, lt, e⟩ := meets_hop h
      exact ⟨k + 1, Nat.succ_lt_succ lt, e⟩
def Mask (m : Nat) : Prop := m = 7 ∨ m = 15 ∨ m = 31 ∨ m = 63
theorem meets_all {m : Nat} (h : Mask m) : ∀ i, i ≤ m → ∀ j, j ≤ m → meets m i (m + 1) j = true := by
  have k : ∀ m, ((List.range (m + 1)).all fun i => (List.range (m + 1)).all fun j => meets m i (m + 1) j) = true → ∀ i, i ≤ m → ∀ j, j ≤ m → meets m i (m + 1) j = true := fun m h i hi j hj =>
    List.all_eq_true.mp (List.all_eq_true.mp h i (List.mem_range.mpr (by omega))) j (List.mem_range.mpr (by omega))
  rcases h with rfl | rfl | rfl | rfl
  · exact k 7 (by decide +kernel)
  · exact k 15 (by decide +kernel)
  · exact k 31 (by decide +kernel)
  · exact k 63 (by decide +kernel)
/-- after n leaps -/
def leaps (m : Nat) : Nat → Nat → Nat → Nat × Nat
  | 0, i, p => (i, p)
  | n + 1, i, p => leaps m n (SetTable.leap m i p).1 (SetTable.leap m i p).2
theorem leaps_snd (m : Nat) : ∀ (n i p : Nat), (leaps m n i p).2 = p / 32 ^ n
  | 0, i, p => by simp [leaps]
  | n + 1, i, p => by
    rw [show leaps m (n + 1) i p = leaps m n (SetTable.leap m i p).1 (SetTable.leap m i p).2 from rfl, leaps_snd m n]
    show p / 32 / 32 ^ n = _
    rw [Nat.div_div_eq_div_mul, Nat.pow_succ, Nat.mul_comm]
theorem leaps_fst {m : Nat} : ∀ {n i p : Nat}, i ≤ m → (leaps m n i p).1 ≤ m
  | 0, i, p, h => h
  | n + 1, i, p, h => leaps_fst (n := n) (by
    show (i * 5 + 1 + p / 32) % (m + 1) ≤ m
    exact Nat.le_of_lt_succ (Nat.mod_lt _ (Nat.succ_pos m)))
theorem run_from (m i : Nat) : i ≤ SetTable.runEnd m i := by
  unfold SetTable.runEnd
  split <;> omega
section
variable {m : Nat} {owner : Array (Option Nat)}
abbrev freeS (m : Nat) (owner : Array (Option Nat)) := SetTable.layClean.free m owner
theorem free_step {f i p : Nat} (h : freeS m owner (f + 1) i p = none) : (owner.getD i (some 0)).isNone = false ∧ freeS m owner f (SetTable.leap m i p).1 (SetTable.leap m i p).2 = none := by
  unfold freeS SetTable.layClean.free at h
  split at h
  · cases h
  · rename_i e
    refine ⟨?_, h⟩
    have q := List.find?_eq_none.mp e 0 (List.mem_range.mpr (by have := run_from m i; omega))
    exact Bool.eq_false_iff.mpr (by simpa only [Nat.add_zero] using q)
theorem free_skip : ∀ {n f i p : Nat}, freeS m owner (n + f) i p = none → freeS m owner f (leaps m n i p).1 (leaps m n i p).2 = none
  | 0, f, i, p, h => by rw [Nat.zero_add] at h; exact h
  | n + 1, f, i, p, h => by
    rw [show n + 1 + f = (n + f) + 1 by omega] at h
    exact free_skip (n := n) (free_step h).2
theorem free_hops : ∀ {f i : Nat}, freeS m owner f i 0 = none → ∀ k, k < f → (owner.getD (hop m k i) (some 0)).isNone = false
  | 0, _, _, k, lt => absurd lt (Nat.not_lt_zero k)
  | f + 1, i, h, 0, _ => (free_step h).1
  | f + 1, i, h, k + 1, lt => by
    have q := (free_step h).2
    have e : SetTable.leap m i 0 = ((i * 5 + 1) % (m + 1), 0) := by
      unfold SetTable.leap
      simp
    rw [e] at q
    exact free_hops q k (Nat.lt_of_succ_lt_succ lt)
theorem free_some (hm : Mask m) {i p j : Nat} (hi : i ≤ m) (hp : p < 2 ^ 64) (hj : j ≤ m) (fr : (owner.getD j (some 0)).isNone = true) : ∃ k, freeS m owner (SetTable.turns m) i p = some k := by
  cases e : freeS m owner (SetTable.turns m) i p with
  | some k => exact ⟨k, rfl⟩
  | none =>
    rw [show SetTable.turns m = 13 + (m + 2) by unfold SetTable.turns; omega] at e
    have q := free_skip e
    rw [leaps_snd, show p / 32 ^ 13 = 0 from Nat.div_eq_of_lt (Nat.lt_of_lt_of_le hp (by decide))] at q
    obtain ⟨k, lt, ek⟩ := meets_hop (meets_all hm j hj _ (leaps_fst (n := 13) (p := p) hi))
    have z := free_hops q k (by omega)
    rw [ek, fr] at z
    cases z
theorem free_at : ∀ {f i p k : Nat}, freeS m owner f i p = some k → (owner.getD k (some 0)).isNone = true
  | 0, _, _, _, h => nomatch h
  | f + 1, i, p, k, h => by
    unfold freeS SetTable.layClean.free at h
    split at h
    · rename_i c e
      obtain rfl := Option.some.inj h
      exact List.find?_some (p := fun k => (owner.getD (i + k) (some 0)).isNone) e
    · exact free_at h
end
/-! ### laying all -/
theorem fm_congr {α β : Type} {f g : α → Option β} : ∀ {l : List α}, (∀ x ∈ l, g x = f x) → l.filterMap g = l.filterMap f
  | [], _ => rfl
  | x :: l, h => by
    have ih := fm_congr fun y hy => h y (.tail _ hy)
    have e := h x (.head _)
    cases c : f x with
    | none => rw [List.filterMap_cons_none c, List.filterMap_cons_none (e.trans c), ih]
    | some y => rw [List.filterMap_cons_some c, List.filterMap_cons_some (e.trans c), ih]
theorem fm_one {α β : Type} [DecidableEq α] {f g : α → Option β} {j : α} {b : β} : ∀ {l : List α}, l.Nodup → j ∈ l → f j = none → g j = some b → (∀ x, x ≠ j → g x = f x) → (l.filterMap g).Perm (b :: l.filterMap f)
  | [], _, h, _, _, _ => nomatch h
  | x :: l, nd, h, fj, gj, e => by
    obtain ⟨nx, nl⟩ := List.nodup_cons.mp nd
    by_cases q : x = j
    · subst q
      rw [List.filterMap_cons_some gj, List.filterMap_cons_none fj]
      have : l.filterMap g = l.filterMap f := fm_congr fun y hy => e y fun z => nx (z ▸ hy)
      rw [this]
    · have hl : j ∈ l := (List.mem_cons.mp h).resolve_left fun z => q z.symm
      have ih := fm_one nl hl fj gj e
      cases c : f x with
      | none =>
        rw [List.filterMap_cons_none (by rw [e x q]; exact c), List.filterMap_cons_none c]
        exact ih
      | some y =>
        rw [List.filterMap_cons_some (by rw [e x q]; exact c), List.filterMap_cons_some c]
        exact (List.Perm.cons y ih).trans (List.Perm.swap _ _ _)
theorem fm_len {α β : Type} {f : α → Option β} : ∀ {l : List α}, (∀ x ∈ l, (f x).isSome = true) → (l.filterMap f).length = l.length
  | [], _ => rfl
  | x :: l, h => by
    obtain ⟨y, e⟩ := Option.isSome_iff_exists.mp (h x (.head _))
    rw [List.filterMap_cons_some e, List.length_cons, List.length_cons, fm_len fun z hz => h z (.tail _ hz)]
/-- what is laid after k texts -/
structure Laid (m k : Nat) (owner : Array (Option Nat)) : Prop where
  sz : owner.size = m + 1
  pm : ((List.range (m + 1)).filterMap fun j => owner.getD j none).Perm (List.range k)
theorem Laid.zero (m : Nat) : Laid m 0 (Array.replicate (m + 1) none) := by
  refine ⟨Array.size_replicate, ?_⟩
  have : ((List.range (m + 1)).filterMap fun j => (Array.replicate (m + 1) (none : Option Nat)).getD j none) = [] := by
    refine List.filterMap_eq_nil_iff.mpr fun j hj => ?_
    simp [Array.getD_eq_getD_getElem?, Array.getElem?_replicate]
    split <;> rfl
  rw [this]
  exact .nil
theorem Laid.room {m k : Nat} {owner : Array (Option Nat)} (h : Laid m k owner) (lt : k < m + 1) : ∃ j, j ≤ m ∧ (owner.getD j (some 0)).isNone = true := by
  refine Classical.byContradiction fun no => ?_
  have all : ∀ j ∈ List.range (m + 1), (owner.getD j none).isSome = true := fun j hj => by
    have jl : j < m + 1 := List.mem_range.mp hj
    cases c : owner.getD j none with
    | some y => rfl
    | none =>
      refine (no ⟨j, by omega, ?_⟩).elim
      have js : j < owner.size := by rw [h.sz]; exact jl
      simp [Array.getD_eq_getD_getElem?, Array.getElem?_eq_getElem js] at c ⊢
      exact c
  have q := fm_len all
  rw [h.pm.length_eq, List.length_range, List.length_range] at q
  omega
theorem Laid.next {m k j : Nat} {owner : Array (Option Nat)} (h : Laid m k owner) (fr : (owner.getD j (some 0)).isNone = true) : Laid m (k + 1) (owner.setIfInBounds j (some k)) := by
  have js : j < owner.size := by
    refine Classical.byContradiction fun no => ?_
    simp [Array.getD_eq_getD_getElem?, Array.getElem?_eq_none (Nat.le_of_not_lt no)] at fr
  have fj : owner.getD j none = none := by
    simp [Array.getD_eq_getD_getElem?, Array.getElem?_eq_getElem js] at fr ⊢
    exact fr
  refine ⟨by rw [Array.size_setIfInBounds]; exact h.sz, ?_⟩
  refine (fm_one (f := fun x => owner.getD x none) (g := fun x => (owner.setIfInBounds j (some k)).getD x none) (j := j) (b := k) List.nodup_range (List.mem_range.mpr (by rw [← h.sz]; exact js)) fj ?_ fun x nx => ?_).trans ?_
  · simp [Array.getD_eq_getD_getElem?, Array.getElem?_setIfInBounds, js]
  · simp [Array.getD_eq_getD_getElem?, Array.getElem?_setIfInBounds, Ne.symm nx]
  · rw [show List.range (k + 1) = List.range k ++ [k] from List.range_succ]
    exact (List.Perm.cons k h.pm).trans (List.perm_append_singleton _ _).symm
end E10
set_option Elab.async false
set_option linter.all false
set_option maxRecDepth 100000
set_option maxHeartbeats 4000000
namespace E10
open L2 PySem PySem.Spec PyProof.Rows
theorem bits_lt (h : Int) : SetTable.bits h < 2 ^ 64 := by
  unfold SetTable.bits
  have a := Int.emod_nonneg h (b := (2 ^ 64 : Int)) (by decide)
  have b := Int.emod_lt_of_pos h (b := (2 ^ 64 : Int)) (by decide)
  omega
/-- one more text -/
def lay1 (m : Nat) (acc : Option (Array (Option Nat) × Nat)) (h : Int) : Option (Array (Option Nat) × Nat) := do
  let (owner, k) ← acc
  let j ← SetTable.layClean.free m owner (SetTable.turns m) (SetTable.bits h % (m + 1)) (SetTable.bits h)
  pure (owner.setIfInBounds j (some k), k + 1)
theorem lay_all {m : Nat} (hm : Mask m) : ∀ (hs : List Int) (k : Nat) (owner : Array (Option Nat)), Laid m k owner → k + hs.length ≤ m + 1 → ∃ owner', hs.foldl (lay1 m) (some (owner, k)) = some (owner', k + hs.length) ∧ Laid m (k + hs.length) owner'
  | [], k, owner, L, _ => ⟨owner, rfl, L⟩
  | h :: hs, k, owner, L, le => by
    rw [List.length_cons] at le
    obtain ⟨j0, j0m, fr⟩ := L.room (by omega)
    obtain ⟨j, ej⟩ := free_some hm (i := SetTable.bits h % (m + 1)) (Nat.le_of_lt_succ (Nat.mod_lt _ (Nat.succ_pos m))) (bits_lt h) j0m fr
    have L1 := L.next (free_at ej)
    obtain ⟨owner', e, L2⟩ := lay_all hm hs (k + 1) _ L1 (by omega)
    refine ⟨owner', ?_, ?_⟩
    · rw [List.foldl_cons, show lay1 m (some (owner, k)) h = some (owner.setIfInBounds j (some k), k + 1) by
        unfold lay1
        simp only [Option.bind_eq_bind, Option.bind_some]
        rw [show SetTable.layClean.free m owner (SetTable.turns m) (SetTable.bits h % (m + 1)) (SetTable.bits h) = some j from ej]
        rfl, e, List.length_cons]
      congr 2
      omega
    · rw [List.length_cons, show k + (hs.length + 1) = k + 1 + hs.length by omega]
      exact L2
theorem layClean_ok {m : Nat} (hm : Mask m) {hs : Array Int} (le : hs.size ≤ m + 1) : ∃ owner, SetTable.layClean m hs = some owner ∧ Laid m hs.size owner := by
  obtain ⟨owner, e, L⟩ := lay_all hm hs.toList 0 _ (Laid.zero m) (by simpa using le)
  rw [Array.length_toList, Nat.zero_add] at e L
  refine ⟨owner, ?_, L⟩
  unfold SetTable.layClean
  rw [← Array.foldl_toList]
  exact congrArg (fun z => Option.map (·.1) z) e
/-- what is laid anew -/
structure LaidAs (m finger moves n : Nat) (led plain : Bool) (t : SetTable) (order : Array Nat) : Prop where
  pm : order.toList.Perm (List.range n)
  mask : t.mask = m
  pl : t.place.size = n
  du : t.dummies = #[]
  led : t.led = led
  ris : Ris t.place.toList
theorem laid_ok {m finger moves : Nat} {led plain : Bool} (hm : Mask m) {hs : Array Int} (le : hs.size ≤ m + 1) : ∃ t order, SetTable.laid m finger moves led plain hs = some (t, order) ∧ LaidAs m finger moves hs.size led plain t order := by
  obtain ⟨owner, e, L⟩ := layClean_ok hm le
  unfold SetTable.laid
  rw [e]
  refine ⟨_, _, rfl, ?_⟩
  have ord : (((List.range (m + 1)).filterMap fun j => (owner.getD j none).map (j, ·)).map (·.2)) = (List.range (m + 1)).filterMap fun j => owner.getD j none := by
    rw [List.map_filterMap]
    refine fm_congr fun x _ => ?_
    cases owner.getD x none <;> rfl
  have len : ((List.range (m + 1)).filterMap fun j => (owner.getD j none).map (j, ·)).length = hs.size := by
    have q := congrArg List.length ord
    rw [List.length_map] at q
    rw [q, L.pm.length_eq, List.length_range]
  refine ⟨?_, rfl, ?_, rfl, rfl, ?_⟩
  · show (((List.range (m + 1)).filterMap fun j => (owner.getD j none).map (j, ·)).map (·.2)).toArray.toList.Perm _
    rw [List.toList_toArray, ord]
    exact L.pm
  · show ((((List.range (m + 1)).filterMap fun j => (owner.getD j none).map (j, ·)).map (·.1)).toArray).size = _
    rw [List.size_toArray, List.length_map, len]
  · show Ris ((((List.range (m + 1)).filterMap fun j => (owner.getD j none).map (j, ·)).map (·.1)).toArray).toList
    rw [List.toList_toArray]
    have sub : ((((List.range (m + 1)).filterMap fun j => (owner.getD j none).map (j, ·)).map (·.1))).Sublist (List.range (m + 1)) := by
      generalize List.range (m + 1) = l
      induction l with
      | nil => exact .slnil
      | cons x r ih =>
        cases c : owner.getD x none with
        | none =>
          rw [List.filterMap_cons_none (by rw [c]; rfl)]
          exact .cons _ ih
        | some y =>
          rw [List.filterMap_cons_some (b := (x, y)) (by rw [c]; rfl), List.map_cons]
          exact .cons₂ _ ih
    exact List.Pairwise.sublist sub List.pairwise_lt_range
end E10
set_option Elab.async false
set_option linter.all false
set_option maxRecDepth 100000
set_option maxHeartbeats 4000000
/-! ### sets of texts: more room, a copy -/
namespace E10
open L2 PySem PySem.Spec PyProof.Rows
theorem wide {n : Nat} (h : n < 64) : Mask (SetTable.sizeAbove n - 1) ∧ n ≤ SetTable.sizeAbove n - 1 ∧ SetTable.sizeAbove n ≤ sizeLine := by
  have k : ((List.range 64).all fun n => (decide (SetTable.sizeAbove n - 1 = 7) || (decide (SetTable.sizeAbove n - 1 = 15) || (decide (SetTable.sizeAbove n - 1 = 31) || decide (SetTable.sizeAbove n - 1 = 63)))) && (decide (n ≤ SetTable.sizeAbove n - 1) && decide (SetTable.sizeAbove n ≤ sizeLine))) = true := by decide +kernel
  have q := List.all_eq_true.mp k n (List.mem_range.mpr h)
  rw [Bool.and_eq_true, Bool.and_eq_true, Bool.or_eq_true, Bool.or_eq_true, Bool.or_eq_true, decide_eq_true_eq, decide_eq_true_eq, decide_eq_true_eq, decide_eq_true_eq, decide_eq_true_eq, decide_eq_true_eq] at q
  exact ⟨q.1, q.2.1, q.2.2⟩
section
variable {P : Program} {w : World} {A : Around} {E : Value → Shared → Prop} {s : Shared} {a : Addr} {zs : List Str}
theorem order_perm {es : Array (Int × Value)} {order : Array Nat} (pm : order.toList.Perm (List.range es.size)) : (order.filterMap (es[·]?)).toList.Perm es.toList := by
  rw [Array.toList_filterMap]
  exact (pm.filterMap _).trans (by rw [filterMap_getElem?_range])
/-- a set of texts laid anew, in a table of the given width -/
theorem relayT {wanted : Nat} {o : Obj} {es : Array (Int × Value)} {ep : Nat} {t : SetTable} {Q : Unit → Shared → Prop} (ho : s.heap.get? a = some o) (hex : o.ExactSet) (hd : o.data = .set es ep t) (D : SetD P w es t zs)
    (hw : wanted < 64) (le : zs.length ≤ wanted)
    (hQ : ∀ h' es' ep' t', Heap.SameBut a s.heap h' → h'.get? a = some { o with data := .set es' ep' t' } → SetD P w es' t' zs → t'.mask = SetTable.sizeAbove wanted - 1 → t'.dummies = #[] → Q () { s with heap := h' }) :
    wpAny (model P w) A (setRelay a wanted) Q E s := by
  obtain ⟨hm, hn, hl⟩ := wide hw
  have few : es.size < scanBound := by rw [D.size]; exact D.few
  unfold setRelay
  refine wpAny_bind (wpAny_setState_of ho hd D.fits ?_)
  dsimp only
  rw [if_neg (Nat.not_lt.mpr hl)]
  obtain ⟨t', order, e, L⟩ := laid_ok (finger := t.finger) (moves := t.movedTo (SetTable.sizeAbove wanted - 1)) (led := t.led) (plain := t.plain) hm (hs := es.map (·.1)) (by rw [Array.size_map, D.size]; omega)
  rw [show t.relaid (es.map (·.1)) wanted = some (t', order) from e]
  rw [Array.size_map] at L
  have pm := order_perm L.pm
  have sz : (order.filterMap (es[·]?)).size = es.size := by rw [← Array.length_toList, pm.length_eq, Array.length_toList]
  have D2 : SetD P w (order.filterMap (es[·]?)) t' zs := by
    refine ⟨fun e he => D.good e (pm.mem_iff.mp he), (pm.map txtOf).trans D.perm, D.nd, D.few, ?_, L.ris, D.led.imp id fun z => by rw [L.led]; exact z⟩
    unfold SetTable.fits SetTable.fill
    rw [sz, L.pl, L.du, L.mask, beq_self_eq_true, Bool.true_and]
    refine decide_eq_true ?_
    rw [D.size]
    simp
    omega
  have red : ∀ {R : Array (Int × Value) × SetTable → Shared → Prop}, R (order.filterMap (es[·]?), t') s → wpAny (model P w) A (do
      let es' := order.filterMap (es[·]?)
      if (es'.size != es.size) = true then (unsupported "internal:set-table-lost-an-element" : Sem Unit)
      pure (es', t')) R E s := fun {R} q => by
    dsimp only
    rw [sz, bne_self_eq_false]
    exact wpAny_bind (wpAny_pure (wpAny_pure q))
  refine wpAny_bind (red ?_)
  dsimp only
  refine wpAny_storeSet_of ho hd ?_ (fits_of_scanBound (by rw [D2.size]; exact D2.few))
  exact hQ _ _ _ _ (Heap.SameBut.update s.heap a _) (put_at ho hd) D2 L.mask L.du
/-- room for more texts -/
theorem roomT {more : Nat} {Q : Unit → Shared → Prop} (R : SetT P w s.heap a zs) (few : (zs.length + more) * 2 < 64) (hQ : ∀ h', Heap.SameBut a s.heap h' → SetT P w h' a zs → Q () { s with heap := h' }) :
    wpAny (model P w) A (setRoomFor a more) Q E s := by
  obtain ⟨o, es, ep, t, ho, hex, hd, D⟩ := R
  unfold setRoomFor
  refine wpAny_bind (wpAny_setState_of ho hd D.fits ?_)
  dsimp only
  cases e : t.roomFor more with
  | none => exact wpAny_pure (hQ _ (Heap.SameBut.refl a s.heap) ⟨o, es, ep, t, ho, hex, hd, D⟩)
  | some wanted =>
    have ew : wanted = (zs.length + more) * 2 := by
      unfold SetTable.roomFor at e
      split at e
      · have pl : t.place.size = es.size := by
          have q := D.fits
          unfold SetTable.fits at q
          rw [Bool.and_eq_true] at q
          exact eq_of_beq q.1
        rw [← D.size, ← pl]
        exact (Option.some.inj e).symm
      · cases e
    subst ew
    exact relayT ho hex hd D few (by omega) fun h' es' ep' t' sb h1 D1 _ _ => hQ h' sb ⟨_, es', ep', t', h1, hex, rfl, D1⟩
/-- an empty set's object, with room -/
structure Bare (P : Program) (w : World) (h : Heap) (a : Addr) (n : Nat) : Prop where
  ex : ∃ ep t, h.get? a = some { cls := .type "set", dict := none, data := .set #[] ep t } ∧ SetD P w #[] t [] ∧ Mask t.mask ∧ n ≤ t.mask ∧ t.fill = 0
theorem roomB {n : Nat} {Q : Unit → Shared → Prop} (ho : s.heap.get? a = some (newSetO w)) (few : n * 2 < 64) (hQ : ∀ h', Heap.SameBut a s.heap h' → Bare P w h' a n → Q () { s with heap := h' }) :
    wpAny (model P w) A (setRoomFor a n) Q E s := by
  obtain ⟨o1, es1, ep1, t1, ho1, hex, hd, D⟩ := setT_new (P := P) ho
  obtain rfl := Option.some.inj (ho.symm.trans ho1)
  injection hd with e1 e2 e3
  subst e1
  subst e2
  subst e3
  unfold setRoomFor
  refine wpAny_bind (wpAny_setState_of ho rfl D.fits ?_)
  dsimp only
  cases e : (SetTable.fresh 0 0 (!w.params.followText "set-order")).roomFor n with
  | none =>
    refine wpAny_pure (hQ _ (Heap.SameBut.refl a s.heap) ⟨0, _, ho, D, .inl rfl, ?_, rfl⟩)
    unfold SetTable.roomFor at e
    split at e
    · cases e
    · rename_i q
      have : ¬ (0 + n) * 5 ≥ 7 * 3 := q
      show n ≤ 7
      omega
  | some wanted =>
    have ew : wanted = n * 2 := by
      unfold SetTable.roomFor at e
      split at e
      · have := Option.some.inj e
        rw [← this]
        show (0 + n) * 2 = _
        rw [Nat.zero_add]
      · cases e
    subst ew
    obtain ⟨hm, hn, _⟩ := wide few
    refine relayT (zs := []) ho ⟨rfl, rfl, rfl⟩ rfl D few (Nat.zero_le _) fun h' es' ep' t' sb h1 D1 em ed => hQ h' sb ?_
    have z := D1.size
    rw [List.length_nil] at z
    obtain rfl : es' = #[] := Array.eq_empty_of_size_eq_zero z
    refine ⟨ep', t', h1, D1, by rw [em]; exact hm, by rw [em]; omega, ?_⟩
    have q := D1.fits
    unfold SetTable.fits at q
    rw [Bool.and_eq_true] at q
    unfold SetTable.fill
    rw [eq_of_beq q.1, ed]
    rfl
end
end E10
set_option Elab.async false
set_option linter.all false
set_option maxRecDepth 100000
set_option maxHeartbeats 4000000
/-! ### sets of texts: a copy, and joined with another -/
namespace E10
open L2 PySem PySem.Spec PyProof.Rows
section
variable {P : Program} {w : World} {A : Around} {E : Value → Shared → Prop} {s : Shared} {r o : Addr} {zs ys : List Str}
theorem copyT {each : Sem Unit} {Q : Unit → Shared → Prop} (hr : s.heap.get? r = some (newSetO w)) (R : SetT P w s.heap o zs) (ne : r ≠ o) (few : zs.length * 2 < 64)
    (hQ : ∀ h', Heap.SameBut r s.heap h' → SetT P w h' r zs → Q () { s with heap := h' }) : wpAny (model P w) A (setMerge r o each) Q E s := by
  obtain ⟨oo, eo, epo, to, ho, hexo, hdo, D⟩ := R
  unfold setMerge
  rw [show (r == o) = false from beq_eq_false_iff_ne.mpr ne]
  simp only [Bool.false_eq_true, ↓reduceIte]
  refine wpAny_bind (wpAny_setState_of ho hdo D.fits ?_)
  dsimp only
  by_cases em : eo.isEmpty = true
  · rw [if_pos em]
    have z : zs = [] := by
      have q := D.size
      rw [Array.isEmpty_iff_size_eq_zero.mp em] at q
      exact List.eq_nil_of_length_eq_zero q.symm
    subst z
    exact wpAny_pure (hQ _ (Heap.SameBut.refl r s.heap) (setT_new hr))
  · rw [if_neg em]
    refine wpAny_bind (roomB (n := eo.size) hr (by rw [D.size]; exact few) fun h1 sb1 B => ?_)
    obtain ⟨ep, t, h1r, D1, hm, hn, hf⟩ := B
    refine wpAny_bind (wpAny_setState_of (s := { s with heap := h1 }) h1r rfl D1.fits ?_)
    dsimp only
    have few' : eo.size < scanBound := by rw [D.size]; exact D.few
    have led : w.params.followText "set-order" = true ∨ (t.led && to.led) = true := by
      rcases D1.led with q | q
      · exact .inl q
      · rcases D.led with p | p
        · exact .inl p
        · exact .inr (by rw [q, p]; rfl)
    unfold SetTable.road
    rw [hf]
    simp only [bne_self_eq_false, Bool.false_eq_true, ↓reduceIte]
    by_cases sl : (t.mask == to.mask && to.dummies.isEmpty) = true
    · rw [if_pos sl]
      dsimp only
      refine wpAny_storeSet_of (s := { s with heap := h1 }) h1r rfl ?_ (fits_of_scanBound few')
      exact hQ _ (sb1.trans (Heap.SameBut.update _ r _)) ⟨_, eo, _, _, put_at h1r rfl, ⟨rfl, rfl, rfl⟩, rfl, D.good, D.perm, D.nd, D.few, D.fits, D.ris, led⟩
    · rw [if_neg sl]
      dsimp only
      obtain ⟨t', order, e, L⟩ := laid_ok (finger := t.finger) (moves := t.moves) (led := t.led && to.led) (plain := t.plain && to.plain) hm (hs := eo.map (·.1)) (by rw [Array.size_map]; omega)
      rw [e]
      rw [Array.size_map] at L
      have pm := order_perm L.pm
      have sz : (order.filterMap (eo[·]?)).size = eo.size := by rw [← Array.length_toList, pm.length_eq, Array.length_toList]
      have D2 : SetD P w (order.filterMap (eo[·]?)) t' zs := by
        refine ⟨fun e he => D.good e (pm.mem_iff.mp he), (pm.map txtOf).trans D.perm, D.nd, D.few, ?_, L.ris, by rw [L.led]; exact led⟩
        unfold SetTable.fits SetTable.fill
        rw [sz, L.pl, L.du, L.mask, beq_self_eq_true, Bool.true_and]
        refine decide_eq_true ?_
        simp
        exact hn
      have red : ∀ {R : Array (Int × Value) × SetTable → Shared → Prop}, R (order.filterMap (eo[·]?), t') { s with heap := h1 } → wpAny (model P w) A (do
          let es' := order.filterMap (eo[·]?)
          if (es'.size != eo.size) = true then (unsupported "internal:set-table-lost-an-element" : Sem Unit)
          pure (es', t')) R E { s with heap := h1 } := fun {R} q => by
        dsimp only
        rw [sz, bne_self_eq_false]
        exact wpAny_bind (wpAny_pure (wpAny_pure q))
      refine wpAny_bind (red ?_)
      dsimp only
      refine wpAny_storeSet_of (s := { s with heap := h1 }) h1r rfl ?_ (fits_of_scanBound (by rw [sz]; exact few'))
      exact hQ _ (sb1.trans (Heap.SameBut.update _ r _)) ⟨_, _, _, _, put_at h1r rfl, ⟨rfl, rfl, rfl⟩, rfl, D2⟩
end
end E10
set_option Elab.async false
set_option linter.all false
set_option maxRecDepth 100000
set_option maxHeartbeats 4000000
/-! ### a layer of values without addresses: what an expression is worth, as a function of the slots and of the few things that change -/
namespace Pu
open L2 PySem PySem.Spec PyProof.Rows E10
/-- a value that nothing changes any more -/
inductive P where
  | non | bl (b : Bool) | int (i : Int) | str (x : Str) | ref (a : Addr) | ty (n : String)
  | tup (xs : List P) | lst (xs : List P) | dct (ks : List (Key × P)) | ins (C : Addr) (fs : List (Str × P)) | set (f : Addr → List Str → HO) (zs : List Str)
/-- what stands as it is until it goes -/
def solid : HO → Bool
  | .lst _ | .dK _ | .dT _ | .set _ _ => false
  | _ => true
/-- a value, or the place of something that changes -/
inductive W where
  | v (p : P) | loc (j : Nat)
/-- what stands at a place -/
inductive PC where
  | lst (xs : List P) | dct (ks : List (Key × P)) | ins (C : Addr) (fs : List (Str × P)) | dead | lstL (xs : List P) | dctL (ks : List (Key × P))
abbrev Γ := List (Option W)
abbrev Μ := List PC
abbrev Ps := List (Option Addr)
mutual
inductive Rep (D : Addr → Prop) (H : Hp) : V → P → Prop
  | non : Rep D H .non .non
  | bl {b} : Rep D H (.bl b) (.bl b)
  | int {i} : Rep D H (.int i) (.int i)
  | str {x} : Rep D H (.str x) (.str x)
  | ref {a} : Rep D H (.ref a) (.ref a)
  | ty {n} : Rep D H (.ty n) (.ty n)
  | tup {a xs ps} : ¬ D a → Rd H a (.tup xs) → Reps D H xs ps → Rep D H (.ref a) (.tup ps)
  | lst {a xs ps} : ¬ D a → Rd H a (.lst xs) → Reps D H xs ps → Rep D H (.ref a) (.lst ps)
  | dct {a xs ps} : ¬ D a → Rd H a (.dK xs) → RepK D H xs ps → Rep D H (.ref a) (.dct ps)
  | ins {a C dx xs ps} : ¬ D a → H a = some (.ins C dx xs) → RepS D H xs ps → Rep D H (.ref a) (.ins C ps)
  | set {a f zs} : ¬ D a → H a = some (f a zs) → solid (f a zs) = true → Rep D H (.ref a) (.set f zs)
inductive Reps (D : Addr → Prop) (H : Hp) : List V → List P → Prop
  | nil : Reps D H [] []
  | cons {v p l m} : Rep D H v p → Reps D H l m → Reps D H (v :: l) (p :: m)
inductive RepK (D : Addr → Prop) (H : Hp) : List (Key × V) → List (Key × P) → Prop
  | nil : RepK D H [] []
  | cons {k v p l m} : Rep D H v p → RepK D H l m → RepK D H ((k, v) :: l) ((k, p) :: m)
inductive RepS (D : Addr → Prop) (H : Hp) : List (Str × V) → List (Str × P) → Prop
  | nil : RepS D H [] []
  | cons {k v p l m} : Rep D H v p → RepS D H l m → RepS D H ((k, v) :: l) ((k, p) :: m)
end
/-- what values lean on stands: from D, H to D', H' -/
structure Sd (D : Addr → Prop) (H : Hp) (D' : Addr → Prop) (H' : Hp) : Prop where
  d : ∀ a o, ¬ D a → H a = some o → ¬ D' a
  r : ∀ a u, ¬ D a → Rd H a u → Rd H' a u
  s : ∀ a o, ¬ D a → H a = some o → solid o = true → H' a = some o
/-- .. and what is locked stays so -/
structure SdL (D : Addr → Prop) (H : Hp) (D' : Addr → Prop) (H' : Hp) : Prop extends Sd D H D' H' where
  l : ∀ a o u, H a = some (.frz o u) → H' a = some (.frz o u)
section
variable {D D' : Addr → Prop} {H H' : Hp}
theorem Sd.rd (s : Sd D H D' H') {a : Addr} {u : HO} (n : ¬ D a) (h : Rd H a u) : ¬ D' a := by
  rcases h with h | ⟨o, h⟩
  · exact s.d a _ n h
  · exact s.d a _ n h
mutual
theorem Rep.sd (s : Sd D H D' H') : ∀ {v p}, Rep D H v p → Rep D' H' v p
  | _, _, .non => .non
  | _, _, .bl => .bl
  | _, _, .int => .int
  | _, _, .str => .str
  | _, _, .ref => .ref
  | _, _, .ty => .ty
  | _, _, .tup n h r => .tup (s.rd n h) (s.r _ _ n h) (Reps.sd s r)
  | _, _, .lst n h r => .lst (s.rd n h) (s.r _ _ n h) (Reps.sd s r)
  | _, _, .dct n h r => .dct (s.rd n h) (s.r _ _ n h) (RepK.sd s r)
  | _, _, .ins n h r => .ins (s.d _ _ n h) (s.s _ _ n h rfl) (RepS.sd s r)
  | _, _, .set n h r => .set (s.d _ _ n h) (s.s _ _ n h r) r
theorem Reps.sd (s : Sd D H D' H') : ∀ {v p}, Reps D H v p → Reps D' H' v p
  | _, _, .nil => .nil
  | _, _, .cons r t => .cons (Rep.sd s r) (Reps.sd s t)
theorem RepK.sd (s : Sd D H D' H') : ∀ {v p}, RepK D H v p → RepK D' H' v p
  | _, _, .nil => .nil
  | _, _, .cons r t => .cons (Rep.sd s r) (RepK.sd s t)
theorem RepS.sd (s : Sd D H D' H') : ∀ {v p}, RepS D H v p → RepS D' H' v p
  | _, _, .nil => .nil
  | _, _, .cons r t => .cons (Rep.sd s r) (RepS.sd s t)
end
theorem Reps.length : ∀ {v p}, Reps D H v p → v.length = p.length
  | _, _, .nil => rfl
  | _, _, .cons _ t => congrArg (· + 1) (Reps.length t)
theorem Reps.get : ∀ {vs ps} {i : Nat} {v : V}, Reps D H vs ps → vs[i]? = some v → ∃ p, ps[i]? = some p ∧ Rep D H v p
  | _, _, 0, _, .cons r _, e => ⟨_, rfl, (Option.some.inj e) ▸ r⟩
  | _, _, i + 1, _, .cons _ t, e => Reps.get (i := i) t e
theorem Reps.getP : ∀ {vs ps} {i : Nat} {p : P}, Reps D H vs ps → ps[i]? = some p → ∃ v, vs[i]? = some v ∧ Rep D H v p
  | _, _, 0, _, .cons r _, e => ⟨_, rfl, (Option.some.inj e) ▸ r⟩
  | _, _, i + 1, _, .cons _ t, e => Reps.getP (i := i) t e
theorem Reps.append : ∀ {vs ps ws qs}, Reps D H vs ps → Reps D H ws qs → Reps D H (vs ++ ws) (ps ++ qs)
  | _, _, _, _, .nil, s => s
  | _, _, _, _, .cons r t, s => .cons r (Reps.append t s)
theorem Reps.snoc {vs ps v p} (t : Reps D H vs ps) (r : Rep D H v p) : Reps D H (vs ++ [v]) (ps ++ [p]) := t.append (.cons r .nil)
theorem Reps.take : ∀ {vs ps} (n : Nat), Reps D H vs ps → Reps D H (vs.take n) (ps.take n)
  | _, _, 0, _ => .nil
  | _, _, _ + 1, .nil => .nil
  | _, _, n + 1, .cons r t => .cons r (Reps.take n t)
theorem Reps.drop : ∀ {vs ps} (n : Nat), Reps D H vs ps → Reps D H (vs.drop n) (ps.drop n)
  | _, _, 0, r => r
  | _, _, _ + 1, .nil => .nil
  | _, _, n + 1, .cons r t => Reps.drop n t
theorem Reps.set {v p} (r : Rep D H v p) : ∀ {vs ps} (n : Nat), Reps D H vs ps → Reps D H (vs.set n v) (ps.set n p)
  | _, _, _, .nil => .nil
  | _, _, 0, .cons _ t => .cons r t
  | _, _, n + 1, .cons q t => .cons q (Reps.set r n t)
theorem Reps.eraseIdx : ∀ {vs ps} (n : Nat), Reps D H vs ps → Reps D H (vs.eraseIdx n) (ps.eraseIdx n)
  | _, _, _, .nil => .nil
  | _, _, 0, .cons _ t => t
  | _, _, n + 1, .cons q t => .cons q (Reps.eraseIdx n t)
theorem RepK.length : ∀ {v p}, RepK D H v p → v.length = p.length
  | _, _, .nil => rfl
  | _, _, .cons _ t => congrArg (· + 1) (RepK.length t)
theorem RepK.keys : ∀ {v p}, RepK D H v p → v.map (·.1) = p.map (·.1)
  | _, _, .nil => rfl
  | _, _, .cons _ t => congrArg (_ :: ·) (RepK.keys t)
theorem RepS.length : ∀ {v p}, RepS D H v p → v.length = p.length
  | _, _, .nil => rfl
  | _, _, .cons _ t => congrArg (· + 1) (RepS.length t)
theorem RepS.lookup {f : Str} : ∀ {vs ps}, RepS D H vs ps → ∀ {p}, ps.lookup f = some p → ∃ v, vs.lookup f = some v ∧ Rep D H v p
  | _, _, @RepS.cons _ _ k v p l m r t, q, e => by
    rw [List.lookup_cons] at e ⊢
    by_cases c : f == k
    · rw [c] at e ⊢
      exact ⟨v, rfl, (Option.some.inj e) ▸ r⟩
    · rw [Bool.not_eq_true] at c
      rw [c] at e ⊢
      exact RepS.lookup t e
theorem RepS.lookup_none {f : Str} : ∀ {vs ps}, RepS D H vs ps → ps.lookup f = none → vs.lookup f = none
  | _, _, .nil, _ => rfl
  | _, _, @RepS.cons _ _ k v p l m r t, e => by
    rw [List.lookup_cons] at e ⊢
    by_cases c : f == k
    · rw [c] at e
      cases e
    · rw [Bool.not_eq_true] at c
      rw [c] at e ⊢
      exact RepS.lookup_none t e
end
/-! ### places -/
def CellOk (D : Addr → Prop) (H : Hp) (a : Addr) : PC → Prop
  | .lst ps => ∃ xs, H a = some (.lst xs) ∧ Reps D H xs ps
  | .dct ps => ∃ xs, H a = some (.dK xs) ∧ RepK D H xs ps
  | .ins C ps => ∃ dx xs, H a = some (.ins C dx xs) ∧ RepS D H xs ps
  | .dead => False
  | .lstL ps => ∃ od xs, H a = some (.frz od (.lst xs)) ∧ Reps D H xs ps
  | .dctL ps => ∃ od xs, H a = some (.frz od (.dK xs)) ∧ RepK D H xs ps
structure Sk (D : Addr → Prop) (as : Ps) (H : Hp) (μ : Μ) : Prop where
  len : as.length = μ.length
  dn : ∀ a, D a → ∃ o, H a = some o
  inD : ∀ (j : Nat) (a : Addr), as[j]? = some (some a) → D a
  inj : ∀ (i j : Nat) (a : Addr), as[i]? = some (some a) → as[j]? = some (some a) → i = j
  ok : ∀ (j : Nat) (a : Addr), as[j]? = some (some a) → ∃ c, μ[j]? = some c ∧ CellOk D H a c
  dead : ∀ j : Nat, as[j]? = some none → μ[j]? = some .dead
def RepW (D : Addr → Prop) (as : Ps) (H : Hp) (v : V) : W → Prop
  | .v p => Rep D H v p
  | .loc j => ∃ x, as[j]? = some x ∧ ∀ a, x = some a → v = .ref a
def EnvR (D : Addr → Prop) (as : Ps) (H : Hp) (σ : L2.St) (γ : Γ) : Prop := γ.length = σ.length ∧ ∀ (i : Nat) (w : W), γ[i]? = some (some w) → ∃ v, σ[i]? = some (some v) ∧ RepW D as H v w
/-- from one state to a later one -/
structure Nx (D : Addr → Prop) (as : Ps) (H : Hp) (D' : Addr → Prop) (as' : Ps) (H' : Hp) : Prop where
  pre : ∀ (j : Nat) (x : Option Addr), as[j]? = some x → as'[j]? = some x ∨ as'[j]? = some none
  ex : ∀ a o, H a = some o → ∃ o', H' a = some o'
  mono : ∀ a, D a → (∀ j : Nat, as[j]? ≠ some (some a)) → D' a
  new : ∀ a, D' a → D a ∨ H a = none
  fresh : ∀ (j : Nat) (a : Addr), as'[j]? = some (some a) → as[j]? = some (some a) ∨ H a = none
  hid : ∀ a o, D a → (∀ j : Nat, as[j]? ≠ some (some a)) → H a = some o → H' a = some o
  rd : ∀ a u, ¬ D a → Rd H a u → Rd H' a u
  sol : ∀ a o, ¬ D a → H a = some o → solid o = true → H' a = some o
  lck : ∀ a o u, H a = some (.frz o u) → H' a = some (.frz o u)
section
variable {D D' D2 : Addr → Prop} {as as' as2 : Ps} {H H' H2 : Hp} {μ μ' : Μ} {σ : L2.St} {γ : Γ} {v : V} {w : W}
theorem Nx.refl : Nx D as H D as H := ⟨fun _ _ h => .inl h, fun _ o h => ⟨o, h⟩, fun _ h _ => h, fun _ h => .inl h, fun _ _ h => .inl h, fun _ _ _ _ h => h, fun _ _ _ h => h, fun _ _ _ h _ => h, fun _ _ _ h => h⟩
theorem get_pre {as t : Ps} {j : Nat} {x : Option Addr} (h : as[j]? = some x) : (as ++ t)[j]? = some x := by
  rw [List.getElem?_append_left (List.getElem?_eq_some_iff.mp h).1]
  exact h
theorem Nx.gone (n : Nx D as H D' as' H') {j : Nat} (h : as[j]? = some none) : as'[j]? = some none := (n.pre j none h).elim id id
theorem Nx.len (n : Nx D as H D' as' H') : as.length ≤ as'.length := by
  by_cases c : as.length = 0
  · omega
  · have e : as[as.length - 1]? = some as[as.length - 1] := List.getElem?_eq_getElem (by omega)
    have : as.length - 1 < as'.length := by
      rcases n.pre _ _ e with z | z
      · exact (List.getElem?_eq_some_iff.mp z).1
      · exact (List.getElem?_eq_some_iff.mp z).1
    omega
/-- a place that is alive, and what it was -/
theorem RepW.adr (k : Sk D as H μ) {j : Nat} {c : PC} (r : RepW D as H v (.loc j)) (h : μ[j]? = some c) (nd : c ≠ .dead) : ∃ a, as[j]? = some (some a) ∧ v = .ref a ∧ CellOk D H a c := by
  obtain ⟨x, e, q⟩ := r
  cases x with
  | none =>
    rw [k.dead j e] at h
    exact absurd (Option.some.inj h).symm nd
  | some a =>
    obtain ⟨c', e', ok⟩ := k.ok j a e
    rw [h] at e'
    exact ⟨a, e, q a rfl, (Option.some.inj e') ▸ ok⟩
theorem RepW.mk {j : Nat} {a : Addr} (h : as[j]? = some (some a)) : RepW D as H (.ref a) (.loc j) := ⟨some a, h, fun b e => by cases e; rfl⟩
theorem rd_some {a : Addr} {u : HO} (h : Rd H a u) : ∃ o, H a = some o := by
  rcases h with h | ⟨o, h⟩
  · exact ⟨_, h⟩
  · exact ⟨_, h⟩
theorem CellOk.at {a : Addr} {c : PC} (x : CellOk D H a c) : ∃ o, H a = some o := by
  cases c with
  | lst ps => exact let ⟨_, h, _⟩ := x; ⟨_, h⟩
  | dct ps => exact let ⟨_, h, _⟩ := x; ⟨_, h⟩
  | ins C ps => exact let ⟨_, _, h, _⟩ := x; ⟨_, h⟩
  | dead => exact x.elim
  | lstL ps => exact let ⟨_, _, h, _⟩ := x; ⟨_, h⟩
  | dctL ps => exact let ⟨_, _, h, _⟩ := x; ⟨_, h⟩
/-- what stood still stands, somehow -/
theorem Nx.there (k' : Sk D' as' H' μ') (n : Nx D as H D' as' H') {a : Addr} {o : HO} (h : H a = some o) : ∃ o', H' a = some o' := n.ex a o h
theorem Nx.back (k' : Sk D' as' H' μ') (n : Nx D as H D' as' H') {a : Addr} (h : H' a = none) : H a = none := by
  cases e : H a with
  | none => rfl
  | some o =>
    obtain ⟨o', q⟩ := n.there k' e
    rw [h] at q
    cases q
theorem Nx.trans (k : Sk D as H μ) (k' : Sk D' as' H' μ') (n : Nx D as H D' as' H') (m : Nx D' as' H' D2 as2 H2) : Nx D as H D2 as2 H2 where
  pre := fun j x h => by
    rcases n.pre j x h with z | z
    · exact m.pre j x z
    · exact .inr (m.gone z)
  ex := fun a o h => let ⟨o', h'⟩ := n.ex a o h; m.ex a o' h'
  mono := fun a h v => m.mono a (n.mono a h v) fun j e => by
    rcases n.fresh j a e with z | z
    · exact v j z
    · obtain ⟨o, q⟩ := k.dn a h
      rw [q] at z; cases z
  new := fun a h => by
    rcases m.new a h with h | h
    · exact n.new a h
    · exact .inr (n.back k' h)
  fresh := fun j a h => by
    rcases m.fresh j a h with h | h
    · exact n.fresh j a h
    · exact .inr (n.back k' h)
  hid := fun a o d h e => m.hid a o (n.mono a d h) (fun j q => by
    rcases n.fresh j a q with z | z
    · exact h j z
    · rw [e] at z; cases z) (n.hid a o d h e)
  rd := fun a u d r => m.rd a u (fun q => by
    obtain ⟨o, e⟩ := rd_some r
    rcases n.new a q with z | z
    · exact d z
    · rw [e] at z; cases z) (n.rd a u d r)
  sol := fun a o d e z => m.sol a o (fun q => by
    rcases n.new a q with y | y
    · exact d y
    · rw [e] at y; cases y) (n.sol a o d e z) z
  lck := fun a o u e => m.lck a o u (n.lck a o u e)
theorem Nx.sd (n : Nx D as H D' as' H') : Sd D H D' H' := by
  refine ⟨fun a o h e q => ?_, fun a u h r => n.rd a u h r, fun a o h e z => n.sol a o h e z⟩
  rcases n.new a q with z | z
  · exact h z
  · rw [e] at z; cases z
theorem Nx.sdl (n : Nx D as H D' as' H') : SdL D H D' H' := ⟨n.sd, n.lck⟩
theorem RepW.nx (n : Nx D as H D' as' H') (r : RepW D as H v w) : RepW D' as' H' v w := by
  cases w with
  | v p => exact Rep.sd n.sd r
  | loc j =>
    obtain ⟨x, e, q⟩ := r
    rcases n.pre j x e with z | z
    · exact ⟨x, z, q⟩
    · exact ⟨none, z, fun a h => by cases h⟩
theorem EnvR.nx (n : Nx D as H D' as' H') (r : EnvR D as H σ γ) : EnvR D' as' H' σ γ :=
  ⟨r.1, fun i w e => let ⟨v, q, z⟩ := r.2 i w e; ⟨v, q, z.nx n⟩⟩
theorem EnvR.set {i : Nat} (r : EnvR D as H σ γ) (q : RepW D as H v w) : EnvR D as H (σ.set i (some v)) (γ.set i (some w)) := by
  refine ⟨by rw [List.length_set, List.length_set]; exact r.1, fun j x e => ?_⟩
  by_cases c : i = j
  · subst c
    rw [List.getElem?_set_self'] at e ⊢
    cases g : γ[i]? with
    | none => rw [g] at e; cases e
    | some y =>
      rw [g] at e
      cases e
      have : i < σ.length := by
        rw [← r.1]
        exact (List.getElem?_eq_some_iff.mp g).1
      exact ⟨v, by rw [List.getElem?_eq_getElem this]; rfl, q⟩
  · rw [List.getElem?_set_ne c] at e ⊢
    exact r.2 j x e
theorem CellOk.sd {a : Addr} {c : PC} (s : Sd D H D' H') (e : H' a = H a) (x : CellOk D H a c) : CellOk D' H' a c := by
  cases c with
  | lst ps => obtain ⟨xs, h, r⟩ := x; exact ⟨xs, e.trans h, r.sd s⟩
  | dct ps => obtain ⟨xs, h, r⟩ := x; exact ⟨xs, e.trans h, r.sd s⟩
  | ins C ps => obtain ⟨dx, xs, h, r⟩ := x; exact ⟨dx, xs, e.trans h, r.sd s⟩
  | dead => exact x
  | lstL ps => obtain ⟨od, xs, h, r⟩ := x; exact ⟨od, xs, e.trans h, r.sd s⟩
  | dctL ps => obtain ⟨od, xs, h, r⟩ := x; exact ⟨od, xs, e.trans h, r.sd s⟩
theorem Nx.of_same (s : Same H H') : Nx D as H D as H' :=
  ⟨fun _ _ h => .inl h, fun a o h => ⟨o, s _ _ h⟩, fun _ h _ => h, fun _ h => .inl h, fun _ _ h => .inl h, fun a u _ _ e => s _ _ e, fun a u _ r => r.elim (fun r => .inl (s _ _ r)) fun ⟨o, r⟩ => .inr ⟨o, s _ _ r⟩, fun a o _ e _ => s _ _ e, fun a o u e => s _ _ e⟩
theorem Sk.same (k : Sk D as H μ) (s : Same H H') : Sk D as H' μ :=
  ⟨k.len, fun a d => let ⟨o, e⟩ := k.dn a d; ⟨o, s _ _ e⟩, k.inD, k.inj, fun j a e => let ⟨c, q, x⟩ := k.ok j a e; ⟨c, q, x.sd (Nx.of_same (as := as) s).sd (let ⟨o, z⟩ := k.dn a (k.inD j a e); (s _ _ z).trans z.symm)⟩, k.dead⟩
theorem Sd.trans {D1 D2 D3 : Addr → Prop} {H1 H2 H3 : Hp} (a : Sd D1 H1 D2 H2) (b : Sd D2 H2 D3 H3) : Sd D1 H1 D3 H3 := by
  have z : ∀ x o, ¬ D1 x → H1 x = some o → ∃ o', H2 x = some o' := fun x o d e => rd_some (a.r x o d (.inl e))
  exact ⟨fun x o d e q => let ⟨o', e'⟩ := z x o d e; b.d x o' (a.d x o d e) e' q, fun x u d r => b.r x u (a.rd d r) (a.r x u d r), fun x o d e y => b.s x o (a.d x _ d e) (a.s x o d e y) y⟩
theorem Sd.refl {D : Addr → Prop} {H : Hp} : Sd D H D H := ⟨fun _ _ h _ => h, fun _ _ _ h => h, fun _ _ _ h _ => h⟩
theorem Sd.same {D : Addr → Prop} {H H' : Hp} (s : Same H H') : Sd D H D H' := (Nx.of_same (as := []) s).sd
end
end Pu
set_option Elab.async false
set_option linter.all false
set_option maxRecDepth 100000
set_option maxHeartbeats 4000000
namespace Pu
open L2 PySem PySem.Spec PyProof.Rows E10
/-- what comes of it: a value and what changed; an own error with its attributes; or what no rule speaks of -/
inductive O (α : Type) where
  | ok (a : α) (m : Μ) | exc (C : Addr) (fs : List (Str × P)) (m : Μ) | bad
def O.bind {α β : Type} (o : O α) (f : α → Μ → O β) : O β := match o with
  | .ok a m => f a m
  | .exc C fs m => .exc C fs m
  | .bad => .bad
@[simp] theorem O.bind_ok {α β : Type} (a : α) (m : Μ) (f : α → Μ → O β) : (O.ok a m).bind f = f a m := rfl
@[simp] theorem O.bind_exc {α β : Type} (C fs m) (f : α → Μ → O β) : (O.exc C fs m).bind f = .exc C fs m := rfl
@[simp] theorem O.bind_bad {α β : Type} (f : α → Μ → O β) : O.bad.bind f = .bad := rfl
theorem O.bind_assoc {α β γ : Type} (o : O α) (f : α → Μ → O β) (g : β → Μ → O γ) : (o.bind f).bind g = o.bind fun a m => (f a m).bind g := by cases o <;> rfl
abbrev RL (β α : Type) := (Addr → Prop) → Ps → Hp → β → α → Prop
def G {α β : Type} (Wx : WX) (σ : L2.St) (R : RL β α) (D : Addr → Prop) (as : Ps) (H : Hp) (o : O α) (Q : β → Hp → Prop) : Prop := match o with
  | .ok a m => ∀ b D' as' H', Nx D as H D' as' H' → Sk D' as' H' m → R D' as' H' b a → Q b H'
  | .exc C fs m => ∀ d gs D' as' H', Nx D as H D' as' H' → Sk D' as' H' m → H' d = some (.xd gs) → RepS D' H' gs fs → Wx (.ref C) (some d) σ H'
  | .bad => False
section
variable {α β α' β' : Type} {Wx : WX} {σ : L2.St} {R : RL β α} {R' : RL β' α'} {D D' : Addr → Prop} {as as' : Ps} {H H' : Hp} {μ μ' : Μ} {o : O α} {Q Q' : β → Hp → Prop}
theorem G.nx (k : Sk D as H μ) (k' : Sk D' as' H' μ') (n : Nx D as H D' as' H') (g : G Wx σ R D as H o Q) : G Wx σ R D' as' H' o Q := by
  cases o with
  | ok a m => exact fun b D2 as2 H2 n2 k2 r => g b D2 as2 H2 (n.trans k k' n2) k2 r
  | exc C fs m => exact fun d gs D2 as2 H2 n2 k2 e r => g d gs D2 as2 H2 (n.trans k k' n2) k2 e r
  | bad => exact g
theorem G.mono (g : G Wx σ R D as H o Q) (h : ∀ b H', Q b H' → Q' b H') : G Wx σ R D as H o Q' := by
  cases o with
  | ok a m => exact fun b D2 as2 H2 n2 k2 r => h _ _ (g b D2 as2 H2 n2 k2 r)
  | exc C fs m => exact g
  | bad => exact g
theorem G.bind {f : α → Μ → O α'} {Q : β' → Hp → Prop} (R : RL β α) (k : Sk D as H μ) (g : G Wx σ R' D as H (o.bind f) Q) :
    G Wx σ R D as H o fun b H1 => ∃ D1 as1 μ1 a, Nx D as H D1 as1 H1 ∧ Sk D1 as1 H1 μ1 ∧ R D1 as1 H1 b a ∧ G Wx σ R' D1 as1 H1 (f a μ1) Q := by
  cases o with
  | ok a m => exact fun b D2 as2 H2 n2 k2 r => ⟨D2, as2, m, a, n2, k2, r, G.nx k k2 n2 g⟩
  | exc C fs m => exact g
  | bad => exact g
theorem G.now {a : α} {b : β} (k : Sk D as H μ) (r : R D as H b a) (g : G Wx σ R D as H (.ok a μ) Q) : Q b H := g b D as H .refl k r
end
theorem nowV {Wx : WX} {σ : L2.St} {D : Addr → Prop} {as : Ps} {H : Hp} {μ : Μ} {p : P} {x : V} {Q : VK} (k : Sk D as H μ) (g : G Wx σ RepW D as H (.ok (.v p) μ) Q) (r : Rep D H x p) : Q x H := G.now (R := RepW) k (show RepW D as H x (.v p) from r) g
abbrev EF := Γ → Μ → O W
abbrev AF := Γ → Μ → O (List W)
abbrev TF := Γ → Μ → O Bool
def RepB : RL Bool Bool := fun _ _ _ b a => b = a
inductive RepWs (D : Addr → Prop) (as : Ps) (H : Hp) : List V → List W → Prop
  | nil : RepWs D as H [] []
  | cons {v w l m} : RepW D as H v w → RepWs D as H l m → RepWs D as H (v :: l) (w :: m)
theorem RepWs.nx {D D' as as' H H'} (n : Nx D as H D' as' H') : ∀ {vs ws}, RepWs D as H vs ws → RepWs D' as' H' vs ws
  | _, _, .nil => .nil
  | _, _, .cons r t => .cons (r.nx n) (RepWs.nx n t)
theorem RepWs.length {D as H} : ∀ {vs ws}, RepWs D as H vs ws → vs.length = ws.length
  | _, _, .nil => rfl
  | _, _, .cons _ t => congrArg (· + 1) (RepWs.length t)
def Ad (Wx : WX) (te : TE) (F : EF) : Prop := ∀ D as γ μ σ H Q, Sk D as H μ → EnvR D as H σ γ → G Wx σ RepW D as H (F γ μ) Q → te σ H Q
def AdA (Wx : WX) (ta : TA) (F : AF) : Prop := ∀ D as γ μ σ H Q, Sk D as H μ → EnvR D as H σ γ → G Wx σ RepWs D as H (F γ μ) Q → ta σ H Q
def AdT (Wx : WX) (tt : TT) (F : TF) : Prop := ∀ D as γ μ σ H Q, Sk D as H μ → EnvR D as H σ γ → G Wx σ RepB D as H (F γ μ) Q → tt σ H Q
def PP (X : Cx) (Wx : WX) (e : Expr) (F : EF) : Prop := ∃ te, PE X e te ∧ Ad Wx te F
def PPA (X : Cx) (Wx : WX) (es : List Expr) (F : AF) : Prop := ∃ ta, PA X es ta ∧ AdA Wx ta F
def PPT (X : Cx) (Wx : WX) (e : Expr) (F : TF) : Prop := ∃ tt, PT X e tt ∧ AdT Wx tt F
def PPW (X : Cx) (Wx : WX) (e : Expr) (F : TF) : Prop := ∃ tt, PW X e tt ∧ AdT Wx tt F
/-! ### names, constants -/
def fVar (i : Nat) : EF := fun γ μ => match γ[i]? with
  | some (some w) => .ok w μ
  | _ => .bad
def fC (p : P) : EF := fun _ μ => .ok (.v p) μ
section
variable {X : Cx} {Wx : WX} {e a b c : Expr} {es rest : List Expr} {F F1 F2 F3 : EF} {FA : AF} {T T1 T2 : TF} {pos : Pos}
theorem ad_var {i : Nat} : Ad Wx (tVar i) (fVar i) := fun D as γ μ σ H Q k ev g => by
  unfold fVar at g
  split at g
  · rename_i w h
    obtain ⟨v, q, r⟩ := ev.2 i w h
    exact ⟨v, q, g.now k r⟩
  · exact g.elim
theorem ad_c {x : V} {p : P} (h : ∀ D H, Rep D H x p) : Ad Wx (tC x) (fC p) := fun D as γ μ σ H Q k ev g => nowV k g (h D H)
theorem pp_v (i : Nat) {x : Str} {pos : Pos} (hN : X.N[i]? = some x := by rfl) (hv : Vis X.env.scope x := by first | exact Or.inl rfl | exact Or.inr (Or.inl rfl) | exact Or.inr (Or.inr rfl)) (hd : (x == ("__debug__" : Str)) = false := by decide) (hcd : (x == ("__classdict__" : Str)) = false := by decide) :
    PP X Wx (.Name x pos) (fVar i) := ⟨_, pe_var hN hv hd hcd, ad_var⟩
theorem pp_int {i j pos} : PP X Wx (.Constant (.int i) j pos) (fC (.int i)) := ⟨_, pe_int, ad_c fun _ _ => .int⟩
theorem pp_bl {i j pos} : PP X Wx (.Constant (.bool i) j pos) (fC (.bl i)) := ⟨_, pe_bl, ad_c fun _ _ => .bl⟩
theorem pp_non {j pos} : PP X Wx (.Constant .none j pos) (fC .non) := ⟨_, pe_non, ad_c fun _ _ => .non⟩
theorem pp_str {i j pos} : PP X Wx (.Constant (.str i) j pos) (fC (.str i)) := ⟨_, pe_str, ad_c fun _ _ => .str⟩
theorem pp_c {x : V} {p : P} (h : PE X e (tC x)) (r : ∀ D H, Rep D H x p) : PP X Wx e (fC p) := ⟨_, h, ad_c r⟩
/-! ### operators -/
def AdR2 (Wx : WX) (r : R2) (f : W → W → Μ → O W) : Prop := ∀ D as μ σ H x y a b Q, Sk D as H μ → RepW D as H x a → RepW D as H y b → G Wx σ RepW D as H (f a b μ) Q → r x y H Q
def fOp (f : W → W → Μ → O W) (A B : EF) : EF := fun γ μ => (A γ μ).bind fun x m => (B γ m).bind fun y m => f x y m
def fUn (f : W → Μ → O W) (A : EF) : EF := fun γ μ => (A γ μ).bind fun x m => f x m
theorem ad_op {r : R2} {f} {ta tb} (h : AdR2 Wx r f) (ha : Ad Wx ta F1) (hb : Ad Wx tb F2) : Ad Wx (tOp r ta tb) (fOp f F1 F2) := fun D as γ μ σ H Q k ev g => by
  refine ha D as γ μ σ H _ k ev ((G.bind RepW k g).mono fun x H1 ⟨D1, as1, μ1, wx, n1, k1, r1, g1⟩ => ?_)
  refine hb D1 as1 γ μ1 σ H1 _ k1 (ev.nx n1) ((G.bind RepW k1 g1).mono fun y H2 ⟨D2, as2, μ2, wy, n2, k2, r2, g2⟩ => ?_)
  exact h D2 as2 μ2 σ H2 x y wx wy Q k2 (r1.nx n2) r2 g2
theorem pp_op {op : Operator} {r : R2} {f} (ho : OpR X (binaryOp op) r) (h : AdR2 Wx r f) (ha : PP X Wx a F1) (hb : PP X Wx b F2) : PP X Wx (.BinOp a op b pos) (fOp f F1 F2) :=
  let ⟨_, pa, aa⟩ := ha; let ⟨_, pb, ab⟩ := hb; ⟨_, pe_op ho pa pb, ad_op h aa ab⟩
theorem pp_cmp {op : CmpOp} {r : R2} {f} (ho : OpR X (compareOp op) r) (h : AdR2 Wx r f) (ha : PP X Wx a F1) (hb : PP X Wx b F2) (hm : behindInMarks op b = false := by first | exact nobehind _ (by decide) (by decide) | rfl) : PP X Wx (.Compare a [op] [b] pos) (fOp f F1 F2) :=
  let ⟨_, pa, aa⟩ := ha; let ⟨_, pb, ab⟩ := hb; ⟨_, pe_cmpR ho pa pb hm, ad_op h aa ab⟩
theorem pp_ix {r : R2} {f} (hr : IxR X r) (h : AdR2 Wx r f) (ha : PP X Wx a F1) (hb : PP X Wx b F2) (hs : PlainIx b := by exact fun _ _ => rfl) : PP X Wx (.Subscript a b pos) (fOp f F1 F2) :=
  let ⟨_, pa, aa⟩ := ha; let ⟨_, pb, ab⟩ := hb; ⟨_, pe_ix hr pa pb hs, ad_op h aa ab⟩
def fI (c : Int → Int → Bool) (g : Int → Int → P) : W → W → Μ → O W := fun x y μ => match x, y with
  | .v (.int i), .v (.int j) => if c i j then .ok (.v (g i j)) μ else .bad
  | _, _ => .bad
def fI0 (g : Int → Int → P) : W → W → Μ → O W := fun x y μ => match x, y with
  | .v (.int i), .v (.int j) => .ok (.v (g i j)) μ
  | _, _ => .bad
theorem rep_int {D : Addr → Prop} {H : Hp} {x : V} {i : Int} (r : Rep D H x (.int i)) : x = .int i := by cases r; rfl
theorem rep_bl {D : Addr → Prop} {H : Hp} {x : V} {i : Bool} (r : Rep D H x (.bl i)) : x = .bl i := by cases r; rfl
theorem rep_str {D : Addr → Prop} {H : Hp} {x : V} {i : Str} (r : Rep D H x (.str i)) : x = .str i := by cases r; rfl
theorem rep_non {D : Addr → Prop} {H : Hp} {x : V} (r : Rep D H x .non) : x = .non := by cases r; rfl
theorem ad_I0 {g : Int → Int → V} {q : Int → Int → P} (h : ∀ D H i j, Rep D H (g i j) (q i j)) : AdR2 Wx (rI0 g) (fI0 q) := fun D as μ σ H x y a b Q k ra rb gg => by
  unfold fI0 at gg
  split at gg
  · obtain rfl := rep_int ra
    obtain rfl := rep_int rb
    exact ⟨_, _, rfl, rfl, nowV k gg (h _ _ _ _)⟩
  · exact gg.elim
theorem ad_I {C : Int → Int → Prop} {c : Int → Int → Bool} {g : Int → Int → V} {q : Int → Int → P} (hc : ∀ i j, c i j = true → C i j) (h : ∀ D H i j, Rep D H (g i j) (q i j)) : AdR2 Wx (rI C g) (fI c q) := fun D as μ σ H x y a b Q k ra rb gg => by
  unfold fI at gg
  split at gg
  · split at gg
    · rename_i cc
      obtain rfl := rep_int ra
      obtain rfl := rep_int rb
      exact ⟨_, _, rfl, rfl, hc _ _ cc, nowV k gg (h _ _ _ _)⟩
    · exact gg.elim
  · exact gg.elim
abbrev fAdd := fI0 fun i j => .int (i + j)
abbrev fSub := fI0 fun i j => .int (i - j)
abbrev fMul := fI (fun i j => decide (i.natAbs < 2 ^ 64 ∨ j.natAbs < 2 ^ 64)) fun i j => .int (i * j)
abbrev fDiv := fI (fun _ j => decide (0 < j ∧ j < 1073741824)) fun i j => .int (i / j)
abbrev fMod := fI (fun _ j => decide (0 < j)) fun i j => .int (i % j)
abbrev fPow := fI (fun i j => decide (0 ≤ j ∧ j ≤ 1000000 ∧ i.natAbs < 2 ^ 64)) fun i j => .int (i ^ j.toNat)
theorem ad_add : AdR2 Wx (rI0 fun i j => .int (i + j)) fAdd := ad_I0 fun _ _ _ _ => .int
theorem ad_sub : AdR2 Wx (rI0 fun i j => .int (i - j)) fSub := ad_I0 fun _ _ _ _ => .int
theorem ad_mul : AdR2 Wx (rI CMul fun i j => .int (i * j)) fMul := ad_I (fun i j h => by
  have h := of_decide_eq_true h
  unfold CMul
  omega) fun _ _ _ _ => .int
theorem ad_div : AdR2 Wx (rI CDiv fun i j => .int (i / j)) fDiv := ad_I (fun i j h => (of_decide_eq_true h : 0 < j ∧ j < 1073741824)) fun _ _ _ _ => .int
theorem ad_mod : AdR2 Wx (rI (fun _ j => 0 < j) fun i j => .int (i % j)) fMod := ad_I (fun i j h => of_decide_eq_true h) fun _ _ _ _ => .int
theorem ad_pow : AdR2 Wx (rI CPow fun i j => .int (i ^ j.toNat)) fPow := ad_I (fun i j h => (of_decide_eq_true h : 0 ≤ j ∧ j ≤ 1000000 ∧ i.natAbs < 2 ^ 64)) fun _ _ _ _ => .int
theorem ad_lt : AdR2 Wx (rI0 fun i j => .bl (decide (i < j))) (fI0 fun i j => .bl (decide (i < j))) := ad_I0 fun _ _ _ _ => .bl
theorem ad_le : AdR2 Wx (rI0 fun i j => .bl (decide (i ≤ j))) (fI0 fun i j => .bl (decide (i ≤ j))) := ad_I0 fun _ _ _ _ => .bl
theorem ad_gt : AdR2 Wx (rI0 fun i j => .bl (decide (j < i))) (fI0 fun i j => .bl (decide (j < i))) := ad_I0 fun _ _ _ _ => .bl
def fNeg : W → Μ → O W := fun x μ => match x with
  | .v (.int i) => .ok (.v (.int (-i))) μ
  | _ => .bad
/-- two texts -/
def fSS (c : Str → Str → Bool) (g : Str → Str → P) : W → W → Μ → O W := fun x y μ => match x, y with
  | .v (.str i), .v (.str j) => if c i j then .ok (.v (g i j)) μ else .bad
  | _, _ => .bad
theorem ad_SS {c : Str → Str → Bool} {g : Str → Str → P} {r : R2} (h : ∀ D H i j Q, c i j = true → (∀ v, Rep D H v (g i j) → Q v H) → r (.str i) (.str j) H Q) : AdR2 Wx r (fSS c g) := fun D as μ σ H x y a b Q k ra rb gg => by
  unfold fSS at gg
  split at gg
  · split at gg
    · rename_i cc
      obtain rfl := rep_str ra
      obtain rfl := rep_str rb
      exact h D H _ _ Q cc fun v r => nowV k gg r
    · exact gg.elim
  · exact gg.elim
abbrev fCatS := fSS (fun i j => decide (i.length + j.length ≤ sizeLine)) fun i j => .str (i ++ j)
theorem ad_catS : AdR2 Wx (fun x y H Q => ∃ i j, x = .str i ∧ y = .str j ∧ i.length + j.length ≤ sizeLine ∧ Q (.str (i ++ j)) H) fCatS := ad_SS fun D H i j Q c h => ⟨_, _, rfl, rfl, of_decide_eq_true c, h _ .str⟩
def strLt (i j : Str) : Bool := decide (i.cps.toList < j.cps.toList)
theorem ad_ltS : AdR2 Wx (fun x y H Q => ∃ i j, x = .str i ∧ y = .str j ∧ Q (.bl (decide (i.cps.toList < j.cps.toList))) H) (fSS (fun _ _ => true) fun i j => .bl (strLt i j)) := ad_SS fun D H i j Q c h => ⟨_, _, rfl, rfl, h _ .bl⟩
/-- flat things: equal or not -/
def eqS : P → P → Option Bool
  | .int i, .int j => some (i == j)
  | .str i, .str j => some (i == j)
  | .bl i, .bl j => some (i == j)
  | .non, .non => some true
  | .non, .int _ => some false | .non, .str _ => some false | .non, .bl _ => some false
  | .int _, .non => some false | .str _, .non => some false | .bl _, .non => some false
  | .int _, .str _ => some false | .str _, .int _ => some false
  | _, _ => none
def fEqS (neg : Bool) : W → W → Μ → O W := fun x y μ => match x, y with
  | .v p, .v q => match eqS p q with
    | some b => .ok (.v (.bl (b != neg))) μ
    | none => .bad
  | _, _ => .bad
end
end Pu
set_option Elab.async false
set_option linter.all false
set_option maxRecDepth 100000
set_option maxHeartbeats 4000000
namespace Pu
open L2 PySem PySem.Spec PyProof.Rows E10
theorem sz_of {n : Nat} (h : n ≤ 100000) : n ≤ sizeLine := Nat.le_trans h (by decide)
section
variable {X : Cx} {Wx : WX} {e a b c : Expr} {es rest : List Expr} {F F1 F2 F3 : EF} {FA : AF} {T T1 T2 : TF} {pos : Pos}
theorem eqS_ok {D : Addr → Prop} {H : Hp} {x y : V} {p q : P} {r : Bool} (ra : Rep D H x p) (rb : Rep D H y q) (h : eqS p q = some r) : scal x y = true ∧ decide (x = y) = r := by
  unfold eqS at h
  split at h <;> cases h <;> cases ra <;> cases rb <;> refine ⟨rfl, ?_⟩ <;> first | rfl | exact dec_int | exact dec_str | exact dec_bl | simp
theorem ad_eqS : AdR2 Wx rEq (fEqS false) := fun D as μ σ H x y wa wb Q k ra rb gg => by
  unfold fEqS at gg
  split at gg
  · split at gg
    · rename_i r h
      obtain ⟨s1, s2⟩ := eqS_ok ra rb h
      refine ⟨s1, ?_⟩
      rw [s2]
      have := nowV (x := .bl (r != false)) k gg .bl
      simpa using this
    · exact gg.elim
  · exact gg.elim
theorem ad_neS : AdR2 Wx rNe (fEqS true) := fun D as μ σ H x y wa wb Q k ra rb gg => by
  unfold fEqS at gg
  split at gg
  · split at gg
    · rename_i r h
      obtain ⟨s1, s2⟩ := eqS_ok ra rb h
      refine ⟨s1, ?_⟩
      rw [s2]
      have := nowV (x := .bl (r != true)) k gg .bl
      simpa using this
    · exact gg.elim
  · exact gg.elim
/-- alive -/
def liveC : PC → Bool
  | .dead => false
  | _ => true
theorem liveC_ne {c : PC} (h : liveC c = true) : c ≠ .dead := fun e => by rw [e] at h; cases h
def liveAt (μ : Μ) (j : Nat) : Bool := match μ[j]? with
  | some c => liveC c
  | none => false
theorem live_adr {D : Addr → Prop} {as : Ps} {H : Hp} {μ : Μ} {x : V} {j : Nat} (k : Sk D as H μ) (r : RepW D as H x (.loc j)) (h : liveAt μ j = true) : ∃ a c, μ[j]? = some c ∧ as[j]? = some (some a) ∧ x = .ref a ∧ CellOk D H a c := by
  unfold liveAt at h
  split at h
  · rename_i c e
    obtain ⟨a, e1, e2, e3⟩ := r.adr k e (liveC_ne h)
    exact ⟨a, c, e, e1, e2, e3⟩
  · cases h
/-- is None -/
def fIsN (neg : Bool) : W → W → Μ → O W := fun x y μ => match x, y with
  | .v .non, .v .non => .ok (.v (.bl (!neg))) μ
  | .v _, .v .non => .ok (.v (.bl neg)) μ
  | .loc j, .v .non => if liveAt μ j = true then .ok (.v (.bl neg)) μ else .bad
  | _, _ => .bad
theorem repW_ne {D : Addr → Prop} {as : Ps} {H : Hp} {x : V} {p : P} (r : Rep D H x p) (h : p ≠ .non) : decide (x = .non) = false := by
  cases r <;> first | exact absurd rfl h | simp
theorem ad_isN : AdR2 Wx (fun x y H Q => y = .non ∧ Q (.bl (decide (x = .non))) H) (fIsN false) := fun D as μ σ H x y wa wb Q k ra rb gg => by
  unfold fIsN at gg
  split at gg
  · obtain rfl := rep_non rb
    obtain rfl := rep_non ra
    exact ⟨rfl, nowV k gg .bl⟩
  · rename_i h
    obtain rfl := rep_non rb
    refine ⟨rfl, ?_⟩
    rw [repW_ne (as := as) ra (fun z => h (by rw [z]))]
    exact nowV k gg .bl
  · split at gg
    · rename_i hl
      obtain rfl := rep_non rb
      obtain ⟨a, c, _, _, rfl, _⟩ := live_adr k ra hl
      exact ⟨rfl, nowV k gg .bl⟩
    · exact gg.elim
  · exact gg.elim
/-! ### a chain -/
def fChain (f g : W → W → Μ → O W) (A B C : EF) : EF := fun γ μ => (A γ μ).bind fun x m => (B γ m).bind fun y m => (f x y m).bind fun z m => match z with
  | .v (.bl true) => (C γ m).bind fun u m => g y u m
  | .v (.bl false) => .ok (.v (.bl false)) m
  | _ => .bad
theorem ad_chain {r r' : R2} {f g} {ta tb tc} (h : AdR2 Wx r f) (h' : AdR2 Wx r' g) (ha : Ad Wx ta F1) (hb : Ad Wx tb F2) (hc : Ad Wx tc F3) : Ad Wx (tChain r r' ta tb tc) (fChain f g F1 F2 F3) := fun D as γ μ σ H Q k ev gg => by
  refine ha D as γ μ σ H _ k ev ((G.bind RepW k gg).mono fun x H1 ⟨D1, as1, μ1, wx, n1, k1, r1, g1⟩ => ?_)
  refine hb D1 as1 γ μ1 σ H1 _ k1 (ev.nx n1) ((G.bind RepW k1 g1).mono fun y H2 ⟨D2, as2, μ2, wy, n2, k2, r2, g2⟩ => ?_)
  refine h D2 as2 μ2 σ H2 x y wx wy _ k2 (r1.nx n2) r2 ((G.bind RepW k2 g2).mono fun z H3 ⟨D3, as3, μ3, wz, n3, k3, r3, g3⟩ => ?_)
  split at g3
  · obtain rfl := rep_bl r3
    refine ⟨true, rfl, ?_⟩
    simp only [if_true]
    exact hc D3 as3 γ μ3 σ H3 _ k3 (((ev.nx n1).nx n2).nx n3) ((G.bind RepW k3 g3).mono fun u H4 ⟨D4, as4, μ4, wu, n4, k4, r4, g4⟩ => h' D4 as4 μ4 σ H4 y u wy wu Q k4 ((r2.nx n3).nx n4) r4 g4)
  · obtain rfl := rep_bl r3
    refine ⟨false, rfl, ?_⟩
    exact nowV k3 g3 .bl
  · exact g3.elim
theorem pp_chain {op op' : CmpOp} {r r' : R2} {f g} (ho : OpR X (compareOp op) r) (ho' : OpR X (compareOp op') r') (h : AdR2 Wx r f) (h' : AdR2 Wx r' g) (ha : PP X Wx a F1) (hb : PP X Wx b F2) (hc : PP X Wx c F3)
    (hm : lastMarks [op, op'] [b, c] = false := by with_unfolding_all rfl) : PP X Wx (.Compare a [op, op'] [b, c] pos) (fChain f g F1 F2 F3) :=
  let ⟨_, pa, aa⟩ := ha; let ⟨_, pb, ab⟩ := hb; let ⟨_, pc, ac⟩ := hc; ⟨_, pe_chain ho ho' pa pb pc hm, ad_chain h h' aa ab ac⟩
/-! ### tests -/
def fTest (F : EF) : TF := fun γ μ => (F γ μ).bind fun w m => match w with
  | .v (.bl b) => .ok b m
  | _ => .bad
theorem ad_test {te} (h : Ad Wx te F) : AdT Wx (tB te) (fTest F) := fun D as γ μ σ H Q k ev g => by
  refine h D as γ μ σ H _ k ev ((G.bind RepW k g).mono fun x H1 ⟨D1, as1, μ1, wx, n1, k1, r1, g1⟩ => ?_)
  split at g1
  · obtain rfl := rep_bl r1
    exact ⟨_, rfl, g1.now (R := RepB) k1 rfl⟩
  · exact g1.elim
theorem pt_b (h : PP X Wx e F) (he : ∀ whole, isTrue e X.env whole = (do let v ← whole; standAt e.pos; holding [v] (truthy v)) := by intro _; rfl) : PPT X Wx e (fTest F) := let ⟨_, p, a⟩ := h; ⟨_, pt_val p he, ad_test a⟩
theorem ptt_cmp {op : CmpOp} {r : R2} {f} (ho : OpR X (compareOp op) r) (h : AdR2 Wx r f) (ha : PP X Wx a F1) (hb : PP X Wx b F2) (hm : behindInMarks op b = false := by first | exact nobehind _ (by decide) (by decide) | rfl) : PPT X Wx (.Compare a [op] [b] pos) (fTest (fOp f F1 F2)) :=
  let ⟨_, pa, aa⟩ := ha; let ⟨_, pb, ab⟩ := hb; ⟨_, pt_cmpR ho pa pb hm, ad_test (ad_op h aa ab)⟩
def fNotT (T : TF) : TF := fun γ μ => (T γ μ).bind fun b m => .ok (!b) m
theorem ptt_not (h : PPT X Wx a T) : PPT X Wx (.UnaryOp .Not a pos) (fNotT T) := let ⟨_, p, ad⟩ := h; ⟨_, pt_not p, fun D as γ μ σ H Q k ev g => by
  refine ad D as γ μ σ H _ k ev ((G.bind RepB k g).mono fun x H1 ⟨D1, as1, μ1, wx, n1, k1, r1, g1⟩ => ?_)
  obtain rfl : x = wx := r1
  exact g1.now (R := RepB) k1 rfl⟩
def fAndT (T U : TF) : TF := fun γ μ => (T γ μ).bind fun b m => if b = true then U γ m else .ok false m
def fOrT (T U : TF) : TF := fun γ μ => (T γ μ).bind fun b m => if b = true then .ok true m else U γ m
theorem ptw_and1 (h : PPT X Wx a T) : PPW X Wx (.BoolOp .And [a] pos) T := let ⟨_, p, ad⟩ := h; ⟨_, pw_and1 p, ad⟩
theorem ptw_or1 (h : PPT X Wx a T) : PPW X Wx (.BoolOp .Or [a] pos) T := let ⟨_, p, ad⟩ := h; ⟨_, pw_or1 p, ad⟩
theorem ptw_and (h : PPT X Wx a T1) (h2 : PPW X Wx (.BoolOp .And (b :: rest) pos) T2) : PPW X Wx (.BoolOp .And (a :: b :: rest) pos) (fAndT T1 T2) := let ⟨_, p, ad⟩ := h; let ⟨_, p2, ad2⟩ := h2; ⟨_, pw_and p p2, fun D as γ μ σ H Q k ev g => by
  refine ad D as γ μ σ H _ k ev ((G.bind RepB k g).mono fun x H1 ⟨D1, as1, μ1, wx, n1, k1, r1, g1⟩ => ?_)
  obtain rfl : x = wx := r1
  cases x with
  | true => exact ad2 D1 as1 γ μ1 σ H1 Q k1 (ev.nx n1) g1
  | false => exact g1.now (R := RepB) k1 rfl⟩
theorem ptw_or (h : PPT X Wx a T1) (h2 : PPW X Wx (.BoolOp .Or (b :: rest) pos) T2) : PPW X Wx (.BoolOp .Or (a :: b :: rest) pos) (fOrT T1 T2) := let ⟨_, p, ad⟩ := h; let ⟨_, p2, ad2⟩ := h2; ⟨_, pw_or p p2, fun D as γ μ σ H Q k ev g => by
  refine ad D as γ μ σ H _ k ev ((G.bind RepB k g).mono fun x H1 ⟨D1, as1, μ1, wx, n1, k1, r1, g1⟩ => ?_)
  obtain rfl : x = wx := r1
  cases x with
  | true => exact g1.now (R := RepB) k1 rfl
  | false => exact ad2 D1 as1 γ μ1 σ H1 Q k1 (ev.nx n1) g1⟩
theorem PPW.pt (h : PPW X Wx a T) : PPT X Wx a T := let ⟨_, p, ad⟩ := h; ⟨_, p.pt, ad⟩
/-! ### and, or, not of bools, as values -/
def fAndV (F U : EF) : EF := fun γ μ => (F γ μ).bind fun w m => match w with
  | .v (.bl true) => U γ m
  | .v (.bl false) => .ok (.v (.bl false)) m
  | _ => .bad
def fOrV (F U : EF) : EF := fun γ μ => (F γ μ).bind fun w m => match w with
  | .v (.bl true) => .ok (.v (.bl true)) m
  | .v (.bl false) => U γ m
  | _ => .bad
def fNotV (F : EF) : EF := fun γ μ => (F γ μ).bind fun w m => match w with
  | .v (.bl b) => .ok (.v (.bl (!b))) m
  | _ => .bad
theorem pp_one {op} (h : PP X Wx a F) : PP X Wx (.BoolOp op [a] pos) F := let ⟨_, p, ad⟩ := h; ⟨_, pe_one p, ad⟩
theorem pp_and (h : PP X Wx a F1) (h2 : PP X Wx (.BoolOp .And (b :: rest) pos) F2) : PP X Wx (.BoolOp .And (a :: b :: rest) pos) (fAndV F1 F2) := let ⟨_, p, ad⟩ := h; let ⟨_, p2, ad2⟩ := h2; ⟨_, pe_and p p2, fun D as γ μ σ H Q k ev g => by
  refine ad D as γ μ σ H _ k ev ((G.bind RepW k g).mono fun x H1 ⟨D1, as1, μ1, wx, n1, k1, r1, g1⟩ => ?_)
  split at g1
  · obtain rfl := rep_bl r1
    exact ⟨true, rfl, ad2 D1 as1 γ μ1 σ H1 Q k1 (ev.nx n1) g1⟩
  · obtain rfl := rep_bl r1
    exact ⟨false, rfl, nowV k1 g1 .bl⟩
  · exact g1.elim⟩
theorem pp_not (h : PP X Wx a F1) : PP X Wx (.UnaryOp .Not a pos) (fNotV F1) := let ⟨_, p, ad⟩ := h; ⟨_, pe_not p, fun D as γ μ σ H Q k ev g => by
  refine ad D as γ μ σ H _ k ev ((G.bind RepW k g).mono fun x H1 ⟨D1, as1, μ1, wx, n1, k1, r1, g1⟩ => ?_)
  split at g1
  · obtain rfl := rep_bl r1
    exact ⟨_, rfl, nowV k1 g1 .bl⟩
  · exact g1.elim⟩
def fIf (T : TF) (A B : EF) : EF := fun γ μ => (T γ μ).bind fun b m => if b = true then A γ m else B γ m
theorem pp_if (h : PPT X Wx c T) (ha : PP X Wx a F1) (hb : PP X Wx b F2) : PP X Wx (.IfExp c a b pos) (fIf T F1 F2) := let ⟨_, p, ad⟩ := h; let ⟨_, pa, aa⟩ := ha; let ⟨_, pb, ab⟩ := hb; ⟨_, pe_ifExp p pa pb, fun D as γ μ σ H Q k ev g => by
  refine ad D as γ μ σ H _ k ev ((G.bind RepB k g).mono fun x H1 ⟨D1, as1, μ1, wx, n1, k1, r1, g1⟩ => ?_)
  obtain rfl : x = wx := r1
  cases x with
  | true => exact aa D1 as1 γ μ1 σ H1 Q k1 (ev.nx n1) g1
  | false => exact ab D1 as1 γ μ1 σ H1 Q k1 (ev.nx n1) g1⟩
/-! ### arguments, displays -/
def fNil : AF := fun _ μ => .ok [] μ
def fCons (F : EF) (A : AF) : AF := fun γ μ => (F γ μ).bind fun w m => (A γ m).bind fun ws m => .ok (w :: ws) m
theorem ppa_nil : PPA X Wx [] fNil := ⟨_, pa_nil, fun D as γ μ σ H Q k ev g => g.now (R := RepWs) k .nil⟩
theorem ad_cons {te ta} (h : Ad Wx te F) (h2 : AdA Wx ta FA) : AdA Wx (tCons te ta) (fCons F FA) := fun D as γ μ σ H Q k ev g => by
  refine h D as γ μ σ H _ k ev ((G.bind RepW k g).mono fun x H1 ⟨D1, as1, μ1, wx, n1, k1, r1, g1⟩ => ?_)
  refine h2 D1 as1 γ μ1 σ H1 _ k1 (ev.nx n1) ((G.bind RepWs k1 g1).mono fun xs H2 ⟨D2, as2, μ2, ws, n2, k2, r2, g2⟩ => ?_)
  exact g2.now (R := RepWs) k2 (.cons (r1.nx n2) r2)
theorem ppa_cons (h : PP X Wx e F) (h2 : PPA X Wx es FA) (hs : starEach (e :: es) X.env = (false, eval e X.env) :: starEach es X.env := by rfl) : PPA X Wx (e :: es) (fCons F FA) := let ⟨_, p, ad⟩ := h; let ⟨_, p2, ad2⟩ := h2; ⟨_, pa_cons p p2 hs, ad_cons ad ad2⟩
/-- all of them values -/
def vals : List W → Option (List P)
  | [] => some []
  | .v p :: r => (vals r).map (p :: ·)
  | .loc _ :: _ => none
theorem vals_ok {D as H} : ∀ {vs : List V} {ws : List W} {ps : List P}, RepWs D as H vs ws → vals ws = some ps → Reps D H vs ps
  | _, _, _, .nil, e => by cases e; exact .nil
  | _, _, _, @RepWs.cons _ _ _ v (.v p) l m r t, e => by
    cases q : vals m with
    | none =>
      rw [vals, q] at e
      cases e
    | some qs =>
      rw [vals, q] at e
      cases e
      exact .cons r (vals_ok t q)
  | _, _, _, @RepWs.cons _ _ _ v (.loc j) l m r t, e => by cases e
def fSeq (mk : List P → P) (A : AF) : EF := fun γ μ => (A γ μ).bind fun ws m => match vals ws with
  | some ps => if ps.length ≤ 100000 then .ok (.v (mk ps)) m else .bad
  | none => .bad
theorem new_same' {H : Hp} {p : Addr} {o : HO} (np : H p = none) : Same H (upd H p o) := fun c u e => (upd_ne (ne_of_none e np)).trans e
/-- a value whose object is just laid -/
theorem nowN {σ : L2.St} {D : Addr → Prop} {as : Ps} {H H' : Hp} {μ : Μ} {p : P} {x : V} {Q : VK} (k : Sk D as H μ) (s : Same H H') (g : G Wx σ RepW D as H (.ok (.v p) μ) Q) (r : Rep D H' x p) : Q x H' :=
  g x D as H' (.of_same s) (k.same s) r
theorem Sk.nd {D : Addr → Prop} {as : Ps} {H : Hp} {μ : Μ} (k : Sk D as H μ) {p : Addr} (h : H p = none) : ¬ D p := fun d => let ⟨o, e⟩ := k.dn p d; by rw [h] at e; cases e
theorem ad_tup {ta} (h : AdA Wx ta FA) : Ad Wx (tTup ta) (fSeq .tup FA) := fun D as γ μ σ H Q k ev g => by
  refine h D as γ μ σ H _ k ev ((G.bind RepWs k g).mono fun xs H1 ⟨D1, as1, μ1, ws, n1, k1, r1, g1⟩ => ?_)
  split at g1
  · split at g1
    · rename_i ps q hl
      have rs := vals_ok r1 q
      refine ⟨sz_of (by rw [rs.length]; exact hl), fun p np => ?_⟩
      have s := new_same' (o := .tup xs) np
      exact nowN k1 s g1 (.tup (k1.nd np) (.inl upd_same) (Reps.sd (.same s) rs))
    · exact g1.elim
  · exact g1.elim
theorem ad_lst {ta} (h : AdA Wx ta FA) : Ad Wx (tLst ta) (fSeq .lst FA) := fun D as γ μ σ H Q k ev g => by
  refine h D as γ μ σ H _ k ev ((G.bind RepWs k g).mono fun xs H1 ⟨D1, as1, μ1, ws, n1, k1, r1, g1⟩ => ?_)
  split at g1
  · split at g1
    · rename_i ps q hl
      have rs := vals_ok r1 q
      refine ⟨sz_of (by rw [rs.length]; exact hl), fun p np => ?_⟩
      have s := new_same' (o := .lst xs) np
      exact nowN k1 s g1 (.lst (k1.nd np) (.inl upd_same) (Reps.sd (.same s) rs))
    · exact g1.elim
  · exact g1.elim
theorem pp_tup {x1} (h : PPA X Wx es FA) : PP X Wx (.Tuple es x1 pos) (fSeq .tup FA) := let ⟨_, p, ad⟩ := h; ⟨_, pe_tup p, ad_tup ad⟩
theorem pp_lst (h : PPA X Wx es FA) : PP X Wx (.List es pos) (fSeq .lst FA) := let ⟨_, p, ad⟩ := h; ⟨_, pe_lst p, ad_lst ad⟩
/-! ### a list that will change: it stands at the end of the places -/
def fLstC (A : AF) : EF := fun γ μ => (A γ μ).bind fun ws m => match vals ws with
  | some ps => if ps.length ≤ 100000 then .ok (.loc m.length) (m ++ [.lst ps]) else .bad
  | none => .bad
def plusD (D : Addr → Prop) (p : Addr) : Addr → Prop := fun a => D a ∨ a = p
theorem cell_new {D : Addr → Prop} {as : Ps} {H : Hp} {μ : Μ} {p : Addr} {o : HO} {c : PC} (k : Sk D as H μ) (np : H p = none) (h : CellOk (plusD D p) (upd H p o) p c) :
    Nx D as H (plusD D p) (as ++ [some p]) (upd H p o) ∧ Sk (plusD D p) (as ++ [some p]) (upd H p o) (μ ++ [c]) := by
  have s := new_same' (o := o) np
  have at' : ∀ (j : Nat) (a : Addr), (as ++ [some p])[j]? = some (some a) → as[j]? = some (some a) ∨ (j = as.length ∧ a = p) := fun j a e => by
    by_cases c : j < as.length
    · rw [List.getElem?_append_left c] at e
      exact .inl e
    · rw [List.getElem?_append_right (Nat.le_of_not_lt c)] at e
      cases z : j - as.length with
      | zero =>
        rw [z] at e
        refine .inr ⟨by omega, ?_⟩
        have := Option.some.inj (Option.some.inj e)
        exact this.symm
      | succ n =>
        rw [z] at e
        cases e
  have n : Nx D as H (plusD D p) (as ++ [some p]) (upd H p o) :=
    ⟨fun j x e => .inl (get_pre e), fun a o e => ⟨o, s _ _ e⟩, fun a d _ => .inl d, fun a d => d.elim .inl fun e => .inr (e ▸ np), fun j a e => (at' j a e).elim .inl fun z => .inr (z.2 ▸ np), fun a u _ _ e => s _ _ e, fun a u _ r => r.elim (fun r => .inl (s _ _ r)) fun ⟨o, r⟩ => .inr ⟨o, s _ _ r⟩, fun a o _ e _ => s _ _ e, fun a o u e => s _ _ e⟩
  refine ⟨n, ?_, fun a d => ?_, fun j a e => ?_, fun i j a e1 e2 => ?_, fun j a e => ?_, fun j e => ?_⟩
  · rw [List.length_append, List.length_append, k.len]
    rfl
  · rcases d with d | rfl
    · exact let ⟨o, e⟩ := k.dn a d; ⟨o, s _ _ e⟩
    · exact ⟨_, upd_same⟩
  · rcases at' j a e with e | ⟨_, rfl⟩
    · exact .inl (k.inD j a e)
    · exact .inr rfl
  · rcases at' i a e1 with q1 | ⟨q1, z1⟩
    · rcases at' j a e2 with q2 | ⟨q2, z2⟩
      · exact k.inj i j a q1 q2
      · exact absurd (z2 ▸ k.inD i a q1) (k.nd np)
    · rcases at' j a e2 with q2 | ⟨q2, z2⟩
      · exact absurd (z1 ▸ k.inD j a q2) (k.nd np)
      · rw [q1, q2]
  · rcases at' j a e with e | ⟨rfl, rfl⟩
    · obtain ⟨c', q, x⟩ := k.ok j a e
      refine ⟨c', ?_, x.sd n.sd (upd_ne fun z => k.nd np (z ▸ k.inD j a e))⟩
      rw [List.getElem?_append_left (List.getElem?_eq_some_iff.mp q).1]
      exact q
    · refine ⟨c, ?_, h⟩
      rw [k.len, List.getElem?_append_right (Nat.le_refl _), Nat.sub_self]
      rfl
  · by_cases c : j < as.length
    · rw [List.getElem?_append_left c] at e
      rw [List.getElem?_append_left (by rw [← k.len]; exact c)]
      exact k.dead j e
    · rw [List.getElem?_append_right (Nat.le_of_not_lt c)] at e
      cases z : j - as.length with
      | zero => rw [z] at e; cases e
      | succ n => rw [z] at e; cases e
theorem last_get {as : Ps} {p : Addr} : (as ++ [some p])[as.length]? = some (some p) := by
  rw [List.getElem?_append_right (Nat.le_refl _), Nat.sub_self]
  rfl
theorem sd_plus {D : Addr → Prop} {H : Hp} {p : Addr} {o : HO} (np : H p = none) : Sd D H (plusD D p) (upd H p o) := by
  have s := new_same' (o := o) np
  refine ⟨fun a u d e q => ?_, fun a u _ r => r.elim (fun r => .inl (s _ _ r)) fun ⟨o, r⟩ => .inr ⟨o, s _ _ r⟩, fun a o _ e _ => s _ _ e⟩
  rcases q with q | rfl
  · exact d q
  · rw [np] at e; cases e
theorem ad_lstC {ta} (h : AdA Wx ta FA) : Ad Wx (tLst ta) (fLstC FA) := fun D as γ μ σ H Q k ev g => by
  refine h D as γ μ σ H _ k ev ((G.bind RepWs k g).mono fun xs H1 ⟨D1, as1, μ1, ws, n1, k1, r1, g1⟩ => ?_)
  split at g1
  · split at g1
    · rename_i ps q hl
      have rs := vals_ok r1 q
      refine ⟨sz_of (by rw [rs.length]; exact hl), fun p np => ?_⟩
      obtain ⟨n2, k2⟩ := cell_new (o := .lst xs) (c := .lst ps) k1 np ⟨xs, upd_same, Reps.sd (sd_plus np) rs⟩
      exact g1 _ _ _ _ n2 k2 (.mk (by rw [← k1.len]; exact last_get))
    · exact g1.elim
  · exact g1.elim
theorem pp_lstC (h : PPA X Wx es FA) : PP X Wx (.List es pos) (fLstC FA) := let ⟨_, p, ad⟩ := h; ⟨_, pe_lst p, ad_lstC ad⟩
end
end Pu
set_option Elab.async false
set_option linter.all false
set_option maxRecDepth 100000
set_option maxHeartbeats 4000000
/-! Errors as values: made by position and by keyword, their attributes, isinstance. -/
set_option Elab.async false
set_option linter.all false
set_option maxRecDepth 100000
set_option maxHeartbeats 4000000
set_option Elab.async false
set_option linter.all false
set_option maxRecDepth 100000
set_option maxHeartbeats 4000000
set_option Elab.async false
set_option linter.all false
set_option maxRecDepth 100000
set_option maxHeartbeats 4000000
namespace Pu
open L2 PySem PySem.Spec PyProof.Rows E10
/-! ### statements -/
inductive OS where
  | nx (γ : Γ) (m : Μ) | ret (w : W) (m : Μ) | bk (γ : Γ) (m : Μ) | ct (γ : Γ) (m : Μ) | exc (C : Addr) (fs : List (Str × P)) (γ : Γ) (m : Μ) | bad
abbrev SF := Γ → Μ → OS
def O.s {α : Type} (o : O α) (γ : Γ) (f : α → Μ → OS) : OS := match o with
  | .ok a m => f a m
  | .exc C fs m => .exc C fs γ m
  | .bad => .bad
@[simp] theorem O.s_ok {α : Type} (a : α) (m γ) (f : α → Μ → OS) : (O.ok a m).s γ f = f a m := rfl
@[simp] theorem O.s_exc {α : Type} (C fs m γ) (f : α → Μ → OS) : (O.exc C fs m : O α).s γ f = .exc C fs γ m := rfl
@[simp] theorem O.s_bad {α : Type} (γ) (f : α → Μ → OS) : (O.bad : O α).s γ f = .bad := rfl
def GS (Wx : WX) (D : Addr → Prop) (as : Ps) (H : Hp) (l : Nat) (o : OS) (E : Ends) : Prop := match o with
  | .nx γ m => ∀ σ' D' as' H', Nx D as H D' as' H' → Sk D' as' H' m → EnvR D' as' H' σ' γ → σ'.length = l → E.nx σ' H'
  | .bk γ m => ∀ σ' D' as' H', Nx D as H D' as' H' → Sk D' as' H' m → EnvR D' as' H' σ' γ → σ'.length = l → E.bk σ' H'
  | .ct γ m => ∀ σ' D' as' H', Nx D as H D' as' H' → Sk D' as' H' m → EnvR D' as' H' σ' γ → σ'.length = l → E.ct σ' H'
  | .ret w m => ∀ v D' as' H', Nx D as H D' as' H' → Sk D' as' H' m → RepW D' as' H' v w → E.rt v H'
  | .exc C fs γ m => ∀ σ' d gs D' as' H', Nx D as H D' as' H' → Sk D' as' H' m → EnvR D' as' H' σ' γ → σ'.length = l → H' d = some (.xd gs) → RepS D' H' gs fs → Wx (.ref C) (some d) σ' H'
  | .bad => False
def AdS (Wx : WX) (ts : TS) (S : SF) : Prop := ∀ D as γ μ σ H E, Sk D as H μ → EnvR D as H σ γ → GS Wx D as H σ.length (S γ μ) E → ts E σ H
def PPS (X : Cx) (Wx : WX) (st : Stmt) (S : SF) : Prop := ∃ ts, PS X st ts ∧ AdS Wx ts S
def PPSs (X : Cx) (Wx : WX) (st : List Stmt) (S : SF) : Prop := ∃ ts, PSs X st ts ∧ AdS Wx ts S
section
variable {Wx : WX} {D D' : Addr → Prop} {as as' : Ps} {H H' : Hp} {μ μ' : Μ} {l : Nat} {o : OS} {E E' : Ends}
theorem GS.nx' (k : Sk D as H μ) (k' : Sk D' as' H' μ') (n : Nx D as H D' as' H') (g : GS Wx D as H l o E) : GS Wx D' as' H' l o E := by
  cases o with
  | nx γ m => exact fun σ' D2 as2 H2 n2 k2 e q => g σ' D2 as2 H2 (n.trans k k' n2) k2 e q
  | bk γ m => exact fun σ' D2 as2 H2 n2 k2 e q => g σ' D2 as2 H2 (n.trans k k' n2) k2 e q
  | ct γ m => exact fun σ' D2 as2 H2 n2 k2 e q => g σ' D2 as2 H2 (n.trans k k' n2) k2 e q
  | ret w m => exact fun v D2 as2 H2 n2 k2 r => g v D2 as2 H2 (n.trans k k' n2) k2 r
  | exc C fs γ m => exact fun σ' d gs D2 as2 H2 n2 k2 e q r r' => g σ' d gs D2 as2 H2 (n.trans k k' n2) k2 e q r r'
  | bad => exact g
/-- behind an expression -/
theorem GS.of_s {α β : Type} {R : RL β α} {ox : O α} {γ : Γ} {σ : L2.St} {f : α → Μ → OS} (k : Sk D as H μ) (ev : EnvR D as H σ γ) (g : GS Wx D as H σ.length (ox.s γ f) E) :
    G Wx σ R D as H ox fun b H1 => ∃ D1 as1 μ1 a, Nx D as H D1 as1 H1 ∧ Sk D1 as1 H1 μ1 ∧ EnvR D1 as1 H1 σ γ ∧ R D1 as1 H1 b a ∧ GS Wx D1 as1 H1 σ.length (f a μ1) E := by
  cases ox with
  | ok a m => exact fun b D2 as2 H2 n2 k2 r => ⟨D2, as2, m, a, n2, k2, ev.nx n2, r, GS.nx' k k2 n2 g⟩
  | exc C fs m => exact fun d gs D2 as2 H2 n2 k2 r q => g σ d gs D2 as2 H2 n2 k2 (ev.nx n2) rfl r q
  | bad => exact g
end
def sNext : SF := fun γ μ => .nx γ μ
def sSeq (S T : SF) : SF := fun γ μ => match S γ μ with
  | .nx γ1 m => T γ1 m
  | o => o
def sDrop (F : EF) : SF := fun γ μ => (F γ μ).s γ fun _ m => .nx γ m
/-- what a changing thing is worth when nothing changes it any more -/
def PC.p : PC → Option P
  | .lst ps => some (.lst ps)
  | .dct ps => some (.dct ps)
  | .ins C fs => some (.ins C fs)
  | .dead => none
  | .lstL ps => some (.lst ps)
  | .dctL ps => some (.dct ps)
def sRet (F : EF) : SF := fun γ μ => (F γ μ).s γ fun w m => .ret w m
def sIfS (T : TF) (S U : SF) : SF := fun γ μ => (T γ μ).s γ fun b m => if b = true then S γ m else U γ m
def sSet (i : Nat) (F : EF) : SF := fun γ μ => (F γ μ).s γ fun w m => .nx (γ.set i (some w)) m
section
variable {X : Cx} {Wx : WX} {e a b c : Expr} {es : List Expr} {st : Stmt} {rest sts : List Stmt} {F F1 F2 : EF} {T : TF} {S S1 S2 : SF} {FA : AF} {pos : Pos}
theorem pps_nil : PPSs X Wx [] sNext := ⟨_, pss_nil, fun D as γ μ σ H E k ev g => g σ D as H .refl k ev rfl⟩
theorem ad_seq {t u : TS} (h1 : AdS Wx t S1) (h2 : AdS Wx u S2) : AdS Wx (tSeq t u) (sSeq S1 S2) := fun D as γ μ σ H E k ev g => by
  refine h1 D as γ μ σ H _ k ev ?_
  unfold sSeq at g
  cases q : S1 γ μ with
  | nx γ1 m =>
    rw [q] at g
    exact fun σ' D' as' H' n k' e z => h2 D' as' γ1 m σ' H' E k' e (z ▸ GS.nx' k k' n g)
  | bk γ1 m => rw [q] at g; exact g
  | ct γ1 m => rw [q] at g; exact g
  | ret w m => rw [q] at g; exact g
  | exc C fs γ m => rw [q] at g; exact g
  | bad => rw [q] at g; exact g
theorem pps_cons (h1 : PPS X Wx st S1) (h2 : PPSs X Wx rest S2) : PPSs X Wx (st :: rest) (sSeq S1 S2) := let ⟨_, p, ad⟩ := h1; let ⟨_, p2, ad2⟩ := h2; ⟨_, pss_cons p p2, ad_seq ad ad2⟩
theorem pps_one (h1 : PPS X Wx st S1) : PPSs X Wx [st] S1 := let ⟨_, p, ad⟩ := h1; ⟨_, pss_one p, ad⟩
def sBad : SF := fun _ _ => .bad
theorem ppq_never : PPS X Wx st sBad := ⟨_, ps_never, fun D as γ μ σ H E k ev g => g⟩
theorem ppq_expr (h : PP X Wx e F) (hs : swapsWith e none pos.line X.env = pure false := by rfl) : PPS X Wx (.Expr e pos) (sDrop F) := let ⟨_, p, ad⟩ := h; ⟨_, ps_expr p hs, fun D as γ μ σ H E k ev g => by
  refine ad D as γ μ σ H _ k ev ((GS.of_s (R := RepW) k ev g).mono fun x H1 ⟨D1, as1, μ1, w, n1, k1, e1, r1, g1⟩ => ?_)
  exact g1 σ D1 as1 H1 .refl k1 e1 rfl⟩
theorem ppq_ret (h : PP X Wx e F) : PPS X Wx (.Return (some e) pos) (sRet F) := let ⟨_, p, ad⟩ := h; ⟨_, ps_ret p, fun D as γ μ σ H E k ev g => by
  refine ad D as γ μ σ H _ k ev ((GS.of_s (R := RepW) k ev g).mono fun x H1 ⟨D1, as1, μ1, w, n1, k1, e1, r1, g1⟩ => ?_)
  exact g1 x D1 as1 H1 .refl k1 r1⟩
theorem ppq_if {A B : List Stmt} (h : PPT X Wx c T) (h1 : PPSs X Wx A S1) (h2 : PPSs X Wx B S2) : PPS X Wx (.If c A B pos) (sIfS T S1 S2) := let ⟨_, p, ad⟩ := h; let ⟨_, p1, ad1⟩ := h1; let ⟨_, p2, ad2⟩ := h2; ⟨_, ps_if p p1 p2, fun D as γ μ σ H E k ev g => by
  refine ad D as γ μ σ H _ k ev ((GS.of_s (R := RepB) k ev g).mono fun x H1 ⟨D1, as1, μ1, w, n1, k1, e1, r1, g1⟩ => ?_)
  obtain rfl : x = w := r1
  cases x with
  | true => exact ad1 D1 as1 γ μ1 σ H1 E k1 e1 g1
  | false => exact ad2 D1 as1 γ μ1 σ H1 E k1 e1 g1⟩
theorem ppq_set {i : Nat} {x : Str} {pos' : Pos} (hN : X.N.Nodup) (hi : X.N[i]? = some x) (hx : Loc X.env.scope x) (h : PP X Wx e F) (hs : swapsWith e (some (.Name x pos')) pos.line X.env = pure false := by rfl)
    (hf : X.fn x = true ∨ X.env.scope.names.lookup x = some .local := by first | exact .inl rfl | exact .inr rfl | assumption) : PPS X Wx (.Assign [.Name x pos'] e pos) (sSet i F) := let ⟨_, p, ad⟩ := h; ⟨_, ps_set hN hi hx p hs hf, fun D as γ μ σ H E k ev g => by
  refine ad D as γ μ σ H _ k ev ((GS.of_s (R := RepW) k ev g).mono fun x H1 ⟨D1, as1, μ1, w, n1, k1, e1, r1, g1⟩ => ?_)
  exact g1 _ D1 as1 H1 .refl k1 (e1.set r1) (List.length_set ..)⟩
end
/-! ### a def -/
abbrev FF := List W → Μ → O W
/-- the places made within fall away; one that is handed back stands at the end -/
def leave (n : Nat) : OS → O W
  | .ret (.v p) m => .ok (.v p) (m.take n)
  | .ret (.loc j) m => if j < n then .ok (.loc j) (m.take n) else match m[j]? with
    | some c => if liveC c = true then .ok (.loc n) (m.take n ++ [c]) else .bad
    | none => .bad
  | .nx _ m => .ok (.v .non) (m.take n)
  | .exc C fs _ m => .exc C fs (m.take n)
  | _ => .bad
/-- the body, run on its parameters -/
def fDef (n : Nat) (N : Nat) (S : SF) : FF := fun ws μ => if ws.length = n then leave μ.length (S (ws.map some ++ List.replicate (N - n) none) μ) else .bad
def spP (n : Nat) (F : FF) : Sp := fun vs H Q E => vs.length = n ∧ ∃ D as ws μ, Sk D as H μ ∧ RepWs D as H vs ws ∧ G (fun c d _ H' => E c d H') [] RepW D as H (F ws μ) Q
structure FnX (P : Program) (w : World) (K : PySem.W.Frag) (mg : Str → Option Value) (base : Heap) (k : Nat) (f : Addr) (fd : FuncData) (ps : List Str) (sp : Sp) : Prop where
  few : ∀ {vs H Q E}, sp vs H Q E → vs.length = ps.length
  goes : ∀ {A : Around} {fr : List Env} {s : Shared} {H : Hp} {ar : Args} {us : List Value} {vs : List V} {Q : VK} {E : XK}, A.guards = some [] → Room k A → Env0 P w K mg base A fr s H → BindsTo s fd ar (ps.zip us) → Vals vs us → sp vs H Q E →
    codeAny (model P w) A (.call (.ref f) ar) (CR (L2.CX P w) fr P w H s Q E) s
theorem FnX.mono {P w K mg base j k f fd ps sp} (F : FnX P w K mg base j f fd ps sp) (h : j ≤ k) : FnX P w K mg base k f fd ps sp :=
  ⟨F.few, fun {A fr s H ar us vs Q E} g room env b v q => F.goes g (room.mono h) env b v q⟩
/-- where no error leaves -/
def noE (sp : Sp) : Sp := fun vs H Q _ => sp vs H Q L2.E0
theorem cx_e0 {P : Program} {w : World} {fr : List Env} {H : Hp} {s s' : Shared} {u : Value} (h : L2.CX P w fr H s L2.E0 u s') : False := by
  obtain ⟨_, _, _, _, _, _, _, _, _, _, _, _, z⟩ := h
  exact z
theorem FnX.g {P w K mg base k f fd ps sp} (F : FnX P w K mg base k f fd ps sp) : FnG P w K mg base k f fd ps (noE sp) :=
  ⟨fun {vs H Q E} h => F.few h, fun {A fr s H ar us vs Q E} g room env b v q => codeAny_mono (F.goes g room env b v q) fun r s' z => by
    match r, z with
    | .error e, z => exact (cx_e0 z).elim
    | .ok (.ret _), z => exact z
    | .ok .next, z => exact z.elim
    | .ok .brk, z => exact z.elim
    | .ok .cont, z => exact z.elim⟩
theorem Fun.okGX {P : Program} {w : World} {K : PySem.W.Frag} {mg : Str → Option Value} {base : Heap} {x qual : Str} {st : Stmt} {f : Addr} {fd : FuncData} {N ps : List Str} {k : Nat} {sp : Sp} (F : Fun K x qual st f fd) (S : FnScope N ps (defScope st)) (few : ∀ {vs H Q E}, sp vs H Q E → vs.length = ps.length)
    (body : ∀ (cdv : Value) (A : Around) (fr : List Env) (s : Shared) (H : Hp) (vs : List V) (Q : VK) (E : XK), A.guards = some [] → Room k (A.deeper (envOfC qual (defScope st) s.heap.objs.size f cdv)) → sp vs H Q E →
      ∃ t, PSs (cxOf (L2.CX P w) P w K mg base N qual (defScope st) f cdv A fr s H E) (defBody st) t ∧ t { nx := fun _ H' => Q .non H', rt := Q } (start N vs) H) : FnX P w K mg base (k + 1) f fd ps sp := by
  obtain ⟨oc, od, kV, doc, pm, an, cdv, ct, osl, rfl, lk, code⟩ := F.ex
  refine ⟨few, fun {A fr s H ar us vs Q E} hG room env bind val want => ?_⟩
  have inK : K.In s.heap := env.mod.kin.keeps fun c o e => (env.bs c o e).1
  refine codeAny_call_function room.depth (inK _ _ lk) rfl S.co S.gen rfl (PySem.W.codeRec_of inK code) (bind _ _ _ _ ?_)
  refine wpAny_newFunctionEnv_cells S.kind (fun ⟨n, v⟩ hy => (S.par n (List.of_mem_zip hy).1).elim .inl fun q => .inr ⟨q, PySem.W.cellsFrom_some _ _ _ (.inl q)⟩) fun own same s1 x => ?_
  subst same
  obtain ⟨t, T, wish⟩ := body cdv A fr s H vs Q E hG (room.deeper _) want
  have begun : Inv (cxOf (L2.CX P w) P w K mg base N qual (defScope st) f cdv A fr s H E) [] (start N vs) H s1 := inv_start S room.hd env (few want) val x
  refine ⟨(env.mod.nolimit.keeps fun c o e => (env.bs c o e).1).keeps x.toInCall.keep, codeAny_func (wpAny_mono (T.run [] s1 _ H _ begun wish) (fun fl s2 ends => ?_) fun e s' z => z)⟩
  match fl, ends with
  | .ret _, ⟨v, _, H2, J, rv, q⟩ => exact ⟨v, H2, J.os, J.bare, J.base, J.hok, rv, q⟩
  | .next, ⟨_, H2, J, q⟩ => exact ⟨V.non, H2, J.os, J.bare, J.base, J.hok, rfl, q⟩
  | .brk, ⟨_, _, _, q⟩ => exact q.elim
  | .cont, ⟨_, _, _, q⟩ => exact q.elim
end Pu
set_option Elab.async false
set_option linter.all false
set_option maxRecDepth 100000
set_option maxHeartbeats 4000000
namespace Pu
open L2 PySem PySem.Spec PyProof.Rows E10
section
variable {D D' : Addr → Prop} {as as' : Ps} {H H' : Hp} {μ m : Μ}
theorem take_get {as : Ps} {n j : Nat} {x : Option Addr} (h : (as.take n)[j]? = some x) : j < n ∧ as[j]? = some x := by
  rw [List.getElem?_take] at h
  split at h
  · exact ⟨by assumption, h⟩
  · cases h
/-- the places made within are forgotten -/
theorem Sk.cut (k : Sk D as H μ) (k' : Sk D' as' H' m) (n : Nx D as H D' as' H') : Nx D as H D' (as'.take as.length) H' ∧ Sk D' (as'.take as.length) H' (m.take μ.length) := by
  have lt : ∀ {j : Nat} {x : Option Addr}, as[j]? = some x → j < as.length := fun e => (List.getElem?_eq_some_iff.mp e).1
  refine ⟨⟨fun j x e => ?_, n.ex, n.mono, n.new, fun j a e => n.fresh j a (take_get e).2, n.hid, n.rd, n.sol, n.lck⟩, ?_, k'.dn, fun j a q => k'.inD j a (take_get q).2, fun i j a q r => k'.inj i j a (take_get q).2 (take_get r).2, fun j a q => ?_, fun j e => ?_⟩
  · rw [List.getElem?_take_of_lt (lt e)]
    exact n.pre j x e
  · rw [List.length_take, List.length_take, k'.len, k.len]
  · obtain ⟨l, q⟩ := take_get q
    obtain ⟨c, q1, x⟩ := k'.ok j a q
    exact ⟨c, by rw [List.getElem?_take_of_lt (by rw [← k.len]; exact l)]; exact q1, x⟩
  · obtain ⟨l, q⟩ := take_get e
    rw [List.getElem?_take_of_lt (by rw [← k.len]; exact l)]
    exact k'.dead j q
/-- .. all but one -/
theorem Sk.cut1 (k : Sk D as H μ) (k' : Sk D' as' H' m) (n : Nx D as H D' as' H') {j : Nat} {a : Addr} {c : PC} (hj : μ.length ≤ j) (e : as'[j]? = some (some a)) (q : m[j]? = some c) :
    Nx D as H D' (as'.take as.length ++ [some a]) H' ∧ Sk D' (as'.take as.length ++ [some a]) H' (m.take μ.length ++ [c]) := by
  obtain ⟨n0, k0⟩ := k.cut k' n
  have na : H a = none := by
    rcases n.fresh j a e with z | z
    · have lt := (List.getElem?_eq_some_iff.mp z).1
      rw [k.len] at lt
      omega
    · exact z
  have at' : ∀ {i : Nat} {x : Option Addr}, (as'.take as.length ++ [some a])[i]? = some x → (as'.take as.length)[i]? = some x ∨ (i = (as'.take as.length).length ∧ x = some a) := fun {i x} z => by
    by_cases lt : i < (as'.take as.length).length
    · rw [List.getElem?_append_left lt] at z
      exact .inl z
    · rw [List.getElem?_append_right (Nat.le_of_not_lt lt)] at z
      cases y : i - (as'.take as.length).length with
      | zero =>
        rw [y] at z
        exact .inr ⟨by omega, (Option.some.inj z).symm⟩
      | succ x =>
        rw [y] at z
        cases z
  have anot : ∀ i : Nat, (as'.take as.length)[i]? ≠ some (some a) := fun i z => by
    obtain ⟨l, z⟩ := take_get z
    have := k'.inj i j a z e
    have := k.len
    omega
  obtain ⟨c', q', x⟩ := k'.ok j a e
  rw [q] at q'
  cases q'
  refine ⟨⟨fun j x e => (n0.pre j x e).imp get_pre get_pre, n.ex, n.mono, n.new, fun i b z => (at' z).elim (fun z => n0.fresh i b z) fun y => .inr ((Option.some.inj y.2) ▸ na), n.hid, n.rd, n.sol, n.lck⟩, ?_, k'.dn, fun i b z => ?_, fun i i' b z y => ?_, fun i b z => ?_, fun i z => ?_⟩
  · rw [List.length_append, List.length_append, k0.len]
    rfl
  · rcases at' z with z | ⟨_, z⟩
    · exact k0.inD i b z
    · cases z; exact k'.inD j _ e
  · rcases at' z with z | ⟨z1, z2⟩
    · rcases at' y with y | ⟨y1, y2⟩
      · exact k0.inj i i' b z y
      · cases y2; exact absurd z (anot i)
    · rcases at' y with y | ⟨y1, y2⟩
      · cases z2; exact absurd y (anot i')
      · rw [z1, y1]
  · rcases at' z with z | ⟨z1, z2⟩
    · obtain ⟨d, r, x'⟩ := k0.ok i b z
      refine ⟨d, ?_, x'⟩
      rw [List.getElem?_append_left (List.getElem?_eq_some_iff.mp r).1]
      exact r
    · cases z2
      refine ⟨c, ?_, x⟩
      rw [z1, k0.len, List.getElem?_append_right (Nat.le_refl _), Nat.sub_self]
      rfl
  · rcases at' z with z | ⟨_, z⟩
    · have y := k0.dead i z
      rw [List.getElem?_append_left (List.getElem?_eq_some_iff.mp y).1]
      exact y
    · cases z
theorem take_len {k : Sk D as H μ} {k' : Sk D' as' H' m} (n : Nx D as H D' as' H') : (as'.take as.length).length = as.length := by
  rw [List.length_take]
  have := n.len
  omega
theorem RepWs.env {vs : List V} {ws : List W} (r : RepWs D as H vs ws) (N : Nat) : EnvR D as H (vs.map some ++ List.replicate (N - vs.length) none) (ws.map some ++ List.replicate (N - ws.length) none) := by
  have hl := r.length
  refine ⟨by simp [hl], fun i w e => ?_⟩
  by_cases lt : i < ws.length
  · rw [List.getElem?_append_left (by simpa using lt), List.getElem?_map] at e
    rw [List.getElem?_append_left (by simpa [hl] using lt), List.getElem?_map]
    clear lt hl
    induction r generalizing i with
    | nil => simp at e
    | cons r t ih =>
      cases i with
      | zero =>
        simp only [List.getElem?_cons_zero, Option.map_some, Option.some.injEq] at e ⊢
        subst e
        exact ⟨_, rfl, r⟩
      | succ i => exact ih i (by simpa using e)
  · rw [List.getElem?_append_right (by simpa using Nat.le_of_not_lt lt), List.getElem?_replicate] at e
    split at e <;> cases e
end
section
variable {P : Program} {w : World} {K : PySem.W.Frag} {mg : Str → Option Value} {base : Heap}
/-- the body, from the slots as they are at first -/
theorem def_in {t : TS} {S : SF} {N ps : List Str} {vs : List V} {ws : List W} {D : Addr → Prop} {as : Ps} {H : Hp} {μ : Μ} {Q : VK} {E : XK} (ad : AdS (fun c d _ H' => E c d H') t S) (hl : vs.length = ps.length) (k : Sk D as H μ) (r : RepWs D as H vs ws)
    (g : G (fun c d _ H' => E c d H') [] RepW D as H (fDef ps.length N.length S ws μ) Q) : t { nx := fun _ H' => Q .non H', rt := Q } (L2.start N vs) H := by
  refine ad D as (ws.map some ++ List.replicate (N.length - ps.length) none) μ _ H _ k ?_ ?_
  · have := r.env N.length
    rw [← r.length, hl] at this
    unfold L2.start
    rw [hl]
    exact this
  · unfold fDef at g
    rw [if_pos (by rw [← r.length]; exact hl)] at g
    generalize S (ws.map some ++ List.replicate (N.length - ps.length) none) μ = o at g ⊢
    cases o with
    | nx γ m =>
      intro σ' D' as' H' n k' _ _
      obtain ⟨n0, k0⟩ := k.cut k' n
      exact g .non D' _ H' n0 k0 (show RepW D' as H' .non (.v .non) from .non)
    | bk γ m => exact g.elim
    | ct γ m => exact g.elim
    | bad => exact g.elim
    | exc C fs γ m =>
      intro σ' d gs D' as' H' n k' _ _ e q
      obtain ⟨n0, k0⟩ := k.cut k' n
      exact g d gs D' _ H' n0 k0 e q
    | ret v m =>
      cases v with
      | v p =>
        intro x D' as' H' n k' q
        obtain ⟨n0, k0⟩ := k.cut k' n
        exact g x D' _ H' n0 k0 (show RepW D' as H' x (.v p) from q)
      | loc j =>
        intro x D' as' H' n k' q
        unfold leave at g
        by_cases lt : j < μ.length
        · simp only [lt, if_true] at g
          obtain ⟨n0, k0⟩ := k.cut k' n
          refine g x D' _ H' n0 k0 ?_
          obtain ⟨y, e, q⟩ := q
          exact ⟨y, by rw [List.getElem?_take_of_lt (by rw [k.len]; exact lt)]; exact e, q⟩
        · simp only [lt, if_false] at g
          split at g
          · rename_i c q1
            split at g
            · rename_i hl
              obtain ⟨a, e, rfl, x⟩ := q.adr k' q1 (liveC_ne hl)
              obtain ⟨n0, k0⟩ := k.cut1 k' n (Nat.le_of_not_lt lt) e q1
              refine g (.ref a) D' _ H' n0 k0 (.mk ?_)
              have hg : (as'.take as.length ++ [some a])[(as'.take as.length).length]? = some (some a) := last_get
              rw [take_len (k := k) (k' := k') n] at hg
              rw [← k.len]
              exact hg
            · exact g.elim
          · exact g.elim
/-- THE RULE for a def -/
theorem Fun.pp {x qual : Str} {st : Stmt} {f : Addr} {fd : FuncData} {N ps : List Str} {k : Nat} {S : SF} (F : Fun K x qual st f fd) (Sc : FnScope N ps (defScope st))
    (body : ∀ (cdv : Value) (A : Around) (fr : List Env) (s : Shared) (H : Hp) (E : XK), A.guards = some [] → Room k (A.deeper (envOfC qual (defScope st) s.heap.objs.size f cdv)) →
      PPSs (cxOf (L2.CX P w) P w K mg base N qual (defScope st) f cdv A fr s H E) (fun c d _ H' => E c d H') (defBody st) S) : FnX P w K mg base (k + 1) f fd ps (spP ps.length (fDef ps.length N.length S)) := by
  refine Fun.okGX F Sc (fun h => h.1) (fun cdv A fr s H vs Q E hG hr h => ?_)
  obtain ⟨hl, D, as, ws, μ, k, r, g⟩ := h
  obtain ⟨t, p, ad⟩ := body cdv A fr s H E hG hr
  exact ⟨t, p, def_in ad hl k r g⟩
end
/-! ### calls -/
section
variable {X : Cx} {Wx : WX} {k : Nat} {f C : Addr} {fd : FuncData} {ps : List Str} {sp : Sp} {A : Around} {pins : List (Addr × Obj)} {σ : L2.St} {H : Hp} {s : Shared} {Q : VK} {us : List Value} {vs : List V}
theorem run_atX (F : FnX X.prog X.w X.K X.mg X.base k f fd ps sp) (fr : A.frames = X.A.frames) (hG : A.guards = some []) (room : Room k A) (bi : Binds X.K fd ps []) (tk : Takes X Wx) (I : Inv X pins σ H s) (r : Vals vs us) (q : sp vs H Q (WE Wx σ)) :
    wpAny (model X.prog X.w) A (call (.ref f) us) (EP X pins σ Q) X.xe s := by
  have n1 : us.length = ps.length := r.length.symm.trans (F.few q)
  have e0 : Env0 X.prog X.w X.K X.mg X.base A X.stack s H := by
    have e := I.env0
    exact ⟨by rw [fr]; exact e.frames, e.mod, e.bs, e.bsz, e.funs, e.frf, e.hok, e.bare⟩
  refine wpAny_call (codeAny_mono (F.goes (ar := ⟨us, []⟩) hG room e0 (by
    have := bi s us I.kIn (by simpa using n1)
    simpa using this) r q) fun res s2 ends => ?_)
  match res, ends with
  | .error e, z => exact passAt tk σ pins H s e s2 I z
  | .ok (.ret _), z => exact I.after z
  | .ok .next, z => exact z.elim
  | .ok .brk, z => exact z.elim
  | .ok .cont, z => exact z.elim
/-- a def of the module, with a pure promise -/
structure DP (P : Program) (w : World) (K : PySem.W.Frag) (mg : Str → Option Value) (base : Heap) (x : Str) (n : Nat) (k : Nat) (F : FF) : Prop where
  ex : ∃ (f : Addr) (fd : FuncData) (ps : List Str), ps.length = n ∧ FnX P w K mg base k f fd ps (spP n F) ∧ mg x = some (.ref f) ∧ PySem.W.keepIn K (.ref f) = true ∧ Binds K fd ps []
def fCall (F : FF) (A : AF) : EF := fun γ μ => (A γ μ).bind fun ws m => F ws m
theorem ad_callS {n : Nat} {F : FF} {ta : TA} {FA : AF} (h : AdA Wx ta FA) (hn : ∀ ws μ, ws.length ≠ n → F ws μ = .bad) : Ad Wx (tCallS (spP n F) (WE Wx) ta) (fCall F FA) := fun D as γ μ σ H Q k ev g => by
  refine h D as γ μ σ H _ k ev ((G.bind RepWs k g).mono fun xs H1 ⟨D1, as1, μ1, ws, n1, k1, r1, g1⟩ => ?_)
  refine ⟨?_, D1, as1, ws, μ1, k1, r1, ?_⟩
  · by_cases c : ws.length = n
    · rw [r1.length]; exact c
    · rw [hn ws μ1 c] at g1
      exact g1.elim
  · cases o : F ws μ1 with
    | ok w m => rw [o] at g1; exact g1
    | exc C fs m => rw [o] at g1; exact g1
    | bad => rw [o] at g1; exact g1
theorem fDef_len {n N : Nat} {S : SF} : ∀ ws μ, ws.length ≠ n → fDef n N S ws μ = .bad := fun ws μ h => by
  unfold fDef
  rw [if_neg h]
theorem pe_callX {x : Str} {e : Expr} {es : List Expr} {ta : TA} {p pos : Pos} (F : FnX X.prog X.w X.K X.mg X.base k f fd ps sp) (hG : X.A.guards = some []) (hr : Room k X.A) (hg : Gl X x) (hm : X.mg x = some (.ref f)) (hk : PySem.W.keepIn X.K (.ref f) = true) (hb : Binds X.K fd ps []) (tk : Takes X Wx)
    (ha : PA X (e :: es) ta) (hdb : (x == ("__debug__" : Str)) = false := by decide) (he : starEach (e :: es) X.env = (false, eval e X.env) :: starEach es X.env := by rfl) (hpl : (backTo pos (starEach es X.env)).any (·.1) = false := by rfl) :
    PE X (.Call (.Name x p) (e :: es) [] pos) (tCallS sp (WE Wx) ta) := by
  refine ⟨fun pins s σ H Q I h => ?_⟩
  refine wpAny_Call_Name_kw (ld_glob I hg hm ?_ hdb)
  refine PySem.W.callWith_K (h₀ := X.base) I.ok.mod.kin hk (thn (ha.run pos pins s σ H _ I h) fun us s1 ⟨vs, H1, I1, r, q⟩ => ⟨I1.kIn, ?_⟩) he hpl
  exact run_atX F rfl hG hr hb tk I1 r q
theorem pp_call {x : Str} {e : Expr} {es : List Expr} {FA : AF} {p pos : Pos} {n : Nat} {F : FF} (d : DP X.prog X.w X.K X.mg X.base x n k F) (hG : X.A.guards = some []) (hr : Room k X.A) (tk : Takes X Wx) (hg : Gl X x) (ha : PPA X Wx (e :: es) FA) (hn : ∀ ws μ, ws.length ≠ n → F ws μ = .bad := by exact fDef_len)
    (hdb : (x == ("__debug__" : Str)) = false := by decide) (he : starEach (e :: es) X.env = (false, eval e X.env) :: starEach es X.env := by rfl) (hpl : (backTo pos (starEach es X.env)).any (·.1) = false := by rfl) :
    PP X Wx (.Call (.Name x p) (e :: es) [] pos) (fCall F FA) := by
  obtain ⟨f, fd, ps, hl, FX, hm, hk, hb⟩ := d.ex
  obtain ⟨ta, pa, ad⟩ := ha
  exact ⟨_, pe_callX FX hG hr hg hm hk hb tk pa hdb he hpl, ad_callS ad hn⟩
end
end Pu
set_option Elab.async false
set_option linter.all false
set_option maxRecDepth 100000
set_option maxHeartbeats 4000000
namespace Pu
open L2 PySem PySem.Spec PyProof.Rows E10
/-! ### texts, sorted -/
def leS (a b : Str) : Bool := !decide (b.cps.toList < a.cps.toList)
theorem leS_tr (a b c : Str) (h1 : leS a b = true) (h2 : leS b c = true) : leS a c = true := by
  unfold leS at *
  simp only [Bool.not_eq_true', decide_eq_false_iff_not] at *
  exact codes_tr h1 h2
theorem leS_tot (a b : Str) : (leS a b || leS b a) = true := by
  unfold leS
  by_cases h : a.cps.toList < b.cps.toList
  · simp [codes_asym h]
  · simp [h]
theorem leS_anti {a b : Str} (h1 : leS a b = true) (h2 : leS b a = true) : a = b := by
  unfold leS at *
  simp only [Bool.not_eq_true', decide_eq_false_iff_not] at *
  have e : a.cps.toList = b.cps.toList := List.le_antisymm (List.not_lt.mp h1) (List.not_lt.mp h2)
  exact Str.ext' (Array.toList_inj.mp e)
def srt (l : List Str) : List Str := l.mergeSort leS
theorem srt_perm (l : List Str) : (srt l).Perm l := List.mergeSort_perm ..
theorem srt_pw (l : List Str) : (srt l).Pairwise fun a b => leS a b = true := List.pairwise_mergeSort leS_tr leS_tot l
theorem uniq_sorted : ∀ {l m : List Str}, l.Pairwise (fun a b => leS a b = true) → m.Pairwise (fun a b => leS a b = true) → l.Perm m → l = m
  | [], m, _, _, p => (List.Perm.eq_nil p.symm).symm
  | x :: l, [], _, _, p => absurd p.length_eq (by simp)
  | x :: l, y :: m, hl, hm, p => by
    rw [List.pairwise_cons] at hl hm
    have e : x = y := by
      rcases List.mem_cons.mp (p.mem_iff.mp (List.mem_cons_self (a := x) (l := l))) with e | hx
      · exact e
      · rcases List.mem_cons.mp (p.mem_iff.mpr (List.mem_cons_self (a := y) (l := m))) with e | hy
        · exact e.symm
        · exact leS_anti (hl.1 _ hy) (hm.1 _ hx)
    subst e
    rw [uniq_sorted hl.2 hm.2 p.cons_inv]
theorem pw_of_rising : ∀ {l : List Str} {p : Str}, risingS p l = true → (p :: l).Pairwise fun a b => leS a b = true
  | [], p, _ => List.pairwise_singleton ..
  | x :: r, p, h => by
    have h2 : (!ltCps x.cps.toList p.cps.toList && risingS x r) = true := h
    obtain ⟨a, b⟩ := Bool.and_eq_true_iff.mp h2
    have pw := pw_of_rising b
    have le : leS p x = true := by
      unfold leS
      rw [ltCps_eq] at a
      exact a
    rw [List.pairwise_cons]
    refine ⟨fun z hz => ?_, pw⟩
    rcases List.mem_cons.mp hz with rfl | hz
    · exact le
    · exact leS_tr _ _ _ le ((List.pairwise_cons.mp pw).1 z hz)
theorem pw_of_sortedS {l : List Str} (h : sortedS l = true) : l.Pairwise fun a b => leS a b = true := by
  cases l with
  | nil => exact .nil
  | cons x r => exact pw_of_rising h
theorem srt_uniq {ys l : List Str} (p : ys.Perm l) (h : sortedS ys = true) : ys = srt l := uniq_sorted (pw_of_sortedS h) (srt_pw l) (p.trans (srt_perm l).symm)
theorem srt_nodup {l : List Str} (h : l.Nodup) : (srt l).Nodup := (srt_perm l).nodup_iff.mpr h
theorem srt_mem {l : List Str} {z : Str} : z ∈ srt l ↔ z ∈ l := (srt_perm l).mem_iff
theorem srt_len (l : List Str) : (srt l).length = l.length := (srt_perm l).length_eq
theorem srt_eq {a b : List Str} (p : a.Perm b) : srt a = srt b := uniq_sorted (srt_pw a) (srt_pw b) ((srt_perm a).trans (p.trans (srt_perm b).symm))
theorem srt_id {a : List Str} (h : a.Pairwise fun a b => leS a b = true) : srt a = a := uniq_sorted (srt_pw a) h (srt_perm a)
/-! ### what is read of a value -/
def rdL (μ : Μ) : W → Option (List P)
  | .v (.lst ps) => some ps
  | .loc j => match μ[j]? with
    | some (.lst ps) => some ps
    | some (.lstL ps) => some ps
    | _ => none
  | _ => none
def rdD (μ : Μ) : W → Option (List (Key × P))
  | .v (.dct ps) => some ps
  | .loc j => match μ[j]? with
    | some (.dct ps) => some ps
    | some (.dctL ps) => some ps
    | _ => none
  | _ => none
def rdI (μ : Μ) : W → Option (Addr × List (Str × P))
  | .v (.ins C ps) => some (C, ps)
  | .loc j => match μ[j]? with
    | some (.ins C ps) => some (C, ps)
    | _ => none
  | _ => none
section
variable {D : Addr → Prop} {as : Ps} {H : Hp} {μ : Μ} {v : V} {w : W}
theorem rdL_ok {ps : List P} (k : Sk D as H μ) (r : RepW D as H v w) (h : rdL μ w = some ps) : ∃ a xs, v = .ref a ∧ Rd H a (.lst xs) ∧ Reps D H xs ps := by
  unfold rdL at h
  split at h
  · cases h
    cases r with
    | lst n hr rs => exact ⟨_, _, rfl, hr, rs⟩
  · split at h
    · rename_i q
      cases h
      obtain ⟨a, e, rfl, x⟩ := r.adr k q (by simp)
      obtain ⟨xs, hx, rs⟩ := x
      exact ⟨a, xs, rfl, .inl hx, rs⟩
    · rename_i q
      cases h
      obtain ⟨a, e, rfl, x⟩ := r.adr k q (by simp)
      obtain ⟨od, xs, hx, rs⟩ := x
      exact ⟨a, xs, rfl, .inr ⟨od, hx⟩, rs⟩
    · cases h
  · cases h
theorem rdD_ok {ps : List (Key × P)} (k : Sk D as H μ) (r : RepW D as H v w) (h : rdD μ w = some ps) : ∃ a xs, v = .ref a ∧ Rd H a (.dK xs) ∧ RepK D H xs ps := by
  unfold rdD at h
  split at h
  · cases h
    cases r with
    | dct n hr rs => exact ⟨_, _, rfl, hr, rs⟩
  · split at h
    · rename_i q
      cases h
      obtain ⟨a, e, rfl, x⟩ := r.adr k q (by simp)
      obtain ⟨xs, hx, rs⟩ := x
      exact ⟨a, xs, rfl, .inl hx, rs⟩
    · rename_i q
      cases h
      obtain ⟨a, e, rfl, x⟩ := r.adr k q (by simp)
      obtain ⟨od, xs, hx, rs⟩ := x
      exact ⟨a, xs, rfl, .inr ⟨od, hx⟩, rs⟩
    · cases h
  · cases h
theorem rdI_ok {C : Addr} {ps : List (Str × P)} (k : Sk D as H μ) (r : RepW D as H v w) (h : rdI μ w = some (C, ps)) : ∃ a dx xs, v = .ref a ∧ H a = some (.ins C dx xs) ∧ RepS D H xs ps := by
  unfold rdI at h
  split at h
  · cases h
    cases r with
    | ins n hr rs => exact ⟨_, _, _, rfl, hr, rs⟩
  · split at h
    · rename_i q
      cases h
      obtain ⟨a, e, rfl, x⟩ := r.adr k q (by simp)
      obtain ⟨dx, xs, hx, rs⟩ := x
      exact ⟨a, dx, xs, rfl, hx, rs⟩
    · cases h
  · cases h
theorem rep_tup {ps : List P} (r : Rep D H v (.tup ps)) : ∃ a xs, v = .ref a ∧ ¬ D a ∧ Rd H a (.tup xs) ∧ Reps D H xs ps := by
  cases r with
  | tup n hr rs => exact ⟨_, _, rfl, n, hr, rs⟩
theorem RepK.val {k : Key} : ∀ {vs : List (Key × V)} {ps : List (Key × P)}, RepK D H vs ps → ∀ {p}, (ps.find? fun kv => decide (kv.1 = k)).map (·.2) = some p → ∃ v, valV vs k = some v ∧ Rep D H v p
  | _, _, @RepK.cons _ _ k' v p l m r t, q, e => by
    by_cases c : k' = k
    · subst c
      simp only [List.find?_cons, decide_true, Option.map_some, Option.some.injEq] at e
      subst e
      exact ⟨v, by simp [valV], r⟩
    · simp only [List.find?_cons, decide_eq_false c] at e
      obtain ⟨v', h1, h2⟩ := RepK.val t e
      exact ⟨v', by simpa [valV, List.find?_cons, decide_eq_false c] using h1, h2⟩
theorem RepK.val_none {k : Key} : ∀ {vs : List (Key × V)} {ps : List (Key × P)}, RepK D H vs ps → (ps.find? fun kv => decide (kv.1 = k)).map (·.2) = none → valV vs k = none
  | _, _, .nil, _ => rfl
  | _, _, @RepK.cons _ _ k' v p l m r t, e => by
    by_cases c : k' = k
    · subst c
      simp at e
    · simp only [List.find?_cons, decide_eq_false c] at e
      have := RepK.val_none t e
      simpa [valV, List.find?_cons, decide_eq_false c] using this
end
/-- what a dict has for a key -/
def valP (ps : List (Key × P)) (k : Key) : Option P := (ps.find? fun kv => decide (kv.1 = k)).map (·.2)
def keyP : P → Option Key
  | .int i => some (.inl i)
  | .str x => some (.inr x)
  | _ => none
theorem keyP_ok {D : Addr → Prop} {H : Hp} {v : V} {p : P} {k : Key} (r : Rep D H v p) (h : keyP p = some k) : v = kV k := by
  cases p <;> cases h <;> cases r <;> rfl
/-! ### d[k], k in d -/
def fDGet : W → W → Μ → O W := fun x y μ => match rdD μ x, y with
  | some ps, .v q => match keyP q with
    | some k => match valP ps k with
      | some p => .ok (.v p) μ
      | none => .bad
    | none => .bad
  | _, _ => .bad
def fDIn (neg : Bool) : W → W → Μ → O W := fun y x μ => match rdD μ x, y with
  | some ps, .v q => match keyP q with
    | some k => .ok (.v (.bl ((valP ps k).isSome != neg))) μ
    | none => .bad
  | _, _ => .bad
section
variable {X : Cx} {Wx : WX} {e a b c : Expr} {es : List Expr} {F F1 F2 : EF} {FA : AF} {pos : Pos}
theorem ad_dget {td ty : TE} (h : Ad Wx td F1) (h2 : Ad Wx ty F2) : Ad Wx (tDGet td ty) (fOp fDGet F1 F2) := ad_op (r := fun x y H Q => ∃ a v, x = .ref a ∧ DGet H a y (some v) ∧ Q v H) (fun D as μ σ H x y a b Q k ra rb gg => by
  unfold fDGet at gg
  split at gg
  · rename_i ps q e1
    split at gg
    · rename_i kk e3
      split at gg
      · rename_i p e4
        obtain ⟨ad, xs, rfl, hr, rs⟩ := rdD_ok k ra e1
        obtain ⟨v, q1, q2⟩ := rs.val e4
        refine ⟨ad, v, rfl, .inl ⟨xs, kk, hr, keyP_ok rb e3, q1.symm⟩, nowV k gg q2⟩
      · exact gg.elim
    · exact gg.elim
  · exact gg.elim) h h2
theorem pp_dget (hu : X.A.units + 1 < cLine) (ho : PP X Wx a F1) (hi : PP X Wx b F2) (hs : NoSl b := by exact fun _ _ => rfl) : PP X Wx (.Subscript a b pos) (fOp fDGet F1 F2) :=
  let ⟨_, p, ad⟩ := ho; let ⟨_, p2, ad2⟩ := hi; ⟨_, pe_dget hu p p2 hs, ad_dget ad ad2⟩
theorem ad_dinR {neg : Bool} : AdR2 Wx (fun y x H Q => ∃ a o, x = .ref a ∧ DGet H a y o ∧ Q (.bl (o.isSome != neg)) H) (fDIn neg) := fun D as μ σ H y x b a Q k rb ra gg => by
  unfold fDIn at gg
  split at gg
  · rename_i ps q e1
    split at gg
    · rename_i kk e3
      obtain ⟨ad, xs, rfl, hr, rs⟩ := rdD_ok k ra e1
      refine ⟨ad, valV xs kk, rfl, .inl ⟨xs, kk, hr, keyP_ok rb e3, rfl⟩, ?_⟩
      have : (valV xs kk).isSome = (valP ps kk).isSome := by
        cases e4 : valP ps kk with
        | some p =>
          obtain ⟨v, q1, q2⟩ := rs.val e4
          rw [q1]
          rfl
        | none =>
          rw [rs.val_none e4]
          rfl
      rw [this]
      exact nowV k gg .bl
    · exact gg.elim
  · exact gg.elim
/-! ### xs[i] -/
def fIxL : W → W → Μ → O W := fun x y μ => match rdL μ x, y with
  | some ps, .v (.int i) => match atI ps i with
    | some p => .ok (.v p) μ
    | none => .bad
  | _, _ => .bad
def fIxT : W → W → Μ → O W := fun x y μ => match x, y with
  | .v (.tup ps), .v (.int i) => match atI ps i with
    | some p => .ok (.v p) μ
    | none => .bad
  | _, _ => .bad
def fIxS : W → W → Μ → O W := fun x y μ => match x, y with
  | .v (.str z), .v (.int i) => if z.length ≤ sizeLine then match atI z.cps.toList i with
    | some c => .ok (.v (.str ⟨#[c]⟩)) μ
    | none => .bad
    else .bad
  | _, _ => .bad
theorem atI_rep {D : Addr → Prop} {H : Hp} {xs : List V} {ps : List P} {i : Int} {p : P} (r : Reps D H xs ps) (h : atI ps i = some p) : ∃ v, atI xs i = some v ∧ Rep D H v p := by
  unfold atI at *
  rw [r.length]
  cases q : ixN ps.length i with
  | none => rw [q] at h; cases h
  | some j =>
    rw [q] at h
    exact r.getP h
theorem ad_ixL {K : PySem.W.Frag} : AdR2 Wx (rIxL K) fIxL := fun D as μ σ H x y a b Q k ra rb gg => by
  unfold fIxL at gg
  split at gg
  · rename_i ps i e1
    split at gg
    · rename_i p e4
      obtain ⟨ad, xs, rfl, hr, rs⟩ := rdL_ok k ra e1
      obtain ⟨v, q1, q2⟩ := atI_rep rs e4
      exact ⟨ad, xs, i, v, rfl, rep_int rb, .inl hr, q1, nowV k gg q2⟩
    · exact gg.elim
  · exact gg.elim
theorem ad_ixT {K : PySem.W.Frag} : AdR2 Wx (rIxT K) fIxT := fun D as μ σ H x y a b Q k ra rb gg => by
  unfold fIxT at gg
  split at gg
  · rename_i ps i
    split at gg
    · rename_i p e4
      obtain ⟨ad, xs, rfl, _, hr, rs⟩ := rep_tup ra
      obtain ⟨v, q1, q2⟩ := atI_rep rs e4
      exact ⟨ad, xs, i, v, rfl, rep_int rb, .inl hr, q1, nowV k gg q2⟩
    · exact gg.elim
  · exact gg.elim
theorem ad_ixS : AdR2 Wx rIxS fIxS := fun D as μ σ H x y a b Q k ra rb gg => by
  unfold fIxS at gg
  split at gg
  · rename_i z i
    split at gg
    · rename_i hz
      split at gg
      · rename_i c e4
        exact ⟨z, i, c, rep_str ra, rep_int rb, hz, e4, nowV k gg .str⟩
      · exact gg.elim
    · exact gg.elim
  · exact gg.elim
/-! ### calls of the built-in -/
def AdC (Wx : WX) (r : List V → Hp → VK → Prop) (f : List W → Μ → O W) : Prop := ∀ D as μ σ H vs ws Q, Sk D as H μ → RepWs D as H vs ws → G Wx σ RepW D as H (f ws μ) Q → r vs H Q
theorem ad_cb {r} {f} {ta} (h : AdC Wx r f) (ha : AdA Wx ta FA) : Ad Wx (tCB r ta) (fCall f FA) := fun D as γ μ σ H Q k ev g => by
  refine ha D as γ μ σ H _ k ev ((G.bind RepWs k g).mono fun xs H1 ⟨D1, as1, μ1, ws, n1, k1, r1, g1⟩ => ?_)
  exact h D1 as1 μ1 σ H1 xs ws Q k1 r1 g1
theorem pp_callB {id : String} {r} {f} {x : Str} {p : Pos} (hc : CallR X (.builtin id) r) (hg : Gl X x) (hm : X.mg x = none) (hv : bootBuiltins x = some (.builtin id)) (h : AdC Wx r f) (ha : PPA X Wx (e :: es) FA) (hn : x ≠ "__name__" := by decide) (hdb : (x == ("__debug__" : Str)) = false := by decide)
    (he : starEach (e :: es) X.env = (false, eval e X.env) :: starEach es X.env := by rfl) (hpl : (backTo pos (starEach es X.env)).any (·.1) = false := by rfl) : PP X Wx (.Call (.Name x p) (e :: es) [] pos) (fCall f FA) :=
  let ⟨_, pa, aa⟩ := ha; ⟨_, pe_callB hc hg hm hv pa hn hdb he hpl, ad_cb h aa⟩
theorem pp_callTy {id : String} {r} {f} {x : Str} {p : Pos} (hc : CallR X (.type id) r) (hg : Gl X x) (hm : X.mg x = none) (hv : bootBuiltins x = some (.type id)) (h : AdC Wx r f) (ha : PPA X Wx (e :: es) FA) (hn : x ≠ "__name__" := by decide) (hdb : (x == ("__debug__" : Str)) = false := by decide)
    (he : starEach (e :: es) X.env = (false, eval e X.env) :: starEach es X.env := by rfl) (hpl : (backTo pos (starEach es X.env)).any (·.1) = false := by rfl) : PP X Wx (.Call (.Name x p) (e :: es) [] pos) (fCall f FA) :=
  let ⟨_, pa, aa⟩ := ha; ⟨_, pe_callTy hc hg hm hv pa hn hdb he hpl, ad_cb h aa⟩
theorem repWs1 {D as H} {vs : List V} {w : W} (r : RepWs D as H vs [w]) : ∃ v, vs = [v] ∧ RepW D as H v w := by
  cases r with
  | cons r t => cases t; exact ⟨_, rfl, r⟩
theorem repWs2 {D as H} {vs : List V} {w u : W} (r : RepWs D as H vs [w, u]) : ∃ x y, vs = [x, y] ∧ RepW D as H x w ∧ RepW D as H y u := by
  cases r with
  | cons r t =>
    cases t with
    | cons r2 t => cases t; exact ⟨_, _, rfl, r, r2⟩
/-- len -/
def fLenS : List W → Μ → O W := fun ws μ => match ws with
  | [.v (.str z)] => if z.length ≤ sizeLine then .ok (.v (.int z.length)) μ else .bad
  | _ => .bad
theorem ad_lenS : AdC Wx (fun xs H Q => ∃ z, xs = [.str z] ∧ z.length ≤ sizeLine ∧ Q (.int z.length) H) fLenS := fun D as μ σ H vs ws Q k r gg => by
  unfold fLenS at gg
  split at gg
  · split at gg
    · rename_i hz
      obtain ⟨v, rfl, rv⟩ := repWs1 r
      obtain rfl := rep_str rv
      exact ⟨_, rfl, hz, nowV k gg .int⟩
    · exact gg.elim
  · exact gg.elim
def seqP (μ : Μ) : W → Option (List P)
  | .v (.tup ps) => some ps
  | w => rdL μ w
theorem seqP_ok {D as H} {μ : Μ} {v : V} {w : W} {ps : List P} {K : PySem.W.Frag} (k : Sk D as H μ) (r : RepW D as H v w) (h : seqP μ w = some ps) : ∃ a xs, v = .ref a ∧ (SqL K H a xs ∨ SqT K H a xs) ∧ Reps D H xs ps := by
  unfold seqP at h
  split at h
  · cases h
    obtain ⟨a, xs, rfl, _, hr, rs⟩ := rep_tup r
    exact ⟨a, xs, rfl, .inr (.inl hr), rs⟩
  · obtain ⟨a, xs, rfl, hr, rs⟩ := rdL_ok k r h
    exact ⟨a, xs, rfl, .inl (.inl hr), rs⟩
def fLenL : List W → Μ → O W := fun ws μ => match ws with
  | [w] => match seqP μ w with
    | some ps => .ok (.v (.int ps.length)) μ
    | none => .bad
  | _ => .bad
theorem ad_lenL {K : PySem.W.Frag} : AdC Wx (fun xs H Q => ∃ p ys, xs = [.ref p] ∧ (SqL K H p ys ∨ SqT K H p ys) ∧ Q (.int ys.length) H) fLenL := fun D as μ σ H vs ws Q k r gg => by
  unfold fLenL at gg
  split at gg
  · split at gg
    · rename_i ps e
      obtain ⟨v, rfl, rv⟩ := repWs1 r
      obtain ⟨a, xs, rfl, hs, rs⟩ := seqP_ok k rv e
      refine ⟨a, xs, rfl, hs, ?_⟩
      rw [rs.length]
      exact nowV k gg .int
    · exact gg.elim
  · exact gg.elim
def fLenD : List W → Μ → O W := fun ws μ => match ws with
  | [w] => match rdD μ w with
    | some ps => .ok (.v (.int ps.length)) μ
    | none => .bad
  | _ => .bad
theorem call_lenDr : CallR X (.builtin "len") (fun xs H Q => ∃ a kvs, xs = [V.ref a] ∧ Rd H a (.dK kvs) ∧ Q (.int kvs.length) H) := by
  intro pins s σ H xs us Q I r h
  obtain ⟨a, kvs, rfl, hd, q⟩ := h
  obtain ⟨u, rfl, ru⟩ := vals1 r
  cases ru
  exact d_len I hd fun t s' I' => ⟨.int kvs.length, H, I', ⟨t, rfl⟩, q⟩
theorem ad_lenD : AdC Wx (fun xs H Q => ∃ a kvs, xs = [V.ref a] ∧ Rd H a (.dK kvs) ∧ Q (.int kvs.length) H) fLenD := fun D as μ σ H vs ws Q k r gg => by
  unfold fLenD at gg
  split at gg
  · split at gg
    · rename_i ps e
      obtain ⟨v, rfl, rv⟩ := repWs1 r
      obtain ⟨a, xs, rfl, hs, rs⟩ := rdD_ok k rv e
      refine ⟨a, xs, rfl, hs, ?_⟩
      rw [rs.length]
      exact nowV k gg .int
    · exact gg.elim
  · exact gg.elim
/-- all, any -/
def blsP : List P → Option (List Bool)
  | [] => some []
  | .bl b :: r => (blsP r).map (b :: ·)
  | _ :: _ => none
theorem blsP_ok {D : Addr → Prop} {H : Hp} : ∀ {xs : List V} {ps : List P} {bs : List Bool}, Reps D H xs ps → blsP ps = some bs → xs = bs.map V.bl
  | _, _, _, .nil, e => by cases e; rfl
  | _, _, _, @Reps.cons _ _ v (.bl b) l m r t, e => by
    cases q : blsP m with
    | none => rw [blsP, q] at e; cases e
    | some cs =>
      rw [blsP, q] at e
      cases e
      rw [rep_bl r, blsP_ok t q]
      rfl
  | _, _, _, @Reps.cons _ _ v .non l m r t, e => by cases e
  | _, _, _, @Reps.cons _ _ v (.int _) l m r t, e => by cases e
  | _, _, _, @Reps.cons _ _ v (.str _) l m r t, e => by cases e
  | _, _, _, @Reps.cons _ _ v (.ref _) l m r t, e => by cases e
  | _, _, _, @Reps.cons _ _ v (.ty _) l m r t, e => by cases e
  | _, _, _, @Reps.cons _ _ v (.tup _) l m r t, e => by cases e
  | _, _, _, @Reps.cons _ _ v (.lst _) l m r t, e => by cases e
  | _, _, _, @Reps.cons _ _ v (.dct _) l m r t, e => by cases e
  | _, _, _, @Reps.cons _ _ v (.ins _ _) l m r t, e => by cases e
  | _, _, _, @Reps.cons _ _ v (.set _ _) l m r t, e => by cases e
def fBls (g : List Bool → Bool) : List W → Μ → O W := fun ws μ => match ws with
  | [w] => match (rdL μ w).bind blsP with
    | some bs => .ok (.v (.bl (g bs))) μ
    | none => .bad
  | _ => .bad
theorem ad_bls {K : PySem.W.Frag} {g : List Bool → Bool} : AdC Wx (fun vs H Q => ∃ (a : Addr) (bs : List Bool), vs = [V.ref a] ∧ SqL K H a (bs.map V.bl) ∧ Q (.bl (g bs)) H) (fBls g) := fun D as μ σ H vs ws Q k r gg => by
  unfold fBls at gg
  split at gg
  · split at gg
    · rename_i bs e
      obtain ⟨ps, e1, e2⟩ := Option.bind_eq_some_iff.mp e
      obtain ⟨v, rfl, rv⟩ := repWs1 r
      obtain ⟨a, xs, rfl, hs, rs⟩ := rdL_ok k rv e1
      obtain rfl := blsP_ok rs e2
      exact ⟨a, bs, rfl, .inl hs, nowV k gg .bl⟩
    · exact gg.elim
  · exact gg.elim
theorem ad_all {K : PySem.W.Frag} : AdC Wx (rAll K) (fBls fun bs => bs.all id) := ad_bls
theorem ad_any {K : PySem.W.Frag} : AdC Wx (rAny K) (fBls fun bs => bs.any id) := ad_bls
end
end Pu
set_option Elab.async false
set_option linter.all false
set_option maxRecDepth 100000
set_option maxHeartbeats 4000000
namespace Pu
open L2 PySem PySem.Spec PyProof.Rows E10
/-! ### what is walked -/
abbrev IF := Γ → Μ → O (List P)
/-- J walks ps -/
def RepI : RL It (List P) := fun D _ H J ps => ps.length ≤ 100000 ∧ ∃ (Gd : Hp → Prop) (Y : Nat → Hp → V → Hp → Prop), Walk J ps.length Gd Y ∧ (∀ D' H', SdL D H D' H' → Gd H') ∧
  ∀ i D' H' x H2, i < ps.length → SdL D H D' H' → (∀ a, D' a → ∃ o, H' a = some o) → Y i H' x H2 → Same H' H2 ∧ ∃ p, ps[i]? = some p ∧ Rep D' H2 x p
def AdI (Wx : WX) (wi : TI) (I : IF) : Prop := ∀ D as γ μ σ H R, Sk D as H μ → EnvR D as H σ γ → G Wx σ RepI D as H (I γ μ) R → wi σ H R
def PPI (X : Cx) (Wx : WX) (tg it : Expr) (I : IF) : Prop := ∃ wi, PI X tg it wi ∧ AdI Wx wi I
/-- small enough to be walked -/
def few (ps : List P) (μ : Μ) : O (List P) := if ps.length ≤ 100000 then .ok ps μ else .bad
def iLst (F : EF) : IF := fun γ μ => (F γ μ).bind fun w m => match w with
  | .v (.lst ps) => few ps m
  | _ => .bad
def iTupP (F : EF) : IF := fun γ μ => (F γ μ).bind fun w m => match w with
  | .v (.tup ps) => few ps m
  | _ => .bad
section
variable {X : Cx} {Wx : WX} {e tg : Expr} {es : List Expr} {F F1 F2 : EF} {FA : AF} {pos : Pos} {D : Addr → Prop} {as : Ps} {H : Hp} {μ : Μ}
theorem nowI {σ : L2.St} {ps : List P} {J : It} {R : It → Hp → Prop} (k : Sk D as H μ) (g : G Wx σ RepI D as H (few ps μ) R) (h : ps.length ≤ 100000 → ∃ (Gd : Hp → Prop) (Y : Nat → Hp → V → Hp → Prop), Walk J ps.length Gd Y ∧ (∀ D' H', SdL D H D' H' → Gd H') ∧
    ∀ i D' H' x H2, i < ps.length → SdL D H D' H' → (∀ a, D' a → ∃ o, H' a = some o) → Y i H' x H2 → Same H' H2 ∧ ∃ p, ps[i]? = some p ∧ Rep D' H2 x p) : R J H := by
  unfold few at g
  split at g
  · rename_i hl
    exact G.now (R := RepI) k ⟨hl, h hl⟩ g
  · exact g.elim
theorem rep_lst {v : V} {ps : List P} (r : Rep D H v (.lst ps)) : ∃ a xs, v = .ref a ∧ ¬ D a ∧ Rd H a (.lst xs) ∧ Reps D H xs ps := by
  cases r with
  | lst n hr rs => exact ⟨_, _, rfl, n, hr, rs⟩
theorem rep_dct {v : V} {ps : List (Key × P)} (r : Rep D H v (.dct ps)) : ∃ a xs, v = .ref a ∧ ¬ D a ∧ Rd H a (.dK xs) ∧ RepK D H xs ps := by
  cases r with
  | dct n hr rs => exact ⟨_, _, rfl, n, hr, rs⟩
/-- a list that can be walked: a value, or a place that is locked -/
def wkL (μ : Μ) : W → Option (List P)
  | .v (.lst ps) => some ps
  | .loc j => match μ[j]? with
    | some (.lstL ps) => some ps
    | _ => none
  | _ => none
theorem wkL_ok {v : V} {w : W} {ps : List P} (k : Sk D as H μ) (r : RepW D as H v w) (h : wkL μ w = some ps) : ∃ a xs, v = .ref a ∧ Rd H a (.lst xs) ∧ Reps D H xs ps ∧ ∀ D' H', SdL D H D' H' → Rd H' a (.lst xs) := by
  unfold wkL at h
  split at h
  · cases h
    obtain ⟨a, xs, rfl, nd, hr, rs⟩ := rep_lst r
    exact ⟨a, xs, rfl, hr, rs, fun D' H' s => s.r _ _ nd hr⟩
  · split at h
    · rename_i q
      cases h
      obtain ⟨a, e, rfl, od, xs, hr, rs⟩ := r.adr k q (by simp)
      exact ⟨a, xs, rfl, .inr ⟨od, hr⟩, rs, fun D' H' s => .inr ⟨od, s.l _ _ _ hr⟩⟩
    · cases h
  · cases h
def iLstW (F : EF) : IF := fun γ μ => (F γ μ).bind fun w m => match wkL m w with
  | some ps => few ps m
  | none => .bad
theorem ad_iLstW {K : PySem.W.Frag} {tl : TE} (h : Ad Wx tl F) : AdI Wx (iList K tl) (iLstW F) := fun D as γ μ σ H R k ev g => by
  refine h D as γ μ σ H _ k ev ((G.bind RepW k g).mono fun x H1 ⟨D1, as1, μ1, wx, n1, k1, r1, g1⟩ => ?_)
  split at g1
  · rename_i ps q
    obtain ⟨a, xs, rfl, hr, rs, stab⟩ := wkL_ok k1 r1 q
    refine ⟨a, rfl, ⟨xs, .inl hr⟩, nowI k1 g1 fun hl => ⟨fun H' => SqL K H' a xs, YAt xs, by rw [← rs.length]; exact walk_list, fun D' H' s => .inl (stab D' H' s), fun i D' H' x H2 lt s dn y => ?_⟩⟩
    obtain ⟨rfl, hx⟩ := y
    obtain ⟨p, hp, rp⟩ := rs.get hx
    exact ⟨Same.refl _, p, hp, rp.sd s.toSd⟩
  · exact g1.elim
theorem ad_iList {K : PySem.W.Frag} {tl : TE} (h : Ad Wx tl F) : AdI Wx (iList K tl) (iLst F) := fun D as γ μ σ H R k ev g => by
  refine h D as γ μ σ H _ k ev ((G.bind RepW k g).mono fun x H1 ⟨D1, as1, μ1, wx, n1, k1, r1, g1⟩ => ?_)
  split at g1
  · obtain ⟨a, xs, rfl, nd, hr, rs⟩ := rep_lst r1
    · refine ⟨a, rfl, ⟨xs, .inl hr⟩, nowI k1 g1 fun hl => ⟨fun H' => SqL K H' a xs, YAt xs, by rw [← rs.length]; exact walk_list, fun D' H' s => .inl (s.r _ _ nd hr), fun i D' H' x H2 lt s dn y => ?_⟩⟩
      obtain ⟨rfl, hx⟩ := y
      obtain ⟨p, hp, rp⟩ := rs.get hx
      exact ⟨Same.refl _, p, hp, rp.sd s.toSd⟩
  · exact g1.elim
theorem ad_iTup {K : PySem.W.Frag} {tl : TE} (h : Ad Wx tl F) : AdI Wx (iTup K tl) (iTupP F) := fun D as γ μ σ H R k ev g => by
  refine h D as γ μ σ H _ k ev ((G.bind RepW k g).mono fun x H1 ⟨D1, as1, μ1, wx, n1, k1, r1, g1⟩ => ?_)
  split at g1
  · obtain ⟨a, xs, rfl, nd, hr, rs⟩ := rep_tup r1
    · refine ⟨a, rfl, ⟨xs, .inl hr⟩, nowI k1 g1 fun hl => ⟨fun H' => SqT K H' a xs, YAt xs, by rw [← rs.length]; exact walk_tup, fun D' H' s => .inl (s.r _ _ nd hr), fun i D' H' x H2 lt s dn y => ?_⟩⟩
      obtain ⟨rfl, hx⟩ := y
      obtain ⟨p, hp, rp⟩ := rs.get hx
      exact ⟨Same.refl _, p, hp, rp.sd s.toSd⟩
  · exact g1.elim
/-- range -/
def rngP (lo : Int) (n : Nat) : List P := (List.range n).map fun i => .int (lo + (i : Nat))
def iRg1 (A : AF) : IF := fun γ μ => (A γ μ).bind fun ws m => match ws with
  | [.v (.int j)] => if j.toNat ≤ 100000 ∧ j.natAbs < 2 ^ 61 then .ok (rngP 0 j.toNat) m else .bad
  | _ => .bad
theorem rng_rep {lo : Int} {n : Nat} (hl : n ≤ 100000) : RepI D as H (Itr lo n) (rngP lo n) := by
  have hn : (rngP lo n).length = n := by unfold rngP; simp
  refine ⟨by rw [hn]; exact hl, fun _ => True, YFn fun i => .int (lo + i), by rw [hn]; exact walk_range, fun _ _ _ => True.intro, fun i D' H' x H2 lt s dn y => ?_⟩
  obtain ⟨rfl, rfl⟩ := y
  rw [hn] at lt
  refine ⟨Same.refl _, .int (lo + i), ?_, .int⟩
  unfold rngP
  simp [lt]
theorem ad_rng1 {ta : TA} (h : AdA Wx ta FA) : AdI Wx (iRng1 ta) (iRg1 FA) := fun D as γ μ σ H R k ev g => by
  refine h D as γ μ σ H _ k ev ((G.bind RepWs k g).mono fun xs H1 ⟨D1, as1, μ1, ws, n1, k1, r1, g1⟩ => ?_)
  split at g1
  · split at g1
    · rename_i j hl
      obtain ⟨v, rfl, rv⟩ := repWs1 r1
      obtain rfl := rep_int rv
      have : (2 : Nat) ^ 61 = 2305843009213693952 := by decide
      have : (2 : Int) ^ 62 = 4611686018427387904 := by decide
      exact ⟨j, rfl, by omega, by omega, G.now (R := RepI) k1 (rng_rep hl.1) g1⟩
    · exact g1.elim
  · exact g1.elim
theorem ppi_range1 {a : Expr} {p : Pos} (hg : Gl X "range") (hm : X.mg "range" = none) (ha : PPA X Wx [a] FA) (hs : starEach [a] X.env = [(false, eval a X.env)] := by rfl) : PPI X Wx tg (.Call (.Name "range" p) [a] [] pos) (iRg1 FA) :=
  let ⟨_, p, ad⟩ := ha; ⟨_, pi_range1 hg hm p hs, ad_rng1 ad⟩
/-- a text, sign by sign -/
def chrP (z : Str) : List P := z.cps.toList.map fun c => .str ⟨#[c]⟩
def iStrP (F : EF) : IF := fun γ μ => (F γ μ).bind fun w m => match w with
  | .v (.str z) => few (chrP z) m
  | _ => .bad
theorem ad_iStr {te : TE} (h : Ad Wx te F) : AdI Wx (iStr te) (iStrP F) := fun D as γ μ σ H R k ev g => by
  refine h D as γ μ σ H _ k ev ((G.bind RepW k g).mono fun x H1 ⟨D1, as1, μ1, wx, n1, k1, r1, g1⟩ => ?_)
  split at g1
  · rename_i z
    obtain rfl := rep_str r1
    have hn : (chrP z).length = z.cps.size := by unfold chrP; simp
    refine ⟨z, rfl, nowI k1 g1 fun hl => ⟨fun _ => True, _, by rw [hn]; exact walk_str, fun _ _ _ => True.intro, fun i D' H' x H2 lt s dn y => ?_⟩⟩
    obtain ⟨rfl, c, hc, rfl⟩ := y
    refine ⟨Same.refl _, .str ⟨#[c]⟩, ?_, .str⟩
    unfold chrP
    rw [List.getElem?_map, Array.getElem?_toList, hc]
    rfl
  · exact g1.elim
/-! ### a dict that is walked is known from then on -/
def tFrz (td : TE) : TE := fun σ H Q => td σ H fun x H1 => ∃ d kvs, x = .ref d ∧ ((H1 d = some (.dK kvs) ∧ ∀ o, Q x (upd H1 d (.frz o (.dK kvs)))) ∨ ∃ o, H1 d = some (.frz o (.dK kvs)) ∧ Q x H1)
theorem pe_frz {te : TE} (h : PE X e te) : PE X e (tFrz te) := by
  refine ⟨fun pins s σ H Q I hw => ?_⟩
  refine thn (h.run pins s σ H _ I hw) fun v s1 ⟨x, H1, I1, r, d, kvs, ex, q⟩ => ?_
  rcases q with ⟨hd, q⟩ | ⟨o, hd, q⟩
  · obtain ⟨od, I2⟩ := I1.lock hd True.intro
    exact ⟨x, _, I2, r, q od⟩
  · exact ⟨x, H1, I1, r, q⟩
/-- .. nothing else is different -/
theorem frz_nx {d : Addr} {kvs : List (Key × V)} {o : Obj} (nd : ¬ D d) (h : H d = some (.dK kvs)) : Nx D as H D as (upd H d (.frz o (.dK kvs))) := by
  refine ⟨fun _ _ h => .inl h, fun a u e => ?_, fun _ h _ => h, fun _ h => .inl h, fun _ _ h => .inl h, fun a u da _ e => ?_, fun a u _ r => ?_, fun a u _ e z => ?_, fun a x y e => ?_⟩
  · by_cases q : a = d
    · subst q; exact ⟨_, upd_same⟩
    · exact ⟨u, (upd_ne q).trans e⟩
  · rw [upd_ne (fun q : a = d => nd (q ▸ da))]
    exact e
  · by_cases q : a = d
    · subst q
      rcases r with r | ⟨o', r⟩
      · rw [h] at r
        cases r
        exact .inr ⟨o, upd_same⟩
      · rw [h] at r; cases r
    · rcases r with r | ⟨o', r⟩
      · exact .inl ((upd_ne q).trans r)
      · exact .inr ⟨o', (upd_ne q).trans r⟩
  · have q : a ≠ d := fun q => by
      subst q
      rw [h] at e
      cases e
      cases z
    exact (upd_ne q).trans e
  · have q : a ≠ d := fun q => by
      subst q
      rw [h] at e
      cases e
    exact (upd_ne q).trans e
theorem frz_sk {d : Addr} {kvs : List (Key × V)} {o : Obj} (k : Sk D as H μ) (nd : ¬ D d) (h : H d = some (.dK kvs)) : Sk D as (upd H d (.frz o (.dK kvs))) μ := by
  refine ⟨k.len, fun a da => ?_, k.inD, k.inj, fun j a e => ?_, k.dead⟩
  · rw [upd_ne (fun q : a = d => nd (q ▸ da))]
    exact k.dn a da
  · obtain ⟨c, q, x⟩ := k.ok j a e
    exact ⟨c, q, x.sd (frz_nx (as := as) nd h).sd (upd_ne fun z => nd (z ▸ k.inD j a e))⟩
def dctB {α : Type} (f : List (Key × P) → Μ → O α) : W → Μ → O α := fun w m => match w with
  | .v (.dct ps) => f ps m
  | .loc j => match m[j]? with
    | some (.dctL ps) => f ps m
    | _ => .bad
  | _ => .bad
/-- what the reading of a walked dict needs -/
theorem ad_frz {α β : Type} {td : TE} {σ : L2.St} {γ : Γ} {Q : VK} {f : List (Key × P) → Μ → O α} {R : RL β α} {Q' : β → Hp → Prop} (h : Ad Wx td F) (k : Sk D as H μ) (ev : EnvR D as H σ γ) (g : G Wx σ R D as H ((F γ μ).bind (dctB f)) Q')
    (hq : ∀ D1 as1 H1 μ1 d o xs ps, Nx D as H D1 as1 H1 → Sk D1 as1 H1 μ1 → (∀ D' H', SdL D1 H1 D' H' → H' d = some (.frz o (.dK xs))) → H1 d = some (.frz o (.dK xs)) → RepK D1 H1 xs ps → G Wx σ R D1 as1 H1 (f ps μ1) Q' → Q (.ref d) H1) : tFrz td σ H Q := by
  refine h D as γ μ σ H _ k ev ((G.bind RepW k g).mono fun x H1 ⟨D1, as1, μ1, wx, n1, k1, r1, g1⟩ => ?_)
  unfold dctB at g1
  split at g1
  · rename_i ps
    obtain ⟨d, xs, rfl, nd, hr, rs⟩ := rep_dct r1
    rcases hr with hr | ⟨o, hr⟩
    · refine ⟨d, xs, rfl, .inl ⟨hr, fun o => ?_⟩⟩
      have n2 := frz_nx (as := as1) (o := o) nd hr
      have k2 := frz_sk (o := o) k1 nd hr
      exact hq D1 as1 _ μ1 d o xs ps (n1.trans k k1 n2) k2 (fun D' H' s => s.l _ _ _ upd_same) upd_same (RepK.sd n2.sd rs) (g1.nx k1 k2 n2)
    · exact ⟨d, xs, rfl, .inr ⟨o, hr, hq D1 as1 _ μ1 d o xs ps n1 k1 (fun D' H' s => s.l _ _ _ hr) hr rs g1⟩⟩
  · split at g1
    · rename_i j ps q
      obtain ⟨d, e, rfl, od, xs, hr, rs⟩ := r1.adr k1 q (by simp)
      exact ⟨d, xs, rfl, .inr ⟨od, hr, hq D1 as1 _ μ1 d od xs ps n1 k1 (fun D' H' s => s.l _ _ _ hr) hr rs g1⟩⟩
    · exact g1.elim
  · exact g1.elim
def keyOf : Key → P
  | .inl i => .int i
  | .inr x => .str x
theorem keyOf_rep (k : Key) : Rep D H (kV k) (keyOf k) := by
  cases k
  · exact .int
  · exact .str
def iDct (g : List (Key × P) → List P) (F : EF) : IF := fun γ μ => (F γ μ).bind (dctB fun ps m => few (g ps) m)
abbrev iKeysP := iDct fun ps => ps.map fun kp => keyOf kp.1
abbrev iValsP := iDct fun ps => ps.map fun kp => kp.2
abbrev iItemsP := iDct fun ps => ps.map fun kp => .tup [keyOf kp.1, kp.2]
theorem RepK.get {D : Addr → Prop} {H : Hp} : ∀ {vs : List (Key × V)} {ps : List (Key × P)} {i : Nat} {k : Key} {v : V}, RepK D H vs ps → vs[i]? = some (k, v) → ∃ p, ps[i]? = some (k, p) ∧ Rep D H v p
  | _, _, 0, _, _, .cons r _, e => by cases e; exact ⟨_, rfl, r⟩
  | _, _, i + 1, _, _, .cons _ t, e => RepK.get (i := i) t e
theorem ad_iKeys {td : TE} (h : Ad Wx td F) : AdI Wx (iKeys (tFrz td)) (iKeysP F) := fun D as γ μ σ H R k ev g => by
  refine ad_frz (R := RepI) h k ev g fun D1 as1 H1 μ1 d o xs ps n1 k1 nd hd rs g1 => ⟨d, o, rfl, .inl ⟨xs, hd, nowI k1 g1 fun hl => ⟨_, _, by rw [List.length_map, ← rs.length]; exact walk_keys, nd, fun i D' H' x H2 lt s dn y => ?_⟩⟩⟩
  obtain ⟨rfl, kk, v, hx, rfl⟩ := y
  obtain ⟨p, hp, rp⟩ := rs.get hx
  exact ⟨Same.refl _, keyOf kk, by rw [List.getElem?_map, hp]; rfl, keyOf_rep kk⟩
/-- a new pair -/
theorem pair_rep {D' : Addr → Prop} {H' H2 : Hp} {T : Addr} {x y : V} {p q : P} (dn : ∀ a, D' a → ∃ o, H' a = some o) (nT : H' T = none) (e : H2 = upd H' T (.tup [x, y])) (rx : Rep D' H' x p) (ry : Rep D' H' y q) : Same H' H2 ∧ Rep D' H2 (.ref T) (.tup [p, q]) := by
  subst e
  have s := new_same' (o := .tup [x, y]) nT
  refine ⟨s, .tup (fun d => ?_) (.inl upd_same) (Reps.sd (.same s) (.cons rx (.cons ry .nil)))⟩
  obtain ⟨o, z⟩ := dn T d
  rw [nT] at z
  cases z
end
end Pu
set_option Elab.async false
set_option linter.all false
set_option maxRecDepth 100000
set_option maxHeartbeats 4000000
namespace Pu
open L2 PySem PySem.Spec PyProof.Rows E10
/-! ### targets -/
abbrev GF := P → Γ → Option Γ
def AdG (vs : Option (List Nat)) (g : TG) (f : GF) : Prop := ∀ D as μ σ γ γ' H p x Q, Sk D as H μ → EnvR D as H σ γ → Rep D H x p → f p γ = some γ' → (∀ σ', EnvR D as H σ' γ' → (∀ l, vs = some l → wipe σ' l = wipe σ l) → σ'.length = σ.length → Q σ' H) → g x σ H Q
def tgName (i : Nat) : GF := fun p γ => some (γ.set i (some (.v p)))
theorem wipe_set (σ : L2.St) (i : Nat) (x : Option V) : ∀ {l : List Nat}, i ∈ l → wipe (σ.set i x) l = wipe σ l
  | v :: l, h => by
    unfold wipe
    by_cases c : i ∈ l
    · rw [wipe_set σ i x c]
    · have e : i = v := (List.mem_cons.mp h).resolve_right c
      subst e
      have : ∀ l : List Nat, i ∉ l → wipe (σ.set i x) l = (wipe σ l).set i x := fun l hl => by
        induction l with
        | nil => rfl
        | cons u r ih =>
          have hu : i ≠ u := fun q => hl (q ▸ .head _)
          unfold wipe
          rw [ih (fun q => hl (.tail _ q)), List.set_comm _ _ hu]
      rw [this l c, List.set_set]
theorem ad_gName {i : Nat} {vs : Option (List Nat)} (h : ∀ l, vs = some l → i ∈ l) : AdG vs (gName i) (tgName i) := fun D as μ σ γ γ' H p x Q k ev r e q => by
  cases e
  exact q _ (ev.set (w := .v p) r) (fun l hl => wipe_set σ i _ (h l hl)) (List.length_set ..)
abbrev GFs := List P → Γ → Option Γ
def AdGs (vs : Option (List Nat)) (g : TGs) (f : GFs) : Prop := ∀ D as μ σ γ γ' H ps xs Q, Sk D as H μ → EnvR D as H σ γ → Reps D H xs ps → f ps γ = some γ' → (∀ σ', EnvR D as H σ' γ' → (∀ l, vs = some l → wipe σ' l = wipe σ l) → σ'.length = σ.length → Q σ' H) → g xs σ H Q
def tgNil : GFs := fun ps γ => match ps with
  | [] => some γ
  | _ => none
def tgCons (f : GF) (g : GFs) : GFs := fun ps γ => match ps with
  | p :: r => (f p γ).bind fun γ1 => g r γ1
  | [] => none
def tgTup (n : Nat) (g : GFs) : GF := fun p γ => match p with
  | .tup ps => if ps.length = n then g ps γ else none
  | _ => none
theorem ad_gNil {vs} : AdGs vs gNil tgNil := fun D as μ σ γ γ' H ps xs Q k ev r e q => by
  cases r with
  | nil => cases e; exact ⟨rfl, q σ ev (fun _ _ => rfl) rfl⟩
  | cons => cases e
theorem ad_gCons {vs} {g f gs fs} (h : AdG vs g f) (hs : AdGs vs gs fs) : AdGs vs (gCons g gs) (tgCons f fs) := fun D as μ σ γ γ' H ps xs Q k ev r e q => by
  cases r with
  | nil => cases e
  | cons r t =>
    obtain ⟨γ1, e1, e2⟩ := Option.bind_eq_some_iff.mp e
    refine ⟨_, _, rfl, h D as μ σ γ γ1 H _ _ _ k ev r e1 fun σ1 ev1 w1 l1 => ?_⟩
    exact hs D as μ σ1 γ1 γ' H _ _ _ k ev1 t e2 fun σ2 ev2 w2 l2 => q σ2 ev2 (fun l hl => (w2 l hl).trans (w1 l hl)) (l2.trans l1)
theorem ad_gTup {vs} {K : PySem.W.Frag} {n : Nat} {gs fs} (hs : AdGs vs gs fs) : AdG vs (gTup K n gs) (tgTup n fs) := fun D as μ σ γ γ' H p x Q k ev r e q => by
  unfold tgTup at e
  split at e
  · split at e
    · rename_i hn
      obtain ⟨a, xs, rfl, _, hr, rs⟩ := rep_tup r
      exact ⟨a, xs, rfl, .inl hr, by rw [rs.length]; exact hn, hs D as μ σ γ γ' H _ _ _ k ev rs e q⟩
    · cases e
  · cases e
/-! ### comprehensions -/
def F0 : WX := fun _ _ _ _ => False
def O.nx {α : Type} : O α → O α
  | .exc _ _ _ => .bad
  | o => o
def wipeG (γ : Γ) : List Nat → Γ
  | [] => γ
  | v :: vs => (wipeG γ vs).set v none
theorem set_none {D as H} {σ : L2.St} {γ : Γ} {i : Nat} (r : EnvR D as H σ γ) : EnvR D as H (σ.set i none) (γ.set i none) := by
  refine ⟨by rw [List.length_set, List.length_set]; exact r.1, fun j w e => ?_⟩
  by_cases c : i = j
  · subst c
    rw [List.getElem?_set_self'] at e
    cases g : γ[i]? <;> rw [g] at e <;> cases e
  · rw [List.getElem?_set_ne c] at e ⊢
    exact r.2 j w e
theorem EnvR.wipe {D as H} {σ : L2.St} {γ : Γ} (r : EnvR D as H σ γ) : ∀ vs, EnvR D as H (L2.wipe σ vs) (wipeG γ vs)
  | [] => r
  | v :: vs => set_none (EnvR.wipe r vs)
def lcW (k : Μ → O (List P)) : W → Μ → O (List P)
  | .v q, m => (k m).bind fun qs m3 => .ok (q :: qs) m3
  | .loc _, _ => .bad
def lcGo (f : GF) (T : TF) (E : EF) (γ : Γ) : List P → Μ → O (List P)
  | [], m => .ok [] m
  | p :: r, m => match f p γ with
    | none => .bad
    | some γ1 => (T γ1 m).nx.bind fun b m1 => if b = true then (E γ1 m1).nx.bind (lcW (lcGo f T E γ r)) else lcGo f T E γ r m1
theorem wipe_in (σ : L2.St) {i : Nat} (lt : i < σ.length) : ∀ {vs : List Nat}, i ∈ vs → (wipe σ vs)[i]? = some none
  | v :: vs, h => by
    unfold wipe
    by_cases c : v = i
    · subst c
      exact List.getElem?_set_self (by rw [wipe_length]; exact lt)
    · rw [List.getElem?_set_ne c]
      exact wipe_in σ lt ((List.mem_cons.mp h).resolve_left fun q => c q.symm)
theorem wipe_wipe (σ : L2.St) (vs : List Nat) : wipe (wipe σ vs) vs = wipe σ vs := by
  apply List.ext_getElem?
  intro i
  by_cases h : i ∈ vs
  · by_cases lt : i < σ.length
    · rw [wipe_in _ (by rw [wipe_length]; exact lt) h, wipe_in _ lt h]
    · rw [List.getElem?_eq_none (by rw [wipe_length, wipe_length]; omega), List.getElem?_eq_none (by rw [wipe_length]; omega)]
  · rw [wipe_out h]
def fLc (I : IF) (f : GF) (T : TF) (E : EF) (vs : List Nat) : EF := fun γ μ => (I γ μ).bind fun ps m => (lcGo f T E (wipeG γ vs) ps m).bind fun qs m => .ok (.v (.lst qs)) m
def tE (Wx : WX) (F : EF) : TE := fun σ H Q => ∃ D as γ μ, Sk D as H μ ∧ EnvR D as H σ γ ∧ G Wx σ RepW D as H (F γ μ) Q
def tT (Wx : WX) (T : TF) : TT := fun σ H Q => ∃ D as γ μ, Sk D as H μ ∧ EnvR D as H σ γ ∧ G Wx σ RepB D as H (T γ μ) Q
theorem PP.can {X : Cx} {Wx : WX} {e : Expr} {F : EF} (h : PP X Wx e F) : PE X e (tE Wx F) := let ⟨_, p, ad⟩ := h; ⟨fun pins s σ H Q I ⟨D, as, γ, μ, k, ev, g⟩ => p.run pins s σ H Q I (ad D as γ μ σ H Q k ev g)⟩
theorem PPT.can {X : Cx} {Wx : WX} {e : Expr} {F : TF} (h : PPT X Wx e F) : PT X e (tT Wx F) := let ⟨_, p, ad⟩ := h; ⟨fun pins s σ H Q I ⟨D, as, γ, μ, k, ev, g⟩ => p.run pins s σ H Q I (ad D as γ μ σ H Q k ev g)⟩
def PPTs (X : Cx) (Wx : WX) (ifs : List Expr) (T : TF) : Prop := PTs X ifs (tT Wx T)
def fYes : TF := fun _ μ => .ok true μ
theorem ppts_nil {X : Cx} {Wx : WX} : PPTs X Wx [] fYes := ⟨fun pins s σ H Q I ⟨D, as, γ, μ, k, ev, g⟩ => pts_nil.run pins s σ H Q I (G.now (R := RepB) k rfl g)⟩
theorem ppts_one {X : Cx} {Wx : WX} {e : Expr} {F : TF} (h : PPT X Wx e F) : PPTs X Wx [e] F := pts_one h.can
section
variable {D D' : Addr → Prop} {as as' : Ps} {H H' : Hp} {μ μ' : Μ}
/-- something hidden is changed -/
theorem Sk.poke {a : Addr} {o : HO} (k : Sk D as H μ) (d : D a) (na : ∀ j : Nat, as[j]? ≠ some (some a)) : Sd D H D (upd H a o) ∧ Sk D as (upd H a o) μ := by
  have s : Sd D H D (upd H a o) := by
    have ne : ∀ b, ¬ D b → b ≠ a := fun b n z => n (z ▸ d)
    refine ⟨fun b u n e => n, fun b u n r => ?_, fun b u n e z => (upd_ne (ne b n)).trans e⟩
    rcases r with r | ⟨x, r⟩
    · exact .inl ((upd_ne (ne b n)).trans r)
    · exact .inr ⟨x, (upd_ne (ne b n)).trans r⟩
  refine ⟨s, k.len, fun b db => ?_, k.inD, k.inj, fun j b e => ?_, k.dead⟩
  · by_cases c : b = a
    · subst c
      exact ⟨o, upd_same⟩
    · rw [upd_ne c]
      exact k.dn b db
  · obtain ⟨c, q, x⟩ := k.ok j b e
    exact ⟨c, q, x.sd s (upd_ne fun z => na j (z ▸ e))⟩
theorem Nx.poke {a : Addr} {o : HO} (n : Nx D as H D' as' H') (d : D' a) (h : H a = none) (nd : ¬ D a) : Nx D as H D' as' (upd H' a o) := by
  have ne : ∀ b u, H b = some u → b ≠ a := fun b u e z => by rw [z, h] at e; cases e
  refine ⟨n.pre, fun b u e => ?_, n.mono, n.new, n.fresh, fun b u db na e => (upd_ne (ne b u e)).trans (n.hid b u db na e), fun b u nb r => ?_, fun b u nb e z => (upd_ne (ne b u e)).trans (n.sol b u nb e z), fun b x y e => (upd_ne (ne b _ e)).trans (n.lck b x y e)⟩
  · obtain ⟨u', e'⟩ := n.ex b u e
    exact ⟨u', (upd_ne (ne b u e)).trans e'⟩
  have nba : b ≠ a := let ⟨x, e⟩ := rd_some r; ne b x e
  rcases n.rd b u nb r with r | ⟨x, r⟩
  · exact .inl ((upd_ne nba).trans r)
  · exact .inr ⟨x, (upd_ne nba).trans r⟩
def lessD (D : Addr → Prop) (a : Addr) : Addr → Prop := fun b => D b ∧ b ≠ a
/-- something hidden is let go -/
theorem Sk.free {a : Addr} (k : Sk D' as' H' μ') (n : Nx D as H D' as' H') (na : ∀ j : Nat, as'[j]? ≠ some (some a)) (nd : ¬ D a) : Sd D' H' (lessD D' a) H' ∧ Nx D as H (lessD D' a) as' H' ∧ Sk (lessD D' a) as' H' μ' := by
  have s : Sd D' H' (lessD D' a) H' := ⟨fun b u n e z => n z.1, fun _ _ _ r => r, fun _ _ _ e _ => e⟩
  refine ⟨s, ⟨n.pre, n.ex, fun b db v => ⟨n.mono b db v, fun z => nd (z ▸ db)⟩, fun b z => n.new b z.1, n.fresh, n.hid, n.rd, n.sol, n.lck⟩, k.len, fun b z => k.dn b z.1, fun j b e => ⟨k.inD j b e, fun z => na j (z ▸ e)⟩, k.inj, fun j b e => ?_, k.dead⟩
  obtain ⟨c, q, x⟩ := k.ok j b e
  exact ⟨c, q, x.sd s rfl⟩
end
end Pu
set_option Elab.async false
set_option linter.all false
set_option maxRecDepth 100000
set_option maxHeartbeats 4000000
namespace Pu
open L2 PySem PySem.Spec PyProof.Rows E10
section
variable {D D' : Addr → Prop} {as as' : Ps} {H H' : Hp} {μ μ' : Μ} {α β : Type} {R : RL β α} {Wx : WX} {σ : L2.St}
/-- a thing laid aside: no place, yet written -/
theorem Sk.hide {a : Addr} {o : HO} (k : Sk D as H μ) (na : H a = none) : Nx D as H (plusD D a) as (upd H a o) ∧ Sk (plusD D a) as (upd H a o) μ ∧ ∀ j : Nat, as[j]? ≠ some (some a) := by
  have s := new_same' (o := o) na
  have nj : ∀ j : Nat, as[j]? ≠ some (some a) := fun j e => k.nd na (k.inD j a e)
  have n : Nx D as H (plusD D a) as (upd H a o) :=
    ⟨fun _ _ h => .inl h, fun b u e => ⟨u, s _ _ e⟩, fun b d _ => .inl d, fun b d => d.elim .inl fun e => .inr (e ▸ na), fun j b e => .inl e, fun b u _ _ e => s _ _ e, fun b u _ r => r.elim (fun r => .inl (s _ _ r)) fun ⟨x, r⟩ => .inr ⟨x, s _ _ r⟩, fun b u _ e _ => s _ _ e, fun b x y e => s _ _ e⟩
  refine ⟨n, ⟨k.len, fun b d => ?_, fun j b e => .inl (k.inD j b e), k.inj, fun j b e => ?_, k.dead⟩, nj⟩
  · rcases d with d | rfl
    · obtain ⟨x, e⟩ := k.dn b d
      exact ⟨x, s _ _ e⟩
    · exact ⟨_, upd_same⟩
  · obtain ⟨c, q, x⟩ := k.ok j b e
    exact ⟨c, q, x.sd n.sd (upd_ne fun z => nj j (z ▸ e))⟩
theorem Nx.notin {a : Addr} (n : Nx D as H D' as' H') (h : ∀ j : Nat, as[j]? ≠ some (some a)) {o : HO} (e : H a = some o) : ∀ j : Nat, as'[j]? ≠ some (some a) := fun j q => by
  rcases n.fresh j a q with z | z
  · exact h j z
  · rw [e] at z; cases z
theorem G.nobad {o : O α} {Q : β → Hp → Prop} (g : G Wx σ R D as H o Q) : o ≠ .bad := fun e => by
  rw [e] at g
  exact g
end
theorem nx_ok {α β : Type} {o : O α} {f : α → Μ → O β} (h : o.nx.bind f ≠ .bad) : ∃ a m, o = .ok a m := by
  cases o with
  | ok a m => exact ⟨a, m, rfl⟩
  | exc C fs m => exact absurd rfl h
  | bad => exact absurd rfl h
theorem bind_nb {α β : Type} {o : O α} {f : α → Μ → O β} (h : o.bind f ≠ .bad) : o ≠ .bad := fun e => h (by rw [e]; rfl)
/-- what stands in the course of a comprehension -/
structure LcAt (D1 : Addr → Prop) (as1 : Ps) (H1 : Hp) (tot : O (List P)) (go : List P → Μ → O (List P)) (Dl : Addr) (ps : List P) (i : Nat) (H' : Hp) : Prop where
  ex : ∃ D' as' acc qs m', Nx D1 as1 H1 D' as' H' ∧ Sk D' as' H' m' ∧ D' Dl ∧ (∀ j : Nat, as'[j]? ≠ some (some Dl)) ∧ H' Dl = some (.lst acc) ∧ Reps D' H' acc qs ∧ qs.length ≤ i ∧ tot = (go (ps.drop i) m').bind fun r m => .ok (qs ++ r) m
theorem ad_lc {Wx : WX} {wi : TI} {g : TG} {I : IF} {f : GF} {T : TF} {E : EF} {vs : List Nat} (hi : AdI Wx wi I) (hg : AdG (some vs) g f) : Ad Wx (tLc wi g (tT F0 T) (tE F0 E) vs) (fLc I f T E vs) := fun D as γ μ σ H Q k ev gg => by
  refine hi D as γ μ σ H _ k ev ((G.bind RepI k gg).mono fun J H1 ⟨D1, as1, μ1, ps, n1, k1, r1, g1⟩ => ?_)
  intro Dl nDl
  obtain ⟨hl, Gd, Y, wk, stab, yl⟩ := r1
  have ev1 := ev.nx n1
  have nd1 : ¬ D1 Dl := k1.nd nDl
  obtain ⟨n0, k0, nj0⟩ := k1.hide (o := .lst []) nDl
  have nb : lcGo f T E (wipeG γ vs) ps μ1 ≠ .bad := bind_nb g1.nobad
  refine lc_it wk (fun i H' => i ≤ ps.length ∧ LcAt D1 as1 H1 (lcGo f T E (wipeG γ vs) ps μ1) (lcGo f T E (wipeG γ vs)) Dl ps i H') ⟨Nat.zero_le _, ⟨_, _, [], [], μ1, n0, k0, .inr rfl, nj0, upd_same, .nil, Nat.le_refl _, ?_⟩⟩ (fun i H' _ h => ?_) ?_ ?_
  · rw [List.drop_zero]
    cases lcGo f T E (wipeG γ vs) ps μ1 <;> rfl
  · obtain ⟨D', as', acc, qs, m', n', _⟩ := h.2.ex
    exact stab D' H' n'.sdl
  · rintro i x H' H2 lt ⟨_, h⟩ y
    obtain ⟨D', as', acc, qs, m', n', k', dl, nj, hD, rs, lq, tot⟩ := h.ex
    obtain ⟨s2, p, hp, rp⟩ := yl i D' H' x H2 lt n'.sdl (fun a d => k'.dn a d) y
    have k2 : Sk D' as' H2 m' := k'.same s2
    have n2 : Nx D1 as1 H1 D' as' H2 := n'.trans k1 k' (.of_same s2)
    have hdrop : ps.drop i = p :: ps.drop (i + 1) := List.drop_eq_getElem?_toList_append.trans (by rw [hp]; rfl)
    rw [hdrop] at tot
    have nb2 : lcGo f T E (wipeG γ vs) (p :: ps.drop (i + 1)) m' ≠ .bad := by
      rw [tot] at nb
      exact bind_nb nb
    cases ef : f p (wipeG γ vs) with
    | none => exact absurd (by simp only [lcGo, ef]) nb2
    | some γ1 =>
      have e1 : lcGo f T E (wipeG γ vs) (p :: ps.drop (i + 1)) m' = (T γ1 m').nx.bind fun b m1 => if b = true then (E γ1 m1).nx.bind (lcW (lcGo f T E (wipeG γ vs) (ps.drop (i + 1)))) else lcGo f T E (wipeG γ vs) (ps.drop (i + 1)) m1 := by
        simp only [lcGo, ef]
      rw [e1] at nb2 tot
      refine hg D' as' m' (wipe σ vs) (wipeG γ vs) γ1 H2 p x _ k2 ((ev1.nx n2).wipe vs) rp ef fun σ2 ev2 w2 l2 => ⟨(w2 vs rfl).trans (wipe_wipe σ vs), ?_⟩
      obtain ⟨b, m1, eT⟩ := nx_ok nb2
      refine ⟨D', as', γ1, m', k2, ev2, ?_⟩
      rw [eT] at nb2 tot ⊢
      intro b' D3 as3 H3 n3 k3 eb
      obtain rfl : b' = b := eb
      have nj3 := n3.notin nj (s2 _ _ hD)
      have hD3 : H3 Dl = some (.lst acc) := n3.hid Dl _ dl nj (s2 _ _ hD)
      have dl3 := n3.mono Dl dl nj
      have n13 := n2.trans k1 k2 n3
      cases b' with
      | false =>
        exact ⟨lt, ⟨D3, as3, acc, qs, m1, n13, k3, dl3, nj3, hD3, Reps.sd n3.sd (Reps.sd (.same s2) rs), Nat.le_succ_of_le lq, tot⟩⟩
      | true =>
        simp only [if_true]
        have nb3 : (E γ1 m1).nx.bind (lcW (lcGo f T E (wipeG γ vs) (ps.drop (i + 1)))) ≠ .bad := nb2
        obtain ⟨w, m2, eE⟩ := nx_ok nb3
        refine ⟨D3, as3, γ1, m1, k3, ev2.nx n3, ?_⟩
        rw [eE] at nb3 ⊢
        have tot3 : lcGo f T E (wipeG γ vs) ps μ1 = ((E γ1 m1).nx.bind (lcW (lcGo f T E (wipeG γ vs) (ps.drop (i + 1))))).bind fun r m => .ok (qs ++ r) m := tot
        rw [eE] at tot3
        cases w with
        | loc j => exact absurd rfl nb3
        | v q =>
          intro yv D4 as4 H4 n4 k4 ry
          have nj4 := n4.notin nj3 hD3
          have hD4 : H4 Dl = some (.lst acc) := n4.hid Dl _ dl3 nj3 hD3
          have dl4 := n4.mono Dl dl3 nj3
          have n14 := n13.trans k1 k3 n4
          have racc := Reps.sd n4.sd (Reps.sd n3.sd (Reps.sd (.same s2) rs))
          obtain ⟨s5, k5⟩ := k4.poke (o := .lst (acc ++ [yv])) dl4 nj4
          refine ⟨acc, hD4, ?_, lt, ⟨D4, as4, acc ++ [yv], qs ++ [q], m2, n14.poke dl4 nDl nd1, k5, dl4, nj4, upd_same, Reps.sd s5 (racc.snoc ry), ?_, ?_⟩⟩
          · rw [racc.length]
            exact Nat.lt_of_lt_of_le (Nat.lt_of_le_of_lt lq (Nat.lt_of_lt_of_le lt hl)) (by decide)
          · rw [List.length_append]
            exact Nat.succ_le_succ lq
          · rw [tot3]
            simp only [O.nx, O.bind_ok, lcW]
            rw [O.bind_assoc]
            congr 1
            funext r m
            simp
  · rintro H' ⟨_, h⟩
    obtain ⟨D', as', acc, qs, m', n', k', dl, nj, hD, rs, lq, tot⟩ := h.ex
    rw [List.drop_length] at tot
    have tot2 : lcGo f T E (wipeG γ vs) ps μ1 = .ok qs m' := by
      rw [tot]
      simp [lcGo]
    rw [tot2] at g1
    obtain ⟨s3, n3, k3⟩ := k'.free n' nj nd1
    exact g1 (.ref Dl) _ as' H' n3 k3 (show Rep _ _ _ _ from .lst (fun z => z.2 rfl) (.inl hD) (Reps.sd s3 rs))
section
variable {X : Cx} {Wx : WX}
/-- [elt for tg in iter if ..] -/
theorem pp_lc {elt tg iter : Expr} {ifs : List Expr} {scope : Scope} {own : List (Str × Nat)} {pos : Pos} {I : IF} {g : TG} {f : GF} {T : TF} {E : EF} (hc : X.calm = true) (hN : X.N.Nodup) (hi : PPI X Wx tg iter I) (ok : BlkOk X.N X.env.scope scope own)
    (hg : ∀ (s : Shared) (H : Hp) (C : Addr) (cl : List (Str × Addr)) (fp : List Addr), PG (X.blk s H scope (compEnvC scope cl C X.env) fp) tg g) (hf : AdG (some (own.map (·.2))) g f)
    (ht : ∀ (s : Shared) (H : Hp) (C : Addr) (cl : List (Str × Addr)) (fp : List Addr), PPTs (X.blk s H scope (compEnvC scope cl C X.env) fp) F0 ifs T)
    (he : ∀ (s : Shared) (H : Hp) (C : Addr) (cl : List (Str × Addr)) (fp : List Addr), PP (X.blk s H scope (compEnvC scope cl C X.env) fp) F0 elt E) (hs : ∀ x, foldedSetIterable iter X.env x = pure x := by intro _; rfl) :
    PP X Wx (.ListComp elt [⟨tg, iter, ifs, 0⟩] scope pos) (fLc I f T E (own.map (·.2))) :=
  let ⟨wi, pi, ai⟩ := hi; ⟨_, pe_lc hc hN pi ok hg (fun s H C cl fp => ht s H C cl fp) (fun s H C cl fp => (he s H C cl fp).can) hs, ad_lc ai hf⟩
end
end Pu
set_option Elab.async false
set_option linter.all false
set_option maxRecDepth 100000
set_option maxHeartbeats 4000000
namespace Pu
open L2 PySem PySem.Spec PyProof.Rows E10
/-! ### comprehensions of dicts -/
/-- a dict comprehension over anything that is walked -/
theorem dc_itP {J : It} {n : Nat} {G : Hp → Prop} {Y : Nat → Hp → V → Hp → Prop} (w : Walk J n G Y) {g : TG} {tt : TT} {tk tv : TE} {vs : List Nat} {σ : L2.St} {H1 : Hp} {D : Addr} {Qd : Hp → Prop} (Pv : Nat → Hp → Prop) (h0 : Pv 0 (upd H1 D (.dK []))) (hG : ∀ i H, i ≤ n → Pv i H → G H)
    (hs : ∀ i x H H', i < n → Pv i H → Y i H x H' → g x (wipe σ vs) H' fun σ2 H2 => wipe σ2 vs = wipe σ vs ∧ tt σ2 H2 fun b H3 =>
      if b = true then tk σ2 H3 fun y H4 => tv σ2 H4 fun z H5 => ∃ kvs k, y = kV k ∧ H5 D = some (.dK kvs) ∧ kvs.length < sizeLine ∧ Pv (i + 1) (upd H5 D (.dK (putK kvs k z))) else Pv (i + 1) H3) (hd : ∀ H, Pv n H → Qd H) :
    ∃ W : Nat → Nat → Hp → Prop, (∃ m, W 0 m (upd H1 D (.dK []))) ∧ ∀ i m H, W i m H →
      (J.stop i H ∧ Qd H) ∨ (J.go i H ∧ ∃ Nx : Hp → Prop, (∀ H', Nx H' → ∃ m', m' < m ∧ W (i + 1) m' H') ∧ ∀ x H', J.yld i H x H' → g x (wipe σ vs) H' fun σ2 H2 => wipe σ2 vs = wipe σ vs ∧ tt σ2 H2 fun b H3 =>
        if b = true then tk σ2 H3 fun y H4 => tv σ2 H4 fun z H5 => ∃ kvs k, y = kV k ∧ H5 D = some (.dK kvs) ∧ kvs.length < sizeLine ∧ Nx (upd H5 D (.dK (putK kvs k z))) else Nx H3) := by
  refine ⟨fun i m H => m = n - i ∧ i ≤ n ∧ Pv i H, ⟨n, by simp, Nat.zero_le _, h0⟩, ?_⟩
  rintro i m H ⟨rfl, hi, p⟩
  have q := hG i H hi p
  by_cases hlt : i < n
  · refine .inr ⟨w.goes i H hlt q, Pv (i + 1), fun H' p' => ⟨n - (i + 1), by omega, rfl, hlt, p'⟩, fun x H' y => hs i x H H' hlt p (w.yields i H x H' hlt q y)⟩
  · have e : i = n := by omega
    subst e
    exact .inl ⟨w.stops H q, hd H p⟩
def putP (ps : List (Key × P)) (k : Key) (p : P) : List (Key × P) := if (ps.any fun kv => decide (kv.1 = k)) = true then ps.map (fun kv => if kv.1 = k then (kv.1, p) else kv) else ps ++ [(k, p)]
theorem RepK.append {D H} : ∀ {vs ps ws qs}, RepK D H vs ps → RepK D H ws qs → RepK D H (vs ++ ws) (ps ++ qs)
  | _, _, _, _, .nil, s => s
  | _, _, _, _, .cons r t, s => .cons r (RepK.append t s)
theorem RepK.any {D H} (k : Key) : ∀ {vs ps}, RepK D H vs ps → (vs.any fun kv => decide (kv.1 = k)) = (ps.any fun kv => decide (kv.1 = k))
  | _, _, .nil => rfl
  | _, _, .cons _ t => by rw [List.any_cons, List.any_cons, RepK.any k t]
theorem RepK.map {D H} {k : Key} {v : V} {p : P} (r : Rep D H v p) : ∀ {vs ps}, RepK D H vs ps → RepK D H (vs.map fun kv => if kv.1 = k then (kv.1, v) else kv) (ps.map fun kv => if kv.1 = k then (kv.1, p) else kv)
  | _, _, .nil => .nil
  | _, _, @RepK.cons _ _ k' v' p' l m r' t => by
    rw [List.map_cons, List.map_cons]
    by_cases c : k' = k
    · simp only [c, if_true]
      exact .cons r (RepK.map r t)
    · simp only [c, if_false]
      exact .cons r' (RepK.map r t)
theorem RepK.put {D H} {k : Key} {v : V} {p : P} {vs ps} (t : RepK D H vs ps) (r : Rep D H v p) : RepK D H (putK vs k v) (putP ps k p) := by
  unfold putK putP
  rw [t.any k]
  split
  · exact t.map r
  · exact t.append (.cons r .nil)
theorem putP_len (ps : List (Key × P)) (k : Key) (p : P) : (putP ps k p).length ≤ ps.length + 1 := by
  unfold putP
  split <;> simp
/-- the rows, then what comes of them -/
def dcW (k : Key → P → Μ → O (List (Key × P))) (kp : W) : W → Μ → O (List (Key × P))
  | .v q, m => match kp with
    | .v p => match keyP p with
      | some key => k key q m
      | none => .bad
    | .loc _ => .bad
  | .loc _, _ => .bad
def dcGo (f : GF) (T : TF) (Ek Ev : EF) (γ : Γ) : List P → List (Key × P) → Μ → O (List (Key × P))
  | [], acc, m => .ok acc m
  | p :: r, acc, m => match f p γ with
    | none => .bad
    | some γ1 => (T γ1 m).nx.bind fun b m1 => if b = true then (Ek γ1 m1).nx.bind fun wk m2 => (Ev γ1 m2).nx.bind (dcW (fun key q m3 => dcGo f T Ek Ev γ r (putP acc key q) m3) wk) else dcGo f T Ek Ev γ r acc m1
def fDc (I : IF) (f : GF) (T : TF) (Ek Ev : EF) (vs : List Nat) : EF := fun γ μ => (I γ μ).bind fun ps m => (dcGo f T Ek Ev (wipeG γ vs) ps [] m).bind fun qs m => .ok (.v (.dct qs)) m
structure DcAt (D1 : Addr → Prop) (as1 : Ps) (H1 : Hp) (tot : O (List (Key × P))) (go : List P → List (Key × P) → Μ → O (List (Key × P))) (Dl : Addr) (ps : List P) (i : Nat) (H' : Hp) : Prop where
  ex : ∃ D' as' acc qs m', Nx D1 as1 H1 D' as' H' ∧ Sk D' as' H' m' ∧ D' Dl ∧ (∀ j : Nat, as'[j]? ≠ some (some Dl)) ∧ H' Dl = some (.dK acc) ∧ RepK D' H' acc qs ∧ qs.length ≤ i ∧ tot = go (ps.drop i) qs m'
theorem ad_dc {Wx : WX} {wi : TI} {g : TG} {I : IF} {f : GF} {T : TF} {Ek Ev : EF} {vs : List Nat} (hi : AdI Wx wi I) (hg : AdG (some vs) g f) : Ad Wx (tDc wi g (tT F0 T) (tE F0 Ek) (tE F0 Ev) vs) (fDc I f T Ek Ev vs) := fun D as γ μ σ H Q k ev gg => by
  refine hi D as γ μ σ H _ k ev ((G.bind RepI k gg).mono fun J H1 ⟨D1, as1, μ1, ps, n1, k1, r1, g1⟩ => ?_)
  intro Dl nDl
  obtain ⟨hl, Gd, Y, wk, stab, yl⟩ := r1
  have ev1 := ev.nx n1
  have nd1 : ¬ D1 Dl := k1.nd nDl
  obtain ⟨n0, k0, nj0⟩ := k1.hide (o := .dK []) nDl
  have nb : dcGo f T Ek Ev (wipeG γ vs) ps [] μ1 ≠ .bad := bind_nb g1.nobad
  refine dc_itP wk (fun i H' => i ≤ ps.length ∧ DcAt D1 as1 H1 (dcGo f T Ek Ev (wipeG γ vs) ps [] μ1) (dcGo f T Ek Ev (wipeG γ vs)) Dl ps i H') ⟨Nat.zero_le _, ⟨_, _, [], [], μ1, n0, k0, .inr rfl, nj0, upd_same, .nil, Nat.le_refl _, ?_⟩⟩ (fun i H' _ h => ?_) ?_ ?_
  · rw [List.drop_zero]
  · obtain ⟨D', as', acc, qs, m', n', _⟩ := h.2.ex
    exact stab D' H' n'.sdl
  · rintro i x H' H2 lt ⟨_, h⟩ y
    obtain ⟨D', as', acc, qs, m', n', k', dl, nj, hD, rs, lq, tot⟩ := h.ex
    obtain ⟨s2, p, hp, rp⟩ := yl i D' H' x H2 lt n'.sdl (fun a d => k'.dn a d) y
    have k2 : Sk D' as' H2 m' := k'.same s2
    have n2 : Nx D1 as1 H1 D' as' H2 := n'.trans k1 k' (.of_same s2)
    have hdrop : ps.drop i = p :: ps.drop (i + 1) := List.drop_eq_getElem?_toList_append.trans (by rw [hp]; rfl)
    rw [hdrop] at tot
    have nb2 : dcGo f T Ek Ev (wipeG γ vs) (p :: ps.drop (i + 1)) qs m' ≠ .bad := by
      rw [tot] at nb
      exact nb
    cases ef : f p (wipeG γ vs) with
    | none => exact absurd (by simp only [dcGo, ef]) nb2
    | some γ1 =>
      have e1 : dcGo f T Ek Ev (wipeG γ vs) (p :: ps.drop (i + 1)) qs m' = (T γ1 m').nx.bind fun b m1 => if b = true then (Ek γ1 m1).nx.bind fun wk m2 => (Ev γ1 m2).nx.bind (dcW (fun key q m3 => dcGo f T Ek Ev (wipeG γ vs) (ps.drop (i + 1)) (putP qs key q) m3) wk) else dcGo f T Ek Ev (wipeG γ vs) (ps.drop (i + 1)) qs m1 := by
        simp only [dcGo, ef]
      rw [e1] at nb2 tot
      refine hg D' as' m' (wipe σ vs) (wipeG γ vs) γ1 H2 p x _ k2 ((ev1.nx n2).wipe vs) rp ef fun σ2 ev2 w2 l2 => ⟨(w2 vs rfl).trans (wipe_wipe σ vs), ?_⟩
      obtain ⟨b, m1, eT⟩ := nx_ok nb2
      refine ⟨D', as', γ1, m', k2, ev2, ?_⟩
      rw [eT] at nb2 tot ⊢
      intro b' D3 as3 H3 n3 k3 eb
      obtain rfl : b' = b := eb
      have nj3 := n3.notin nj (s2 _ _ hD)
      have hD3 : H3 Dl = some (.dK acc) := n3.hid Dl _ dl nj (s2 _ _ hD)
      have dl3 := n3.mono Dl dl nj
      have n13 := n2.trans k1 k2 n3
      cases b' with
      | false =>
        exact ⟨lt, ⟨D3, as3, acc, qs, m1, n13, k3, dl3, nj3, hD3, RepK.sd n3.sd (RepK.sd (.same s2) rs), Nat.le_succ_of_le lq, tot⟩⟩
      | true =>
        simp only [if_true]
        have nb3 : ((Ek γ1 m1).nx.bind fun wk m2 => (Ev γ1 m2).nx.bind (dcW (fun key q m3 => dcGo f T Ek Ev (wipeG γ vs) (ps.drop (i + 1)) (putP qs key q) m3) wk)) ≠ .bad := nb2
        have tot3 : dcGo f T Ek Ev (wipeG γ vs) ps [] μ1 = (Ek γ1 m1).nx.bind fun wk m2 => (Ev γ1 m2).nx.bind (dcW (fun key q m3 => dcGo f T Ek Ev (wipeG γ vs) (ps.drop (i + 1)) (putP qs key q) m3) wk) := tot
        obtain ⟨w1, m2, eK⟩ := nx_ok nb3
        refine ⟨D3, as3, γ1, m1, k3, ev2.nx n3, ?_⟩
        rw [eK] at nb3 tot3 ⊢
        intro yk D4 as4 H4 n4 k4 ry
        have nj4 := n4.notin nj3 hD3
        have hD4 : H4 Dl = some (.dK acc) := n4.hid Dl _ dl3 nj3 hD3
        have dl4 := n4.mono Dl dl3 nj3
        have n14 := n13.trans k1 k3 n4
        have nb4 : (Ev γ1 m2).nx.bind (dcW (fun key q m3 => dcGo f T Ek Ev (wipeG γ vs) (ps.drop (i + 1)) (putP qs key q) m3) w1) ≠ .bad := nb3
        have tot4 : dcGo f T Ek Ev (wipeG γ vs) ps [] μ1 = (Ev γ1 m2).nx.bind (dcW (fun key q m3 => dcGo f T Ek Ev (wipeG γ vs) (ps.drop (i + 1)) (putP qs key q) m3) w1) := tot3
        obtain ⟨w2', m3, eV⟩ := nx_ok nb4
        refine ⟨D4, as4, γ1, m2, k4, (ev2.nx n3).nx n4, ?_⟩
        rw [eV] at nb4 tot4 ⊢
        intro yv D5 as5 H5 n5 k5 rv
        have nb5 : dcW (fun key q m3 => dcGo f T Ek Ev (wipeG γ vs) (ps.drop (i + 1)) (putP qs key q) m3) w1 w2' m3 ≠ .bad := nb4
        have tot5 : dcGo f T Ek Ev (wipeG γ vs) ps [] μ1 = dcW (fun key q m3 => dcGo f T Ek Ev (wipeG γ vs) (ps.drop (i + 1)) (putP qs key q) m3) w1 w2' m3 := tot4
        have nj5 := n5.notin nj4 hD4
        have hD5 : H5 Dl = some (.dK acc) := n5.hid Dl _ dl4 nj4 hD4
        have dl5 := n5.mono Dl dl4 nj4
        have n15 := n14.trans k1 k4 n5
        have racc := RepK.sd n5.sd (RepK.sd n4.sd (RepK.sd n3.sd (RepK.sd (.same s2) rs)))
        cases w2' with
        | loc j => exact absurd rfl nb5
        | v q =>
          cases w1 with
          | loc j => exact absurd rfl nb5
          | v pk =>
            cases ek : keyP pk with
            | none => exact absurd (by simp only [dcW, ek]) nb5
            | some key =>
              have tot6 : dcGo f T Ek Ev (wipeG γ vs) ps [] μ1 = dcGo f T Ek Ev (wipeG γ vs) (ps.drop (i + 1)) (putP qs key q) m3 := by
                rw [tot5]
                simp only [dcW, ek]
              obtain ⟨s5, k6⟩ := k5.poke (o := .dK (putK acc key yv)) dl5 nj5
              refine ⟨acc, key, keyP_ok (show Rep D4 H4 yk pk from ry) ek, hD5, ?_, lt, ⟨D5, as5, putK acc key yv, putP qs key q, m3, n15.poke dl5 nDl nd1, k6, dl5, nj5, upd_same, RepK.sd s5 (racc.put rv), ?_, tot6⟩⟩
              · rw [racc.length]
                exact Nat.lt_of_lt_of_le (Nat.lt_of_le_of_lt lq (Nat.lt_of_lt_of_le lt hl)) (by decide)
              · exact Nat.le_trans (putP_len qs key q) (Nat.succ_le_succ lq)
  · rintro H' ⟨_, h⟩
    obtain ⟨D', as', acc, qs, m', n', k', dl, nj, hD, rs, lq, tot⟩ := h.ex
    rw [List.drop_length] at tot
    have tot2 : dcGo f T Ek Ev (wipeG γ vs) ps [] μ1 = .ok qs m' := tot
    rw [tot2] at g1
    obtain ⟨s3, n3, k3⟩ := k'.free n' nj nd1
    exact g1 (.ref Dl) _ as' H' n3 k3 (show Rep _ _ _ _ from .dct (fun z => z.2 rfl) (.inl hD) (RepK.sd s3 rs))
section
variable {X : Cx} {Wx : WX}
theorem pp_dc {kx vx tg iter : Expr} {ifs : List Expr} {scope : Scope} {own : List (Str × Nat)} {pos : Pos} {I : IF} {g : TG} {f : GF} {T : TF} {Ek Ev : EF} (hc : X.calm = true) (hN : X.N.Nodup) (hi : PPI X Wx tg iter I) (ok : BlkOk X.N X.env.scope scope own)
    (hg : ∀ (s : Shared) (H : Hp) (C : Addr) (cl : List (Str × Addr)) (fp : List Addr), PG (X.blk s H scope (compEnvC scope cl C X.env) fp) tg g) (hf : AdG (some (own.map (·.2))) g f)
    (ht : ∀ (s : Shared) (H : Hp) (C : Addr) (cl : List (Str × Addr)) (fp : List Addr), PPTs (X.blk s H scope (compEnvC scope cl C X.env) fp) F0 ifs T)
    (hk : ∀ (s : Shared) (H : Hp) (C : Addr) (cl : List (Str × Addr)) (fp : List Addr), PP (X.blk s H scope (compEnvC scope cl C X.env) fp) F0 kx Ek)
    (he : ∀ (s : Shared) (H : Hp) (C : Addr) (cl : List (Str × Addr)) (fp : List Addr), PP (X.blk s H scope (compEnvC scope cl C X.env) fp) F0 vx Ev) (hs : ∀ x, foldedSetIterable iter X.env x = pure x := by intro _; rfl) :
    PP X Wx (.DictComp kx vx [⟨tg, iter, ifs, 0⟩] scope pos) (fDc I f T Ek Ev (own.map (·.2))) :=
  let ⟨wi, pi, ai⟩ := hi; ⟨_, pe_dc hc hN pi ok hg (fun s H C cl fp => ht s H C cl fp) (fun s H C cl fp => (hk s H C cl fp).can) (fun s H C cl fp => (he s H C cl fp).can) hs, ad_dc ai hf⟩
end
end Pu
set_option Elab.async false
set_option linter.all false
set_option maxRecDepth 100000
set_option maxHeartbeats 4000000
namespace Pu
open L2 PySem PySem.Spec PyProof.Rows E10
/-! ### for -/
def forGo (f : GF) (B : SF) : List P → Γ → Μ → OS
  | [], γ, m => .nx γ m
  | p :: r, γ, m => match f p γ with
    | none => .bad
    | some γ1 => match B γ1 m with
      | .nx γ2 m2 => forGo f B r γ2 m2
      | .ct γ2 m2 => forGo f B r γ2 m2
      | .bk γ2 m2 => .nx γ2 m2
      | o => o
def sFor (I : IF) (f : GF) (B : SF) : SF := fun γ μ => (I γ μ).s γ fun ps m => forGo f B ps γ m
def tS (Wx : WX) (S : SF) : TS := fun E σ H => ∃ D as γ μ, Sk D as H μ ∧ EnvR D as H σ γ ∧ GS Wx D as H σ.length (S γ μ) E
theorem PPSs.can {X : Cx} {Wx : WX} {sts : List Stmt} {S : SF} (h : PPSs X Wx sts S) : PSs X sts (tS Wx S) := let ⟨_, p, ad⟩ := h; ⟨fun pins s σ H E I ⟨D, as, γ, μ, k, ev, g⟩ => p.run pins s σ H E I (ad D as γ μ σ H E k ev g)⟩
theorem ad_for {Wx : WX} {wi : TI} {g : TG} {I : IF} {f : GF} {B : SF} {tb : TS} (hi : AdI Wx wi I) (hg : AdG none g f) (hb : AdS Wx tb B) : AdS Wx (tFor wi g tb) (sFor I f B) := fun D as γ μ σ H E k ev gg => by
  refine hi D as γ μ σ H _ k ev ((GS.of_s (R := RepI) k ev gg).mono fun J H1 ⟨D1, as1, μ1, ps, n1, k1, ev1, r1, g1⟩ => ?_)
  obtain ⟨hl, Gd, Y, wk, stab, yl⟩ := r1
  refine for_it wk (fun i σ' H' => ∃ D' as' γ' m', Nx D1 as1 H1 D' as' H' ∧ Sk D' as' H' m' ∧ EnvR D' as' H' σ' γ' ∧ σ'.length = σ.length ∧ GS Wx D' as' H' σ.length (forGo f B (ps.drop i) γ' m') E) ⟨D1, as1, γ, μ1, .refl, k1, ev1, rfl, by rw [List.drop_zero]; exact g1⟩ (fun i σ' H' _ h => ?_) ?_ ?_
  · obtain ⟨D', as', γ', m', n', _⟩ := h
    exact stab D' H' n'.sdl
  · rintro i x σ' H' H2 lt ⟨D', as', γ', m', n', k', ev', l', g'⟩ y
    obtain ⟨s2, p, hp, rp⟩ := yl i D' H' x H2 lt n'.sdl (fun a d => k'.dn a d) y
    have k2 : Sk D' as' H2 m' := k'.same s2
    have n02 : Nx D' as' H' D' as' H2 := .of_same s2
    have n2 : Nx D1 as1 H1 D' as' H2 := n'.trans k1 k' n02
    have hdrop : ps.drop i = p :: ps.drop (i + 1) := List.drop_eq_getElem?_toList_append.trans (by rw [hp]; rfl)
    rw [hdrop] at g'
    cases ef : f p γ' with
    | none =>
      simp only [forGo, ef] at g'
      exact g'.elim
    | some γ1 =>
      simp only [forGo, ef] at g'
      refine hg D' as' m' σ' γ' γ1 H2 p x _ k2 (ev'.nx n02) rp ef fun σ2 ev2 _ l2 => ?_
      refine hb D' as' γ1 m' σ2 H2 _ k2 ev2 ?_
      have l3 : σ2.length = σ.length := l2.trans l'
      rw [l3]
      have up : ∀ {o}, GS Wx D' as' H' σ.length o E → GS Wx D' as' H2 σ.length o E := fun {o} z => GS.nx' k' k2 n02 z
      cases eB : B γ1 m' with
      | nx γ2 m2 =>
        rw [eB] at g'
        exact fun σ3 D3 as3 H3 n3 k3 ev3 l => ⟨D3, as3, γ2, m2, n2.trans k1 k2 n3, k3, ev3, l, GS.nx' k2 k3 n3 (up g')⟩
      | ct γ2 m2 =>
        rw [eB] at g'
        exact fun σ3 D3 as3 H3 n3 k3 ev3 l => ⟨D3, as3, γ2, m2, n2.trans k1 k2 n3, k3, ev3, l, GS.nx' k2 k3 n3 (up g')⟩
      | bk γ2 m2 => rw [eB] at g'; exact up g'
      | ret w m2 => rw [eB] at g'; exact up g'
      | exc C fs γ2 m2 => rw [eB] at g'; exact up g'
      | bad => rw [eB] at g'; exact g'.elim
  · rintro σ' H' ⟨D', as', γ', m', n', k', ev', l', g'⟩
    rw [List.drop_length] at g'
    exact g' σ' D' as' H' .refl k' ev' l'
section
variable {X : Cx} {Wx : WX}
theorem ppq_for {tg iter : Expr} {body : List Stmt} {pos : Pos} {I : IF} {g : TG} {f : GF} {B : SF} (hp : PassesOwn (model X.prog X.w) X.A X.env X.xe) (hc : X.calm = true) (hi : PPI X Wx tg iter I) (hg : PG X tg g) (hf : AdG none g f) (hb : PPSs X Wx body B)
    (hs : ∀ x, foldedSetIterable iter X.env x = pure x := by intro _; rfl) : PPS X Wx (.For tg iter body [] pos) (sFor I f B) :=
  let ⟨_, pi, ai⟩ := hi; let ⟨_, pb, ab⟩ := hb; ⟨_, ps_for hp hc pi hg pb hs, ad_for ai hf ab⟩
end
/-! ### while -/
end Pu
set_option Elab.async false
set_option linter.all false
set_option maxRecDepth 100000
set_option maxHeartbeats 4000000
namespace Pu
open L2 PySem PySem.Spec PyProof.Rows E10
/-! ### what changes -/
section
variable {D : Addr → Prop} {as : Ps} {H : Hp} {μ : Μ}
theorem cell_set {j : Nat} {a : Addr} {o u : HO} {c : PC} (k : Sk D as H μ) (e : as[j]? = some (some a)) (nf : ∀ x y, H a ≠ some (.frz x y)) (h : ∀ D' H', Sd D H D' H' → H' a = some o → CellOk D' H' a c) : Nx D as H D as (upd H a o) ∧ Sk D as (upd H a o) (μ.set j c) := by
  have da := k.inD j a e
  have ne : ∀ b, ¬ D b → b ≠ a := fun b n z => n (z ▸ da)
  have n : Nx D as H D as (upd H a o) := by
    refine ⟨fun _ _ h => .inl h, fun b x h => ?_, fun _ h _ => h, fun _ h => .inl h, fun _ _ h => .inl h, fun b x db nb e' => ?_, fun b x n r => ?_, fun b x n e' _ => (upd_ne (ne b n)).trans e', fun b x y e' => ?_⟩
    · by_cases z : b = a
      · subst z; exact ⟨o, upd_same⟩
      · exact ⟨x, (upd_ne z).trans h⟩
    · rw [upd_ne (fun z : b = a => nb j (z ▸ e))]
      exact e'
    · rcases r with r | ⟨y, r⟩
      · exact .inl ((upd_ne (ne b n)).trans r)
      · exact .inr ⟨y, (upd_ne (ne b n)).trans r⟩
    · rw [upd_ne (fun z : b = a => by rw [z] at e'; exact nf x y e')]
      exact e'
  refine ⟨n, by rw [List.length_set]; exact k.len, fun b d => ?_, k.inD, k.inj, fun i b e' => ?_, fun i e' => ?_⟩
  · by_cases z : b = a
    · subst z
      exact ⟨o, upd_same⟩
    · rw [upd_ne z]
      exact k.dn b d
  · by_cases z : i = j
    · subst z
      rw [e] at e'
      cases e'
      have lt : i < μ.length := by
        rw [← k.len]
        exact (List.getElem?_eq_some_iff.mp e).1
      exact ⟨c, List.getElem?_set_self lt, h D _ n.sd upd_same⟩
    · obtain ⟨c', q, x⟩ := k.ok i b e'
      have nab : b ≠ a := fun w => z (k.inj i j b e' (w ▸ e))
      exact ⟨c', by rw [List.getElem?_set_ne (Ne.symm z)]; exact q, x.sd n.sd (upd_ne nab)⟩
  · rw [List.getElem?_set_ne (fun z : j = i => by rw [← z, e] at e'; cases e')]
    exact k.dead i e'
theorem nofz {H : Hp} {a : Addr} {o : HO} (h : H a = some o) (n : ∀ x y, o ≠ .frz x y) : ∀ x y, H a ≠ some (.frz x y) := fun x y e => n x y (Option.some.inj (h.symm.trans e))
end
def wL (μ : Μ) : W → Option (Nat × List P)
  | .loc j => match μ[j]? with
    | some (.lst ps) => some (j, ps)
    | _ => none
  | _ => none
def wD (μ : Μ) : W → Option (Nat × List (Key × P))
  | .loc j => match μ[j]? with
    | some (.dct ps) => some (j, ps)
    | _ => none
  | _ => none
def wI (μ : Μ) : W → Option (Nat × Addr × List (Str × P))
  | .loc j => match μ[j]? with
    | some (.ins C ps) => some (j, C, ps)
    | _ => none
  | _ => none
section
variable {D : Addr → Prop} {as : Ps} {H : Hp} {μ : Μ} {v : V} {w : W}
theorem wL_ok {j : Nat} {ps : List P} (k : Sk D as H μ) (r : RepW D as H v w) (h : wL μ w = some (j, ps)) : ∃ a xs, v = .ref a ∧ as[j]? = some (some a) ∧ H a = some (.lst xs) ∧ Reps D H xs ps := by
  unfold wL at h
  split at h
  · split at h
    · rename_i q
      cases h
      obtain ⟨a, e, rfl, x⟩ := r.adr k q (by simp)
      obtain ⟨xs, hx, rs⟩ := x
      exact ⟨a, xs, rfl, e, hx, rs⟩
    · cases h
  · cases h
theorem wD_ok {j : Nat} {ps : List (Key × P)} (k : Sk D as H μ) (r : RepW D as H v w) (h : wD μ w = some (j, ps)) : ∃ a xs, v = .ref a ∧ as[j]? = some (some a) ∧ H a = some (.dK xs) ∧ RepK D H xs ps := by
  unfold wD at h
  split at h
  · split at h
    · rename_i q
      cases h
      obtain ⟨a, e, rfl, x⟩ := r.adr k q (by simp)
      obtain ⟨xs, hx, rs⟩ := x
      exact ⟨a, xs, rfl, e, hx, rs⟩
    · cases h
  · cases h
theorem wI_ok {j : Nat} {C : Addr} {ps : List (Str × P)} (k : Sk D as H μ) (r : RepW D as H v w) (h : wI μ w = some (j, C, ps)) : ∃ a dx xs, v = .ref a ∧ as[j]? = some (some a) ∧ H a = some (.ins C dx xs) ∧ RepS D H xs ps := by
  unfold wI at h
  split at h
  · split at h
    · rename_i q
      cases h
      obtain ⟨a, e, rfl, x⟩ := r.adr k q (by simp)
      obtain ⟨dx, xs, hx, rs⟩ := x
      exact ⟨a, dx, xs, rfl, e, hx, rs⟩
    · cases h
  · cases h
end
/-! ### methods of the built-in -/
def AdM (Wx : WX) (r : V → List V → Hp → VK → Prop) (f : W → List W → Μ → O W) : Prop := ∀ D as μ σ H x w vs ws Q, Sk D as H μ → RepW D as H x w → RepWs D as H vs ws → G Wx σ RepW D as H (f w ws μ) Q → r x vs H Q
def isTy (T : String) (μ : Μ) (w : W) : Bool := match w with
  | .v (.str _) => T == "str"
  | w => (T == "list" && (rdL μ w).isSome) || (T == "dict" && (wD μ w).isSome)
theorem isTy_ok {K : PySem.W.Frag} {D as H} {μ : Μ} {v : V} {w : W} {T : String} (k : Sk D as H μ) (r : RepW D as H v w) (h : isTy T μ w = true) : tyV K T v H := by
  unfold isTy at h
  split at h
  · obtain rfl := rep_str r
    exact beq_iff_eq.mp h
  · rcases Bool.or_eq_true_iff.mp h with h | h
    · obtain ⟨h1, h2⟩ := Bool.and_eq_true_iff.mp h
      obtain ⟨ps, e⟩ := Option.isSome_iff_exists.mp h2
      obtain ⟨a, xs, rfl, hr, _⟩ := rdL_ok k r e
      exact .inl ⟨beq_iff_eq.mp h1, xs, .inl hr⟩
    · obtain ⟨h1, h2⟩ := Bool.and_eq_true_iff.mp h
      obtain ⟨ps, e⟩ := Option.isSome_iff_exists.mp h2
      obtain ⟨a, xs, rfl, _, hr, _⟩ := wD_ok k r e
      exact .inr (.inr (.inl ⟨beq_iff_eq.mp h1, .inl ⟨xs, hr⟩⟩))
def fBM (T : String) (f : W → List W → Μ → O W) (F : EF) (A : AF) : EF := fun γ μ => (F γ μ).bind fun w m => if isTy T m w = true then (A γ m).bind fun ws m => f w ws m else .bad
theorem ad_bm {Wx : WX} {K : PySem.W.Frag} {T : String} {r} {f} {to : TE} {t : TA} {F : EF} {A : AF} (h : AdM Wx r f) (ho : Ad Wx to F) (ha : AdA Wx t A) : Ad Wx (tBM K T r to t) (fBM T f F A) := fun D as γ μ σ H Q k ev g => by
  refine ho D as γ μ σ H _ k ev ((G.bind RepW k g).mono fun x H1 ⟨D1, as1, μ1, w, n1, k1, r1, g1⟩ => ?_)
  split at g1
  · rename_i ty
    refine ⟨isTy_ok k1 r1 ty, ha D1 as1 γ μ1 σ H1 _ k1 (ev.nx n1) ((G.bind RepWs k1 g1).mono fun xs H2 ⟨D2, as2, μ2, ws, n2, k2, r2, g2⟩ => ?_)⟩
    exact h D2 as2 μ2 σ H2 x w xs ws Q k2 (r1.nx n2) r2 g2
  · exact g1.elim
section
variable {X : Cx} {Wx : WX} {o e a b value : Expr} {es : List Expr} {F F1 F2 F3 : EF} {A : AF} {name : Str} {apos cpos pos pos' : Pos} {T id : String} {r : V → List V → Hp → VK → Prop} {f : W → List W → Μ → O W}
theorem pp_bm (pa : PlainAttrs T) (slot : Slot T name id) (hty : typeOf (.builtin id) = pure (.type "method_descriptor")) (hm : MtR X id r) (h : AdM Wx r f) (ho : PP X Wx o F) (ha : PPA X Wx (e :: es) A)
    (hbase : attributeBase o name X.env (eval o X.env) = eval o X.env := by rfl)
    (hfew : ((backTo cpos (starEach (e :: es) X.env)).all (fun x => !x.1) && (backToKw cpos (keywordEach [] X.env)).all (fun x => x.1.isSome)
      && decide ((e :: es).length + ([] : List Keyword).length + (if ([] : List Keyword).isEmpty then 0 else 1) < 30)) = true := by rfl)
    (hline : (apos.endLine == cpos.line) = true := by rfl) (hs : starEach (e :: es) X.env = (false, eval e X.env) :: starEach es X.env := by rfl) (hplain : (backTo cpos (starEach es X.env)).any (·.1) = false := by rfl) :
    PP X Wx (.Call (.Attribute o name apos) (e :: es) [] cpos) (fBM T f F A) := let ⟨_, po, ao⟩ := ho; let ⟨_, p, aa⟩ := ha; ⟨_, pe_bm pa slot hty hm po p hbase hfew hline hs hplain, ad_bm h ao aa⟩
/-- xs.append(p) -/
def mAppend : W → List W → Μ → O W := fun w ws μ => match wL μ w, ws with
  | some (j, ps), [.v p] => if ps.length < 100000 then .ok (.v .non) (μ.set j (.lst (ps ++ [p]))) else .bad
  | _, _ => .bad
theorem am_append : AdM Wx rAppend mAppend := fun D as μ σ H x w vs ws Q k rx rv g => by
  unfold mAppend at g
  split at g
  · rename_i j ps p e
    split at g
    · rename_i hl
      obtain ⟨a, xs, rfl, ea, ha, rs⟩ := wL_ok k rx e
      obtain ⟨v, rfl, rp⟩ := repWs1 rv
      refine ⟨a, xs, v, rfl, rfl, ha, ?_, ?_⟩
      · rw [rs.length]
        exact Nat.lt_of_lt_of_le hl (by decide)
      · obtain ⟨n, k'⟩ := cell_set (o := .lst (xs ++ [v])) (u := .lst []) (c := .lst (ps ++ [p])) k ea (nofz (by assumption) (fun _ _ z => by cases z)) fun D' H' s e' => ⟨_, e', (Reps.sd s rs).snoc (Rep.sd s rp)⟩
        exact g .non D as _ n k' (show Rep _ _ _ _ from .non)
    · exact g.elim
  · exact g.elim
/-- xs.pop(i) -/
def mPopAt : W → List W → Μ → O W := fun w ws μ => match wL μ w, ws with
  | some (j, ps), [.v (.int i)] => if i.natAbs < 2 ^ 61 then match seqIndex? i ps.length with
    | some n => match ps[n]? with
      | some p => .ok (.v p) (μ.set j (.lst (ps.eraseIdx n)))
      | none => .bad
    | none => .bad
    else .bad
  | _, _ => .bad
theorem am_popAt : AdM Wx rPopAt mPopAt := fun D as μ σ H x w vs ws Q k rx rv g => by
  unfold mPopAt at g
  split at g
  · rename_i j ps i e
    split at g
    · rename_i hl
      split at g
      · rename_i n en
        split at g
        · rename_i p ep
          obtain ⟨a, xs, rfl, ea, ha, rs⟩ := wL_ok k rx e
          obtain ⟨v, rfl, rp⟩ := repWs1 rv
          obtain rfl := rep_int rp
          obtain ⟨y, hy, ry⟩ := rs.getP ep
          have : (2 : Nat) ^ 61 = 2305843009213693952 := by decide
          have : (2 : Int) ^ 63 = 9223372036854775808 := by decide
          refine ⟨a, xs, i, n, y, rfl, rfl, ha, by omega, by omega, by rw [rs.length]; exact en, hy, ?_⟩
          obtain ⟨n', k'⟩ := cell_set (o := .lst (xs.eraseIdx n)) (u := .lst []) (c := .lst (ps.eraseIdx n)) k ea (nofz (by assumption) (fun _ _ z => by cases z)) fun D' H' s e' => ⟨_, e', (Reps.sd s rs).eraseIdx n⟩
          exact g y D as _ n' k' (show Rep _ _ _ _ from Rep.sd n'.sd ry)
        · exact g.elim
      · exact g.elim
    · exact g.elim
  · exact g.elim
/-- d[k] = p -/
def sDPutP (Fd Fk Fv : EF) : SF := fun γ μ => (Fv γ μ).s γ fun wv m => (Fd γ m).s γ fun wd m => (Fk γ m).s γ fun wk m => match wD m wd, wk, wv with
  | some (j, ps), .v pk, .v p => match keyP pk with
    | some k => if ps.length < 100000 then .nx γ (m.set j (.dct (putP ps k p))) else .bad
    | none => .bad
  | _, _, _ => .bad
theorem ad_dput {td ty tv : TE} (hd : Ad Wx td F1) (hk : Ad Wx ty F2) (hv : Ad Wx tv F3) : AdS Wx (sDPut td ty tv) (sDPutP F1 F2 F3) := fun D as γ μ σ H E k ev g => by
  refine hv D as γ μ σ H _ k ev ((GS.of_s (R := RepW) k ev g).mono fun v H1 ⟨D1, as1, μ1, wv, n1, k1, ev1, r1, g1⟩ => ?_)
  refine hd D1 as1 γ μ1 σ H1 _ k1 ev1 ((GS.of_s (R := RepW) k1 ev1 g1).mono fun x H2 ⟨D2, as2, μ2, wd, n2, k2, ev2, r2, g2⟩ => ?_)
  refine hk D2 as2 γ μ2 σ H2 _ k2 ev2 ((GS.of_s (R := RepW) k2 ev2 g2).mono fun y H3 ⟨D3, as3, μ3, wk, n3, k3, ev3, r3, g3⟩ => ?_)
  generalize e : wD μ3 wd = od at g3
  match od, wk, wv, e, r3, r1, g3 with
  | some (j, ps), .v pk, .v p, e, r3, r1, g3 =>
    simp only at g3
    split at g3
    · rename_i kk ek
      split at g3
      · rename_i hl
        obtain ⟨a, xs, rfl, ea, ha, rs⟩ := wD_ok k3 (r2.nx n3) e
        have rp : Rep D3 H3 v p := (r1.nx n2).nx n3
        refine ⟨a, _, rfl, .inl ⟨xs, kk, ha, keyP_ok r3 ek, ?_, rfl⟩, ?_⟩
        · rw [rs.length]
          exact Nat.lt_of_lt_of_le hl (by decide)
        · obtain ⟨n', k'⟩ := cell_set (o := .dK (putK xs kk v)) (u := .lst []) (c := .dct (putP ps kk p)) k3 ea (nofz (by assumption) (fun _ _ z => by cases z)) fun D' H' s e' => ⟨_, e', (RepK.sd s rs).put (Rep.sd s rp)⟩
          exact g3 σ D3 as3 _ n' k' (ev3.nx n') rfl
      · exact g3.elim
    · exact g3.elim
  | none, _, _, _, _, _, g3 => exact g3.elim
  | some _, .loc _, _, _, _, _, g3 => exact g3.elim
  | some _, .v _, .loc _, _, _, _, g3 => exact g3.elim
theorem ppq_dput (hu : X.A.units + 1 < cLine) (ho : PP X Wx a F1) (hi : PP X Wx b F2) (hv : PP X Wx value F3) (hs : swapsWith value (some (.Subscript a b pos')) pos.line X.env = pure false := by rfl) : PPS X Wx (.Assign [.Subscript a b pos'] value pos) (sDPutP F1 F2 F3) :=
  let ⟨_, p1, a1⟩ := ho; let ⟨_, p2, a2⟩ := hi; let ⟨_, p3, a3⟩ := hv; ⟨_, ps_dput hu p1 p2 p3 hs, ad_dput a1 a2 a3⟩
/-- xs[i] = p -/
def sLPutP (Fv Fl Fi : EF) : SF := fun γ μ => (Fv γ μ).s γ fun wv m => (Fl γ m).s γ fun wl m => (Fi γ m).s γ fun wi m => match wL m wl, wi, wv with
  | some (j, ps), .v (.int i), .v p => match ixN ps.length i with
    | some n => .nx γ (m.set j (.lst (ps.set n p)))
    | none => .bad
  | _, _, _ => .bad
theorem ad_lput {tl ti tv : TE} (hv : Ad Wx tv F1) (hl : Ad Wx tl F2) (hi : Ad Wx ti F3) : AdS Wx (tAsg tv (gSub tl ti rSetL)) (sLPutP F1 F2 F3) := fun D as γ μ σ H E k ev g => by
  refine hv D as γ μ σ H _ k ev ((GS.of_s (R := RepW) k ev g).mono fun v H1 ⟨D1, as1, μ1, wv, n1, k1, ev1, r1, g1⟩ => ?_)
  refine hl D1 as1 γ μ1 σ H1 _ k1 ev1 ((GS.of_s (R := RepW) k1 ev1 g1).mono fun x H2 ⟨D2, as2, μ2, wd, n2, k2, ev2, r2, g2⟩ => ?_)
  refine hi D2 as2 γ μ2 σ H2 _ k2 ev2 ((GS.of_s (R := RepW) k2 ev2 g2).mono fun y H3 ⟨D3, as3, μ3, wk, n3, k3, ev3, r3, g3⟩ => ?_)
  generalize e : wL μ3 wd = od at g3
  match od, wk, wv, e, r3, r1, g3 with
  | some (j, ps), .v (.int i), .v p, e, r3, r1, g3 =>
    simp only at g3
    split at g3
    · rename_i n en
      obtain ⟨a, xs, rfl, ea, ha, rs⟩ := wL_ok k3 (r2.nx n3) e
      have rp : Rep D3 H3 v p := (r1.nx n2).nx n3
      refine ⟨a, xs, i, n, rfl, rep_int r3, ha, by rw [rs.length]; exact en, ?_⟩
      obtain ⟨n', k'⟩ := cell_set (o := .lst (xs.set n v)) (u := .lst []) (c := .lst (ps.set n p)) k3 ea (nofz (by assumption) (fun _ _ z => by cases z)) fun D' H' s e' => ⟨_, e', (Reps.sd s rs).set (Rep.sd s rp) n⟩
      exact g3 σ D3 as3 _ n' k' (ev3.nx n') rfl
    · exact g3.elim
  | none, _, _, _, _, _, g3 => exact g3.elim
  | some _, .loc _, _, _, _, _, g3 => exact g3.elim
  | some _, .v .non, _, _, _, _, g3 | some _, .v (.bl _), _, _, _, _, g3 | some _, .v (.str _), _, _, _, _, g3 | some _, .v (.ref _), _, _, _, _, g3 | some _, .v (.ty _), _, _, _, _, g3 | some _, .v (.tup _), _, _, _, _, g3 | some _, .v (.lst _), _, _, _, _, g3 | some _, .v (.dct _), _, _, _, _, g3 | some _, .v (.ins _ _), _, _, _, _, g3 | some _, .v (.set _ _), _, _, _, _, g3 => exact g3.elim
  | some _, .v (.int _), .loc _, _, _, _, g3 => exact g3.elim
theorem ppq_lput (hv : PP X Wx value F1) (hl : PP X Wx a F2) (hi : PP X Wx b F3) (hs : swapsWithSole [.Subscript a b pos'] value pos.line X.env = pure false := by rfl) (hw : swappedStores [.Subscript a b pos'] value X.env = pure none := by rfl)
    (h1 : (assignEach [.Subscript a b pos'] X.env).map (·.2) = [assign (.Subscript a b pos') X.env] := by rfl)
    (ha : ∀ v, assign (.Subscript a b pos') X.env v = (do
      let ov ← holding [v] (eval a X.env)
      let iv ← holding [v, ov] (eval b X.env)
      standAt pos'
      holding [v, ov, iv] (setItem ov iv v)
      release [v, ov, iv] []) := by intro _; rfl) : PPS X Wx (.Assign [.Subscript a b pos'] value pos) (sLPutP F1 F2 F3) :=
  let ⟨_, p1, a1⟩ := hv; let ⟨_, p2, a2⟩ := hl; let ⟨_, p3, a3⟩ := hi; ⟨_, ps_asg p1 (pg_sub p2 p3 set_list ha) hs hw h1, ad_lput a1 a2 a3⟩
/-- a, b = .. -/
def sAsgP (F : EF) (f : GF) : SF := fun γ μ => (F γ μ).s γ fun w m => match w with
  | .v p => match f p γ with
    | some γ' => .nx γ' m
    | none => .bad
  | .loc _ => .bad
/-- a, b = x, y: two names -/
def sPar (i j : Nat) (A : AF) : SF := fun γ μ => (A γ μ).s γ fun ws m => match ws with
  | [v, w] => .nx ((γ.set i (some v)).set j (some w)) m
  | _ => .bad
end
end Pu
set_option Elab.async false
set_option linter.all false
set_option maxRecDepth 100000
set_option maxHeartbeats 4000000
namespace Pu
open L2 PySem PySem.Spec PyProof.Rows E10
/-! ### the last place, let go as a value -/
def fFrz (F : EF) : EF := fun γ μ => (F γ μ).bind fun w m => match w with
  | .v p => .ok (.v p) m
  | .loc j => if j + 1 = m.length ∧ μ.length ≤ j then match (m[j]?).bind PC.p with
      | some p => .ok (.v p) (m.take j)
      | none => .bad
    else .bad
section
variable {D D' : Addr → Prop} {as as' : Ps} {H H' : Hp} {μ m : Μ}
theorem frz_last (k : Sk D as H μ) (k' : Sk D' as' H' m) (n : Nx D as H D' as' H') {j : Nat} {a : Addr} {c : PC} {p : P} (hj : j + 1 = m.length) (hl : μ.length ≤ j) (e : as'[j]? = some (some a)) (q : m[j]? = some c) (hp : c.p = some p) :
    ∃ D2 as2, Nx D as H D2 as2 H' ∧ Sk D2 as2 H' (m.take j) ∧ Rep D2 H' (.ref a) p := by
  have lj : j < m.length := by omega
  have at' : ∀ {i : Nat} {b : Addr}, (as'.take j)[i]? = some (some b) → i < j ∧ as'[i]? = some (some b) := fun {i b} z => by
    by_cases lt : i < j
    · rw [List.getElem?_take_of_lt lt] at z
      exact ⟨lt, z⟩
    · rw [List.getElem?_eq_none (by rw [List.length_take]; omega)] at z
      cases z
  have pre : ∀ (i : Nat) (x : Option Addr), as[i]? = some x → (as'.take j)[i]? = some x ∨ (as'.take j)[i]? = some none := fun i x e => by
    have := (List.getElem?_eq_some_iff.mp e).1
    rw [List.getElem?_take_of_lt (by rw [k.len] at this; omega)]
    exact n.pre i x e
  have s : Sd D' H' (lessD D' a) H' := ⟨fun b u nb _ z => nb z.1, fun _ _ _ r => r, fun _ _ _ e _ => e⟩
  have na : H a = none := by
    rcases n.fresh j a e with z | z
    · have lt := (List.getElem?_eq_some_iff.mp z).1
      rw [k.len] at lt
      omega
    · exact z
  refine ⟨lessD D' a, as'.take j, ⟨pre, n.ex, fun b d v => ⟨n.mono b d v, fun z => k.nd na (z ▸ d)⟩, fun b z => n.new b z.1, fun i b z => n.fresh i b (at' z).2, n.hid, n.rd, n.sol, n.lck⟩, ⟨?_, fun b z => k'.dn b z.1, fun i b z => ⟨k'.inD i b (at' z).2, fun w => ?_⟩, fun i i' b z y => k'.inj i i' b (at' z).2 (at' y).2, fun i b z => ?_, fun i z => ?_⟩, ?_⟩
  · rw [List.length_take, List.length_take, k'.len]
  · have := k'.inj i j b (at' z).2 (w ▸ e)
    have := (at' z).1
    omega
  · obtain ⟨d, r, x⟩ := k'.ok i b (at' z).2
    exact ⟨d, by rw [List.getElem?_take_of_lt (at' z).1]; exact r, x.sd s rfl⟩
  · obtain ⟨l, z⟩ := take_get z
    rw [List.getElem?_take_of_lt l]
    exact k'.dead i z
  · obtain ⟨c', q', x⟩ := k'.ok j a e
    rw [q] at q'
    cases q'
    cases c with
    | lst ps =>
      cases hp
      obtain ⟨xs, h, r⟩ := x
      exact .lst (fun z => z.2 rfl) (.inl h) (Reps.sd s r)
    | dct ps =>
      cases hp
      obtain ⟨xs, h, r⟩ := x
      exact .dct (fun z => z.2 rfl) (.inl h) (RepK.sd s r)
    | ins C ps =>
      cases hp
      obtain ⟨dx, xs, h, r⟩ := x
      exact .ins (fun z => z.2 rfl) h (RepS.sd s r)
    | dead => cases hp
    | lstL ps =>
      cases hp
      obtain ⟨od, xs, h, r⟩ := x
      exact .lst (fun z => z.2 rfl) (.inr ⟨od, h⟩) (Reps.sd s r)
    | dctL ps =>
      cases hp
      obtain ⟨od, xs, h, r⟩ := x
      exact .dct (fun z => z.2 rfl) (.inr ⟨od, h⟩) (RepK.sd s r)
theorem ad_frzL {Wx : WX} {te : TE} {F : EF} (h : Ad Wx te F) : Ad Wx te (fFrz F) := fun D as γ μ σ H Q k ev g => by
  refine h D as γ μ σ H Q k ev ?_
  unfold fFrz at g
  cases o : F γ μ with
  | bad => rw [o] at g; exact g
  | exc C fs m => rw [o] at g; exact g
  | ok w m =>
    rw [o] at g
    simp only [O.bind_ok] at g
    cases w with
    | v p => exact g
    | loc j =>
      intro x D' as' H' n k' r
      simp only at g
      split at g
      · rename_i hc
        split at g
        · rename_i p hp
          obtain ⟨c, q, ep⟩ := Option.bind_eq_some_iff.mp hp
          obtain ⟨a, e, rfl, _⟩ := r.adr k' q (fun z => by rw [z] at ep; cases ep)
          obtain ⟨D2, as2, n2, k2, r2⟩ := frz_last k k' n hc.1 hc.2 e q ep
          exact g (.ref a) D2 as2 H' n2 k2 r2
        · exact g.elim
      · exact g.elim
theorem pp_frz {X : Cx} {Wx : WX} {e : Expr} {F : EF} (h : PP X Wx e F) : PP X Wx e (fFrz F) := let ⟨_, p, ad⟩ := h; ⟨_, p, ad_frzL ad⟩
end
/-! ### attributes -/
def fFld (C : Addr) (f : Str) (F : EF) : EF := fun γ μ => (F γ μ).bind fun w m => match rdI m w with
  | some (C', ps) => if C' = C then match ps.lookup f with
      | some p => .ok (.v p) m
      | none => .bad
    else .bad
  | none => .bad
def putFP (f : Str) (p : P) : List (Str × P) → List (Str × P)
  | [] => [(f, p)]
  | (g, x) :: r => if g = f then (g, p) :: r else (g, x) :: putFP f p r
theorem RepS.put {D H} {f : Str} {v : V} {p : P} (r : Rep D H v p) : ∀ {vs ps}, RepS D H vs ps → RepS D H (putF f v vs) (putFP f p ps)
  | _, _, .nil => .cons r .nil
  | _, _, @RepS.cons _ _ g x q l m r' t => by
    unfold putF putFP
    by_cases c : g = f
    · simp only [c, if_true]
      exact .cons r t
    · simp only [c, if_false]
      exact .cons r' (RepS.put r t)
def sFldP (C : Addr) (f : Str) (Fo Fv : EF) : SF := fun γ μ => (Fv γ μ).s γ fun wv m => (Fo γ m).s γ fun wo m => match wI m wo with
  | some (j, C', ps) => match wv with
    | .v p => if C' = C ∧ ps.length < 900 then .nx γ (m.set j (.ins C' (putFP f p ps))) else .bad
    | .loc _ => .bad
  | none => .bad
section
variable {X : Cx} {Wx : WX} {o e value : Expr} {es : List Expr} {F F1 F2 : EF} {A : AF} {f : Str} {pos pos' apos : Pos} {C : Addr} {k : Nat}
theorem ad_fld {K : PySem.W.Frag} {ta : TE} (c : Cls K C) (na : NoAttr K C f) (h : Ad Wx ta F) : Ad Wx (tFld K ta f) (fFld C f F) := fun D as γ μ σ H Q k ev g => by
  refine h D as γ μ σ H _ k ev ((G.bind RepW k g).mono fun x H1 ⟨D1, as1, μ1, w, n1, k1, r1, g1⟩ => ?_)
  split at g1
  · rename_i C' ps e
    split at g1
    · rename_i hC
      subst hC
      split at g1
      · rename_i p hp
        obtain ⟨a, dx, xs, rfl, ha, rs⟩ := rdI_ok k1 r1 e
        obtain ⟨v, hv, rv⟩ := rs.lookup hp
        exact ⟨a, C', dx, xs, v, rfl, ha, c, na, hv, nowV k1 g1 rv⟩
      · exact g1.elim
    · exact g1.elim
  · exact g1.elim
theorem pp_fld (c : Cls X.K C) (na : NoAttr X.K C f) (h : PP X Wx e F) (hb : attributeBase e f X.env (eval e X.env) = eval e X.env := by rfl) : PP X Wx (.Attribute e f pos) (fFld C f F) := let ⟨_, p, ad⟩ := h; ⟨_, pe_fld p hb, ad_fld c na ad⟩
theorem ad_sfld {K : PySem.W.Frag} {ta tv : TE} (c : Cls K C) (na : NoAttr K C f) (ho : Ad Wx ta F1) (hv : Ad Wx tv F2) : AdS Wx (sFld K ta tv f) (sFldP C f F1 F2) := fun D as γ μ σ H E k ev g => by
  refine hv D as γ μ σ H _ k ev ((GS.of_s (R := RepW) k ev g).mono fun v H1 ⟨D1, as1, μ1, wv, n1, k1, ev1, r1, g1⟩ => ?_)
  refine ho D1 as1 γ μ1 σ H1 _ k1 ev1 ((GS.of_s (R := RepW) k1 ev1 g1).mono fun x H2 ⟨D2, as2, μ2, wo, n2, k2, ev2, r2, g2⟩ => ?_)
  split at g2
  · rename_i j C' ps e
    cases wv with
    | loc i => exact g2.elim
    | v p =>
      simp only at g2
      split at g2
      · rename_i hc
        obtain ⟨rfl, hl⟩ := hc
        obtain ⟨a, dx, xs, rfl, ea, ha, rs⟩ := wI_ok k2 r2 e
        refine ⟨a, C', dx, xs, rfl, ha, c, na, by rw [rs.length]; omega, ?_⟩
        have rp : Rep D2 H2 v p := r1.nx n2
        obtain ⟨n', k'⟩ := cell_set (o := .ins C' dx (putF f v xs)) (u := .lst []) (c := .ins C' (putFP f p ps)) k2 ea (nofz (by assumption) (fun _ _ z => by cases z)) fun D' H' s e' => ⟨_, _, e', (RepS.sd s rs).put (Rep.sd s rp)⟩
        exact g2 σ D2 as2 _ n' k' (ev2.nx n') rfl
      · exact g2.elim
  · exact g2.elim
theorem ppq_fld (c : Cls X.K C) (na : NoAttr X.K C f) (ho : PP X Wx o F1) (hv : PP X Wx value F2) (hs : swapsWith value (some (.Attribute o f pos')) pos.line X.env = pure false := by rfl) : PPS X Wx (.Assign [.Attribute o f pos'] value pos) (sFldP C f F1 F2) :=
  let ⟨_, p, ad⟩ := ho; let ⟨_, p2, ad2⟩ := hv; ⟨_, ps_fld p p2 hs, ad_sfld c na ad ad2⟩
/-! ### methods -/
def tMethX' (C : Addr) (m : Str) (sp : Sp) (W : WX) (ta : TE) (t : TA) : TE := fun σ H Q => ta σ H fun x H1 => ∃ a dx fs, x = .ref a ∧ H1 a = some (.ins C dx fs) ∧ fs.lookup m = none ∧ t σ H1 fun vs H2 => sp (.ref a :: vs) H2 Q (WE W σ)
theorem pe_methX' {m : Str} {g : Addr} {fd : FuncData} {ps : List Str} {sp : Sp} {ta : TE} {t : TA} {pl : Sem Bool} (tk : Takes X Wx) (he : PE X o ta) (c : Cls X.K C) (hm : Meth X.K C m g) (F : FnX X.prog X.w X.K X.mg X.base k g fd ps sp) (hG : X.A.guards = some []) (hr : Room k X.A) (hb : Binds X.K fd ps []) (ha : PA X (e :: es) t)
    (hst : starEach (e :: es) X.env = (false, eval e X.env) :: starEach es X.env := by rfl) (hpl : (backTo pos (starEach es X.env)).any (·.1) = false := by rfl)
    (ht : eval (.Call (.Attribute o m apos) (e :: es) [] pos) X.env = (do
      let ov ← eval o X.env
      standAt apos.atName
      let (f, first) ← holding [ov] (getMethod ov m pl)
      callWith pos f first (backTo pos (starEach (e :: es) X.env)) (backToKw pos (keywordEach [] X.env))) := by rfl) :
    PE X (.Call (.Attribute o m apos) (e :: es) [] pos) (tMethX' C m sp Wx ta t) := by
  refine ⟨fun pins s σ H Q I h => ?_⟩
  refine PySem.W.methodCall_KW (pl := pl) (thn (he.run pins s σ H _ I h) fun u s1 ⟨x, H1, I1, rx, a, dx, fs, ex, ea, l, q⟩ => ?_) ht
  subst ex
  obtain rfl : u = Value.ref a := rx
  refine getmeth_ok I1 ea c hm l ?_
  refine PySem.W.callWith_K (first := [.ref a]) (h₀ := X.base) I.ok.mod.kin hm.kp (thn (ha.run pos pins s1 σ H1 _ I1 q) fun us s2 ⟨vs, H2, I2, r, q2⟩ => ⟨I2.kIn, ?_⟩) hst hpl
  exact run_atX (vs := .ref a :: vs) F rfl hG hr hb tk I2 (.cons rfl r) q2
theorem pe_meth0X {m : Str} {g : Addr} {fd : FuncData} {ps : List Str} {sp : Sp} {ta : TE} {pl : Sem Bool} (tk : Takes X Wx) (he : PE X o ta) (c : Cls X.K C) (hm : Meth X.K C m g) (F : FnX X.prog X.w X.K X.mg X.base k g fd ps sp) (hG : X.A.guards = some []) (hr : Room k X.A) (hb : Binds X.K fd ps [])
    (ht : eval (.Call (.Attribute o m apos) [] [] pos) X.env = (do
      let ov ← eval o X.env
      standAt apos.atName
      let (f, first) ← holding [ov] (getMethod ov m pl)
      callWith pos f first (backTo pos (starEach [] X.env)) (backToKw pos (keywordEach [] X.env))) := by rfl) :
    PE X (.Call (.Attribute o m apos) [] [] pos) (tMethX' C m sp Wx ta tNil) := by
  refine ⟨fun pins s σ H Q I h => ?_⟩
  refine PySem.W.methodCall_KW (pl := pl) (thn (he.run pins s σ H _ I h) fun u s1 ⟨x, H1, I1, rx, a, dx, fs, ex, ea, l, q⟩ => ?_) ht
  subst ex
  obtain rfl : u = Value.ref a := rx
  refine getmeth_ok I1 ea c hm l ?_
  exact PySem.W.callWith_K0 (first := [.ref a]) I1.kIn hm.kp (run_atX (vs := [.ref a]) F rfl hG hr hb tk I1 (.cons rfl .nil) q)
/-- a method of the class C, with a pure promise -/
structure DM (P : Program) (w : World) (K : PySem.W.Frag) (mg : Str → Option Value) (base : Heap) (C : Addr) (m : Str) (n : Nat) (k : Nat) (F : FF) : Prop where
  ex : ∃ (f : Addr) (fd : FuncData) (ps : List Str), ps.length = n ∧ FnX P w K mg base k f fd ps (spP n F) ∧ Meth K C m f ∧ Binds K fd ps []
def fMeth (C : Addr) (m : Str) (F : FF) (Fo : EF) (A : AF) : EF := fun γ μ => (Fo γ μ).bind fun w m1 => match rdI m1 w with
  | some (C', ps) => if C' = C ∧ ps.lookup m = none then (A γ m1).bind fun ws m2 => F (w :: ws) m2 else .bad
  | none => .bad
theorem ad_methX {m : Str} {n : Nat} {FF' : FF} {ta : TE} {t : TA} (h : Ad Wx ta F) (ha : AdA Wx t A) (hn : ∀ ws μ, ws.length ≠ n → FF' ws μ = .bad) : Ad Wx (tMethX' C m (spP n FF') Wx ta t) (fMeth C m FF' F A) := fun D as γ μ σ H Q k ev g => by
  refine h D as γ μ σ H _ k ev ((G.bind RepW k g).mono fun x H1 ⟨D1, as1, μ1, w, n1, k1, r1, g1⟩ => ?_)
  split at g1
  · rename_i C' ps e
    split at g1
    · rename_i hc
      obtain ⟨rfl, hl⟩ := hc
      obtain ⟨a, dx, xs, rfl, hx, rs⟩ := rdI_ok k1 r1 e
      refine ⟨a, dx, xs, rfl, hx, rs.lookup_none hl, ha D1 as1 γ μ1 σ H1 _ k1 (ev.nx n1) ((G.bind RepWs k1 g1).mono fun vs H2 ⟨D2, as2, μ2, ws, n2, k2, r2, g2⟩ => ?_)⟩
      refine ⟨?_, D2, as2, w :: ws, μ2, k2, .cons (r1.nx n2) r2, ?_⟩
      · by_cases c : (w :: ws).length = n
        · rw [List.length_cons, r2.length]; exact c
        · rw [hn (w :: ws) μ2 c] at g2
          exact g2.elim
      · cases o : FF' (w :: ws) μ2 with
        | ok w' m' => rw [o] at g2; exact g2
        | exc C fs m' => rw [o] at g2; exact g2
        | bad => rw [o] at g2; exact g2
    · exact g1.elim
  · exact g1.elim
theorem pp_meth {m : Str} {n : Nat} {FF' : FF} {pl : Sem Bool} (d : DM X.prog X.w X.K X.mg X.base C m n k FF') (c : Cls X.K C) (hG : X.A.guards = some []) (hr : Room k X.A) (tk : Takes X Wx) (ho : PP X Wx o F) (ha : PPA X Wx (e :: es) A) (hn : ∀ ws μ, ws.length ≠ n → FF' ws μ = .bad := by exact fDef_len)
    (hst : starEach (e :: es) X.env = (false, eval e X.env) :: starEach es X.env := by rfl) (hpl : (backTo pos (starEach es X.env)).any (·.1) = false := by rfl)
    (ht : eval (.Call (.Attribute o m apos) (e :: es) [] pos) X.env = (do
      let ov ← eval o X.env
      standAt apos.atName
      let (f, first) ← holding [ov] (getMethod ov m pl)
      callWith pos f first (backTo pos (starEach (e :: es) X.env)) (backToKw pos (keywordEach [] X.env))) := by rfl) :
    PP X Wx (.Call (.Attribute o m apos) (e :: es) [] pos) (fMeth C m FF' F A) := by
  obtain ⟨f, fd, ps, hl, FX, hm, hb⟩ := d.ex
  obtain ⟨_, po, ao⟩ := ho
  obtain ⟨_, pa, aa⟩ := ha
  exact ⟨_, pe_methX' tk po c hm FX hG hr hb pa hst hpl ht, ad_methX ao aa hn⟩
theorem pp_meth0 {m : Str} {n : Nat} {FF' : FF} {pl : Sem Bool} (d : DM X.prog X.w X.K X.mg X.base C m n k FF') (c : Cls X.K C) (hG : X.A.guards = some []) (hr : Room k X.A) (tk : Takes X Wx) (ho : PP X Wx o F) (hn : ∀ ws μ, ws.length ≠ n → FF' ws μ = .bad := by exact fDef_len)
    (ht : eval (.Call (.Attribute o m apos) [] [] pos) X.env = (do
      let ov ← eval o X.env
      standAt apos.atName
      let (f, first) ← holding [ov] (getMethod ov m pl)
      callWith pos f first (backTo pos (starEach [] X.env)) (backToKw pos (keywordEach [] X.env))) := by rfl) :
    PP X Wx (.Call (.Attribute o m apos) [] [] pos) (fMeth C m FF' F fNil) := by
  obtain ⟨f, fd, ps, hl, FX, hm, hb⟩ := d.ex
  obtain ⟨_, po, ao⟩ := ho
  exact ⟨_, pe_meth0X tk po c hm FX hG hr hb ht, ad_methX ao (fun D as γ μ σ H Q k ev g => g.now (R := RepWs) k .nil) hn⟩
/-! ### properties (no error comes out) -/
theorem getpropG {pins : List (Addr × Obj)} {σ : L2.St} {H : Hp} {s : Shared} {Q : VK} {b : Bool} {E' : Value → Shared → Prop} {a dx p g : Addr} {fs : List (Str × V)} {fd : FuncData} {ps : List Str} {sp : Sp} (I : Inv X pins σ H s) (ea : H a = some (.ins C dx fs)) (c : Cls X.K C) (hp : PropOf X.K C f p g)
    (F : FnG X.prog X.w X.K X.mg X.base k g fd ps sp) (hG : X.A.guards = some []) (hr : Room (k + 1) X.A) (hb : Binds X.K fd ps []) (h : sp [.ref a] H Q L2.E0) :
    wpAny (model X.prog X.w) X.A (getAttr (.ref a) f b) (EP X pins σ Q) E' s := by
  obtain ⟨mA, O, _, _, _, _⟩ := ins_get I.hok ea
  obtain ⟨od, J, _⟩ := O.look
  obtain ⟨rest, hrec⟩ := hp.rec_
  have I1 := I.tok (s.toks + 1)
  have hl : ([Value.ref a] ++ []).length = ps.length := by
    rw [← F.few h]
    rfl
  have hc : (PySem.W.clsIn X.K C).isSome = true := by
    obtain ⟨cd, hc, _⟩ := PySem.W.any_some c.hd
    rw [hc]
    rfl
  refine PySem.W.get_bind I.kIn J (PySem.W.plainGet_of (c.get f)).1 (PySem.W.findObj_data hc hp.at_ hp.get hp.tak) (PySem.W.plainGet_of (c.get f)).2 (wpAny_call (PySem.W.prop_get (s := { s with toks := s.toks + 1 }) I.kIn hrec ?_))
  refine codeAny_mono (F.goes (A := X.A.in1) (fr := X.stack) (s := { s with toks := s.toks + 1 }) (H := H) (ar := ⟨[.ref a], []⟩) (us := [.ref a]) (vs := [.ref a]) (Q := Q) (E := L2.E0) hG hr.in1 I1.env0.in1 (by
    have := hb _ [.ref a] I1.kIn hl
    simpa using this) (.cons rfl .nil) h) fun r s' hq => ?_
  cases r with
  | error er => exact False.elim hq
  | ok fl =>
    cases fl with
    | ret u =>
      obtain ⟨v, H', I3, rv, q3⟩ := I1.after hq
      show wpAny _ _ (handedOut u) _ _ _
      rw [PySem.W.handedOut_of (handed_of rv)]
      exact wpAny_pure ⟨v, H', I3, rv, q3⟩
    | next => exact False.elim hq
    | brk => exact False.elim hq
    | cont => exact False.elim hq
structure DPr (P : Program) (w : World) (K : PySem.W.Frag) (mg : Str → Option Value) (base : Heap) (C : Addr) (m : Str) (k : Nat) (F : FF) : Prop where
  ex : ∃ (p f : Addr) (fd : FuncData) (ps : List Str), FnX P w K mg base k f fd ps (spP 1 F) ∧ PropOf K C m p f ∧ Binds K fd ps []
def fProp (C : Addr) (F : FF) (Fo : EF) : EF := fun γ μ => (Fo γ μ).bind fun w m1 => match rdI m1 w with
  | some (C', _) => if C' = C then (F [w] m1).nx else .bad
  | none => .bad
theorem G_nx {α β : Type} {R : RL β α} {Wx W' : WX} {σ σ' : L2.St} {D : Addr → Prop} {as : Ps} {H : Hp} {o : O α} {Q : β → Hp → Prop} (g : G Wx σ R D as H o.nx Q) : G W' σ' R D as H o Q := by
  cases o with
  | ok a m => exact g
  | exc C fs m => exact g.elim
  | bad => exact g
theorem pp_prop {FF' : FF} (d : DPr X.prog X.w X.K X.mg X.base C f k FF') (c : Cls X.K C) (hG : X.A.guards = some []) (hr : Room (k + 1) X.A) (ho : PP X Wx o F) (hab : attributeBase o f X.env (eval o X.env) = eval o X.env := by rfl) : PP X Wx (.Attribute o f pos) (fProp C FF' F) := by
  obtain ⟨p, g, fd, ps, FX, hp, hb⟩ := d.ex
  obtain ⟨te, po, ao⟩ := ho
  refine ⟨fun σ H Q => te σ H fun x H1 => ∃ a dx fs, x = .ref a ∧ H1 a = some (.ins C dx fs) ∧ noE (spP 1 FF') [.ref a] H1 Q L2.E0, ⟨fun pins s σ H Q I h => ?_⟩, fun D as γ μ σ H Q k ev g => ?_⟩
  · refine attr_of hab (thn (po.run pins s σ H _ I h) fun u s1 ⟨x, H1, I1, rx, a, dx, fs, ex, ea, q⟩ => ?_)
    subst ex
    obtain rfl : u = Value.ref a := rx
    exact getpropG I1 ea c hp FX.g hG hr hb q
  · refine ao D as γ μ σ H _ k ev ((G.bind RepW k g).mono fun x H1 ⟨D1, as1, μ1, w, n1, k1, r1, g1⟩ => ?_)
    split at g1
    · rename_i C' ps e
      split at g1
      · rename_i hc
        subst hc
        obtain ⟨a, dx, xs, rfl, hx, rs⟩ := rdI_ok k1 r1 e
        exact ⟨a, dx, xs, rfl, hx, rfl, D1, as1, [w], μ1, k1, .cons r1 .nil, G_nx g1⟩
      · exact g1.elim
    · exact g1.elim
end
end Pu
set_option Elab.async false
set_option linter.all false
set_option maxRecDepth 100000
set_option maxHeartbeats 4000000
namespace Pu
open L2 PySem PySem.Spec PyProof.Rows E10
/-! ### C(..) -/
theorem make_guards {A : Around} {C : Addr} {us : List Value} {kw : List (Str × Value)} (h : A.guards = some []) : (A.under (.builtin "type.__call__" ⟨.ref C :: us, kw⟩)).guards = some [] := by
  show pushGuards (Code.guards (.builtin "type.__call__" ⟨.ref C :: us, kw⟩)) A.guards = some []
  rw [h]
  have : Code.guards (.builtin "type.__call__" ⟨.ref C :: us, kw⟩) = [] := by
    unfold Code.guards
    rw [if_neg]
    simp [Code.isGuard, guardIds]
  rw [this]
  rfl
section
variable {X : Cx} {Wx : WX} {o e value : Expr} {es : List Expr} {F F1 F2 : EF} {A : AF} {f : Str} {p pos pos' apos : Pos} {C : Addr} {k : Nat}
theorem run_makeX {pins : List (Addr × Obj)} {σ : L2.St} {H : Hp} {s : Shared} {Q : VK} {us : List Value} {vs : List V} {g : Addr} {fd : FuncData} {ps : List Str} {sp : Sp} (M : Mk X.K C g) (F : FnX X.prog X.w X.K X.mg X.base k g fd ps sp) (hG : X.A.guards = some []) (hr : Room (k + 1) X.A) (hb : Binds X.K fd ps [])
    (tk : Takes X Wx) (I : Inv X pins σ H s) (r : Vals vs us)
    (h : ∀ x dx, H x = none → H dx = none → dx ≠ x → sp (.ref x :: vs) (upd (upd H dx (.own x)) x (.ins C dx [])) (fun v H2 => v = .non ∧ Q (.ref x) H2) (WE Wx σ)) :
    wpAny (model X.prog X.w) X.A (call (.ref C) us) (EP X pins σ Q) X.xe s := by
  have hq := h (s.heap.objs.size + 1) s.heap.objs.size (I.hok.fresh (Nat.le_succ _)) (I.hok.fresh (Nat.le_refl _)) (Nat.ne_of_lt (Nat.lt_succ_self _))
  have I2 := Inv.made (C := C) I
  have r2 : Vals (V.ref (s.heap.objs.size + 1) :: vs) (Value.ref (s.heap.objs.size + 1) :: us) := .cons rfl r
  have hl : ((Value.ref (s.heap.objs.size + 1) :: us) ++ []).length = ps.length := by
    have e := r2.length
    rw [F.few hq] at e
    rw [List.append_nil]
    exact e.symm
  have bb := hb _ (Value.ref (s.heap.objs.size + 1) :: us) I2.kIn hl
  rw [List.append_nil] at bb
  refine wpAny_call (make_map (f := g) I.kIn M.makes M.init (beq_iff_eq.mp M.fn) (codeAny_mono (F.goes (fr := X.stack) (ar := ⟨Value.ref (s.heap.objs.size + 1) :: us, []⟩) (us := Value.ref (s.heap.objs.size + 1) :: us) (make_guards hG) (hr.make C us [])
    (I2.env0.make C us []) bb r2 hq) fun r s' hq' => ?_))
  cases r with
  | error e => exact passAt tk σ pins _ _ e s' I2 hq'
  | ok fl =>
    cases fl with
    | ret u =>
      obtain ⟨v, H', I3, rv, ev, q3⟩ := I2.after hq'
      subst ev
      exact ⟨rv, ⟨V.ref (s.heap.objs.size + 1), H', I3, rfl, q3⟩⟩
    | next => exact False.elim hq'
    | brk => exact False.elim hq'
    | cont => exact False.elim hq'
def tMakeX (C : Addr) (sp : Sp) (W : WX) (t : TA) : TE := fun σ H Q => t σ H fun vs H1 => ∀ x dx, H1 x = none → H1 dx = none → dx ≠ x → sp (.ref x :: vs) (upd (upd H1 dx (.own x)) x (.ins C dx [])) (fun v H2 => v = .non ∧ Q (.ref x) H2) (WE W σ)
theorem pe_makeX {x : Str} {g : Addr} {fd : FuncData} {ps : List Str} {sp : Sp} {t : TA} (M : Mk X.K C g) (F : FnX X.prog X.w X.K X.mg X.base k g fd ps sp) (hG : X.A.guards = some []) (hr : Room (k + 1) X.A) (hb : Binds X.K fd ps []) (tk : Takes X Wx) (hg : Gl X x) (hm : X.mg x = some (.ref C))
    (ha : PA X (e :: es) t) (hdb : (x == ("__debug__" : Str)) = false := by decide) (he : starEach (e :: es) X.env = (false, eval e X.env) :: starEach es X.env := by rfl) (hpl : (backTo pos (starEach es X.env)).any (·.1) = false := by rfl) :
    PE X (.Call (.Name x p) (e :: es) [] pos) (tMakeX C sp Wx t) := by
  refine ⟨fun pins s σ H Q I h => ?_⟩
  refine wpAny_Call_Name_kw (ld_glob I hg hm ?_ hdb)
  refine PySem.W.callWith_K (h₀ := X.base) I.ok.mod.kin M.kp (thn (ha.run pos pins s σ H _ I h) fun us s1 ⟨vs, H1, I1, r, q⟩ => ⟨I1.kIn, ?_⟩) he hpl
  exact run_makeX M F hG hr hb tk I1 r q
/-- a class whose __init__ has a pure promise -/
structure DC (P : Program) (w : World) (K : PySem.W.Frag) (mg : Str → Option Value) (base : Heap) (x : Str) (C : Addr) (n : Nat) (k : Nat) (F : FF) : Prop where
  ex : ∃ (f : Addr) (fd : FuncData) (ps : List Str), ps.length = n ∧ FnX P w K mg base k f fd ps (spP n F) ∧ Mk K C f ∧ Binds K fd ps []
  g : mg x = some (.ref C)
def fMake (C : Addr) (F : FF) (A : AF) : EF := fun γ μ => (A γ μ).bind fun ws m => (F (.loc m.length :: ws) (m ++ [.ins C []])).bind fun w m' => match w with
  | .v .non => .ok (.loc m.length) m'
  | _ => .bad
theorem ad_make {n : Nat} {FF' : FF} {t : TA} (ha : AdA Wx t A) (hn : ∀ ws μ, ws.length ≠ n → FF' ws μ = .bad) : Ad Wx (tMakeX C (spP n FF') Wx t) (fMake C FF' A) := fun D as γ μ σ H Q k ev g => by
  refine ha D as γ μ σ H _ k ev ((G.bind RepWs k g).mono fun vs H1 ⟨D1, as1, μ1, ws, n1, k1, r1, g1⟩ => ?_)
  intro x dx nx ndx ne
  have nx2 : upd H1 dx (.own x) x = none := (upd_ne (Ne.symm ne)).trans nx
  have s1 := new_same' (o := .own x) ndx
  have k2 := k1.same s1
  obtain ⟨n3, k3⟩ := cell_new (o := .ins C dx []) (c := .ins C []) k2 nx2 ⟨dx, [], upd_same, .nil⟩
  have n13 : Nx D1 as1 H1 _ _ _ := (Nx.of_same s1).trans k1 k2 n3
  have e1 : (as1 ++ [some x])[μ1.length]? = some (some x) := by
    rw [← k1.len]
    exact last_get
  refine ⟨?_, _, _, .loc μ1.length :: ws, μ1 ++ [.ins C []], k3, .cons (.mk e1) (r1.nx n13), ?_⟩
  · by_cases c : (W.loc μ1.length :: ws).length = n
    · rw [← c, List.length_cons, List.length_cons, r1.length]
    · rw [hn _ (μ1 ++ [PC.ins C []]) c] at g1
      exact g1.elim
  · have g2 := G.nx k1 k3 n13 g1
    have := G.bind RepW k3 g2
    cases o : FF' (W.loc μ1.length :: ws) (μ1 ++ [PC.ins C []]) with
    | bad => rw [o] at g2; exact g2
    | exc C' fs m' => rw [o] at g2; exact g2
    | ok w m' =>
      rw [o] at g2
      intro v D' as' H' n' k' rv
      cases w with
      | loc j => exact g2.elim
      | v q =>
        cases q with
        | non =>
          obtain rfl := rep_non rv
          exact ⟨rfl, g2 (.ref x) D' as' H' n' k' ((RepW.mk e1).nx n')⟩
        | _ => exact g2.elim
theorem pp_make {x : Str} {n : Nat} {FF' : FF} (d : DC X.prog X.w X.K X.mg X.base x C n k FF') (hG : X.A.guards = some []) (hr : Room (k + 1) X.A) (tk : Takes X Wx) (hg : Gl X x) (ha : PPA X Wx (e :: es) A) (hn : ∀ ws μ, ws.length ≠ n → FF' ws μ = .bad := by exact fDef_len)
    (hdb : (x == ("__debug__" : Str)) = false := by decide) (he : starEach (e :: es) X.env = (false, eval e X.env) :: starEach es X.env := by rfl) (hpl : (backTo pos (starEach es X.env)).any (·.1) = false := by rfl) :
    PP X Wx (.Call (.Name x p) (e :: es) [] pos) (fFrz (fMake C FF' A)) := by
  obtain ⟨f, fd, ps, hl, FX, M, hb⟩ := d.ex
  obtain ⟨_, pa, aa⟩ := ha
  exact ⟨_, pe_makeX M FX hG hr hb tk hg d.g pa hdb he hpl, ad_frzL (ad_make aa hn)⟩
end
/-! ### isinstance -/
/-- the class of a value: tb tells of an own class that it is looked at -/
def tyP (cs : List Addr) (μ : Μ) : W → Option Value
  | .v .non => some (.type "NoneType")
  | .v (.bl _) => some (.type "bool")
  | .v (.int _) => some (.type "int")
  | .v (.str _) => some (.type "str")
  | .v (.tup _) => some (.type "tuple")
  | .v (.lst _) => some (.type "list")
  | .v (.dct _) => some (.type "dict")
  | .v (.ins C _) => if C ∈ cs then some (.ref C) else none
  | .loc j => match μ[j]? with
    | some (.lst _) => some (.type "list")
    | some (.dct _) => some (.type "dict")
    | some (.lstL _) => some (.type "list")
    | some (.dctL _) => some (.type "dict")
    | some (.ins C _) => if C ∈ cs then some (.ref C) else none
    | _ => none
  | _ => none
/-- what isinstance needs of an own class -/
structure InsK (K : PySem.W.Frag) (C : Addr) : Prop where
  cls : Cls K C
  ha : PySem.W.findIn K (.ref C) "__class__" = some (some (.builtin "object.__class__"))
  hn : PySem.W.specialIn K (.builtin "object.__class__") "__get__" = some (some (.builtin "getset_descriptor.__get__"))
  htk : PySem.W.takesIn K (.builtin "object.__class__") = some true
  hm : PySem.W.mroIn K C (.type "object") = some true
theorem tyP_ok {K : PySem.W.Frag} {D as H} {μ : Μ} {v : V} {w : W} {t : Value} {cs : List Addr} (hc : ∀ C ∈ cs, InsK K C) (k : Sk D as H μ) (r : RepW D as H v w) (h : tyP cs μ w = some t) : TyX K H v t := by
  have own : ∀ {a C dx fs}, C ∈ cs → H a = some (.ins C dx fs) → TyX K H (.ref a) (.ref C) := fun {a C dx fs} m e => let z := hc C m; .base (.ins e z.cls z.ha z.hn z.htk z.hm)
  unfold tyP at h
  split at h
  · cases h; obtain rfl := rep_non r; exact .base .non
  · cases h; obtain rfl := rep_bl r; exact .base (.bl _)
  · cases h; obtain rfl := rep_int r; exact .base (.int _)
  · cases h; obtain rfl := rep_str r; exact .base (.str _)
  · cases h
    obtain ⟨a, xs, rfl, _, hr, _⟩ := rep_tup r
    rcases hr with hr | ⟨o, hr⟩
    · exact .base (.tup hr)
    · exact .fTuple hr
  · cases h
    obtain ⟨a, xs, rfl, _, hr, _⟩ := rep_lst r
    rcases hr with hr | ⟨o, hr⟩
    · exact .base (.lst hr)
    · exact .base (.frz hr)
  · cases h
    obtain ⟨a, xs, rfl, _, hr, _⟩ := rep_dct r
    rcases hr with hr | ⟨o, hr⟩
    · exact .base (.dK hr)
    · exact .fDict hr
  · split at h
    · rename_i m
      cases h
      cases r with
      | ins _ e _ => exact own m e
    · cases h
  · rename_i j
    have hl : liveAt μ j = true := by
      unfold liveAt
      cases q : μ[j]? with
      | none => rw [q] at h; cases h
      | some c => rw [q] at h; cases c <;> first | rfl | cases h
    obtain ⟨a, c, q, e, rfl, x⟩ := live_adr k r hl
    rw [q] at h
    cases c with
    | lst ps => cases h; obtain ⟨xs, e', _⟩ := x; exact .base (.lst e')
    | dct ps => cases h; obtain ⟨xs, e', _⟩ := x; exact .base (.dK e')
    | lstL ps => cases h; obtain ⟨od, xs, e', _⟩ := x; exact .base (.frz e')
    | dctL ps => cases h; obtain ⟨od, xs, e', _⟩ := x; exact .fDict e'
    | ins C ps =>
      simp only at h
      split at h
      · rename_i m
        cases h
        obtain ⟨dx, xs, e', _⟩ := x
        exact own m e'
      · cases h
    | dead => exact x.elim
  · cases h
/-- a class that is asked for -/
def clsP : W → Option Value
  | .v (.ty n) => some (.type n)
  | .v (.ref C) => some (.ref C)
  | _ => none
/-- the answers that are known -/
def kitP (cs : List Addr) (t u : Value) : Option Bool := match t, u with
  | .type a, .type b => kitB a b
  | .type a, .ref C => if C ∈ cs ∧ a ∈ ["NoneType", "bool", "int", "str", "tuple", "list", "dict"] then some false else none
  | .ref C, .ref C' => if C ∈ cs ∧ C' ∈ cs then some (decide (C = C')) else none
  | .ref C, .type b => if C ∈ cs ∧ b ∈ ["int", "str", "bool", "list", "tuple", "dict"] then some false else none
  | _, _ => none
/-- own classes of which none is above another -/
structure Own (K : PySem.W.Frag) (cs : List Addr) : Prop where
  ins : ∀ C ∈ cs, InsK K C
  kit : ∀ t u b, kitP cs t u = some b → PySem.W.kitOne K t u = some b
def fIsi (cs : List Addr) : List W → Μ → O W := fun ws μ => match ws with
  | [w, c] => match tyP cs μ w, clsP c with
    | some t, some u => match kitP cs t u with
      | some b => .ok (.v (.bl b)) μ
      | none => .bad
    | _, _ => .bad
  | _ => .bad
theorem ad_isi {Wx : WX} {K : PySem.W.Frag} {cs : List Addr} (hc : Own K cs) : AdC Wx (rIsi K) (fIsi cs) := fun D as μ σ H vs ws Q k r gg => by
  unfold fIsi at gg
  split at gg
  · rename_i w c
    split at gg
    · rename_i t u e1 e2
      split at gg
      · rename_i b e3
        obtain ⟨x, y, rfl, rx, ry⟩ := repWs2 r
        have hu : ClsV y u := by
          unfold clsP at e2
          split at e2
          · cases e2
            cases ry
            exact .ty _
          · cases e2
            cases ry
            exact .own _
          · cases e2
        exact ⟨x, y, t, u, b, rfl, hu, tyP_ok hc.ins k rx e1, hc.kit t u b e3, nowV k gg .bl⟩
      · exact gg.elim
    · exact gg.elim
  · exact gg.elim
end Pu
set_option Elab.async false
set_option linter.all false
set_option maxRecDepth 100000
set_option maxHeartbeats 4000000
namespace Pu
open L2 PySem PySem.Spec PyProof.Rows E10
/-! ### sorted(x), x a list or a tuple of texts -/
section
variable {X : Cx}
def rSortTp (K : PySem.W.Frag) : List V → Hp → VK → Prop := fun vs H Q => ∃ (a : Addr) (xs : List Str), vs = [V.ref a] ∧ (SqL K H a (xs.map V.str) ∨ SqT K H a (xs.map V.str)) ∧ xs.length < 64 ∧
  ∀ (ys : List Str) (p : Addr), ys.Perm xs → sortedS ys = true → H p = none → Q (.ref p) (upd H p (.lst (ys.map V.str)))
theorem call_sortTp : CallR X (.builtin "sorted") (rSortTp X.K) := by
  intro pins s σ H vs us Q I r h
  obtain ⟨a, xs, rfl, hs, h64, q⟩ := h
  rcases hs with hs | hs
  · exact cr_sortedS pins s σ H _ us Q I r ⟨a, xs, rfl, hs, h64, q⟩
  obtain ⟨its, rv, ⟨o, ho, hc, n, hd⟩, _⟩ := I.tuple hs
  rw [Vals.ref1 r]
  have lv : its.length = xs.length := by rw [← rv.length, List.length_map]
  have big : (64 : Nat) ≤ sizeLine := by decide
  refine Calls.call_function_entry PyProof.Rows.kind_sorted PyProof.Rows.plain_sorted PyProof.Rows.entry_sorted (PyProof.Rows.args_sorted1 _) ?_
  unfold Builtin.«sorted»
  refine wpAny_bind (m := checkCount "sorted" 1 1 _) (wpAny_pure ?_)
  refine wpAny_bind (wpAny_collect_seq a (T := "tuple") (.inr rfl) ho hc hd (fun h' hk => ?_) (by rw [List.size_toArray]; omega))
  have hS : StrsAre its xs := rv.strs
  have I1 : Inv X pins σ H { s with heap := h', toks := s.toks } := I.kept hk
  show wpAny _ _ _ _ _ { s with heap := h' }
  have et : its.toArray.toList = its := by simp
  rw [et]
  refine wpAny_bind (wpAny_newList ?_ (by omega))
  have hoL : (h'.push (seqObj "list" its.toArray 0)).get? h'.objs.size = some (seqObj "list" its.toArray 0) := Heap.get?_push_size _ rfl
  show wpAny _ _ _ _ _ { s with heap := h'.push (seqObj "list" its.toArray 0) }
  refine wpAny_bind (wpAny_holding (wpAny_call_entry PyProof.Rows.slot_list_sort ⟨_, hoL, rfl⟩ PyProof.Rows.entry_list_sort
    (list_sort_treeK strKind_oneLt (s := { s with heap := h'.push (seqObj "list" its.toArray 0) }) hoL hS.keysOf (fun v₁ v₂ rest e => keyKind_strs (by rw [← e]; exact hS)) (by rw [lv]; exact h64) fun st' hp hs => ⟨_, rfl, ?_⟩)
    (PyProof.Rows.args_list_sort _)))
  obtain ⟨ys, g1, g2, g3⟩ := sorted_out_str hS hp hs
  obtain ⟨e', he'⟩ := PyProof.Rows.sortedHeap_at (vs := its) (out := (arrOf st').map (·.2)) hoL
  have hlen : (ys.map V.str).length ≤ sizeLine := by
    rw [List.length_map, g2.length_eq]
    exact Nat.le_trans (Nat.le_of_lt h64) big
  refine wpAny_pure ⟨_, rfl, .ref h'.objs.size, upd H h'.objs.size (.lst (ys.map V.str)), I1.laid (t' := s.toks) (fun b u e => ?_) (Nat.le_refl _)
    (show ObjOk X.prog X.w _ _ _ (.lst (ys.map V.str)) from ⟨hlen, ((arrOf st').map (·.2)).toList, e', vals_of_strs g1, by rw [Array.toArray_toList]; exact he'⟩), rfl, q ys _ g2 g3 (I1.hok.fresh (Nat.le_refl _))⟩
  have hb : b < h'.objs.size := Heap.lt_size e
  rw [PyProof.Rows.sortedHeap_old (Nat.ne_of_lt hb) (by rw [size_push']; exact Nat.lt_succ_of_lt hb)]
  exact Heap.get?_push_of_some _ e
end
end Pu
set_option Elab.async false
set_option linter.all false
set_option maxRecDepth 100000
set_option maxHeartbeats 4000000
namespace Pu
open L2 PySem PySem.Spec PyProof.Rows E10
/-! ### new things -/
section
variable {D : Addr → Prop} {as : Ps} {H : Hp} {μ : Μ} {Wx : WX} {σ : L2.St} {Q : VK}
theorem newL {xs : List V} {ps : List P} (k : Sk D as H μ) (g : G Wx σ RepW D as H (.ok (.v (.lst ps)) μ) Q) (rs : Reps D H xs ps) : ∀ p, H p = none → Q (.ref p) (upd H p (.lst xs)) := fun p np =>
  nowN k (new_same' np) g (.lst (k.nd np) (.inl upd_same) (Reps.sd (.same (new_same' np)) rs))
theorem newT {xs : List V} {ps : List P} (k : Sk D as H μ) (g : G Wx σ RepW D as H (.ok (.v (.tup ps)) μ) Q) (rs : Reps D H xs ps) : ∀ p, H p = none → Q (.ref p) (upd H p (.tup xs)) := fun p np =>
  nowN k (new_same' np) g (.tup (k.nd np) (.inl upd_same) (Reps.sd (.same (new_same' np)) rs))
theorem newD {xs : List (Key × V)} {ps : List (Key × P)} (k : Sk D as H μ) (g : G Wx σ RepW D as H (.ok (.v (.dct ps)) μ) Q) (rs : RepK D H xs ps) : ∀ p, H p = none → Q (.ref p) (upd H p (.dK xs)) := fun p np =>
  nowN k (new_same' np) g (.dct (k.nd np) (.inl upd_same) (RepK.sd (.same (new_same' np)) rs))
theorem newLC {xs : List V} {ps : List P} (k : Sk D as H μ) (g : G Wx σ RepW D as H (.ok (.loc μ.length) (μ ++ [.lst ps])) Q) (rs : Reps D H xs ps) : ∀ p, H p = none → Q (.ref p) (upd H p (.lst xs)) := fun p np => by
  obtain ⟨n2, k2⟩ := cell_new (o := .lst xs) (c := .lst ps) k np ⟨xs, upd_same, Reps.sd (sd_plus np) rs⟩
  exact g _ _ _ _ n2 k2 (.mk (by rw [← k.len]; exact last_get))
theorem newDC {xs : List (Key × V)} {ps : List (Key × P)} (k : Sk D as H μ) (g : G Wx σ RepW D as H (.ok (.loc μ.length) (μ ++ [.dct ps])) Q) (rs : RepK D H xs ps) : ∀ p, H p = none → Q (.ref p) (upd H p (.dK xs)) := fun p np => by
  obtain ⟨n2, k2⟩ := cell_new (o := .dK xs) (c := .dct ps) k np ⟨xs, upd_same, RepK.sd (sd_plus np) rs⟩
  exact g _ _ _ _ n2 k2 (.mk (by rw [← k.len]; exact last_get))
end
/-- a value or a place at the end: what a new thing is to be -/
inductive Kind where
  | val | cell
def mkL (c : Kind) (ps : List P) (μ : Μ) : O W := match c with
  | .val => .ok (.v (.lst ps)) μ
  | .cell => .ok (.loc μ.length) (μ ++ [.lst ps])
def mkD (c : Kind) (ps : List (Key × P)) (μ : Μ) : O W := match c with
  | .val => .ok (.v (.dct ps)) μ
  | .cell => .ok (.loc μ.length) (μ ++ [.dct ps])
section
variable {D : Addr → Prop} {as : Ps} {H : Hp} {μ : Μ} {Wx : WX} {σ : L2.St} {Q : VK}
theorem mkL_ok {c : Kind} {xs : List V} {ps : List P} (k : Sk D as H μ) (g : G Wx σ RepW D as H (mkL c ps μ) Q) (rs : Reps D H xs ps) : ∀ p, H p = none → Q (.ref p) (upd H p (.lst xs)) := by
  cases c with
  | val => exact newL k g rs
  | cell => exact newLC k g rs
theorem mkD_ok {c : Kind} {xs : List (Key × V)} {ps : List (Key × P)} (k : Sk D as H μ) (g : G Wx σ RepW D as H (mkD c ps μ) Q) (rs : RepK D H xs ps) : ∀ p, H p = none → Q (.ref p) (upd H p (.dK xs)) := by
  cases c with
  | val => exact newD k g rs
  | cell => exact newDC k g rs
end
section
variable {X : Cx} {Wx : WX} {a b e : Expr} {es : List Expr} {F F1 F2 : EF} {A : AF} {pos : Pos}
/-- list + list -/
def rCatR : R2 := fun x y H Q => ∃ l b xs zs, x = .ref l ∧ y = .ref b ∧ Rd H l (.lst xs) ∧ Rd H b (.lst zs) ∧ xs.length + zs.length ≤ sizeLine ∧ ∀ p, H p = none → Q (.ref p) (upd H p (.lst (xs ++ zs)))
theorem op_catR : OpR X (binaryOp .Add) rCatR := by
  intro pins s σ H x y v u Q I rx ry h
  obtain ⟨l, b, xs, zs, rfl, rfl, hH, hB, hz, q⟩ := h
  cases rx
  cases ry
  obtain ⟨z, its, n, r, e⟩ := hH.ok I.hok
  obtain ⟨z2, its2, n2, r2, e2⟩ := hB.ok I.hok
  have hl := r.length
  have hl2 := r2.length
  refine PySem.P.add_list e e2 ?_ (by rw [List.size_toArray, List.size_toArray]; omega)
  have ea : its.toArray ++ its2.toArray = (its ++ its2).toArray := by simp
  rw [ea]
  exact ⟨.ref _, _, I.lnew (t' := s.toks) (r.append r2) (by rw [List.length_append]; omega), rfl, q _ I.fresh⟩
def fCat : W → W → Μ → O W := fun x y μ => match rdL μ x, rdL μ y with
  | some ps, some qs => if ps.length + qs.length ≤ 100000 then .ok (.v (.lst (ps ++ qs))) μ else .bad
  | _, _ => .bad
theorem ad_cat : AdR2 Wx rCatR fCat := fun D as μ σ H x y a b Q k ra rb g => by
  unfold fCat at g
  split at g
  · rename_i ps qs e1 e2
    split at g
    · rename_i hl
      obtain ⟨l, xs, rfl, h1, r1⟩ := rdL_ok k ra e1
      obtain ⟨l2, ys, rfl, h2, r2⟩ := rdL_ok k rb e2
      exact ⟨l, l2, xs, ys, rfl, rfl, h1, h2, sz_of (by rw [r1.length, r2.length]; exact hl), newL k g (r1.append r2)⟩
    · exact g.elim
  · exact g.elim
/-- dict(d) -/
def fDictD (c : Kind) : List W → Μ → O W := fun ws μ => match ws with
  | [w] => match rdD μ w with
    | some ps => mkD c ps μ
    | none => .bad
  | _ => .bad
theorem ad_dictD {c : Kind} : AdC Wx (fun xs H Q => ∃ (a : Addr) (kvs : List (Key × V)), xs = [.ref a] ∧ Rd H a (.dK kvs) ∧ ∀ p, H p = none → Q (.ref p) (upd H p (.dK kvs))) (fDictD c) := fun D as μ σ H vs ws Q k r g => by
  unfold fDictD at g
  split at g
  · split at g
    · rename_i ps e
      obtain ⟨v, rfl, rv⟩ := repWs1 r
      obtain ⟨a, xs, rfl, hs, rs⟩ := rdD_ok k rv e
      exact ⟨a, xs, rfl, hs, mkD_ok k g rs⟩
    · exact g.elim
  · exact g.elim
/-- dict of pairs -/
def pairsP : List P → Option (List (Key × P))
  | [] => some []
  | .tup [a, b] :: r => match keyP a, pairsP r with
    | some k, some l => some ((k, b) :: l)
    | _, _ => none
  | _ => none
def mergeP (acc : List (Key × P)) : List (Key × P) → List (Key × P)
  | [] => acc
  | (k, p) :: r => mergeP (putP acc k p) r
theorem RepK.merge {D H} : ∀ {more : List (Key × V)} {mp : List (Key × P)}, RepK D H more mp → ∀ {acc ap}, RepK D H acc ap → RepK D H (mergeK acc more) (mergeP ap mp)
  | _, _, .nil, _, _, r => r
  | _, _, .cons q t, _, _, r => RepK.merge t (r.put q)
theorem pairs_rep {D : Addr → Prop} {H : Hp} {K : PySem.W.Frag} : ∀ {vs : List V} {ps : List P} {l : List (Key × P)}, Reps D H vs ps → pairsP ps = some l → ∃ (ads : List Addr) (kvs : List (Key × V)), vs = ads.map V.ref ∧ Paired (fun p kv => SqT K H p [kV kv.1, kv.2]) ads kvs ∧ RepK D H kvs l
  | _, _, _, .nil, e => by cases e; exact ⟨[], [], rfl, .nil, .nil⟩
  | _, _, l, @Reps.cons _ _ v (.tup [a, b]) vs ps r t, e => by
    unfold pairsP at e
    split at e
    · rename_i k l' e1 e2
      cases e
      obtain ⟨ads, kvs, rfl, h2, h3⟩ := pairs_rep (K := K) t e2
      obtain ⟨d, xs, rfl, _, hr, rs⟩ := rep_tup r
      cases rs with
      | cons ra rs =>
        cases rs with
        | cons rb rs =>
          cases rs
          rw [keyP_ok ra e1] at hr
          exact ⟨d :: ads, (k, _) :: kvs, rfl, .cons (.inl hr) h2, .cons rb h3⟩
    · cases e
  | _, _, _, @Reps.cons _ _ v (.tup []) vs ps r t, e => by cases e
  | _, _, _, @Reps.cons _ _ v (.tup [_]) vs ps r t, e => by cases e
  | _, _, _, @Reps.cons _ _ v (.tup (_ :: _ :: _ :: _)) vs ps r t, e => by cases e
  | _, _, _, @Reps.cons _ _ v .non vs ps r t, e => by cases e
  | _, _, _, @Reps.cons _ _ v (.bl _) vs ps r t, e => by cases e
  | _, _, _, @Reps.cons _ _ v (.int _) vs ps r t, e => by cases e
  | _, _, _, @Reps.cons _ _ v (.str _) vs ps r t, e => by cases e
  | _, _, _, @Reps.cons _ _ v (.ref _) vs ps r t, e => by cases e
  | _, _, _, @Reps.cons _ _ v (.ty _) vs ps r t, e => by cases e
  | _, _, _, @Reps.cons _ _ v (.lst _) vs ps r t, e => by cases e
  | _, _, _, @Reps.cons _ _ v (.dct _) vs ps r t, e => by cases e
  | _, _, _, @Reps.cons _ _ v (.ins _ _) vs ps r t, e => by cases e
  | _, _, _, @Reps.cons _ _ v (.set _ _) vs ps r t, e => by cases e
def fDictP (c : Kind) : List W → Μ → O W := fun ws μ => match ws with
  | [w] => match (rdL μ w).bind pairsP with
    | some l => mkD c (mergeP [] l) μ
    | none => .bad
  | _ => .bad
theorem ad_dictP {K : PySem.W.Frag} {c : Kind} : AdC Wx (fun xs H Q => ∃ (a : Addr) (ps : List Addr) (kvs : List (Key × V)), xs = [.ref a] ∧ SqL K H a (ps.map V.ref) ∧ Paired (fun p kv => SqT K H p [kV kv.1, kv.2]) ps kvs ∧
    ∀ p, H p = none → Q (.ref p) (upd H p (.dK (mergeK [] kvs)))) (fDictP c) := fun D as μ σ H vs ws Q k r g => by
  unfold fDictP at g
  split at g
  · split at g
    · rename_i l e
      obtain ⟨ps, e1, e2⟩ := Option.bind_eq_some_iff.mp e
      obtain ⟨v, rfl, rv⟩ := repWs1 r
      obtain ⟨a, xs, rfl, hs, rs⟩ := rdL_ok k rv e1
      obtain ⟨ads, kvs, rfl, h2, h3⟩ := pairs_rep (K := K) rs e2
      exact ⟨a, ads, kvs, rfl, .inl hs, h2, mkD_ok k g (RepK.merge h3 .nil)⟩
    · exact g.elim
  · exact g.elim
/-- list(xs), list(t) -/
def fListL (c : Kind) : List W → Μ → O W := fun ws μ => match ws with
  | [w] => match seqP μ w with
    | some ps => mkL c ps μ
    | none => .bad
  | _ => .bad
theorem ad_listL {K : PySem.W.Frag} {c : Kind} : AdC Wx (fun xs H Q => ∃ p ys, xs = [.ref p] ∧ (SqL K H p ys ∨ SqT K H p ys) ∧ ∀ l, H l = none → Q (.ref l) (upd H l (.lst ys))) (fListL c) := fun D as μ σ H vs ws Q k r g => by
  unfold fListL at g
  split at g
  · split at g
    · rename_i ps e
      obtain ⟨v, rfl, rv⟩ := repWs1 r
      obtain ⟨a, xs, rfl, hs, rs⟩ := seqP_ok (K := K) k rv e
      exact ⟨a, xs, rfl, hs, mkL_ok k g rs⟩
    · exact g.elim
  · exact g.elim
/-- tuple(xs), tuple(t) -/
def fTupL : List W → Μ → O W := fun ws μ => match ws with
  | [.v (.tup ps)] => .ok (.v (.tup ps)) μ
  | [w] => match rdL μ w with
    | some ps => .ok (.v (.tup ps)) μ
    | none => .bad
  | _ => .bad
theorem ad_tupL {K : PySem.W.Frag} : AdC Wx (fun xs H Q => ∃ p ys, xs = [.ref p] ∧ ((SqL K H p ys ∧ ∀ l, H l = none → Q (.ref l) (upd H l (.tup ys))) ∨ (SqT K H p ys ∧ Q (.ref p) H))) fTupL := fun D as μ σ H vs ws Q k r g => by
  unfold fTupL at g
  split at g
  · obtain ⟨v, rfl, rv⟩ := repWs1 r
    obtain ⟨a, xs, rfl, _, hr, rs⟩ := rep_tup rv
    exact ⟨a, xs, rfl, .inr ⟨.inl hr, nowV k g rv⟩⟩
  · split at g
    · rename_i ps e
      obtain ⟨v, rfl, rv⟩ := repWs1 r
      obtain ⟨a, xs, rfl, hs, rs⟩ := rdL_ok k rv e
      exact ⟨a, xs, rfl, .inl ⟨.inl hs, newT k g rs⟩⟩
    · exact g.elim
  · exact g.elim
/-- list(d), tuple(d), sorted(d) -/
theorem keys_rep {D : Addr → Prop} {H : Hp} : ∀ {xs : List (Key × V)} {ps : List (Key × P)}, RepK D H xs ps → Reps D H (xs.map fun kv => kV kv.1) (ps.map fun kp => keyOf kp.1)
  | _, _, .nil => .nil
  | _, _, .cons _ t => .cons (keyOf_rep _) (keys_rep t)
def fListD (c : Kind) : List W → Μ → O W := fun ws μ => match ws with
  | [w] => match rdD μ w with
    | some ps => mkL c (ps.map fun kp => keyOf kp.1) μ
    | none => .bad
  | _ => .bad
theorem ad_listD {c : Kind} : AdC Wx (fun xs H Q => ∃ (a : Addr) (kvs : List (Key × V)), xs = [.ref a] ∧ Rd H a (.dK kvs) ∧ ∀ p, H p = none → Q (.ref p) (upd H p (.lst (kvs.map fun kv => kV kv.1)))) (fListD c) := fun D as μ σ H vs ws Q k r g => by
  unfold fListD at g
  split at g
  · split at g
    · rename_i ps e
      obtain ⟨v, rfl, rv⟩ := repWs1 r
      obtain ⟨a, xs, rfl, hs, rs⟩ := rdD_ok k rv e
      exact ⟨a, xs, rfl, hs, mkL_ok k g (keys_rep rs)⟩
    · exact g.elim
  · exact g.elim
def fTupD : List W → Μ → O W := fun ws μ => match ws with
  | [w] => match rdD μ w with
    | some ps => .ok (.v (.tup (ps.map fun kp => keyOf kp.1))) μ
    | none => .bad
  | _ => .bad
theorem ad_tupD : AdC Wx (fun xs H Q => ∃ (a : Addr) (kvs : List (Key × V)), xs = [.ref a] ∧ Rd H a (.dK kvs) ∧ ∀ p H', H p = none → Same H H' → H' p = some (.tup (kvs.map fun kv => kV kv.1)) → Q (.ref p) H') fTupD := fun D as μ σ H vs ws Q k r g => by
  unfold fTupD at g
  split at g
  · split at g
    · rename_i ps e
      obtain ⟨v, rfl, rv⟩ := repWs1 r
      obtain ⟨a, xs, rfl, hs, rs⟩ := rdD_ok k rv e
      exact ⟨a, xs, rfl, hs, fun p H' np s hp => nowN k s g (.tup (k.nd np) (.inl hp) (Reps.sd (.same s) (keys_rep rs)))⟩
    · exact g.elim
  · exact g.elim
/-- texts alone -/
def strsP : List P → Option (List Str)
  | [] => some []
  | .str z :: r => (strsP r).map (z :: ·)
  | _ :: _ => none
theorem strsP_ok {D : Addr → Prop} {H : Hp} : ∀ {xs : List V} {ps : List P} {zs : List Str}, Reps D H xs ps → strsP ps = some zs → xs = zs.map V.str
  | _, _, _, .nil, e => by cases e; rfl
  | _, _, _, @Reps.cons _ _ v p l m r t, e => by
    cases p with
    | str z =>
      cases q : strsP m with
      | none => rw [strsP, q] at e; cases e
      | some cs =>
        rw [strsP, q] at e
        cases e
        rw [rep_str r, strsP_ok t q]
        rfl
    | _ => cases e
theorem strs_rep {D : Addr → Prop} {H : Hp} : ∀ zs : List Str, Reps D H (zs.map V.str) (zs.map P.str)
  | [] => .nil
  | _ :: r => .cons .str (strs_rep r)
def intsP : List P → Option (List Int)
  | [] => some []
  | .int z :: r => (intsP r).map (z :: ·)
  | _ :: _ => none
theorem intsP_ok {D : Addr → Prop} {H : Hp} : ∀ {xs : List V} {ps : List P} {zs : List Int}, Reps D H xs ps → intsP ps = some zs → xs = zs.map V.int
  | _, _, _, .nil, e => by cases e; rfl
  | _, _, _, @Reps.cons _ _ v p l m r t, e => by
    cases p with
    | int z =>
      cases q : intsP m with
      | none => rw [intsP, q] at e; cases e
      | some cs =>
        rw [intsP, q] at e
        cases e
        rw [rep_int r, intsP_ok t q]
        rfl
    | _ => cases e
theorem ints_rep {D : Addr → Prop} {H : Hp} : ∀ zs : List Int, Reps D H (zs.map V.int) (zs.map P.int)
  | [] => .nil
  | _ :: r => .cons .int (ints_rep r)
/-- sorted, of texts -/
def fSortS : List W → Μ → O W := fun ws μ => match ws with
  | [w] => match (seqP μ w).bind strsP with
    | some zs => if zs.length < 64 then .ok (.v (.lst ((srt zs).map .str))) μ else .bad
    | none => .bad
  | _ => .bad
theorem ad_sortS {K : PySem.W.Frag} : AdC Wx (rSortTp K) fSortS := fun D as μ σ H vs ws Q k r g => by
  unfold fSortS at g
  split at g
  · split at g
    · rename_i zs e
      split at g
      · rename_i hl
        obtain ⟨ps, e1, e2⟩ := Option.bind_eq_some_iff.mp e
        obtain ⟨v, rfl, rv⟩ := repWs1 r
        obtain ⟨a, xs, rfl, hs, rs⟩ := seqP_ok (K := K) k rv e1
        obtain rfl := strsP_ok rs e2
        refine ⟨a, zs, rfl, hs, hl, fun ys p pm so np => ?_⟩
        rw [srt_uniq pm so]
        exact newL k g (strs_rep _) p np
      · exact g.elim
    · exact g.elim
  · exact g.elim
def keysS : List (Key × P) → Option (List Str)
  | [] => some []
  | (.inr z, _) :: r => (keysS r).map (z :: ·)
  | (.inl _, _) :: _ => none
theorem keysS_ok : ∀ {ps : List (Key × P)} {zs : List Str}, keysS ps = some zs → ps.map (·.1) = zs.map Sum.inr
  | [], zs, e => by cases e; rfl
  | (.inr z, p) :: r, zs, e => by
    cases q : keysS r with
    | none => rw [keysS, q] at e; cases e
    | some cs =>
      rw [keysS, q] at e
      cases e
      rw [List.map_cons, keysS_ok q]
      rfl
  | (.inl _, _) :: r, zs, e => by cases e
def fSortD : List W → Μ → O W := fun ws μ => match ws with
  | [w] => match (rdD μ w).bind keysS with
    | some zs => if zs.length < 64 then .ok (.v (.lst ((srt zs).map .str))) μ else .bad
    | none => .bad
  | _ => .bad
theorem ad_sortD : AdC Wx (fun xs H Q => ∃ (a : Addr) (kvs : List (Key × V)) (ks : List Str), xs = [.ref a] ∧ Rd H a (.dK kvs) ∧ kvs.map (·.1) = ks.map Sum.inr ∧ ks.length < 64 ∧ ∀ (ys : List Str) (p : Addr), ys.Perm ks → sortedS ys = true → H p = none → Q (.ref p) (upd H p (.lst (ys.map V.str)))) fSortD := fun D as μ σ H vs ws Q k r g => by
  unfold fSortD at g
  split at g
  · split at g
    · rename_i zs e
      split at g
      · rename_i hl
        obtain ⟨ps, e1, e2⟩ := Option.bind_eq_some_iff.mp e
        obtain ⟨v, rfl, rv⟩ := repWs1 r
        obtain ⟨a, xs, rfl, hs, rs⟩ := rdD_ok k rv e1
        refine ⟨a, xs, zs, rfl, hs, rs.keys.trans (keysS_ok e2), hl, fun ys p pm so np => ?_⟩
        rw [srt_uniq pm so]
        exact newL k g (strs_rep _) p np
      · exact g.elim
    · exact g.elim
  · exact g.elim
/-- the least, the greatest -/
def minL : List Int → Int
  | [] => 0
  | [a] => a
  | a :: b :: r => min a (minL (b :: r))
def maxL : List Int → Int
  | [] => 0
  | [a] => a
  | a :: b :: r => max a (maxL (b :: r))
theorem minL_le : ∀ {l : List Int} {a : Int}, a ∈ l → minL l ≤ a
  | [x], a, h => by
    rw [List.mem_singleton.mp h]
    exact Int.le_refl _
  | x :: y :: r, a, h => by
    rcases List.mem_cons.mp h with rfl | h
    · exact Int.min_le_left _ _
    · exact Int.le_trans (Int.min_le_right _ _) (minL_le h)
theorem minL_mem : ∀ {l : List Int}, l ≠ [] → minL l ∈ l
  | [x], _ => .head _
  | x :: y :: r, _ => by
    have ih := minL_mem (l := y :: r) (by simp)
    show min x (minL (y :: r)) ∈ _
    rw [Int.min_def]
    split
    · exact .head _
    · exact .tail _ ih
theorem le_maxL : ∀ {l : List Int} {a : Int}, a ∈ l → a ≤ maxL l
  | [x], a, h => by
    rw [List.mem_singleton.mp h]
    exact Int.le_refl _
  | x :: y :: r, a, h => by
    rcases List.mem_cons.mp h with rfl | h
    · exact Int.le_max_left _ _
    · exact Int.le_trans (le_maxL h) (Int.le_max_right _ _)
theorem maxL_mem : ∀ {l : List Int}, l ≠ [] → maxL l ∈ l
  | [x], _ => .head _
  | x :: y :: r, _ => by
    have ih := maxL_mem (l := y :: r) (by simp)
    show max x (maxL (y :: r)) ∈ _
    rw [Int.max_def]
    split
    · exact .tail _ ih
    · exact .head _
def fMinL : List W → Μ → O W := fun ws μ => match ws with
  | [w] => match (rdL μ w).bind intsP with
    | some (n :: ns) => .ok (.v (.int (minL (n :: ns)))) μ
    | _ => .bad
  | _ => .bad
theorem ad_minL {K : PySem.W.Frag} : AdC Wx (rMin K) fMinL := fun D as μ σ H vs ws Q k r g => by
  unfold fMinL at g
  split at g
  · split at g
    · rename_i n ns e
      obtain ⟨ps, e1, e2⟩ := Option.bind_eq_some_iff.mp e
      obtain ⟨v, rfl, rv⟩ := repWs1 r
      obtain ⟨a, xs, rfl, hs, rs⟩ := rdL_ok k rv e1
      obtain rfl := intsP_ok rs e2
      refine ⟨a, n :: ns, rfl, .inl hs, Nat.succ_pos _, fun m hm hle => ?_⟩
      have : m = minL (n :: ns) := Int.le_antisymm (hle _ (minL_mem (by simp))) (minL_le hm)
      rw [this]
      exact nowV k g .int
    · exact g.elim
  · exact g.elim
def fMaxL : List W → Μ → O W := fun ws μ => match ws with
  | [w] => match (rdL μ w).bind intsP with
    | some (n :: ns) => .ok (.v (.int (maxL (n :: ns)))) μ
    | _ => .bad
  | _ => .bad
theorem ad_maxL {K : PySem.W.Frag} : AdC Wx (rMax K) fMaxL := fun D as μ σ H vs ws Q k r g => by
  unfold fMaxL at g
  split at g
  · split at g
    · rename_i n ns e
      obtain ⟨ps, e1, e2⟩ := Option.bind_eq_some_iff.mp e
      obtain ⟨v, rfl, rv⟩ := repWs1 r
      obtain ⟨a, xs, rfl, hs, rs⟩ := rdL_ok k rv e1
      obtain rfl := intsP_ok rs e2
      refine ⟨a, n :: ns, rfl, .inl hs, Nat.succ_pos _, fun m hm hle => ?_⟩
      have : m = maxL (n :: ns) := Int.le_antisymm (le_maxL hm) (hle _ (maxL_mem (by simp)))
      rw [this]
      exact nowV k g .int
    · exact g.elim
  · exact g.elim
/-- calls with one int, two ints -/
def fC1 (f : Int → P) : List W → Μ → O W := fun ws μ => match ws with
  | [.v (.int i)] => .ok (.v (f i)) μ
  | _ => .bad
def fC2 (f : Int → Int → P) : List W → Μ → O W := fun ws μ => match ws with
  | [.v (.int i), .v (.int j)] => .ok (.v (f i j)) μ
  | _ => .bad
abbrev fAbs := fC1 fun i => .int i.natAbs
abbrev fMax2 := fC2 fun i j => .int (max i j)
abbrev fMin2 := fC2 fun i j => .int (min i j)
theorem ad_C1 {r : List V → Hp → VK → Prop} {f : Int → P} (h : ∀ D H i Q, (∀ v, Rep D H v (f i) → Q v H) → r [.int i] H Q) : AdC Wx r (fC1 f) := fun D as μ σ H vs ws Q k r' g => by
  unfold fC1 at g
  split at g
  · obtain ⟨v, rfl, rv⟩ := repWs1 r'
    obtain rfl := rep_int rv
    exact h D H _ Q fun v rv => nowV k g rv
  · exact g.elim
theorem ad_C2 {r : List V → Hp → VK → Prop} {f : Int → Int → P} (h : ∀ D H i j Q, (∀ v, Rep D H v (f i j) → Q v H) → r [.int i, .int j] H Q) : AdC Wx r (fC2 f) := fun D as μ σ H vs ws Q k r' g => by
  unfold fC2 at g
  split at g
  · obtain ⟨v, u, rfl, rv, ru⟩ := repWs2 r'
    obtain rfl := rep_int rv
    obtain rfl := rep_int ru
    exact h D H _ _ Q fun v rv => nowV k g rv
  · exact g.elim
theorem ad_abs : AdC Wx (fun xs H Q => ∃ i, xs = [.int i] ∧ Q (.int (if i < 0 then -i else i)) H) fAbs := ad_C1 fun D H i Q h => ⟨i, rfl, by
  have e : (if i < 0 then -i else i) = (i.natAbs : Int) := by split <;> omega
  rw [e]
  exact h _ .int⟩
theorem ad_max2 : AdC Wx (fun xs H Q => ∃ i j, xs = [.int i, .int j] ∧ Q (.int (if j > i then j else i)) H) fMax2 := ad_C2 fun D H i j Q h => ⟨i, j, rfl, by
  have e : (if j > i then j else i) = max i j := by rw [Int.max_def]; split <;> split <;> omega
  rw [e]
  exact h _ .int⟩
theorem ad_min2 : AdC Wx (fun xs H Q => ∃ i j, xs = [.int i, .int j] ∧ Q (.int (if j < i then j else i)) H) fMin2 := ad_C2 fun D H i j Q h => ⟨i, j, rfl, by
  have e : (if j < i then j else i) = min i j := by rw [Int.min_def]; split <;> split <;> omega
  rw [e]
  exact h _ .int⟩
/-- divmod -/
def fDivmod : List W → Μ → O W := fun ws μ => match ws with
  | [.v (.int i), .v (.int j)] => if 0 < j ∧ j < 1073741824 then .ok (.v (.tup [.int (i / j), .int (i % j)])) μ else .bad
  | _ => .bad
theorem ad_divmod : AdC Wx (fun xs H Q => ∃ i j, xs = [.int i, .int j] ∧ CDiv i j ∧ ∀ p, H p = none → Q (.ref p) (upd H p (.tup [.int (i / j), .int (i % j)]))) fDivmod := fun D as μ σ H vs ws Q k r' g => by
  unfold fDivmod at g
  split at g
  · split at g
    · rename_i hj
      obtain ⟨v, u, rfl, rv, ru⟩ := repWs2 r'
      obtain rfl := rep_int rv
      obtain rfl := rep_int ru
      exact ⟨_, _, rfl, hj, newT k g (.cons .int (.cons .int .nil))⟩
    · exact g.elim
  · exact g.elim
/-! ### slices -/
abbrev OF := Γ → Μ → O (Option Int)
def RepOI : RL (Option Int) (Option Int) := fun _ _ _ b a => b = a
def AdO (Wx : WX) (to : TO) (F : OF) : Prop := ∀ D as γ μ σ H Q, Sk D as H μ → EnvR D as H σ γ → G Wx σ RepOI D as H (F γ μ) Q → to σ H Q
def PPO (X : Cx) (Wx : WX) (e : Option Expr) (F : OF) : Prop := ∃ to, PO X e to ∧ AdO Wx to F
def oNone : OF := fun _ μ => .ok none μ
def oSome (F : EF) : OF := fun γ μ => (F γ μ).bind fun w m => match w with
  | .v (.int i) => .ok (some i) m
  | _ => .bad
theorem ppo_none : PPO X Wx none oNone := ⟨_, po_none, fun D as γ μ σ H Q k ev g => g.now (R := RepOI) k rfl⟩
theorem ppo_some (h : PP X Wx e F) : PPO X Wx (some e) (oSome F) := let ⟨_, p, ad⟩ := h; ⟨_, po_some p, fun D as γ μ σ H Q k ev g => by
  refine ad D as γ μ σ H _ k ev ((G.bind RepW k g).mono fun x H1 ⟨D1, as1, μ1, w, n1, k1, r1, g1⟩ => ?_)
  split at g1
  · obtain rfl := rep_int r1
    exact ⟨_, rfl, g1.now (R := RepOI) k1 rfl⟩
  · exact g1.elim⟩
def cutP {α : Type} (xs : List α) (lo hi : Option Int) : List α := (xs.drop (HT.sIx xs.length 0 lo)).take (HT.sIx xs.length xs.length hi - HT.sIx xs.length 0 lo)
theorem cut_rep {D : Addr → Prop} {H : Hp} {xs : List V} {ps : List P} (r : Reps D H xs ps) (lo hi : Option Int) : Reps D H (cutV xs lo hi) (cutP ps lo hi) := by
  unfold cutV cutP
  rw [r.length]
  exact (r.drop _).take _
def AdSl (Wx : WX) (r : V → Option Int → Option Int → Hp → VK → Prop) (f : W → Option Int → Option Int → Μ → O W) : Prop := ∀ D as μ σ H x w lo hi Q, Sk D as H μ → RepW D as H x w → G Wx σ RepW D as H (f w lo hi μ) Q → r x lo hi H Q
def fSl (f : W → Option Int → Option Int → Μ → O W) (F : EF) (L Hi : OF) : EF := fun γ μ => (F γ μ).bind fun w m => (L γ m).bind fun lo m => (Hi γ m).bind fun hi m => f w lo hi m
theorem pp_slice {r} {f} {lo hi : Option Expr} {L Hi : OF} {p2 : Pos} (hr : SlR X r) (h : AdSl Wx r f) (he : PP X Wx e F) (hl : PPO X Wx lo L) (hu : PPO X Wx hi Hi) : PP X Wx (.Subscript e (.Slice lo hi none p2) pos) (fSl f F L Hi) :=
  let ⟨_, p, a⟩ := he; let ⟨_, pl, al⟩ := hl; let ⟨_, ph, ah⟩ := hu; ⟨_, pe_slice hr p pl ph, fun D as γ μ σ H Q k ev g => by
    refine a D as γ μ σ H _ k ev ((G.bind RepW k g).mono fun x H1 ⟨D1, as1, μ1, w, n1, k1, r1, g1⟩ => ?_)
    refine al D1 as1 γ μ1 σ H1 _ k1 (ev.nx n1) ((G.bind RepOI k1 g1).mono fun l H2 ⟨D2, as2, μ2, l', n2, k2, r2, g2⟩ => ?_)
    obtain rfl : l = l' := r2
    refine ah D2 as2 γ μ2 σ H2 _ k2 ((ev.nx n1).nx n2) ((G.bind RepOI k2 g2).mono fun u H3 ⟨D3, as3, μ3, u', n3, k3, r3, g3⟩ => ?_)
    obtain rfl : u = u' := r3
    exact h D3 as3 μ3 σ H3 x w l u Q k3 ((r1.nx n2).nx n3) g3⟩
def fSlL : W → Option Int → Option Int → Μ → O W := fun w lo hi μ => match rdL μ w with
  | some ps => .ok (.v (.lst (cutP ps lo hi))) μ
  | none => .bad
theorem ad_slL {K : PySem.W.Frag} : AdSl Wx (rSlL K) fSlL := fun D as μ σ H x w lo hi Q k r g => by
  unfold fSlL at g
  split at g
  · rename_i ps e
    obtain ⟨a, xs, rfl, hs, rs⟩ := rdL_ok k r e
    exact ⟨a, xs, rfl, .inl hs, newL k g (cut_rep rs lo hi)⟩
  · exact g.elim
def fSlS : W → Option Int → Option Int → Μ → O W := fun w lo hi μ => match w with
  | .v (.str z) => if z.length ≤ sizeLine then .ok (.v (.str (cutS z lo hi))) μ else .bad
  | _ => .bad
theorem ad_slS : AdSl Wx rSlS fSlS := fun D as μ σ H x w lo hi Q k r g => by
  unfold fSlS at g
  split at g
  · split at g
    · rename_i hz
      exact ⟨_, rep_str r, hz, nowV k g .str⟩
    · exact g.elim
  · exact g.elim
/-! ### in a list -/
def flatP : P → Bool
  | .non | .bl _ | .int _ | .str _ => true
  | _ => false
def eqF : P → P → Bool
  | .non, .non => true
  | .bl a, .bl b => a == b
  | .bl a, .int b => (if a then 1 else 0) == b
  | .int a, .bl b => a == (if b then 1 else 0)
  | .int a, .int b => a == b
  | .str a, .str b => a == b
  | _, _ => false
theorem eqF_ok {D : Addr → Prop} {H : Hp} {x y : V} {p q : P} (rx : Rep D H x p) (ry : Rep D H y q) (fp : flatP p = true) (fq : flatP q = true) : flatV x = true ∧ eqV x y = eqF p q := by
  cases rx <;> cases ry <;> first | exact ⟨rfl, rfl⟩ | cases fp | cases fq
def fIn (neg : Bool) : W → W → Μ → O W := fun x y μ => match x, seqP μ y with
  | .v p, some ps => if flatP p = true ∧ ps.all flatP = true then .ok (.v (.bl ((ps.any fun q => eqF q p) != neg))) μ else .bad
  | _, _ => .bad
theorem all_flat {D : Addr → Prop} {H : Hp} {x : V} {p : P} (rx : Rep D H x p) (fp : flatP p = true) : ∀ {xs : List V} {ps : List P}, Reps D H xs ps → ps.all flatP = true → xs.all flatV = true ∧ inV x xs = ps.any fun q => eqF q p
  | _, _, .nil, _ => ⟨rfl, rfl⟩
  | _, _, .cons r t, h => by
    rw [List.all_cons, Bool.and_eq_true] at h
    obtain ⟨a, b⟩ := all_flat rx fp t h.2
    obtain ⟨c, d⟩ := eqF_ok r rx h.1 fp
    refine ⟨by rw [List.all_cons, c, a]; rfl, ?_⟩
    unfold inV at *
    rw [List.any_cons, List.any_cons, d, b]
theorem ad_in {K : PySem.W.Frag} {neg : Bool} : AdR2 Wx (rIn K neg) (fIn neg) := fun D as μ σ H x y a b Q k ra rb g => by
  unfold fIn at g
  split at g
  · rename_i p ps e
    split at g
    · rename_i hf
      obtain ⟨l, xs, rfl, hs, rs⟩ := seqP_ok (K := K) k rb e
      obtain ⟨h1, h2⟩ := all_flat ra hf.1 rs hf.2
      refine ⟨l, xs, rfl, hs, (eqF_ok ra ra hf.1 hf.1).1, h1, ?_⟩
      rw [h2]
      have := nowV (x := .bl ((ps.any fun q => eqF q p) != neg)) k g .bl
      cases neg <;> simpa using this
    · exact g.elim
  · exact g.elim
end
end Pu
set_option Elab.async false
set_option linter.all false
set_option maxRecDepth 100000
set_option maxHeartbeats 4000000
namespace Pu
open L2 PySem PySem.Spec PyProof.Rows E10
/-! ### operators of own objects (no error comes out) -/
/-- a special method of the class C, with a pure promise -/
structure DS (P : Program) (w : World) (K : PySem.W.Frag) (mg : Str → Option Value) (base : Heap) (C : Addr) (m : Str) (n : Nat) (k : Nat) (F : FF) : Prop where
  ex : ∃ (f : Addr) (fd : FuncData) (ps : List Str), ps.length = n ∧ FnX P w K mg base k f fd ps (spP n F) ∧ Has K C f m ∧ Binds K fd ps []
theorem DS.g {P w K mg base C m n k F} (d : DS P w K mg base C m n k F) : ∃ (f : Addr) (fd : FuncData) (ps : List Str), FnG P w K mg base k f fd ps (noE (spP n F)) ∧ Has K C f m ∧ Binds K fd ps [] :=
  let ⟨f, fd, ps, _, F, h, b⟩ := d.ex; ⟨f, fd, ps, F.g, h, b⟩
def isC (C : Addr) (μ : Μ) (w : W) : Bool := match rdI μ w with
  | some (C', _) => decide (C' = C)
  | none => false
theorem isC_ok {C : Addr} {D as H} {μ : Μ} {v : V} {w : W} (k : Sk D as H μ) (r : RepW D as H v w) (h : isC C μ w = true) : ∃ a dx fs, v = .ref a ∧ H a = some (.ins C dx fs) := by
  unfold isC at h
  split at h
  · rename_i C' ps e
    have := of_decide_eq_true h
    subst this
    obtain ⟨a, dx, xs, rfl, h, _⟩ := rdI_ok k r e
    exact ⟨a, dx, xs, rfl, h⟩
  · cases h
def fOwn2 (C : Addr) (F : FF) : W → W → Μ → O W := fun x y μ => if isC C μ x = true ∧ isC C μ y = true then (F [x, y] μ).nx else .bad
def fOwnI (C : Addr) (F : FF) : W → W → Μ → O W := fun x y μ => match y with
  | .v (.int i) => if isC C μ x = true then (F [x, .v (.int i)] μ).nx else .bad
  | _ => .bad
def fIOwn (C : Addr) (F : FF) : W → W → Μ → O W := fun x y μ => match x with
  | .v (.int i) => if isC C μ y = true then (F [y, .v (.int i)] μ).nx else .bad
  | _ => .bad
section
variable {X : Cx} {Wx : WX} {a b e o : Expr} {es : List Expr} {F F1 F2 : EF} {A : AF} {C : Addr} {FF' : FF} {k : Nat} {pos p : Pos}
theorem nowSp {D as H} {μ : Μ} {σ : L2.St} {Q : VK} {E : XK} {vs : List V} {ws : List W} {n : Nat} (k : Sk D as H μ) (r : RepWs D as H vs ws) (hl : vs.length = n) (g : G Wx σ RepW D as H (FF' ws μ).nx Q) : noE (spP n FF') vs H Q E := ⟨hl, D, as, ws, μ, k, r, G_nx g⟩
theorem ad_ownI : AdR2 Wx (rOwnI C (noE (spP 2 FF'))) (fOwnI C FF') := fun D as μ σ H x y wx wy Q k ra rb g => by
  unfold fOwnI at g
  split at g
  · split at g
    · rename_i i h
      obtain ⟨a, dx, fs, rfl, ha⟩ := isC_ok k ra h
      obtain rfl := rep_int rb
      exact ⟨a, dx, fs, i, rfl, rfl, ha, nowSp k (.cons ra (.cons rb .nil)) rfl g⟩
    · exact g.elim
  · exact g.elim
/-- int and own object -/
structure IntK (K : PySem.W.Frag) (C : Addr) : Prop where
  sf : PySem.W.selfFirst K C = true
  s1 : PySem.W.subIn K (.type "int") (.ref C) = some false
  s2 : PySem.W.subIn K (.ref C) (.type "int") = some false
theorem pp_addI (hf : ∃ fo ro rc : Option Value, PySem.W.findIn X.K (.ref C) (dunderR Operator.Add.info.2) = some rc ∧ (rc = none ∨ ∃ g : Addr, rc = some (.ref g)) ∧ PySem.W.findIn X.K (.type "int") (PySem.dunder Operator.Add.info.2) = some fo ∧ PySem.W.findIn X.K (.type "int") (dunderR Operator.Add.info.2) = some ro)
    (d : DS X.prog X.w X.K X.mg X.base C (PySem.dunder Operator.Add.info.2) 2 k FF') (i : IntK X.K C) (hG : X.A.guards = some []) (hr : Room k X.A) (ha : PP X Wx a F1) (hb : PP X Wx b F2) : PP X Wx (.BinOp a .Add b pos) (fOp (fOwnI C FF') F1 F2) := by
  obtain ⟨fo, ro, rc, h1, h2, h3, h4⟩ := hf
  obtain ⟨f, fd, ps, FG, h, bi⟩ := d.g
  exact pp_op (op_ownI FG hG hr bi i.sf h h1 h2 h3 h4 i.s1) ad_ownI ha hb
/-! ### ==, != by an own __eq__ -/
def nfP (cs : List Addr) (t : Value) : Bool := match t with
  | .type n => n ∈ ["int", "str", "NoneType", "bool", "list", "tuple", "dict"]
  | .ref C => decide (C ∈ cs)
  | _ => false
def fEqO (C : Addr) (cs : List Addr) (F : FF) : W → W → Μ → O W := fun x y μ => if isC C μ x = true then match tyP cs μ y with
    | some t => if nfP cs t = true then (F [x, y] μ).nx else .bad
    | none => .bad
  else .bad
def notB : W → Μ → O W := fun w μ => match w with
  | .v (.bl b) => .ok (.v (.bl (!b))) μ
  | _ => .bad
def fNeO (C : Addr) (cs : List Addr) (F : FF) : W → W → Μ → O W := fun x y μ => (fEqO C cs F x y μ).bind notB
/-! ### len, in, [] -/
def fInO (C : Addr) (neg : Bool) (F : FF) : W → W → Μ → O W := fun x y μ => if isC C μ y = true then ((F [y, x] μ).nx).bind fun w m => match w with
    | .v (.bl b) => .ok (.v (.bl (if neg then !b else b))) m
    | _ => .bad
  else .bad
theorem ad_inO {neg : Bool} : AdR2 Wx (rInO C (noE (spP 2 FF')) neg) (fInO C neg FF') := fun D as μ σ H x y wx wy Q k ra rb g => by
  unfold fInO at g
  split at g
  · rename_i hx
    obtain ⟨a, dx, fs, rfl, ha⟩ := isC_ok k rb hx
    refine ⟨a, dx, fs, rfl, ha, nowSp k (.cons rb (.cons ra .nil)) rfl ((G.bind RepW k g).mono fun v H1 ⟨D1, as1, μ1, w, n1, k1, r1, g1⟩ => ?_)⟩
    split at g1
    · obtain rfl := rep_bl r1
      exact ⟨_, rfl, nowV k1 g1 .bl⟩
    · exact g1.elim
  · exact g.elim
theorem pp_inO (d : DS X.prog X.w X.K X.mg X.base C "__contains__" 2 k FF') (hG : X.A.guards = some []) (hr : Room k X.A) (ha : PP X Wx a F1) (hb : PP X Wx b F2) (hm : behindInMarks .In b = false := by rfl) : PP X Wx (.Compare a [.In] [b] pos) (fOp (fInO C false FF') F1 F2) := by
  obtain ⟨f, fd, ps, FG, hs, bi⟩ := d.g
  exact pp_cmp (op_inO FG hG hr bi hs) ad_inO ha hb hm
def fIxO (C : Addr) (F : FF) : W → W → Μ → O W := fun x y μ => if isC C μ x = true then (F [x, y] μ).nx else .bad
theorem pp_ixO (d : DS X.prog X.w X.K X.mg X.base C "__getitem__" 2 k FF') (fi : ∀ f, Has X.K C f "__getitem__" → PySem.W.fnIn X.K f = true) (hG : X.A.guards = some []) (hr : Room (k + 1) X.A) (ha : PP X Wx a F1) (hb : PP X Wx b F2)
    (hs : ∀ (x : Addr) (i : Value), subscripted b true (.ref x) i = runValue (.builtin "lifetime.subscript" ⟨[.ref x, i], []⟩) := by intro x i; with_unfolding_all rfl) : PP X Wx (.Subscript a b pos) (fOp (fIxO C FF') F1 F2) := by
  obtain ⟨f, fd, ps, FG, h, bi⟩ := d.g
  obtain ⟨_, pa, aa⟩ := ha
  obtain ⟨_, pb, ab⟩ := hb
  refine ⟨_, pe_ixO FG hG hr bi h (fi f h) pa pb hs, ad_op (fun D as μ σ H x y wx wy Q k ra rb g => ?_) aa ab⟩
  unfold fIxO at g
  split at g
  · rename_i hx
    obtain ⟨a, dx, fs, rfl, ha⟩ := isC_ok k ra hx
    exact ⟨a, dx, fs, rfl, ha, nowSp k (.cons ra (.cons rb .nil)) rfl g⟩
  · exact g.elim
/-! ### an own object called -/
def fCallO (C : Addr) (F : FF) (Fo : EF) (A : AF) : EF := fun γ μ => (Fo γ μ).bind fun w m1 => if isC C m1 w = true then (A γ m1).bind fun ws m2 => if isC C m2 w = true then F (w :: ws) m2 else .bad else .bad
/-! ### str(x), repr(x) of own objects -/
end
end Pu
set_option Elab.async false
set_option linter.all false
set_option maxRecDepth 100000
set_option maxHeartbeats 4000000
namespace Pu
open L2 PySem PySem.Spec PyProof.Rows E10
/-! ### one rule for several kinds -/
def O.or {α : Type} (o p : O α) : O α := match o with
  | .bad => p
  | o => o
@[simp] theorem O.or_bad {α : Type} (p : O α) : O.bad.or p = p := rfl
@[simp] theorem O.or_ok {α : Type} (a m) (p : O α) : (O.ok a m).or p = .ok a m := rfl
@[simp] theorem O.or_exc {α : Type} (C fs m) (p : O α) : (O.exc C fs m : O α).or p = .exc C fs m := rfl
def f2or (f g : W → W → Μ → O W) : W → W → Μ → O W := fun x y μ => (f x y μ).or (g x y μ)
def fcor (f g : List W → Μ → O W) : List W → Μ → O W := fun ws μ => (f ws μ).or (g ws μ)
theorem G.or {α β : Type} {Wx : WX} {σ : L2.St} {R : RL β α} {D : Addr → Prop} {as : Ps} {H : Hp} {o p : O α} {Q : β → Hp → Prop} (g : G Wx σ R D as H (o.or p) Q) : G Wx σ R D as H o Q ∨ G Wx σ R D as H p Q := by
  cases o with
  | bad => exact .inr g
  | ok a m => exact .inl g
  | exc C fs m => exact .inl g
section
variable {X : Cx} {Wx : WX} {a b e : Expr} {es : List Expr} {F F1 F2 : EF} {A : AF} {pos : Pos}
theorem AdR2.or {r r' : R2} {f g} (h : AdR2 Wx r f) (h' : AdR2 Wx r' g) : AdR2 Wx (fun x y H Q => r x y H Q ∨ r' x y H Q) (f2or f g) := fun D as μ σ H x y a b Q k ra rb gg =>
  (G.or gg).elim (fun z => .inl (h D as μ σ H x y a b Q k ra rb z)) fun z => .inr (h' D as μ σ H x y a b Q k ra rb z)
theorem AdC.or {r r'} {f g} (h : AdC Wx r f) (h' : AdC Wx r' g) : AdC Wx (fun xs H Q => r xs H Q ∨ r' xs H Q) (fcor f g) := fun D as μ σ H vs ws Q k r gg =>
  (G.or gg).elim (fun z => .inl (h D as μ σ H vs ws Q k r z)) fun z => .inr (h' D as μ σ H vs ws Q k r z)
theorem AdSl.or {r r'} {f g : W → Option Int → Option Int → Μ → O W} (h : AdSl Wx r f) (h' : AdSl Wx r' g) : AdSl Wx (fun x lo hi H Q => r x lo hi H Q ∨ r' x lo hi H Q) (fun w lo hi μ => (f w lo hi μ).or (g w lo hi μ)) := fun D as μ σ H x w lo hi Q k r gg =>
  (G.or gg).elim (fun z => .inl (h D as μ σ H x w lo hi Q k r z)) fun z => .inr (h' D as μ σ H x w lo hi Q k r z)
/-! arithmetic -/
abbrev gAdd := f2or fAdd (f2or fCatS fCat)
theorem pp_add (ha : PP X Wx a F1) (hb : PP X Wx b F2) : PP X Wx (.BinOp a .Add b pos) (fOp gAdd F1 F2) := pp_op (op_add.or (op_add_str.or op_catR)) (ad_add.or (ad_catS.or ad_cat)) ha hb
theorem pp_sub (ha : PP X Wx a F1) (hb : PP X Wx b F2) : PP X Wx (.BinOp a .Sub b pos) (fOp fSub F1 F2) := pp_op op_sub ad_sub ha hb
theorem pp_mod (ha : PP X Wx a F1) (hb : PP X Wx b F2) : PP X Wx (.BinOp a .Mod b pos) (fOp fMod F1 F2) := pp_op op_mod ad_mod ha hb
theorem pp_div (ha : PP X Wx a F1) (hb : PP X Wx b F2) : PP X Wx (.BinOp a .FloorDiv b pos) (fOp fDiv F1 F2) := pp_op op_fdiv ad_div ha hb
theorem pp_pow (ha : PP X Wx a F1) (hb : PP X Wx b F2) : PP X Wx (.BinOp a .Pow b pos) (fOp fPow F1 F2) := pp_op op_pow ad_pow ha hb
/-! comparisons -/
abbrev gLt := f2or (fI0 fun i j => .bl (decide (i < j))) (fSS (fun _ _ => true) fun i j => .bl (strLt i j))
abbrev gLe := f2or (fI0 fun i j => .bl (decide (i ≤ j))) (fSS (fun _ _ => true) fun i j => .bl (leS i j))
abbrev gGt := f2or (fI0 fun i j => .bl (decide (j < i))) (fSS (fun _ _ => true) fun i j => .bl (strLt j i))
theorem or_lt : OpR X (compareOp .Lt) (fun x y H Q => rI0 (fun i j => .bl (decide (i < j))) x y H Q ∨ ∃ i j, x = .str i ∧ y = .str j ∧ Q (.bl (decide (i.cps.toList < j.cps.toList))) H) := op_lt.or op_lt_str
theorem ag_lt : AdR2 Wx (fun x y H Q => rI0 (fun i j => .bl (decide (i < j))) x y H Q ∨ ∃ i j, x = .str i ∧ y = .str j ∧ Q (.bl (decide (i.cps.toList < j.cps.toList))) H) gLt := ad_lt.or ad_ltS
theorem or_le : OpR X (compareOp .LtE) (fun x y H Q => rI0 (fun i j => .bl (decide (i ≤ j))) x y H Q ∨ ∃ i j, x = .str i ∧ y = .str j ∧ Q (.bl (!decide (j.cps.toList < i.cps.toList))) H) := op_le.or op_le_str
theorem ag_le : AdR2 Wx (fun x y H Q => rI0 (fun i j => .bl (decide (i ≤ j))) x y H Q ∨ ∃ i j, x = .str i ∧ y = .str j ∧ Q (.bl (!decide (j.cps.toList < i.cps.toList))) H) gLe :=
  ad_le.or (ad_SS fun D H i j Q c h => ⟨_, _, rfl, rfl, h _ .bl⟩)
theorem or_gt : OpR X (compareOp .Gt) (fun x y H Q => rI0 (fun i j => .bl (decide (j < i))) x y H Q ∨ ∃ i j, x = .str i ∧ y = .str j ∧ Q (.bl (decide (j.cps.toList < i.cps.toList))) H) := op_gt.or op_gt_str
theorem ag_gt : AdR2 Wx (fun x y H Q => rI0 (fun i j => .bl (decide (j < i))) x y H Q ∨ ∃ i j, x = .str i ∧ y = .str j ∧ Q (.bl (decide (j.cps.toList < i.cps.toList))) H) gGt :=
  ad_gt.or (ad_SS fun D H i j Q c h => ⟨_, _, rfl, rfl, h _ .bl⟩)
theorem pp_le (ha : PP X Wx a F1) (hb : PP X Wx b F2) : PP X Wx (.Compare a [.LtE] [b] pos) (fOp gLe F1 F2) := pp_cmp or_le ag_le ha hb
theorem pp_gt (ha : PP X Wx a F1) (hb : PP X Wx b F2) : PP X Wx (.Compare a [.Gt] [b] pos) (fOp gGt F1 F2) := pp_cmp or_gt ag_gt ha hb
/-! data, compared -/
def mapO {α β : Type} (f : α → Option β) : List α → Option (List β)
  | [] => some []
  | x :: r => (f x).bind fun y => (mapO f r).map (y :: ·)
def toD : Nat → P → Option PyData
  | _, .non => some .none
  | _, .bl b => some (.bool b)
  | _, .int i => some (.int i)
  | _, .str x => some (.str x)
  | n + 1, .lst ps => (mapO (toD n) ps).map .list
  | n + 1, .tup ps => (mapO (toD n) ps).map .tuple
  | _, _ => none
theorem toD_ok {K : PySem.W.Frag} {D : Addr → Prop} {H : Hp} : ∀ {n : Nat} {v : V} {p : P} {d : PyData}, Rep D H v p → toD n p = some d → Dp K H v d := by
  intro n
  induction n with
  | zero =>
    intro v p d r h
    cases r <;> cases h <;> first | exact .non | exact .bl _ | exact .int _ | exact .str _
  | succ n ih =>
    have all : ∀ {vs ps ds}, Reps D H vs ps → mapO (toD n) ps = some ds → DpAll K H vs ds := by
      intro vs ps ds r
      induction ps generalizing vs ds with
      | nil => intro h; cases r; cases h; exact .nil
      | cons p ps ih2 =>
        intro h
        cases r with
        | cons r t =>
          obtain ⟨d, e1, e2⟩ := Option.bind_eq_some_iff.mp h
          obtain ⟨ds', e3, rfl⟩ := Option.map_eq_some_iff.mp e2
          exact .cons (ih r e1) (ih2 t e3)
    intro v p d r h
    cases r with
    | non => cases h; exact .non
    | bl => cases h; exact .bl _
    | int => cases h; exact .int _
    | str => cases h; exact .str _
    | lst _ hr rs =>
      obtain ⟨ds, e, rfl⟩ := Option.map_eq_some_iff.mp h
      exact .lst (.inl hr) (all rs e)
    | tup _ hr rs =>
      obtain ⟨ds, e, rfl⟩ := Option.map_eq_some_iff.mp h
      exact .tup (.inl hr) (all rs e)
    | _ => cases h
def frzV (μ : Μ) : W → Option P
  | .v p => some p
  | .loc j => (μ[j]?).bind PC.p
theorem toD_okW {K : PySem.W.Frag} {D as H} {μ : Μ} {v : V} {w : W} {n : Nat} {d : PyData} (k : Sk D as H μ) (r : RepW D as H v w) (h : (frzV μ w).bind (toD n) = some d) : Dp K H v d := by
  obtain ⟨p, e1, e2⟩ := Option.bind_eq_some_iff.mp h
  cases w with
  | v q => cases e1; exact toD_ok r e2
  | loc j =>
    obtain ⟨c, q, e3⟩ := Option.bind_eq_some_iff.mp e1
    obtain ⟨a, ea, rfl, x⟩ := r.adr k q (fun z => by rw [z] at e3; cases e3)
    cases c with
    | lst ps =>
      cases e3
      obtain ⟨xs, hx, rs⟩ := x
      exact toD_ok (D := fun _ => False) (.lst (fun z => z) (.inl hx) (Reps.sd ⟨fun _ _ _ _ z => z, fun _ _ _ z => z, fun _ _ _ z _ => z⟩ rs)) e2
    | lstL ps =>
      cases e3
      obtain ⟨od, xs, hx, rs⟩ := x
      exact toD_ok (D := fun _ => False) (.lst (fun z => z) (.inr ⟨od, hx⟩) (Reps.sd ⟨fun _ _ _ _ z => z, fun _ _ _ z => z, fun _ _ _ z _ => z⟩ rs)) e2
    | dctL ps => cases e3; cases n <;> cases e2
    | dct ps => cases e3; cases n <;> cases e2
    | ins C ps => cases e3; cases n <;> cases e2
    | dead => cases e3
def fEqD (neg : Bool) : W → W → Μ → O W := fun x y μ => match (frzV μ x).bind (toD 6), (frzV μ y).bind (toD 6) with
  | some d, some e => if SeqAt.shaped d = true ∧ SeqAt.shaped e = true then .ok (.v (.bl (PyData.eqv d e != neg))) μ else .bad
  | _, _ => .bad
theorem ad_eqD {K : PySem.W.Frag} : AdR2 Wx (rEqD K) (fEqD false) := fun D as μ σ H x y wx wy Q k ra rb g => by
  unfold fEqD at g
  split at g
  · rename_i d e h1 h2
    split at g
    · rename_i hs
      refine ⟨d, e, toD_okW k ra h1, toD_okW k rb h2, hs.1, hs.2, ?_⟩
      have := nowV (x := .bl (PyData.eqv d e != false)) k g .bl
      simpa using this
    · exact g.elim
  · exact g.elim
theorem ad_neD {K : PySem.W.Frag} : AdR2 Wx (rNeD K) (fEqD true) := fun D as μ σ H x y wx wy Q k ra rb g => by
  unfold fEqD at g
  split at g
  · rename_i d e h1 h2
    split at g
    · rename_i hs
      refine ⟨d, e, toD_okW k ra h1, toD_okW k rb h2, hs.1, hs.2, ?_⟩
      have := nowV (x := .bl (PyData.eqv d e != true)) k g .bl
      simpa using this
    · exact g.elim
  · exact g.elim
/-! dicts of flat values, compared -/
def hitP (l : List (Key × P)) : List (Key × P) → Bool
  | [] => true
  | (k, p) :: r => match valP l k with
    | some q => eqF p q && hitP l r
    | none => false
def eqK (x y : List (Key × P)) : Bool := x.length == y.length && hitP y x
theorem hits_rep {D : Addr → Prop} {H : Hp} {A : Around} {s : Shared} {ls : List (Key × V)} {vb : List (Key × Value)} {lp : List (Key × P)} (rb : KV ls vb) (rl : RepK D H ls lp) (fl : lp.all (fun kp => flatP kp.2) = true) :
    ∀ {ks : List (Key × V)} {va : List (Key × Value)} {kp : List (Key × P)}, KV ks va → RepK D H ks kp → kp.all (fun x => flatP x.2) = true → PySem.W.KeqHits A s vb va (hitP lp kp)
  | _, _, _, .nil, .nil, _ => .nil
  | _, _, _, @Paired.cons _ _ _ (k, v) (k2, u) ps qs h t, @RepK.cons _ _ _ _ p _ m r t', fk => by
    obtain ⟨h1, h2⟩ := h
    simp only at h1 h2
    subst h1
    rw [List.all_cons, Bool.and_eq_true] at fk
    have ih := hits_rep (A := A) (s := s) rb rl fl t t' fk.2
    have ro := rb.val k
    cases e : valP lp k with
    | none =>
      have z := rl.val_none e
      rw [z] at ro
      have : valueAt vb k = none := by
        cases q : valueAt vb k with
        | none => rfl
        | some y => rw [q] at ro; exact ro.elim
      simp only [hitP, e]
      exact .miss this
    | some q =>
      obtain ⟨y, hy, ry⟩ := rl.val e
      rw [hy] at ro
      obtain ⟨u', hu', ru'⟩ := RelO.some_of ro
      simp only [hitP, e]
      have fq : flatP q = true := by
        unfold valP at e
        obtain ⟨kq, h3, rfl⟩ := Option.map_eq_some_iff.mp e
        exact List.all_eq_true.mp fl kq (List.mem_of_find?_eq_some h3)
      have e1 := (eqF_ok r ry fk.1 fq)
      have f2 := (eqF_ok ry ry fq fq).1
      rw [← e1.2]
      exact .hit hu' (eqAt_V h2 ru' e1.1 f2) ih
def rEqK : R2 := fun x y H Q => ∃ D a b xs ys ps qs, x = .ref a ∧ y = .ref b ∧ Rd H a (.dK xs) ∧ Rd H b (.dK ys) ∧ RepK D H xs ps ∧ RepK D H ys qs ∧ ps.all (fun x => flatP x.2) = true ∧ qs.all (fun x => flatP x.2) = true ∧ Q (.bl (eqK ps qs)) H
def rNeK : R2 := fun x y H Q => ∃ D a b xs ys ps qs, x = .ref a ∧ y = .ref b ∧ Rd H a (.dK xs) ∧ Rd H b (.dK ys) ∧ RepK D H xs ps ∧ RepK D H ys qs ∧ ps.all (fun x => flatP x.2) = true ∧ qs.all (fun x => flatP x.2) = true ∧ Q (.bl (!eqK ps qs)) H
theorem op_eqK (hu : X.A.units < cLine) : OpR X (compareOp .Eq) rEqK := by
  intro pins s σ H x y v u Q I rx ry h
  obtain ⟨D, a, b, xs, ys, ps, qs, rfl, rfl, ha, hb, rp, rq, fp, fq, q⟩ := h
  cases (show v = Value.ref a from rx)
  cases (show u = Value.ref b from ry)
  obtain ⟨_, za, va, ra, da⟩ := dk_rd I.hok ha
  obtain ⟨_, zb, vb, rb, db⟩ := dk_rd I.hok hb
  refine PySem.W.keq_eq (knd := mixKind X.prog X.w) za zb da db hu (fun _ => hits_rep rb rq fq ra rp fp) ⟨.bl (eqK ps qs), H, I, ?_, q⟩
  show Value.bool _ = Value.bool _
  unfold eqK
  rw [← rp.length, ← rq.length, ra.length, rb.length]
theorem op_neK (hu : X.A.units < cLine) : OpR X (compareOp .NotEq) rNeK := by
  intro pins s σ H x y v u Q I rx ry h
  obtain ⟨D, a, b, xs, ys, ps, qs, rfl, rfl, ha, hb, rp, rq, fp, fq, q⟩ := h
  cases (show v = Value.ref a from rx)
  cases (show u = Value.ref b from ry)
  obtain ⟨_, za, va, ra, da⟩ := dk_rd I.hok ha
  obtain ⟨_, zb, vb, rb, db⟩ := dk_rd I.hok hb
  refine PySem.W.keq_ne (knd := mixKind X.prog X.w) za zb da db hu (fun _ => hits_rep rb rq fq ra rp fp) ⟨.bl (!eqK ps qs), H, I, ?_, q⟩
  show Value.bool _ = Value.bool _
  unfold eqK
  rw [← rp.length, ← rq.length, ra.length, rb.length]
def fEqK (neg : Bool) : W → W → Μ → O W := fun x y μ => match rdD μ x, rdD μ y with
  | some ps, some qs => if ps.all (fun x => flatP x.2) = true ∧ qs.all (fun x => flatP x.2) = true then .ok (.v (.bl (eqK ps qs != neg))) μ else .bad
  | _, _ => .bad
theorem ad_eqK : AdR2 Wx rEqK (fEqK false) := fun D as μ σ H x y wx wy Q k ra rb g => by
  unfold fEqK at g
  split at g
  · rename_i ps qs h1 h2
    split at g
    · rename_i hs
      obtain ⟨a, xs, rfl, ha, rp⟩ := rdD_ok k ra h1
      obtain ⟨b, ys, rfl, hb, rq⟩ := rdD_ok k rb h2
      refine ⟨D, a, b, xs, ys, ps, qs, rfl, rfl, ha, hb, rp, rq, hs.1, hs.2, ?_⟩
      have := nowV (x := .bl (eqK ps qs != false)) k g .bl
      simpa using this
    · exact g.elim
  · exact g.elim
theorem ad_neK : AdR2 Wx rNeK (fEqK true) := fun D as μ σ H x y wx wy Q k ra rb g => by
  unfold fEqK at g
  split at g
  · rename_i ps qs h1 h2
    split at g
    · rename_i hs
      obtain ⟨a, xs, rfl, ha, rp⟩ := rdD_ok k ra h1
      obtain ⟨b, ys, rfl, hb, rq⟩ := rdD_ok k rb h2
      refine ⟨D, a, b, xs, ys, ps, qs, rfl, rfl, ha, hb, rp, rq, hs.1, hs.2, ?_⟩
      have := nowV (x := .bl (eqK ps qs != true)) k g .bl
      simpa using this
    · exact g.elim
  · exact g.elim
abbrev gNe := f2or (fEqS true) (f2or (fEqK true) (fEqD true))
theorem pp_ne (hu : X.A.units + 64 < cLine) (ha : PP X Wx a F1) (hb : PP X Wx b F2) : PP X Wx (.Compare a [.NotEq] [b] pos) (fOp gNe F1 F2) := pp_cmp (op_ne.or ((op_neK (by omega)).or (op_neD hu))) (ad_neS.or (ad_neK.or ad_neD)) ha hb
/-! in -/
theorem op_dinR (hu : X.A.units + 1 < cLine) : OpR X (compareOp .In) (fun y x H Q => ∃ a o, x = .ref a ∧ DGet H a y o ∧ Q (.bl (o.isSome != false)) H) := by
  intro pins s σ H y x v u Q I ry rx h
  obtain ⟨a, o, rfl, g, q⟩ := h
  cases (show u = Value.ref a from rx)
  exact d_in hu I g ry fun s' I' => ⟨.bl o.isSome, H, I', rfl, by simpa using q⟩
theorem op_dnotinR (hu : X.A.units + 1 < cLine) : OpR X (compareOp .NotIn) (fun y x H Q => ∃ a o, x = .ref a ∧ DGet H a y o ∧ Q (.bl (o.isSome != true)) H) := by
  intro pins s σ H y x v u Q I ry rx h
  obtain ⟨a, o, rfl, g, q⟩ := h
  cases (show u = Value.ref a from rx)
  exact d_notIn hu I g ry fun s' I' => ⟨.bl (!o.isSome), H, I', rfl, by simpa using q⟩
end
end Pu
set_option Elab.async false
set_option linter.all false
set_option maxRecDepth 100000
set_option maxHeartbeats 4000000
namespace Pu
open L2 PySem PySem.Spec PyProof.Rows E10
section
variable {X : Cx} {Wx : WX} {a b e tg : Expr} {es : List Expr} {F F1 F2 : EF} {A : AF} {pos p : Pos}
abbrev gIn (neg : Bool) := f2or (fIn neg) (fDIn neg)
theorem pp_in (hu : X.A.units + 1 < cLine) (ha : PP X Wx a F1) (hb : PP X Wx b F2) (hm : behindInMarks .In b = false := by rfl) : PP X Wx (.Compare a [.In] [b] pos) (fOp (gIn false) F1 F2) := pp_cmp (op_in_seq.or (op_dinR hu)) (ad_in.or ad_dinR) ha hb hm
/-- a[b] -/
abbrev gIx := f2or fIxL (f2or fIxT (f2or fIxS fDGet))
theorem pe_or {t t' : TE} (h : PE X e t) (h' : PE X e t') : PE X e (fun σ H Q => t σ H Q ∨ t' σ H Q) := ⟨fun pins s σ H Q I z => z.elim (h.run pins s σ H Q I) (h'.run pins s σ H Q I)⟩
theorem pp_alt (h : PP X Wx e F1) (h' : PP X Wx e F2) : PP X Wx e (fun γ μ => (F1 γ μ).or (F2 γ μ)) := let ⟨_, p, a⟩ := h; let ⟨_, p', a'⟩ := h'; ⟨_, pe_or p p', fun D as γ μ σ H Q k ev g => (G.or g).elim (fun z => .inl (a D as γ μ σ H Q k ev z)) fun z => .inr (a' D as γ μ σ H Q k ev z)⟩
theorem pp_eqF (h : PP X Wx e F1) (q : F2 = F1) : PP X Wx e F2 := q ▸ h
theorem ad_ixOr : AdR2 Wx (fun x y H Q => rIxL X.K x y H Q ∨ rIxT X.K x y H Q ∨ rIxS x y H Q) (f2or fIxL (f2or fIxT fIxS)) := ad_ixL.or (ad_ixT.or ad_ixS)
theorem bind_or {α β : Type} (o : O α) (f g : α → Μ → O β) : (o.bind f).or (o.bind g) = o.bind fun a m => (f a m).or (g a m) := by
  cases o <;> rfl
theorem fOp_or (f g : W → W → Μ → O W) (A B : EF) : fOp (f2or f g) A B = fun γ μ => (fOp f A B γ μ).or (fOp g A B γ μ) := by
  funext γ μ
  unfold fOp f2or
  rw [bind_or]
  congr 1
  funext x m
  rw [bind_or]
theorem O.or_assoc {α : Type} (a b c : O α) : (a.or b).or c = a.or (b.or c) := by cases a <;> rfl
theorem pp_idx (hu : X.A.units + 1 < cLine) (ha : PP X Wx a F1) (hb : PP X Wx b F2) (hs : PlainIx b := by exact fun _ _ => rfl) (hs2 : NoSl b := by exact fun _ _ => rfl) : PP X Wx (.Subscript a b pos) (fOp gIx F1 F2) := by
  have h1 : PP X Wx (.Subscript a b pos) (fOp (f2or fIxL (f2or fIxT fIxS)) F1 F2) := pp_ix (ix_list.or (ix_tup.or ix_str)) ad_ixOr ha hb hs
  have h2 : PP X Wx (.Subscript a b pos) (fOp fDGet F1 F2) := pp_dget hu ha hb hs2
  refine pp_eqF (pp_alt h1 h2) ?_
  funext γ μ
  rw [← congrFun (congrFun (fOp_or (f2or fIxL (f2or fIxT fIxS)) fDGet F1 F2) γ) μ]
  congr 1
  funext x y m
  show ((fIxL x y m).or ((fIxT x y m).or ((fIxS x y m).or (fDGet x y m)))) = ((fIxL x y m).or ((fIxT x y m).or (fIxS x y m))).or (fDGet x y m)
  rw [O.or_assoc, O.or_assoc]
/-- len -/
abbrev gLen := fcor fLenS (fcor fLenL fLenD)
theorem pp_len {x : Str} (hg : Gl X x) (hm : X.mg x = none) (hv : bootBuiltins x = some (.builtin "len")) (ha : PPA X Wx (e :: es) A) (hn : x ≠ "__name__" := by decide) (hdb : (x == ("__debug__" : Str)) = false := by decide)
    (he : starEach (e :: es) X.env = (false, eval e X.env) :: starEach es X.env := by rfl) (hpl : (backTo pos (starEach es X.env)).any (·.1) = false := by rfl) : PP X Wx (.Call (.Name x p) (e :: es) [] pos) (fCall gLen A) :=
  pp_callB (call_len_str.or (call_len_seq.or call_lenDr)) hg hm hv (ad_lenS.or (ad_lenL.or ad_lenD)) ha hn hdb he hpl
/-- what is walked -/
def iAnyW : W → Μ → O (List P) := fun w m => match w with
  | .v (.lst ps) => few ps m
  | .v (.tup ps) => few ps m
  | .v (.str z) => few (chrP z) m
  | .v (.dct kvs) => few (kvs.map fun kp => keyOf kp.1) m
  | .loc j => match m[j]? with
    | some (.lstL ps) => few ps m
    | some (.dctL kvs) => few (kvs.map fun kp => keyOf kp.1) m
    | _ => .bad
  | _ => .bad
def iAny (F : EF) : IF := fun γ μ => (F γ μ).bind iAnyW
theorem ppi_any (h : PP X Wx e F) : PPI X Wx tg e (iAny F) := by
  obtain ⟨te, p, ad⟩ := h
  refine ⟨fun σ H R => iList X.K te σ H R ∨ iTup X.K te σ H R ∨ iStr te σ H R ∨ iKeys (tFrz te) σ H R, ⟨fun pins s σ H R I h => ?_⟩, fun D as γ μ σ H R k ev g => ?_⟩
  · rcases h with h | h | h | h
    · exact (pi_list p).run pins s σ H R I h
    · exact (pi_tup p).run pins s σ H R I h
    · exact (pi_str p).run pins s σ H R I h
    · exact (pi_keys (pe_frz p)).run pins s σ H R I h
  · unfold iAny at g
    cases o : F γ μ with
    | bad => rw [o] at g; exact g.elim
    | exc C fs m => refine .inl (ad_iList ad D as γ μ σ H R k ev ?_); unfold iLst; rw [o] at g ⊢; exact g
    | ok w m =>
      rw [o] at g
      simp only [O.bind_ok] at g
      unfold iAnyW at g
      split at g
      · exact .inl (ad_iList ad D as γ μ σ H R k ev (by unfold iLst; rw [o]; exact g))
      · exact .inr (.inl (ad_iTup ad D as γ μ σ H R k ev (by unfold iTupP; rw [o]; exact g)))
      · exact .inr (.inr (.inl (ad_iStr ad D as γ μ σ H R k ev (by unfold iStrP; rw [o]; exact g))))
      · exact .inr (.inr (.inr (ad_iKeys ad D as γ μ σ H R k ev (by unfold iKeysP iDct; rw [o]; exact g))))
      · split at g
        · rename_i j ps q
          refine .inl (ad_iLstW ad D as γ μ σ H R k ev ?_)
          unfold iLstW
          rw [o]
          simp only [O.bind_ok, wkL, q]
          exact g
        · rename_i j ps q
          refine .inr (.inr (.inr (ad_iKeys ad D as γ μ σ H R k ev ?_)))
          unfold iKeysP iDct
          rw [o]
          simp only [O.bind_ok, dctB, q]
          exact g
        · exact g.elim
      · exact g.elim
/-- slices -/
abbrev gSl : W → Option Int → Option Int → Μ → O W := fun w lo hi μ => (fSlL w lo hi μ).or (fSlS w lo hi μ)
/-- dict, list, tuple, sorted, min, max, int -/
abbrev gDict (c : Kind) := fcor (fDictD c) (fDictP c)
abbrev gList (c : Kind) := fcor (fListL c) (fListD c)
abbrev gTupB := fcor fTupL fTupD
abbrev gMin := fcor fMin2 fMinL
abbrev gMax := fcor fMax2 fMaxL
section
variable {x : Str}
theorem b_dict : bootBuiltins "dict" = some (.type "dict") := by decide +kernel
theorem b_list : bootBuiltins "list" = some (.type "list") := by decide +kernel
theorem b_tuple : bootBuiltins "tuple" = some (.type "tuple") := by decide +kernel
theorem b_int : bootBuiltins "int" = some (.type "int") := by decide +kernel
theorem b_str : bootBuiltins "str" = some (.type "str") := by decide +kernel
theorem b_bool : bootBuiltins "bool" = some (.type "bool") := by decide +kernel
theorem b_sorted : bootBuiltins "sorted" = some (.builtin "sorted") := by decide +kernel
theorem b_min : bootBuiltins "min" = some (.builtin "min") := by decide +kernel
theorem b_max : bootBuiltins "max" = some (.builtin "max") := by decide +kernel
theorem b_abs : bootBuiltins "abs" = some (.builtin "abs") := by decide +kernel
theorem b_len : bootBuiltins "len" = some (.builtin "len") := by decide +kernel
theorem b_all : bootBuiltins "all" = some (.builtin "all") := by decide +kernel
theorem b_any : bootBuiltins "any" = some (.builtin "any") := by decide +kernel
theorem b_divmod : bootBuiltins "divmod" = some (.builtin "divmod") := by decide +kernel
theorem b_isi : bootBuiltins "isinstance" = some (.builtin "isinstance") := by decide +kernel
theorem b_set : bootBuiltins "set" = some (.type "set") := by decide +kernel
end
end
end Pu
set_option Elab.async false
set_option linter.all false
set_option maxRecDepth 100000
set_option maxHeartbeats 4000000
/-! ### sets of texts: filled from a dict, joined -/
namespace E10
open L2 PySem PySem.Spec PyProof.Rows
theorem SetT.perm {P : Program} {w : World} {h : Heap} {a : Addr} {zs ys : List Str} (R : SetT P w h a zs) (pm : zs.Perm ys) : SetT P w h a ys := by
  obtain ⟨o, es, ep, t, h1, h2, h3, D⟩ := R
  exact ⟨o, es, ep, t, h1, h2, h3, D.good, D.perm.trans pm, pm.nodup_iff.mp D.nd, pm.length_eq ▸ D.few, D.fits, D.ris, D.led⟩
theorem SetT.nodup {P : Program} {w : World} {h : Heap} {a : Addr} {zs : List Str} (R : SetT P w h a zs) : zs.Nodup := by
  obtain ⟨o, es, ep, t, h1, h2, h3, D⟩ := R
  exact D.nd
theorem insAll_perm {acc xs ys : List Str} (nd : acc.Nodup) (pm : xs.Perm ys) : (insAll acc xs).Perm (insAll acc ys) :=
  (List.perm_ext_iff_of_nodup (insAll_nd nd) (insAll_nd nd)).mpr fun z => by rw [insAll_mem, insAll_mem, pm.mem_iff]
section
variable {P : Program} {w : World} {A : Around} {E : Value → Shared → Prop} {s : Shared} {r o : Addr} {zs ys : List Str}
theorem quietS : ∀ (l : List Addr) (s : Shared) (Q : Bool → Shared → Prop), (∀ a ∈ l, ∃ zs, SetT P w s.heap a zs) → Q true s → wpAny (model P w) A (setsQuiet l) Q E s := by
  intro l s Q h q
  unfold setsQuiet
  refine wpAny_bind (wpAny_forIn_list _ (fun rest b s' => s' = s ∧ b = (none, PUnit.unit) ∧ ∀ a ∈ rest, ∃ zs, SetT P w s.heap a zs) _ ?_ ?_ l _ ⟨rfl, rfl, h⟩)
  · rintro a rest b s' ⟨rfl, rfl, hr⟩
    obtain ⟨zs, o, es, ep, t, ho, _, hd, D⟩ := hr a List.mem_cons_self
    refine wpAny_bind (wpAny_setEntries_of ho hd D.fits ?_)
    rw [← Array.forIn_toList]
    refine wpAny_bind (wpAny_mono (wpAny_forIn_list _ (fun rest b s2 => s2 = s' ∧ b = (none, PUnit.unit) ∧ ∀ e ∈ rest, GoodT P w e) (fun b s2 => s2 = s' ∧ b = (none, PUnit.unit)) ?_ ?_ _ _ ⟨rfl, rfl, D.good⟩) (fun b s2 ⟨e1, e2⟩ => ?_) fun _ _ h => h)
    · rintro e rest2 b s2 ⟨rfl, rfl, hg⟩
      obtain ⟨z, tk, e2, _⟩ := hg e List.mem_cons_self
      obtain ⟨e1, e3⟩ := e
      cases (show e3 = _ from e2)
      exact wpAny_pure ⟨rfl, rfl, fun x m => hg x (List.mem_cons_of_mem _ m)⟩
    · rintro b s2 ⟨rfl, rfl, _⟩
      exact ⟨rfl, rfl⟩
    · subst e1
      subst e2
      exact wpAny_pure ⟨rfl, rfl, fun x m => hr x (List.mem_cons_of_mem _ m)⟩
  · rintro b s' ⟨rfl, rfl, _⟩
    exact wpAny_pure q
theorem walkU {Q : Array (Int × Value) → Shared → Prop} {oo : Obj} {eo : Array (Int × Value)} {epo : Nat} {to : SetTable} (ho : s.heap.get? o = some oo) (hx : oo.ExactSet) (hdo : oo.data = .set eo epo to) (O : SetD P w eo to ys) (R : SetT P w s.heap r zs)
    (hQ : ∀ (es : Array (Int × Value)) (h' : Heap) (d : _), es.toList.Perm eo.toList → Heap.SameBut r s.heap h' → SetT P w h' r zs → Q es { s with heap := h', drawn := d }) : wpAny (model P w) A (setWalkUnseen o [r] (some r)) Q E s := by
  have walk : wpAny (model P w) A (setWalk o) Q E s := by
    unfold setWalk
    refine wpAny_bind (wpAny_setState_of ho hdo O.fits ?_)
    dsimp only
    refine wpAny_bind (wpAny_byText ?_)
    cases bt : w.params.followText "set-order" with
    | true =>
      simp only [↓reduceIte]
      refine wpAny_bind (wpAny_askSetting ?_)
      exact wpAny_pure (hQ _ s.heap s.drawn (pick_perm _ _) (Heap.SameBut.refl _ _) R)
    | false =>
      simp only [Bool.false_eq_true, ↓reduceIte]
      split
      · refine wpAny_bind (drawOrder_at _ _ _ _ (by rw [Array.length_toList]; exact Nat.le_refl _) fun us d pm => ?_)
        exact wpAny_pure (hQ _ s.heap d (by simpa using pm) (Heap.SameBut.refl _ _) R)
      · have led : to.led = true := O.led.elim (fun z => by rw [bt] at z; cases z) id
        refine wpAny_bind (m := (do if (!to.led && decide (eo.size > 1)) = true then unsupported "set:maker-not-led" : Sem Unit)) ?_
        simp only [led, Bool.not_true, Bool.false_and, Bool.false_eq_true, ↓reduceIte]
        exact wpAny_pure (wpAny_pure (hQ _ s.heap s.drawn (List.Perm.refl _) (Heap.SameBut.refl _ _) R))
  unfold setWalkUnseen
  refine wpAny_bind (wpAny_setState_of ho hdo O.fits ?_)
  dsimp only
  refine wpAny_bind (wpAny_byText ?_)
  split
  · exact walk
  · rename_i nb
    refine wpAny_bind (quietS _ _ _ (fun a m => ?_) ?_)
    · rcases List.mem_cons.mp m with rfl | m
      · exact ⟨ys, _, _, _, _, ho, hx, hdo, O⟩
      · cases List.mem_singleton.mp m
        exact ⟨zs, R⟩
    · simp only [Bool.not_true, Bool.false_eq_true, ↓reduceIte]
      refine wpAny_bind (wpAny_rule ?_)
      obtain ⟨oR, er, epr, tr, hor, hexr, hdr, DR⟩ := id R
      refine wpAny_bind (wpAny_setState_of hor hdr DR.fits ?_)
      dsimp only
      split
      · refine wpAny_bind (wpAny_storeSet_of hor hdr ?_ (fits_of_scanBound (by rw [DR.size]; exact DR.few)))
        refine wpAny_pure (hQ _ _ s.drawn (List.Perm.refl _) (Heap.SameBut.update _ r _) ⟨_, er, _, _, put_at hor hdr, hexr, rfl, DR.good, DR.perm, DR.nd, DR.few, ?_, DR.ris, ?_⟩)
        · exact DR.fits
        · rw [Bool.or_eq_true, Bool.or_eq_true, not_or, not_or] at nb
          exact .inr (Bool.and_eq_true_iff.mpr ⟨DR.led.elim (fun z => absurd z nb.1.1) id, O.led.elim (fun z => absurd z nb.1.1) id⟩)
      · exact wpAny_pure (hQ _ s.heap s.drawn (List.Perm.refl _) (Heap.SameBut.refl _ _) R)
/-- entries, one by one -/
theorem putAll (step : (Int × Value) → Sem (ForInStep PUnit))
    (hstep : ∀ (e : Int × Value) (acc : List Str) (s1 : Shared) (R1 : Shared → Prop), GoodT P w e → Heap.SameBut r s.heap s1.heap → SetT P w s1.heap r acc → acc.length + 1 < scanBound → (∀ s2, Heap.SameBut r s.heap s2.heap → s2.gens = s1.gens → s2.drawn = s1.drawn → s2.toks = s1.toks → s2.os = s1.os → SetT P w s2.heap r (insT acc (txtOf e)) → R1 s2) →
      wpAny (model P w) A (step e) (fun q s2 => q = .yield PUnit.unit ∧ R1 s2) E s1) :
    ∀ (l : List (Int × Value)) (acc : List Str) (s1 : Shared) (R1 : Unit → Shared → Prop), (∀ e ∈ l, GoodT P w e) → Heap.SameBut r s.heap s1.heap → SetT P w s1.heap r acc → acc.length + l.length + 1 < scanBound →
      (∀ s2, Heap.SameBut r s.heap s2.heap → s2.gens = s1.gens → s2.drawn = s1.drawn → s2.toks = s1.toks → s2.os = s1.os → SetT P w s2.heap r (insAll acc (l.map txtOf)) → R1 () s2) →
      wpAny (model P w) A (forIn l PUnit.unit fun e _ => step e) (fun _ s2 => R1 () s2) E s1 := by
  intro l
  induction l with
  | nil =>
    intro acc s1 R1 hg sb hS room h
    exact wpAny_pure (h s1 sb rfl rfl rfl rfl hS)
  | cons e l ih =>
    intro acc s1 R1 hg sb hS room h
    rw [List.forIn_cons]
    rw [List.length_cons] at room
    refine wpAny_bind (wpAny_mono (hstep e acc s1 (fun s2 => wpAny (model P w) A (forIn l PUnit.unit fun e _ => step e) (fun _ s2 => R1 () s2) E s2) (hg e List.mem_cons_self) sb hS (by omega) fun s2 sb2 g2 d2 t2 o2 hS2 => ?_) (fun q s2 ⟨e1, z⟩ => ?_) fun _ _ h => h)
    · have := insT_len acc (txtOf e)
      exact ih _ _ _ (fun x m => hg x (List.mem_cons_of_mem _ m)) sb2 hS2 (by omega) fun s3 a b c d f g => h s3 a (b.trans g2) (c.trans d2) (d.trans t2) (f.trans o2) g
    · subst e1
      exact z
theorem addE {e : Int × Value} {acc : List Str} {s1 : Shared} {Q : Bool → Shared → Prop} (g : GoodT P w e) (R : SetT P w s1.heap r acc) (room : acc.length + 1 < scanBound)
    (hQ : ∀ h' b, Heap.SameBut r s1.heap h' → SetT P w h' r (insT acc (txtOf e)) → Q b { s1 with heap := h' }) : wpAny (model P w) A (holding [e.2] (setAddHashed r e.2 e.1)) Q E s1 := by
  obtain ⟨z, tk, e2, e1⟩ := g
  obtain ⟨h0, v0⟩ := e
  cases (show v0 = _ from e2)
  cases (show h0 = _ from e1)
  exact wpAny_holding (addT R room hQ)
/-- one by one into r, which is not empty -/
theorem joinT {each : Sem Unit} {Q : Unit → Shared → Prop} (R : SetT P w s.heap r zs) (O : SetT P w s.heap o ys) (ne : r ≠ o) (n0 : zs ≠ []) (few : (zs.length + ys.length) * 2 < 64)
    (hE : ∀ (s' : Shared) (R' : Unit → Shared → Prop), Heap.SameBut r s.heap s'.heap → R' () s' → wpAny (model P w) A each R' E s')
    (hQ : ∀ h' d, Heap.SameBut r s.heap h' → SetT P w h' r (insAll zs ys) → Q () { s with heap := h', drawn := d }) : wpAny (model P w) A (setMerge r o each) Q E s := by
  obtain ⟨oo, eo, epo, to, ho, hexo, hdo, D⟩ := id O
  unfold setMerge
  rw [show (r == o) = false from beq_eq_false_iff_ne.mpr ne]
  simp only [Bool.false_eq_true, ↓reduceIte]
  refine wpAny_bind (wpAny_setState_of ho hdo D.fits ?_)
  dsimp only
  by_cases em : eo.isEmpty = true
  · rw [if_pos em]
    have z : ys = [] := by
      have q := D.size
      rw [Array.isEmpty_iff_size_eq_zero.mp em] at q
      exact List.eq_nil_of_length_eq_zero q.symm
    subst z
    exact wpAny_pure (hQ _ s.drawn (Heap.SameBut.refl r s.heap) R)
  · rw [if_neg em]
    refine wpAny_bind (roomT (more := eo.size) R (by rw [D.size]; exact few) fun h1 sb1 R1 => ?_)
    obtain ⟨o1, es1, ep1, t1, ho1, hex1, hd1, D1⟩ := id R1
    refine wpAny_bind (wpAny_setState_of (s := { s with heap := h1 }) ho1 hd1 D1.fits ?_)
    dsimp only
    have fl : (t1.fill != 0) = true := by
      have q := D1.fits
      unfold SetTable.fits at q
      rw [Bool.and_eq_true] at q
      have q1 : t1.place.size = es1.size := eq_of_beq q.1
      unfold SetTable.fill
      rw [q1, D1.size]
      have e2 : zs.length ≠ 0 := fun e => n0 (List.eq_nil_of_length_eq_zero e)
      exact bne_iff_ne.mpr (by omega)
    unfold SetTable.road
    rw [fl]
    simp only [↓reduceIte]
    have ho2 : h1.get? o = some oo := (sb1.2 o (fun e => ne e.symm)).trans ho
    refine wpAny_bind (walkU (s := { s with heap := h1 }) ho2 hexo hdo D R1 fun es h2 d pm sb2 R2 => ?_)
    rw [← Array.forIn_toList]
    have sb12 := sb1.trans sb2
    refine wpAny_bind (wpAny_mono (putAll (s := s) (r := r) _ ?_ es.toList zs { s with heap := h2, drawn := d } (fun u s' => Q u s') (fun e m => D.good e (pm.mem_iff.mp m)) sb12 R2 ?_ fun s2 sb g1 d1 t1 o1 hS => ?_) (fun _ _ h => wpAny_pure h) fun _ _ h => h)
    · intro e acc s1 R1' g sb3 hS room hR
      refine wpAny_bind (addE g hS room fun h' b sb4 hS4 => ?_)
      refine wpAny_bind (hE _ _ (sb3.trans sb4) ?_)
      have ho4 : h'.get? o = some oo := ((sb3.trans sb4).2 o (fun e => ne e.symm)).trans ho
      refine wpAny_bind (wpAny_setState_of (s := { s1 with heap := h' }) ho4 hdo D.fits ?_)
      dsimp only
      rw [bne_self_eq_false]
      simp only [Bool.false_eq_true, ↓reduceIte]
      exact wpAny_pure ⟨rfl, hR _ (sb3.trans sb4) rfl rfl rfl rfl hS4⟩
    · have e1 := pm.length_eq
      have e2 : eo.toList.length = ys.length := by rw [Array.length_toList, D.size]
      have : scanBound = 4096 := by rfl
      omega
    · obtain ⟨h3, g3, d3, t3, o3⟩ := s2
      cases (show g3 = _ from g1)
      cases (show d3 = _ from d1)
      cases (show t3 = _ from t1)
      cases (show o3 = _ from o1)
      exact hQ h3 d sb (hS.perm (insAll_perm R.nodup ((pm.map txtOf).trans D.perm)))
theorem isStr_key {x : Str} {v : Value} (h : (mixKind P w).is (Sum.inr x) v = true) : ∃ tk, v = .str x tk := by
  rcases keyIs_shape (k := Sum.inr x) (v := v) h with ⟨i, t, q, _⟩ | ⟨y, t, q, e⟩
  · cases q
  · cases q
    exact ⟨t, e⟩
theorem pairs_txt {es : List DictEntry} {kvs : List (Key × Value)} (p : Pairs (mixKind P w) es kvs) : ∀ {xs : List Str}, kvs.map (·.1) = xs.map Sum.inr → es.length = xs.length ∧ ∀ (i : Nat) (e : DictEntry), es[i]? = some e → ∃ z tk, xs[i]? = some z ∧ e.key = Value.str z tk := by
  induction p with
  | nil =>
    intro xs e
    cases xs with
    | nil => exact ⟨rfl, fun i e h => by cases h⟩
    | cons x xs => cases e
  | cons hk hv t ih =>
    intro xs e
    cases xs with
    | nil => cases e
    | cons x xs =>
      simp only [List.map_cons, List.cons.injEq] at e
      obtain ⟨l, f⟩ := ih e.2
      refine ⟨by rw [List.length_cons, List.length_cons, l], fun i en h => ?_⟩
      cases i with
      | zero =>
        cases h
        rw [e.1] at hk
        obtain ⟨tk, q⟩ := isStr_key hk
        exact ⟨x, tk, rfl, q⟩
      | succ i => exact f i en h
/-- set(v) of a dict with texts for keys -/
theorem fill_dict {d : Addr} {kvs : List (Key × Value)} {xs : List Str} (hsm : (d == sysModules) = false) (hd : s.heap.DictOf (mixKind P w) d kvs) (ek : kvs.map (·.1) = xs.map Sum.inr) (few : xs.length * 2 < 64) (B : Around) (G : Value → Shared → Prop) (R : Unit → Shared → Prop)
    (h : ∀ (h' : Heap) (tk : Nat), SetT P w h' s.heap.objs.size (insAll [] xs) → (∀ b o, s.heap.get? b = some o → h'.get? b = some o) → R () { s with heap := h', toks := tk }) :
    wpAny (model P w) B (Builtin.Frozenset.updateFrom "set.__init__" s.heap.objs.size (.ref d)) R G { s with heap := s.heap.push (newSetO w) } := by
  obtain ⟨o, es, ep, ho, hx, hdt, kso, prs, nd⟩ := hd
  have lt : d < s.heap.objs.size := Heap.lt_size ho
  have ne : d ≠ s.heap.objs.size := Nat.ne_of_lt lt
  have ho1 : (s.heap.push (newSetO w)).get? d = some o := Heap.get?_push_of_some _ ho
  have hT : Shared.TypeIs { s with heap := s.heap.push (newSetO w) } (.ref d) "dict" := ⟨o, ho1, hx.1⟩
  have S0 : SetT P w (s.heap.push (newSetO w)) s.heap.objs.size [] := setT_new (Heap.get?_push_size _ rfl)
  unfold Builtin.Frozenset.updateFrom
  refine wpAny_bind (?_ : wpAny _ _ (Builtin.Frozenset.isAnySet (.ref d)) _ _ _)
  unfold Builtin.Frozenset.isAnySet orM
  refine wpAny_bind (wpAny_isInstance hT PySem.F.sub_dict_set ?_)
  show wpAny _ _ (isInstance (.ref d) (.type "frozenset")) _ _ _
  refine wpAny_isInstance hT PySem.F.sub_dict_frozenset ?_
  simp only [Bool.false_eq_true, ↓reduceIte]
  refine wpAny_bind (wpAny_typeOf hT ?_)
  rw [if_pos (by decide)]
  refine wpAny_bind (wpAny_rule ?_)
  refine wpAny_bind (wpAny_pure ?_)
  rw [hsm]
  simp only [Bool.false_eq_true, ↓reduceIte]
  refine wpAny_bind (wpAny_dictEpoch (s := { s with heap := s.heap.push (newSetO w) }) ho1 hdt ?_)
  refine wpAny_bind (wpAny_dictEntries (s := { s with heap := s.heap.push (newSetO w) }) ho1 hdt ?_)
  obtain ⟨ln, at_⟩ := pairs_txt prs ek
  rw [Array.length_toList] at ln
  refine wpAny_bind (roomT (s := { s with heap := s.heap.push (newSetO w) }) (more := es.size) S0 (by rw [ln]; simpa using few) fun h1 sb1 R1 => ?_)
  have ho2 : h1.get? d = some o := (sb1.2 d ne).trans ho1
  refine wpAny_bind (wpAny_dictEntries (s := { s with heap := h1 }) ho2 hdt ?_)
  refine wpAny_bind (TI.forIn_rng _ (fun rest b s' => ∃ h' i, s' = { s with heap := h' } ∧ rest = List.range' i (es.size - i) ∧ i ≤ es.size ∧ Heap.SameBut s.heap.objs.size (s.heap.push (newSetO w)) h' ∧ SetT P w h' s.heap.objs.size (insAll [] (xs.take i))) _ ?_ ?_ _ ⟨h1, 0, rfl, by simp [List.range'_eq_map_range], Nat.zero_le _, sb1, R1⟩)
  · rintro y rest b s' ⟨h', i, rfl, hr, hi, sb, hS⟩
    have hlt : i < es.size := by
      by_cases c : i < es.size
      · exact c
      · rw [Nat.sub_eq_zero_of_le (Nat.not_lt.mp c)] at hr
        cases hr
    obtain ⟨rfl, hrest⟩ : y = i ∧ rest = List.range' (i + 1) (es.size - (i + 1)) := by
      have e : es.size - i = (es.size - (i + 1)) + 1 := by omega
      rw [e, List.range'_succ] at hr
      injection hr with h1 h2
      exact ⟨h1, h2⟩
    have ho3 : h'.get? d = some o := (sb.2 d ne).trans ho1
    refine wpAny_bind (wpAny_dictEntries (s := { s with heap := h' }) ho3 hdt ?_)
    have ge : es[y]? = some es[y] := Array.getElem?_eq_getElem hlt
    rw [ge]
    dsimp only
    obtain ⟨z, tk, hz, ekey⟩ := at_ y es[y] (by rw [Array.getElem?_toList]; exact ge)
    have eh : es[y].hash = (PySem.strKind P w).hash z := by
      obtain ⟨k, q1, q2⟩ := kso es[y] (Array.getElem_mem hlt)
      rw [ekey] at q1
      cases k with
      | inl n => cases q1
      | inr x =>
        obtain ⟨t2, q3⟩ := isStr_key q1
        cases q3
        exact q2
    rw [ekey, eh]
    have l2 : (xs.take y).length ≤ xs.length := by rw [List.length_take]; exact Nat.min_le_right _ _
    have l1 := insAll_len [] (xs.take y)
    have sbd : scanBound = 4096 := rfl
    rw [List.length_nil] at l1
    refine wpAny_bind (wpAny_holding (addT (s := { s with heap := h' }) hS (by omega) fun h2 b2 sb2 hS2 => ?_))
    have ho4 : h2.get? d = some o := (sb2.2 d ne).trans ho3
    refine wpAny_bind (wpAny_dictEpoch (s := { s with heap := h2 }) ho4 hdt ?_)
    rw [bne_self_eq_false]
    simp only [Bool.false_eq_true, ↓reduceIte]
    refine wpAny_pure ⟨h2, y + 1, rfl, hrest, hlt, sb.trans sb2, ?_⟩
    rw [List.take_add_one, hz]
    show SetT P w h2 s.heap.objs.size (insAll [] (xs.take y ++ [z]))
    rw [insAll_snoc]
    exact hS2
  · rintro b s' ⟨h', i, rfl, hr, hi, sb, hS⟩
    have hn : es.size ≤ i := by
      by_cases c : i < es.size
      · have e : es.size - i = (es.size - (i + 1)) + 1 := by omega
        rw [e, List.range'_succ] at hr
        cases hr
      · exact Nat.not_lt.mp c
    rw [List.take_of_length_le (by omega)] at hS
    refine wpAny_pure (h h' s.toks hS fun b o e => (sb.2 b (Nat.ne_of_lt (Heap.lt_size e))).trans (Heap.get?_push_of_some _ e))
end
end E10
set_option Elab.async false
set_option linter.all false
set_option maxRecDepth 100000
set_option maxHeartbeats 4000000
namespace E10
open L2 PySem PySem.Spec PyProof.Rows
theorem entry_set_or : entryFor table "set.__or__" = some Builtin.«frozenset.__or__» :=
  entryFor_alias (id' := "frozenset.__or__") (by kernel_rfl) rfl (by decide +kernel) (by kernel_rfl)
section
variable {P : Program} {w : World} {A : Around} {E : Value → Shared → Prop} {s : Shared} {a b : Addr} {zs ys : List Str}
theorem isAny {Q : Bool → Shared → Prop} (R : SetT P w s.heap a zs) (h : Q true s) : wpAny (model P w) A (Builtin.Frozenset.isAnySet (.ref a)) Q E s := by
  obtain ⟨o, es, ep, t, ho, hx, hd, D⟩ := R
  have hT : s.TypeIs (.ref a) "set" := ⟨o, ho, hx.1⟩
  unfold Builtin.Frozenset.isAnySet orM
  refine wpAny_bind (wpAny_isInstance hT PySem.F.sub_set_set ?_)
  exact wpAny_pure h
theorem copyOfT {Q : Value → Shared → Prop} (R : SetT P w s.heap a zs) (few : zs.length * 2 < 64) (hQ : ∀ h', SetT P w h' s.heap.objs.size zs → (∀ b o, s.heap.get? b = some o → h'.get? b = some o) → Q (.ref s.heap.objs.size) { s with heap := h' }) :
    wpAny (model P w) A (Builtin.Frozenset.copyOf a) Q E s := by
  obtain ⟨o, es, ep, t, ho, hx, hd, D⟩ := id R
  have hT : s.TypeIs (.ref a) "set" := ⟨o, ho, hx.1⟩
  unfold Builtin.Frozenset.copyOf Builtin.Frozenset.baseOf
  refine wpAny_bind (wpAny_bind (wpAny_isInstance hT PySem.F.sub_set_set ?_))
  simp only [↓reduceIte]
  refine wpAny_pure ?_
  unfold newSet
  refine wpAny_bind (wpAny_bind (wpAny_byText ?_))
  dsimp only
  simp only [newObj]
  refine wpAny_bind (wpAny_alloc (wpAny_pure ?_))
  show wpAny _ _ (Builtin.Frozenset.addrOf _ >>= _) _ _ _
  refine wpAny_bind (wpAny_pure ?_)
  have hr : (s.heap.push (newSetO w)).get? s.heap.objs.size = some (newSetO w) := Heap.get?_push_size _ rfl
  have lt : a < s.heap.objs.size := Heap.lt_size ho
  refine wpAny_bind (copyT (s := { s with heap := s.heap.push (newSetO w) }) hr (R.keep fun o e => Heap.get?_push_of_some _ e) (Ne.symm (Nat.ne_of_lt lt)) few fun h' sb R2 => ?_)
  exact wpAny_pure (hQ h' R2 fun b o e => (sb.2 b (Nat.ne_of_lt (Heap.lt_size e))).trans (Heap.get?_push_of_some _ e))
theorem unionT {Q : Value → Shared → Prop} (R : SetT P w s.heap a zs) (O : SetT P w s.heap b ys) (n0 : zs ≠ []) (few : (zs.length + ys.length) * 2 < 64)
    (hQ : ∀ h' d, SetT P w h' s.heap.objs.size (insAll zs ys) → (∀ b o, s.heap.get? b = some o → h'.get? b = some o) → Q (.ref s.heap.objs.size) { s with heap := h', drawn := d }) :
    wpAny (model P w) A (binaryOp .BitOr (.ref a) (.ref b)) Q E s := by
  obtain ⟨o, es, ep, t, ho, hx, hd, D⟩ := id R
  obtain ⟨ob, esb, epb, tb, hob, hxb, hdb, Db⟩ := id O
  have hT : s.TypeIs (.ref a) "set" := ⟨o, ho, hx.1⟩
  have hTb : s.TypeIs (.ref b) "set" := ⟨ob, hob, hxb.1⟩
  simp only [binaryOp]
  try with_reducible refine wpAny_holding ?_
  show wpAny _ _ (binaryOp1 "or" (.ref a) (.ref b) >>= _) _ _ _
  refine wpAny_bind ?_
  unfold binaryOp1
  refine wpAny_bind (wpAny_typeOf hT (wpAny_bind (wpAny_typeOf hTb (wpAny_bind (wpAny_of_eq PySem.F.fills_set_or ?_)))))
  rw [show (Value.type "set" == Value.type "set") = true from by decide]
  simp only [if_true, pure_bind, Bool.and_false, Bool.false_and, Bool.false_eq_true, if_false]
  refine wpAny_bind (wpAny_tryMethod_slot hT PySem.F.slot_set_or (wpAny_call_entry PySem.F.slot_set_or hT entry_set_or ?_ (PySem.F.args_set_or_2 _ _)))
  show wpAny _ _ (Builtin.Frozenset.slot1 "__or__" ⟨[.ref a, .ref b], []⟩ >>= _) _ _ _
  unfold Builtin.Frozenset.slot1 slotArgs
  refine wpAny_bind (wpAny_bind (wpAny_pure (wpAny_pure ?_)))
  show wpAny _ _ (andM (Builtin.Frozenset.isAnySet (.ref a)) (Builtin.Frozenset.isAnySet (.ref b)) >>= _) _ _ _
  refine wpAny_bind ?_
  unfold andM
  refine wpAny_bind (isAny R ?_)
  simp only [↓reduceIte]
  refine isAny O ?_
  simp only [Bool.not_true, Bool.false_eq_true, ↓reduceIte]
  refine wpAny_bind (wpAny_pure ?_)
  refine wpAny_bind ?_
  show wpAny _ _ (Builtin.Frozenset.copyOf a >>= fun result => _) _ _ _
  refine wpAny_bind (copyOfT R (by omega) fun h1 R1 k1 => ?_)
  have fin : ∀ h' d, SetT P w h' s.heap.objs.size (insAll zs ys) → (∀ b o, s.heap.get? b = some o → h'.get? b = some o) → Q (Value.ref s.heap.objs.size) { s with heap := h', drawn := d } := hQ
  by_cases c : b = a
  · subst c
    rw [bne_self_eq_false]
    simp only [Bool.false_eq_true, ↓reduceIte]
    have pm : zs.Perm ys := by
      rw [ho] at hob
      cases hob
      rw [hd] at hdb
      cases hdb
      exact D.perm.symm.trans Db.perm
    have pm2 : zs.Perm (insAll zs ys) := (List.perm_ext_iff_of_nodup D.nd (insAll_nd D.nd)).mpr fun z => by rw [insAll_mem, pm.mem_iff]; exact ⟨.inl, fun h => h.elim id id⟩
    exact wpAny_pure (wpAny_pure ⟨_, rfl, (fun e => by cases e), wpAny_pure (wpAny_pure (fin h1 s.drawn (R1.perm pm2) k1))⟩)
  · have cb : (Value.ref b != Value.ref a) = true := bne_iff_ne.mpr fun e => c (by cases e; rfl)
    rw [cb]
    simp only [↓reduceIte]
    refine wpAny_bind (wpAny_pure ?_)
    refine wpAny_bind (wpAny_holding ?_)
    have O1 : SetT P w h1 b ys := O.keep fun o e => k1 b o e
    have nb : s.heap.objs.size ≠ b := Ne.symm (Nat.ne_of_lt (Heap.lt_size hob))
    unfold Builtin.Frozenset.updateFrom
    refine wpAny_bind (isAny (s := { s with heap := h1 }) O1 ?_)
    simp only [↓reduceIte]
    refine wpAny_bind (wpAny_pure ?_)
    unfold Builtin.Frozenset.merge
    have hob1 : h1.get? b = some ob := k1 b ob hob
    refine wpAny_bind (wpAny_setEpoch_of (s := { s with heap := h1 }) hob1 hdb Db.fits ?_)
    refine joinT (s := { s with heap := h1 }) R1 O1 nb n0 few (fun s' R' sb q => ?_) fun h' d sb R2 => ?_
    · unfold Builtin.Frozenset.unchanged
      refine wpAny_bind (wpAny_setEpoch_of ((sb.2 b (Ne.symm nb)).trans hob1) hdb Db.fits ?_)
      rw [bne_self_eq_false]
      simp only [Bool.false_eq_true, ↓reduceIte]
      exact wpAny_pure q
    · exact wpAny_pure (wpAny_pure ⟨_, rfl, (fun e => by cases e), wpAny_pure (wpAny_pure (fin h' d R2 fun x o e => (sb.2 x (Nat.ne_of_lt (Heap.lt_size e))).trans (k1 x o e)))⟩)
end
section
variable {X : Cx}
def rUnionT (P : Program) (w : World) : R2 := fun x y H Q => ∃ (a b : Addr) (zs ys : List Str), x = V.ref a ∧ y = V.ref b ∧ H a = some (SetTO P w a zs) ∧ H b = some (SetTO P w b ys) ∧ zs ≠ [] ∧ (zs.length + ys.length) * 2 < 64 ∧ ∀ p, H p = none → Q (.ref p) (upd H p (SetTO P w p (insAll zs ys)))
theorem op_unionT : OpR X (binaryOp .BitOr) (rUnionT X.prog X.w) := by
  intro pins s σ H x y v u Q I rx ry h
  obtain ⟨a, b, zs, ys, rfl, rfl, ha, hb, n0, few, q⟩ := h
  cases rx
  cases ry
  refine unionT (setT_at I ha) (setT_at I hb) n0 few fun h' d R k => ?_
  have hn : H s.heap.objs.size = none := I.hok.fresh (Nat.le_refl _)
  have J : Inv X pins σ (upd H s.heap.objs.size (SetTO X.prog X.w s.heap.objs.size (insAll zs ys))) { s with heap := h', gens := s.gens, drawn := d, toks := s.toks } :=
    I.call (ch := []) (Un.laid k (Nat.le_refl _) hn) (I.hok.laid k (Nat.le_refl _) (setT_ok R)) I.bare (fun _ z => nomatch z)
  exact ⟨.ref _, _, J, rfl, q _ hn⟩
/-- set(list), set(tuple), set(dict) of texts -/
def rSetOf (P : Program) (w : World) (K : PySem.W.Frag) : List V → Hp → VK → Prop := fun vs H Q => ∃ (a : Addr) (zs : List Str), vs = [V.ref a] ∧ ((SqL K H a (zs.map V.str) ∨ SqT K H a (zs.map V.str)) ∨ ∃ kvs : List (Key × V), Rd H a (.dK kvs) ∧ kvs.map (·.1) = zs.map Sum.inr) ∧ zs.length * 2 < 64 ∧ ∀ p, H p = none → Q (.ref p) (upd H p (SetTO P w p (insAll [] zs)))
theorem call_setOf (hc : X.calm = true) : CallR X (.type "set") (rSetOf X.prog X.w X.K) := by
  intro pins s σ H vs us Q I r h
  obtain ⟨a, zs, rfl, hs, few, q⟩ := h
  rw [Vals.ref1 r]
  have fin : ∀ (h' : Heap) (tk : Nat), SetT X.prog X.w h' s.heap.objs.size (insAll [] zs) → (∀ b o, s.heap.get? b = some o → h'.get? b = some o) → EP X pins σ Q (.ref s.heap.objs.size) { s with heap := h', toks := tk } := fun h' tk R k => by
    have hn : H s.heap.objs.size = none := I.hok.fresh (Nat.le_refl _)
    have J : Inv X pins σ (upd H s.heap.objs.size (SetTO X.prog X.w s.heap.objs.size (insAll [] zs))) { s with heap := h', gens := s.gens, drawn := s.drawn, toks := tk } :=
      I.call (ch := []) (Un.laid k (Nat.le_refl _) hn) (I.hok.laid k (Nat.le_refl _) (setT_ok R)) I.bare (fun _ z => nomatch z)
    exact ⟨.ref _, _, J, rfl, q _ hn⟩
  have sbd : scanBound = 4096 := rfl
  refine call_setG (I.ok.hd hc) (zs := insAll [] zs) (fun B F R hh k => ?_) fin
  rcases hs with (hq | hq) | ⟨kvs, e, ek⟩
  · obtain ⟨its, r, pl, hz⟩ := I.list hq
    exact fill_list pl.isList (by simpa using strsAre_of r) (by omega) B F R hh k
  · obtain ⟨its, r, pl, hz⟩ := I.tuple hq
    exact fill_tup pl (by simpa using strsAre_of r) (by omega) B F R hh k
  · obtain ⟨z, hsm, vs2, rel, dd⟩ := dk_rd I.hok e
    exact fill_dict hsm dd (rel.keys.symm.trans ek) few B F R k
end
end E10
set_option Elab.async false
set_option linter.all false
set_option maxRecDepth 100000
set_option maxHeartbeats 4000000
/-! ### sets of texts -/
namespace Pu
open L2 PySem PySem.Spec PyProof.Rows E10
abbrev SF' := Addr → List Str → HO
open Classical in
noncomputable def isS (S : SF') (w : W) : Option (List Str) := match w with
  | .v (.set f zs) => if f = S then some zs else none
  | _ => none
theorem isS_set (S : SF') (zs : List Str) : isS S (.v (.set S zs)) = some zs := by
  unfold isS
  exact if_pos rfl
theorem isS_ok {S : SF'} {w : W} {zs : List Str} (h : isS S w = some zs) : w = .v (.set S zs) := by
  unfold isS at h
  split at h
  · rename_i f ys
    by_cases c : f = S
    · rw [if_pos c] at h
      cases h
      rw [c]
    · rw [if_neg c] at h
      cases h
  · cases h
section
variable {X : Cx} {Wx : WX} {a b e : Expr} {es : List Expr} {F F1 F2 : EF} {A : AF} {pos p : Pos}
theorem newS {Pg : Program} {w : World} {D : Addr → Prop} {as : Ps} {H : Hp} {μ : Μ} {σ : L2.St} {Q : VK} {zs : List Str} (k : Sk D as H μ) (g : G Wx σ RepW D as H (.ok (.v (.set (SetTO Pg w) zs)) μ) Q) : ∀ p, H p = none → Q (.ref p) (upd H p (SetTO Pg w p zs)) := fun p np =>
  nowN k (new_same' np) g (.set (k.nd np) upd_same rfl)
def fSetL (S : SF') : List W → Μ → O W := fun ws μ => match ws with
  | [w] => match (rdL μ w).bind strsP with
    | some zs => if zs.length < 32 then .ok (.v (.set S (insAll [] zs))) μ else .bad
    | none => .bad
  | _ => .bad
def fSetD (S : SF') : List W → Μ → O W := fun ws μ => match ws with
  | [w] => match (rdD μ w).bind keysS with
    | some zs => if zs.length < 32 then .ok (.v (.set S (insAll [] zs))) μ else .bad
    | none => .bad
  | _ => .bad
def fSetT (S : SF') : List W → Μ → O W := fun ws μ => match ws with
  | [.v (.tup ps)] => match strsP ps with
    | some zs => if zs.length < 32 then .ok (.v (.set S (insAll [] zs))) μ else .bad
    | none => .bad
  | _ => .bad
variable {Pg : Program} {w : World} {K : PySem.W.Frag}
theorem ad_setL : AdC Wx (rSetOf Pg w K) (fSetL (SetTO Pg w)) := fun D as μ σ H vs ws Q k r g => by
  unfold fSetL at g
  split at g
  · split at g
    · rename_i zs e
      split at g
      · rename_i hl
        obtain ⟨ps, e1, e2⟩ := Option.bind_eq_some_iff.mp e
        obtain ⟨v, rfl, rv⟩ := repWs1 r
        obtain ⟨a, xs, rfl, hs, rs⟩ := rdL_ok k rv e1
        obtain rfl := strsP_ok rs e2
        exact ⟨a, zs, rfl, .inl (.inl (.inl hs)), by omega, newS k g⟩
      · exact g.elim
    · exact g.elim
  · exact g.elim
theorem ad_setD : AdC Wx (rSetOf Pg w K) (fSetD (SetTO Pg w)) := fun D as μ σ H vs ws Q k r g => by
  unfold fSetD at g
  split at g
  · split at g
    · rename_i zs e
      split at g
      · rename_i hl
        obtain ⟨ps, e1, e2⟩ := Option.bind_eq_some_iff.mp e
        obtain ⟨v, rfl, rv⟩ := repWs1 r
        obtain ⟨a, xs, rfl, hs, rs⟩ := rdD_ok k rv e1
        exact ⟨a, zs, rfl, .inr ⟨xs, hs, rs.keys.trans (keysS_ok e2)⟩, by omega, newS k g⟩
      · exact g.elim
    · exact g.elim
  · exact g.elim
theorem ad_setT : AdC Wx (rSetOf Pg w K) (fSetT (SetTO Pg w)) := fun D as μ σ H vs ws Q k r g => by
  unfold fSetT at g
  split at g
  · split at g
    · rename_i ps zs e
      split at g
      · rename_i hl
        obtain ⟨v, rfl, rv⟩ := repWs1 r
        cases rv with
        | tup n h rs =>
          obtain rfl := strsP_ok rs e
          exact ⟨_, zs, rfl, .inl (.inr (.inl h)), by omega, newS k g⟩
      · exact g.elim
    · exact g.elim
  · exact g.elim
noncomputable def fUnion (S : SF') : W → W → Μ → O W := fun x y μ => match isS S x, isS S y with
  | some zs, some ys => if zs ≠ [] ∧ zs.length + ys.length < 32 then .ok (.v (.set S (insAll zs ys))) μ else .bad
  | _, _ => .bad
theorem ad_union : AdR2 Wx (rUnionT Pg w) (fUnion (SetTO Pg w)) := fun D as μ σ H x y a b Q k ra rb g => by
  unfold fUnion at g
  split at g
  · rename_i zs ys e1 e2
    split at g
    · rename_i hl
      cases isS_ok e1
      cases isS_ok e2
      cases ra with
      | set n1 h1 s1 =>
        cases rb with
        | set n2 h2 s2 => exact ⟨_, _, zs, ys, rfl, rfl, h1, h2, hl.1, by omega, newS k g⟩
    · exact g.elim
  · exact g.elim
noncomputable def fSortT (S : SF') : List W → Μ → O W := fun ws μ => match ws with
  | [x] => match isS S x with
    | some zs => if zs.length < 64 then .ok (.v (.lst ((srt zs).map .str))) μ else .bad
    | none => .bad
  | _ => .bad
theorem ad_sortT : AdC Wx (rSortT Pg w) (fSortT (SetTO Pg w)) := fun D as μ σ H vs ws Q k r g => by
  unfold fSortT at g
  split at g
  · split at g
    · rename_i zs e
      split at g
      · rename_i hl
        cases isS_ok e
        obtain ⟨v, rfl, rv⟩ := repWs1 r
        cases rv with
        | set n1 h1 s1 =>
          refine ⟨_, zs, rfl, h1, hl, fun ys p pm so np => ?_⟩
          rw [srt_uniq pm so]
          exact newL k g (strs_rep _) p np
      · exact g.elim
    · exact g.elim
  · exact g.elim
/-! calls by the built-ins' names: whatever is given -/
variable {x : Str}
abbrev gSet (S : SF') := fcor (fSetL S) (fcor (fSetD S) (fSetT S))
theorem pp_set (hc : X.calm = true) (hg : Gl X "set") (hm : X.mg "set" = none) (ha : PPA X Wx (e :: es) A) (he : starEach (e :: es) X.env = (false, eval e X.env) :: starEach es X.env := by rfl) (hpl : (backTo pos (starEach es X.env)).any (·.1) = false := by rfl) :
    PP X Wx (.Call (.Name "set" p) (e :: es) [] pos) (fCall (gSet (SetTO X.prog X.w)) A) := pp_callTy ((call_setOf hc).or ((call_setOf hc).or (call_setOf hc))) hg hm b_set (ad_setL.or (ad_setD.or ad_setT)) ha (by decide) (by decide) he hpl
noncomputable abbrev gSort' (S : SF') := fcor fSortS (fcor fSortD (fSortT S))
theorem pp_sorted (hc : X.calm = true) (hg : Gl X "sorted") (hm : X.mg "sorted" = none) (ha : PPA X Wx (e :: es) A) (he : starEach (e :: es) X.env = (false, eval e X.env) :: starEach es X.env := by rfl) (hpl : (backTo pos (starEach es X.env)).any (·.1) = false := by rfl) :
    PP X Wx (.Call (.Name "sorted" p) (e :: es) [] pos) (fCall (gSort' (SetTO X.prog X.w)) A) := pp_callB (call_sortTp.or ((call_sortedD hc).or (call_sortedT hc))) hg hm b_sorted (ad_sortS.or (ad_sortD.or ad_sortT)) ha (by decide) (by decide) he hpl
theorem pp_dict (c : Kind) (hc : X.calm = true) (hg : Gl X "dict") (hm : X.mg "dict" = none) (ha : PPA X Wx (e :: es) A) (he : starEach (e :: es) X.env = (false, eval e X.env) :: starEach es X.env := by rfl) (hpl : (backTo pos (starEach es X.env)).any (·.1) = false := by rfl) :
    PP X Wx (.Call (.Name "dict" p) (e :: es) [] pos) (fCall (gDict c) A) := pp_callTy (call_dictD.or (call_dictP hc)) hg hm b_dict (ad_dictD.or ad_dictP) ha (by decide) (by decide) he hpl
theorem pp_list (c : Kind) (hc : X.calm = true) (hg : Gl X "list") (hm : X.mg "list" = none) (ha : PPA X Wx (e :: es) A) (he : starEach (e :: es) X.env = (false, eval e X.env) :: starEach es X.env := by rfl) (hpl : (backTo pos (starEach es X.env)).any (·.1) = false := by rfl) :
    PP X Wx (.Call (.Name "list" p) (e :: es) [] pos) (fCall (gList c) A) := pp_callTy (call_list_of.or (call_listD hc)) hg hm b_list (ad_listL.or ad_listD) ha (by decide) (by decide) he hpl
theorem pp_tuple (hc : X.calm = true) (hg : Gl X "tuple") (hm : X.mg "tuple" = none) (ha : PPA X Wx (e :: es) A) (he : starEach (e :: es) X.env = (false, eval e X.env) :: starEach es X.env := by rfl) (hpl : (backTo pos (starEach es X.env)).any (·.1) = false := by rfl) :
    PP X Wx (.Call (.Name "tuple" p) (e :: es) [] pos) (fCall gTupB A) := pp_callTy (call_tuple_of.or (call_tupleD hc)) hg hm b_tuple (ad_tupL.or ad_tupD) ha (by decide) (by decide) he hpl
theorem pp_min (hc : X.calm = true) (hg : Gl X "min") (hm : X.mg "min" = none) (ha : PPA X Wx (e :: es) A) (he : starEach (e :: es) X.env = (false, eval e X.env) :: starEach es X.env := by rfl) (hpl : (backTo pos (starEach es X.env)).any (·.1) = false := by rfl) :
    PP X Wx (.Call (.Name "min" p) (e :: es) [] pos) (fCall gMin A) := pp_callB ((call_min2 hc).or (cr_min hc)) hg hm b_min (ad_min2.or ad_minL) ha (by decide) (by decide) he hpl
theorem pp_max (hc : X.calm = true) (hg : Gl X "max") (hm : X.mg "max" = none) (ha : PPA X Wx (e :: es) A) (he : starEach (e :: es) X.env = (false, eval e X.env) :: starEach es X.env := by rfl) (hpl : (backTo pos (starEach es X.env)).any (·.1) = false := by rfl) :
    PP X Wx (.Call (.Name "max" p) (e :: es) [] pos) (fCall gMax A) := pp_callB ((call_max2 hc).or (cr_max hc)) hg hm b_max (ad_max2.or ad_maxL) ha (by decide) (by decide) he hpl
theorem pp_abs (hg : Gl X "abs") (hm : X.mg "abs" = none) (ha : PPA X Wx (e :: es) A) (he : starEach (e :: es) X.env = (false, eval e X.env) :: starEach es X.env := by rfl) (hpl : (backTo pos (starEach es X.env)).any (·.1) = false := by rfl) :
    PP X Wx (.Call (.Name "abs" p) (e :: es) [] pos) (fCall fAbs A) := pp_callB call_abs hg hm b_abs ad_abs ha (by decide) (by decide) he hpl
end
end Pu
set_option Elab.async false
set_option linter.all false
set_option maxRecDepth 100000
set_option maxHeartbeats 4000000
/-! ### == of two lists of own objects, where it gives True -/
namespace Pu
open L2 PySem PySem.Spec PyProof.Rows E10 HT PySem.SeqAt PySem.AutoSeq1 PySem.MeetsSeq PySem.MeetsSeq2 PySem.MeetsSeq3
section
variable {X : Cx} {Wx : WX} {a b e o : Expr} {es : List Expr} {F F1 F2 : EF} {A : AF} {C : Addr} {FF' : FF} {k : Nat} {pos p : Pos}
/-- list * int -/
def rRepR' : R2 := fun x y H Q => ∃ l k xs, x = .ref l ∧ y = .int k ∧ Rd H l (.lst xs) ∧ -(2 ^ 63) ≤ k ∧ k < 2 ^ 63 ∧ xs.length * k.toNat ≤ sizeLine ∧ ∀ p, H p = none → Q (.ref p) (upd H p (.lst (List.replicate k.toNat xs).flatten))
theorem op_repR : OpR X (binaryOp .Mult) rRepR' := by
  intro pins s σ H x y v u Q I rx ry h
  obtain ⟨l, k, xs, rfl, rfl, hH, h1, h2, hz, q⟩ := h
  cases rx
  obtain ⟨t, rfl⟩ := ry
  obtain ⟨z, its, n, r, e⟩ := hH.ok I.hok
  have hl := r.length
  have hlen : its.toArray.size * k.toNat ≤ sizeLine := by rw [List.size_toArray, ← hl]; exact hz
  have hcap : ¬ its.toArray.size * k.toNat > (2 ^ 63 - 1) / 8 := by
    have : (sizeLine : Nat) ≤ (2 ^ 63 - 1) / 8 := by decide
    omega
  have hfit : ¬ (!Builtin.List.listFitsIndex k) = true := by
    rw [fitsIndex_both h1 h2]
    exact Bool.false_ne_true
  have hlong : ¬ Builtin.List.listTooLong (its.toArray.size * k.toNat) = true := by
    rw [notLongL hlen]
    exact Bool.false_ne_true
  have hnew : List.foldl (fun x1 x2 => x1 ++ x2) #[] (List.replicate (if its.toArray.isEmpty = true then 0 else k.toNat) its.toArray) = (List.replicate k.toNat its).flatten.toArray := by
    have f0 : ∀ m : Nat, List.foldl (fun x1 x2 => x1 ++ x2) #[] (List.replicate m its.toArray) = (List.replicate m its).flatten.toArray := fun m => by
      have := foldl_rep its m []
      rw [List.nil_append] at this
      exact this
    rw [f0]
    cases its with
    | nil => simp
    | cons a r' => rw [if_neg (by simp)]
  refine wpAny_binaryOp_repeat_ref (T := "list") (U := "int") (by decide) ⟨_, e, rfl⟩ (fun s' => typeIs_int s' k t) noFill_list_mul F.fills_int_mul F.slot_int_rmul repeat_list F.slot_int_index.lookup
    (call_meets F.slot_int_rmul (typeIs_int s k t) F.entry_int_rmul (F.args_int_rmul_2 _ _) (int___rmul___int_list k t l its.toArray n)
      ⟨e, rfl, ⟨_, e, rfl⟩, call_meets F.slot_list_mul ⟨_, e, rfl⟩ F.entry_list_mul (F.args_list_mul_2 _ _) (AutoListH.list___mul___list_int_3 l its.toArray n k t hfit hcap hlong) ⟨e, ?_⟩⟩)
  rw [hnew]
  exact ⟨.ref _, _, I.lnew (t' := s.toks) (r.rep k.toNat) (by rw [PyProof.Rows.lm_len_rep_flat, Nat.mul_comm]; exact hz), rfl, q _ I.fresh⟩
def fRepL : W → W → Μ → O W := fun x y μ => match rdL μ x, y with
  | some ps, .v (.int k) => if 0 ≤ k ∧ k < 100000 ∧ ps.length * k.toNat ≤ 100000 then .ok (.v (.lst (List.replicate k.toNat ps).flatten)) μ else .bad
  | _, _ => .bad
theorem Reps.rep {D : Addr → Prop} {H : Hp} {xs : List V} {ps : List P} (r : Reps D H xs ps) : ∀ k : Nat, Reps D H (List.replicate k xs).flatten (List.replicate k ps).flatten
  | 0 => .nil
  | k + 1 => by
    rw [List.replicate_succ, List.replicate_succ, List.flatten_cons, List.flatten_cons]
    exact r.append (Reps.rep r k)
theorem ad_repL : AdR2 Wx rRepR' fRepL := fun D as μ σ H x y a b Q k ra rb g => by
  unfold fRepL at g
  split at g
  · rename_i ps n e1
    split at g
    · rename_i hl
      obtain ⟨ad, xs, rfl, hr, rs⟩ := rdL_ok k ra e1
      obtain rfl := rep_int rb
      refine ⟨ad, n, xs, rfl, rfl, hr, by omega, by omega, ?_, newL k g (rs.rep _)⟩
      rw [rs.length]
      have : (100000 : Nat) ≤ sizeLine := by decide
      omega
    · exact g.elim
  · exact g.elim
abbrev gMul := f2or fMul fRepL
theorem pp_mul (ha : PP X Wx a F1) (hb : PP X Wx b F2) : PP X Wx (.BinOp a .Mult b pos) (fOp gMul F1 F2) := pp_op (op_mul.or op_repR) (ad_mul.or ad_repL) ha hb
/-! repr of small things -/
/-! ### a method called with keywords alone -/
end
end Pu
set_option Elab.async false
set_option linter.all false
set_option maxRecDepth 100000
set_option maxHeartbeats 4000000
/-! ### what is looked at behind the top, for the pure layer; small rules -/
namespace Pu
open L2 PySem PySem.Spec PyProof.Rows E10
open He (eqO eqO_ok ba ga ma)
theorem insB_ok {K : PySem.W.Frag} {C : Addr} (h : insB K C = true) : InsK K C := by
  obtain ⟨a, h⟩ := ba h
  obtain ⟨b, h⟩ := ba h
  obtain ⟨c, h⟩ := ba h
  obtain ⟨d, e⟩ := ba h
  exact ⟨clB_ok a, eqO_ok b, eqO_ok c, of_decide_eq_true d, of_decide_eq_true e⟩
theorem all_of {α : Type} {l : List α} {p : α → Bool} (h : l.all p = true) {x : α} (m : x ∈ l) : p x = true := List.all_eq_true.mp h x m
theorem ownsB_ins {K : PySem.W.Frag} {cs : List Addr} (h : ownsB K cs = true) : ∀ C ∈ cs, InsK K C := fun C m => insB_ok (all_of (ba h).1 m)
theorem ownsB_ok {K : PySem.W.Frag} {cs : List Addr} (h : ownsB K cs = true) : Own K cs := by
  refine ⟨ownsB_ins h, fun t u b e => ?_⟩
  obtain ⟨_, h⟩ := ba h
  obtain ⟨h1, h⟩ := ba h
  obtain ⟨h2, h3⟩ := ba h
  unfold kitP at e
  split at e
  · exact kit_ty e
  · split at e
    · rename_i hc
      cases e
      exact of_decide_eq_true (all_of (all_of h1 hc.1) (show _ ∈ tyNs from hc.2))
    · cases e
  · split at e
    · rename_i hc
      cases e
      exact of_decide_eq_true (all_of (all_of h2 hc.1) hc.2)
    · cases e
  · split at e
    · rename_i hc
      cases e
      exact of_decide_eq_true (all_of (all_of h3 hc.1) (show _ ∈ tyMs from hc.2))
    · cases e
  · cases e
theorem firB_ok {K : PySem.W.Frag} {C : Addr} (h : firB K C = true) : IntK K C := ⟨(ba h).1, (intX_ok (ba h).2).1, (intX_ok (ba h).2).2⟩
theorem takes0 {X : Cx} : Takes X F0 := fun u s' ⟨_, _, _, _, _, _, _, _, _, _, _, _, _, _, _, _, w⟩ => w.elim
section
variable {X : Cx} {Wx : WX} {a b e o : Expr} {es : List Expr} {F F1 F2 : EF} {A : AF} {pos p : Pos} {x : Str}
/-- constants of the module -/
theorem pp_gint {i : Int} (hg : Gl X x) (hm : ∃ t, X.mg x = some (.int i t)) (hd : (x == ("__debug__" : Str)) = false := by decide) : PP X Wx (.Name x pos) (fC (.int i)) := pp_c (by obtain ⟨t, h⟩ := hm; exact pe_glob hg h ⟨t, rfl⟩ hd) fun _ _ => .int
theorem pp_gcls {C : Addr} (hg : Gl X x) (hm : X.mg x = some (.ref C)) (hd : (x == ("__debug__" : Str)) = false := by decide) : PP X Wx (.Name x pos) (fC (.ref C)) := pp_c (x := .ref C) (pe_glob hg hm rfl hd) fun _ _ => .ref
theorem pp_gty {n : String} (hg : Gl X x) (hm : X.mg x = none) (hv : bootBuiltins x = some (.type n)) (hn : x ≠ "__name__" := by decide) (hd : (x == ("__debug__" : Str)) = false := by decide) : PP X Wx (.Name x pos) (fC (.ty n)) := pp_c (x := .ty n) (pe_bltn hg hm hv rfl hn hd) fun _ _ => .ty
end
end Pu
set_option Elab.async false
set_option linter.all false
set_option maxRecDepth 100000
set_option maxHeartbeats 4000000
namespace Pu
open L2 PySem PySem.Spec PyProof.Rows E10
/-! ### list(d.values()), list(d.items()) -/
section
variable {X : Cx} {Wx : WX} {a b e o : Expr} {es : List Expr} {F F1 F2 : EF} {A : AF} {pos p : Pos} {x : Str} {C : Addr} {FF' : FF} {k : Nat}
/-! ### built-ins by their names -/
theorem pp_all (hc : X.calm = true) (hg : Gl X "all") (hm : X.mg "all" = none) (ha : PPA X Wx (e :: es) A) (he : starEach (e :: es) X.env = (false, eval e X.env) :: starEach es X.env := by rfl) (hpl : (backTo pos (starEach es X.env)).any (·.1) = false := by rfl) :
    PP X Wx (.Call (.Name "all" p) (e :: es) [] pos) (fCall (fBls fun bs => bs.all id) A) := pp_callB (cr_all hc) hg hm b_all ad_all ha (by decide) (by decide) he hpl
theorem pp_any (hc : X.calm = true) (hg : Gl X "any") (hm : X.mg "any" = none) (ha : PPA X Wx (e :: es) A) (he : starEach (e :: es) X.env = (false, eval e X.env) :: starEach es X.env := by rfl) (hpl : (backTo pos (starEach es X.env)).any (·.1) = false := by rfl) :
    PP X Wx (.Call (.Name "any" p) (e :: es) [] pos) (fCall (fBls fun bs => bs.any id) A) := pp_callB (cr_any hc) hg hm b_any ad_any ha (by decide) (by decide) he hpl
theorem pp_divmod (hg : Gl X "divmod") (hm : X.mg "divmod" = none) (ha : PPA X Wx (e :: es) A) (he : starEach (e :: es) X.env = (false, eval e X.env) :: starEach es X.env := by rfl) (hpl : (backTo pos (starEach es X.env)).any (·.1) = false := by rfl) :
    PP X Wx (.Call (.Name "divmod" p) (e :: es) [] pos) (fCall fDivmod A) := pp_callB call_divmod hg hm b_divmod ad_divmod ha (by decide) (by decide) he hpl
theorem pp_isi {cs : List Addr} (ho : Own X.K cs) (hg : Gl X "isinstance") (hm : X.mg "isinstance" = none) (ha : PPA X Wx (e :: es) A) (he : starEach (e :: es) X.env = (false, eval e X.env) :: starEach es X.env := by rfl) (hpl : (backTo pos (starEach es X.env)).any (·.1) = false := by rfl) :
    PP X Wx (.Call (.Name "isinstance" p) (e :: es) [] pos) (fCall (fIsi cs) A) := pp_callB call_isi hg hm b_isi (ad_isi ho) ha (by decide) (by decide) he hpl
theorem pp_len' (hg : Gl X "len") (hm : X.mg "len" = none) (ha : PPA X Wx (e :: es) A) (he : starEach (e :: es) X.env = (false, eval e X.env) :: starEach es X.env := by rfl) (hpl : (backTo pos (starEach es X.env)).any (·.1) = false := by rfl) :
    PP X Wx (.Call (.Name "len" p) (e :: es) [] pos) (fCall gLen A) := pp_len hg hm b_len ha (by decide) (by decide) he hpl
/-! ### own and int -/
theorem int_add {K : PySem.W.Frag} : PySem.W.findIn K (.type "int") (PySem.dunder "add") = some (some (.builtin "int.__add__")) := by
  show PySem.fastLookup "int" (PySem.dunder "add") = _
  decide +kernel
theorem int_radd {K : PySem.W.Frag} : PySem.W.findIn K (.type "int") (dunderR "add") = some (some (.builtin "int.__radd__")) := by
  show PySem.fastLookup "int" (dunderR "add") = _
  decide +kernel
/-- the class has the reflected one, or has it not -/
inductive Refl (K : PySem.W.Frag) (C : Addr) (m : Str) : Prop where
  | has (g : Addr) (h : PySem.W.findIn K (.ref C) m = some (some (.ref g)))
  | no (h : PySem.W.findIn K (.ref C) m = some none)
theorem Refl.ex {K : PySem.W.Frag} {C : Addr} {m : Str} (r : Refl K C m) : ∃ rc, PySem.W.findIn K (.ref C) m = some rc ∧ (rc = none ∨ ∃ g : Addr, rc = some (.ref g)) := by
  cases r with
  | has g h => exact ⟨_, h, .inr ⟨g, rfl⟩⟩
  | no h => exact ⟨_, h, .inl rfl⟩
theorem refl_has {K : PySem.W.Frag} {C : Addr} {m : Str} (h : mB K C m = true) : Refl K C m := .has _ (mB_ok h).at_
theorem pp_plusI (r : Refl X.K C (dunderR "add")) (d : DS X.prog X.w X.K X.mg X.base C (PySem.dunder "add") 2 k FF') (i : IntK X.K C) (hG : X.A.guards = some []) (hr : Room k X.A) (ha : PP X Wx a F1) (hb : PP X Wx b F2) : PP X Wx (.BinOp a .Add b pos) (fOp (fOwnI C FF') F1 F2) := by
  obtain ⟨rc, h1, h2⟩ := r.ex
  exact pp_addI ⟨_, _, rc, h1, h2, int_add, int_radd⟩ d i hG hr ha hb
end
end Pu
set_option Elab.async false
set_option linter.all false
set_option maxRecDepth 100000
set_option maxHeartbeats 4000000
namespace Pu
open L2 PySem PySem.Spec PyProof.Rows E10
section
variable {X : Cx} {Wx : WX} {a b c e o : Expr} {es : List Expr} {F F1 F2 F3 : EF} {A : AF} {pos p : Pos} {x : Str} {C : Addr} {FF' : FF} {k : Nat}
theorem ad_setLc {te : TE} {i : Nat} (ad : Ad Wx te F) : AdS Wx (tAsg te (gName i)) (sSet i F) := fun D as γ μ σ H E k ev g => by
  refine ad D as γ μ σ H _ k ev ((GS.of_s (R := RepW) k ev g).mono fun x H1 ⟨D1, as1, μ1, w, n1, k1, e1, r1, g1⟩ => ?_)
  exact g1 _ D1 as1 H1 .refl k1 (e1.set r1) (List.length_set ..)
theorem ppq_setLc {i : Nat} {y : Str} {py : Pos} {elt tg iter : Expr} {ifs : List Expr} {scope : Scope} {own : List (Str × Nat)} {spos : Pos} {I : IF} {g : TG} {f : GF} {T : TF} {E : EF} (hc : X.calm = true) (hN : X.N.Nodup) (hy : X.N[i]? = some y) (hyl : X.env.scope.names.lookup y = some .local)
    (hsw : swapsWith (.ListComp elt [⟨tg, iter, ifs, 0⟩] scope pos) (some (.Name y py)) spos.line X.env = pure true) (hi : PPI X Wx tg iter I) (ok : BlkOk X.N X.env.scope scope own)
    (hg : ∀ (s : Shared) (H : Hp) (C : Addr) (cl : List (Str × Addr)) (fp : List Addr), PG (X.blk s H scope (compEnvC scope cl C X.env) fp) tg g) (hf : AdG (some (own.map (·.2))) g f)
    (ht : ∀ (s : Shared) (H : Hp) (C : Addr) (cl : List (Str × Addr)) (fp : List Addr), PPTs (X.blk s H scope (compEnvC scope cl C X.env) fp) F0 ifs T)
    (he : ∀ (s : Shared) (H : Hp) (C : Addr) (cl : List (Str × Addr)) (fp : List Addr), PP (X.blk s H scope (compEnvC scope cl C X.env) fp) F0 elt E) (hs : ∀ x, foldedSetIterable iter X.env x = pure x := by intro _; rfl) :
    PPS X Wx (.Assign [.Name y py] (.ListComp elt [⟨tg, iter, ifs, 0⟩] scope pos) spos) (sSet i (fLc I f T E (own.map (·.2)))) :=
  let ⟨wi, pi, ai⟩ := hi; ⟨_, ps_setLc hc hN hy hyl hsw pi ok hg (fun s H C cl fp => ht s H C cl fp) (fun s H C cl fp => (he s H C cl fp).can) hs, ad_setLc (ad_lc ai hf)⟩
/-! ### tests -/
theorem pt_lt (ha : PP X Wx a F1) (hb : PP X Wx b F2) : PPT X Wx (.Compare a [.Lt] [b] pos) (fTest (fOp gLt F1 F2)) := ptt_cmp or_lt ag_lt ha hb
theorem pt_gt (ha : PP X Wx a F1) (hb : PP X Wx b F2) : PPT X Wx (.Compare a [.Gt] [b] pos) (fTest (fOp gGt F1 F2)) := ptt_cmp or_gt ag_gt ha hb
theorem pt_isN (ha : PP X Wx a F1) (hb : PP X Wx b F2) : PPT X Wx (.Compare a [.Is] [b] pos) (fTest (fOp (fIsN false) F1 F2)) := ptt_cmp op_isN ad_isN ha hb
theorem pt_ne (hu : X.A.units + 64 < cLine) (ha : PP X Wx a F1) (hb : PP X Wx b F2) : PPT X Wx (.Compare a [.NotEq] [b] pos) (fTest (fOp gNe F1 F2)) := ptt_cmp (op_ne.or ((op_neK (by omega)).or (op_neD hu))) (ad_neS.or (ad_neK.or ad_neD)) ha hb
theorem pt_in (hu : X.A.units + 1 < cLine) (ha : PP X Wx a F1) (hb : PP X Wx b F2) (hm : behindInMarks .In b = false := by rfl) : PPT X Wx (.Compare a [.In] [b] pos) (fTest (fOp (gIn false) F1 F2)) := ptt_cmp (op_in_seq.or (op_dinR hu)) (ad_in.or ad_dinR) ha hb hm
theorem pt_notIn (hu : X.A.units + 1 < cLine) (ha : PP X Wx a F1) (hb : PP X Wx b F2) (hm : behindInMarks .NotIn b = false := by rfl) : PPT X Wx (.Compare a [.NotIn] [b] pos) (fTest (fOp (gIn true) F1 F2)) := ptt_cmp (op_notIn_seq.or (op_dnotinR hu)) (ad_in.or ad_dinR) ha hb hm
theorem pt_inO (d : DS X.prog X.w X.K X.mg X.base C "__contains__" 2 k FF') (hG : X.A.guards = some []) (hr : Room k X.A) (ha : PP X Wx a F1) (hb : PP X Wx b F2) (hm : behindInMarks .In b = false := by rfl) : PPT X Wx (.Compare a [.In] [b] pos) (fTest (fOp (fInO C false FF') F1 F2)) := by
  obtain ⟨f, fd, ps, FG, hs, bi⟩ := d.g
  exact ptt_cmp (op_inO FG hG hr bi hs) ad_inO ha hb hm
theorem ptt_chain {op op' : CmpOp} {r r' : R2} {f g} (ho : OpR X (compareOp op) r) (ho' : OpR X (compareOp op') r') (h : AdR2 Wx r f) (h' : AdR2 Wx r' g) (ha : PP X Wx a F1) (hb : PP X Wx b F2) (hc : PP X Wx c F3)
    (hm : lastMarks [op, op'] [b, c] = false := by with_unfolding_all rfl) : PPT X Wx (.Compare a [op, op'] [b, c] pos) (fTest (fChain f g F1 F2 F3)) :=
  let ⟨_, pa, aa⟩ := ha; let ⟨_, pb, ab⟩ := hb; let ⟨_, pc, ac⟩ := hc; ⟨_, pt_chain ho ho' pa pb pc hm, ad_test (ad_chain h h' aa ab ac)⟩
theorem pp_lele (ha : PP X Wx a F1) (hb : PP X Wx b F2) (hc : PP X Wx c F3) (hm : lastMarks [.LtE, .LtE] [b, c] = false := by with_unfolding_all rfl) : PP X Wx (.Compare a [.LtE, .LtE] [b, c] pos) (fChain gLe gLe F1 F2 F3) := pp_chain or_le or_le ag_le ag_le ha hb hc hm
theorem pt_lele (ha : PP X Wx a F1) (hb : PP X Wx b F2) (hc : PP X Wx c F3) (hm : lastMarks [.LtE, .LtE] [b, c] = false := by with_unfolding_all rfl) : PPT X Wx (.Compare a [.LtE, .LtE] [b, c] pos) (fTest (fChain gLe gLe F1 F2 F3)) := ptt_chain or_le or_le ag_le ag_le ha hb hc hm
theorem pp_lelt (ha : PP X Wx a F1) (hb : PP X Wx b F2) (hc : PP X Wx c F3) (hm : lastMarks [.LtE, .Lt] [b, c] = false := by with_unfolding_all rfl) : PP X Wx (.Compare a [.LtE, .Lt] [b, c] pos) (fChain gLe gLt F1 F2 F3) := pp_chain or_le or_lt ag_le ag_lt ha hb hc hm
/-! ### methods of built-ins -/
theorem pp_append {apos cpos : Pos} (ho : PP X Wx o F1) (he : PP X Wx e F2) (hbase : attributeBase o "append" X.env (eval o X.env) = eval o X.env := by rfl)
    (hfew : ((backTo cpos (starEach [e] X.env)).all (fun x => !x.1) && (backToKw cpos (keywordEach [] X.env)).all (fun x => x.1.isSome)
      && decide ([e].length + ([] : List Keyword).length + (if ([] : List Keyword).isEmpty then 0 else 1) < 30)) = true := by rfl)
    (hline : (apos.endLine == cpos.line) = true := by rfl) (hs : starEach [e] X.env = (false, eval e X.env) :: starEach [] X.env := by rfl) (hpl : (backTo cpos (starEach [] X.env)).any (·.1) = false := by rfl) :
    PP X Wx (.Call (.Attribute o "append" apos) [e] [] cpos) (fBM "list" mAppend F1 (fCons F2 fNil)) := by
  refine pp_bm PySem.F.plainAttrs_list PySem.F.slot_list_append PySem.F.type_list_append mt_append am_append ho (ppa_cons he ppa_nil hs) ?_ ?_ ?_ ?_ ?_
  all_goals assumption
end
end Pu
set_option Elab.async false
set_option linter.all false
set_option maxRecDepth 100000
set_option maxHeartbeats 4000000
namespace Pu
open L2 PySem PySem.Spec PyProof.Rows E10
section
variable {X : Cx} {Wx : WX} {a b e o : Expr} {F F1 F2 F3 : EF} {pos p : Pos}
/-- xs[i], x = a pair -/
def sSubName (i : Nat) (Fv Fl Fi : EF) : SF := fun γ μ => (Fv γ μ).s γ fun wv m => match wv with
  | .v (.tup [p, q]) => (Fl γ m).s γ fun wl m => (Fi γ m).s γ fun wi m => match wL m wl with
    | some (j, ps) => match wi with
      | .v (.int z) => match ixN ps.length z with
        | some n => .nx (γ.set i (some (.v q))) (m.set j (.lst (ps.set n p)))
        | none => .bad
      | _ => .bad
    | none => .bad
  | _ => .bad
theorem ad_subName {i : Nat} {K : PySem.W.Frag} {tl ti tv : TE} (hv : Ad Wx tv F1) (hl : Ad Wx tl F2) (hi : Ad Wx ti F3) : AdS Wx (tAsg tv (gTup K 2 (gCons (gSub tl ti rSetL) (gCons (gName i) gNil)))) (sSubName i F1 F2 F3) := fun D as γ μ σ H E k ev g => by
  refine hv D as γ μ σ H _ k ev ((GS.of_s (R := RepW) k ev g).mono fun v H1 ⟨D1, as1, μ1, wv, n1, k1, ev1, r1, g1⟩ => ?_)
  split at g1
  · rename_i p q
    obtain ⟨t, xs, rfl, _, ht, rs⟩ := rep_tup r1
    cases rs with
    | cons rp rs =>
      cases rs with
      | cons rq rs =>
        cases rs
        refine ⟨t, _, rfl, .inl ht, rfl, _, _, rfl, ?_⟩
        refine hl D1 as1 γ μ1 σ H1 _ k1 ev1 ((GS.of_s (R := RepW) k1 ev1 g1).mono fun x H2 ⟨D2, as2, μ2, wd, n2, k2, ev2, r2, g2⟩ => ?_)
        refine hi D2 as2 γ μ2 σ H2 _ k2 ev2 ((GS.of_s (R := RepW) k2 ev2 g2).mono fun y H3 ⟨D3, as3, μ3, wk, n3, k3, ev3, r3, g3⟩ => ?_)
        split at g3
        · rename_i j ps e
          split at g3
          · rename_i z
            split at g3
            · rename_i n en
              obtain ⟨a, xs, rfl, ea, ha, rl⟩ := wL_ok k3 (r2.nx n3) e
              have rp' := Rep.sd n3.sd (Rep.sd n2.sd rp)
              have rq' := Rep.sd n3.sd (Rep.sd n2.sd rq)
              refine ⟨a, xs, z, n, rfl, rep_int r3, ha, by rw [rl.length]; exact en, ?_⟩
              obtain ⟨n', k'⟩ := cell_set (o := .lst (xs.set n _)) (u := .lst []) (c := .lst (ps.set n p)) k3 ea (nofz (by assumption) (fun _ _ z => by cases z)) fun D' H' s e' => ⟨_, e', (Reps.sd s rl).set (Rep.sd s rp') n⟩
              refine ⟨_, _, rfl, rfl, ?_⟩
              exact g3 _ D3 as3 _ n' k' ((ev3.nx n').set (show RepW D3 as3 _ _ (.v q) from Rep.sd n'.sd rq')) (List.length_set ..)
            · exact g3.elim
          · exact g3.elim
        · exact g3.elim
  · exact g1.elim
theorem ppq_subName {i : Nat} {x : Str} {px ps pt : Pos} {kt} (hv : PP X Wx e F1) (hl : PP X Wx a F2) (hi : PP X Wx b F3) (hc : X.calm = true) (hN : X.N.Nodup) (hx : X.N[i]? = some x) (hlc : Loc X.env.scope x) (hf : X.fn x = true ∨ X.env.scope.names.lookup x = some .local := by first | exact .inl rfl | exact .inr rfl | assumption)
    (hs : swapsWithSole [.Tuple [.Subscript a b ps, .Name x px] kt pt] e pos.line X.env = pure false := by rfl) (hw : swappedStores [.Tuple [.Subscript a b ps, .Name x px] kt pt] e X.env = pure none := by rfl)
    (h1 : (assignEach [.Tuple [.Subscript a b ps, .Name x px] kt pt] X.env).map (·.2) = [assign (.Tuple [.Subscript a b ps, .Name x px] kt pt) X.env] := by rfl)
    (hn : (assignEach [.Subscript a b ps, .Name x px] X.env).length = 2 := by rfl) (hst : (assignEach [.Subscript a b ps, .Name x px] X.env).findIdx? (·.1) = none := by rfl)
    (h2 : (assignEach [.Subscript a b ps, .Name x px] X.env) = (false, assign (.Subscript a b ps) X.env) :: assignEach [.Name x px] X.env := by rfl)
    (ha : ∀ v, assign (.Subscript a b ps) X.env v = (do
      let ov ← holding [v] (eval a X.env)
      let iv ← holding [v, ov] (eval b X.env)
      standAt ps
      holding [v, ov, iv] (setItem ov iv v)
      release [v, ov, iv] []) := by intro _; rfl) : PPS X Wx (.Assign [.Tuple [.Subscript a b ps, .Name x px] kt pt] e pos) (sSubName i F1 F2 F3) := by
  obtain ⟨_, p1, a1⟩ := hv
  obtain ⟨_, p2, a2⟩ := hl
  obtain ⟨_, p3, a3⟩ := hi
  exact ⟨_, ps_asg p1 (pg_tup hc (pgs_cons (pg_sub p2 p3 set_list ha) (pgs_cons (pg_name hN hx hlc hf) pgs_nil)) hn hst) hs hw h1, ad_subName a1 a2 a3⟩
theorem repWs3 {D as H} {vs : List V} {u v w : W} (r : RepWs D as H vs [u, v, w]) : ∃ x y z, vs = [x, y, z] ∧ RepW D as H x u ∧ RepW D as H y v ∧ RepW D as H z w := by
  cases r with
  | cons r t =>
    obtain ⟨y, z, rfl, r2, r3⟩ := repWs2 t
    exact ⟨_, y, z, rfl, r, r2, r3⟩
def sPar3 (i j l : Nat) (A : AF) : SF := fun γ μ => (A γ μ).s γ fun ws m => match ws with
  | [u, v, w] => .nx (((γ.set i (some u)).set j (some v)).set l (some w)) m
  | _ => .bad
theorem ad_par3 {i j l : Nat} {ta : TA} {A : AF} (h : AdA Wx ta A) : AdS Wx (tPar3 i j l ta) (sPar3 i j l A) := fun D as γ μ σ H E k ev gg => by
  refine h D as γ μ σ H _ k ev ((GS.of_s (R := RepWs) k ev gg).mono fun xs H1 ⟨D1, as1, μ1, ws, n1, k1, ev1, r1, g1⟩ => ?_)
  split at g1
  · obtain ⟨x, y, z, rfl, ru, rv, rw'⟩ := repWs3 r1
    exact ⟨x, y, z, rfl, g1 _ D1 as1 H1 .refl k1 (((ev1.set ru).set rv).set rw') (by rw [List.length_set, List.length_set, List.length_set])⟩
  · exact g1.elim
theorem ppq_par3 {i j l : Nat} {x y z : Str} {a b c : Expr} {px py pz pt pos : Pos} {kt k2 pt2} {A : AF} (hc : X.calm = true) (hN : X.N.Nodup) (hi : X.N[i]? = some x) (hj : X.N[j]? = some y) (hl : X.N[l]? = some z) (hij : i ≠ j) (hil : i ≠ l) (hjl : j ≠ l)
    (hx : X.env.scope.names.lookup x = some .local) (hy : X.env.scope.names.lookup y = some .local) (hz : X.env.scope.names.lookup z = some .local) (ha : PPA X Wx [a, b, c] A)
    (hw : swappedStores [.Tuple [.Name x px, .Name y py, .Name z pz] kt pt] (.Tuple [a, b, c] k2 pt2) X.env = pure (some [x, y, z]))
    (hs : swapsWithSole [.Tuple [.Name x px, .Name y py, .Name z pz] kt pt] (.Tuple [a, b, c] k2 pt2) pos.line X.env = pure false := by rfl) :
    PPS X Wx (.Assign [.Tuple [.Name x px, .Name y py, .Name z pz] kt pt] (.Tuple [a, b, c] k2 pt2) pos) (sPar3 i j l A) := let ⟨_, p, ad⟩ := ha; ⟨_, ps_par3 hc hN hi hj hl hij hil hjl hx hy hz p hw hs, ad_par3 ad⟩
/-- a, b = x, y by way of the tuple -/
theorem ad_parT {K : PySem.W.Frag} {i j : Nat} {ta : TA} {A : AF} (h : AdA Wx ta A) : AdS Wx (tAsg (tTup ta) (gTup K 2 (gCons (gName i) (gCons (gName j) gNil)))) (sPar i j A) := fun D as γ μ σ H E k ev gg => by
  refine h D as γ μ σ H _ k ev ((GS.of_s (R := RepWs) k ev gg).mono fun xs H1 ⟨D1, as1, μ1, ws, n1, k1, ev1, r1, g1⟩ => ?_)
  split at g1
  · obtain ⟨v, w, rfl, rv, rw'⟩ := repWs2 r1
    refine ⟨by show 2 ≤ sizeLine; decide, fun p np => ?_⟩
    have sm := new_same' (o := .tup [v, w]) np
    have n := Nx.of_same (D := D1) (as := as1) sm
    refine ⟨p, [v, w], rfl, .inl (.inl upd_same), rfl, v, [w], rfl, w, [], rfl, rfl, ?_⟩
    exact g1 _ D1 as1 _ n (k1.same sm) (((ev1.nx n).set (rv.nx n)).set (rw'.nx n)) (by rw [List.length_set, List.length_set])
  · exact g1.elim
theorem ppq_parT {i j : Nat} {x y : Str} {a b : Expr} {px py pt pos : Pos} {kt k2 pt2} {A : AF} (hc : X.calm = true) (hN : X.N.Nodup) (hi : X.N[i]? = some x) (hj : X.N[j]? = some y) (hx : Loc X.env.scope x) (hy : Loc X.env.scope y)
    (hf : X.fn x = true ∨ X.env.scope.names.lookup x = some .local) (hf2 : X.fn y = true ∨ X.env.scope.names.lookup y = some .local) (ha : PPA X Wx [a, b] A)
    (hs : swapsWithSole [.Tuple [.Name x px, .Name y py] kt pt] (.Tuple [a, b] k2 pt2) pos.line X.env = pure false := by rfl) (hw : swappedStores [.Tuple [.Name x px, .Name y py] kt pt] (.Tuple [a, b] k2 pt2) X.env = pure none := by rfl)
    (h1 : (assignEach [.Tuple [.Name x px, .Name y py] kt pt] X.env).map (·.2) = [assign (.Tuple [.Name x px, .Name y py] kt pt) X.env] := by rfl)
    (hn : (assignEach [.Name x px, .Name y py] X.env).length = 2 := by rfl) (hst : (assignEach [.Name x px, .Name y py] X.env).findIdx? (·.1) = none := by rfl) :
    PPS X Wx (.Assign [.Tuple [.Name x px, .Name y py] kt pt] (.Tuple [a, b] k2 pt2) pos) (sPar i j A) := by
  obtain ⟨_, p, ad⟩ := ha
  exact ⟨_, ps_asg (pe_tup p) (pg_tup hc (pgs_cons (pg_name hN hi hx hf) (pgs_cons (pg_name hN hj hy hf2) pgs_nil)) hn hst) hs hw h1, ad_parT ad⟩
end
end Pu
set_option Elab.async false
set_option linter.all false
set_option maxRecDepth 100000
set_option maxHeartbeats 4000000
/-! ### reckoning with what is denoted; the law's end -/
namespace Pu
open L2 PySem PySem.Spec PyProof.Rows E10
theorem nolB_ok : ∀ {K : PySem.W.Frag}, nolB K = true → ∀ {a : Addr} {o : Obj}, K.lookup a = some o → o.cls = .type "list" → False
  | [], _, a, o, h, _ => by cases h
  | (b, u) :: K, hn, a, o, h, hc => by
    unfold nolB at hn
    rw [List.all_cons] at hn
    obtain ⟨h1, h2⟩ := Bool.and_eq_true_iff.mp hn
    rw [List.lookup_cons] at h
    split at h
    · cases h
      simp only [hc] at h1
      exact absurd rfl (of_decide_eq_true h1)
    · exact nolB_ok (K := K) h2 h hc
theorem seq_rd {K : PySem.W.Frag} (hn : nolB K = true) {H : Hp} {a : Addr} {xs : List V} (h : SqL K H a xs) : Rd H a (.lst xs) := by
  rcases h with h | ⟨o, its, n, h1, h2, _⟩
  · exact h
  · exact (nolB_ok hn h1 h2).elim
theorem sk_nil {H : Hp} : Sk (fun _ => False) [] H [] := by
  refine ⟨rfl, fun _ h => h.elim, fun j a e => ?_, fun i j a e => ?_, fun i a e => ?_, fun i e => ?_⟩ <;> simp at e
theorem law_want {F : FF} {K : PySem.W.Frag} (hn : nolB K = true) {H : Hp} {a : Addr} {ns : List Int} (hq : SqL K H a (ns.map V.int)) (h : ∃ m, F [.v (.lst (ns.map P.int))] [] = .ok (.v (.bl true)) m) : noE (spP 1 F) [.ref a] H (fun v _ => v = .bl true) L2.E0 := by
  obtain ⟨m, h⟩ := h
  refine ⟨rfl, fun _ => False, [], [.v (.lst (ns.map P.int))], [], sk_nil, .cons (Rep.lst (fun h => h) (seq_rd hn hq) (ints_rep ns)) .nil, ?_⟩
  rw [h]
  exact fun v D2 as2 H2 n2 k2 r => rep_bl r
/-! ### comprehensions, loops -/
/-- with something that goes on: R says what stands, C what is made -/
theorem lc_run {f : GF} {T : TF} {E : EF} {γ : Γ} (R : Μ → Prop) (C : P → P → Prop) (hT : T = fYes) : ∀ {ps : List P} {μ : Μ}, R μ → (∀ p ∈ ps, ∀ m, R m → ∃ γ1 q m', f p γ = some γ1 ∧ E γ1 m = .ok (.v q) m' ∧ R m' ∧ C p q) → ∃ qs m', lcGo f T E γ ps μ = .ok qs m' ∧ R m' ∧ Paired C ps qs
  | [], μ, r, _ => ⟨[], μ, rfl, r, .nil⟩
  | p :: l, μ, r, h => by
    obtain ⟨γ1, q, m1, h1, h2, h3, h4⟩ := h p List.mem_cons_self μ r
    obtain ⟨qs, m2, h5, h6, h7⟩ := lc_run R C hT (ps := l) h3 fun p m => h p (List.mem_cons_of_mem _ m)
    refine ⟨q :: qs, m2, ?_, h6, .cons h4 h7⟩
    subst hT
    rw [lcGo, h1]
    simp only [fYes, O.nx, O.bind_ok, if_true, h2, lcW, h5]
theorem putP_new {acc : List (Key × P)} {k : Key} {v : P} (h : k ∉ acc.map (·.1)) : putP acc k v = acc ++ [(k, v)] := by
  unfold putP
  rw [if_neg]
  intro c
  obtain ⟨x, hx, e⟩ := List.any_eq_true.mp c
  exact h (List.mem_map.mpr ⟨x, hx, of_decide_eq_true e⟩)
theorem put_all {α : Type} (k : α → Key) (v : α → P) : ∀ {l : List α} {acc : List (Key × P)}, (acc.map (·.1) ++ l.map k).Nodup → l.foldl (fun a p => putP a (k p) (v p)) acc = acc ++ l.map fun p => (k p, v p)
  | [], acc, _ => by simp
  | p :: r, acc, h => by
    have h1 : k p ∉ acc.map (·.1) := fun m => by
      rw [List.map_cons] at h
      exact (List.nodup_append.mp h).2.2 _ m _ List.mem_cons_self rfl
    rw [List.foldl_cons, putP_new h1, put_all k v (by simpa using h)]
    simp
end Pu
set_option Elab.async false
set_option linter.all false
set_option maxRecDepth 100000
set_option maxHeartbeats 4000000
namespace Pu
open L2 PySem PySem.Spec PyProof.Rows E10
/-! ### the cells that a value's reckoning made fall away -/
def fDrop (F : EF) : EF := fun γ μ => (F γ μ).bind fun w m => match w with
  | .v p => .ok (.v p) (m.take μ.length)
  | .loc _ => .bad
theorem ad_drop {Wx : WX} {te : TE} {F : EF} (h : Ad Wx te F) : Ad Wx te (fDrop F) := fun D as γ μ σ H Q k ev g => by
  refine h D as γ μ σ H Q k ev ?_
  unfold fDrop at g
  cases e : F γ μ with
  | bad => rw [e] at g; exact g
  | exc C fs m => rw [e] at g; exact g
  | ok w m =>
    rw [e] at g
    intro b D2 as2 H2 n2 k2 r2
    cases w with
    | loc j => exact g.elim
    | v p =>
      obtain ⟨n3, k3⟩ := k.cut k2 n2
      exact g b D2 _ H2 n3 k3 r2
theorem pp_drop {X : Cx} {Wx : WX} {e : Expr} {F : EF} (h : PP X Wx e F) : PP X Wx e (fDrop F) := let ⟨_, p, ad⟩ := h; ⟨_, p, ad_drop ad⟩
end Pu
set_option Elab.async false
set_option linter.all false
set_option maxRecDepth 100000
set_option maxHeartbeats 4000000
namespace Pu
open L2 PySem PySem.Spec PyProof.Rows E10
/-! ### enumerate -/
def numP (ps : List P) : List P := (List.range ps.length).map fun i => .tup [.int (i : Nat), ps.getD i .non]
def iEnumL (A : AF) : IF := fun γ μ => (A γ μ).bind fun ws m => match ws with
  | [w] => match wkL m w with
    | some ps => few (numP ps) m
    | none => .bad
  | _ => .bad
def iEnumTp (A : AF) : IF := fun γ μ => (A γ μ).bind fun ws m => match ws with
  | [.v (.tup ps)] => few (numP ps) m
  | _ => .bad
def iEnumP (A : AF) : IF := fun γ μ => (iEnumL A γ μ).or (iEnumTp A γ μ)
section
variable {X : Cx} {Wx : WX} {e : Expr} {A : AF} {pos p : Pos}
theorem num_at {ps : List P} {i : Nat} {q : P} (h : ps[i]? = some q) : (numP ps)[i]? = some (.tup [.int (i : Nat), q]) := by
  have lt := (List.getElem?_eq_some_iff.mp h).1
  unfold numP
  rw [List.getElem?_map, List.getElem?_range lt, Option.map_some]
  congr 3
  rw [List.getD_eq_getElem?_getD, h]
  rfl
theorem num_len (ps : List P) : (numP ps).length = ps.length := by
  unfold numP
  rw [List.length_map, List.length_range]
theorem ad_iEnumL {K : PySem.W.Frag} {ta : TA} (h : AdA Wx ta A) : AdI Wx (iEnum K ta) (iEnumL A) := fun D as γ μ σ H R k ev g => by
  refine h D as γ μ σ H _ k ev ((G.bind RepWs k g).mono fun vs H1 ⟨D1, as1, μ1, ws, n1, k1, r1, g1⟩ => ?_)
  split at g1
  · split at g1
    · rename_i ps q
      obtain ⟨v, rfl, rv⟩ := repWs1 r1
      obtain ⟨a, xs, rfl, hr, rs, stab⟩ := wkL_ok k1 rv q
      refine ⟨a, xs, rfl, .inl hr, nowI k1 g1 fun hl => ⟨fun H' => SqL K H' a xs, _, by rw [num_len, ← rs.length]; exact walk_enum, fun D' H' s => .inl (stab D' H' s), fun i D' H' x H2 lt s dn y => ?_⟩⟩
      obtain ⟨T, x1, y1, rfl, nT, e2, h1, h2⟩ := y
      cases h1
      obtain ⟨q, hq, rq⟩ := rs.get h2
      obtain ⟨s2, r2⟩ := pair_rep dn nT e2 .int (rq.sd s.toSd)
      exact ⟨s2, _, num_at hq, r2⟩
    · exact g1.elim
  · exact g1.elim
theorem ad_iEnumT {K : PySem.W.Frag} {ta : TA} (h : AdA Wx ta A) : AdI Wx (iEnumT K ta) (iEnumTp A) := fun D as γ μ σ H R k ev g => by
  refine h D as γ μ σ H _ k ev ((G.bind RepWs k g).mono fun vs H1 ⟨D1, as1, μ1, ws, n1, k1, r1, g1⟩ => ?_)
  split at g1
  · obtain ⟨v, rfl, rv⟩ := repWs1 r1
    obtain ⟨a, xs, rfl, nd, hr, rs⟩ := rep_tup rv
    refine ⟨a, xs, rfl, .inl hr, nowI k1 g1 fun hl => ⟨fun H' => SqT K H' a xs, _, by rw [num_len, ← rs.length]; exact walk_enumT, fun D' H' s => .inl (s.r _ _ nd hr), fun i D' H' x H2 lt s dn y => ?_⟩⟩
    obtain ⟨T, x1, y1, rfl, nT, e2, h1, h2⟩ := y
    cases h1
    obtain ⟨q, hq, rq⟩ := rs.get h2
    obtain ⟨s2, r2⟩ := pair_rep dn nT e2 .int (rq.sd s.toSd)
    exact ⟨s2, _, num_at hq, r2⟩
  · exact g1.elim
theorem ppi_alt {tg it : Expr} {I J : IF} (h : PPI X Wx tg it I) (h' : PPI X Wx tg it J) : PPI X Wx tg it (fun γ μ => (I γ μ).or (J γ μ)) := by
  obtain ⟨t, p, a⟩ := h
  obtain ⟨t', p', a'⟩ := h'
  refine ⟨fun σ H R => t σ H R ∨ t' σ H R, ⟨fun pins s σ H R I z => z.elim (p.run pins s σ H R I) (p'.run pins s σ H R I)⟩, fun D as γ μ σ H R k ev g => (G.or g).elim (fun z => .inl (a D as γ μ σ H R k ev z)) fun z => .inr (a' D as γ μ σ H R k ev z)⟩
theorem ppi_enum {tpos : Pos} {elts : List Expr} {kk : Nat} (hg : Gl X "enumerate") (hm : X.mg "enumerate" = none) (ha : PPA X Wx [e] A) (hs : starEach [e] X.env = [(false, eval e X.env)] := by rfl) : PPI X Wx (.Tuple elts kk tpos) (.Call (.Name "enumerate" p) [e] [] pos) (iEnumP A) :=
  let ⟨_, pa, aa⟩ := ha; ppi_alt ⟨_, pi_enum hg hm pa hs, ad_iEnumL aa⟩ ⟨_, pi_enumT hg hm pa hs, ad_iEnumT aa⟩
/-! ### zip, reversed -/
end
end Pu
set_option Elab.async false
set_option linter.all false
set_option maxRecDepth 100000
set_option maxHeartbeats 4000000
namespace Pu
open L2 PySem PySem.Spec PyProof.Rows E10
/-! ### a place that changes no more -/
section
variable {D D' : Addr → Prop} {as as' : Ps} {H H' : Hp} {μ m : Μ}
theorem Rep.of_cell {a : Addr} {c : PC} {p : P} (x : CellOk D H a c) (hp : c.p = some p) : Rep (lessD D a) H (.ref a) p := by
  have s : Sd D H (lessD D a) H := ⟨fun b u nb _ z => nb z.1, fun _ _ _ r => r, fun _ _ _ e _ => e⟩
  cases c with
  | lst ps => cases hp; obtain ⟨xs, h, r⟩ := x; exact .lst (fun z => z.2 rfl) (.inl h) (Reps.sd s r)
  | dct ps => cases hp; obtain ⟨xs, h, r⟩ := x; exact .dct (fun z => z.2 rfl) (.inl h) (RepK.sd s r)
  | ins C ps => cases hp; obtain ⟨dx, xs, h, r⟩ := x; exact .ins (fun z => z.2 rfl) h (RepS.sd s r)
  | dead => cases hp
  | lstL ps => cases hp; obtain ⟨od, xs, h, r⟩ := x; exact .lst (fun z => z.2 rfl) (.inr ⟨od, h⟩) (Reps.sd s r)
  | dctL ps => cases hp; obtain ⟨od, xs, h, r⟩ := x; exact .dct (fun z => z.2 rfl) (.inr ⟨od, h⟩) (RepK.sd s r)
theorem fix_at {j : Nat} {a : Addr} (k : Sk D as H μ) (e : as[j]? = some (some a)) : Nx D as H (lessD D a) (as.set j none) H ∧ Sk (lessD D a) (as.set j none) H (μ.set j .dead) := by
  have s : Sd D H (lessD D a) H := ⟨fun b u nb _ z => nb z.1, fun _ _ _ r => r, fun _ _ _ e _ => e⟩
  have lt := (List.getElem?_eq_some_iff.mp e).1
  have at' : ∀ {i : Nat} {b : Addr}, (as.set j none)[i]? = some (some b) → i ≠ j ∧ as[i]? = some (some b) := fun {i b} z => by
    by_cases c : j = i
    · subst c
      rw [List.getElem?_set_self lt] at z
      cases z
    · rw [List.getElem?_set_ne c] at z
      exact ⟨Ne.symm c, z⟩
  refine ⟨⟨fun i x z => ?_, fun b o h => ⟨o, h⟩, fun b d v => ⟨d, fun z => v j (z ▸ e)⟩, fun b d => .inl d.1, fun i b z => .inl (at' z).2, fun _ _ _ _ h => h, fun _ _ _ h => h, fun _ _ _ h _ => h, fun _ _ _ h => h⟩, ⟨?_, fun b d => k.dn b d.1, fun i b z => ⟨k.inD i b (at' z).2, fun w => (at' z).1 (k.inj i j b (at' z).2 (w ▸ e))⟩, fun i i' b z y => k.inj i i' b (at' z).2 (at' y).2, fun i b z => ?_, fun i z => ?_⟩⟩
  · by_cases c : j = i
    · subst c
      exact .inr (List.getElem?_set_self lt)
    · rw [List.getElem?_set_ne c]
      exact .inl z
  · rw [List.length_set, List.length_set, k.len]
  · obtain ⟨n, z⟩ := at' z
    obtain ⟨c, q, x⟩ := k.ok i b z
    exact ⟨c, by rw [List.getElem?_set_ne (Ne.symm n)]; exact q, x.sd s rfl⟩
  · by_cases c : j = i
    · subst c
      exact List.getElem?_set_self (by rw [← k.len]; exact lt)
    · rw [List.getElem?_set_ne c] at z ⊢
      exact k.dead i z
end
/-- before S, what variable i holds is let go as a value -/
def sFix (i : Nat) (S : SF) : SF := fun γ μ => match γ[i]? with
  | some (some (.loc j)) => match (μ[j]?).bind PC.p with
    | some p => S (γ.set i (some (.v p))) (μ.set j .dead)
    | none => .bad
  | _ => S γ μ
section
variable {X : Cx} {Wx : WX} {st : Stmt} {e : Expr} {S : SF} {F : EF}
theorem ad_fix {i : Nat} {ts : TS} (h : AdS Wx ts S) : AdS Wx ts (sFix i S) := fun D as γ μ σ H E k ev g => by
  unfold sFix at g
  split at g
  · rename_i j ej
    split at g
    · rename_i p ep
      obtain ⟨c, q, hp⟩ := Option.bind_eq_some_iff.mp ep
      obtain ⟨v, ev1, rv⟩ := ev.2 i _ ej
      obtain ⟨a, ea, rfl, x⟩ := rv.adr k q (fun z => by rw [z] at hp; cases hp)
      obtain ⟨n', k'⟩ := fix_at k ea
      refine h _ _ _ _ σ H E k' ⟨by rw [List.length_set]; exact ev.1, fun l w e => ?_⟩ (g.nx' k k' n')
      by_cases c : i = l
      · subst c
        rw [List.getElem?_set_self (List.getElem?_eq_some_iff.mp ej).1] at e
        cases e
        exact ⟨_, ev1, Rep.of_cell x hp⟩
      · rw [List.getElem?_set_ne c] at e
        obtain ⟨u, e1, r1⟩ := ev.2 l w e
        exact ⟨u, e1, r1.nx n'⟩
    · exact g.elim
  · exact h D as γ μ σ H E k ev g
theorem ppq_fix {i : Nat} (h : PPS X Wx st S) : PPS X Wx st (sFix i S) := let ⟨_, p, ad⟩ := h; ⟨_, p, ad_fix ad⟩
/-! ### a place that is locked while something runs -/
def lockC : PC → Option PC
  | .lst ps => some (.lstL ps)
  | .dct ps => some (.dctL ps)
  | _ => none
open Classical in
noncomputable def fLock (i : Nat) (F : EF) : EF := fun γ μ => match γ[i]? with
  | some (some (.loc j)) => match (μ[j]?).bind fun c => (lockC c).map fun c' => (c, c') with
    | some (c, c') => (F γ (μ.set j c')).bind fun w m => if m[j]? = some c' then .ok w (m.set j c) else .bad
    | none => F γ μ
  | _ => F γ μ
theorem RepW.sd {D D' : Addr → Prop} {as : Ps} {H H' : Hp} {v : V} {w : W} (s : Sd D H D' H') (r : RepW D as H v w) : RepW D' as H' v w := by
  cases w with
  | v p => exact Rep.sd s r
  | loc j => exact r
/-- .. a statement -/
def OS.unlock (j : Nat) (c c' : PC) (f : Μ → Bool) : OS → OS
  | .nx γ m => if f m = true then .nx γ (m.set j c) else .bad
  | .bk γ m => if f m = true then .bk γ (m.set j c) else .bad
  | .ct γ m => if f m = true then .ct γ (m.set j c) else .bad
  | .ret w m => if f m = true then .ret w (m.set j c) else .bad
  | o => o
open Classical in
noncomputable def sLock (i : Nat) (S : SF) : SF := fun γ μ => match γ[i]? with
  | some (some (.loc j)) => match (μ[j]?).bind fun c => (lockC c).map fun c' => (c, c') with
    | some (c, c') => (S γ (μ.set j c')).unlock j c c' fun m => decide (m[j]? = some c')
    | none => S γ μ
  | _ => S γ μ
theorem EnvR.sd {D D' : Addr → Prop} {as : Ps} {H H' : Hp} {σ : L2.St} {γ : Γ} (s : Sd D H D' H') (r : EnvR D as H σ γ) : EnvR D' as H' σ γ := ⟨r.1, fun i w e => let ⟨v, q, z⟩ := r.2 i w e; ⟨v, q, z.sd s⟩⟩
end
end Pu
set_option Elab.async false
set_option linter.all false
set_option maxRecDepth 100000
set_option maxHeartbeats 4000000
/-! ### == of anything nested -/
namespace Pu
open L2 PySem PySem.Spec PyProof.Rows E10
def allO (f : P → P → Option Bool) : List P → List P → Option Bool
  | p :: ps, q :: qs => (f p q).bind fun a => (allO f ps qs).map fun b => a && b
  | _, _ => some true
def hitO (f : P → P → Option Bool) (ls : List (Key × P)) : List (Key × P) → Option Bool
  | [] => some true
  | (k, p) :: r => match valP ls k with
    | none => (hitO f ls r).map fun _ => false
    | some q => (f p q).bind fun a => (hitO f ls r).map fun b => a && b
/-- a list or a tuple, and what is no container -/
def seqFlat : P → P → Bool
  | .lst _, q => flatP q
  | .tup _, q => flatP q
  | q, .lst _ => flatP q
  | q, .tup _ => flatP q
  | _, _ => false
def eqX : Nat → P → P → Option Bool
  | 0, p, q => if flatP p = true ∧ flatP q = true then some (eqF p q) else none
  | n + 1, p, q => match p, q with
    | .lst ps, .lst qs => if ps.length = qs.length then allO (eqX n) ps qs else some false
    | .tup ps, .tup qs => (allO (eqX n) ps qs).map fun b => b && ps.length == qs.length
    | .dct ks, .dct ls => (hitO (eqX n) ls ks).map fun b => ks.length == ls.length && b
    | .lst _, .tup _ => some false
    | .tup _, .lst _ => some false
    | p, q => if flatP p = true ∧ flatP q = true then some (eqF p q) else if seqFlat p q = true then some false else none
theorem allO_range {f : P → P → Option Bool} : ∀ {ps qs : List P} {r : Bool}, allO f ps qs = some r →
    (∀ (j : Nat) p q, ps[j]? = some p → qs[j]? = some q → ∃ b, f p q = some b) ∧ r = (List.range (min ps.length qs.length)).all fun j => ((ps[j]?).bind fun p => (qs[j]?).bind fun q => f p q) == some true
  | [], qs, r, h => by
    cases h
    exact ⟨fun j p q e => by simp at e, by simp⟩
  | p :: ps, [], r, h => by
    cases h
    exact ⟨fun j p q _ e => by simp at e, by simp⟩
  | p :: ps, q :: qs, r, h => by
    obtain ⟨a, h1, h2⟩ := Option.bind_eq_some_iff.mp h
    obtain ⟨b, h3, rfl⟩ := Option.map_eq_some_iff.mp h2
    obtain ⟨i1, i2⟩ := allO_range h3
    refine ⟨fun j p' q' e1 e2 => ?_, ?_⟩
    · cases j with
      | zero => cases e1; cases e2; exact ⟨a, h1⟩
      | succ j => exact i1 j p' q' e1 e2
    · rw [List.length_cons, List.length_cons, Nat.succ_min_succ, List.range_succ_eq_map, List.all_cons, List.all_map]
      simp only [List.getElem?_cons_zero, Option.bind_some, h1]
      rw [i2]
      congr 1
      cases a <;> rfl
theorem hitO_all {f : P → P → Option Bool} {ls : List (Key × P)} (e : Key → Bool) : ∀ {ks : List (Key × P)} {r : Bool}, hitO f ls ks = some r → (∀ k p q, (k, p) ∈ ks → valP ls k = some q → ∀ b, f p q = some b → e k = b) →
    (∀ k p q, (k, p) ∈ ks → valP ls k = some q → ∃ b, f p q = some b) ∧ r = ks.all fun kp => (valP ls kp.1).isSome && e kp.1
  | [], r, h, _ => by cases h; exact ⟨fun _ _ _ m => absurd m (by simp), rfl⟩
  | (k, p) :: ks, r, h, he => by
    unfold hitO at h
    cases v : valP ls k with
    | none =>
      rw [v] at h
      obtain ⟨b, h3, rfl⟩ := Option.map_eq_some_iff.mp h
      obtain ⟨i1, i2⟩ := hitO_all e h3 fun k p q m => he k p q (List.mem_cons_of_mem _ m)
      refine ⟨fun k' p' q' m e' => ?_, by simp [v]⟩
      rcases List.mem_cons.mp m with m | m
      · cases m; rw [v] at e'; cases e'
      · exact i1 k' p' q' m e'
    | some q =>
      rw [v] at h
      obtain ⟨a, h1, h2⟩ := Option.bind_eq_some_iff.mp h
      obtain ⟨b, h3, rfl⟩ := Option.map_eq_some_iff.mp h2
      obtain ⟨i1, i2⟩ := hitO_all e h3 fun k p q m => he k p q (List.mem_cons_of_mem _ m)
      refine ⟨fun k' p' q' m e' => ?_, ?_⟩
      · rcases List.mem_cons.mp m with m | m
        · cases m; rw [v] at e'; cases e'; exact ⟨a, h1⟩
        · exact i1 k' p' q' m e'
      · rw [List.all_cons, ← i2]
        simp only [v, Option.isSome_some, Bool.true_and]
        rw [he k p q List.mem_cons_self v a h1]
theorem allO_true {f : P → P → Option Bool} : ∀ {ps qs : List P} {r : Bool}, allO f ps qs = some r → (∀ (j : Nat) p q b, ps[j]? = some p → qs[j]? = some q → f p q = some b → b = true) → r = true
  | [], qs, r, h, _ => by cases h; rfl
  | p :: ps, [], r, h, _ => by cases h; rfl
  | p :: ps, q :: qs, r, h, t => by
    obtain ⟨a, h1, h2⟩ := Option.bind_eq_some_iff.mp h
    obtain ⟨b, h3, rfl⟩ := Option.map_eq_some_iff.mp h2
    rw [t 0 p q a rfl rfl h1, allO_true h3 fun j p q b e1 e2 => t (j + 1) p q b e1 e2]
    rfl
section
variable {D : Addr → Prop} {H : Hp} {Pg : Program} {w : World} {h : Heap}
theorem RepK.nodup {xs : List (Key × V)} {vs : List (Key × Value)} (r : KV xs vs) : xs.map (·.1) = vs.map (·.1) := by
  induction r with
  | nil => rfl
  | cons h _ ih => rw [List.map_cons, List.map_cons, h.1, ih]
theorem val_mem {ks : List (Key × P)} (nd : (ks.map (·.1)).Nodup) {k : Key} {p : P} (m : (k, p) ∈ ks) : valP ks k = some p := by
  induction ks with
  | nil => cases m
  | cons q r ih =>
    have nd' := List.nodup_cons.mp (show (q.1 :: r.map (·.1)).Nodup from nd)
    unfold valP
    rw [List.find?_cons]
    rcases List.mem_cons.mp m with m | m
    · rw [← m]; simp
    · have ne : q.1 ≠ k := fun e => nd'.1 (e ▸ List.mem_map.mpr ⟨_, m, rfl⟩)
      simp only [ne, decide_false]
      exact ih nd'.2 m
theorem RepK.mem {k : Key} {p : P} : ∀ {xs : List (Key × V)} {ps : List (Key × P)}, RepK D H xs ps → (k, p) ∈ ps → ∃ v, (k, v) ∈ xs ∧ Rep D H v p
  | _, _, .nil, m => by cases m
  | _, _, .cons r t, m => by
    rcases List.mem_cons.mp m with m | m
    · cases m; exact ⟨_, List.mem_cons_self, r⟩
    · obtain ⟨v, m, r⟩ := RepK.mem t m; exact ⟨v, List.mem_cons_of_mem _ m, r⟩
theorem RepK.memV {k : Key} {v : V} : ∀ {xs : List (Key × V)} {ps : List (Key × P)}, RepK D H xs ps → (k, v) ∈ xs → ∃ p, (k, p) ∈ ps ∧ Rep D H v p
  | _, _, .nil, m => by cases m
  | _, _, .cons r t, m => by
    rcases List.mem_cons.mp m with m | m
    · cases m; exact ⟨_, List.mem_cons_self, r⟩
    · obtain ⟨v, m, r⟩ := RepK.memV t m; exact ⟨v, List.mem_cons_of_mem _ m, r⟩
theorem rd_same {a : Addr} {u v : HO} (nu : ∀ x y, u ≠ .frz x y) (nv : ∀ x y, v ≠ .frz x y) (h1 : Rd H a u) (h2 : Rd H a v) : u = v := by
  rcases h1 with h1 | ⟨o, h1⟩ <;> rcases h2 with h2 | ⟨o', h2⟩ <;> rw [h1] at h2 <;> cases h2
  · rfl
  · exact absurd rfl (nu _ _)
  · exact absurd rfl (nv _ _)
  · rfl
theorem flat_same {x : V} {p q : P} (r : Rep D H x p) (r' : Rep D H x q) (fp : flatP p = true) (fq : flatP q = true) : eqF p q = true := by
  cases r <;> cases r' <;> first | rfl | (cases fp; done) | exact beq_self_eq_true _
/-- the same thing is equal to itself -/
theorem eqX_same (ok : HOk Pg w H h) : ∀ {n : Nat} {x : V} {p q : P} {b : Bool}, Rep D H x p → Rep D H x q → eqX n p q = some b → b = true
  | 0, x, p, q, b, r, r', e => by
    unfold eqX at e
    split at e
    · rename_i f
      cases e
      exact flat_same r r' f.1 f.2
    · cases e
  | n + 1, x, p, q, b, r, r', e => by
    have flat : (if flatP p = true ∧ flatP q = true then some (eqF p q) else if seqFlat p q = true then some false else none) = some b → (seqFlat p q = true → False) → b = true := fun e ns => by
      split at e
      · rename_i f
        cases e
        exact flat_same r r' f.1 f.2
      · by_cases c : seqFlat p q = true
        · exact (ns c).elim
        · first | (rw [if_neg c] at e; cases e) | cases e
    unfold eqX at e
    split at e
    · rename_i ps qs
      split at e
      · obtain ⟨a, xs, rfl, _, h1, r1⟩ := rep_lst r
        obtain ⟨a', xs', ea, _, h2, r2⟩ := rep_lst r'
        cases ea
        cases rd_same (by simp) (by simp) h1 h2
        refine allO_true e fun j p q b e1 e2 e3 => ?_
        obtain ⟨v, hv, rv⟩ := r1.getP e1
        obtain ⟨v', hv', rv'⟩ := r2.getP e2
        rw [hv] at hv'
        cases hv'
        exact eqX_same ok rv rv' e3
      · rename_i hl
        obtain ⟨a, xs, rfl, _, h1, r1⟩ := rep_lst r
        obtain ⟨a', xs', ea, _, h2, r2⟩ := rep_lst r'
        cases ea
        cases rd_same (by simp) (by simp) h1 h2
        exact absurd (r1.length.symm.trans r2.length) hl
    · rename_i ps qs
      obtain ⟨a, xs, rfl, _, h1, r1⟩ := rep_tup r
      obtain ⟨a', xs', ea, _, h2, r2⟩ := rep_tup r'
      cases ea
      cases rd_same (by simp) (by simp) h1 h2
      obtain ⟨c, e1, rfl⟩ := Option.map_eq_some_iff.mp e
      have hl := r1.length.symm.trans r2.length
      rw [allO_true e1 fun j p q b e1 e2 e3 => by
        obtain ⟨v, hv, rv⟩ := r1.getP e1
        obtain ⟨v', hv', rv'⟩ := r2.getP e2
        rw [hv] at hv'
        cases hv'
        exact eqX_same ok rv rv' e3, hl]
      simp
    · rename_i ks ls
      obtain ⟨a, xs, rfl, _, h1, r1⟩ := rep_dct r
      obtain ⟨a', xs', ea, _, h2, r2⟩ := rep_dct r'
      cases ea
      cases rd_same (by simp) (by simp) h1 h2
      obtain ⟨c, e1, rfl⟩ := Option.map_eq_some_iff.mp e
      obtain ⟨_, _, vs, kv, _, _, _, _, _, _, _, _, nd⟩ := dk_rd ok h1
      have ndx : (xs.map (·.1)).Nodup := by rw [RepK.nodup kv]; exact nd
      have nk : (ks.map (·.1)).Nodup := by rw [← r1.keys]; exact ndx
      have nl : (ls.map (·.1)).Nodup := by rw [← r2.keys]; exact ndx
      have hl := r1.length.symm.trans r2.length
      have tr : ∀ k p q b, (k, p) ∈ ks → valP ls k = some q → eqX n p q = some b → b = true := fun k p q b m e1 e2 => by
        obtain ⟨v, mv, rv⟩ := r1.mem m
        obtain ⟨q', mq, rq⟩ := r2.memV mv
        have := val_mem nl mq
        rw [e1] at this
        cases this
        exact eqX_same ok rv rq e2
      obtain ⟨i1, i2⟩ := hitO_all (fun _ => true) e1 fun k p q m e1 b e2 => (tr k p q b m e1 e2).symm
      rw [i2, hl]
      simp only [beq_self_eq_true, Bool.true_and, Bool.and_true, List.all_eq_true]
      intro kp m
      obtain ⟨v, mv, rv⟩ := r1.mem (k := kp.1) (p := kp.2) m
      obtain ⟨q', mq, rq⟩ := r2.memV mv
      rw [val_mem nl mq]
      rfl
    · obtain ⟨a, xs, rfl, _, h1, r1⟩ := rep_lst r
      obtain ⟨a', xs', ea, _, h2, r2⟩ := rep_tup r'
      cases ea
      cases rd_same (by simp) (by simp) h1 h2
    · obtain ⟨a, xs, rfl, _, h1, r1⟩ := rep_tup r
      obtain ⟨a', xs', ea, _, h2, r2⟩ := rep_lst r'
      cases ea
      cases rd_same (by simp) (by simp) h1 h2
    · refine flat e fun s => ?_
      cases r <;> cases r' <;> simp [seqFlat, flatP] at s
end
section
variable {D : Addr → Prop} {H : Hp} {Pg : Program} {w : World} {s : Shared}
theorem isL_of {a : Addr} {xs : List V} (ok : HOk Pg w H s.heap) (h : Rd H a (.lst xs)) : ∃ its : List Value, Vals xs its ∧ s.heap.IsList a its.toArray := by
  obtain ⟨z1, its, n1, v1, e1⟩ := h.ok ok
  exact ⟨its, v1, PySem.IsL.isList e1⟩
theorem isT_of {a : Addr} {xs : List V} (ok : HOk Pg w H s.heap) (h : Rd H a (.tup xs)) : ∃ its : List Value, Vals xs its ∧ s.heap.IsTuple a its.toArray := by
  obtain ⟨z1, its, v1, e1⟩ := h.ok ok
  exact ⟨its, v1, e1⟩
theorem Vals.size {xs : List V} {its : List Value} (v : Vals xs its) : its.toArray.size = xs.length := by
  rw [List.size_toArray, v.length]
/-- element by element -/
theorem pairs_tree {n : Nat} {xs ys : List V} {ps qs : List P} {its its2 : List Value} (v1 : Vals xs its) (v2 : Vals ys its2) (r1 : Reps D H xs ps) (r2 : Reps D H ys qs)
    (ih : ∀ {x y p q u v b}, Rep D H x p → Rep D H y q → RelV x u → RelV y v → eqX n p q = some b → PySem.W.EqTree Pg w s n u v b)
    (all : ∀ (j : Nat) p q, ps[j]? = some p → qs[j]? = some q → ∃ b, eqX n p q = some b) (j : Nat) (h1 : j < its.toArray.size) (h2 : j < its2.toArray.size) :
    PySem.W.EqTree Pg w s n its.toArray[j] its2.toArray[j] (((ps[j]?).bind fun p => (qs[j]?).bind fun q => eqX n p q) == some true) := by
  have k1 : j < xs.length := by rw [← Vals.size v1]; exact h1
  have k2 : j < ys.length := by rw [← Vals.size v2]; exact h2
  obtain ⟨u1, hu1, ru1⟩ := v1.get (List.getElem?_eq_getElem k1)
  obtain ⟨u2, hu2, ru2⟩ := v2.get (List.getElem?_eq_getElem k2)
  have g1 : its.toArray[j] = u1 := by
    have h1' : j < its.length := by simpa using h1
    rw [List.getElem?_eq_getElem h1'] at hu1
    simpa using hu1
  have g2 : its2.toArray[j] = u2 := by
    have h1' : j < its2.length := by simpa using h2
    rw [List.getElem?_eq_getElem h1'] at hu2
    simpa using hu2
  rw [g1, g2]
  obtain ⟨p, ep, rp⟩ := r1.get (List.getElem?_eq_getElem k1)
  obtain ⟨q, eq, rq⟩ := r2.get (List.getElem?_eq_getElem k2)
  obtain ⟨b, eb⟩ := all j p q ep eq
  have := ih rp rq ru1 ru2 eb
  rw [ep, eq]
  simp only [Option.bind_some, eb]
  cases b <;> exact this
theorem KV.mem {k : Key} {u : Value} : ∀ {xs : List (Key × V)} {vs : List (Key × Value)}, KV xs vs → (k, u) ∈ vs → ∃ v, (k, v) ∈ xs ∧ RelV v u
  | _, _, .nil, m => by cases m
  | _, _, .cons (a := a) (b := b) h t, m => by
    rcases List.mem_cons.mp m with m | m
    · cases m; exact ⟨a.2, by have := h.1; simp only at this; rw [← this]; exact List.mem_cons_self, h.2⟩
    · obtain ⟨v, m, r⟩ := KV.mem t m; exact ⟨v, List.mem_cons_of_mem _ m, r⟩
theorem hits_tree {n : Nat} {xs ys : List (Key × V)} {ks ls : List (Key × P)} {va vb : List (Key × Value)} {c : Bool} (ra : KV xs va) (rb : KV ys vb) (r1 : RepK D H xs ks) (r2 : RepK D H ys ls) (nd : (xs.map (·.1)).Nodup)
    (ih : ∀ {x y p q u v b}, Rep D H x p → Rep D H y q → RelV x u → RelV y v → eqX n p q = some b → PySem.W.EqTree Pg w s n u v b) (e1 : hitO (eqX n) ls ks = some c) :
    ∃ e : Key → Bool, (∀ k v y, (k, v) ∈ va → valueAt vb k = some y → PySem.W.EqTree Pg w s n v y (e k)) ∧ c = va.all fun p => (valueAt vb p.1).isSome && e p.1 := by
  have nk : (ks.map (·.1)).Nodup := by rw [← r1.keys]; exact nd
  let e : Key → Bool := fun k => ((valP ks k).bind fun p => (valP ls k).bind fun q => eqX n p q) == some true
  have he : ∀ k p q, (k, p) ∈ ks → valP ls k = some q → ∀ b, eqX n p q = some b → e k = b := fun k p q m e1 b e2 => by
    show (((valP ks k).bind fun p => (valP ls k).bind fun q => eqX n p q) == some true) = b
    rw [val_mem nk m, e1]
    simp only [Option.bind_some, e2]
    cases b <;> rfl
  obtain ⟨i1, i2⟩ := hitO_all e e1 he
  refine ⟨e, fun k v y m hy => ?_, ?_⟩
  · obtain ⟨x, mx, rx⟩ := KV.mem ra m
    obtain ⟨p, mp, rp⟩ := r1.memV mx
    have ro := rb.val k
    rw [hy] at ro
    cases z : valV ys k with
    | none => rw [z] at ro; exact ro.elim
    | some yv =>
      rw [z] at ro
      cases q : valP ls k with
      | none =>
        have := r2.val_none q
        rw [z] at this; cases this
      | some q' =>
        obtain ⟨yv', hz, rq⟩ := r2.val q
        rw [z] at hz
        cases hz
        obtain ⟨b, eb⟩ := i1 k p q' mp q
        rw [he k p q' mp q b eb]
        exact ih rp rq rx ro eb
  · rw [i2]
    have h1 : ∀ k, (valP ls k).isSome = (valueAt vb k).isSome := fun k => by
      have ro := rb.val k
      cases q : valP ls k with
      | none =>
        have := r2.val_none q
        rw [this] at ro
        cases z : valueAt vb k with
        | none => rfl
        | some y => rw [z] at ro; exact ro.elim
      | some q' =>
        obtain ⟨yv', hz, rq⟩ := r2.val q
        rw [hz] at ro
        cases z : valueAt vb k with
        | none => rw [z] at ro; exact ro.elim
        | some y => rfl
    have h2 : ks.map (·.1) = va.map (·.1) := r1.keys.symm.trans (RepK.nodup ra)
    have g : ∀ {α : Type} (l : List (Key × α)), (l.all fun p => (valueAt vb p.1).isSome && e p.1) = (l.map (·.1)).all fun k => (valueAt vb k).isSome && e k := fun l => by rw [List.all_map]; rfl
    have g' : (ks.all fun kp => (valP ls kp.1).isSome && e kp.1) = (ks.all fun p => (valueAt vb p.1).isSome && e p.1) := by
      congr 1
      funext kp
      rw [h1]
    rw [g', g, g, h2]
theorem flat_tree {n : Nat} {x y : V} {p q : P} {u v : Value} {b : Bool} (ok : HOk Pg w H s.heap) (rp : Rep D H x p) (rq : Rep D H y q) (ru : RelV x u) (rv : RelV y v)
    (e : (if flatP p = true ∧ flatP q = true then some (eqF p q) else if seqFlat p q = true then some false else none) = some b) : PySem.W.EqTree Pg w s n u v b := by
  split at e
  · rename_i f
    cases e
    have e1 := eqF_ok rp rq f.1 f.2
    have f2 := (eqF_ok rq rp f.2 f.1).1
    rw [← e1.2]
    exact .leaf fun A hu => eqAt_V ru rv e1.1 f2
  · by_cases c : seqFlat p q = true
    · rw [if_pos c] at e
      cases e
      have lf : ∀ {A : Around}, A.units + n < cLine → A.units < cLine := fun h => Nat.lt_of_le_of_lt (Nat.le_add_right ..) h
      cases rp with
      | lst _ h _ =>
        obtain ⟨its, _, isl⟩ := isL_of ok h
        cases (show u = Value.ref _ from ru)
        cases rq with
        | non => cases (show v = Value.none from rv); exact .leaf fun A hu => SeqAt.EqAt.list_none isl (lf hu)
        | bl => cases (show v = Value.bool _ from rv); exact .leaf fun A hu => SeqAt.EqAt.list_bool _ isl (lf hu)
        | int => obtain ⟨t, rfl⟩ := rv; exact .leaf fun A hu => SeqAt.EqAt.list_int _ _ isl (lf hu)
        | str => obtain ⟨t, rfl⟩ := rv; exact .leaf fun A hu => SeqAt.EqAt.list_str _ _ isl (lf hu)
        | _ => cases c
      | tup _ h _ =>
        obtain ⟨its, _, isl⟩ := isT_of ok h
        cases (show u = Value.ref _ from ru)
        cases rq with
        | non => cases (show v = Value.none from rv); exact .leaf fun A hu => SeqAt.EqAt.tuple_none isl (lf hu)
        | bl => cases (show v = Value.bool _ from rv); exact .leaf fun A hu => SeqAt.EqAt.tuple_bool _ isl (lf hu)
        | int => obtain ⟨t, rfl⟩ := rv; exact .leaf fun A hu => SeqAt.EqAt.tuple_int _ _ isl (lf hu)
        | str => obtain ⟨t, rfl⟩ := rv; exact .leaf fun A hu => SeqAt.EqAt.tuple_str _ _ isl (lf hu)
        | _ => cases c
      | non =>
        cases (show u = Value.none from ru)
        cases rq with
        | lst _ h _ => obtain ⟨its, _, isl⟩ := isL_of ok h; cases (show v = Value.ref _ from rv); exact .leaf fun A hu => SeqAt.EqAt.none_list isl (lf hu)
        | tup _ h _ => obtain ⟨its, _, isl⟩ := isT_of ok h; cases (show v = Value.ref _ from rv); exact .leaf fun A hu => SeqAt.EqAt.none_tuple isl (lf hu)
        | _ => cases c
      | bl =>
        cases (show u = Value.bool _ from ru)
        cases rq with
        | lst _ h _ => obtain ⟨its, _, isl⟩ := isL_of ok h; cases (show v = Value.ref _ from rv); exact .leaf fun A hu => SeqAt.EqAt.bool_list _ isl (lf hu)
        | tup _ h _ => obtain ⟨its, _, isl⟩ := isT_of ok h; cases (show v = Value.ref _ from rv); exact .leaf fun A hu => SeqAt.EqAt.bool_tuple _ isl (lf hu)
        | _ => cases c
      | int =>
        obtain ⟨t, rfl⟩ := ru
        cases rq with
        | lst _ h _ => obtain ⟨its, _, isl⟩ := isL_of ok h; cases (show v = Value.ref _ from rv); exact .leaf fun A hu => SeqAt.EqAt.int_list _ _ isl (lf hu)
        | tup _ h _ => obtain ⟨its, _, isl⟩ := isT_of ok h; cases (show v = Value.ref _ from rv); exact .leaf fun A hu => SeqAt.EqAt.int_tuple _ _ isl (lf hu)
        | _ => cases c
      | str =>
        obtain ⟨t, rfl⟩ := ru
        cases rq with
        | lst _ h _ => obtain ⟨its, _, isl⟩ := isL_of ok h; cases (show v = Value.ref _ from rv); exact .leaf fun A hu => SeqAt.EqAt.str_list _ _ isl (lf hu)
        | tup _ h _ => obtain ⟨its, _, isl⟩ := isT_of ok h; cases (show v = Value.ref _ from rv); exact .leaf fun A hu => SeqAt.EqAt.str_tuple _ _ isl (lf hu)
        | _ => cases c
      | _ => cases rq <;> cases c
    · rw [if_neg c] at e; cases e
theorem eqX_tree (ok : HOk Pg w H s.heap) : ∀ {n : Nat} {x y : V} {p q : P} {u v : Value} {b : Bool}, Rep D H x p → Rep D H y q → RelV x u → RelV y v → eqX n p q = some b → PySem.W.EqTree Pg w s n u v b
  | 0, x, y, p, q, u, v, b, rp, rq, ru, rv, e => by
    unfold eqX at e
    refine flat_tree ok rp rq ru rv ?_
    split at e
    · rename_i f
      rw [if_pos f]
      exact e
    · cases e
  | n + 1, x, y, p, q, u, v, b, rp, rq, ru, rv, e => by
    have e0 := e
    by_cases same : x = y
    · subst same
      have hs := eqX_same ok rp rq e0
      subst hs
      have : u = v ∨ flatP p = true ∧ flatP q = true := by
        cases rp <;> cases rq <;> first | exact .inr ⟨rfl, rfl⟩ | exact .inl ((show u = _ from ru).trans (show v = _ from rv).symm)
      rcases this with z | z
      · rw [z]; exact .same
      · have e1 := eqF_ok rp rq z.1 z.2
        have f2 := (eqF_ok rq rp z.2 z.1).1
        have := flat_same rp rq z.1 z.2
        rw [← this, ← e1.2]
        exact .leaf fun A hu => eqAt_V ru rv e1.1 f2
    unfold eqX at e
    split at e
    · rename_i ps qs
      obtain ⟨a, xs, rfl, _, h1, r1⟩ := rep_lst rp
      obtain ⟨a', ys, rfl, _, h2, r2⟩ := rep_lst rq
      obtain ⟨its, v1, l1⟩ := isL_of ok h1
      obtain ⟨its2, v2, l2⟩ := isL_of ok h2
      cases (show u = Value.ref _ from ru)
      cases (show v = Value.ref _ from rv)
      have ne : a ≠ a' := fun z => same (by rw [z])
      split at e
      · rename_i hl
        obtain ⟨i1, i2⟩ := allO_range e
        have hsz : its.toArray.size = its2.toArray.size := by rw [Vals.size v1, Vals.size v2, r1.length, r2.length, hl]
        have := PySem.W.EqTree.lists (prog := Pg) (w := w) (n := n) ne l1 l2 hsz (pairs_tree v1 v2 r1 r2 (fun a b c d e => eqX_tree ok a b c d e) i1)
        rw [i2]
        rw [Vals.size v1, r1.length] at this
        rw [hl, Nat.min_self, ← hl]
        exact this
      · rename_i hl
        cases e
        exact .listsLen ne l1 l2 (by rw [Vals.size v1, Vals.size v2, r1.length, r2.length]; simpa using hl)
    · rename_i ps qs
      obtain ⟨a, xs, rfl, _, h1, r1⟩ := rep_tup rp
      obtain ⟨a', ys, rfl, _, h2, r2⟩ := rep_tup rq
      obtain ⟨its, v1, l1⟩ := isT_of ok h1
      obtain ⟨its2, v2, l2⟩ := isT_of ok h2
      cases (show u = Value.ref _ from ru)
      cases (show v = Value.ref _ from rv)
      have ne : a ≠ a' := fun z => same (by rw [z])
      obtain ⟨c, e1, rfl⟩ := Option.map_eq_some_iff.mp e
      obtain ⟨i1, i2⟩ := allO_range e1
      have := PySem.W.EqTree.tuples (prog := Pg) (w := w) (n := n) ne l1 l2 (pairs_tree v1 v2 r1 r2 (fun a b c d e => eqX_tree ok a b c d e) i1)
      rw [Vals.size v1, Vals.size v2, r1.length, r2.length] at this
      rw [i2]
      exact this
    · rename_i ks ls
      obtain ⟨a, xs, rfl, _, h1, r1⟩ := rep_dct rp
      obtain ⟨a', ys, rfl, _, h2, r2⟩ := rep_dct rq
      cases (show u = Value.ref _ from ru)
      cases (show v = Value.ref _ from rv)
      have ne : a ≠ a' := fun z => same (by rw [z])
      obtain ⟨c, e1, rfl⟩ := Option.map_eq_some_iff.mp e
      obtain ⟨_, za, va, ra, da⟩ := dk_rd ok h1
      obtain ⟨_, zb, vb, rb, db⟩ := dk_rd ok h2
      have nd : (xs.map (·.1)).Nodup := by
        rw [RepK.nodup ra]
        obtain ⟨_, _, _, _, _, _, _, _, nd⟩ := da
        exact nd
      obtain ⟨e', t, i2⟩ := hits_tree ra rb r1 r2 nd (fun a b c d e => eqX_tree ok a b c d e) e1
      have := PySem.W.EqTree.dicts ne za zb da db t
      rw [i2, ← r1.length, ← r2.length, ra.length, rb.length]
      exact this
    · obtain ⟨a, xs, rfl, _, h1, r1⟩ := rep_lst rp
      obtain ⟨a', ys, rfl, _, h2, r2⟩ := rep_tup rq
      obtain ⟨its, v1, l1⟩ := isL_of ok h1
      obtain ⟨its2, v2, l2⟩ := isT_of ok h2
      cases (show u = Value.ref _ from ru)
      cases (show v = Value.ref _ from rv)
      cases e
      exact .leaf fun A hu => SeqAt.EqAt.list_tuple l1 l2 (Nat.lt_of_le_of_lt (Nat.le_add_right ..) hu)
    · obtain ⟨a, xs, rfl, _, h1, r1⟩ := rep_tup rp
      obtain ⟨a', ys, rfl, _, h2, r2⟩ := rep_lst rq
      obtain ⟨its, v1, l1⟩ := isT_of ok h1
      obtain ⟨its2, v2, l2⟩ := isL_of ok h2
      cases (show u = Value.ref _ from ru)
      cases (show v = Value.ref _ from rv)
      cases e
      exact .leaf fun A hu => SeqAt.EqAt.tuple_list l1 l2 (Nat.lt_of_le_of_lt (Nat.le_add_right ..) hu)
    · exact flat_tree ok rp rq ru rv e
end
/-! .. as an operator: lists, tuples, dicts -/
section
variable {X : Cx} {Wx : WX} {a b : Expr} {F1 F2 : EF} {pos : Pos}
/-- two lists, two tuples, two dicts -/
def seqK : P → P → Bool
  | .lst _, .lst _ => true
  | .tup _, .tup _ => true
  | .dct _, .dct _ => true
  | _, _ => false
def rEqX : R2 := fun x y H Q => ∃ D p q c, Rep D H x p ∧ Rep D H y q ∧ seqK p q = true ∧ eqX 8 p q = some c ∧ Q (.bl c) H
theorem op_eqX (hu : X.A.units + 64 < cLine) : OpR X (compareOp .Eq) rEqX := by
  intro pins s σ H x y v u Q I rx ry h
  obtain ⟨D, p, q, c, rp, rq, sk, e, q'⟩ := h
  have ok := I.hok
  have fin : EP X pins σ Q (.bool c) s := ⟨.bl c, H, I, rfl, q'⟩
  unfold eqX at e
  split at e
  · rename_i ps qs
    obtain ⟨a, xs, rfl, _, h1, r1⟩ := rep_lst rp
    obtain ⟨a', ys, rfl, _, h2, r2⟩ := rep_lst rq
    obtain ⟨its, v1, l1⟩ := isL_of ok h1
    obtain ⟨its2, v2, l2⟩ := isL_of ok h2
    cases (show v = Value.ref _ from rx)
    cases (show u = Value.ref _ from ry)
    split at e
    · rename_i hl
      obtain ⟨i1, i2⟩ := allO_range e
      have hsz : its.toArray.size = its2.toArray.size := by rw [Vals.size v1, Vals.size v2, r1.length, r2.length, hl]
      refine PySem.W.eq_listsT (n := 7) l1 l2 hsz (pairs_tree v1 v2 r1 r2 (fun a b c d e => eqX_tree ok a b c d e) i1) (by omega) ?_
      rw [i2, hl, Nat.min_self, ← hl] at fin
      rw [Vals.size v1, r1.length]
      exact fin
    · rename_i hl
      cases e
      exact SeqAt.eq_list_lengthsAt l1 l2 (by rw [Vals.size v1, Vals.size v2, r1.length, r2.length]; simpa using hl) (by omega) fin
  · rename_i ps qs
    obtain ⟨a, xs, rfl, _, h1, r1⟩ := rep_tup rp
    obtain ⟨a', ys, rfl, _, h2, r2⟩ := rep_tup rq
    obtain ⟨its, v1, l1⟩ := isT_of ok h1
    obtain ⟨its2, v2, l2⟩ := isT_of ok h2
    cases (show v = Value.ref _ from rx)
    cases (show u = Value.ref _ from ry)
    obtain ⟨c, e1, rfl⟩ := Option.map_eq_some_iff.mp e
    obtain ⟨i1, i2⟩ := allO_range e1
    refine PySem.W.eq_tuplesT (n := 7) l1 l2 (pairs_tree v1 v2 r1 r2 (fun a b c d e => eqX_tree ok a b c d e) i1) (by omega) ?_
    rw [i2] at fin
    rw [Vals.size v1, Vals.size v2, r1.length, r2.length]
    exact fin
  · rename_i ks ls
    obtain ⟨a, xs, rfl, _, h1, r1⟩ := rep_dct rp
    obtain ⟨a', ys, rfl, _, h2, r2⟩ := rep_dct rq
    cases (show v = Value.ref _ from rx)
    cases (show u = Value.ref _ from ry)
    obtain ⟨c, e1, rfl⟩ := Option.map_eq_some_iff.mp e
    obtain ⟨_, za, va, ra, da⟩ := dk_rd ok h1
    obtain ⟨_, zb, vb, rb, db⟩ := dk_rd ok h2
    have nd : (xs.map (·.1)).Nodup := by
      rw [RepK.nodup ra]
      obtain ⟨_, _, _, _, _, _, _, _, nd⟩ := id da
      exact nd
    obtain ⟨e', t, i2⟩ := hits_tree ra rb r1 r2 nd (fun a b c d e => eqX_tree ok a b c d e) e1
    refine PySem.W.eq_dictsT (n := 7) za zb da db t (by omega) ?_
    rw [i2, ← r1.length, ← r2.length, ra.length, rb.length] at fin
    exact fin
  · cases sk
  · cases sk
  · rename_i p q n1 n2 n3 n4 n5
    cases p <;> cases q <;> simp_all [seqK]
/-- what a value, or a place, is worth now -/
def fEqX (neg : Bool) : W → W → Μ → O W := fun x y μ => match frzV μ x, frzV μ y with
  | some p, some q => if seqK p q = true then match eqX 8 p q with
      | some c => .ok (.v (.bl (c != neg))) μ
      | none => .bad
    else .bad
  | _, _ => .bad
theorem free_sd {D : Addr → Prop} {H : Hp} : Sd D H (fun _ => False) H := ⟨fun _ _ _ _ z => z, fun _ _ _ z => z, fun _ _ _ z _ => z⟩
theorem frzV_ok {D : Addr → Prop} {as : Ps} {H : Hp} {μ : Μ} {v : V} {w : W} {p : P} (k : Sk D as H μ) (r : RepW D as H v w) (h : frzV μ w = some p) : Rep (fun _ => False) H v p := by
  cases w with
  | v q => cases h; exact Rep.sd free_sd r
  | loc j =>
    obtain ⟨c, q, e3⟩ := Option.bind_eq_some_iff.mp h
    obtain ⟨a, ea, rfl, x⟩ := r.adr k q (fun z => by rw [z] at e3; cases e3)
    exact Rep.sd free_sd (Rep.of_cell x e3)
theorem ad_eqX : AdR2 Wx rEqX (fEqX false) := fun D as μ σ H x y wx wy Q k ra rb g => by
  unfold fEqX at g
  split at g
  · rename_i p q e1 e2
    split at g
    · rename_i sk
      split at g
      · rename_i c e
        refine ⟨_, p, q, c, frzV_ok k ra e1, frzV_ok k rb e2, sk, e, ?_⟩
        have := nowV (x := .bl (c != false)) k g .bl
        simpa using this
      · exact g.elim
    · exact g.elim
  · exact g.elim
abbrev gEqX (neg : Bool) : W → W → Μ → O W := match neg with
  | false => f2or (fEqS false) (f2or (fEqK false) (f2or (fEqD false) (fEqX false)))
  | true => f2or (fEqS true) (f2or (fEqK true) (fEqD true))
theorem pp_eqX (hu : X.A.units + 64 < cLine) (ha : PP X Wx a F1) (hb : PP X Wx b F2) : PP X Wx (.Compare a [.Eq] [b] pos) (fOp (gEqX false) F1 F2) := pp_cmp (op_eq.or ((op_eqK (by omega)).or ((op_eqD hu).or (op_eqX hu)))) (ad_eqS.or (ad_eqK.or (ad_eqD.or ad_eqX))) ha hb
theorem pp_neX (hu : X.A.units + 64 < cLine) (ha : PP X Wx a F1) (hb : PP X Wx b F2) : PP X Wx (.Compare a [.NotEq] [b] pos) (fOp (gEqX true) F1 F2) := pp_ne hu ha hb
end
end Pu
set_option Elab.async false
set_option linter.all false
set_option maxRecDepth 100000
set_option maxHeartbeats 4000000
namespace Pu
open L2 PySem PySem.Spec PyProof.Rows E10
/-- one of two -/
def fAlt (F G : EF) : EF := fun γ μ => (F γ μ).or (G γ μ)
section
variable {X : Cx} {Wx : WX} {a b c e f o : Expr} {es : List Expr} {F F1 F2 F3 : EF} {A FA : AF} {T : TF} {S : SF} {pos p : Pos}
/-! ### stars -/
def fStar (F : EF) (A : AF) : AF := fun γ μ => (F γ μ).bind fun w m => match seqP m w with
  | some ps => (A γ m).bind fun ws m => .ok (ps.map W.v ++ ws) m
  | none => .bad
theorem RepWs.of {D as H} : ∀ {vs : List V} {ps : List P}, Reps D H vs ps → RepWs D as H vs (ps.map W.v)
  | _, _, .nil => .nil
  | _, _, .cons r t => .cons r (RepWs.of t)
theorem RepWs.append {D as H} : ∀ {vs : List V} {ws : List W} {us : List V} {xs : List W}, RepWs D as H vs ws → RepWs D as H us xs → RepWs D as H (vs ++ us) (ws ++ xs)
  | _, _, _, _, .nil, s => s
  | _, _, _, _, .cons r t, s => .cons r (RepWs.append t s)
theorem ad_star {K : PySem.W.Frag} {te ta} (h : Ad Wx te F) (h2 : AdA Wx ta FA) : AdA Wx (StX.tStar K te ta) (fStar F FA) := fun D as γ μ σ H Q k ev g => by
  refine h D as γ μ σ H _ k ev ((G.bind RepW k g).mono fun x H1 ⟨D1, as1, μ1, wx, n1, k1, r1, g1⟩ => ?_)
  split at g1
  · rename_i ps q
    obtain ⟨a, xs, rfl, hs, rs⟩ := seqP_ok (K := K) k1 r1 q
    refine ⟨a, xs, rfl, hs.symm, ?_⟩
    refine h2 D1 as1 γ μ1 σ H1 _ k1 (ev.nx n1) ((G.bind RepWs k1 g1).mono fun ys H2 ⟨D2, as2, μ2, ws, n2, k2, r2, g2⟩ => ?_)
    exact g2.now (R := RepWs) k2 (RepWs.append (RepWs.nx n2 (RepWs.of rs)) r2)
  · exact g1.elim
theorem ppa_star {sp : Pos} (h : PP X Wx e F) (h2 : PPA X Wx es FA) (hs : starEach (.Starred e sp :: es) X.env = (true, eval e X.env) :: starEach es X.env := by rfl) : PPA X Wx (.Starred e sp :: es) (fStar F FA) := let ⟨_, p, ad⟩ := h; let ⟨_, p2, ad2⟩ := h2; ⟨_, StX.pa_star p p2 hs, ad_star ad ad2⟩
/-! ### C.x, an int -/
structure CCst (K : PySem.W.Frag) (C : Addr) (x : Str) (i : Int) : Prop where
  rd : ClX.CRead K C (.type "type")
  at_ : ∃ t, PySem.W.findCls K (.ref C) (.type "type") x = some (.val (.int i t))
theorem ccB_ok {K : PySem.W.Frag} {C : Addr} {x : Str} {i : Int} (h : ccB K C x i = true) : CCst K C x i := by
  obtain ⟨h1, h2⟩ := He.ba h
  refine ⟨⟨(He.ba h1).1, He.eqO_ok (He.ba h1).2⟩, ?_⟩
  split at h2
  · rename_i j t e
    have := of_decide_eq_true h2
    subst this
    exact ⟨t, e⟩
  · cases h2
theorem pp_ccst {C : Addr} {x y : Str} {i : Int} (hg : Gl X y) (hm : X.mg y = some (.ref C)) (h : CCst X.K C x i) (hb : attributeBase (.Name y p) x X.env (eval (.Name y p) X.env) = eval (.Name y p) X.env := by rfl) (hdb : (y == ("__debug__" : Str)) = false := by decide) : PP X Wx (.Attribute (.Name y p) x pos) (fC (.int i)) := by
  refine ⟨_, ClX.pe_cval (pe_glob (v := .ref C) hg hm rfl hdb) hb, fun D as γ μ σ H Q k ev g => ?_⟩
  obtain ⟨t, e⟩ := h.at_
  exact ⟨C, _, .int i, _, rfl, h.rd, ⟨e, ⟨t, rfl⟩⟩, nowV k g .int⟩
/-! ### isinstance(x, (A, B)) -/
def kitAnyP (cs : List Addr) (t : Value) : List Value → Option Bool
  | [] => some false
  | u :: r => match kitP cs t u with
    | some true => some true
    | some false => kitAnyP cs t r
    | none => none
def clsAll : List W → Option (List Value)
  | [] => some []
  | w :: r => (clsP w).bind fun u => (clsAll r).map (u :: ·)
theorem kitAny_ok {K : PySem.W.Frag} {cs : List Addr} (hc : Own K cs) {t : Value} : ∀ {us : List Value} {b : Bool}, kitAnyP cs t us = some b → PySem.W.kitAny K t us = some b
  | [], b, h => h
  | u :: r, b, h => by
    unfold kitAnyP at h
    unfold PySem.W.kitAny
    split at h
    · rename_i e; rw [hc.kit _ _ _ e]; exact h
    · rename_i e; rw [hc.kit _ _ _ e]; exact kitAny_ok hc h
    · cases h
theorem cls_ok {D as H} {v : V} {w : W} {u : Value} (r : RepW D as H v w) (h : clsP w = some u) : ClsV v u := by
  unfold clsP at h
  split at h
  · cases h; cases r; exact .ty _
  · cases h; cases r; exact .own _
  · cases h
theorem clsAll_ok {D as H} : ∀ {vs : List V} {ws : List W} {us : List Value}, RepWs D as H vs ws → clsAll ws = some us → Paired ClsV vs us
  | _, _, _, .nil, h => by cases h; exact .nil
  | _, _, _, .cons r t, h => by
    obtain ⟨u, h1, h2⟩ := Option.bind_eq_some_iff.mp h
    obtain ⟨us, h3, rfl⟩ := Option.map_eq_some_iff.mp h2
    exact .cons (cls_ok r h1) (clsAll_ok t h3)
theorem clsAll_len : ∀ {ws : List W} {us : List Value}, clsAll ws = some us → us.length = ws.length
  | [], _, h => by cases h; rfl
  | w :: r, us, h => by
    obtain ⟨u, h1, h2⟩ := Option.bind_eq_some_iff.mp h
    obtain ⟨us', h3, rfl⟩ := Option.map_eq_some_iff.mp h2
    rw [List.length_cons, List.length_cons, clsAll_len h3]
def fIsiT (cs : List Addr) (F : EF) (A : AF) : EF := fun γ μ => (F γ μ).bind fun w m => (A γ m).bind fun ws m => match tyP cs m w, clsAll ws with
  | some t, some us => if us.length ≤ 10 then match kitAnyP cs t us with
    | some b => .ok (.v (.bl b)) m
    | none => .bad
    else .bad
  | _, _ => .bad
theorem pp_isiT {x : Str} {es : List Expr} {kt tpos} {cs : List Addr} (hc : Own X.K cs) (hg : Gl X x) (hm : X.mg x = none) (ha : PP X Wx a F) (hA : PPA X Wx es A) (hv : bootBuiltins x = some (.builtin "isinstance") := by exact b_isi) (hn : x ≠ "__name__" := by decide) (hdb : (x == ("__debug__" : Str)) = false := by decide)
    (he : starEach [a, .Tuple es kt tpos] X.env = (false, eval a X.env) :: starEach [.Tuple es kt tpos] X.env := by rfl) (he2 : starEach [.Tuple es kt tpos] X.env = (false, eval (.Tuple es kt tpos) X.env) :: starEach [] X.env := by rfl) (hpl : (backTo pos (starEach [.Tuple es kt tpos] X.env)).any (·.1) = false := by rfl) :
    PP X Wx (.Call (.Name x p) [a, .Tuple es kt tpos] [] pos) (fIsiT cs F A) := by
  obtain ⟨te, pe, ad⟩ := ha
  obtain ⟨ta, pa, aa⟩ := hA
  refine ⟨_, pe_callB (call_isiT (X := X)) hg hm hv (pa_cons pe (pa_cons (pe_tup pa) pa_nil he2) he) hn hdb he hpl, fun D as γ μ σ H Q k ev g => ?_⟩
  unfold fIsiT at g
  refine ad D as γ μ σ H _ k ev ((G.bind RepW k g).mono fun v H1 ⟨D1, as1, μ1, w, n1, k1, r1, g1⟩ => ?_)
  refine aa D1 as1 γ μ1 σ H1 _ k1 (ev.nx n1) ((G.bind RepWs k1 g1).mono fun vs H2 ⟨D2, as2, μ2, ws, n2, k2, r2, g2⟩ => ?_)
  split at g2
  · rename_i t us e1 e2
    split at g2
    · rename_i hl
      split at g2
      · rename_i b e3
        have pr := clsAll_ok r2 e2
        have lv : vs.length = us.length := r2.length.trans (clsAll_len e2).symm
        refine ⟨sz_of (by omega), fun q nq => ?_⟩
        have s := new_same' (o := .tup vs) nq
        have k3 := k2.same s
        have r1' : RepW D2 as2 (upd H2 q (.tup vs)) v w := (r1.nx n2).nx (.of_same s)
        exact ⟨v, q, vs, t, us, b, rfl, upd_same, pr, tyP_ok (fun C hC => hc.ins C hC) k3 r1' e1, kitAny_ok hc e3, nowV k3 (g2.nx k2 k3 (.of_same s)) .bl⟩
      · exact g2.elim
    · exact g2.elim
  · exact g2.elim
/-! ### slices of tuples too -/
def fSlT : W → Option Int → Option Int → Μ → O W := fun w lo hi μ => match w with
  | .v (.tup ps) => .ok (.v (.tup (cutP ps lo hi))) μ
  | _ => .bad
theorem ad_slT {K : PySem.W.Frag} : AdSl Wx (rSlA K) fSlT := fun D as μ σ H x w lo hi Q k r g => by
  unfold fSlT at g
  split at g
  · rename_i ps
    obtain ⟨a, xs, rfl, nd, hr, rs⟩ := rep_tup r
    refine ⟨a, xs, rfl, .inl hr, fun z => ?_, fun z p np => newT k g (cut_rep rs lo hi) p np⟩
    have e : cutP ps lo hi = ps := by
      unfold cutP
      rw [← rs.length, z.1, z.2, List.drop_zero, Nat.sub_zero, rs.length, List.take_length]
    rw [e] at g
    exact nowV k g (.tup nd hr rs)
  · exact g.elim
abbrev gSlX : W → Option Int → Option Int → Μ → O W := fun w lo hi μ => (gSl w lo hi μ).or (fSlT w lo hi μ)
theorem pp_slX {lo hi : Option Expr} {L Hi : OF} {p2 : Pos} (he : PP X Wx e F) (hl : PPO X Wx lo L) (hu : PPO X Wx hi Hi) : PP X Wx (.Subscript e (.Slice lo hi none p2) pos) (fSl gSlX F L Hi) := pp_slice ((sl_list.or sl_str).or sl_tupA) ((ad_slL.or ad_slS).or ad_slT) he hl hu
/-! ### d.get(k, v); xs.pop(i) -/
def mDGet2 : W → List W → Μ → O W := fun w ws μ => match rdD μ w, ws with
  | some ps, [.v q, z] => match keyP q with
    | some k => match valP ps k with
      | some p => .ok (.v p) μ
      | none => .ok z μ
    | none => .bad
  | _, _ => .bad
def fGet2 (F E Z : EF) : EF := fun γ μ => (F γ μ).bind fun w m => if (rdD m w).isSome = true then (E γ m).bind fun y m => (Z γ m).bind fun z m => mDGet2 w [y, z] m else .bad
theorem pp_popAt {apos cpos : Pos} (ho : PP X Wx o F1) (he : PP X Wx e F2) (hbase : attributeBase o "pop" X.env (eval o X.env) = eval o X.env := by rfl)
    (hfew : ((backTo cpos (starEach [e] X.env)).all (fun x => !x.1) && (backToKw cpos (keywordEach [] X.env)).all (fun x => x.1.isSome)
      && decide ([e].length + ([] : List Keyword).length + (if ([] : List Keyword).isEmpty then 0 else 1) < 30)) = true := by rfl)
    (hline : (apos.endLine == cpos.line) = true := by rfl) (hs : starEach [e] X.env = (false, eval e X.env) :: starEach [] X.env := by rfl) (hpl : (backTo cpos (starEach [] X.env)).any (·.1) = false := by rfl) :
    PP X Wx (.Call (.Attribute o "pop" apos) [e] [] cpos) (fBM "list" mPopAt F1 (fCons F2 fNil)) := by
  refine pp_bm PySem.F.plainAttrs_list PySem.F.slot_list_pop PySem.F.type_list_pop mt_popAt am_popAt ho (ppa_cons he ppa_nil hs) ?_ ?_ ?_ ?_ ?_
  all_goals assumption
/-! ### a list taken apart -/
/-! ### tests of several kinds -/
theorem pt_eqX (hu : X.A.units + 64 < cLine) (ha : PP X Wx a F1) (hb : PP X Wx b F2) : PPT X Wx (.Compare a [.Eq] [b] pos) (fTest (fOp (gEqX false) F1 F2)) := ptt_cmp (op_eq.or ((op_eqK (by omega)).or ((op_eqD hu).or (op_eqX hu)))) (ad_eqS.or (ad_eqK.or (ad_eqD.or ad_eqX))) ha hb
theorem pt_neX (hu : X.A.units + 64 < cLine) (ha : PP X Wx a F1) (hb : PP X Wx b F2) : PPT X Wx (.Compare a [.NotEq] [b] pos) (fTest (fOp (gEqX true) F1 F2)) := pt_ne hu ha hb
/-! ### a turn of a loop leaves no places behind -/
def trimW (n : Nat) : Option W → Option W
  | some (.loc j) => if j < n then some (.loc j) else none
  | x => x
def trimO (n : Nat) : OS → OS
  | .nx γ m => .nx (γ.map (trimW n)) (m.take n)
  | .ct γ m => .ct (γ.map (trimW n)) (m.take n)
  | o => o
def sTrim (S : SF) : SF := fun γ μ => trimO μ.length (S γ μ)
theorem trim_env {D D' : Addr → Prop} {as as' : Ps} {H H' : Hp} {μ m : Μ} {σ : L2.St} {γ : Γ} (k : Sk D as H μ) (k' : Sk D' as' H' m) (n : Nx D as H D' as' H') (ev : EnvR D' as' H' σ γ) : EnvR D' (as'.take as.length) H' σ (γ.map (trimW μ.length)) := by
  refine ⟨by rw [List.length_map]; exact ev.1, fun i w e => ?_⟩
  rw [List.getElem?_map] at e
  obtain ⟨x, e1, e2⟩ := Option.map_eq_some_iff.mp e
  cases x with
  | none => cases e2
  | some u =>
    cases u with
    | v p =>
      cases e2
      obtain ⟨v, h1, h2⟩ := ev.2 i _ e1
      exact ⟨v, h1, h2⟩
    | loc j =>
      unfold trimW at e2
      split at e2
      · rename_i j' hj
        cases hj
        split at e2
        · rename_i lt
          cases e2
          obtain ⟨v, h1, x, h2, h3⟩ := ev.2 i _ e1
          exact ⟨v, h1, x, by rw [List.getElem?_take_of_lt (by rw [k.len]; exact lt)]; exact h2, h3⟩
        · cases e2
      · rename_i h
        exact absurd rfl (h j)
theorem ad_trim {ts : TS} (h : AdS Wx ts S) : AdS Wx ts (sTrim S) := fun D as γ μ σ H E k ev g => by
  refine h D as γ μ σ H E k ev ?_
  unfold sTrim at g
  cases o : S γ μ with
  | nx γ' m =>
    rw [o] at g
    intro σ' D' as' H' n' k' e' l'
    obtain ⟨n0, k0⟩ := k.cut k' n'
    exact g σ' D' _ H' n0 k0 (trim_env k k' n' e') l'
  | ct γ' m =>
    rw [o] at g
    intro σ' D' as' H' n' k' e' l'
    obtain ⟨n0, k0⟩ := k.cut k' n'
    exact g σ' D' _ H' n0 k0 (trim_env k k' n' e') l'
  | bk γ' m => rw [o] at g; exact g
  | ret w m => rw [o] at g; exact g
  | exc C fs γ' m => rw [o] at g; exact g
  | bad => rw [o] at g; exact g
theorem pps_trim {sts : List Stmt} (h : PPSs X Wx sts S) : PPSs X Wx sts (sTrim S) := let ⟨_, p, ad⟩ := h; ⟨_, p, ad_trim ad⟩
end
end Pu
set_option Elab.async false
set_option linter.all false
set_option maxRecDepth 100000
set_option maxHeartbeats 4000000
namespace Pu
open L2 PySem PySem.Spec PyProof.Rows E10
/-! ### defs with defaults -/
theorem FunD.okGX {P : Program} {w : World} {K : PySem.W.Frag} {mg : Str → Option Value} {base : Heap} {x qual : Str} {st : Stmt} {dvs : List V} {f : Addr} {fd : FuncData} {N ps : List Str} {k : Nat} {sp : Sp} (F : FunD K x qual (defArgs st) (defBody st) (defScope st) dvs [] f fd) (S : FnScope N ps (defScope st)) (few : ∀ {vs H Q E}, sp vs H Q E → vs.length = ps.length)
    (body : ∀ (cdv : Value) (A : Around) (fr : List Env) (s : Shared) (H : Hp) (vs : List V) (Q : VK) (E : XK), A.guards = some [] → Room k (A.deeper (envOfC qual (defScope st) s.heap.objs.size f cdv)) → sp vs H Q E →
      ∃ t, PSs (cxOf (L2.CX P w) P w K mg base N qual (defScope st) f cdv A fr s H E) (defBody st) t ∧ t { nx := fun _ H' => Q .non H', rt := Q } (start N vs) H) : FnX P w K mg base (k + 1) f fd ps sp := by
  obtain ⟨oc, od, dV, kV, doc, pm, an, cdv, ct, osl, rfl, lk, code, _, _⟩ := F.ex
  refine ⟨few, fun {A fr s H ar us vs Q E} hG room env bind val want => ?_⟩
  have inK : K.In s.heap := env.mod.kin.keeps fun c o e => (env.bs c o e).1
  refine codeAny_call_function room.depth (inK _ _ lk) rfl S.co S.gen rfl (PySem.W.codeRec_of inK code) (bind _ _ _ _ ?_)
  refine wpAny_newFunctionEnv_cells S.kind (fun ⟨n, v⟩ hy => (S.par n (List.of_mem_zip hy).1).elim .inl fun q => .inr ⟨q, PySem.W.cellsFrom_some _ _ _ (.inl q)⟩) fun own same s1 x => ?_
  subst same
  obtain ⟨t, T, wish⟩ := body cdv A fr s H vs Q E hG (room.deeper _) want
  have begun : Inv (cxOf (L2.CX P w) P w K mg base N qual (defScope st) f cdv A fr s H E) [] (start N vs) H s1 := inv_start S room.hd env (few want) val x
  refine ⟨(env.mod.nolimit.keeps fun c o e => (env.bs c o e).1).keeps x.toInCall.keep, codeAny_func (wpAny_mono (T.run [] s1 _ H _ begun wish) (fun fl s2 ends => ?_) fun e s' z => z)⟩
  match fl, ends with
  | .ret _, ⟨v, _, H2, J, rv, q⟩ => exact ⟨v, H2, J.os, J.bare, J.base, J.hok, rv, q⟩
  | .next, ⟨_, H2, J, q⟩ => exact ⟨V.non, H2, J.os, J.bare, J.base, J.hok, rfl, q⟩
  | .brk, ⟨_, _, _, q⟩ => exact q.elim
  | .cont, ⟨_, _, _, q⟩ => exact q.elim
section
variable {P : Program} {w : World} {K : PySem.W.Frag} {mg : Str → Option Value} {base : Heap}
theorem FunD.pp {x qual : Str} {st : Stmt} {dvs : List V} {f : Addr} {fd : FuncData} {N ps : List Str} {k : Nat} {S : SF} (F : FunD K x qual (defArgs st) (defBody st) (defScope st) dvs [] f fd) (Sc : FnScope N ps (defScope st))
    (body : ∀ (cdv : Value) (A : Around) (fr : List Env) (s : Shared) (H : Hp) (E : XK), A.guards = some [] → Room k (A.deeper (envOfC qual (defScope st) s.heap.objs.size f cdv)) →
      PPSs (cxOf (L2.CX P w) P w K mg base N qual (defScope st) f cdv A fr s H E) (fun c d _ H' => E c d H') (defBody st) S) : FnX P w K mg base (k + 1) f fd ps (spP ps.length (fDef ps.length N.length S)) := by
  refine FunD.okGX F Sc (fun h => h.1) (fun cdv A fr s H vs Q E hG hr h => ?_)
  obtain ⟨hl, D, as, ws, μ, k, r, g⟩ := h
  obtain ⟨t, p, ad⟩ := body cdv A fr s H E hG hr
  exact ⟨t, p, def_in ad hl k r g⟩
end
end Pu
set_option Elab.async false
set_option linter.all false
set_option maxRecDepth 100000
set_option maxHeartbeats 4000000
set_option Elab.async false
set_option linter.all false
set_option maxRecDepth 100000
set_option maxHeartbeats 4000000
namespace Pu
open L2 PySem PySem.Spec PyProof.Rows E10
/-! ### what lay aside becomes a place at the end -/
theorem Sk.show {D D' : Addr → Prop} {as as' : Ps} {H H' : Hp} {μ' : Μ} {a : Addr} {c : PC} (k : Sk D' as' H' μ') (n : Nx D as H D' as' H') (na : H a = none) (d : D' a) (nj : ∀ j : Nat, as'[j]? ≠ some (some a)) (h : CellOk D' H' a c) :
    Nx D as H D' (as' ++ [some a]) H' ∧ Sk D' (as' ++ [some a]) H' (μ' ++ [c]) := by
  have at' : ∀ (j : Nat) (b : Addr), (as' ++ [some a])[j]? = some (some b) → as'[j]? = some (some b) ∨ (j = as'.length ∧ b = a) := fun j b e => by
    by_cases c : j < as'.length
    · rw [List.getElem?_append_left c] at e
      exact .inl e
    · rw [List.getElem?_append_right (Nat.le_of_not_lt c)] at e
      cases z : j - as'.length with
      | zero =>
        rw [z] at e
        refine .inr ⟨by omega, ?_⟩
        have := Option.some.inj (Option.some.inj e)
        exact this.symm
      | succ n =>
        rw [z] at e
        cases e
  refine ⟨⟨fun j x e => (n.pre j x e).elim (fun z => .inl (get_pre z)) fun z => .inr (get_pre z), n.ex, n.mono, n.new, fun j b e => (at' j b e).elim (n.fresh j b) fun z => .inr (z.2 ▸ na), n.hid, n.rd, n.sol, n.lck⟩, ?_, k.dn, fun j b e => ?_, fun i j b e1 e2 => ?_, fun j b e => ?_, fun j e => ?_⟩
  · rw [List.length_append, List.length_append, k.len]
    rfl
  · rcases at' j b e with e | ⟨_, rfl⟩
    · exact k.inD j b e
    · exact d
  · rcases at' i b e1 with q1 | ⟨q1, z1⟩
    · rcases at' j b e2 with q2 | ⟨q2, z2⟩
      · exact k.inj i j b q1 q2
      · exact absurd (z2 ▸ q1) (nj i)
    · rcases at' j b e2 with q2 | ⟨q2, z2⟩
      · exact absurd (z1 ▸ q2) (nj j)
      · rw [q1, q2]
  · rcases at' j b e with e | ⟨rfl, rfl⟩
    · obtain ⟨c', q, x⟩ := k.ok j b e
      refine ⟨c', ?_, x⟩
      rw [List.getElem?_append_left (List.getElem?_eq_some_iff.mp q).1]
      exact q
    · refine ⟨c, ?_, h⟩
      rw [k.len, List.getElem?_append_right (Nat.le_refl _), Nat.sub_self]
      rfl
  · by_cases c : j < as'.length
    · rw [List.getElem?_append_left c] at e
      rw [List.getElem?_append_left (by rw [← k.len]; exact c)]
      exact k.dead j e
    · rw [List.getElem?_append_right (Nat.le_of_not_lt c)] at e
      cases z : j - as'.length with
      | zero => rw [z] at e; cases e
      | succ n => rw [z] at e; cases e
/-- a dict laid aside, then what it is to be: a value or a place -/
theorem asideD {Wx : WX} {σ : L2.St} {D D' : Addr → Prop} {as as' : Ps} {H H' : Hp} {μ' : Μ} {a : Addr} {c : Kind} {xs : List (Key × V)} {ps : List (Key × P)} {Q : VK} (k : Sk D' as' H' μ') (n : Nx D as H D' as' H') (na : H a = none) (nd : ¬ D a) (d : D' a) (nj : ∀ j : Nat, as'[j]? ≠ some (some a))
    (g : G Wx σ RepW D as H (mkD c ps μ') Q) (rs : RepK D' H' xs ps) : Q (.ref a) (upd H' a (.dK xs)) := by
  obtain ⟨s, k2⟩ := k.poke (o := .dK xs) d nj
  have n2 := n.poke (o := .dK xs) d na nd
  cases c with
  | val =>
    obtain ⟨s3, n3, k3⟩ := k2.free n2 nj nd
    exact g (.ref a) _ as' _ n3 k3 (show Rep _ _ _ _ from .dct (fun z => z.2 rfl) (.inl upd_same) (RepK.sd s3 (RepK.sd s rs)))
  | cell =>
    obtain ⟨n3, k3⟩ := k2.show n2 na d nj (c := .dct ps) ⟨xs, upd_same, RepK.sd s rs⟩
    exact g (.ref a) _ _ _ n3 k3 (.mk (by rw [← k2.len]; exact last_get))
/-! ### {k: v, ..} -/
abbrev DF := Γ → Μ → O (List (Key × P))
def RepD : RL (List (V × V)) (List (Key × P)) := fun D as H vs ps => ∃ kvs : List (Key × V), vs = kvs.map (fun kv => (kV kv.1, kv.2)) ∧ RepK D H kvs ps
def AdD (Wx : WX) (trs : List (TE × TE)) (F : DF) : Prop := ∀ D as γ μ σ H Q, Sk D as H μ → EnvR D as H σ γ → G Wx σ RepD D as H (F γ μ) Q → tPairs trs σ H Q
def PPD (X : Cx) (Wx : WX) (pos : Pos) (keys : List (Option Expr)) (values : List Expr) (F : DF) : Prop := ∃ trs, PPs X pos keys values trs ∧ AdD Wx trs F
def fDNil : DF := fun _ μ => .ok [] μ
def fDCons (Fk Fv : EF) (R : DF) : DF := fun γ μ => (Fk γ μ).bind fun wk m => (Fv γ m).bind fun wv m => (R γ m).bind fun l m => match wk, wv with
  | .v pk, .v p => match keyP pk with
    | some k => .ok ((k, p) :: l) m
    | none => .bad
  | _, _ => .bad
def fDisp (c : Kind) (R : DF) : EF := fun γ μ => (R γ μ).bind fun l m => if l.length ≤ 15 then mkD c (mergeP [] l) m else .bad
section
variable {X : Cx} {Wx : WX} {pos : Pos} {kx vx : Expr} {ks : List (Option Expr)} {vs : List Expr} {Fk Fv F Fe : EF} {R : DF} {e : Expr}
theorem ppd_nil : PPD X Wx pos [] [] fDNil := ⟨_, L2.pps_nil, fun D as γ μ σ H Q k ev g => g.now (R := RepD) k ⟨[], rfl, .nil⟩⟩
theorem ppd_cons (hk : PP X Wx kx Fk) (hv : PP X Wx vx Fv) (hr : PPD X Wx pos ks vs R) : PPD X Wx pos (some kx :: ks) (vx :: vs) (fDCons Fk Fv R) := by
  obtain ⟨tk, pk, ak⟩ := hk
  obtain ⟨tv, pv, av⟩ := hv
  obtain ⟨tr, pr, ar⟩ := hr
  refine ⟨_, L2.pps_cons pk pv pr, fun D as γ μ σ H Q k ev g => ?_⟩
  refine ak D as γ μ σ H _ k ev ((G.bind RepW k g).mono fun x H1 ⟨D1, as1, μ1, wk, n1, k1, r1, g1⟩ => ?_)
  refine av D1 as1 γ μ1 σ H1 _ k1 (ev.nx n1) ((G.bind RepW k1 g1).mono fun y H2 ⟨D2, as2, μ2, wv, n2, k2, r2, g2⟩ => ?_)
  refine ar D2 as2 γ μ2 σ H2 _ k2 ((ev.nx n1).nx n2) ((G.bind RepD k2 g2).mono fun z H3 ⟨D3, as3, μ3, l, n3, k3, r3, g3⟩ => ?_)
  split at g3
  · split at g3
    · rename_i key hk
      obtain ⟨kvs, rfl, rk⟩ := r3
      obtain rfl := keyP_ok (show Rep D1 H1 x _ from r1) hk
      exact g3.now (R := RepD) k3 ⟨(key, y) :: kvs, rfl, .cons (Rep.sd n3.sd (show Rep D2 H2 y _ from r2)) rk⟩
    · exact g3.elim
  · exact g3.elim
theorem pp_disp (c : Kind) (h : PPD X Wx pos ks vs R) (hall : ks.all (·.isSome) = true := by rfl) (hl : ks.length = vs.length := by rfl) (h0 : ks ≠ [] := by simp) (h15 : ks.length ≤ 15 := by decide) : PP X Wx (.Dict ks vs pos) (fDisp c R) := by
  obtain ⟨tr, pr, ar⟩ := h
  refine ⟨_, pe_disp pr hall hl h0 h15, fun D as γ μ σ H Q k ev g => ?_⟩
  intro p np
  obtain ⟨n0, k0, nj0⟩ := k.hide (o := .dK []) np
  have nd := k.nd np
  have g0 : G Wx σ RepW D as H ((R γ μ).bind fun l m => if l.length ≤ 15 then mkD c (mergeP [] l) m else .bad) Q := g
  have gx : G Wx σ RepD D as H (R γ μ) fun ps H1 => ∃ D1 as1 μ1 l, Nx D as H D1 as1 H1 ∧ Sk D1 as1 H1 μ1 ∧ RepD D1 as1 H1 ps l ∧ G Wx σ RepW D1 as1 H1 (if l.length ≤ 15 then mkD c (mergeP [] l) μ1 else .bad) Q := G.bind RepD k g0
  refine ar (plusD D p) as γ μ σ (upd H p (.dK [])) _ k0 (ev.nx n0) ?_
  cases o : R γ μ with
  | bad => rw [o] at g0; exact g0.elim
  | exc C fs m =>
    rw [o] at g0
    exact G.nx (R := RepW) (o := (.exc C fs m : O W)) (Q := Q) k k0 n0 g0
  | ok l m =>
    rw [o] at g0
    intro ps D1 as1 H1 n1 k1 r1
    obtain ⟨kvs, rfl, rk⟩ := r1
    have e1 : H1 p = some (.dK []) := n1.hid p _ (.inr rfl) nj0 upd_same
    have nj1 := n1.notin nj0 (o := .dK []) upd_same
    have d1 : D1 p := n1.mono p (.inr rfl) nj0
    have n01 := n0.trans k k0 n1
    have g1 : G Wx σ RepW D as H (if l.length ≤ 15 then mkD c (mergeP [] l) m else .bad) Q := g0
    split at g1
    · rename_i hl2
      refine ⟨e1, kvs, rfl, by rw [rk.length]; exact hl2, ?_⟩
      exact asideD k1 n01 np nd d1 nj1 g1 (RepK.merge rk .nil)
    · exact g1.elim
end
/-! ### xs.extend(ys) -/
end Pu
set_option Elab.async false
set_option linter.all false
set_option maxRecDepth 100000
set_option maxHeartbeats 4000000
set_option Elab.async false
set_option linter.all false
set_option maxRecDepth 100000
set_option maxHeartbeats 4000000
set_option Elab.async false
set_option linter.all false
set_option maxRecDepth 100000
set_option maxHeartbeats 4000000
set_option Elab.async false
set_option linter.all false
set_option maxRecDepth 100000
set_option maxHeartbeats 4000000
set_option Elab.async false
set_option linter.all false
set_option maxRecDepth 100000
set_option maxHeartbeats 4000000
namespace Pu
open L2 PySem PySem.Spec PyProof.Rows E10
/-! ### comprehensions with two generators -/
def lc2Go (f : GF) (T : TF) (I1 : IF) (f1 : GF) (T1 : TF) (E : EF) (vs1 : List Nat) (γ : Γ) : List P → Μ → O (List P)
  | [], m => .ok [] m
  | p :: r, m => match f p γ with
    | none => .bad
    | some γ1 => (T γ1 m).nx.bind fun b m1 => if b = true then (I1 γ1 m1).nx.bind fun ps1 m2 => if ps1.length ≤ 1000 then (lcGo f1 T1 E (wipeG γ1 vs1) ps1 m2).bind fun ys m3 => (lc2Go f T I1 f1 T1 E vs1 γ r m3).bind fun zs m4 => .ok (ys ++ zs) m4 else .bad else lc2Go f T I1 f1 T1 E vs1 γ r m1
def fLc2 (I : IF) (f : GF) (T : TF) (I1 : IF) (f1 : GF) (T1 : TF) (E : EF) (vs vs1 : List Nat) : EF := fun γ μ => (I γ μ).bind fun ps m => (if ps.length ≤ 1000 then lc2Go f T I1 f1 T1 E vs1 (wipeG γ vs) ps m else .bad).bind fun qs m => .ok (.v (.lst qs)) m
theorem out_it {J : It} {n : Nat} {G : Hp → Prop} {Y : Nat → Hp → V → Hp → Prop} (w : Walk J n G Y) {g : TG} {tt : TT} {B : (Hp → Prop) → L2.St → Hp → Prop} {vs : List Nat} {σ : L2.St} {H1 : Hp} {Qd : Hp → Prop} (Pv : Nat → Hp → Prop) (h0 : Pv 0 H1) (hG : ∀ i H, i ≤ n → Pv i H → G H)
    (hs : ∀ i x H H', i < n → Pv i H → Y i H x H' → g x (wipe σ vs) H' fun σ2 H2 => wipe σ2 vs = wipe σ vs ∧ tt σ2 H2 fun b H3 => if b = true then B (Pv (i + 1)) σ2 H3 else Pv (i + 1) H3) (hd : ∀ H, Pv n H → Qd H) :
    ∃ W : Nat → Nat → Hp → Prop, (∃ m, W 0 m H1) ∧ ∀ i m H, W i m H →
      (J.stop i H ∧ Qd H) ∨ (J.go i H ∧ ∃ Nx : Hp → Prop, (∀ H', Nx H' → ∃ m', m' < m ∧ W (i + 1) m' H') ∧ ∀ x H', J.yld i H x H' → g x (wipe σ vs) H' fun σ2 H2 => wipe σ2 vs = wipe σ vs ∧ tt σ2 H2 fun b H3 => if b = true then B Nx σ2 H3 else Nx H3) := by
  refine ⟨fun i m H => m = n - i ∧ i ≤ n ∧ Pv i H, ⟨n, by simp, Nat.zero_le _, h0⟩, ?_⟩
  rintro i m H ⟨rfl, hi, p⟩
  have q := hG i H hi p
  by_cases hlt : i < n
  · refine .inr ⟨w.goes i H hlt q, Pv (i + 1), fun H' p' => ⟨n - (i + 1), by omega, rfl, hlt, p'⟩, fun x H' y => hs i x H H' hlt p (w.yields i H x H' hlt q y)⟩
  · have e : i = n := by omega
    subst e
    exact .inl ⟨w.stops H q, hd H p⟩
theorem in_it {J : It} {n : Nat} {G : Hp → Prop} {Y : Nat → Hp → V → Hp → Prop} (w : Walk J n G Y) {g : TG} {tt : TT} {te : TE} {vs : List Nat} {σ : L2.St} {H1 : Hp} {D : Addr} {Qd : Hp → Prop} (Pv : Nat → Hp → Prop) (h0 : Pv 0 H1) (hG : ∀ i H, i ≤ n → Pv i H → G H)
    (hs : ∀ i x H H', i < n → Pv i H → Y i H x H' → g x (wipe σ vs) H' fun σ2 H2 => wipe σ2 vs = wipe σ vs ∧ tt σ2 H2 fun b H3 =>
      if b = true then te σ2 H3 fun y H4 => ∃ acc, H4 D = some (.lst acc) ∧ acc.length < sizeLine ∧ Pv (i + 1) (upd H4 D (.lst (acc ++ [y]))) else Pv (i + 1) H3) (hd : ∀ H, Pv n H → Qd H) :
    ∃ W : Nat → Nat → Hp → Prop, (∃ m, W 0 m H1) ∧ ∀ i m H, W i m H →
      (J.stop i H ∧ Qd H) ∨ (J.go i H ∧ ∃ Nx : Hp → Prop, (∀ H', Nx H' → ∃ m', m' < m ∧ W (i + 1) m' H') ∧ ∀ x H', J.yld i H x H' → g x (wipe σ vs) H' fun σ2 H2 => wipe σ2 vs = wipe σ vs ∧ tt σ2 H2 fun b H3 =>
        if b = true then te σ2 H3 fun y H4 => ∃ acc, H4 D = some (.lst acc) ∧ acc.length < sizeLine ∧ Nx (upd H4 D (.lst (acc ++ [y]))) else Nx H3) := by
  refine ⟨fun i m H => m = n - i ∧ i ≤ n ∧ Pv i H, ⟨n, by simp, Nat.zero_le _, h0⟩, ?_⟩
  rintro i m H ⟨rfl, hi, p⟩
  have q := hG i H hi p
  by_cases hlt : i < n
  · refine .inr ⟨w.goes i H hlt q, Pv (i + 1), fun H' p' => ⟨n - (i + 1), by omega, rfl, hlt, p'⟩, fun x H' y => hs i x H H' hlt p (w.yields i H x H' hlt q y)⟩
  · have e : i = n := by omega
    subst e
    exact .inl ⟨w.stops H q, hd H p⟩
theorem SdL.trans' {D D' D2 : Addr → Prop} {H H' H2 : Hp} (s : SdL D H D' H') (t : SdL D' H' D2 H2) : SdL D H D2 H2 := by
  have nd : ∀ a u, ¬ D a → Rd H a u → ¬ D' a := fun a u n r => s.toSd.rd n r
  refine ⟨⟨fun a o n e => ?_, fun a u n r => t.r a u (nd a u n r) (s.r a u n r), fun a o n e z => t.s a o (s.d a o n e) (s.s a o n e z) z⟩, fun a o u e => t.l a o u (s.l a o u e)⟩
  exact t.toSd.rd (s.d a o n e) (s.r a o n (.inl e))
theorem EnvR.poke {D : Addr → Prop} {as : Ps} {H H' : Hp} {σ : L2.St} {γ : Γ} (r : EnvR D as H σ γ) (s : Sd D H D H') : EnvR D as H' σ γ := ⟨r.1, fun i w e => by
  obtain ⟨v, e1, r1⟩ := r.2 i w e
  refine ⟨v, e1, ?_⟩
  cases w with
  | v p => exact Rep.sd s r1
  | loc j => exact r1⟩
theorem SdL.poke {D : Addr → Prop} {H : Hp} {a : Addr} {l l' : List V} (s : Sd D H D (upd H a (.lst l'))) (e : H a = some (.lst l)) : SdL D H D (upd H a (.lst l')) := ⟨s, fun b o u h => by
  rw [upd_ne fun z => by subst z; rw [e] at h; cases h]
  exact h⟩
structure InAt (σ : L2.St) (γ : Γ) (D1 : Addr → Prop) (as1 : Ps) (H1 : Hp) (D4 : Addr → Prop) (H4 : Hp) (tot : O (List P)) (go : List P → Μ → O (List P)) (Dl : Addr) (qs0 : List P) (ps : List P) (i : Nat) (H' : Hp) : Prop where
  ex : ∃ D' as' acc qs m', Nx D1 as1 H1 D' as' H' ∧ EnvR D' as' H' σ γ ∧ SdL D4 H4 D' H' ∧ Sk D' as' H' m' ∧ D' Dl ∧ (∀ j : Nat, as'[j]? ≠ some (some Dl)) ∧ H' Dl = some (.lst acc) ∧ Reps D' H' acc (qs0 ++ qs) ∧ qs.length ≤ i ∧ tot = (go (ps.drop i) m').bind fun r m => .ok (qs ++ r) m
structure Lc2At (D1 : Addr → Prop) (as1 : Ps) (H1 : Hp) (tot : O (List P)) (go : List P → Μ → O (List P)) (Dl : Addr) (ps : List P) (i : Nat) (H' : Hp) : Prop where
  ex : ∃ D' as' acc qs m', Nx D1 as1 H1 D' as' H' ∧ Sk D' as' H' m' ∧ D' Dl ∧ (∀ j : Nat, as'[j]? ≠ some (some Dl)) ∧ H' Dl = some (.lst acc) ∧ Reps D' H' acc qs ∧ qs.length ≤ i * 1000 ∧ tot = (go (ps.drop i) m').bind fun r m => .ok (qs ++ r) m
theorem ad_lc2 {Wx : WX} {wi wi1 : TI} {g g1 : TG} {I I1 : IF} {f f1 : GF} {T T1 : TF} {E : EF} {vs vs1 : List Nat} (hi : AdI Wx wi I) (hg : AdG (some vs) g f) (hi1 : AdI F0 wi1 I1) (hg1 : AdG (some vs1) g1 f1) : Ad Wx (tLc2 wi g (tT F0 T) wi1 g1 (tT F0 T1) (tE F0 E) vs vs1) (fLc2 I f T I1 f1 T1 E vs vs1) := fun D as γ μ σ H Q k ev gg => by
  refine hi D as γ μ σ H _ k ev ((G.bind RepI k gg).mono fun J H1 ⟨D1, as1, μ1, ps, n1, k1, r1, gx⟩ => ?_)
  intro Dl nDl
  obtain ⟨hl, Gd, Y, wk, stab, yl⟩ := r1
  have ev1 := ev.nx n1
  have nd1 : ¬ D1 Dl := k1.nd nDl
  obtain ⟨n0, k0, nj0⟩ := k1.hide (o := .lst []) nDl
  by_cases hl2 : ps.length ≤ 1000
  case neg => rw [if_neg hl2] at gx; exact gx.elim
  rw [if_pos hl2] at gx
  have nb : lc2Go f T I1 f1 T1 E vs1 (wipeG γ vs) ps μ1 ≠ .bad := bind_nb gx.nobad
  refine out_it (B := fun Nx σ2 H3 => wi1 σ2 H3 fun J1 H4 => ∃ W1 : Nat → Nat → Hp → Prop, (∃ m, W1 0 m H4) ∧ ∀ j k H, W1 j k H →
      (J1.stop j H ∧ Nx H) ∨ (J1.go j H ∧ ∃ Nx1 : Hp → Prop, (∀ H', Nx1 H' → ∃ k', k' < k ∧ W1 (j + 1) k' H') ∧ ∀ x H', J1.yld j H x H' → g1 x (wipe σ2 vs1) H' fun σ3 H5 => wipe σ3 vs1 = wipe σ2 vs1 ∧ tT F0 T1 σ3 H5 fun b H6 =>
        if b = true then tE F0 E σ3 H6 fun y H7 => ∃ acc, H7 Dl = some (.lst acc) ∧ acc.length < sizeLine ∧ Nx1 (upd H7 Dl (.lst (acc ++ [y]))) else Nx1 H6)) wk (fun i H' => i ≤ ps.length ∧ Lc2At D1 as1 H1 (lc2Go f T I1 f1 T1 E vs1 (wipeG γ vs) ps μ1) (lc2Go f T I1 f1 T1 E vs1 (wipeG γ vs)) Dl ps i H') ⟨Nat.zero_le _, ⟨_, _, [], [], μ1, n0, k0, .inr rfl, nj0, upd_same, .nil, Nat.zero_le _, ?_⟩⟩ (fun i H' _ h => ?_) ?_ ?_
  · rw [List.drop_zero]
    cases lc2Go f T I1 f1 T1 E vs1 (wipeG γ vs) ps μ1 <;> rfl
  · obtain ⟨D', as', acc, qs, m', n', _⟩ := h.2.ex
    exact stab D' H' n'.sdl
  · rintro i x H' H2 lt ⟨_, h⟩ y
    obtain ⟨D', as', acc, qs, m', n', k', dl, nj, hD, rs, lq, tot⟩ := h.ex
    obtain ⟨s2, p, hp, rp⟩ := yl i D' H' x H2 lt n'.sdl (fun a d => k'.dn a d) y
    have k2 : Sk D' as' H2 m' := k'.same s2
    have n2 : Nx D1 as1 H1 D' as' H2 := n'.trans k1 k' (.of_same s2)
    have hdrop : ps.drop i = p :: ps.drop (i + 1) := List.drop_eq_getElem?_toList_append.trans (by rw [hp]; rfl)
    rw [hdrop] at tot
    have nb2 : lc2Go f T I1 f1 T1 E vs1 (wipeG γ vs) (p :: ps.drop (i + 1)) m' ≠ .bad := by
      rw [tot] at nb
      exact bind_nb nb
    cases ef : f p (wipeG γ vs) with
    | none => exact absurd (by simp only [lc2Go, ef]) nb2
    | some γ1 =>
      have e1 : lc2Go f T I1 f1 T1 E vs1 (wipeG γ vs) (p :: ps.drop (i + 1)) m' = (T γ1 m').nx.bind fun b m1 => if b = true then (I1 γ1 m1).nx.bind fun ps1 m2 => if ps1.length ≤ 1000 then (lcGo f1 T1 E (wipeG γ1 vs1) ps1 m2).bind fun ys m3 => (lc2Go f T I1 f1 T1 E vs1 (wipeG γ vs) (ps.drop (i + 1)) m3).bind fun zs m4 => .ok (ys ++ zs) m4 else .bad else lc2Go f T I1 f1 T1 E vs1 (wipeG γ vs) (ps.drop (i + 1)) m1 := by
        simp only [lc2Go, ef]
      rw [e1] at nb2 tot
      refine hg D' as' m' (wipe σ vs) (wipeG γ vs) γ1 H2 p x _ k2 ((ev1.nx n2).wipe vs) rp ef fun σ2 ev2 w2 l2 => ⟨(w2 vs rfl).trans (wipe_wipe σ vs), ?_⟩
      obtain ⟨b, m1, eT⟩ := nx_ok nb2
      refine ⟨D', as', γ1, m', k2, ev2, ?_⟩
      rw [eT] at nb2 tot ⊢
      intro b' D3 as3 H3 n3 k3 eb
      obtain rfl : b' = b := eb
      have nj3 := n3.notin nj (s2 _ _ hD)
      have hD3 : H3 Dl = some (.lst acc) := n3.hid Dl _ dl nj (s2 _ _ hD)
      have dl3 := n3.mono Dl dl nj
      have n13 := n2.trans k1 k2 n3
      cases b' with
      | false =>
        exact ⟨lt, ⟨D3, as3, acc, qs, m1, n13, k3, dl3, nj3, hD3, Reps.sd n3.sd (Reps.sd (.same s2) rs), Nat.le_trans lq (Nat.mul_le_mul_right _ (Nat.le_succ i)), tot⟩⟩
      | true =>
        simp only [if_true]
        have nb3 : ((I1 γ1 m1).nx.bind fun ps1 m2 => if ps1.length ≤ 1000 then (lcGo f1 T1 E (wipeG γ1 vs1) ps1 m2).bind fun ys m3 => (lc2Go f T I1 f1 T1 E vs1 (wipeG γ vs) (ps.drop (i + 1)) m3).bind fun zs m4 => .ok (ys ++ zs) m4 else .bad) ≠ .bad := nb2
        have tot3 : lc2Go f T I1 f1 T1 E vs1 (wipeG γ vs) ps μ1 = (((I1 γ1 m1).nx.bind fun ps1 m2 => if ps1.length ≤ 1000 then (lcGo f1 T1 E (wipeG γ1 vs1) ps1 m2).bind fun ys m3 => (lc2Go f T I1 f1 T1 E vs1 (wipeG γ vs) (ps.drop (i + 1)) m3).bind fun zs m4 => .ok (ys ++ zs) m4 else .bad)).bind fun r m => .ok (qs ++ r) m := tot
        obtain ⟨ps1, m2, eI⟩ := nx_ok nb3
        have ev3 := ev2.nx n3
        refine hi1 D3 as3 γ1 m1 σ2 H3 _ k3 ev3 ?_
        rw [eI] at nb3 tot3 ⊢
        intro J1 D4 as4 H4 n4 k4 r4
        have tot4 : lc2Go f T I1 f1 T1 E vs1 (wipeG γ vs) ps μ1 = ((if ps1.length ≤ 1000 then (lcGo f1 T1 E (wipeG γ1 vs1) ps1 m2).bind fun ys m3 => (lc2Go f T I1 f1 T1 E vs1 (wipeG γ vs) (ps.drop (i + 1)) m3).bind fun zs m4 => .ok (ys ++ zs) m4 else .bad)).bind fun r m => .ok (qs ++ r) m := tot3
        by_cases hl3 : ps1.length ≤ 1000
        case neg => rw [tot4, if_neg hl3] at nb; exact absurd rfl nb
        rw [if_pos hl3] at tot4
        have nb4 : lcGo f1 T1 E (wipeG γ1 vs1) ps1 m2 ≠ .bad := by
          rw [tot4] at nb
          exact bind_nb (bind_nb nb)
        obtain ⟨_, Gd1, Y1, wk1, stab1, yl1⟩ := r4
        have nj4 := n4.notin nj3 hD3
        have hD4 : H4 Dl = some (.lst acc) := n4.hid Dl _ dl3 nj3 hD3
        have dl4 := n4.mono Dl dl3 nj3
        have n14 := n13.trans k1 k3 n4
        have ev4 := ev3.nx n4
        have racc := Reps.sd n4.sd (Reps.sd n3.sd (Reps.sd (.same s2) rs))
        refine in_it wk1 (fun j H' => j ≤ ps1.length ∧ InAt σ2 γ1 D1 as1 H1 D4 H4 (lcGo f1 T1 E (wipeG γ1 vs1) ps1 m2) (lcGo f1 T1 E (wipeG γ1 vs1)) Dl qs ps1 j H') ⟨Nat.zero_le _, ⟨_, _, acc, [], m2, n14, ev4, (Nx.refl (as := as4)).sdl, k4, dl4, nj4, hD4, by rw [List.append_nil]; exact racc, Nat.le_refl _, ?_⟩⟩ (fun j H' _ h => ?_) ?_ ?_
        · rw [List.drop_zero]
          cases lcGo f1 T1 E (wipeG γ1 vs1) ps1 m2 <;> rfl
        · obtain ⟨D', as', acc, qs, m', n', _, s', _⟩ := h.2.ex
          exact stab1 D' H' s'
        · rintro j x1 H5 H6 lt1 ⟨_, h1⟩ y1
          obtain ⟨D5, as5, acc5, qs5, m5, n5, ev5, sl5, k5, dl5, nj5, hD5, rs5, lq5, tot5⟩ := h1.ex
          obtain ⟨s6, p1, hp1, rp1⟩ := yl1 j D5 H5 x1 H6 lt1 sl5 (fun a d => k5.dn a d) y1
          have k6 : Sk D5 as5 H6 m5 := k5.same s6
          have n56 : Nx D5 as5 H5 D5 as5 H6 := .of_same s6
          have n6 : Nx D1 as1 H1 D5 as5 H6 := n5.trans k1 k5 n56
          have sl6 : SdL D4 H4 D5 H6 := sl5.trans' n56.sdl
          have hdrop1 : ps1.drop j = p1 :: ps1.drop (j + 1) := List.drop_eq_getElem?_toList_append.trans (by rw [hp1]; rfl)
          rw [hdrop1] at tot5
          have nb5 : lcGo f1 T1 E (wipeG γ1 vs1) (p1 :: ps1.drop (j + 1)) m5 ≠ .bad := by
            rw [tot5] at nb4
            exact bind_nb nb4
          cases ef1 : f1 p1 (wipeG γ1 vs1) with
          | none => exact absurd (by simp only [lcGo, ef1]) nb5
          | some γ6 =>
            have e6 : lcGo f1 T1 E (wipeG γ1 vs1) (p1 :: ps1.drop (j + 1)) m5 = (T1 γ6 m5).nx.bind fun b m1 => if b = true then (E γ6 m1).nx.bind (lcW (lcGo f1 T1 E (wipeG γ1 vs1) (ps1.drop (j + 1)))) else lcGo f1 T1 E (wipeG γ1 vs1) (ps1.drop (j + 1)) m1 := by
              simp only [lcGo, ef1]
            rw [e6] at nb5 tot5
            have ev6 : EnvR D5 as5 H6 σ2 γ1 := ev5.nx n56
            refine hg1 D5 as5 m5 (wipe σ2 vs1) (wipeG γ1 vs1) γ6 H6 p1 x1 _ k6 (ev6.wipe vs1) rp1 ef1 fun σ3 ev7 w7 l7 => ⟨(w7 vs1 rfl).trans (wipe_wipe σ2 vs1), ?_⟩
            obtain ⟨b, m6, eT1⟩ := nx_ok nb5
            refine ⟨D5, as5, γ6, m5, k6, ev7, ?_⟩
            rw [eT1] at nb5 tot5 ⊢
            intro b' D7 as7 H7 n7 k7 eb
            obtain rfl : b' = b := eb
            have nj7 := n7.notin nj5 (s6 _ _ hD5)
            have hD7 : H7 Dl = some (.lst acc5) := n7.hid Dl _ dl5 nj5 (s6 _ _ hD5)
            have dl7 := n7.mono Dl dl5 nj5
            have n17 := n6.trans k1 k6 n7
            have sl7 := sl6.trans' n7.sdl
            have ev67 := ev6.nx n7
            cases b' with
            | false =>
              exact ⟨lt1, ⟨D7, as7, acc5, qs5, m6, n17, ev67, sl7, k7, dl7, nj7, hD7, Reps.sd n7.sd (Reps.sd (.same s6) rs5), Nat.le_succ_of_le lq5, tot5⟩⟩
            | true =>
              simp only [if_true]
              have nb7 : (E γ6 m6).nx.bind (lcW (lcGo f1 T1 E (wipeG γ1 vs1) (ps1.drop (j + 1)))) ≠ .bad := nb5
              obtain ⟨w, m7, eE⟩ := nx_ok nb7
              refine ⟨D7, as7, γ6, m6, k7, ev7.nx n7, ?_⟩
              rw [eE] at nb7 ⊢
              have tot7 : lcGo f1 T1 E (wipeG γ1 vs1) ps1 m2 = ((E γ6 m6).nx.bind (lcW (lcGo f1 T1 E (wipeG γ1 vs1) (ps1.drop (j + 1))))).bind fun r m => .ok (qs5 ++ r) m := tot5
              rw [eE] at tot7
              cases w with
              | loc j => exact absurd rfl nb7
              | v q =>
                intro yv D8 as8 H8 n8 k8 ry
                have nj8 := n8.notin nj7 hD7
                have hD8 : H8 Dl = some (.lst acc5) := n8.hid Dl _ dl7 nj7 hD7
                have dl8 := n8.mono Dl dl7 nj7
                have n18 := n17.trans k1 k7 n8
                have racc8 := Reps.sd n8.sd (Reps.sd n7.sd (Reps.sd (.same s6) rs5))
                obtain ⟨s9, k9⟩ := k8.poke (o := .lst (acc5 ++ [yv])) dl8 nj8
                refine ⟨acc5, hD8, ?_, lt1, ⟨D8, as8, acc5 ++ [yv], qs5 ++ [q], m7, n18.poke dl8 nDl nd1, (ev67.nx n8).poke s9, (sl7.trans' n8.sdl).trans' (SdL.poke s9 hD8), k9, dl8, nj8, upd_same, ?_, ?_, ?_⟩⟩
                · rw [racc8.length, List.length_append]
                  have z1 : qs.length ≤ 1000000 := Nat.le_trans lq (by omega)
                  have z2 : qs5.length ≤ 1000 := by omega
                  have : qs.length + qs5.length ≤ 1001000 := by omega
                  exact Nat.lt_of_le_of_lt this (by decide)
                · rw [← List.append_assoc]
                  exact Reps.sd s9 (racc8.snoc ry)
                · rw [List.length_append]
                  exact Nat.succ_le_succ lq5
                · rw [tot7]
                  simp only [O.nx, O.bind_ok, lcW]
                  rw [O.bind_assoc]
                  congr 1
                  funext r m
                  simp
        · rintro H5 ⟨_, h1⟩
          obtain ⟨D5, as5, acc5, qs5, m5, n5, ev5, sl5, k5, dl5, nj5, hD5, rs5, lq5, tot5⟩ := h1.ex
          rw [List.drop_length] at tot5
          have tot6 : lcGo f1 T1 E (wipeG γ1 vs1) ps1 m2 = .ok qs5 m5 := by
            rw [tot5]
            simp [lcGo]
          rw [tot6] at tot4
          refine ⟨lt, ⟨D5, as5, acc5, qs ++ qs5, m5, n5, k5, dl5, nj5, hD5, rs5, ?_, ?_⟩⟩
          · rw [List.length_append]
            omega
          · rw [tot4]
            simp only [O.bind_ok]
            rw [O.bind_assoc]
            congr 1
            funext r m
            simp
  · rintro H' ⟨_, h⟩
    obtain ⟨D', as', acc, qs, m', n', k', dl, nj, hD, rs, lq, tot⟩ := h.ex
    rw [List.drop_length] at tot
    have tot2 : lc2Go f T I1 f1 T1 E vs1 (wipeG γ vs) ps μ1 = .ok qs m' := by
      rw [tot]
      simp [lc2Go]
    rw [tot2] at gx
    obtain ⟨s3, n3, k3⟩ := k'.free n' nj nd1
    exact gx (.ref Dl) _ as' H' n3 k3 (show Rep _ _ _ _ from .lst (fun z => z.2 rfl) (.inl hD) (Reps.sd s3 rs))
def tI (Wx : WX) (I : IF) : TI := fun σ H Q => ∃ D as γ μ, Sk D as H μ ∧ EnvR D as H σ γ ∧ G Wx σ RepI D as H (I γ μ) Q
theorem PPI.can {X : Cx} {Wx : WX} {tg e : Expr} {I : IF} (h : PPI X Wx tg e I) : PI X tg e (tI Wx I) := let ⟨_, p, ad⟩ := h; ⟨fun pins s σ H Q J ⟨D, as, γ, μ, k, ev, g⟩ => p.run pins s σ H Q J (ad D as γ μ σ H Q k ev g)⟩
theorem ad_tI {Wx : WX} {I : IF} : AdI Wx (tI Wx I) I := fun D as γ μ σ H R k ev g => ⟨D, as, γ, μ, k, ev, g⟩
section
variable {X : Cx} {Wx : WX}
/-- [elt for tg in iter if .. for tg1 in iter1 if ..] -/
theorem pp_lc2 {elt tg iter tg1 iter1 : Expr} {ifs ifs1 : List Expr} {scope : Scope} {own : List (Str × Nat)} {vs1 : List Nat} {pos : Pos} {I I1 : IF} {g g1 : TG} {f f1 : GF} {T T1 : TF} {E : EF} (hc : X.calm = true) (hN : X.N.Nodup) (hi : PPI X Wx tg iter I) (ok : BlkOk X.N X.env.scope scope own) (hv : ∀ i ∈ vs1, i ∈ own.map (·.2))
    (hg : ∀ (s : Shared) (H : Hp) (C : Addr) (cl : List (Str × Addr)) (fp : List Addr), PG (X.blk s H scope (compEnvC scope cl C X.env) fp) tg g) (hf : AdG (some (own.map (·.2))) g f)
    (ht : ∀ (s : Shared) (H : Hp) (C : Addr) (cl : List (Str × Addr)) (fp : List Addr), PPTs (X.blk s H scope (compEnvC scope cl C X.env) fp) F0 ifs T)
    (hi1 : ∀ (s : Shared) (H : Hp) (C : Addr) (cl : List (Str × Addr)) (fp : List Addr), PPI (X.blk s H scope (compEnvC scope cl C X.env) fp) F0 tg1 iter1 I1)
    (hg1 : ∀ (s : Shared) (H : Hp) (C : Addr) (cl : List (Str × Addr)) (fp : List Addr), PG (X.blk s H scope (compEnvC scope cl C X.env) fp) tg1 g1) (hf1 : AdG (some vs1) g1 f1)
    (ht1 : ∀ (s : Shared) (H : Hp) (C : Addr) (cl : List (Str × Addr)) (fp : List Addr), PPTs (X.blk s H scope (compEnvC scope cl C X.env) fp) F0 ifs1 T1)
    (he : ∀ (s : Shared) (H : Hp) (C : Addr) (cl : List (Str × Addr)) (fp : List Addr), PP (X.blk s H scope (compEnvC scope cl C X.env) fp) F0 elt E) (hs : ∀ x, foldedSetIterable iter X.env x = pure x := by intro _; rfl) (hs1 : ∀ env x, foldedSetIterable iter1 env x = pure x := by intro _ _; rfl) :
    PP X Wx (.ListComp elt [⟨tg, iter, ifs, 0⟩, ⟨tg1, iter1, ifs1, 0⟩] scope pos) (fLc2 I f T I1 f1 T1 E (own.map (·.2)) vs1) :=
  let ⟨wi, pi, ai⟩ := hi; ⟨_, pe_lc2 hc hN pi ok hv hg (fun s H C cl fp => ht s H C cl fp) (fun s H C cl fp => (hi1 s H C cl fp).can) hg1 (fun s H C cl fp => ht1 s H C cl fp) (fun s H C cl fp => (he s H C cl fp).can) hs hs1, ad_lc2 ai hf ad_tI hf1⟩
end
end Pu
set_option Elab.async false
set_option linter.all false
set_option maxRecDepth 100000
set_option maxHeartbeats 4000000
namespace Pu
open L2 PySem PySem.Spec PyProof.Rows E10
/-! ### xs.index(p) -/
def ixL (μ : Μ) (w : W) : Option (List P) := match w with
  | .v (.lst ps) => some ps
  | w => (wL μ w).map (·.2)
def mIndex : W → List W → Μ → O W := fun w ws μ => match ixL μ w, ws with
  | some ps, [.v q] => if flatP q = true ∧ ps.all flatP = true then match ps.findIdx? (fun p => eqF p q) with
    | some j => .ok (.v (.int (j : Nat))) μ
    | none => .bad
    else .bad
  | _, _ => .bad
theorem Reps.getV {D : Addr → Prop} {H : Hp} : ∀ {vs ps} {i : Nat} {v : V}, Reps D H vs ps → vs[i]? = some v → ∃ p, ps[i]? = some p ∧ Rep D H v p
  | _, _, _, _, .nil, e => by simp at e
  | _, _, 0, _, .cons r t, e => by simp at e; subst e; exact ⟨_, rfl, r⟩
  | _, _, i + 1, _, .cons _ t, e => by simp at e; exact Reps.getV (i := i) t e
theorem am_index {Wx : WX} {K : PySem.W.Frag} : AdM Wx (rIndex K) mIndex := fun D as μ σ H x w vs ws Q k rx rv g => by
  unfold mIndex at g
  split at g
  · rename_i ps q e
    split at g
    · rename_i hf
      split at g
      · rename_i j ej
        have hx : ∃ a xs, x = .ref a ∧ Rd H a (.lst xs) ∧ Reps D H xs ps := by
          unfold ixL at e
          split at e
          · cases e
            obtain ⟨a, xs, rfl, nd, hr, rs⟩ := rep_lst rx
            exact ⟨a, xs, rfl, hr, rs⟩
          · obtain ⟨⟨j', ps'⟩, e1, e2⟩ := Option.map_eq_some_iff.mp e
            cases e2
            obtain ⟨a, xs, rfl, ea, ha, rs⟩ := wL_ok k rx e1
            exact ⟨a, xs, rfl, .inl ha, rs⟩
        obtain ⟨a, xs, rfl, hr, rs⟩ := hx
        obtain ⟨v, rfl, rp⟩ := repWs1 rv
        obtain ⟨h1, h2, h3⟩ := List.findIdx?_eq_some_iff_getElem.mp ej
        obtain ⟨z, hz, rz⟩ := rs.getP (List.getElem?_eq_getElem h1)
        have fz : ∀ {i : Nat} {p : P}, ps[i]? = some p → flatP p = true := fun e => List.all_eq_true.mp hf.2 _ (List.mem_of_getElem? e)
        refine ⟨a, xs, v, j, z, rfl, rfl, .inl hr, (eqF_ok rp rp hf.1 hf.1).1, (all_flat rp hf.1 rs hf.2).1, hz, ?_, fun m z' lt e' => ?_, G.now (R := RepW) (a := .v (.int (j : Nat))) k (show Rep D H (.int (j : Nat)) (.int (j : Nat)) from .int) g⟩
        · rw [(eqF_ok rz rp (fz (List.getElem?_eq_getElem h1)) hf.1).2]
          exact h2
        · obtain ⟨p', ep', rp'⟩ := rs.getV e'
          rw [(eqF_ok rp' rp (fz ep') hf.1).2]
          have := h3 m lt
          obtain ⟨lt', ee⟩ := List.getElem?_eq_some_iff.mp ep'
          rw [ee] at this
          simpa using this
      · exact g.elim
    · exact g.elim
  · exact g.elim
section
variable {X : Cx} {Wx : WX} {o e : Expr} {F1 F2 : EF}
theorem pp_index {apos cpos : Pos} (ho : PP X Wx o F1) (he : PP X Wx e F2) (hbase : attributeBase o "index" X.env (eval o X.env) = eval o X.env := by rfl)
    (hfew : ((backTo cpos (starEach [e] X.env)).all (fun x => !x.1) && (backToKw cpos (keywordEach [] X.env)).all (fun x => x.1.isSome)
      && decide ([e].length + ([] : List Keyword).length + (if ([] : List Keyword).isEmpty then 0 else 1) < 30)) = true := by rfl)
    (hline : (apos.endLine == cpos.line) = true := by rfl) (hs : starEach [e] X.env = (false, eval e X.env) :: starEach [] X.env := by rfl) (hpl : (backTo cpos (starEach [] X.env)).any (·.1) = false := by rfl) :
    PP X Wx (.Call (.Attribute o "index" apos) [e] [] cpos) (fBM "list" mIndex F1 (fCons F2 fNil)) := by
  refine pp_bm PySem.F.plainAttrs_list PySem.F.slot_list_index PySem.F.type_list_index mt_index am_index ho (ppa_cons he ppa_nil hs) ?_ ?_ ?_ ?_ ?_
  all_goals assumption
end
end Pu
set_option Elab.async false
set_option linter.all false
set_option maxRecDepth 100000
set_option maxHeartbeats 4000000
namespace Pu
open L2 PySem PySem.Spec PyProof.Rows E10
/-! ### C(..) with defaults left to the def -/
section
variable {X : Cx} {Wx : WX} {e : Expr} {es : List Expr} {A : AF} {p pos : Pos} {C : Addr} {k : Nat}
theorem run_makeD {pins : List (Addr × Obj)} {σ : L2.St} {H : Hp} {s : Shared} {Q : VK} {us ds : List Value} {vs vds : List V} {g : Addr} {fd : FuncData} {ps : List Str} {sp : Sp} (M : Mk X.K C g) (F : FnX X.prog X.w X.K X.mg X.base k g fd ps sp) (hG : X.A.guards = some []) (hr : Room (k + 1) X.A) (hb : Binds X.K fd ps ds)
    (rd : Vals vds ds) (tk : Takes X Wx) (I : Inv X pins σ H s) (r : Vals vs us)
    (h : ∀ x dx, H x = none → H dx = none → dx ≠ x → sp (.ref x :: (vs ++ vds)) (upd (upd H dx (.own x)) x (.ins C dx [])) (fun v H2 => v = .non ∧ Q (.ref x) H2) (WE Wx σ)) :
    wpAny (model X.prog X.w) X.A (call (.ref C) us) (EP X pins σ Q) X.xe s := by
  have hq := h (s.heap.objs.size + 1) s.heap.objs.size (I.hok.fresh (Nat.le_succ _)) (I.hok.fresh (Nat.le_refl _)) (Nat.ne_of_lt (Nat.lt_succ_self _))
  have I2 := Inv.made (C := C) I
  have r2 : Vals (V.ref (s.heap.objs.size + 1) :: (vs ++ vds)) (Value.ref (s.heap.objs.size + 1) :: (us ++ ds)) := .cons rfl (Vals.append r rd)
  have hl : ((Value.ref (s.heap.objs.size + 1) :: us) ++ ds).length = ps.length := by
    have e := r2.length
    rw [F.few hq] at e
    exact e.symm
  have bb := hb _ (Value.ref (s.heap.objs.size + 1) :: us) I2.kIn hl
  refine wpAny_call (make_map (f := g) I.kIn M.makes M.init (beq_iff_eq.mp M.fn) (codeAny_mono (F.goes (fr := X.stack) (ar := ⟨Value.ref (s.heap.objs.size + 1) :: us, []⟩) (us := Value.ref (s.heap.objs.size + 1) :: (us ++ ds)) (make_guards hG) (hr.make C us [])
    (I2.env0.make C us []) bb r2 hq) fun r s' hq' => ?_))
  cases r with
  | error e => exact passAt tk σ pins _ _ e s' I2 hq'
  | ok fl =>
    cases fl with
    | ret u =>
      obtain ⟨v, H', I3, rv, ev, q3⟩ := I2.after hq'
      subst ev
      exact ⟨rv, ⟨V.ref (s.heap.objs.size + 1), H', I3, rfl, q3⟩⟩
    | next => exact False.elim hq'
    | brk => exact False.elim hq'
    | cont => exact False.elim hq'
def tMakeD (C : Addr) (vds : List V) (sp : Sp) (W : WX) (t : TA) : TE := fun σ H Q => t σ H fun vs H1 => ∀ x dx, H1 x = none → H1 dx = none → dx ≠ x → sp (.ref x :: (vs ++ vds)) (upd (upd H1 dx (.own x)) x (.ins C dx [])) (fun v H2 => v = .non ∧ Q (.ref x) H2) (WE W σ)
theorem pe_makeD {x : Str} {g : Addr} {fd : FuncData} {ps : List Str} {sp : Sp} {t : TA} {ds : List Value} {vds : List V} (M : Mk X.K C g) (F : FnX X.prog X.w X.K X.mg X.base k g fd ps sp) (hG : X.A.guards = some []) (hr : Room (k + 1) X.A) (hb : Binds X.K fd ps ds) (rd : Vals vds ds) (tk : Takes X Wx) (hg : Gl X x) (hm : X.mg x = some (.ref C))
    (ha : PA X (e :: es) t) (hdb : (x == ("__debug__" : Str)) = false := by decide) (he : starEach (e :: es) X.env = (false, eval e X.env) :: starEach es X.env := by rfl) (hpl : (backTo pos (starEach es X.env)).any (·.1) = false := by rfl) :
    PE X (.Call (.Name x p) (e :: es) [] pos) (tMakeD C vds sp Wx t) := by
  refine ⟨fun pins s σ H Q I h => ?_⟩
  refine wpAny_Call_Name_kw (ld_glob I hg hm ?_ hdb)
  refine PySem.W.callWith_K (h₀ := X.base) I.ok.mod.kin M.kp (thn (ha.run pos pins s σ H _ I h) fun us s1 ⟨vs, H1, I1, r, q⟩ => ⟨I1.kIn, ?_⟩) he hpl
  exact run_makeD M F hG hr hb rd tk I1 r q
structure DCd (P : Program) (w : World) (K : PySem.W.Frag) (mg : Str → Option Value) (base : Heap) (x : Str) (C : Addr) (n : Nat) (k : Nat) (dv : List Pu.P) (F : FF) : Prop where
  ex : ∃ (f : Addr) (fd : FuncData) (ps : List Str) (ds : List Value) (vds : List V), ps.length = n ∧ FnX P w K mg base k f fd ps (spP n F) ∧ Mk K C f ∧ Vals vds ds ∧ Binds K fd ps ds ∧ ∀ D H, Reps D H vds dv
  g : mg x = some (.ref C)
def fDfl (dv : List P) (F : FF) : FF := fun ws μ => F (ws ++ dv.map W.v) μ
theorem RepWs.ofV {D as H} : ∀ {vs : List V} {ps : List P}, Reps D H vs ps → RepWs D as H vs (ps.map W.v)
  | _, _, .nil => .nil
  | _, _, .cons r t => .cons r (RepWs.ofV t)
theorem ad_makeD {n : Nat} {FF' : FF} {t : TA} {vds : List V} {dv : List P} (hd : ∀ D H, Reps D H vds dv) (ha : AdA Wx t A) (hn : ∀ ws μ, ws.length ≠ n → FF' ws μ = .bad) : Ad Wx (tMakeD C vds (spP n FF') Wx t) (fMake C (fDfl dv FF') A) := fun D as γ μ σ H Q k ev g => by
  refine ha D as γ μ σ H _ k ev ((G.bind RepWs k g).mono fun vs H1 ⟨D1, as1, μ1, ws, n1, k1, r1, g1⟩ => ?_)
  intro x dx nx ndx ne
  have nx2 : upd H1 dx (.own x) x = none := (upd_ne (Ne.symm ne)).trans nx
  have s1 := new_same' (o := .own x) ndx
  have k2 := k1.same s1
  obtain ⟨n3, k3⟩ := cell_new (o := .ins C dx []) (c := .ins C []) k2 nx2 ⟨dx, [], upd_same, .nil⟩
  have n13 : Nx D1 as1 H1 _ _ _ := (Nx.of_same s1).trans k1 k2 n3
  have e1 : (as1 ++ [some x])[μ1.length]? = some (some x) := by
    rw [← k1.len]
    exact last_get
  have rr : RepWs _ _ _ (V.ref x :: (vs ++ vds)) (W.loc μ1.length :: (ws ++ dv.map W.v)) := .cons (.mk e1) (RepWs.append (r1.nx n13) (RepWs.ofV (hd _ _)))
  refine ⟨?_, _, _, .loc μ1.length :: (ws ++ dv.map W.v), μ1 ++ [.ins C []], k3, rr, ?_⟩
  · by_cases c : (W.loc μ1.length :: (ws ++ dv.map W.v)).length = n
    · rw [← c]
      exact rr.length
    · have e2 : fDfl dv FF' (W.loc μ1.length :: ws) (μ1 ++ [PC.ins C []]) = .bad := hn _ (μ1 ++ [PC.ins C []]) c
      rw [e2] at g1
      exact g1.elim
  · have g2 := G.nx k1 k3 n13 g1
    have := G.bind RepW k3 g2
    have e3 : fDfl dv FF' (W.loc μ1.length :: ws) (μ1 ++ [PC.ins C []]) = FF' (W.loc μ1.length :: (ws ++ dv.map W.v)) (μ1 ++ [PC.ins C []]) := rfl
    rw [e3] at g2
    cases o : FF' (W.loc μ1.length :: (ws ++ dv.map W.v)) (μ1 ++ [PC.ins C []]) with
    | bad => rw [o] at g2; exact g2
    | exc C' fs m' => rw [o] at g2; exact g2
    | ok w m' =>
      rw [o] at g2
      intro v D' as' H' n' k' rv
      cases w with
      | loc j => exact g2.elim
      | v q =>
        cases q with
        | non =>
          obtain rfl := rep_non rv
          exact ⟨rfl, g2 (.ref x) D' as' H' n' k' ((RepW.mk e1).nx n')⟩
        | _ => exact g2.elim
theorem pp_makeD {x : Str} {n : Nat} {FF' : FF} {dv : List Pu.P} (d : DCd X.prog X.w X.K X.mg X.base x C n k dv FF') (hG : X.A.guards = some []) (hr : Room (k + 1) X.A) (tk : Takes X Wx) (hg : Gl X x) (ha : PPA X Wx (e :: es) A) (hn : ∀ ws μ, ws.length ≠ n → FF' ws μ = .bad := by exact fDef_len)
    (hdb : (x == ("__debug__" : Str)) = false := by decide) (he : starEach (e :: es) X.env = (false, eval e X.env) :: starEach es X.env := by rfl) (hpl : (backTo pos (starEach es X.env)).any (·.1) = false := by rfl) :
    PP X Wx (.Call (.Name x p) (e :: es) [] pos) (fFrz (fMake C (fDfl dv FF') A)) := by
  obtain ⟨f, fd, ps, ds, vds, hl, FX, M, rd, hb, hd⟩ := d.ex
  obtain ⟨_, pa, aa⟩ := ha
  exact ⟨_, pe_makeD M FX hG hr hb rd tk hg d.g pa hdb he hpl, ad_frzL (ad_makeD hd aa hn)⟩
end
/-! ### a test that is a value's truth -/
def fTruth (F : EF) : TF := fun γ μ => (F γ μ).bind fun w m => match w with
  | .v .non => .ok false m
  | .v (.bl b) => .ok b m
  | .v (.int i) => .ok (i != 0) m
  | .v (.lst ps) => .ok (!ps.isEmpty) m
  | .v (.tup ps) => .ok (!ps.isEmpty) m
  | _ => .bad
theorem Reps.isE {D : Addr → Prop} {H : Hp} {vs : List V} {ps : List P} (r : Reps D H vs ps) : (!ps.isEmpty) = !vs.isEmpty := by cases r <;> rfl
theorem ad_truth {Wx : WX} {K : PySem.W.Frag} {ta : TE} {F : EF} (h : Ad Wx ta F) : AdT Wx (fun σ H Q => ta σ H fun x H' => ∃ k, TruV K x H' k ∧ Q k H') (fTruth F) := fun D as γ μ σ H Q k ev g => by
  refine h D as γ μ σ H _ k ev ((G.bind RepW k g).mono fun x H1 ⟨D1, as1, μ1, w, n1, k1, r1, g1⟩ => ?_)
  cases w with
  | loc j => exact g1.elim
  | v p =>
    cases p with
    | non => obtain rfl := rep_non r1; exact ⟨false, rfl, G.now (R := RepB) k1 rfl g1⟩
    | bl b => obtain rfl := rep_bl r1; exact ⟨b, rfl, G.now (R := RepB) k1 rfl g1⟩
    | int i => obtain rfl := rep_int r1; exact ⟨i != 0, rfl, G.now (R := RepB) k1 rfl g1⟩
    | lst ps =>
      obtain ⟨a, xs, rfl, nd, hr, rs⟩ := rep_lst r1
      exact ⟨_, .inl ⟨xs, .inl hr, rs.isE⟩, G.now (R := RepB) k1 rfl g1⟩
    | tup ps =>
      obtain ⟨a, xs, rfl, nd, hr, rs⟩ := rep_tup r1
      exact ⟨_, .inr (.inl ⟨xs, .inl hr, rs.isE⟩), G.now (R := RepB) k1 rfl g1⟩
    | _ => exact g1.elim
theorem ptt_truth {X : Cx} {Wx : WX} {a : Expr} {F : EF} (h : PP X Wx a F) (he : ∀ whole, isTrue a X.env whole = (do let v ← whole; standAt a.pos; holding [v] (truthy v)) := by intro _; rfl) : PPT X Wx a (fTruth F) := let ⟨_, p, ad⟩ := h; ⟨_, pt_truth p he, ad_truth ad⟩
end Pu
set_option Elab.async false
set_option linter.all false
set_option maxRecDepth 100000
set_option maxHeartbeats 4000000
namespace Pu
open L2 PySem PySem.Spec PyProof.Rows E10
open He (ga ma)
section
variable {μ : Μ} {i j : Int} {a b : Str}
theorem le_ii : gLe (.v (.int i)) (.v (.int j)) μ = .ok (.v (.bl (decide (i ≤ j)))) μ := rfl
theorem lt_ii : gLt (.v (.int i)) (.v (.int j)) μ = .ok (.v (.bl (decide (i < j)))) μ := rfl
theorem gt_ii : gGt (.v (.int i)) (.v (.int j)) μ = .ok (.v (.bl (decide (j < i)))) μ := rfl
theorem le_ss : gLe (.v (.str a)) (.v (.str b)) μ = .ok (.v (.bl (leS a b))) μ := rfl
theorem add_ii : gAdd (.v (.int i)) (.v (.int j)) μ = .ok (.v (.int (i + j))) μ := rfl
theorem sub_ii : fSub (.v (.int i)) (.v (.int j)) μ = .ok (.v (.int (i - j))) μ := rfl
theorem mul_ii (h : i.natAbs < 2 ^ 64 ∨ j.natAbs < 2 ^ 64) : gMul (.v (.int i)) (.v (.int j)) μ = .ok (.v (.int (i * j))) μ := by
  show O.or (if decide (i.natAbs < 2 ^ 64 ∨ j.natAbs < 2 ^ 64) = true then O.ok (W.v (.int (i * j))) μ else O.bad) _ = _
  rw [decide_eq_true h]
  rfl
theorem neg_i : fNeg (.v (.int i)) μ = .ok (.v (.int (-i))) μ := rfl
end
section
variable {μ : Μ} {i j : Int} {a b : Str} {c d neg : Bool}
theorem eqx_of {p q : W} {b : Bool} (h : fEqS neg p q μ = .ok (.v (.bl b)) μ) : gEqX neg p q μ = .ok (.v (.bl b)) μ := by
  cases neg
  · show O.or (fEqS false p q μ) _ = _
    rw [h]; rfl
  · show O.or (fEqS true p q μ) _ = _
    rw [h]; rfl
theorem eq_ii : gEqX neg (.v (.int i)) (.v (.int j)) μ = .ok (.v (.bl ((i == j) != neg))) μ := eqx_of rfl
theorem eq_bb : gEqX neg (.v (.bl c)) (.v (.bl d)) μ = .ok (.v (.bl ((c == d) != neg))) μ := eqx_of rfl
theorem eq_ss : gEqX neg (.v (.str a)) (.v (.str b)) μ = .ok (.v (.bl ((a == b) != neg))) μ := eqx_of rfl
end
def itV : W → Μ → O (List P) := dctB fun ps m => few (ps.map fun kp => kp.2) m
def itI : W → Μ → O (List P) := dctB fun ps m => few (ps.map fun kp => .tup [keyOf kp.1, kp.2]) m
section
variable {F : EF} {γ : Γ} {μ : Μ}
theorem it_l {ps : List P} (h : ps.length ≤ 100000) : iAnyW (.v (.lst ps)) μ = .ok ps μ := if_pos h
theorem it_t {ps : List P} (h : ps.length ≤ 100000) : iAnyW (.v (.tup ps)) μ = .ok ps μ := if_pos h
theorem it_s {z : Str} (h : (chrP z).length ≤ 100000) : iAnyW (.v (.str z)) μ = .ok (chrP z) μ := if_pos h
end
def fldP (C : Addr) (f : Str) : W → Μ → O W := fun w m => match rdI m w with
  | some (C', ps) => if C' = C then match ps.lookup f with
    | some p => .ok (.v p) m
    | none => .bad
    else .bad
  | none => .bad
def methP (C : Addr) (m : Str) (F : FF) (A : AF) (γ : Γ) : W → Μ → O W := fun w m1 => match rdI m1 w with
  | some (C', ps) => if C' = C ∧ ps.lookup m = none then (A γ m1).bind fun ws m2 => F (w :: ws) m2 else .bad
  | none => .bad
def frzP (n : Nat) : W → Μ → O W := fun w m => match w with
  | .v p => .ok (.v p) m
  | .loc j => if j + 1 = m.length ∧ n ≤ j then match (m[j]?).bind PC.p with
      | some p => .ok (.v p) (m.take j)
      | none => .bad
    else .bad
def makeP (C : Addr) (F : FF) : List W → Μ → O W := fun ws m => (F (.loc m.length :: ws) (m ++ [.ins C []])).bind fun w m' => match w with
  | .v .non => .ok (.loc m.length) m'
  | _ => .bad
section
variable {F Fo : EF} {A : AF} {FF' : FF} {γ : Γ} {μ : Μ} {C : Addr} {f m : Str}
theorem fMeth_eq : fMeth C m FF' Fo A γ μ = (Fo γ μ).bind (methP C m FF' A γ) := rfl
theorem fFrz_eq : fFrz F γ μ = (F γ μ).bind (frzP μ.length) := rfl
theorem fMake_eq : fMake C FF' A γ μ = (A γ μ).bind (makeP C FF') := rfl
theorem frz_l {c : PC} {p : P} (h : c.p = some p) : frzP μ.length (.loc μ.length) (μ ++ [c]) = .ok (.v p) μ := by
  unfold frzP
  simp [h]
theorem last_at {c : PC} : (μ ++ [c])[μ.length]? = some c := by simp
theorem last_set {c d : PC} : (μ ++ [c]).set μ.length d = μ ++ [d] := by simp
theorem make_ok {ws : List W} {c : PC} (h : FF' (.loc μ.length :: ws) (μ ++ [.ins C []]) = .ok (.v .non) (μ ++ [c])) : makeP C FF' ws μ = .ok (.loc μ.length) (μ ++ [c]) := by
  unfold makeP
  rw [h]
  rfl
end
section
variable {cs : List Addr} {μ : Μ}
theorem lenS_s {z : Str} (h : z.length ≤ 100000) : fLenS [.v (.str z)] μ = .ok (.v (.int z.length)) μ := by
  have : z.length ≤ sizeLine := Nat.le_trans h (by decide)
  unfold fLenS
  simp only [this, ↓reduceIte]
theorem len_s {z : Str} (h : z.length ≤ 100000) : gLen [.v (.str z)] μ = .ok (.v (.int z.length)) μ := by
  show (fLenS [.v (.str z)] μ).or _ = _
  rw [lenS_s h]
  rfl
theorem len_l {ps : List P} : gLen [.v (.lst ps)] μ = .ok (.v (.int ps.length)) μ := rfl
theorem len_d {ps : List (Key × P)} : gLen [.v (.dct ps)] μ = .ok (.v (.int ps.length)) μ := rfl
end
structure Nm (z : Str) : Prop where
  lo : 1 ≤ z.length
  hi : z.length ≤ 8
  az : ∀ c ∈ z.cps.toList, 97 ≤ c ∧ c ≤ 122
theorem few_le {ps : List P} {μ : Μ} (h : ps.length ≤ 100000) : few ps μ = .ok ps μ := if_pos h
theorem bls_all {g : List Bool → Bool} {ps : List P} {bs : List Bool} {μ : Μ} (h : blsP ps = some bs) : fBls g [.v (.lst ps)] μ = .ok (.v (.bl (g bs))) μ := by
  unfold fBls
  show (match blsP ps with
    | some bs => O.ok (W.v (.bl (g bs))) μ
    | none => .bad) = _
  rw [h]
theorem bls_map {α : Type} (f : α → Bool) : ∀ l : List α, blsP (l.map fun a => P.bl (f a)) = some (l.map f)
  | [] => rfl
  | a :: r => by
    show (blsP (r.map fun a => P.bl (f a))).map (f a :: ·) = _
    rw [bls_map f r]
    rfl
theorem le_one (a c : Nat) : leS ⟨#[a]⟩ ⟨#[c]⟩ = decide (a ≤ c) := by
  have e : (([c] : List Nat) < [a]) ↔ c < a := by
    rw [List.cons_lt_cons_iff]
    simp
  show (!decide (([c] : List Nat) < [a])) = _
  by_cases h : a ≤ c
  · rw [decide_eq_true h, decide_eq_false (fun z => absurd (e.mp z) (by omega))]
    rfl
  · rw [decide_eq_false h, decide_eq_true (e.mpr (by omega))]
    rfl
theorem lc_on {α : Type} {f : GF} {T : TF} {E : EF} {γ : Γ} {μ : Μ} (g : α → P) (t : α → Bool) (e : α → P) : ∀ {l : List α}, (∀ a ∈ l, ∃ γ1, f (g a) γ = some γ1 ∧ T γ1 μ = .ok (t a) μ ∧ (t a = true → E γ1 μ = .ok (.v (e a)) μ)) → lcGo f T E γ (l.map g) μ = .ok ((l.filter t).map e) μ
  | [], _ => rfl
  | a :: r, h => by
    obtain ⟨γ1, h1, h2, h3⟩ := h a List.mem_cons_self
    have ih := lc_on (l := r) g t e fun q m => h q (List.mem_cons_of_mem _ m)
    rw [List.map_cons, lcGo, h1]
    simp only [h2, O.nx, O.bind_ok]
    by_cases c : t a = true
    · rw [if_pos c, h3 c]
      simp only [O.bind_ok, lcW, ih, List.filter_cons, c, if_true, List.map_cons]
    · rw [if_neg c, ih]
      simp only [List.filter_cons, c, Bool.false_eq_true, if_false]
theorem lc_all {α : Type} {f : GF} {E : EF} {γ : Γ} {μ : Μ} (g : α → P) (e : α → P) {l : List α} (h : ∀ a ∈ l, ∃ γ1, f (g a) γ = some γ1 ∧ E γ1 μ = .ok (.v (e a)) μ) : lcGo f fYes E γ (l.map g) μ = .ok (l.map e) μ := by
  have q := lc_on (f := f) (T := fYes) (E := E) (γ := γ) (μ := μ) g (fun _ => true) e (l := l) fun a m => let ⟨γ1, h1, h2⟩ := h a m; ⟨γ1, h1, rfl, fun _ => h2⟩
  rw [q, List.filter_eq_self.mpr fun _ _ => rfl]
theorem dc_on {α : Type} {f : GF} {T : TF} {Ek Ev : EF} {γ : Γ} {μ : Μ} (g : α → P) (t : α → Bool) (k : α → Key) (v : α → P) : ∀ {l : List α} {acc : List (Key × P)}, (∀ a ∈ l, ∃ γ1 kp, f (g a) γ = some γ1 ∧ T γ1 μ = .ok (t a) μ ∧ (t a = true → Ek γ1 μ = .ok (.v kp) μ ∧ keyP kp = some (k a) ∧ Ev γ1 μ = .ok (.v (v a)) μ)) →
    dcGo f T Ek Ev γ (l.map g) acc μ = .ok ((l.filter t).foldl (fun a p => putP a (k p) (v p)) acc) μ
  | [], acc, _ => rfl
  | p :: r, acc, h => by
    obtain ⟨γ1, kp, h1, h2, h3⟩ := h p List.mem_cons_self
    have ih := fun acc => dc_on (l := r) (acc := acc) g t k v fun q m => h q (List.mem_cons_of_mem _ m)
    rw [List.map_cons, dcGo, h1]
    simp only [h2, O.nx, O.bind_ok]
    by_cases c : t p = true
    · obtain ⟨h4, h5, h6⟩ := h3 c
      rw [if_pos c, h4]
      simp only [O.bind_ok, h6, dcW, h5, ih, List.filter_cons, c, if_true, List.foldl_cons]
    · rw [if_neg c, ih]
      simp only [List.filter_cons, c, Bool.false_eq_true, if_false]
theorem dc_all {α : Type} {f : GF} {Ek Ev : EF} {γ : Γ} {μ : Μ} (g : α → P) (k : α → Key) (v : α → P) {l : List α} (nd : (l.map k).Nodup) (h : ∀ a ∈ l, ∃ γ1 kp, f (g a) γ = some γ1 ∧ Ek γ1 μ = .ok (.v kp) μ ∧ keyP kp = some (k a) ∧ Ev γ1 μ = .ok (.v (v a)) μ) :
    dcGo f fYes Ek Ev γ (l.map g) [] μ = .ok (l.map fun a => (k a, v a)) μ := by
  have q := dc_on (f := f) (T := fYes) (Ek := Ek) (Ev := Ev) (γ := γ) (μ := μ) g (fun _ => true) k v (l := l) (acc := []) fun a m => let ⟨γ1, kp, h1, h2, h3, h4⟩ := h a m; ⟨γ1, kp, h1, rfl, fun _ => ⟨h2, h3, h4⟩⟩
  rw [q, List.filter_eq_self.mpr fun _ _ => rfl, put_all k v (by simpa using nd)]
  rfl
abbrev Tb := List (Str × Int)
def rowP (p : Str × Int) : Key × P := (Sum.inr p.1, .int p.2)
def dctP (t : Tb) : P := .dct (t.map rowP)
def keys (t : Tb) : List Str := t.map (·.1)
def get (t : Tb) (z : Str) : Option Int := (t.find? fun p => decide (p.1 = z)).map (·.2)
theorem val_dct (t : Tb) (z : Str) : valP (t.map rowP) (Sum.inr z) = (get t z).map P.int := by
  unfold valP get
  rw [List.find?_map, Option.map_map, Option.map_map]
  have e : ((fun kv : Key × P => decide (kv.1 = Sum.inr z)) ∘ rowP) = fun p : Str × Int => decide (p.1 = z) := by
    funext p
    show decide ((Sum.inr p.1 : Key) = Sum.inr z) = _
    congr 1
    exact propext ⟨fun h => by cases h; rfl, fun h => by rw [h]⟩
  rw [e]
  rfl
theorem get_mem {t : Tb} {z : Str} : (get t z).isSome = true ↔ z ∈ keys t := by
  unfold get keys
  rw [Option.isSome_map, List.find?_isSome]
  constructor
  · rintro ⟨p, m, e⟩
    exact List.mem_map.mpr ⟨p, m, of_decide_eq_true e⟩
  · intro m
    obtain ⟨p, m, e⟩ := List.mem_map.mp m
    exact ⟨p, m, decide_eq_true e⟩
theorem get_of {t : Tb} (nd : (keys t).Nodup) {p : Str × Int} (m : p ∈ t) : get t p.1 = some p.2 := by
  induction t with
  | nil => cases m
  | cons q r ih =>
    have nd' := List.nodup_cons.mp (show (q.1 :: keys r).Nodup from nd)
    unfold get
    rw [List.find?_cons]
    rcases List.mem_cons.mp m with rfl | m
    · simp
    · have ne : q.1 ≠ p.1 := fun e => nd'.1 (e ▸ List.mem_map.mpr ⟨p, m, rfl⟩)
      rw [decide_eq_false ne]
      exact ih nd'.2 m
theorem get_in {t : Tb} {z : Str} {v : Int} (h : get t z = some v) : (z, v) ∈ t := by
  unfold get at h
  obtain ⟨p, h1, h2⟩ := Option.map_eq_some_iff.mp h
  have e := List.find?_some h1
  have m := List.mem_of_find?_eq_some h1
  have e2 : p.1 = z := of_decide_eq_true e
  have e3 : p = (z, v) := by rw [← e2, ← h2]
  rw [e3] at m
  exact m
theorem keysS_rows : ∀ t : Tb, keysS (t.map rowP) = some (keys t)
  | [] => rfl
  | p :: t => by
    show (keysS (t.map rowP)).map (p.1 :: ·) = _
    rw [keysS_rows t]
    rfl
theorem keys_rows (t : Tb) : (t.map rowP).map (fun kp => keyOf kp.1) = (keys t).map P.str := by
  unfold keys
  rw [List.map_map, List.map_map]
  rfl
theorem dget_ok {t : Tb} {z : Str} {v : Int} {μ : Μ} (h : get t z = some v) : gIx (.v (dctP t)) (.v (.str z)) μ = .ok (.v (.int v)) μ := by
  show (O.bad.or (O.bad.or (O.bad.or (fDGet (.v (dctP t)) (.v (.str z)) μ)))) = _
  simp only [O.or_bad]
  show (match valP (t.map rowP) (Sum.inr z) with
      | some p => O.ok (W.v p) μ
      | none => .bad) = _
  rw [val_dct, h]
  rfl
theorem din_ok {t : Tb} {z : Str} {μ : Μ} (neg : Bool) : gIn neg (.v (.str z)) (.v (dctP t)) μ = .ok (.v (.bl (decide (z ∈ keys t) != neg))) μ := by
  show (O.bad.or (O.ok (W.v (.bl ((valP (t.map rowP) (Sum.inr z)).isSome != neg))) μ)) = _
  rw [O.or_bad, val_dct, Option.isSome_map]
  congr 4
  by_cases c : z ∈ keys t
  · rw [decide_eq_true c, get_mem.mpr c]
  · rw [decide_eq_false c]
    cases e : (get t z).isSome with
    | false => rfl
    | true => exact absurd (get_mem.mp e) c
section
variable {t : Tb} {μ : Μ}
theorem it_d (le : t.length ≤ 100000) : iAnyW (.v (dctP t)) μ = .ok ((keys t).map P.str) μ := by
  show few ((t.map rowP).map fun kp => keyOf kp.1) μ = _
  rw [few_le (by rw [List.length_map, List.length_map]; exact le), keys_rows]
theorem len_t : gLen [.v (dctP t)] μ = .ok (.v (.int t.length)) μ := by
  show gLen [.v (.dct (t.map rowP))] μ = _
  rw [len_d, List.length_map]
theorem sort_t {S : SF'} (le : t.length < 64) : gSort' S [.v (dctP t)] μ = .ok (.v (.lst ((srt (keys t)).map P.str))) μ := by
  show O.or .bad (O.or (match keysS (t.map rowP) with
    | some zs => if zs.length < 64 then O.ok (W.v (.lst ((srt zs).map .str))) μ else .bad
    | none => .bad) _) = _
  rw [O.or_bad, keysS_rows]
  simp only [show (keys t).length < 64 from by unfold keys; rw [List.length_map]; exact le, ↓reduceIte, O.or_ok]
theorem set_t {S : SF'} (le : t.length < 32) : gSet S [.v (dctP t)] μ = .ok (.v (.set S (insAll [] (keys t)))) μ := by
  show O.or .bad (O.or (match keysS (t.map rowP) with
    | some zs => if zs.length < 32 then O.ok (W.v (.set S (insAll [] zs))) μ else .bad
    | none => .bad) _) = _
  rw [O.or_bad, keysS_rows]
  simp only [show (keys t).length < 32 from by unfold keys; rw [List.length_map]; exact le, ↓reduceIte, O.or_ok]
theorem dict_t {c : Kind} : gDict c [.v (dctP t)] μ = mkD c (t.map rowP) μ := by
  show O.or (mkD c (t.map rowP) μ) _ = _
  cases c <;> rfl
end
theorem len_chr (z : Str) : (chrP z).length = z.length := by
  unfold chrP
  rw [List.length_map, Array.length_toList]
  rfl
theorem len_keys (t : Tb) : (keys t).length = t.length := List.length_map ..
section
variable {μ : Μ} {i j : Int}
theorem mod_ii (h : 0 < j) : fMod (.v (.int i)) (.v (.int j)) μ = .ok (.v (.int (i % j))) μ := if_pos (decide_eq_true h)
theorem div_ii (h : 0 < j ∧ j < 1073741824) : fDiv (.v (.int i)) (.v (.int j)) μ = .ok (.v (.int (i / j))) μ := if_pos (decide_eq_true h)
theorem pow_ii (h : 0 ≤ j ∧ j ≤ 1000000 ∧ i.natAbs < 2 ^ 64) : fPow (.v (.int i)) (.v (.int j)) μ = .ok (.v (.int (i ^ j.toNat))) μ := if_pos (decide_eq_true h)
theorem max_ii : gMax [.v (.int i), .v (.int j)] μ = .ok (.v (.int (max i j))) μ := rfl
theorem abs_i : fAbs [.v (.int i)] μ = .ok (.v (.int i.natAbs)) μ := rfl
theorem divm (h : 0 < j ∧ j < 1073741824) : fDivmod [.v (.int i), .v (.int j)] μ = .ok (.v (.tup [.int (i / j), .int (i % j)])) μ := if_pos h
theorem atI_nat {α : Type} {l : List α} {k : Nat} {v : α} (h : l[k]? = some v) : atI l (k : Int) = some v := by
  have lt := (List.getElem?_eq_some_iff.mp h).1
  unfold atI ixN
  rw [if_pos (by omega), if_pos (by omega)]
  exact h
theorem ix_l {ps : List P} {k : Nat} {v : P} (h : ps[k]? = some v) : gIx (.v (.lst ps)) (.v (.int k)) μ = .ok (.v v) μ := by
  show O.or (match atI ps (k : Int) with
    | some p => O.ok (W.v p) μ
    | none => .bad) _ = _
  rw [atI_nat h]
  rfl
end
theorem min_ii {μ : Μ} {i j : Int} : gMin [.v (.int i), .v (.int j)] μ = .ok (.v (.int (min i j))) μ := rfl
theorem ints_map {α : Type} (f : α → Int) : ∀ l : List α, intsP (l.map fun a => P.int (f a)) = some (l.map f)
  | [] => rfl
  | a :: r => by
    show (intsP (r.map fun a => P.int (f a))).map (f a :: ·) = _
    rw [ints_map f r]
    rfl
section
variable {μ : Μ}
theorem min_l {ps : List P} {l : List Int} (h : intsP ps = some l) (ne : l ≠ []) : gMin [.v (.lst ps)] μ = .ok (.v (.int (minL l))) μ := by
  show O.or .bad (match intsP ps with
    | some (n :: ns) => O.ok (W.v (.int (minL (n :: ns)))) μ
    | _ => .bad) = _
  rw [h, O.or_bad]
  cases l with
  | nil => exact absurd rfl ne
  | cons n ns => rfl
end
theorem max_l {μ : Μ} {ps : List P} {l : List Int} (h : intsP ps = some l) (ne : l ≠ []) : gMax [.v (.lst ps)] μ = .ok (.v (.int (maxL l))) μ := by
  show O.or .bad (match intsP ps with
    | some (n :: ns) => O.ok (W.v (.int (maxL (n :: ns)))) μ
    | _ => .bad) = _
  rw [h, O.or_bad]
  cases l with
  | nil => exact absurd rfl ne
  | cons n ns => rfl
theorem union_s {S : SF'} {a b : List Str} {μ : Μ} (na : a ≠ []) (hl : a.length + b.length < 32) : fUnion S (.v (.set S a)) (.v (.set S b)) μ = .ok (.v (.set S (insAll a b))) μ := by
  unfold fUnion
  rw [isS_set, isS_set]
  exact if_pos ⟨na, hl⟩
theorem sort_s {S : SF'} {a : List Str} {μ : Μ} (hl : a.length < 64) : gSort' S [.v (.set S a)] μ = .ok (.v (.lst ((srt a).map P.str))) μ := by
  show O.or .bad (O.or .bad (match isS S (.v (.set S a)) with
    | some zs => if zs.length < 64 then O.ok (W.v (.lst ((srt zs).map .str))) μ else .bad
    | none => .bad)) = _
  rw [isS_set, O.or_bad, O.or_bad]
  exact if_pos hl
theorem ins_len (l : List Str) : (insAll [] l).length ≤ l.length := by
  have := insAll_len [] l
  simpa using this
theorem nodup_le : ∀ {l m : List Str}, l.Nodup → (∀ x ∈ l, x ∈ m) → l.length ≤ m.length
  | [], _, _, _ => Nat.zero_le _
  | x :: l, m, nd, h => by
    rw [List.nodup_cons] at nd
    have hx := h x List.mem_cons_self
    have e : (m.erase x).length = m.length - 1 := List.length_erase_of_mem hx
    have r := nodup_le (l := l) (m := m.erase x) nd.2 fun y hy => by
      have ne : y ≠ x := fun q => nd.1 (q ▸ hy)
      exact (List.mem_erase_of_ne ne).mpr (h y (List.mem_cons_of_mem _ hy))
    have : 0 < m.length := List.length_pos_of_mem hx
    rw [List.length_cons]
    omega
theorem strs_str : ∀ zs : List Str, strsP (zs.map P.str) = some zs
  | [] => rfl
  | z :: r => by
    show (strsP (r.map P.str)).map (z :: ·) = _
    rw [strs_str r]
    rfl
theorem in_strs {neg : Bool} {z : Str} {zs : List Str} {w : W} {μ : Μ} (h : seqP μ w = some (zs.map P.str)) : gIn neg (.v (.str z)) w μ = .ok (.v (.bl (decide (z ∈ zs) != neg))) μ := by
  have fl : (zs.map P.str).all flatP = true := by
    rw [List.all_map]
    exact List.all_eq_true.mpr fun _ _ => rfl
  have an : ((zs.map P.str).any fun q => eqF q (.str z)) = decide (z ∈ zs) := by
    rw [List.any_map]
    by_cases c : z ∈ zs
    · rw [decide_eq_true c]
      exact List.any_eq_true.mpr ⟨z, c, beq_self_eq_true z⟩
    · rw [decide_eq_false c]
      refine List.any_eq_false.mpr fun x hx e => c ?_
      have : x = z := eq_of_beq e
      exact this ▸ hx
  have e1 : fIn neg (.v (.str z)) w μ = .ok (.v (.bl (decide (z ∈ zs) != neg))) μ := by
    unfold fIn
    rw [h]
    simp only [an, fl, flatP, and_self, ↓reduceIte]
  show O.or (fIn neg (.v (.str z)) w μ) _ = _
  rw [e1]
  rfl
theorem rng_at {n j : Nat} {p : P} (h : (rngP 0 n)[j]? = some p) : j < n ∧ p = .int (j : Int) := by
  unfold rngP at h
  rw [List.getElem?_map] at h
  obtain ⟨k, e, rfl⟩ := Option.map_eq_some_iff.mp h
  obtain ⟨lt, e2⟩ := List.getElem?_eq_some_iff.mp e
  rw [List.length_range] at lt
  rw [List.getElem_range] at e2
  subst e2
  exact ⟨lt, by rw [Int.zero_add]⟩
theorem rng_len (n : Nat) : (rngP 0 n).length = n := by
  unfold rngP
  rw [List.length_map, List.length_range]
section
variable {μ : Μ}
theorem ix_0 {v : P} {l : List P} {μ : Μ} : gIx (.v (.lst (v :: l))) (.v (.int 0)) μ = .ok (.v v) μ := ix_l (k := 0) rfl
end
theorem pairs_map {α : Type} (k : α → Str) (v : α → P) : ∀ l : List α, pairsP (l.map fun a => P.tup [.str (k a), v a]) = some (l.map fun a => (Sum.inr (k a), v a))
  | [] => rfl
  | a :: r => by
    show (match keyP (.str (k a)), pairsP (r.map fun a => P.tup [.str (k a), v a]) with
      | some k, some l => some ((k, v a) :: l)
      | _, _ => none) = _
    rw [pairs_map k v r]
    rfl
theorem merge_fold : ∀ (l : List (Key × P)) (acc : List (Key × P)), mergeP acc l = l.foldl (fun a p => putP a p.1 p.2) acc
  | [], _ => rfl
  | p :: r, acc => by
    show mergeP (putP acc p.1 p.2) r = _
    rw [merge_fold r]
    rfl
theorem drop_rep (zs : List Str) (lo hi : Option Int) : cutP (zs.map P.str) lo hi = (cutP zs lo hi).map P.str := by
  unfold cutP
  rw [List.length_map, List.map_take, List.map_drop]
theorem sl_l {ps : List P} {lo hi : Option Int} {μ : Μ} : gSlX (.v (.lst ps)) lo hi μ = .ok (.v (.lst (cutP ps lo hi))) μ := rfl
theorem cut_to {zs : List Str} {k : Nat} : cutP zs none (some (k : Int)) = zs.take k := by
  unfold cutP
  rw [HT.sIx_nat]
  show (zs.drop 0).take _ = _
  rw [List.drop_zero]
  show zs.take (min k zs.length - 0) = _
  rw [Nat.sub_zero]
  by_cases c : k ≤ zs.length
  · rw [Nat.min_eq_left c]
  · rw [Nat.min_eq_right (by omega), List.take_of_length_le (Nat.le_refl _), List.take_of_length_le (by omega)]
theorem cut_from {zs : List Str} {k : Nat} (h : k ≤ zs.length) : cutP zs (some (k : Int)) none = zs.drop k := by
  unfold cutP
  rw [HT.sIx_nat, Nat.min_eq_left h]
  show (zs.drop k).take (zs.length - k) = _
  rw [List.take_of_length_le (by rw [List.length_drop]; exact Nat.le_refl _)]
theorem nm_ok {z : Str} (h : Nm z) : PyData.strOk z = true := by
  unfold PyData.strOk
  rw [← Array.all_toList]
  refine List.all_eq_true.mpr fun c m => decide_eq_true ?_
  have := (h.az c m).2
  omega
theorem strs_lay : ∀ l : List Str, (∀ z ∈ l, Nm z) → PyData.canLayAll0 (l.map PyData.str) = true ∧ PyData.depthAll (l.map PyData.str) = 0
  | [], _ => ⟨rfl, rfl⟩
  | z :: r, h => by
    obtain ⟨a, b⟩ := strs_lay r fun x m => h x (List.mem_cons_of_mem _ m)
    refine ⟨?_, ?_⟩
    · show PyData.canLayAll0 (PyData.str z :: r.map PyData.str) = true
      simp only [PyData.canLayAll0, PyData.canLay0, a, nm_ok (h z List.mem_cons_self), Bool.and_self]
    · show max _ _ = 0
      rw [b]
      rfl
end Pu
set_option Elab.async false
set_option linter.all false
set_option maxRecDepth 100000
set_option maxHeartbeats 4000000
/-! ### set | set where the first is empty -/
namespace E10
open L2 PySem PySem.Spec PyProof.Rows
section
variable {P : Program} {w : World} {A : Around} {E : Value → Shared → Prop} {s : Shared} {a b : Addr} {zs ys : List Str}
theorem copyOfE {Q : Value → Shared → Prop} (R : SetT P w s.heap a []) (hQ : ∀ h', h'.get? s.heap.objs.size = some (newSetO w) → (∀ b o, s.heap.get? b = some o → h'.get? b = some o) → Q (.ref s.heap.objs.size) { s with heap := h' }) :
    wpAny (model P w) A (Builtin.Frozenset.copyOf a) Q E s := by
  obtain ⟨o, es, ep, t, ho, hx, hd, D⟩ := id R
  have hT : s.TypeIs (.ref a) "set" := ⟨o, ho, hx.1⟩
  unfold Builtin.Frozenset.copyOf Builtin.Frozenset.baseOf
  refine wpAny_bind (wpAny_bind (wpAny_isInstance hT PySem.F.sub_set_set ?_))
  simp only [↓reduceIte]
  refine wpAny_pure ?_
  unfold newSet
  refine wpAny_bind (wpAny_bind (wpAny_byText ?_))
  dsimp only
  simp only [newObj]
  refine wpAny_bind (wpAny_alloc (wpAny_pure ?_))
  show wpAny _ _ (Builtin.Frozenset.addrOf _ >>= _) _ _ _
  refine wpAny_bind (wpAny_pure ?_)
  have hr : (s.heap.push (newSetO w)).get? s.heap.objs.size = some (newSetO w) := Heap.get?_push_size _ rfl
  have lt : a < s.heap.objs.size := Heap.lt_size ho
  have ho1 : (s.heap.push (newSetO w)).get? a = some o := Heap.get?_push_of_some _ ho
  have em : es.isEmpty = true := by
    have q := D.size
    exact Array.isEmpty_iff_size_eq_zero.mpr q
  refine wpAny_bind ?_
  unfold setMerge
  rw [show (s.heap.objs.size == a) = false from beq_eq_false_iff_ne.mpr (Ne.symm (Nat.ne_of_lt lt))]
  simp only [Bool.false_eq_true, ↓reduceIte]
  refine wpAny_bind (wpAny_setState_of (s := { s with heap := s.heap.push (newSetO w) }) ho1 hd D.fits ?_)
  dsimp only
  rw [if_pos em]
  refine wpAny_pure ?_
  exact wpAny_pure (hQ _ hr fun b o e => Heap.get?_push_of_some _ e)
theorem insNil_perm {ys : List Str} (nd : ys.Nodup) : ys.Perm (insAll [] ys) := (List.perm_ext_iff_of_nodup nd (insAll_nd List.nodup_nil)).mpr fun z => by rw [insAll_mem]; simp
theorem unionE {Q : Value → Shared → Prop} (R : SetT P w s.heap a []) (O : SetT P w s.heap b ys) (few : ys.length * 2 < 64)
    (hQ : ∀ h' d, SetT P w h' s.heap.objs.size (insAll [] ys) → (∀ b o, s.heap.get? b = some o → h'.get? b = some o) → Q (.ref s.heap.objs.size) { s with heap := h', drawn := d }) :
    wpAny (model P w) A (binaryOp .BitOr (.ref a) (.ref b)) Q E s := by
  obtain ⟨o, es, ep, t, ho, hx, hd, D⟩ := id R
  obtain ⟨ob, esb, epb, tb, hob, hxb, hdb, Db⟩ := id O
  have hT : s.TypeIs (.ref a) "set" := ⟨o, ho, hx.1⟩
  have hTb : s.TypeIs (.ref b) "set" := ⟨ob, hob, hxb.1⟩
  simp only [binaryOp]
  try with_reducible refine wpAny_holding ?_
  show wpAny _ _ (binaryOp1 "or" (.ref a) (.ref b) >>= _) _ _ _
  refine wpAny_bind ?_
  unfold binaryOp1
  refine wpAny_bind (wpAny_typeOf hT (wpAny_bind (wpAny_typeOf hTb (wpAny_bind (wpAny_of_eq PySem.F.fills_set_or ?_)))))
  rw [show (Value.type "set" == Value.type "set") = true from by decide]
  simp only [if_true, pure_bind, Bool.and_false, Bool.false_and, Bool.false_eq_true, if_false]
  refine wpAny_bind (wpAny_tryMethod_slot hT PySem.F.slot_set_or (wpAny_call_entry PySem.F.slot_set_or hT entry_set_or ?_ (PySem.F.args_set_or_2 _ _)))
  show wpAny _ _ (Builtin.Frozenset.slot1 "__or__" ⟨[.ref a, .ref b], []⟩ >>= _) _ _ _
  unfold Builtin.Frozenset.slot1 slotArgs
  refine wpAny_bind (wpAny_bind (wpAny_pure (wpAny_pure ?_)))
  show wpAny _ _ (andM (Builtin.Frozenset.isAnySet (.ref a)) (Builtin.Frozenset.isAnySet (.ref b)) >>= _) _ _ _
  refine wpAny_bind ?_
  unfold andM
  refine wpAny_bind (isAny R ?_)
  simp only [↓reduceIte]
  refine isAny O ?_
  simp only [Bool.not_true, Bool.false_eq_true, ↓reduceIte]
  refine wpAny_bind (wpAny_pure ?_)
  refine wpAny_bind ?_
  show wpAny _ _ (Builtin.Frozenset.copyOf a >>= fun result => _) _ _ _
  refine wpAny_bind (copyOfE R fun h1 hr1 k1 => ?_)
  have fin : ∀ h' d, SetT P w h' s.heap.objs.size (insAll [] ys) → (∀ b o, s.heap.get? b = some o → h'.get? b = some o) → Q (Value.ref s.heap.objs.size) { s with heap := h', drawn := d } := hQ
  have pm2 : ys.Perm (insAll [] ys) := insNil_perm Db.nd
  by_cases c : b = a
  · subst c
    rw [bne_self_eq_false]
    simp only [Bool.false_eq_true, ↓reduceIte]
    have e0 : ys = [] := by
      rw [ho] at hob
      cases hob
      rw [hd] at hdb
      cases hdb
      exact List.Perm.eq_nil (Db.perm.symm.trans D.perm)
    subst e0
    exact wpAny_pure (wpAny_pure ⟨_, rfl, (fun e => by cases e), wpAny_pure (wpAny_pure (fin h1 s.drawn (setT_new hr1) k1))⟩)
  · have cb : (Value.ref b != Value.ref a) = true := bne_iff_ne.mpr fun e => c (by cases e; rfl)
    rw [cb]
    simp only [↓reduceIte]
    refine wpAny_bind (wpAny_pure ?_)
    refine wpAny_bind (wpAny_holding ?_)
    have O1 : SetT P w h1 b ys := O.keep fun o e => k1 b o e
    have nb : s.heap.objs.size ≠ b := Ne.symm (Nat.ne_of_lt (Heap.lt_size hob))
    unfold Builtin.Frozenset.updateFrom
    refine wpAny_bind (isAny (s := { s with heap := h1 }) O1 ?_)
    simp only [↓reduceIte]
    refine wpAny_bind (wpAny_pure ?_)
    unfold Builtin.Frozenset.merge
    have hob1 : h1.get? b = some ob := k1 b ob hob
    refine wpAny_bind (wpAny_setEpoch_of (s := { s with heap := h1 }) hob1 hdb Db.fits ?_)
    refine copyT (s := { s with heap := h1 }) hr1 O1 nb few fun h' sb R2 => ?_
    exact wpAny_pure (wpAny_pure ⟨_, rfl, (fun e => by cases e), wpAny_pure (wpAny_pure (fin h' s.drawn (R2.perm pm2) fun x o e => (sb.2 x (Nat.ne_of_lt (Heap.lt_size e))).trans (k1 x o e)))⟩)
end
section
variable {X : Cx}
def rUnionE (P : Program) (w : World) : R2 := fun x y H Q => ∃ (a b : Addr) (ys : List Str), x = V.ref a ∧ y = V.ref b ∧ H a = some (SetTO P w a []) ∧ H b = some (SetTO P w b ys) ∧ ys.length * 2 < 64 ∧ ∀ p, H p = none → Q (.ref p) (upd H p (SetTO P w p (insAll [] ys)))
theorem op_unionE : OpR X (binaryOp .BitOr) (rUnionE X.prog X.w) := by
  intro pins s σ H x y v u Q I rx ry h
  obtain ⟨a, b, ys, rfl, rfl, ha, hb, few, q⟩ := h
  cases rx
  cases ry
  refine unionE (setT_at I ha) (setT_at I hb) few fun h' d R k => ?_
  have hn : H s.heap.objs.size = none := I.hok.fresh (Nat.le_refl _)
  have J : Inv X pins σ (upd H s.heap.objs.size (SetTO X.prog X.w s.heap.objs.size (insAll [] ys))) { s with heap := h', gens := s.gens, drawn := d, toks := s.toks } :=
    I.call (ch := []) (Un.laid k (Nat.le_refl _) hn) (I.hok.laid k (Nat.le_refl _) (setT_ok R)) I.bare (fun _ z => nomatch z)
  exact ⟨.ref _, _, J, rfl, q _ hn⟩
end
end E10
namespace Pu
open L2 PySem PySem.Spec PyProof.Rows E10
section
variable {X : Cx} {Wx : WX} {a b : Expr} {F1 F2 : EF} {pos : Pos} {Pg : Program} {w : World}
noncomputable def fUnionE (S : SF') : W → W → Μ → O W := fun x y μ => match isS S x, isS S y with
  | some [], some ys => if ys.length < 32 then .ok (.v (.set S (insAll [] ys))) μ else .bad
  | _, _ => .bad
theorem ad_unionE : AdR2 Wx (rUnionE Pg w) (fUnionE (SetTO Pg w)) := fun D as μ σ H x y a b Q k ra rb g => by
  unfold fUnionE at g
  split at g
  · rename_i ys e1 e2
    split at g
    · rename_i hl
      cases isS_ok e1
      cases isS_ok e2
      cases ra with
      | set n1 h1 s1 =>
        cases rb with
        | set n2 h2 s2 => exact ⟨_, _, ys, rfl, rfl, h1, h2, by omega, newS k g⟩
    · exact g.elim
  · exact g.elim
noncomputable abbrev gUnion (S : SF') : W → W → Μ → O W := f2or (fUnion S) (fUnionE S)
theorem pp_borE (ha : PP X Wx a F1) (hb : PP X Wx b F2) : PP X Wx (.BinOp a .BitOr b pos) (fOp (gUnion (SetTO X.prog X.w)) F1 F2) := pp_op (op_unionT.or op_unionE) (ad_union.or ad_unionE) ha hb
theorem union_g {S : SF'} {a b : List Str} {μ : Μ} (hl : a.length + b.length < 32) : gUnion S (.v (.set S a)) (.v (.set S b)) μ = .ok (.v (.set S (insAll a b))) μ := by
  cases a with
  | nil =>
    have e1 : fUnion S (.v (.set S [])) (.v (.set S b)) μ = .bad := by
      unfold fUnion
      rw [isS_set, isS_set]
      exact if_neg fun h => h.1 rfl
    show O.or (fUnion S _ _ μ) (fUnionE S _ _ μ) = _
    rw [e1, O.or_bad]
    unfold fUnionE
    rw [isS_set, isS_set]
    exact if_pos (by simpa using hl)
  | cons z r =>
    show O.or (fUnion S _ _ μ) _ = _
    rw [union_s (by simp) hl]
    rfl
end
end Pu
set_option Elab.async false
set_option linter.all false
set_option maxRecDepth 100000
set_option maxHeartbeats 8000000
namespace Pu
open L2 PySem PySem.Spec PyProof.Rows E10
open He (ga ma)
section
variable {P : Program} {w : World} {K : PySem.W.Frag} {mg : Str → Option Value} {base : Heap}
theorem ow (c : obsK K = val0) : Own K [(ga K "Earliest"), (ga K "Rule"), (ga K "Book"), (ga K "Term")] := ownsB_ok (bOwns c)
theorem cl_Earliest (c : obsK K = val0) : Cls K (ga K "Earliest") := ((ow c).ins _ (by simp)).cls
theorem na_Earliest__shifts (c : obsK K = val0) : NoAttr K (ga K "Earliest") "_shifts" := He.eqO_ok (bNo_Earliest__shifts c)
theorem fi_Earliest (c : obsK K = val0) : ∀ f, Has K (ga K "Earliest") f "__getitem__" → PySem.W.fnIn K f = true := fun f h => by
  have e := h.at_.symm.trans (mB_ok (bSp_Earliest___getitem__ c)).at_
  cases e
  exact bFi_Earliest c
theorem cl_Rule (c : obsK K = val0) : Cls K (ga K "Rule") := ((ow c).ins _ (by simp)).cls
theorem na_Rule__earliest (c : obsK K = val0) : NoAttr K (ga K "Rule") "_earliest" := He.eqO_ok (bNo_Rule__earliest c)
theorem na_Rule__moment (c : obsK K = val0) : NoAttr K (ga K "Rule") "_moment" := He.eqO_ok (bNo_Rule__moment c)
theorem cl_Book (c : obsK K = val0) : Cls K (ga K "Book") := ((ow c).ins _ (by simp)).cls
theorem na_Book__moments (c : obsK K = val0) : NoAttr K (ga K "Book") "_moments" := He.eqO_ok (bNo_Book__moments c)
theorem na_Book__rules (c : obsK K = val0) : NoAttr K (ga K "Book") "_rules" := He.eqO_ok (bNo_Book__rules c)
theorem fi_Book (c : obsK K = val0) : ∀ f, Has K (ga K "Book") f "__getitem__" → PySem.W.fnIn K f = true := fun f h => by
  have e := h.at_.symm.trans (mB_ok (bSp_Book___getitem__ c)).at_
  cases e
  exact bFi_Book c
theorem cc_Book_MOST_MOMENTS (c : obsK K = val0) : CCst K (ga K "Book") "MOST_MOMENTS" 8 := ccB_ok (bCc_Book_MOST_MOMENTS c)
theorem cc_Book_MOST_RULES (c : obsK K = val0) : CCst K (ga K "Book") "MOST_RULES" 100 := ccB_ok (bCc_Book_MOST_RULES c)
theorem cl_Term (c : obsK K = val0) : Cls K (ga K "Term") := ((ow c).ins _ (by simp)).cls
theorem in_Term (c : obsK K = val0) : IntK K (ga K "Term") := firB_ok (bFir_Term c)
theorem na_Term__moment (c : obsK K = val0) : NoAttr K (ga K "Term") "_moment" := He.eqO_ok (bNo_Term__moment c)
theorem na_Term__shift (c : obsK K = val0) : NoAttr K (ga K "Term") "_shift" := He.eqO_ok (bNo_Term__shift c)
theorem radd_Term (c : obsK K = val0) : Refl K (ga K "Term") (dunderR "add") := refl_has (bRadd_Term c)
end
end Pu
set_option Elab.async false
set_option linter.all false
set_option maxRecDepth 100000
set_option maxHeartbeats 8000000
namespace Pu
open L2 PySem PySem.Spec PyProof.Rows E10
open He (ga ma)
section
variable {P : Program} {w : World} {K : PySem.W.Frag} {mg : Str → Option Value} {base : Heap}
/-! _law_pot -/
def N__law_pot : List Str := ["_law_script", "_law_k", "_law_cell"]
theorem sc__law_pot : FnScope N__law_pot ["_law_script", "_law_k"] (defScope s__law_pot) := ⟨rfl, rfl, rfl, by decide +kernel, rfl, by decide +kernel, by decide +kernel⟩
noncomputable def D__law_pot (P : Program) (w : World) (K : PySem.W.Frag) : FF := fDef 2 3 (sSeq (sSet 2 (fOp gAdd (fOp gMul (fC (.int 31)) (fVar 1)) (fC (.int 7))))
      (sSeq (sIfS (fTest (fOp gLt (fVar 1) (fCall gLen (fCons (fVar 0) fNil)))) (sSet 2 (fCall fAbs (fCons (fOp gIx (fVar 0) (fVar 1)) fNil))) sNext)
      (sRet (fLstC (fCons (fCall gMax (fCons (fC (.int 0)) (fCons (fOp fSub (fVar 2) (fOp fPow (fC (.int 10)) (fC (.int 18)))) fNil))) (fCons (fOp gAdd (fOp fMod (fOp gMul (fOp gAdd (fOp fMod (fVar 2) (fC (.int 2147483477))) (fC (.int 1))) (fOp fPow (fOp gAdd (fOp gMul (fC (.int 2)) (fVar 1)) (fC (.int 5))) (fC (.int 3)))) (fC (.int 2147483353))) (fC (.int 1))) fNil))))))
theorem fx__law_pot (XI : K.In base) (GN : base.Ns mainGlobals mg) (c : obsK K = val0) {fd : FuncData} {f : Addr} (F : Fun K "_law_pot" "_law_pot" s__law_pot f fd) : FnX P w K mg base 1 f fd ["_law_script", "_law_k"] (spP 2 (D__law_pot P w K)) :=
    (Fun.pp F sc__law_pot (fun cdv A fr s H E hG hr => by
      have hu : A.units + 3 + 64 < cLine := hr.units
      exact (pps_cons (ppq_set (i := 2) sc__law_pot.nd rfl (Or.inl rfl) (pp_add (pp_mul pp_int (pp_v 1)) pp_int))
      (pps_cons (ppq_if (pt_lt (pp_v 1) (pp_len' rfl (f_len XI GN c) (ppa_cons (pp_v 0) ppa_nil))) (pps_one (ppq_set (i := 2) sc__law_pot.nd rfl (Or.inl rfl) (pp_abs rfl (f_abs XI GN c) (ppa_cons (pp_idx (Nat.lt_of_le_of_lt (Nat.add_le_add_left (by decide) _) hu) (pp_v 0) (pp_v 1)) ppa_nil)))) pps_nil)
      (pps_one (ppq_ret (pp_lstC (ppa_cons (pp_max rfl rfl (f_max XI GN c) (ppa_cons pp_int (ppa_cons (pp_sub (pp_v 2) (pp_pow pp_int pp_int)) ppa_nil))) (ppa_cons (pp_add (pp_mod (pp_mul (pp_add (pp_mod (pp_v 2) pp_int) pp_int) (pp_pow (pp_add (pp_mul pp_int (pp_v 1)) pp_int) pp_int)) pp_int) pp_int) ppa_nil)))))))))
theorem t__law_pot (XI : K.In base) (GN : base.Ns mainGlobals mg) (c : obsK K = val0) : DP P w K mg base "_law_pot" 2 1 (D__law_pot P w K) := by
  obtain ⟨fd, F⟩ := F__law_pot c
  exact ⟨_, fd, _, rfl, (fx__law_pot XI GN c F), g__law_pot XI GN c, F.kp, F.binds (by intro _ _ _ _ _ _ us hl; first | (match us, hl with | [_], _ => rfl) | (match us, hl with | [_, _], _ => rfl) | (match us, hl with | [_, _, _], _ => rfl) | (match us, hl with | [_, _, _, _], _ => rfl) | (match us, hl with | [_, _, _, _, _], _ => rfl) | (match us, hl with | [_, _, _, _, _, _], _ => rfl) | (match us, hl with | [_, _, _, _, _, _, _], _ => rfl) | (match us, hl with | [_, _, _, _, _, _, _, _], _ => rfl) | (match us, hl with | [_, _, _, _, _, _, _, _, _], _ => rfl))⟩
/-! _law_draw -/
def N__law_draw : List Str := ["_law_pot_here", "_law_many", "_law_digit"]
theorem sc__law_draw : FnScope N__law_draw ["_law_pot_here", "_law_many"] (defScope s__law_draw) := ⟨rfl, rfl, rfl, by decide +kernel, rfl, by decide +kernel, by decide +kernel⟩
noncomputable def D__law_draw (P : Program) (w : World) (K : PySem.W.Frag) : FF := fDef 2 3 (sSeq (sIfS (fTest (fOp gGt (fOp gIx (fVar 0) (fC (.int 0))) (fC (.int 0)))) (sSeq (sSubName 2 (fCall fDivmod (fCons (fOp gIx (fVar 0) (fC (.int 0))) (fCons (fVar 1) fNil))) (fVar 0) (fC (.int 0)))
        (sRet (fVar 2))) sNext)
      (sSeq (sLPutP (fOp fMod (fOp gAdd (fOp gMul (fOp gIx (fVar 0) (fC (.int 1))) (fC (.int 40014))) (fC (.int 20021))) (fC (.int 2147483353))) (fVar 0) (fC (.int 1)))
      (sRet (fOp fMod (fOp fDiv (fOp fMod (fOp gMul (fOp gIx (fVar 0) (fC (.int 1))) (fOp gIx (fVar 0) (fC (.int 1)))) (fC (.int 2147483269))) (fC (.int 23))) (fVar 1)))))
theorem fx__law_draw (XI : K.In base) (GN : base.Ns mainGlobals mg) (c : obsK K = val0) {fd : FuncData} {f : Addr} (F : Fun K "_law_draw" "_law_draw" s__law_draw f fd) : FnX P w K mg base 1 f fd ["_law_pot_here", "_law_many"] (spP 2 (D__law_draw P w K)) :=
    (Fun.pp F sc__law_draw (fun cdv A fr s H E hG hr => by
      have hu : A.units + 3 + 64 < cLine := hr.units
      exact (pps_cons (ppq_if (pt_gt (pp_idx (Nat.lt_of_le_of_lt (Nat.add_le_add_left (by decide) _) hu) (pp_v 0) pp_int) pp_int) (pps_cons (ppq_subName (i := 2) (pp_divmod rfl (f_divmod XI GN c) (ppa_cons (pp_idx (Nat.lt_of_le_of_lt (Nat.add_le_add_left (by decide) _) hu) (pp_v 0) pp_int) (ppa_cons (pp_v 1) ppa_nil))) (pp_v 0) pp_int rfl sc__law_draw.nd rfl (Or.inl rfl))
        (pps_one (ppq_ret (pp_v 2)))) pps_nil)
      (pps_cons (ppq_lput (pp_mod (pp_add (pp_mul (pp_idx (Nat.lt_of_le_of_lt (Nat.add_le_add_left (by decide) _) hu) (pp_v 0) pp_int) pp_int) pp_int) pp_int) (pp_v 0) pp_int)
      (pps_one (ppq_ret (pp_mod (pp_div (pp_mod (pp_mul (pp_idx (Nat.lt_of_le_of_lt (Nat.add_le_add_left (by decide) _) hu) (pp_v 0) pp_int) (pp_idx (Nat.lt_of_le_of_lt (Nat.add_le_add_left (by decide) _) hu) (pp_v 0) pp_int)) pp_int) pp_int) (pp_v 1))))))))
theorem t__law_draw (XI : K.In base) (GN : base.Ns mainGlobals mg) (c : obsK K = val0) : DP P w K mg base "_law_draw" 2 1 (D__law_draw P w K) := by
  obtain ⟨fd, F⟩ := F__law_draw c
  exact ⟨_, fd, _, rfl, (fx__law_draw XI GN c F), g__law_draw XI GN c, F.kp, F.binds (by intro _ _ _ _ _ _ us hl; first | (match us, hl with | [_], _ => rfl) | (match us, hl with | [_, _], _ => rfl) | (match us, hl with | [_, _, _], _ => rfl) | (match us, hl with | [_, _, _, _], _ => rfl) | (match us, hl with | [_, _, _, _, _], _ => rfl) | (match us, hl with | [_, _, _, _, _, _], _ => rfl) | (match us, hl with | [_, _, _, _, _, _, _], _ => rfl) | (match us, hl with | [_, _, _, _, _, _, _, _], _ => rfl) | (match us, hl with | [_, _, _, _, _, _, _, _, _], _ => rfl))⟩
/-! _law_names -/
def N__law_names : List Str := ["_law_pot_here", "_law_many", "_law_some", "_law_k"]
theorem sc__law_names : FnScope N__law_names ["_law_pot_here", "_law_many"] (defScope s__law_names) := ⟨rfl, rfl, rfl, by decide +kernel, rfl, by decide +kernel, by decide +kernel⟩
noncomputable def D__law_names (P : Program) (w : World) (K : PySem.W.Frag) : FF := fDef 2 4 (sSeq (sSet 2 (fLstC (fCons (fC (.str "a")) (fCons (fC (.str "ab")) (fCons (fC (.str "b")) (fCons (fC (.str "bus")) (fCons (fC (.str "moments")) (fCons (fC (.str "zzzzzzzz")) (fCons (fC (.str "q")) (fCons (fC (.str "rule")) (fCons (fC (.str "abcdefgh")) (fCons (fC (.str "none")) (fCons (fC (.str "c")) (fCons (fC (.str "ann")) fNil))))))))))))))
      (sRet (fLc (iRg1 (fCons (fVar 1) fNil)) (tgName 3) fYes (fBM "list" mPopAt (fVar 2) (fCons (fCall (D__law_draw P w K) (fCons (fVar 0) (fCons (fCall gLen (fCons (fVar 2) fNil)) fNil))) fNil)) [3])))
theorem fx__law_names (XI : K.In base) (GN : base.Ns mainGlobals mg) (c : obsK K = val0) {fd : FuncData} {f : Addr} (F : Fun K "_law_names" "_law_names" s__law_names f fd) : FnX P w K mg base 2 f fd ["_law_pot_here", "_law_many"] (spP 2 (D__law_names P w K)) :=
    (Fun.pp F sc__law_names (fun cdv A fr s H E hG hr => by
      have hu : A.units + 3 + 64 < cLine := hr.units
      exact (pps_cons (ppq_set (i := 2) sc__law_names.nd rfl (Or.inr rfl) (pp_lstC (ppa_cons pp_str (ppa_cons pp_str (ppa_cons pp_str (ppa_cons pp_str (ppa_cons pp_str (ppa_cons pp_str (ppa_cons pp_str (ppa_cons pp_str (ppa_cons pp_str (ppa_cons pp_str (ppa_cons pp_str (ppa_cons pp_str ppa_nil))))))))))))))
      (pps_one (ppq_ret (pp_lc (own := [("_law_k", 3)]) (g := (gName 3)) rfl sc__law_names.nd (ppi_range1 rfl (f_range XI GN c) (ppa_cons (pp_v 1) ppa_nil)) (blkOk_by (own := [("_law_k", 3)]) (by kernel_rfl)) (fun _ _ _ _ _ => (pg_name (i := 3) sc__law_names.nd rfl (by first | exact Or.inl rfl | exact Or.inr rfl))) (ad_gName (i := 3) (by intro l e; cases e <;> decide)) (fun _ _ _ _ _ => ppts_nil) (fun _ _ _ _ _ => (pp_popAt (pp_v 2) (pp_call (t__law_draw XI GN c) hG (hr.mono (by decide)) takes0 rfl (ppa_cons (pp_v 0) (ppa_cons (pp_len' rfl (f_len XI GN c) (ppa_cons (pp_v 2) ppa_nil)) ppa_nil)))))))))))
theorem t__law_names (XI : K.In base) (GN : base.Ns mainGlobals mg) (c : obsK K = val0) : DP P w K mg base "_law_names" 2 2 (D__law_names P w K) := by
  obtain ⟨fd, F⟩ := F__law_names c
  exact ⟨_, fd, _, rfl, (fx__law_names XI GN c F), g__law_names XI GN c, F.kp, F.binds (by intro _ _ _ _ _ _ us hl; first | (match us, hl with | [_], _ => rfl) | (match us, hl with | [_, _], _ => rfl) | (match us, hl with | [_, _, _], _ => rfl) | (match us, hl with | [_, _, _, _], _ => rfl) | (match us, hl with | [_, _, _, _, _], _ => rfl) | (match us, hl with | [_, _, _, _, _, _], _ => rfl) | (match us, hl with | [_, _, _, _, _, _, _], _ => rfl) | (match us, hl with | [_, _, _, _, _, _, _, _], _ => rfl) | (match us, hl with | [_, _, _, _, _, _, _, _, _], _ => rfl))⟩
/-! _law_among -/
def N__law_among : List Str := ["_law_pot_here", "_law_some"]
theorem sc__law_among : FnScope N__law_among ["_law_pot_here", "_law_some"] (defScope s__law_among) := ⟨rfl, rfl, rfl, by decide +kernel, rfl, by decide +kernel, by decide +kernel⟩
noncomputable def D__law_among (P : Program) (w : World) (K : PySem.W.Frag) : FF := fDef 2 2 (sRet (fOp gIx (fVar 1) (fCall (D__law_draw P w K) (fCons (fVar 0) (fCons (fCall gLen (fCons (fVar 1) fNil)) fNil)))))
theorem fx__law_among (XI : K.In base) (GN : base.Ns mainGlobals mg) (c : obsK K = val0) {fd : FuncData} {f : Addr} (F : Fun K "_law_among" "_law_among" s__law_among f fd) : FnX P w K mg base 2 f fd ["_law_pot_here", "_law_some"] (spP 2 (D__law_among P w K)) :=
    (Fun.pp F sc__law_among (fun cdv A fr s H E hG hr => by
      have hu : A.units + 3 + 64 < cLine := hr.units
      exact (pps_one (ppq_ret (pp_idx (Nat.lt_of_le_of_lt (Nat.add_le_add_left (by decide) _) hu) (pp_v 1) (pp_call (t__law_draw XI GN c) hG (hr.mono (by decide)) (takes_of rfl rfl rfl rfl) rfl (ppa_cons (pp_v 0) (ppa_cons (pp_len' rfl (f_len XI GN c) (ppa_cons (pp_v 1) ppa_nil)) ppa_nil))))))))
theorem t__law_among (XI : K.In base) (GN : base.Ns mainGlobals mg) (c : obsK K = val0) : DP P w K mg base "_law_among" 2 2 (D__law_among P w K) := by
  obtain ⟨fd, F⟩ := F__law_among c
  exact ⟨_, fd, _, rfl, (fx__law_among XI GN c F), g__law_among XI GN c, F.kp, F.binds (by intro _ _ _ _ _ _ us hl; first | (match us, hl with | [_], _ => rfl) | (match us, hl with | [_, _], _ => rfl) | (match us, hl with | [_, _, _], _ => rfl) | (match us, hl with | [_, _, _, _], _ => rfl) | (match us, hl with | [_, _, _, _, _], _ => rfl) | (match us, hl with | [_, _, _, _, _, _], _ => rfl) | (match us, hl with | [_, _, _, _, _, _, _], _ => rfl) | (match us, hl with | [_, _, _, _, _, _, _, _], _ => rfl) | (match us, hl with | [_, _, _, _, _, _, _, _, _], _ => rfl))⟩
/-! _law_row -/
def N__law_row : List Str := ["_law_pot_here", "_law_names_here", "_law_y", "_law_scale", "_law_left", "_law_some", "_law_terms", "_law_k"]
theorem sc__law_row : FnScope N__law_row ["_law_pot_here", "_law_names_here", "_law_y", "_law_scale"] (defScope s__law_row) := ⟨rfl, rfl, rfl, by decide +kernel, rfl, by decide +kernel, by decide +kernel⟩
noncomputable def D__law_row (P : Program) (w : World) (K : PySem.W.Frag) : FF := fDef 4 8 (sSeq (sPar3 4 5 6 (fCons (fCall (D__law_among P w K) (fCons (fVar 0) (fCons (fSeq .lst (fCons (fVar 2) (fCons (fCall (D__law_among P w K) (fCons (fVar 0) (fCons (fVar 1) fNil))) (fCons (fCall (D__law_among P w K) (fCons (fVar 0) (fCons (fVar 1) fNil))) fNil)))) fNil))) (fCons (fCall (gList .cell) (fCons (fVar 1) fNil)) (fCons (fLstC fNil) fNil))))
      (sSeq (sIfS (fTest (fOp (gEqX false) (fCall (D__law_draw P w K) (fCons (fVar 0) (fCons (fC (.int 3)) fNil))) (fC (.int 0)))) (sDrop (fBM "list" mAppend (fVar 6) (fCons (fSeq .tup (fCons (fBM "list" mPopAt (fVar 5) (fCons (fBM "list" mIndex (fVar 5) (fCons (fVar 2) fNil)) fNil)) (fCons (fOp gMul (fVar 3) (fOp fSub (fCall (D__law_draw P w K) (fCons (fVar 0) (fCons (fC (.int 7)) fNil))) (fC (.int 3)))) fNil))) fNil))) sNext)
      (sSeq (sFor (iRg1 (fCons (fOp gAdd (fOp fSub (fC (.int 1)) (fCall gLen (fCons (fVar 6) fNil))) (fCall (D__law_draw P w K) (fCons (fVar 0) (fCons (fCall gMin (fCons (fSeq .lst (fCons (fC (.int 3)) (fCons (fOp gAdd (fCall gLen (fCons (fVar 5) fNil)) (fCall gLen (fCons (fVar 6) fNil))) fNil))) fNil)) fNil)))) fNil)) (tgName 7) (sDrop (fBM "list" mAppend (fVar 6) (fCons (fSeq .tup (fCons (fBM "list" mPopAt (fVar 5) (fCons (fCall (D__law_draw P w K) (fCons (fVar 0) (fCons (fCall gLen (fCons (fVar 5) fNil)) fNil))) fNil)) (fCons (fOp gMul (fVar 3) (fOp fSub (fCall (D__law_draw P w K) (fCons (fVar 0) (fCons (fC (.int 7)) fNil))) (fC (.int 3)))) fNil))) fNil))))
      (sFix 6 (sRet (fSeq .tup (fCons (fVar 4) (fCons (fVar 6) fNil))))))))
theorem fx__law_row (XI : K.In base) (GN : base.Ns mainGlobals mg) (c : obsK K = val0) {fd : FuncData} {f : Addr} (F : Fun K "_law_row" "_law_row" s__law_row f fd) : FnX P w K mg base 3 f fd ["_law_pot_here", "_law_names_here", "_law_y", "_law_scale"] (spP 4 (D__law_row P w K)) :=
    (Fun.pp F sc__law_row (fun cdv A fr s H E hG hr => by
      have hu : A.units + 3 + 64 < cLine := hr.units
      exact (pps_cons (ppq_par3 (i := 4) (j := 5) (l := 6) (by rfl) sc__law_row.nd rfl rfl rfl (by decide) (by decide) (by decide) rfl rfl rfl (ppa_cons (pp_call (t__law_among XI GN c) hG (hr.mono (by decide)) (takes_of rfl rfl rfl rfl) rfl (ppa_cons (pp_v 0) (ppa_cons (pp_lst (ppa_cons (pp_v 2) (ppa_cons (pp_call (t__law_among XI GN c) hG (hr.mono (by decide)) (takes_of rfl rfl rfl rfl) rfl (ppa_cons (pp_v 0) (ppa_cons (pp_v 1) ppa_nil))) (ppa_cons (pp_call (t__law_among XI GN c) hG (hr.mono (by decide)) (takes_of rfl rfl rfl rfl) rfl (ppa_cons (pp_v 0) (ppa_cons (pp_v 1) ppa_nil))) ppa_nil)))) ppa_nil))) (ppa_cons (pp_list .cell rfl rfl (f_list XI GN c) (ppa_cons (pp_v 1) ppa_nil)) (ppa_cons (pp_lstC ppa_nil) ppa_nil))) (by rfl))
      (pps_cons (ppq_if (pt_eqX hu (pp_call (t__law_draw XI GN c) hG (hr.mono (by decide)) (takes_of rfl rfl rfl rfl) rfl (ppa_cons (pp_v 0) (ppa_cons pp_int ppa_nil))) pp_int) (pps_one (ppq_expr (pp_append (pp_v 6) (pp_tup (ppa_cons (pp_popAt (pp_v 5) (pp_index (pp_v 5) (pp_v 2))) (ppa_cons (pp_mul (pp_v 3) (pp_sub (pp_call (t__law_draw XI GN c) hG (hr.mono (by decide)) (takes_of rfl rfl rfl rfl) rfl (ppa_cons (pp_v 0) (ppa_cons pp_int ppa_nil))) pp_int)) ppa_nil)))))) pps_nil)
      (pps_cons (ppq_for (g := (gName 7)) (passes_of rfl) rfl (ppi_range1 rfl (f_range XI GN c) (ppa_cons (pp_add (pp_sub pp_int (pp_len' rfl (f_len XI GN c) (ppa_cons (pp_v 6) ppa_nil))) (pp_call (t__law_draw XI GN c) hG (hr.mono (by decide)) (takes_of rfl rfl rfl rfl) rfl (ppa_cons (pp_v 0) (ppa_cons (pp_min rfl rfl (f_min XI GN c) (ppa_cons (pp_lst (ppa_cons pp_int (ppa_cons (pp_add (pp_len' rfl (f_len XI GN c) (ppa_cons (pp_v 5) ppa_nil)) (pp_len' rfl (f_len XI GN c) (ppa_cons (pp_v 6) ppa_nil))) ppa_nil))) ppa_nil)) ppa_nil)))) ppa_nil)) (pg_name (i := 7) sc__law_row.nd rfl (Or.inl rfl)) (ad_gName (i := 7) (by intro l e; cases e <;> decide))
        (pps_one (ppq_expr (pp_append (pp_v 6) (pp_tup (ppa_cons (pp_popAt (pp_v 5) (pp_call (t__law_draw XI GN c) hG (hr.mono (by decide)) (takes_of rfl rfl rfl rfl) rfl (ppa_cons (pp_v 0) (ppa_cons (pp_len' rfl (f_len XI GN c) (ppa_cons (pp_v 5) ppa_nil)) ppa_nil)))) (ppa_cons (pp_mul (pp_v 3) (pp_sub (pp_call (t__law_draw XI GN c) hG (hr.mono (by decide)) (takes_of rfl rfl rfl rfl) rfl (ppa_cons (pp_v 0) (ppa_cons pp_int ppa_nil))) pp_int)) ppa_nil)))))))
      (pps_one (ppq_fix (i := 6) (ppq_ret (pp_tup (ppa_cons (pp_v 4) (ppa_cons (pp_v 6) ppa_nil)))))))))))
theorem t__law_row (XI : K.In base) (GN : base.Ns mainGlobals mg) (c : obsK K = val0) : DP P w K mg base "_law_row" 4 3 (D__law_row P w K) := by
  obtain ⟨fd, F⟩ := F__law_row c
  exact ⟨_, fd, _, rfl, (fx__law_row XI GN c F), g__law_row XI GN c, F.kp, F.binds (by intro _ _ _ _ _ _ us hl; first | (match us, hl with | [_], _ => rfl) | (match us, hl with | [_, _], _ => rfl) | (match us, hl with | [_, _, _], _ => rfl) | (match us, hl with | [_, _, _, _], _ => rfl) | (match us, hl with | [_, _, _, _, _], _ => rfl) | (match us, hl with | [_, _, _, _, _, _], _ => rfl) | (match us, hl with | [_, _, _, _, _, _, _], _ => rfl) | (match us, hl with | [_, _, _, _, _, _, _, _], _ => rfl) | (match us, hl with | [_, _, _, _, _, _, _, _, _], _ => rfl))⟩
/-! is_name -/
def N_is_name : List Str := ["value", "letter"]
theorem sc_is_name : FnScope N_is_name ["value"] (defScope s_is_name) := ⟨rfl, rfl, rfl, by decide +kernel, rfl, by decide +kernel, by decide +kernel⟩
noncomputable def D_is_name (P : Program) (w : World) (K : PySem.W.Frag) : FF := fDef 1 2 (sSeq (sIfS (fOrT (fNotT (fTest (fCall (fIsi [(ga K "Earliest"), (ga K "Rule"), (ga K "Book"), (ga K "Term")]) (fCons (fVar 0) (fCons (fC (.ty "str")) fNil))))) (fNotT (fTest (fChain gLe gLe (fC (.int 1)) (fCall gLen (fCons (fVar 0) fNil)) (fC (.int 8)))))) (sRet (fC (.bl false))) sNext)
      (sRet (fCall (fBls fun bs => bs.all id) (fCons (fLc (iAny (fVar 0)) (tgName 1) fYes (fChain gLe gLe (fC (.str "a")) (fVar 1) (fC (.str "z"))) [1]) fNil))))
theorem fx_is_name (XI : K.In base) (GN : base.Ns mainGlobals mg) (c : obsK K = val0) {fd : FuncData} {f : Addr} (F : Fun K "is_name" "is_name" s_is_name f fd) : FnX P w K mg base 1 f fd ["value"] (spP 1 (D_is_name P w K)) :=
    (Fun.pp F sc_is_name (fun cdv A fr s H E hG hr => by
      have hu : A.units + 3 + 64 < cLine := hr.units
      exact (pps_cons (ppq_if (PPW.pt (ptw_or (ptt_not (pt_b (pp_isi (ow c) rfl (f_isinstance XI GN c) (ppa_cons (pp_v 0) (ppa_cons (pp_gty rfl (f_str XI GN c) b_str) ppa_nil))))) (ptw_or1 (ptt_not (pt_lele pp_int (pp_len' rfl (f_len XI GN c) (ppa_cons (pp_v 0) ppa_nil)) (pp_gint rfl (n_MOST_LETTERS XI GN c))))))) (pps_one (ppq_ret pp_bl)) pps_nil)
      (pps_one (ppq_ret (pp_all rfl rfl (f_all XI GN c) (ppa_cons (pp_lc (own := [("letter", 1)]) (g := (gName 1)) rfl sc_is_name.nd (ppi_any (pp_v 0)) (blkOk_by (own := [("letter", 1)]) (by kernel_rfl)) (fun _ _ _ _ _ => (pg_name (i := 1) sc_is_name.nd rfl (by first | exact Or.inl rfl | exact Or.inr rfl))) (ad_gName (i := 1) (by intro l e; cases e <;> decide)) (fun _ _ _ _ _ => ppts_nil) (fun _ _ _ _ _ => (pp_lele pp_str (pp_v 1) pp_str))) ppa_nil)))))))
theorem t_is_name (XI : K.In base) (GN : base.Ns mainGlobals mg) (c : obsK K = val0) : DP P w K mg base "is_name" 1 1 (D_is_name P w K) := by
  obtain ⟨fd, F⟩ := F_is_name c
  exact ⟨_, fd, _, rfl, (fx_is_name XI GN c F), g_is_name XI GN c, F.kp, F.binds (by intro _ _ _ _ _ _ us hl; first | (match us, hl with | [_], _ => rfl) | (match us, hl with | [_, _], _ => rfl) | (match us, hl with | [_, _, _], _ => rfl) | (match us, hl with | [_, _, _, _], _ => rfl) | (match us, hl with | [_, _, _, _, _], _ => rfl) | (match us, hl with | [_, _, _, _, _, _], _ => rfl) | (match us, hl with | [_, _, _, _, _, _, _], _ => rfl) | (match us, hl with | [_, _, _, _, _, _, _, _], _ => rfl) | (match us, hl with | [_, _, _, _, _, _, _, _, _], _ => rfl))⟩
/-! has_names -/
def N_has_names : List Str := ["value", "key"]
theorem sc_has_names : FnScope N_has_names ["value"] (defScope s_has_names) := ⟨rfl, rfl, rfl, by decide +kernel, rfl, by decide +kernel, by decide +kernel⟩
noncomputable def D_has_names (P : Program) (w : World) (K : PySem.W.Frag) : FF := fDef 1 2 (sRet (fAndV (fCall (fIsi [(ga K "Earliest"), (ga K "Rule"), (ga K "Book"), (ga K "Term")]) (fCons (fVar 0) (fCons (fC (.ty "dict")) fNil))) (fAndV (fOp gGt (fCall gLen (fCons (fVar 0) fNil)) (fC (.int 0))) (fCall (fBls fun bs => bs.all id) (fCons (fLc (iAny (fVar 0)) (tgName 1) fYes (fCall (D_is_name P w K) (fCons (fVar 1) fNil)) [1]) fNil)))))
theorem fx_has_names (XI : K.In base) (GN : base.Ns mainGlobals mg) (c : obsK K = val0) {fd : FuncData} {f : Addr} (F : Fun K "has_names" "has_names" s_has_names f fd) : FnX P w K mg base 2 f fd ["value"] (spP 1 (D_has_names P w K)) :=
    (Fun.pp F sc_has_names (fun cdv A fr s H E hG hr => by
      have hu : A.units + 3 + 64 < cLine := hr.units
      exact (pps_one (ppq_ret (pp_and (pp_isi (ow c) rfl (f_isinstance XI GN c) (ppa_cons (pp_v 0) (ppa_cons (pp_gty rfl (f_dict XI GN c) b_dict) ppa_nil))) (pp_and (pp_gt (pp_len' rfl (f_len XI GN c) (ppa_cons (pp_v 0) ppa_nil)) pp_int) (pp_one (pp_all rfl rfl (f_all XI GN c) (ppa_cons (pp_lc (own := [("key", 1)]) (g := (gName 1)) rfl sc_has_names.nd (ppi_any (pp_v 0)) (blkOk_by (own := [("key", 1)]) (by kernel_rfl)) (fun _ _ _ _ _ => (pg_name (i := 1) sc_has_names.nd rfl (by first | exact Or.inl rfl | exact Or.inr rfl))) (ad_gName (i := 1) (by intro l e; cases e <;> decide)) (fun _ _ _ _ _ => ppts_nil) (fun _ _ _ _ _ => (pp_call (t_is_name XI GN c) hG (hr.mono (by decide)) takes0 rfl (ppa_cons (pp_v 1) ppa_nil)))) ppa_nil)))))))))
theorem t_has_names (XI : K.In base) (GN : base.Ns mainGlobals mg) (c : obsK K = val0) : DP P w K mg base "has_names" 1 2 (D_has_names P w K) := by
  obtain ⟨fd, F⟩ := F_has_names c
  exact ⟨_, fd, _, rfl, (fx_has_names XI GN c F), g_has_names XI GN c, F.kp, F.binds (by intro _ _ _ _ _ _ us hl; first | (match us, hl with | [_], _ => rfl) | (match us, hl with | [_, _], _ => rfl) | (match us, hl with | [_, _, _], _ => rfl) | (match us, hl with | [_, _, _, _], _ => rfl) | (match us, hl with | [_, _, _, _, _], _ => rfl) | (match us, hl with | [_, _, _, _, _, _], _ => rfl) | (match us, hl with | [_, _, _, _, _, _, _], _ => rfl) | (match us, hl with | [_, _, _, _, _, _, _, _], _ => rfl) | (match us, hl with | [_, _, _, _, _, _, _, _, _], _ => rfl))⟩
/-! is_integer -/
def N_is_integer : List Str := ["value"]
theorem sc_is_integer : FnScope N_is_integer ["value"] (defScope s_is_integer) := ⟨rfl, rfl, rfl, by decide +kernel, rfl, by decide +kernel, by decide +kernel⟩
noncomputable def D_is_integer (P : Program) (w : World) (K : PySem.W.Frag) : FF := fDef 1 1 (sRet (fAndV (fCall (fIsi [(ga K "Earliest"), (ga K "Rule"), (ga K "Book"), (ga K "Term")]) (fCons (fVar 0) (fCons (fC (.ty "int")) fNil))) (fNotV (fCall (fIsi [(ga K "Earliest"), (ga K "Rule"), (ga K "Book"), (ga K "Term")]) (fCons (fVar 0) (fCons (fC (.ty "bool")) fNil))))))
theorem fx_is_integer (XI : K.In base) (GN : base.Ns mainGlobals mg) (c : obsK K = val0) {fd : FuncData} {f : Addr} (F : Fun K "is_integer" "is_integer" s_is_integer f fd) : FnX P w K mg base 1 f fd ["value"] (spP 1 (D_is_integer P w K)) :=
    (Fun.pp F sc_is_integer (fun cdv A fr s H E hG hr => by
      have hu : A.units + 3 + 64 < cLine := hr.units
      exact (pps_one (ppq_ret (pp_and (pp_isi (ow c) rfl (f_isinstance XI GN c) (ppa_cons (pp_v 0) (ppa_cons (pp_gty rfl (f_int XI GN c) b_int) ppa_nil))) (pp_one (pp_not (pp_isi (ow c) rfl (f_isinstance XI GN c) (ppa_cons (pp_v 0) (ppa_cons (pp_gty rfl (f_bool XI GN c) b_bool) ppa_nil))))))))))
theorem t_is_integer (XI : K.In base) (GN : base.Ns mainGlobals mg) (c : obsK K = val0) : DP P w K mg base "is_integer" 1 1 (D_is_integer P w K) := by
  obtain ⟨fd, F⟩ := F_is_integer c
  exact ⟨_, fd, _, rfl, (fx_is_integer XI GN c F), g_is_integer XI GN c, F.kp, F.binds (by intro _ _ _ _ _ _ us hl; first | (match us, hl with | [_], _ => rfl) | (match us, hl with | [_, _], _ => rfl) | (match us, hl with | [_, _, _], _ => rfl) | (match us, hl with | [_, _, _, _], _ => rfl) | (match us, hl with | [_, _, _, _, _], _ => rfl) | (match us, hl with | [_, _, _, _, _, _], _ => rfl) | (match us, hl with | [_, _, _, _, _, _, _], _ => rfl) | (match us, hl with | [_, _, _, _, _, _, _, _], _ => rfl) | (match us, hl with | [_, _, _, _, _, _, _, _, _], _ => rfl))⟩
/-! check_shifts -/
def N_check_shifts : List Str := ["shifts", "moment"]
theorem sc_check_shifts : FnScope N_check_shifts ["shifts"] (defScope s_check_shifts) := ⟨rfl, rfl, rfl, by decide +kernel, rfl, by decide +kernel, by decide +kernel⟩
noncomputable def D_check_shifts (P : Program) (w : World) (K : PySem.W.Frag) : FF := fDef 1 2 (sSeq (sIfS (fNotT (fTest (fCall (D_has_names P w K) (fCons (fVar 0) fNil)))) sBad sNext)
      (sSeq (sFor (iAny (fCall (gSort' (SetTO P w)) (fCons (fVar 0) fNil))) (tgName 1) (sIfS (fNotT (fTest (fCall (D_is_integer P w K) (fCons (fOp gIx (fVar 0) (fVar 1)) fNil)))) sBad sNext))
      (sIfS (fTest (fOp gGt (fCall gLen (fCons (fVar 0) fNil)) (fC (.int 8)))) sBad sNext)))
theorem fx_check_shifts (XI : K.In base) (GN : base.Ns mainGlobals mg) (c : obsK K = val0) {fd : FuncData} {f : Addr} (F : Fun K "check_shifts" "check_shifts" s_check_shifts f fd) : FnX P w K mg base 3 f fd ["shifts"] (spP 1 (D_check_shifts P w K)) :=
    (Fun.pp F sc_check_shifts (fun cdv A fr s H E hG hr => by
      have hu : A.units + 3 + 64 < cLine := hr.units
      exact (pps_cons (ppq_if (ptt_not (pt_b (pp_call (t_has_names XI GN c) hG (hr.mono (by decide)) (takes_of rfl rfl rfl rfl) rfl (ppa_cons (pp_v 0) ppa_nil)))) (pps_one ppq_never) pps_nil)
      (pps_cons (ppq_for (g := (gName 1)) (passes_of rfl) rfl (ppi_any (pp_sorted rfl rfl (f_sorted XI GN c) (ppa_cons (pp_v 0) ppa_nil))) (pg_name (i := 1) sc_check_shifts.nd rfl (Or.inl rfl)) (ad_gName (i := 1) (by intro l e; cases e <;> decide))
        (pps_one (ppq_if (ptt_not (pt_b (pp_call (t_is_integer XI GN c) hG (hr.mono (by decide)) (takes_of rfl rfl rfl rfl) rfl (ppa_cons (pp_idx (Nat.lt_of_le_of_lt (Nat.add_le_add_left (by decide) _) hu) (pp_v 0) (pp_v 1)) ppa_nil)))) (pps_one ppq_never) pps_nil)))
      (pps_one (ppq_if (pt_gt (pp_len' rfl (f_len XI GN c) (ppa_cons (pp_v 0) ppa_nil)) (pp_gint rfl (n_MOST_TERMS XI GN c))) (pps_one ppq_never) pps_nil))))))
theorem t_check_shifts (XI : K.In base) (GN : base.Ns mainGlobals mg) (c : obsK K = val0) : DP P w K mg base "check_shifts" 1 3 (D_check_shifts P w K) := by
  obtain ⟨fd, F⟩ := F_check_shifts c
  exact ⟨_, fd, _, rfl, (fx_check_shifts XI GN c F), g_check_shifts XI GN c, F.kp, F.binds (by intro _ _ _ _ _ _ us hl; first | (match us, hl with | [_], _ => rfl) | (match us, hl with | [_, _], _ => rfl) | (match us, hl with | [_, _, _], _ => rfl) | (match us, hl with | [_, _, _, _], _ => rfl) | (match us, hl with | [_, _, _, _, _], _ => rfl) | (match us, hl with | [_, _, _, _, _, _], _ => rfl) | (match us, hl with | [_, _, _, _, _, _, _], _ => rfl) | (match us, hl with | [_, _, _, _, _, _, _, _], _ => rfl) | (match us, hl with | [_, _, _, _, _, _, _, _, _], _ => rfl))⟩
/-! in_order -/
def N_in_order : List Str := ["table", "moment"]
theorem sc_in_order : FnScope N_in_order ["table"] (defScope s_in_order) := ⟨rfl, rfl, rfl, by decide +kernel, rfl, by decide +kernel, by decide +kernel⟩
noncomputable def D_in_order (P : Program) (w : World) (K : PySem.W.Frag) : FF := fDef 1 2 (sRet (fDc (iAny (fCall (gSort' (SetTO P w)) (fCons (fVar 0) fNil))) (tgName 1) fYes (fVar 1) (fOp gIx (fVar 0) (fVar 1)) [1]))
theorem fx_in_order (XI : K.In base) (GN : base.Ns mainGlobals mg) (c : obsK K = val0) {fd : FuncData} {f : Addr} (F : Fun K "in_order" "in_order" s_in_order f fd) : FnX P w K mg base 1 f fd ["table"] (spP 1 (D_in_order P w K)) :=
    (Fun.pp F sc_in_order (fun cdv A fr s H E hG hr => by
      have hu : A.units + 3 + 64 < cLine := hr.units
      exact (pps_one (ppq_ret (pp_dc (own := [("moment", 1)]) (g := (gName 1)) rfl sc_in_order.nd (ppi_any (pp_sorted rfl rfl (f_sorted XI GN c) (ppa_cons (pp_v 0) ppa_nil))) (blkOk_by (own := [("moment", 1)]) (by kernel_rfl)) (fun _ _ _ _ _ => (pg_name (i := 1) sc_in_order.nd rfl (by first | exact Or.inl rfl | exact Or.inr rfl))) (ad_gName (i := 1) (by intro l e; cases e <;> decide)) (fun _ _ _ _ _ => ppts_nil) (fun _ _ _ _ _ => (pp_v 1)) (fun _ _ _ _ _ => (pp_idx (Nat.lt_of_le_of_lt (Nat.add_le_add_left (by decide) _) hu) (pp_v 0) (pp_v 1))))))))
theorem t_in_order (XI : K.In base) (GN : base.Ns mainGlobals mg) (c : obsK K = val0) : DP P w K mg base "in_order" 1 1 (D_in_order P w K) := by
  obtain ⟨fd, F⟩ := F_in_order c
  exact ⟨_, fd, _, rfl, (fx_in_order XI GN c F), g_in_order XI GN c, F.kp, F.binds (by intro _ _ _ _ _ _ us hl; first | (match us, hl with | [_], _ => rfl) | (match us, hl with | [_, _], _ => rfl) | (match us, hl with | [_, _, _], _ => rfl) | (match us, hl with | [_, _, _, _], _ => rfl) | (match us, hl with | [_, _, _, _, _], _ => rfl) | (match us, hl with | [_, _, _, _, _, _], _ => rfl) | (match us, hl with | [_, _, _, _, _, _, _], _ => rfl) | (match us, hl with | [_, _, _, _, _, _, _, _], _ => rfl) | (match us, hl with | [_, _, _, _, _, _, _, _, _], _ => rfl))⟩
end
end Pu
set_option Elab.async false
set_option linter.all false
set_option maxRecDepth 100000
set_option maxHeartbeats 8000000
namespace Pu
open L2 PySem PySem.Spec PyProof.Rows E10
open He (ga ma)
section
variable {P : Program} {w : World} {K : PySem.W.Frag} {mg : Str → Option Value} {base : Heap}
/-! Earliest.__init__ -/
def N_Earliest___init__ : List Str := ["self", "shifts"]
theorem sc_Earliest___init__ : FnScope N_Earliest___init__ ["self", "shifts"] (defScope m_Earliest___init__) := ⟨rfl, rfl, rfl, by decide +kernel, rfl, by decide +kernel, by decide +kernel⟩
noncomputable def D_Earliest___init__ (P : Program) (w : World) (K : PySem.W.Frag) : FF := fDef 2 2 (sSeq (sDrop (fCall (D_check_shifts P w K) (fCons (fVar 1) fNil)))
      (sFldP (ga K "Earliest") "_shifts" (fVar 0) (fCall (D_in_order P w K) (fCons (fVar 1) fNil))))
theorem fx_Earliest___init__ (XI : K.In base) (GN : base.Ns mainGlobals mg) (c : obsK K = val0) {fd : FuncData} {f : Addr} (F : Fun K "__init__" "Earliest.__init__" m_Earliest___init__ f fd) : FnX P w K mg base 4 f fd ["self", "shifts"] (spP 2 (D_Earliest___init__ P w K)) :=
    (Fun.pp F sc_Earliest___init__ (fun cdv A fr s H E hG hr => by
      have hu : A.units + 3 + 64 < cLine := hr.units
      exact (pps_cons (ppq_expr (pp_call (t_check_shifts XI GN c) hG (hr.mono (by decide)) (takes_of rfl rfl rfl rfl) rfl (ppa_cons (pp_v 1) ppa_nil)))
      (pps_one (ppq_fld (cl_Earliest c) (na_Earliest__shifts c) (pp_v 0) (pp_call (t_in_order XI GN c) hG (hr.mono (by decide)) (takes_of rfl rfl rfl rfl) rfl (ppa_cons (pp_v 1) ppa_nil)))))))
theorem t_Earliest___init__ (XI : K.In base) (GN : base.Ns mainGlobals mg) (c : obsK K = val0) : DC P w K mg base "Earliest" (ga K "Earliest") 2 4 (D_Earliest___init__ P w K) := by
  obtain ⟨fd, F⟩ := F_Earliest___init__ c
  exact ⟨⟨_, fd, _, rfl, (fx_Earliest___init__ XI GN c F), mkB_ok (bMk_Earliest c), F.binds (by intro _ _ _ _ _ _ us hl; first | (match us, hl with | [_], _ => rfl) | (match us, hl with | [_, _], _ => rfl) | (match us, hl with | [_, _, _], _ => rfl) | (match us, hl with | [_, _, _, _], _ => rfl) | (match us, hl with | [_, _, _, _, _], _ => rfl) | (match us, hl with | [_, _, _, _, _, _], _ => rfl) | (match us, hl with | [_, _, _, _, _, _, _], _ => rfl) | (match us, hl with | [_, _, _, _, _, _, _, _], _ => rfl) | (match us, hl with | [_, _, _, _, _, _, _, _, _], _ => rfl))⟩, g_Earliest XI GN c⟩
/-! Earliest.shifts -/
def N_Earliest_shifts : List Str := ["self"]
theorem sc_Earliest_shifts : FnScope N_Earliest_shifts ["self"] (defScope m_Earliest_shifts) := ⟨rfl, rfl, rfl, by decide +kernel, rfl, by decide +kernel, by decide +kernel⟩
noncomputable def D_Earliest_shifts (P : Program) (w : World) (K : PySem.W.Frag) : FF := fDef 1 1 (sRet (fCall (gDict .val) (fCons (fFld (ga K "Earliest") "_shifts" (fVar 0)) fNil)))
theorem fx_Earliest_shifts (XI : K.In base) (GN : base.Ns mainGlobals mg) (c : obsK K = val0) {fd : FuncData} {f : Addr} (F : Fun K "shifts" "Earliest.shifts" m_Earliest_shifts f fd) : FnX P w K mg base 1 f fd ["self"] (spP 1 (D_Earliest_shifts P w K)) :=
    (Fun.pp F sc_Earliest_shifts (fun cdv A fr s H E hG hr => by
      have hu : A.units + 3 + 64 < cLine := hr.units
      exact (pps_one (ppq_ret (pp_dict .val rfl rfl (f_dict XI GN c) (ppa_cons (pp_fld (cl_Earliest c) (na_Earliest__shifts c) (pp_v 0)) ppa_nil))))))
theorem t_Earliest_shifts (XI : K.In base) (GN : base.Ns mainGlobals mg) (c : obsK K = val0) : DM P w K mg base (ga K "Earliest") "shifts" 1 1 (D_Earliest_shifts P w K) := by
  obtain ⟨fd, F⟩ := F_Earliest_shifts c
  exact ⟨_, fd, _, rfl, (fx_Earliest_shifts XI GN c F), metB_ok (bMet_Earliest_shifts c), F.binds (by intro _ _ _ _ _ _ us hl; first | (match us, hl with | [_], _ => rfl) | (match us, hl with | [_, _], _ => rfl) | (match us, hl with | [_, _, _], _ => rfl) | (match us, hl with | [_, _, _, _], _ => rfl) | (match us, hl with | [_, _, _, _, _], _ => rfl) | (match us, hl with | [_, _, _, _, _, _], _ => rfl) | (match us, hl with | [_, _, _, _, _, _, _], _ => rfl) | (match us, hl with | [_, _, _, _, _, _, _, _], _ => rfl) | (match us, hl with | [_, _, _, _, _, _, _, _, _], _ => rfl))⟩
/-! is_list -/
def N_is_list : List Str := ["value"]
theorem sc_is_list : FnScope N_is_list ["value"] (defScope s_is_list) := ⟨rfl, rfl, rfl, by decide +kernel, rfl, by decide +kernel, by decide +kernel⟩
noncomputable def D_is_list (P : Program) (w : World) (K : PySem.W.Frag) : FF := fDef 1 1 (sRet (fIsiT [(ga K "Earliest"), (ga K "Rule"), (ga K "Book"), (ga K "Term")] (fVar 0) (fCons (fC (.ty "list")) (fCons (fC (.ty "tuple")) fNil))))
theorem fx_is_list (XI : K.In base) (GN : base.Ns mainGlobals mg) (c : obsK K = val0) {fd : FuncData} {f : Addr} (F : Fun K "is_list" "is_list" s_is_list f fd) : FnX P w K mg base 1 f fd ["value"] (spP 1 (D_is_list P w K)) :=
    (Fun.pp F sc_is_list (fun cdv A fr s H E hG hr => by
      have hu : A.units + 3 + 64 < cLine := hr.units
      exact (pps_one (ppq_ret (pp_isiT (ow c) rfl (f_isinstance XI GN c) (pp_v 0) (ppa_cons (pp_gty rfl (f_list XI GN c) b_list) (ppa_cons (pp_gty rfl (f_tuple XI GN c) b_tuple) ppa_nil)))))))
theorem t_is_list (XI : K.In base) (GN : base.Ns mainGlobals mg) (c : obsK K = val0) : DP P w K mg base "is_list" 1 1 (D_is_list P w K) := by
  obtain ⟨fd, F⟩ := F_is_list c
  exact ⟨_, fd, _, rfl, (fx_is_list XI GN c F), g_is_list XI GN c, F.kp, F.binds (by intro _ _ _ _ _ _ us hl; first | (match us, hl with | [_], _ => rfl) | (match us, hl with | [_, _], _ => rfl) | (match us, hl with | [_, _, _], _ => rfl) | (match us, hl with | [_, _, _, _], _ => rfl) | (match us, hl with | [_, _, _, _, _], _ => rfl) | (match us, hl with | [_, _, _, _, _, _], _ => rfl) | (match us, hl with | [_, _, _, _, _, _, _], _ => rfl) | (match us, hl with | [_, _, _, _, _, _, _, _], _ => rfl) | (match us, hl with | [_, _, _, _, _, _, _, _, _], _ => rfl))⟩
/-! check_names -/
def N_check_names : List Str := ["moments", "position", "moment"]
theorem sc_check_names : FnScope N_check_names ["moments"] (defScope s_check_names) := ⟨rfl, rfl, rfl, by decide +kernel, rfl, by decide +kernel, by decide +kernel⟩
noncomputable def D_check_names (P : Program) (w : World) (K : PySem.W.Frag) : FF := fDef 1 3 (sSeq (sIfS (fOrT (fNotT (fTest (fCall (D_is_list P w K) (fCons (fVar 0) fNil)))) (fTest (fOp (gEqX false) (fCall gLen (fCons (fVar 0) fNil)) (fC (.int 0))))) sBad sNext)
      (sSeq (sFor (iEnumP (fCons (fVar 0) fNil)) (tgTup 2 (tgCons (tgName 1) (tgCons (tgName 2) tgNil))) (sIfS (fOrT (fNotT (fTest (fCall (D_is_name P w K) (fCons (fVar 2) fNil)))) (fTest (fOp (gIn false) (fVar 2) (fSl gSlX (fVar 0) oNone (oSome (fVar 1)))))) sBad sNext))
      (sIfS (fTest (fOp gGt (fCall gLen (fCons (fVar 0) fNil)) (fC (.int 8)))) sBad sNext)))
theorem fx_check_names (XI : K.In base) (GN : base.Ns mainGlobals mg) (c : obsK K = val0) {fd : FuncData} {f : Addr} (F : Fun K "check_names" "check_names" s_check_names f fd) : FnX P w K mg base 2 f fd ["moments"] (spP 1 (D_check_names P w K)) :=
    (Fun.pp F sc_check_names (fun cdv A fr s H E hG hr => by
      have hu : A.units + 3 + 64 < cLine := hr.units
      exact (pps_cons (ppq_if (PPW.pt (ptw_or (ptt_not (pt_b (pp_call (t_is_list XI GN c) hG (hr.mono (by decide)) (takes_of rfl rfl rfl rfl) rfl (ppa_cons (pp_v 0) ppa_nil)))) (ptw_or1 (pt_eqX hu (pp_len' rfl (f_len XI GN c) (ppa_cons (pp_v 0) ppa_nil)) pp_int)))) (pps_one ppq_never) pps_nil)
      (pps_cons (ppq_for (g := (gTup K 2 (gCons (gName 1) (gCons (gName 2) gNil)))) (passes_of rfl) rfl (ppi_enum rfl (f_enumerate XI GN c) (ppa_cons (pp_v 0) ppa_nil)) (pg_tup rfl (pgs_cons (pg_name (i := 1) sc_check_names.nd rfl (Or.inl rfl)) (pgs_cons (pg_name (i := 2) sc_check_names.nd rfl (Or.inl rfl)) pgs_nil))) (ad_gTup (ad_gCons (ad_gName (i := 1) (by intro l e; cases e <;> decide)) (ad_gCons (ad_gName (i := 2) (by intro l e; cases e <;> decide)) ad_gNil)))
        (pps_one (ppq_if (PPW.pt (ptw_or (ptt_not (pt_b (pp_call (t_is_name XI GN c) hG (hr.mono (by decide)) (takes_of rfl rfl rfl rfl) rfl (ppa_cons (pp_v 2) ppa_nil)))) (ptw_or1 (pt_in (Nat.lt_of_le_of_lt (Nat.add_le_add_left (by decide) _) hu) (pp_v 2) (pp_slX (pp_v 0) ppo_none (ppo_some (pp_v 1))))))) (pps_one ppq_never) pps_nil)))
      (pps_one (ppq_if (pt_gt (pp_len' rfl (f_len XI GN c) (ppa_cons (pp_v 0) ppa_nil)) (pp_ccst rfl (g_Book XI GN c) (cc_Book_MOST_MOMENTS c))) (pps_one ppq_never) pps_nil))))))
theorem t_check_names (XI : K.In base) (GN : base.Ns mainGlobals mg) (c : obsK K = val0) : DP P w K mg base "check_names" 1 2 (D_check_names P w K) := by
  obtain ⟨fd, F⟩ := F_check_names c
  exact ⟨_, fd, _, rfl, (fx_check_names XI GN c F), g_check_names XI GN c, F.kp, F.binds (by intro _ _ _ _ _ _ us hl; first | (match us, hl with | [_], _ => rfl) | (match us, hl with | [_, _], _ => rfl) | (match us, hl with | [_, _, _], _ => rfl) | (match us, hl with | [_, _, _, _], _ => rfl) | (match us, hl with | [_, _, _, _, _], _ => rfl) | (match us, hl with | [_, _, _, _, _, _], _ => rfl) | (match us, hl with | [_, _, _, _, _, _, _], _ => rfl) | (match us, hl with | [_, _, _, _, _, _, _, _], _ => rfl) | (match us, hl with | [_, _, _, _, _, _, _, _, _], _ => rfl))⟩
/-! Earliest.moments -/
def N_Earliest_moments : List Str := ["self"]
theorem sc_Earliest_moments : FnScope N_Earliest_moments ["self"] (defScope m_Earliest_moments) := ⟨rfl, rfl, rfl, by decide +kernel, rfl, by decide +kernel, by decide +kernel⟩
noncomputable def D_Earliest_moments (P : Program) (w : World) (K : PySem.W.Frag) : FF := fDef 1 1 (sRet (fCall gTupB (fCons (fFld (ga K "Earliest") "_shifts" (fVar 0)) fNil)))
theorem fx_Earliest_moments (XI : K.In base) (GN : base.Ns mainGlobals mg) (c : obsK K = val0) {fd : FuncData} {f : Addr} (F : Fun K "moments" "Earliest.moments" m_Earliest_moments f fd) : FnX P w K mg base 1 f fd ["self"] (spP 1 (D_Earliest_moments P w K)) :=
    (Fun.pp F sc_Earliest_moments (fun cdv A fr s H E hG hr => by
      have hu : A.units + 3 + 64 < cLine := hr.units
      exact (pps_one (ppq_ret (pp_tuple rfl rfl (f_tuple XI GN c) (ppa_cons (pp_fld (cl_Earliest c) (na_Earliest__shifts c) (pp_v 0)) ppa_nil))))))
theorem t_Earliest_moments (XI : K.In base) (GN : base.Ns mainGlobals mg) (c : obsK K = val0) : DPr P w K mg base (ga K "Earliest") "moments" 1 (D_Earliest_moments P w K) := by
  obtain ⟨fd, F⟩ := F_Earliest_moments c
  exact ⟨_, _, fd, _, (fx_Earliest_moments XI GN c F), propB_ok (bProp_Earliest_moments c), F.binds (by intro _ _ _ _ _ _ us hl; first | (match us, hl with | [_], _ => rfl) | (match us, hl with | [_, _], _ => rfl) | (match us, hl with | [_, _, _], _ => rfl) | (match us, hl with | [_, _, _, _], _ => rfl) | (match us, hl with | [_, _, _, _, _], _ => rfl) | (match us, hl with | [_, _, _, _, _, _], _ => rfl) | (match us, hl with | [_, _, _, _, _, _, _], _ => rfl) | (match us, hl with | [_, _, _, _, _, _, _, _], _ => rfl) | (match us, hl with | [_, _, _, _, _, _, _, _, _], _ => rfl))⟩
/-! Rule.moments -/
def N_Rule_moments : List Str := ["self", "alternatives"]
theorem sc_Rule_moments : FnScope N_Rule_moments ["self"] (defScope m_Rule_moments) := ⟨rfl, rfl, rfl, by decide +kernel, rfl, by decide +kernel, by decide +kernel⟩
noncomputable def D_Rule_moments (P : Program) (w : World) (K : PySem.W.Frag) : FF := fDef 1 2 (sSeq (sSet 1 (fProp (ga K "Earliest") (D_Earliest_moments P w K) (fFld (ga K "Rule") "_earliest" (fVar 0))))
      (sRet (fCall gTupB (fCons (fCall (gSort' (SetTO P w)) (fCons (fCall (gSet (SetTO P w)) (fCons (fSeq .lst (fCons (fFld (ga K "Rule") "_moment" (fVar 0)) (fStar (fVar 1) fNil))) fNil)) fNil)) fNil))))
theorem fx_Rule_moments (XI : K.In base) (GN : base.Ns mainGlobals mg) (c : obsK K = val0) {fd : FuncData} {f : Addr} (F : Fun K "moments" "Rule.moments" m_Rule_moments f fd) : FnX P w K mg base 3 f fd ["self"] (spP 1 (D_Rule_moments P w K)) :=
    (Fun.pp F sc_Rule_moments (fun cdv A fr s H E hG hr => by
      have hu : A.units + 3 + 64 < cLine := hr.units
      exact (pps_cons (ppq_set (i := 1) sc_Rule_moments.nd rfl (Or.inl rfl) (pp_prop (t_Earliest_moments XI GN c) (cl_Earliest c) hG (hr.mono (by decide)) (pp_fld (cl_Rule c) (na_Rule__earliest c) (pp_v 0))))
      (pps_one (ppq_ret (pp_tuple rfl rfl (f_tuple XI GN c) (ppa_cons (pp_sorted rfl rfl (f_sorted XI GN c) (ppa_cons (pp_set rfl rfl (f_set XI GN c) (ppa_cons (pp_lst (ppa_cons (pp_fld (cl_Rule c) (na_Rule__moment c) (pp_v 0)) (ppa_star (pp_v 1) ppa_nil))) ppa_nil)) ppa_nil)) ppa_nil)))))))
theorem t_Rule_moments (XI : K.In base) (GN : base.Ns mainGlobals mg) (c : obsK K = val0) : DPr P w K mg base (ga K "Rule") "moments" 3 (D_Rule_moments P w K) := by
  obtain ⟨fd, F⟩ := F_Rule_moments c
  exact ⟨_, _, fd, _, (fx_Rule_moments XI GN c F), propB_ok (bProp_Rule_moments c), F.binds (by intro _ _ _ _ _ _ us hl; first | (match us, hl with | [_], _ => rfl) | (match us, hl with | [_, _], _ => rfl) | (match us, hl with | [_, _, _], _ => rfl) | (match us, hl with | [_, _, _, _], _ => rfl) | (match us, hl with | [_, _, _, _, _], _ => rfl) | (match us, hl with | [_, _, _, _, _, _], _ => rfl) | (match us, hl with | [_, _, _, _, _, _, _], _ => rfl) | (match us, hl with | [_, _, _, _, _, _, _, _], _ => rfl) | (match us, hl with | [_, _, _, _, _, _, _, _, _], _ => rfl))⟩
/-! are_among -/
def N_are_among : List Str := ["part", "moments", "moment"]
theorem sc_are_among : FnScope N_are_among ["part", "moments"] (defScope s_are_among) := ⟨rfl, rfl, rfl, by decide +kernel, rfl, by decide +kernel, by decide +kernel⟩
noncomputable def D_are_among (P : Program) (w : World) (K : PySem.W.Frag) : FF := fDef 2 3 (sRet (fCall (fBls fun bs => bs.all id) (fCons (fLc (iAny (fVar 0)) (tgName 2) fYes (fOp (gIn false) (fVar 2) (fVar 1)) [2]) fNil)))
theorem fx_are_among (XI : K.In base) (GN : base.Ns mainGlobals mg) (c : obsK K = val0) {fd : FuncData} {f : Addr} (F : Fun K "are_among" "are_among" s_are_among f fd) : FnX P w K mg base 1 f fd ["part", "moments"] (spP 2 (D_are_among P w K)) :=
    (Fun.pp F sc_are_among (fun cdv A fr s H E hG hr => by
      have hu : A.units + 3 + 64 < cLine := hr.units
      exact (pps_one (ppq_ret (pp_all rfl rfl (f_all XI GN c) (ppa_cons (pp_lc (own := [("moment", 2)]) (g := (gName 2)) rfl sc_are_among.nd (ppi_any (pp_v 0)) (blkOk_by (own := [("moment", 2)]) (by kernel_rfl)) (fun _ _ _ _ _ => (pg_name (i := 2) sc_are_among.nd rfl (by first | exact Or.inl rfl | exact Or.inr rfl))) (ad_gName (i := 2) (by intro l e; cases e <;> decide)) (fun _ _ _ _ _ => ppts_nil) (fun _ _ _ _ _ => (pp_in (Nat.lt_of_le_of_lt (Nat.add_le_add_left (by decide) _) hu) (pp_v 2) (pp_v 1)))) ppa_nil))))))
theorem t_are_among (XI : K.In base) (GN : base.Ns mainGlobals mg) (c : obsK K = val0) : DP P w K mg base "are_among" 2 1 (D_are_among P w K) := by
  obtain ⟨fd, F⟩ := F_are_among c
  exact ⟨_, fd, _, rfl, (fx_are_among XI GN c F), g_are_among XI GN c, F.kp, F.binds (by intro _ _ _ _ _ _ us hl; first | (match us, hl with | [_], _ => rfl) | (match us, hl with | [_, _], _ => rfl) | (match us, hl with | [_, _, _], _ => rfl) | (match us, hl with | [_, _, _, _], _ => rfl) | (match us, hl with | [_, _, _, _, _], _ => rfl) | (match us, hl with | [_, _, _, _, _, _], _ => rfl) | (match us, hl with | [_, _, _, _, _, _, _], _ => rfl) | (match us, hl with | [_, _, _, _, _, _, _, _], _ => rfl) | (match us, hl with | [_, _, _, _, _, _, _, _, _], _ => rfl))⟩
/-! check_each -/
def N_check_each : List Str := ["right"]
theorem sc_check_each : FnScope N_check_each ["right"] (defScope s_check_each) := ⟨rfl, rfl, rfl, by decide +kernel, rfl, by decide +kernel, by decide +kernel⟩
noncomputable def D_check_each (P : Program) (w : World) (K : PySem.W.Frag) : FF := fDef 1 1 (sIfS (fNotT (fTest (fCall (fBls fun bs => bs.all id) (fCons (fVar 0) fNil)))) sBad sNext)
theorem fx_check_each (XI : K.In base) (GN : base.Ns mainGlobals mg) (c : obsK K = val0) {fd : FuncData} {f : Addr} (F : Fun K "check_each" "check_each" s_check_each f fd) : FnX P w K mg base 1 f fd ["right"] (spP 1 (D_check_each P w K)) :=
    (Fun.pp F sc_check_each (fun cdv A fr s H E hG hr => by
      have hu : A.units + 3 + 64 < cLine := hr.units
      exact (pps_one (ppq_if (ptt_not (pt_b (pp_all rfl rfl (f_all XI GN c) (ppa_cons (pp_v 0) ppa_nil)))) (pps_one ppq_never) pps_nil))))
theorem t_check_each (XI : K.In base) (GN : base.Ns mainGlobals mg) (c : obsK K = val0) : DP P w K mg base "check_each" 1 1 (D_check_each P w K) := by
  obtain ⟨fd, F⟩ := F_check_each c
  exact ⟨_, fd, _, rfl, (fx_check_each XI GN c F), g_check_each XI GN c, F.kp, F.binds (by intro _ _ _ _ _ _ us hl; first | (match us, hl with | [_], _ => rfl) | (match us, hl with | [_, _], _ => rfl) | (match us, hl with | [_, _, _], _ => rfl) | (match us, hl with | [_, _, _, _], _ => rfl) | (match us, hl with | [_, _, _, _, _], _ => rfl) | (match us, hl with | [_, _, _, _, _, _], _ => rfl) | (match us, hl with | [_, _, _, _, _, _, _], _ => rfl) | (match us, hl with | [_, _, _, _, _, _, _, _], _ => rfl) | (match us, hl with | [_, _, _, _, _, _, _, _, _], _ => rfl))⟩
/-! check_rules -/
def N_check_rules : List Str := ["rules", "moments", "rule"]
theorem sc_check_rules : FnScope N_check_rules ["rules", "moments"] (defScope s_check_rules) := ⟨rfl, rfl, rfl, by decide +kernel, rfl, by decide +kernel, by decide +kernel⟩
noncomputable def D_check_rules (P : Program) (w : World) (K : PySem.W.Frag) : FF := fDef 2 3 (sSeq (sIfS (fNotT (fTest (fCall (D_is_list P w K) (fCons (fVar 0) fNil)))) sBad sNext)
      (sSeq (sDrop (fCall (D_check_each P w K) (fCons (fLc (iAny (fVar 0)) (tgName 2) fYes (fAndV (fCall (fIsi [(ga K "Earliest"), (ga K "Rule"), (ga K "Book"), (ga K "Term")]) (fCons (fVar 2) (fCons (fC (.ref (ga K "Rule"))) fNil))) (fCall (D_are_among P w K) (fCons (fProp (ga K "Rule") (D_Rule_moments P w K) (fVar 2)) (fCons (fVar 1) fNil)))) [2]) fNil)))
      (sIfS (fTest (fOp gGt (fCall gLen (fCons (fVar 0) fNil)) (fC (.int 100)))) sBad sNext)))
theorem fx_check_rules (XI : K.In base) (GN : base.Ns mainGlobals mg) (c : obsK K = val0) {fd : FuncData} {f : Addr} (F : Fun K "check_rules" "check_rules" s_check_rules f fd) : FnX P w K mg base 5 f fd ["rules", "moments"] (spP 2 (D_check_rules P w K)) :=
    (Fun.pp F sc_check_rules (fun cdv A fr s H E hG hr => by
      have hu : A.units + 3 + 64 < cLine := hr.units
      exact (pps_cons (ppq_if (ptt_not (pt_b (pp_call (t_is_list XI GN c) hG (hr.mono (by decide)) (takes_of rfl rfl rfl rfl) rfl (ppa_cons (pp_v 0) ppa_nil)))) (pps_one ppq_never) pps_nil)
      (pps_cons (ppq_expr (pp_call (t_check_each XI GN c) hG (hr.mono (by decide)) (takes_of rfl rfl rfl rfl) rfl (ppa_cons (pp_lc (own := [("rule", 2)]) (g := (gName 2)) rfl sc_check_rules.nd (ppi_any (pp_v 0)) (blkOk_by (own := [("rule", 2)]) (by kernel_rfl)) (fun _ _ _ _ _ => (pg_name (i := 2) sc_check_rules.nd rfl (by first | exact Or.inl rfl | exact Or.inr rfl))) (ad_gName (i := 2) (by intro l e; cases e <;> decide)) (fun _ _ _ _ _ => ppts_nil) (fun _ _ _ _ _ => (pp_and (pp_isi (ow c) rfl (f_isinstance XI GN c) (ppa_cons (pp_v 2) (ppa_cons (pp_gcls rfl (g_Rule XI GN c)) ppa_nil))) (pp_one (pp_call (t_are_among XI GN c) hG (hr.mono (by decide)) takes0 rfl (ppa_cons (pp_prop (t_Rule_moments XI GN c) (cl_Rule c) hG (hr.mono (by decide)) (pp_v 2)) (ppa_cons (pp_v 1) ppa_nil))))))) ppa_nil)))
      (pps_one (ppq_if (pt_gt (pp_len' rfl (f_len XI GN c) (ppa_cons (pp_v 0) ppa_nil)) (pp_ccst rfl (g_Book XI GN c) (cc_Book_MOST_RULES c))) (pps_one ppq_never) pps_nil))))))
theorem t_check_rules (XI : K.In base) (GN : base.Ns mainGlobals mg) (c : obsK K = val0) : DP P w K mg base "check_rules" 2 5 (D_check_rules P w K) := by
  obtain ⟨fd, F⟩ := F_check_rules c
  exact ⟨_, fd, _, rfl, (fx_check_rules XI GN c F), g_check_rules XI GN c, F.kp, F.binds (by intro _ _ _ _ _ _ us hl; first | (match us, hl with | [_], _ => rfl) | (match us, hl with | [_, _], _ => rfl) | (match us, hl with | [_, _, _], _ => rfl) | (match us, hl with | [_, _, _, _], _ => rfl) | (match us, hl with | [_, _, _, _, _], _ => rfl) | (match us, hl with | [_, _, _, _, _, _], _ => rfl) | (match us, hl with | [_, _, _, _, _, _, _], _ => rfl) | (match us, hl with | [_, _, _, _, _, _, _, _], _ => rfl) | (match us, hl with | [_, _, _, _, _, _, _, _, _], _ => rfl))⟩
/-! Book.__init__ -/
def N_Book___init__ : List Str := ["self", "moments", "rules"]
theorem sc_Book___init__ : FnScope N_Book___init__ ["self", "moments", "rules"] (defScope m_Book___init__) := ⟨rfl, rfl, rfl, by decide +kernel, rfl, by decide +kernel, by decide +kernel⟩
noncomputable def D_Book___init__ (P : Program) (w : World) (K : PySem.W.Frag) : FF := fDef 3 3 (sSeq (sDrop (fCall (D_check_names P w K) (fCons (fVar 1) fNil)))
      (sSeq (sDrop (fCall (D_check_rules P w K) (fCons (fVar 2) (fCons (fVar 1) fNil))))
      (sSeq (sFldP (ga K "Book") "_moments" (fVar 0) (fCall gTupB (fCons (fCall (gSort' (SetTO P w)) (fCons (fVar 1) fNil)) fNil)))
      (sFldP (ga K "Book") "_rules" (fVar 0) (fCall (gList .val) (fCons (fVar 2) fNil))))))
theorem fx_Book___init__ (XI : K.In base) (GN : base.Ns mainGlobals mg) (c : obsK K = val0) {dvs : List V} {fd : FuncData} {f : Addr} (F : FunD K "__init__" "Book.__init__" (defArgs m_Book___init__) (defBody m_Book___init__) (defScope m_Book___init__) dvs [] f fd) : FnX P w K mg base 6 f fd ["self", "moments", "rules"] (spP 3 (D_Book___init__ P w K)) :=
    (FunD.pp F sc_Book___init__ (fun cdv A fr s H E hG hr => by
      have hu : A.units + 3 + 64 < cLine := hr.units
      exact (pps_cons (ppq_expr (pp_call (t_check_names XI GN c) hG (hr.mono (by decide)) (takes_of rfl rfl rfl rfl) rfl (ppa_cons (pp_v 1) ppa_nil)))
      (pps_cons (ppq_expr (pp_call (t_check_rules XI GN c) hG (hr.mono (by decide)) (takes_of rfl rfl rfl rfl) rfl (ppa_cons (pp_v 2) (ppa_cons (pp_v 1) ppa_nil))))
      (pps_cons (ppq_fld (cl_Book c) (na_Book__moments c) (pp_v 0) (pp_tuple rfl rfl (f_tuple XI GN c) (ppa_cons (pp_sorted rfl rfl (f_sorted XI GN c) (ppa_cons (pp_v 1) ppa_nil)) ppa_nil)))
      (pps_one (ppq_fld (cl_Book c) (na_Book__rules c) (pp_v 0) (pp_list .val rfl rfl (f_list XI GN c) (ppa_cons (pp_v 2) ppa_nil)))))))))
theorem t_Book___init__ (XI : K.In base) (GN : base.Ns mainGlobals mg) (c : obsK K = val0) : DC P w K mg base "Book" (ga K "Book") 3 6 (D_Book___init__ P w K) := by
  obtain ⟨fd, F⟩ := F_Book___init__ c
  exact ⟨⟨_, fd, _, rfl, (fx_Book___init__ XI GN c F), mkB_ok (bMk_Book c), binds_full F (by simp) (fun T kV doc pm an cdv ct us its l1 l2 => by
    match us, its, l1, l2 with
    | [_, _, _], [_], _, _ => exact ⟨_, rfl, rfl⟩)⟩, g_Book XI GN c⟩
end
end Pu
set_option Elab.async false
set_option linter.all false
set_option maxRecDepth 100000
set_option maxHeartbeats 8000000
namespace Pu
open L2 PySem PySem.Spec PyProof.Rows E10
open He (ga ma)
section
variable {P : Program} {w : World} {K : PySem.W.Frag} {mg : Str → Option Value} {base : Heap}
/-! is_moment_of -/
def N_is_moment_of : List Str := ["value", "moments"]
theorem sc_is_moment_of : FnScope N_is_moment_of ["value", "moments"] (defScope s_is_moment_of) := ⟨rfl, rfl, rfl, by decide +kernel, rfl, by decide +kernel, by decide +kernel⟩
noncomputable def D_is_moment_of (P : Program) (w : World) (K : PySem.W.Frag) : FF := fDef 2 2 (sRet (fAndV (fCall (fIsi [(ga K "Earliest"), (ga K "Rule"), (ga K "Book"), (ga K "Term")]) (fCons (fVar 0) (fCons (fC (.ty "str")) fNil))) (fOp (gIn false) (fVar 0) (fVar 1))))
theorem fx_is_moment_of (XI : K.In base) (GN : base.Ns mainGlobals mg) (c : obsK K = val0) {fd : FuncData} {f : Addr} (F : Fun K "is_moment_of" "is_moment_of" s_is_moment_of f fd) : FnX P w K mg base 1 f fd ["value", "moments"] (spP 2 (D_is_moment_of P w K)) :=
    (Fun.pp F sc_is_moment_of (fun cdv A fr s H E hG hr => by
      have hu : A.units + 3 + 64 < cLine := hr.units
      exact (pps_one (ppq_ret (pp_and (pp_isi (ow c) rfl (f_isinstance XI GN c) (ppa_cons (pp_v 0) (ppa_cons (pp_gty rfl (f_str XI GN c) b_str) ppa_nil))) (pp_one (pp_in (Nat.lt_of_le_of_lt (Nat.add_le_add_left (by decide) _) hu) (pp_v 0) (pp_v 1))))))))
theorem t_is_moment_of (XI : K.In base) (GN : base.Ns mainGlobals mg) (c : obsK K = val0) : DP P w K mg base "is_moment_of" 2 1 (D_is_moment_of P w K) := by
  obtain ⟨fd, F⟩ := F_is_moment_of c
  exact ⟨_, fd, _, rfl, (fx_is_moment_of XI GN c F), g_is_moment_of XI GN c, F.kp, F.binds (by intro _ _ _ _ _ _ us hl; first | (match us, hl with | [_], _ => rfl) | (match us, hl with | [_, _], _ => rfl) | (match us, hl with | [_, _, _], _ => rfl) | (match us, hl with | [_, _, _, _], _ => rfl) | (match us, hl with | [_, _, _, _, _], _ => rfl) | (match us, hl with | [_, _, _, _, _, _], _ => rfl) | (match us, hl with | [_, _, _, _, _, _, _], _ => rfl) | (match us, hl with | [_, _, _, _, _, _, _, _], _ => rfl) | (match us, hl with | [_, _, _, _, _, _, _, _, _], _ => rfl))⟩
/-! check_moment -/
def N_check_moment : List Str := ["value", "moments"]
theorem sc_check_moment : FnScope N_check_moment ["value", "moments"] (defScope s_check_moment) := ⟨rfl, rfl, rfl, by decide +kernel, rfl, by decide +kernel, by decide +kernel⟩
noncomputable def D_check_moment (P : Program) (w : World) (K : PySem.W.Frag) : FF := fDef 2 2 (sIfS (fNotT (fTest (fCall (D_is_moment_of P w K) (fCons (fVar 0) (fCons (fVar 1) fNil))))) sBad sNext)
theorem fx_check_moment (XI : K.In base) (GN : base.Ns mainGlobals mg) (c : obsK K = val0) {fd : FuncData} {f : Addr} (F : Fun K "check_moment" "check_moment" s_check_moment f fd) : FnX P w K mg base 2 f fd ["value", "moments"] (spP 2 (D_check_moment P w K)) :=
    (Fun.pp F sc_check_moment (fun cdv A fr s H E hG hr => by
      have hu : A.units + 3 + 64 < cLine := hr.units
      exact (pps_one (ppq_if (ptt_not (pt_b (pp_call (t_is_moment_of XI GN c) hG (hr.mono (by decide)) (takes_of rfl rfl rfl rfl) rfl (ppa_cons (pp_v 0) (ppa_cons (pp_v 1) ppa_nil))))) (pps_one ppq_never) pps_nil))))
theorem t_check_moment (XI : K.In base) (GN : base.Ns mainGlobals mg) (c : obsK K = val0) : DP P w K mg base "check_moment" 2 2 (D_check_moment P w K) := by
  obtain ⟨fd, F⟩ := F_check_moment c
  exact ⟨_, fd, _, rfl, (fx_check_moment XI GN c F), g_check_moment XI GN c, F.kp, F.binds (by intro _ _ _ _ _ _ us hl; first | (match us, hl with | [_], _ => rfl) | (match us, hl with | [_, _], _ => rfl) | (match us, hl with | [_, _, _], _ => rfl) | (match us, hl with | [_, _, _, _], _ => rfl) | (match us, hl with | [_, _, _, _, _], _ => rfl) | (match us, hl with | [_, _, _, _, _, _], _ => rfl) | (match us, hl with | [_, _, _, _, _, _, _], _ => rfl) | (match us, hl with | [_, _, _, _, _, _, _, _], _ => rfl) | (match us, hl with | [_, _, _, _, _, _, _, _, _], _ => rfl))⟩
/-! Rule.moment -/
def N_Rule_moment : List Str := ["self"]
theorem sc_Rule_moment : FnScope N_Rule_moment ["self"] (defScope m_Rule_moment) := ⟨rfl, rfl, rfl, by decide +kernel, rfl, by decide +kernel, by decide +kernel⟩
noncomputable def D_Rule_moment (P : Program) (w : World) (K : PySem.W.Frag) : FF := fDef 1 1 (sRet (fFld (ga K "Rule") "_moment" (fVar 0)))
theorem fx_Rule_moment (XI : K.In base) (GN : base.Ns mainGlobals mg) (c : obsK K = val0) {fd : FuncData} {f : Addr} (F : Fun K "moment" "Rule.moment" m_Rule_moment f fd) : FnX P w K mg base 1 f fd ["self"] (spP 1 (D_Rule_moment P w K)) :=
    (Fun.pp F sc_Rule_moment (fun cdv A fr s H E hG hr => by
      have hu : A.units + 3 + 64 < cLine := hr.units
      exact (pps_one (ppq_ret (pp_fld (cl_Rule c) (na_Rule__moment c) (pp_v 0))))))
theorem t_Rule_moment (XI : K.In base) (GN : base.Ns mainGlobals mg) (c : obsK K = val0) : DPr P w K mg base (ga K "Rule") "moment" 1 (D_Rule_moment P w K) := by
  obtain ⟨fd, F⟩ := F_Rule_moment c
  exact ⟨_, _, fd, _, (fx_Rule_moment XI GN c F), propB_ok (bProp_Rule_moment c), F.binds (by intro _ _ _ _ _ _ us hl; first | (match us, hl with | [_], _ => rfl) | (match us, hl with | [_, _], _ => rfl) | (match us, hl with | [_, _, _], _ => rfl) | (match us, hl with | [_, _, _, _], _ => rfl) | (match us, hl with | [_, _, _, _, _], _ => rfl) | (match us, hl with | [_, _, _, _, _, _], _ => rfl) | (match us, hl with | [_, _, _, _, _, _, _], _ => rfl) | (match us, hl with | [_, _, _, _, _, _, _, _], _ => rfl) | (match us, hl with | [_, _, _, _, _, _, _, _, _], _ => rfl))⟩
/-! Book.rules_of -/
def N_Book_rules_of : List Str := ["self", "moment", "position", "rule"]
theorem sc_Book_rules_of : FnScope N_Book_rules_of ["self", "moment"] (defScope m_Book_rules_of) := ⟨rfl, rfl, rfl, by decide +kernel, rfl, by decide +kernel, by decide +kernel⟩
noncomputable def D_Book_rules_of (P : Program) (w : World) (K : PySem.W.Frag) : FF := fDef 2 4 (sSeq (sDrop (fCall (D_check_moment P w K) (fCons (fVar 1) (fCons (fFld (ga K "Book") "_moments" (fVar 0)) fNil))))
      (sRet (fLc (iEnumP (fCons (fFld (ga K "Book") "_rules" (fVar 0)) fNil)) (tgTup 2 (tgCons (tgName 2) (tgCons (tgName 3) tgNil))) (fTest (fOp (gEqX false) (fProp (ga K "Rule") (D_Rule_moment P w K) (fVar 3)) (fVar 1))) (fVar 2) [2, 3])))
theorem fx_Book_rules_of (XI : K.In base) (GN : base.Ns mainGlobals mg) (c : obsK K = val0) {fd : FuncData} {f : Addr} (F : Fun K "rules_of" "Book.rules_of" m_Book_rules_of f fd) : FnX P w K mg base 3 f fd ["self", "moment"] (spP 2 (D_Book_rules_of P w K)) :=
    (Fun.pp F sc_Book_rules_of (fun cdv A fr s H E hG hr => by
      have hu : A.units + 3 + 64 < cLine := hr.units
      exact (pps_cons (ppq_expr (pp_call (t_check_moment XI GN c) hG (hr.mono (by decide)) (takes_of rfl rfl rfl rfl) rfl (ppa_cons (pp_v 1) (ppa_cons (pp_fld (cl_Book c) (na_Book__moments c) (pp_v 0)) ppa_nil))))
      (pps_one (ppq_ret (pp_lc (own := [("position", 2), ("rule", 3)]) (g := (gTup K 2 (gCons (gName 2) (gCons (gName 3) gNil)))) rfl sc_Book_rules_of.nd (ppi_enum rfl (f_enumerate XI GN c) (ppa_cons (pp_fld (cl_Book c) (na_Book__rules c) (pp_v 0)) ppa_nil)) (blkOk_by (own := [("position", 2), ("rule", 3)]) (by kernel_rfl)) (fun _ _ _ _ _ => (pg_tup rfl (pgs_cons (pg_name (i := 2) sc_Book_rules_of.nd rfl (by first | exact Or.inl rfl | exact Or.inr rfl)) (pgs_cons (pg_name (i := 3) sc_Book_rules_of.nd rfl (by first | exact Or.inl rfl | exact Or.inr rfl)) pgs_nil)))) (ad_gTup (ad_gCons (ad_gName (i := 2) (by intro l e; cases e <;> decide)) (ad_gCons (ad_gName (i := 3) (by intro l e; cases e <;> decide)) ad_gNil))) (fun _ _ _ _ _ => (ppts_one (pt_eqX hu (pp_prop (t_Rule_moment XI GN c) (cl_Rule c) hG (hr.mono (by decide)) (pp_v 3)) (pp_v 1)))) (fun _ _ _ _ _ => (pp_v 2))))))))
theorem t_Book_rules_of (XI : K.In base) (GN : base.Ns mainGlobals mg) (c : obsK K = val0) : DM P w K mg base (ga K "Book") "rules_of" 2 3 (D_Book_rules_of P w K) := by
  obtain ⟨fd, F⟩ := F_Book_rules_of c
  exact ⟨_, fd, _, rfl, (fx_Book_rules_of XI GN c F), metB_ok (bMet_Book_rules_of c), F.binds (by intro _ _ _ _ _ _ us hl; first | (match us, hl with | [_], _ => rfl) | (match us, hl with | [_, _], _ => rfl) | (match us, hl with | [_, _, _], _ => rfl) | (match us, hl with | [_, _, _, _], _ => rfl) | (match us, hl with | [_, _, _, _, _], _ => rfl) | (match us, hl with | [_, _, _, _, _, _], _ => rfl) | (match us, hl with | [_, _, _, _, _, _, _], _ => rfl) | (match us, hl with | [_, _, _, _, _, _, _, _], _ => rfl) | (match us, hl with | [_, _, _, _, _, _, _, _, _], _ => rfl))⟩
/-! is_position -/
def N_is_position : List Str := ["value", "many"]
theorem sc_is_position : FnScope N_is_position ["value", "many"] (defScope s_is_position) := ⟨rfl, rfl, rfl, by decide +kernel, rfl, by decide +kernel, by decide +kernel⟩
noncomputable def D_is_position (P : Program) (w : World) (K : PySem.W.Frag) : FF := fDef 2 2 (sRet (fAndV (fCall (D_is_integer P w K) (fCons (fVar 0) fNil)) (fChain gLe gLt (fC (.int 0)) (fVar 0) (fVar 1))))
theorem fx_is_position (XI : K.In base) (GN : base.Ns mainGlobals mg) (c : obsK K = val0) {fd : FuncData} {f : Addr} (F : Fun K "is_position" "is_position" s_is_position f fd) : FnX P w K mg base 2 f fd ["value", "many"] (spP 2 (D_is_position P w K)) :=
    (Fun.pp F sc_is_position (fun cdv A fr s H E hG hr => by
      have hu : A.units + 3 + 64 < cLine := hr.units
      exact (pps_one (ppq_ret (pp_and (pp_call (t_is_integer XI GN c) hG (hr.mono (by decide)) (takes_of rfl rfl rfl rfl) rfl (ppa_cons (pp_v 0) ppa_nil)) (pp_one (pp_lelt pp_int (pp_v 0) (pp_v 1))))))))
theorem t_is_position (XI : K.In base) (GN : base.Ns mainGlobals mg) (c : obsK K = val0) : DP P w K mg base "is_position" 2 2 (D_is_position P w K) := by
  obtain ⟨fd, F⟩ := F_is_position c
  exact ⟨_, fd, _, rfl, (fx_is_position XI GN c F), g_is_position XI GN c, F.kp, F.binds (by intro _ _ _ _ _ _ us hl; first | (match us, hl with | [_], _ => rfl) | (match us, hl with | [_, _], _ => rfl) | (match us, hl with | [_, _, _], _ => rfl) | (match us, hl with | [_, _, _, _], _ => rfl) | (match us, hl with | [_, _, _, _, _], _ => rfl) | (match us, hl with | [_, _, _, _, _, _], _ => rfl) | (match us, hl with | [_, _, _, _, _, _, _], _ => rfl) | (match us, hl with | [_, _, _, _, _, _, _, _], _ => rfl) | (match us, hl with | [_, _, _, _, _, _, _, _, _], _ => rfl))⟩
/-! check_position -/
def N_check_position : List Str := ["value", "many"]
theorem sc_check_position : FnScope N_check_position ["value", "many"] (defScope s_check_position) := ⟨rfl, rfl, rfl, by decide +kernel, rfl, by decide +kernel, by decide +kernel⟩
noncomputable def D_check_position (P : Program) (w : World) (K : PySem.W.Frag) : FF := fDef 2 2 (sIfS (fNotT (fTest (fCall (D_is_position P w K) (fCons (fVar 0) (fCons (fVar 1) fNil))))) sBad sNext)
theorem fx_check_position (XI : K.In base) (GN : base.Ns mainGlobals mg) (c : obsK K = val0) {fd : FuncData} {f : Addr} (F : Fun K "check_position" "check_position" s_check_position f fd) : FnX P w K mg base 3 f fd ["value", "many"] (spP 2 (D_check_position P w K)) :=
    (Fun.pp F sc_check_position (fun cdv A fr s H E hG hr => by
      have hu : A.units + 3 + 64 < cLine := hr.units
      exact (pps_one (ppq_if (ptt_not (pt_b (pp_call (t_is_position XI GN c) hG (hr.mono (by decide)) (takes_of rfl rfl rfl rfl) rfl (ppa_cons (pp_v 0) (ppa_cons (pp_v 1) ppa_nil))))) (pps_one ppq_never) pps_nil))))
theorem t_check_position (XI : K.In base) (GN : base.Ns mainGlobals mg) (c : obsK K = val0) : DP P w K mg base "check_position" 2 3 (D_check_position P w K) := by
  obtain ⟨fd, F⟩ := F_check_position c
  exact ⟨_, fd, _, rfl, (fx_check_position XI GN c F), g_check_position XI GN c, F.kp, F.binds (by intro _ _ _ _ _ _ us hl; first | (match us, hl with | [_], _ => rfl) | (match us, hl with | [_, _], _ => rfl) | (match us, hl with | [_, _, _], _ => rfl) | (match us, hl with | [_, _, _, _], _ => rfl) | (match us, hl with | [_, _, _, _, _], _ => rfl) | (match us, hl with | [_, _, _, _, _, _], _ => rfl) | (match us, hl with | [_, _, _, _, _, _, _], _ => rfl) | (match us, hl with | [_, _, _, _, _, _, _, _], _ => rfl) | (match us, hl with | [_, _, _, _, _, _, _, _, _], _ => rfl))⟩
/-! Book.__getitem__ -/
def N_Book___getitem__ : List Str := ["self", "at"]
theorem sc_Book___getitem__ : FnScope N_Book___getitem__ ["self", "at"] (defScope m_Book___getitem__) := ⟨rfl, rfl, rfl, by decide +kernel, rfl, by decide +kernel, by decide +kernel⟩
noncomputable def D_Book___getitem__ (P : Program) (w : World) (K : PySem.W.Frag) : FF := fDef 2 2 (sSeq (sDrop (fCall (D_check_position P w K) (fCons (fVar 1) (fCons (fCall gLen (fCons (fFld (ga K "Book") "_rules" (fVar 0)) fNil)) fNil))))
      (sRet (fOp gIx (fFld (ga K "Book") "_rules" (fVar 0)) (fVar 1))))
theorem fx_Book___getitem__ (XI : K.In base) (GN : base.Ns mainGlobals mg) (c : obsK K = val0) {fd : FuncData} {f : Addr} (F : Fun K "__getitem__" "Book.__getitem__" m_Book___getitem__ f fd) : FnX P w K mg base 4 f fd ["self", "at"] (spP 2 (D_Book___getitem__ P w K)) :=
    (Fun.pp F sc_Book___getitem__ (fun cdv A fr s H E hG hr => by
      have hu : A.units + 3 + 64 < cLine := hr.units
      exact (pps_cons (ppq_expr (pp_call (t_check_position XI GN c) hG (hr.mono (by decide)) (takes_of rfl rfl rfl rfl) rfl (ppa_cons (pp_v 1) (ppa_cons (pp_len' rfl (f_len XI GN c) (ppa_cons (pp_fld (cl_Book c) (na_Book__rules c) (pp_v 0)) ppa_nil)) ppa_nil))))
      (pps_one (ppq_ret (pp_idx (Nat.lt_of_le_of_lt (Nat.add_le_add_left (by decide) _) hu) (pp_fld (cl_Book c) (na_Book__rules c) (pp_v 0)) (pp_v 1)))))))
theorem t_Book___getitem__ (XI : K.In base) (GN : base.Ns mainGlobals mg) (c : obsK K = val0) : DS P w K mg base (ga K "Book") "__getitem__" 2 4 (D_Book___getitem__ P w K) := by
  obtain ⟨fd, F⟩ := F_Book___getitem__ c
  exact ⟨_, fd, _, rfl, (fx_Book___getitem__ XI GN c F), mB_ok (bSp_Book___getitem__ c), F.binds (by intro _ _ _ _ _ _ us hl; first | (match us, hl with | [_], _ => rfl) | (match us, hl with | [_, _], _ => rfl) | (match us, hl with | [_, _, _], _ => rfl) | (match us, hl with | [_, _, _, _], _ => rfl) | (match us, hl with | [_, _, _, _, _], _ => rfl) | (match us, hl with | [_, _, _, _, _, _], _ => rfl) | (match us, hl with | [_, _, _, _, _, _, _], _ => rfl) | (match us, hl with | [_, _, _, _, _, _, _, _], _ => rfl) | (match us, hl with | [_, _, _, _, _, _, _, _, _], _ => rfl))⟩
/-! Earliest.__getitem__ -/
def N_Earliest___getitem__ : List Str := ["self", "at"]
theorem sc_Earliest___getitem__ : FnScope N_Earliest___getitem__ ["self", "at"] (defScope m_Earliest___getitem__) := ⟨rfl, rfl, rfl, by decide +kernel, rfl, by decide +kernel, by decide +kernel⟩
noncomputable def D_Earliest___getitem__ (P : Program) (w : World) (K : PySem.W.Frag) : FF := fDef 2 2 (sSeq (sDrop (fCall (D_check_moment P w K) (fCons (fVar 1) (fCons (fFld (ga K "Earliest") "_shifts" (fVar 0)) fNil))))
      (sRet (fOp gIx (fFld (ga K "Earliest") "_shifts" (fVar 0)) (fVar 1))))
theorem fx_Earliest___getitem__ (XI : K.In base) (GN : base.Ns mainGlobals mg) (c : obsK K = val0) {fd : FuncData} {f : Addr} (F : Fun K "__getitem__" "Earliest.__getitem__" m_Earliest___getitem__ f fd) : FnX P w K mg base 3 f fd ["self", "at"] (spP 2 (D_Earliest___getitem__ P w K)) :=
    (Fun.pp F sc_Earliest___getitem__ (fun cdv A fr s H E hG hr => by
      have hu : A.units + 3 + 64 < cLine := hr.units
      exact (pps_cons (ppq_expr (pp_call (t_check_moment XI GN c) hG (hr.mono (by decide)) (takes_of rfl rfl rfl rfl) rfl (ppa_cons (pp_v 1) (ppa_cons (pp_fld (cl_Earliest c) (na_Earliest__shifts c) (pp_v 0)) ppa_nil))))
      (pps_one (ppq_ret (pp_idx (Nat.lt_of_le_of_lt (Nat.add_le_add_left (by decide) _) hu) (pp_fld (cl_Earliest c) (na_Earliest__shifts c) (pp_v 0)) (pp_v 1)))))))
theorem t_Earliest___getitem__ (XI : K.In base) (GN : base.Ns mainGlobals mg) (c : obsK K = val0) : DS P w K mg base (ga K "Earliest") "__getitem__" 2 3 (D_Earliest___getitem__ P w K) := by
  obtain ⟨fd, F⟩ := F_Earliest___getitem__ c
  exact ⟨_, fd, _, rfl, (fx_Earliest___getitem__ XI GN c F), mB_ok (bSp_Earliest___getitem__ c), F.binds (by intro _ _ _ _ _ _ us hl; first | (match us, hl with | [_], _ => rfl) | (match us, hl with | [_, _], _ => rfl) | (match us, hl with | [_, _, _], _ => rfl) | (match us, hl with | [_, _, _, _], _ => rfl) | (match us, hl with | [_, _, _, _, _], _ => rfl) | (match us, hl with | [_, _, _, _, _, _], _ => rfl) | (match us, hl with | [_, _, _, _, _, _, _], _ => rfl) | (match us, hl with | [_, _, _, _, _, _, _, _], _ => rfl) | (match us, hl with | [_, _, _, _, _, _, _, _, _], _ => rfl))⟩
/-! Rule.is_never -/
def N_Rule_is_never : List Str := ["self"]
theorem sc_Rule_is_never : FnScope N_Rule_is_never ["self"] (defScope m_Rule_is_never) := ⟨rfl, rfl, rfl, by decide +kernel, rfl, by decide +kernel, by decide +kernel⟩
noncomputable def D_Rule_is_never (P : Program) (w : World) (K : PySem.W.Frag) : FF := fDef 1 1 (sRet (fAndV (fOp (gEqX false) (fProp (ga K "Earliest") (D_Earliest_moments P w K) (fFld (ga K "Rule") "_earliest" (fVar 0))) (fSeq .tup (fCons (fFld (ga K "Rule") "_moment" (fVar 0)) fNil))) (fOp gGt (fOp (fIxO (ga K "Earliest") (D_Earliest___getitem__ P w K)) (fFld (ga K "Rule") "_earliest" (fVar 0)) (fFld (ga K "Rule") "_moment" (fVar 0))) (fC (.int 0)))))
theorem fx_Rule_is_never (XI : K.In base) (GN : base.Ns mainGlobals mg) (c : obsK K = val0) {fd : FuncData} {f : Addr} (F : Fun K "is_never" "Rule.is_never" m_Rule_is_never f fd) : FnX P w K mg base 5 f fd ["self"] (spP 1 (D_Rule_is_never P w K)) :=
    (Fun.pp F sc_Rule_is_never (fun cdv A fr s H E hG hr => by
      have hu : A.units + 3 + 64 < cLine := hr.units
      exact (pps_one (ppq_ret (pp_and (pp_eqX hu (pp_prop (t_Earliest_moments XI GN c) (cl_Earliest c) hG (hr.mono (by decide)) (pp_fld (cl_Rule c) (na_Rule__earliest c) (pp_v 0))) (pp_tup (ppa_cons (pp_fld (cl_Rule c) (na_Rule__moment c) (pp_v 0)) ppa_nil))) (pp_one (pp_gt (pp_ixO (t_Earliest___getitem__ XI GN c) (fi_Earliest c) hG (hr.mono (by decide)) (pp_fld (cl_Rule c) (na_Rule__earliest c) (pp_v 0)) (pp_fld (cl_Rule c) (na_Rule__moment c) (pp_v 0))) pp_int)))))))
theorem t_Rule_is_never (XI : K.In base) (GN : base.Ns mainGlobals mg) (c : obsK K = val0) : DPr P w K mg base (ga K "Rule") "is_never" 5 (D_Rule_is_never P w K) := by
  obtain ⟨fd, F⟩ := F_Rule_is_never c
  exact ⟨_, _, fd, _, (fx_Rule_is_never XI GN c F), propB_ok (bProp_Rule_is_never c), F.binds (by intro _ _ _ _ _ _ us hl; first | (match us, hl with | [_], _ => rfl) | (match us, hl with | [_, _], _ => rfl) | (match us, hl with | [_, _, _], _ => rfl) | (match us, hl with | [_, _, _, _], _ => rfl) | (match us, hl with | [_, _, _, _, _], _ => rfl) | (match us, hl with | [_, _, _, _, _, _], _ => rfl) | (match us, hl with | [_, _, _, _, _, _, _], _ => rfl) | (match us, hl with | [_, _, _, _, _, _, _, _], _ => rfl) | (match us, hl with | [_, _, _, _, _, _, _, _, _], _ => rfl))⟩
/-! Earliest.__contains__ -/
def N_Earliest___contains__ : List Str := ["self", "x"]
theorem sc_Earliest___contains__ : FnScope N_Earliest___contains__ ["self", "x"] (defScope m_Earliest___contains__) := ⟨rfl, rfl, rfl, by decide +kernel, rfl, by decide +kernel, by decide +kernel⟩
noncomputable def D_Earliest___contains__ (P : Program) (w : World) (K : PySem.W.Frag) : FF := fDef 2 2 (sRet (fCall (D_is_moment_of P w K) (fCons (fVar 1) (fCons (fFld (ga K "Earliest") "_shifts" (fVar 0)) fNil))))
theorem fx_Earliest___contains__ (XI : K.In base) (GN : base.Ns mainGlobals mg) (c : obsK K = val0) {fd : FuncData} {f : Addr} (F : Fun K "__contains__" "Earliest.__contains__" m_Earliest___contains__ f fd) : FnX P w K mg base 2 f fd ["self", "x"] (spP 2 (D_Earliest___contains__ P w K)) :=
    (Fun.pp F sc_Earliest___contains__ (fun cdv A fr s H E hG hr => by
      have hu : A.units + 3 + 64 < cLine := hr.units
      exact (pps_one (ppq_ret (pp_call (t_is_moment_of XI GN c) hG (hr.mono (by decide)) (takes_of rfl rfl rfl rfl) rfl (ppa_cons (pp_v 1) (ppa_cons (pp_fld (cl_Earliest c) (na_Earliest__shifts c) (pp_v 0)) ppa_nil)))))))
theorem t_Earliest___contains__ (XI : K.In base) (GN : base.Ns mainGlobals mg) (c : obsK K = val0) : DS P w K mg base (ga K "Earliest") "__contains__" 2 2 (D_Earliest___contains__ P w K) := by
  obtain ⟨fd, F⟩ := F_Earliest___contains__ c
  exact ⟨_, fd, _, rfl, (fx_Earliest___contains__ XI GN c F), mB_ok (bSp_Earliest___contains__ c), F.binds (by intro _ _ _ _ _ _ us hl; first | (match us, hl with | [_], _ => rfl) | (match us, hl with | [_, _], _ => rfl) | (match us, hl with | [_, _, _], _ => rfl) | (match us, hl with | [_, _, _, _], _ => rfl) | (match us, hl with | [_, _, _, _, _], _ => rfl) | (match us, hl with | [_, _, _, _, _, _], _ => rfl) | (match us, hl with | [_, _, _, _, _, _, _], _ => rfl) | (match us, hl with | [_, _, _, _, _, _, _, _], _ => rfl) | (match us, hl with | [_, _, _, _, _, _, _, _, _], _ => rfl))⟩
end
end Pu
set_option Elab.async false
set_option linter.all false
set_option maxRecDepth 100000
set_option maxHeartbeats 8000000
namespace Pu
open L2 PySem PySem.Spec PyProof.Rows E10
open He (ga ma)
section
variable {P : Program} {w : World} {K : PySem.W.Frag} {mg : Str → Option Value} {base : Heap}
/-! Rule.is_always -/
def N_Rule_is_always : List Str := ["self"]
theorem sc_Rule_is_always : FnScope N_Rule_is_always ["self"] (defScope m_Rule_is_always) := ⟨rfl, rfl, rfl, by decide +kernel, rfl, by decide +kernel, by decide +kernel⟩
noncomputable def D_Rule_is_always (P : Program) (w : World) (K : PySem.W.Frag) : FF := fDef 1 1 (sRet (fAndV (fOp (fInO (ga K "Earliest") false (D_Earliest___contains__ P w K)) (fFld (ga K "Rule") "_moment" (fVar 0)) (fFld (ga K "Rule") "_earliest" (fVar 0))) (fOp gLe (fOp (fIxO (ga K "Earliest") (D_Earliest___getitem__ P w K)) (fFld (ga K "Rule") "_earliest" (fVar 0)) (fFld (ga K "Rule") "_moment" (fVar 0))) (fC (.int 0)))))
theorem fx_Rule_is_always (XI : K.In base) (GN : base.Ns mainGlobals mg) (c : obsK K = val0) {fd : FuncData} {f : Addr} (F : Fun K "is_always" "Rule.is_always" m_Rule_is_always f fd) : FnX P w K mg base 5 f fd ["self"] (spP 1 (D_Rule_is_always P w K)) :=
    (Fun.pp F sc_Rule_is_always (fun cdv A fr s H E hG hr => by
      have hu : A.units + 3 + 64 < cLine := hr.units
      exact (pps_one (ppq_ret (pp_and (pp_inO (t_Earliest___contains__ XI GN c) hG (hr.mono (by decide)) (pp_fld (cl_Rule c) (na_Rule__moment c) (pp_v 0)) (pp_fld (cl_Rule c) (na_Rule__earliest c) (pp_v 0))) (pp_one (pp_le (pp_ixO (t_Earliest___getitem__ XI GN c) (fi_Earliest c) hG (hr.mono (by decide)) (pp_fld (cl_Rule c) (na_Rule__earliest c) (pp_v 0)) (pp_fld (cl_Rule c) (na_Rule__moment c) (pp_v 0))) pp_int)))))))
theorem t_Rule_is_always (XI : K.In base) (GN : base.Ns mainGlobals mg) (c : obsK K = val0) : DPr P w K mg base (ga K "Rule") "is_always" 5 (D_Rule_is_always P w K) := by
  obtain ⟨fd, F⟩ := F_Rule_is_always c
  exact ⟨_, _, fd, _, (fx_Rule_is_always XI GN c F), propB_ok (bProp_Rule_is_always c), F.binds (by intro _ _ _ _ _ _ us hl; first | (match us, hl with | [_], _ => rfl) | (match us, hl with | [_, _], _ => rfl) | (match us, hl with | [_, _, _], _ => rfl) | (match us, hl with | [_, _, _, _], _ => rfl) | (match us, hl with | [_, _, _, _, _], _ => rfl) | (match us, hl with | [_, _, _, _, _, _], _ => rfl) | (match us, hl with | [_, _, _, _, _, _, _], _ => rfl) | (match us, hl with | [_, _, _, _, _, _, _, _], _ => rfl) | (match us, hl with | [_, _, _, _, _, _, _, _, _], _ => rfl))⟩
/-! Rule.earliest -/
def N_Rule_earliest : List Str := ["self"]
theorem sc_Rule_earliest : FnScope N_Rule_earliest ["self"] (defScope m_Rule_earliest) := ⟨rfl, rfl, rfl, by decide +kernel, rfl, by decide +kernel, by decide +kernel⟩
noncomputable def D_Rule_earliest (P : Program) (w : World) (K : PySem.W.Frag) : FF := fDef 1 1 (sRet (fFld (ga K "Rule") "_earliest" (fVar 0)))
theorem fx_Rule_earliest (XI : K.In base) (GN : base.Ns mainGlobals mg) (c : obsK K = val0) {fd : FuncData} {f : Addr} (F : Fun K "earliest" "Rule.earliest" m_Rule_earliest f fd) : FnX P w K mg base 1 f fd ["self"] (spP 1 (D_Rule_earliest P w K)) :=
    (Fun.pp F sc_Rule_earliest (fun cdv A fr s H E hG hr => by
      have hu : A.units + 3 + 64 < cLine := hr.units
      exact (pps_one (ppq_ret (pp_fld (cl_Rule c) (na_Rule__earliest c) (pp_v 0))))))
theorem t_Rule_earliest (XI : K.In base) (GN : base.Ns mainGlobals mg) (c : obsK K = val0) : DPr P w K mg base (ga K "Rule") "earliest" 1 (D_Rule_earliest P w K) := by
  obtain ⟨fd, F⟩ := F_Rule_earliest c
  exact ⟨_, _, fd, _, (fx_Rule_earliest XI GN c F), propB_ok (bProp_Rule_earliest c), F.binds (by intro _ _ _ _ _ _ us hl; first | (match us, hl with | [_], _ => rfl) | (match us, hl with | [_, _], _ => rfl) | (match us, hl with | [_, _, _], _ => rfl) | (match us, hl with | [_, _, _, _], _ => rfl) | (match us, hl with | [_, _, _, _, _], _ => rfl) | (match us, hl with | [_, _, _, _, _, _], _ => rfl) | (match us, hl with | [_, _, _, _, _, _, _], _ => rfl) | (match us, hl with | [_, _, _, _, _, _, _, _], _ => rfl) | (match us, hl with | [_, _, _, _, _, _, _, _, _], _ => rfl))⟩
/-! left_out -/
def N_left_out : List Str := ["table", "moment", "key"]
theorem sc_left_out : FnScope N_left_out ["table", "moment"] (defScope s_left_out) := ⟨rfl, rfl, rfl, by decide +kernel, rfl, by decide +kernel, by decide +kernel⟩
noncomputable def D_left_out (P : Program) (w : World) (K : PySem.W.Frag) : FF := fDef 2 3 (sRet (fDc (iAny (fVar 0)) (tgName 2) (fTest (fOp (gEqX true) (fVar 2) (fVar 1))) (fVar 2) (fOp gIx (fVar 0) (fVar 2)) [2]))
theorem fx_left_out (XI : K.In base) (GN : base.Ns mainGlobals mg) (c : obsK K = val0) {fd : FuncData} {f : Addr} (F : Fun K "left_out" "left_out" s_left_out f fd) : FnX P w K mg base 1 f fd ["table", "moment"] (spP 2 (D_left_out P w K)) :=
    (Fun.pp F sc_left_out (fun cdv A fr s H E hG hr => by
      have hu : A.units + 3 + 64 < cLine := hr.units
      exact (pps_one (ppq_ret (pp_dc (own := [("key", 2)]) (g := (gName 2)) rfl sc_left_out.nd (ppi_any (pp_v 0)) (blkOk_by (own := [("key", 2)]) (by kernel_rfl)) (fun _ _ _ _ _ => (pg_name (i := 2) sc_left_out.nd rfl (by first | exact Or.inl rfl | exact Or.inr rfl))) (ad_gName (i := 2) (by intro l e; cases e <;> decide)) (fun _ _ _ _ _ => (ppts_one (pt_neX hu (pp_v 2) (pp_v 1)))) (fun _ _ _ _ _ => (pp_v 2)) (fun _ _ _ _ _ => (pp_idx (Nat.lt_of_le_of_lt (Nat.add_le_add_left (by decide) _) hu) (pp_v 0) (pp_v 2))))))))
theorem t_left_out (XI : K.In base) (GN : base.Ns mainGlobals mg) (c : obsK K = val0) : DP P w K mg base "left_out" 2 1 (D_left_out P w K) := by
  obtain ⟨fd, F⟩ := F_left_out c
  exact ⟨_, fd, _, rfl, (fx_left_out XI GN c F), g_left_out XI GN c, F.kp, F.binds (by intro _ _ _ _ _ _ us hl; first | (match us, hl with | [_], _ => rfl) | (match us, hl with | [_, _], _ => rfl) | (match us, hl with | [_, _, _], _ => rfl) | (match us, hl with | [_, _, _, _], _ => rfl) | (match us, hl with | [_, _, _, _, _], _ => rfl) | (match us, hl with | [_, _, _, _, _, _], _ => rfl) | (match us, hl with | [_, _, _, _, _, _, _], _ => rfl) | (match us, hl with | [_, _, _, _, _, _, _, _], _ => rfl) | (match us, hl with | [_, _, _, _, _, _, _, _, _], _ => rfl))⟩
/-! Earliest.without -/
def N_Earliest_without : List Str := ["self", "moment"]
theorem sc_Earliest_without : FnScope N_Earliest_without ["self", "moment"] (defScope m_Earliest_without) := ⟨rfl, rfl, rfl, by decide +kernel, rfl, by decide +kernel, by decide +kernel⟩
noncomputable def D_Earliest_without (P : Program) (w : World) (K : PySem.W.Frag) : FF := fDef 2 2 (sSeq (sDrop (fCall (D_check_moment P w K) (fCons (fVar 1) (fCons (fFld (ga K "Earliest") "_shifts" (fVar 0)) fNil))))
      (sSeq (sIfS (fTest (fOp (gEqX false) (fCall gLen (fCons (fFld (ga K "Earliest") "_shifts" (fVar 0)) fNil)) (fC (.int 1)))) sBad sNext)
      (sRet (fFrz (fMake (ga K "Earliest") (D_Earliest___init__ P w K) (fCons (fCall (D_left_out P w K) (fCons (fFld (ga K "Earliest") "_shifts" (fVar 0)) (fCons (fVar 1) fNil))) fNil))))))
theorem fx_Earliest_without (XI : K.In base) (GN : base.Ns mainGlobals mg) (c : obsK K = val0) {fd : FuncData} {f : Addr} (F : Fun K "without" "Earliest.without" m_Earliest_without f fd) : FnX P w K mg base 6 f fd ["self", "moment"] (spP 2 (D_Earliest_without P w K)) :=
    (Fun.pp F sc_Earliest_without (fun cdv A fr s H E hG hr => by
      have hu : A.units + 3 + 64 < cLine := hr.units
      exact (pps_cons (ppq_expr (pp_call (t_check_moment XI GN c) hG (hr.mono (by decide)) (takes_of rfl rfl rfl rfl) rfl (ppa_cons (pp_v 1) (ppa_cons (pp_fld (cl_Earliest c) (na_Earliest__shifts c) (pp_v 0)) ppa_nil))))
      (pps_cons (ppq_if (pt_eqX hu (pp_len' rfl (f_len XI GN c) (ppa_cons (pp_fld (cl_Earliest c) (na_Earliest__shifts c) (pp_v 0)) ppa_nil)) pp_int) (pps_one ppq_never) pps_nil)
      (pps_one (ppq_ret (pp_make (t_Earliest___init__ XI GN c) hG (hr.mono (by decide)) (takes_of rfl rfl rfl rfl) rfl (ppa_cons (pp_call (t_left_out XI GN c) hG (hr.mono (by decide)) (takes_of rfl rfl rfl rfl) rfl (ppa_cons (pp_fld (cl_Earliest c) (na_Earliest__shifts c) (pp_v 0)) (ppa_cons (pp_v 1) ppa_nil))) ppa_nil))))))))
theorem t_Earliest_without (XI : K.In base) (GN : base.Ns mainGlobals mg) (c : obsK K = val0) : DM P w K mg base (ga K "Earliest") "without" 2 6 (D_Earliest_without P w K) := by
  obtain ⟨fd, F⟩ := F_Earliest_without c
  exact ⟨_, fd, _, rfl, (fx_Earliest_without XI GN c F), metB_ok (bMet_Earliest_without c), F.binds (by intro _ _ _ _ _ _ us hl; first | (match us, hl with | [_], _ => rfl) | (match us, hl with | [_, _], _ => rfl) | (match us, hl with | [_, _, _], _ => rfl) | (match us, hl with | [_, _, _, _], _ => rfl) | (match us, hl with | [_, _, _, _, _], _ => rfl) | (match us, hl with | [_, _, _, _, _, _], _ => rfl) | (match us, hl with | [_, _, _, _, _, _, _], _ => rfl) | (match us, hl with | [_, _, _, _, _, _, _, _], _ => rfl) | (match us, hl with | [_, _, _, _, _, _, _, _, _], _ => rfl))⟩
/-! held_by -/
def N_held_by : List Str := ["rule"]
theorem sc_held_by : FnScope N_held_by ["rule"] (defScope s_held_by) := ⟨rfl, rfl, rfl, by decide +kernel, rfl, by decide +kernel, by decide +kernel⟩
noncomputable def D_held_by (P : Program) (w : World) (K : PySem.W.Frag) : FF := fDef 1 1 (sRet (fIf (fTest (fOp (fInO (ga K "Earliest") false (D_Earliest___contains__ P w K)) (fProp (ga K "Rule") (D_Rule_moment P w K) (fVar 0)) (fProp (ga K "Rule") (D_Rule_earliest P w K) (fVar 0)))) (fMeth (ga K "Earliest") "without" (D_Earliest_without P w K) (fProp (ga K "Rule") (D_Rule_earliest P w K) (fVar 0)) (fCons (fProp (ga K "Rule") (D_Rule_moment P w K) (fVar 0)) fNil)) (fProp (ga K "Rule") (D_Rule_earliest P w K) (fVar 0))))
theorem fx_held_by (XI : K.In base) (GN : base.Ns mainGlobals mg) (c : obsK K = val0) {fd : FuncData} {f : Addr} (F : Fun K "held_by" "held_by" s_held_by f fd) : FnX P w K mg base 7 f fd ["rule"] (spP 1 (D_held_by P w K)) :=
    (Fun.pp F sc_held_by (fun cdv A fr s H E hG hr => by
      have hu : A.units + 3 + 64 < cLine := hr.units
      exact (pps_one (ppq_ret (pp_if (pt_inO (t_Earliest___contains__ XI GN c) hG (hr.mono (by decide)) (pp_prop (t_Rule_moment XI GN c) (cl_Rule c) hG (hr.mono (by decide)) (pp_v 0)) (pp_prop (t_Rule_earliest XI GN c) (cl_Rule c) hG (hr.mono (by decide)) (pp_v 0))) (pp_meth (t_Earliest_without XI GN c) (cl_Earliest c) hG (hr.mono (by decide)) (takes_of rfl rfl rfl rfl) (pp_prop (t_Rule_earliest XI GN c) (cl_Rule c) hG (hr.mono (by decide)) (pp_v 0)) (ppa_cons (pp_prop (t_Rule_moment XI GN c) (cl_Rule c) hG (hr.mono (by decide)) (pp_v 0)) ppa_nil)) (pp_prop (t_Rule_earliest XI GN c) (cl_Rule c) hG (hr.mono (by decide)) (pp_v 0)))))))
theorem t_held_by (XI : K.In base) (GN : base.Ns mainGlobals mg) (c : obsK K = val0) : DP P w K mg base "held_by" 1 7 (D_held_by P w K) := by
  obtain ⟨fd, F⟩ := F_held_by c
  exact ⟨_, fd, _, rfl, (fx_held_by XI GN c F), g_held_by XI GN c, F.kp, F.binds (by intro _ _ _ _ _ _ us hl; first | (match us, hl with | [_], _ => rfl) | (match us, hl with | [_, _], _ => rfl) | (match us, hl with | [_, _, _], _ => rfl) | (match us, hl with | [_, _, _, _], _ => rfl) | (match us, hl with | [_, _, _, _, _], _ => rfl) | (match us, hl with | [_, _, _, _, _, _], _ => rfl) | (match us, hl with | [_, _, _, _, _, _, _], _ => rfl) | (match us, hl with | [_, _, _, _, _, _, _, _], _ => rfl) | (match us, hl with | [_, _, _, _, _, _, _, _, _], _ => rfl))⟩
/-! holds -/
def N_holds : List Str := ["book", "moment", "rules", "position", "rule"]
theorem sc_holds : FnScope N_holds ["book", "moment"] (defScope s_holds) := ⟨rfl, rfl, rfl, by decide +kernel, rfl, by decide +kernel, by decide +kernel⟩
noncomputable def D_holds (P : Program) (w : World) (K : PySem.W.Frag) : FF := fDef 2 5 (sSeq (sSet 2 (fLc (iAny (fMeth (ga K "Book") "rules_of" (D_Book_rules_of P w K) (fVar 0) (fCons (fVar 1) fNil))) (tgName 3) fYes (fOp (fIxO (ga K "Book") (D_Book___getitem__ P w K)) (fVar 0) (fVar 3)) [3]))
      (sSeq (sIfS (fTest (fCall (fBls fun bs => bs.any id) (fCons (fLc (iAny (fVar 2)) (tgName 4) fYes (fProp (ga K "Rule") (D_Rule_is_never P w K) (fVar 4)) [4]) fNil))) (sRet (fC .non)) sNext)
      (sRet (fLc (iAny (fVar 2)) (tgName 4) (fNotT (fTest (fProp (ga K "Rule") (D_Rule_is_always P w K) (fVar 4)))) (fCall (D_held_by P w K) (fCons (fVar 4) fNil)) [4]))))
theorem fx_holds (XI : K.In base) (GN : base.Ns mainGlobals mg) (c : obsK K = val0) {fd : FuncData} {f : Addr} (F : Fun K "holds" "holds" s_holds f fd) : FnX P w K mg base 8 f fd ["book", "moment"] (spP 2 (D_holds P w K)) :=
    (Fun.pp F sc_holds (fun cdv A fr s H E hG hr => by
      have hu : A.units + 3 + 64 < cLine := hr.units
      exact (pps_cons (ppq_setLc (i := 2) (own := [("position", 3)]) (g := (gName 3)) (by rfl) sc_holds.nd rfl rfl (sw_true rfl rfl rfl (by decide +kernel)) (ppi_any (pp_meth (t_Book_rules_of XI GN c) (cl_Book c) hG (hr.mono (by decide)) (takes_of rfl rfl rfl rfl) (pp_v 0) (ppa_cons (pp_v 1) ppa_nil))) (blkOk_by (own := [("position", 3)]) (by kernel_rfl)) (fun _ _ _ _ _ => (pg_name (i := 3) sc_holds.nd rfl (by first | exact Or.inl rfl | exact Or.inr rfl))) (ad_gName (i := 3) (by intro l e; cases e <;> decide)) (fun _ _ _ _ _ => ppts_nil) (fun _ _ _ _ _ => (pp_ixO (t_Book___getitem__ XI GN c) (fi_Book c) hG (hr.mono (by decide)) (pp_v 0) (pp_v 3))))
      (pps_cons (ppq_if (pt_b (pp_any rfl rfl (f_any XI GN c) (ppa_cons (pp_lc (own := [("rule", 4)]) (g := (gName 4)) rfl sc_holds.nd (ppi_any (pp_v 2)) (blkOk_by (own := [("rule", 4)]) (by kernel_rfl)) (fun _ _ _ _ _ => (pg_name (i := 4) sc_holds.nd rfl (by first | exact Or.inl rfl | exact Or.inr rfl))) (ad_gName (i := 4) (by intro l e; cases e <;> decide)) (fun _ _ _ _ _ => ppts_nil) (fun _ _ _ _ _ => (pp_prop (t_Rule_is_never XI GN c) (cl_Rule c) hG (hr.mono (by decide)) (pp_v 4)))) ppa_nil))) (pps_one (ppq_ret pp_non)) pps_nil)
      (pps_one (ppq_ret (pp_lc (own := [("rule", 4)]) (g := (gName 4)) rfl sc_holds.nd (ppi_any (pp_v 2)) (blkOk_by (own := [("rule", 4)]) (by kernel_rfl)) (fun _ _ _ _ _ => (pg_name (i := 4) sc_holds.nd rfl (by first | exact Or.inl rfl | exact Or.inr rfl))) (ad_gName (i := 4) (by intro l e; cases e <;> decide)) (fun _ _ _ _ _ => (ppts_one (ptt_not (pt_b (pp_prop (t_Rule_is_always XI GN c) (cl_Rule c) hG (hr.mono (by decide)) (pp_v 4)))))) (fun _ _ _ _ _ => (pp_call (t_held_by XI GN c) hG (hr.mono (by decide)) takes0 rfl (ppa_cons (pp_v 4) ppa_nil))))))))))
theorem t_holds (XI : K.In base) (GN : base.Ns mainGlobals mg) (c : obsK K = val0) : DP P w K mg base "holds" 2 8 (D_holds P w K) := by
  obtain ⟨fd, F⟩ := F_holds c
  exact ⟨_, fd, _, rfl, (fx_holds XI GN c F), g_holds XI GN c, F.kp, F.binds (by intro _ _ _ _ _ _ us hl; first | (match us, hl with | [_], _ => rfl) | (match us, hl with | [_, _], _ => rfl) | (match us, hl with | [_, _, _], _ => rfl) | (match us, hl with | [_, _, _, _], _ => rfl) | (match us, hl with | [_, _, _, _, _], _ => rfl) | (match us, hl with | [_, _, _, _, _, _], _ => rfl) | (match us, hl with | [_, _, _, _, _, _, _], _ => rfl) | (match us, hl with | [_, _, _, _, _, _, _, _], _ => rfl) | (match us, hl with | [_, _, _, _, _, _, _, _, _], _ => rfl))⟩
/-! Book.moments -/
def N_Book_moments : List Str := ["self"]
theorem sc_Book_moments : FnScope N_Book_moments ["self"] (defScope m_Book_moments) := ⟨rfl, rfl, rfl, by decide +kernel, rfl, by decide +kernel, by decide +kernel⟩
noncomputable def D_Book_moments (P : Program) (w : World) (K : PySem.W.Frag) : FF := fDef 1 1 (sRet (fFld (ga K "Book") "_moments" (fVar 0)))
theorem fx_Book_moments (XI : K.In base) (GN : base.Ns mainGlobals mg) (c : obsK K = val0) {fd : FuncData} {f : Addr} (F : Fun K "moments" "Book.moments" m_Book_moments f fd) : FnX P w K mg base 1 f fd ["self"] (spP 1 (D_Book_moments P w K)) :=
    (Fun.pp F sc_Book_moments (fun cdv A fr s H E hG hr => by
      have hu : A.units + 3 + 64 < cLine := hr.units
      exact (pps_one (ppq_ret (pp_fld (cl_Book c) (na_Book__moments c) (pp_v 0))))))
theorem t_Book_moments (XI : K.In base) (GN : base.Ns mainGlobals mg) (c : obsK K = val0) : DPr P w K mg base (ga K "Book") "moments" 1 (D_Book_moments P w K) := by
  obtain ⟨fd, F⟩ := F_Book_moments c
  exact ⟨_, _, fd, _, (fx_Book_moments XI GN c F), propB_ok (bProp_Book_moments c), F.binds (by intro _ _ _ _ _ _ us hl; first | (match us, hl with | [_], _ => rfl) | (match us, hl with | [_, _], _ => rfl) | (match us, hl with | [_, _, _], _ => rfl) | (match us, hl with | [_, _, _, _], _ => rfl) | (match us, hl with | [_, _, _, _, _], _ => rfl) | (match us, hl with | [_, _, _, _, _, _], _ => rfl) | (match us, hl with | [_, _, _, _, _, _, _], _ => rfl) | (match us, hl with | [_, _, _, _, _, _, _, _], _ => rfl) | (match us, hl with | [_, _, _, _, _, _, _, _, _], _ => rfl))⟩
/-! check_shift -/
def N_check_shift : List Str := ["value"]
theorem sc_check_shift : FnScope N_check_shift ["value"] (defScope s_check_shift) := ⟨rfl, rfl, rfl, by decide +kernel, rfl, by decide +kernel, by decide +kernel⟩
noncomputable def D_check_shift (P : Program) (w : World) (K : PySem.W.Frag) : FF := fDef 1 1 (sIfS (fNotT (fTest (fCall (D_is_integer P w K) (fCons (fVar 0) fNil)))) sBad sNext)
theorem fx_check_shift (XI : K.In base) (GN : base.Ns mainGlobals mg) (c : obsK K = val0) {fd : FuncData} {f : Addr} (F : Fun K "check_shift" "check_shift" s_check_shift f fd) : FnX P w K mg base 2 f fd ["value"] (spP 1 (D_check_shift P w K)) :=
    (Fun.pp F sc_check_shift (fun cdv A fr s H E hG hr => by
      have hu : A.units + 3 + 64 < cLine := hr.units
      exact (pps_one (ppq_if (ptt_not (pt_b (pp_call (t_is_integer XI GN c) hG (hr.mono (by decide)) (takes_of rfl rfl rfl rfl) rfl (ppa_cons (pp_v 0) ppa_nil)))) (pps_one ppq_never) pps_nil))))
theorem t_check_shift (XI : K.In base) (GN : base.Ns mainGlobals mg) (c : obsK K = val0) : DP P w K mg base "check_shift" 1 2 (D_check_shift P w K) := by
  obtain ⟨fd, F⟩ := F_check_shift c
  exact ⟨_, fd, _, rfl, (fx_check_shift XI GN c F), g_check_shift XI GN c, F.kp, F.binds (by intro _ _ _ _ _ _ us hl; first | (match us, hl with | [_], _ => rfl) | (match us, hl with | [_, _], _ => rfl) | (match us, hl with | [_, _, _], _ => rfl) | (match us, hl with | [_, _, _, _], _ => rfl) | (match us, hl with | [_, _, _, _, _], _ => rfl) | (match us, hl with | [_, _, _, _, _, _], _ => rfl) | (match us, hl with | [_, _, _, _, _, _, _], _ => rfl) | (match us, hl with | [_, _, _, _, _, _, _, _], _ => rfl) | (match us, hl with | [_, _, _, _, _, _, _, _, _], _ => rfl))⟩
/-! Term.__init__ -/
def N_Term___init__ : List Str := ["self", "moment", "shift"]
theorem sc_Term___init__ : FnScope N_Term___init__ ["self", "moment", "shift"] (defScope m_Term___init__) := ⟨rfl, rfl, rfl, by decide +kernel, rfl, by decide +kernel, by decide +kernel⟩
noncomputable def D_Term___init__ (P : Program) (w : World) (K : PySem.W.Frag) : FF := fDef 3 3 (sSeq (sIfS (fNotT (fTest (fCall (D_is_name P w K) (fCons (fVar 1) fNil)))) sBad sNext)
      (sSeq (sDrop (fCall (D_check_shift P w K) (fCons (fVar 2) fNil)))
      (sSeq (sFldP (ga K "Term") "_moment" (fVar 0) (fVar 1))
      (sFldP (ga K "Term") "_shift" (fVar 0) (fVar 2)))))
theorem fx_Term___init__ (XI : K.In base) (GN : base.Ns mainGlobals mg) (c : obsK K = val0) {dvs : List V} {fd : FuncData} {f : Addr} (F : FunD K "__init__" "Term.__init__" (defArgs m_Term___init__) (defBody m_Term___init__) (defScope m_Term___init__) dvs [] f fd) : FnX P w K mg base 3 f fd ["self", "moment", "shift"] (spP 3 (D_Term___init__ P w K)) :=
    (FunD.pp F sc_Term___init__ (fun cdv A fr s H E hG hr => by
      have hu : A.units + 3 + 64 < cLine := hr.units
      exact (pps_cons (ppq_if (ptt_not (pt_b (pp_call (t_is_name XI GN c) hG (hr.mono (by decide)) (takes_of rfl rfl rfl rfl) rfl (ppa_cons (pp_v 1) ppa_nil)))) (pps_one ppq_never) pps_nil)
      (pps_cons (ppq_expr (pp_call (t_check_shift XI GN c) hG (hr.mono (by decide)) (takes_of rfl rfl rfl rfl) rfl (ppa_cons (pp_v 2) ppa_nil)))
      (pps_cons (ppq_fld (cl_Term c) (na_Term__moment c) (pp_v 0) (pp_v 1))
      (pps_one (ppq_fld (cl_Term c) (na_Term__shift c) (pp_v 0) (pp_v 2))))))))
theorem t_Term___init__ (XI : K.In base) (GN : base.Ns mainGlobals mg) (c : obsK K = val0) : DC P w K mg base "Term" (ga K "Term") 3 3 (D_Term___init__ P w K) := by
  obtain ⟨fd, F⟩ := F_Term___init__ c
  exact ⟨⟨_, fd, _, rfl, (fx_Term___init__ XI GN c F), mkB_ok (bMk_Term c), binds_full F (by simp) (fun T kV doc pm an cdv ct us its l1 l2 => by
    match us, its, l1, l2 with
    | [_, _, _], [_], _, _ => exact ⟨_, rfl, rfl⟩)⟩, g_Term XI GN c⟩
def dv1_Term___init__ : List Pu.P := [(.int 0)]
theorem td1_Term___init__ (XI : K.In base) (GN : base.Ns mainGlobals mg) (c : obsK K = val0) : DCd P w K mg base "Term" (ga K "Term") 3 3 dv1_Term___init__ (D_Term___init__ P w K) := by
  obtain ⟨fd, F⟩ := F_Term___init__ c
  obtain ⟨ds, vv, bb⟩ := FunD.binds1 (ps := ["self", "moment", "shift"]) F 2 0 (by simp) rfl (fun T kV doc pm an cdv ct us its l1 l2 => by
    match us, its, l1, l2 with
    | [_, _], [_], _, _ => exact ⟨_, rfl, rfl⟩)
  exact ⟨⟨_, fd, _, ds, _, rfl, (fx_Term___init__ XI GN c F), mkB_ok (bMk_Term c), vv, bb, fun D H => (.cons .int .nil)⟩, g_Term XI GN c⟩
/-! Term.__add__ -/
def N_Term___add__ : List Str := ["self", "other"]
theorem sc_Term___add__ : FnScope N_Term___add__ ["self", "other"] (defScope m_Term___add__) := ⟨rfl, rfl, rfl, by decide +kernel, rfl, by decide +kernel, by decide +kernel⟩
noncomputable def D_Term___add__ (P : Program) (w : World) (K : PySem.W.Frag) : FF := fDef 2 2 (sSeq (sDrop (fCall (D_check_shift P w K) (fCons (fVar 1) fNil)))
      (sRet (fFrz (fMake (ga K "Term") (D_Term___init__ P w K) (fCons (fFld (ga K "Term") "_moment" (fVar 0)) (fCons (fOp gAdd (fFld (ga K "Term") "_shift" (fVar 0)) (fVar 1)) fNil))))))
theorem fx_Term___add__ (XI : K.In base) (GN : base.Ns mainGlobals mg) (c : obsK K = val0) {fd : FuncData} {f : Addr} (F : Fun K "__add__" "Term.__add__" m_Term___add__ f fd) : FnX P w K mg base 5 f fd ["self", "other"] (spP 2 (D_Term___add__ P w K)) :=
    (Fun.pp F sc_Term___add__ (fun cdv A fr s H E hG hr => by
      have hu : A.units + 3 + 64 < cLine := hr.units
      exact (pps_cons (ppq_expr (pp_call (t_check_shift XI GN c) hG (hr.mono (by decide)) (takes_of rfl rfl rfl rfl) rfl (ppa_cons (pp_v 1) ppa_nil)))
      (pps_one (ppq_ret (pp_make (t_Term___init__ XI GN c) hG (hr.mono (by decide)) (takes_of rfl rfl rfl rfl) rfl (ppa_cons (pp_fld (cl_Term c) (na_Term__moment c) (pp_v 0)) (ppa_cons (pp_add (pp_fld (cl_Term c) (na_Term__shift c) (pp_v 0)) (pp_v 1)) ppa_nil))))))))
theorem t_Term___add__ (XI : K.In base) (GN : base.Ns mainGlobals mg) (c : obsK K = val0) : DS P w K mg base (ga K "Term") (PySem.dunder "add") 2 5 (D_Term___add__ P w K) := by
  obtain ⟨fd, F⟩ := F_Term___add__ c
  exact ⟨_, fd, _, rfl, (fx_Term___add__ XI GN c F), mB_ok (bSp_Term___add__ c), F.binds (by intro _ _ _ _ _ _ us hl; first | (match us, hl with | [_], _ => rfl) | (match us, hl with | [_, _], _ => rfl) | (match us, hl with | [_, _, _], _ => rfl) | (match us, hl with | [_, _, _, _], _ => rfl) | (match us, hl with | [_, _, _, _, _], _ => rfl) | (match us, hl with | [_, _, _, _, _, _], _ => rfl) | (match us, hl with | [_, _, _, _, _, _, _], _ => rfl) | (match us, hl with | [_, _, _, _, _, _, _, _], _ => rfl) | (match us, hl with | [_, _, _, _, _, _, _, _, _], _ => rfl))⟩
end
end Pu
set_option Elab.async false
set_option linter.all false
set_option maxRecDepth 100000
set_option maxHeartbeats 8000000
namespace Pu
open L2 PySem PySem.Spec PyProof.Rows E10
open He (ga ma)
section
variable {P : Program} {w : World} {K : PySem.W.Frag} {mg : Str → Option Value} {base : Heap}
/-! Term.shifts -/
def N_Term_shifts : List Str := ["self"]
theorem sc_Term_shifts : FnScope N_Term_shifts ["self"] (defScope m_Term_shifts) := ⟨rfl, rfl, rfl, by decide +kernel, rfl, by decide +kernel, by decide +kernel⟩
noncomputable def D_Term_shifts (P : Program) (w : World) (K : PySem.W.Frag) : FF := fDef 1 1 (sRet (fDisp .val (fDCons (fFld (ga K "Term") "_moment" (fVar 0)) (fFld (ga K "Term") "_shift" (fVar 0)) fDNil)))
theorem fx_Term_shifts (XI : K.In base) (GN : base.Ns mainGlobals mg) (c : obsK K = val0) {fd : FuncData} {f : Addr} (F : Fun K "shifts" "Term.shifts" m_Term_shifts f fd) : FnX P w K mg base 1 f fd ["self"] (spP 1 (D_Term_shifts P w K)) :=
    (Fun.pp F sc_Term_shifts (fun cdv A fr s H E hG hr => by
      have hu : A.units + 3 + 64 < cLine := hr.units
      exact (pps_one (ppq_ret (pp_disp .val (ppd_cons (pp_fld (cl_Term c) (na_Term__moment c) (pp_v 0)) (pp_fld (cl_Term c) (na_Term__shift c) (pp_v 0)) ppd_nil))))))
theorem t_Term_shifts (XI : K.In base) (GN : base.Ns mainGlobals mg) (c : obsK K = val0) : DM P w K mg base (ga K "Term") "shifts" 1 1 (D_Term_shifts P w K) := by
  obtain ⟨fd, F⟩ := F_Term_shifts c
  exact ⟨_, fd, _, rfl, (fx_Term_shifts XI GN c F), metB_ok (bMet_Term_shifts c), F.binds (by intro _ _ _ _ _ _ us hl; first | (match us, hl with | [_], _ => rfl) | (match us, hl with | [_, _], _ => rfl) | (match us, hl with | [_, _, _], _ => rfl) | (match us, hl with | [_, _, _, _], _ => rfl) | (match us, hl with | [_, _, _, _, _], _ => rfl) | (match us, hl with | [_, _, _, _, _, _], _ => rfl) | (match us, hl with | [_, _, _, _, _, _, _], _ => rfl) | (match us, hl with | [_, _, _, _, _, _, _, _], _ => rfl) | (match us, hl with | [_, _, _, _, _, _, _, _, _], _ => rfl))⟩
/-! Book.rules -/
def N_Book_rules : List Str := ["self"]
theorem sc_Book_rules : FnScope N_Book_rules ["self"] (defScope m_Book_rules) := ⟨rfl, rfl, rfl, by decide +kernel, rfl, by decide +kernel, by decide +kernel⟩
noncomputable def D_Book_rules (P : Program) (w : World) (K : PySem.W.Frag) : FF := fDef 1 1 (sRet (fCall (gList .val) (fCons (fFld (ga K "Book") "_rules" (fVar 0)) fNil)))
theorem fx_Book_rules (XI : K.In base) (GN : base.Ns mainGlobals mg) (c : obsK K = val0) {fd : FuncData} {f : Addr} (F : Fun K "rules" "Book.rules" m_Book_rules f fd) : FnX P w K mg base 1 f fd ["self"] (spP 1 (D_Book_rules P w K)) :=
    (Fun.pp F sc_Book_rules (fun cdv A fr s H E hG hr => by
      have hu : A.units + 3 + 64 < cLine := hr.units
      exact (pps_one (ppq_ret (pp_list .val rfl rfl (f_list XI GN c) (ppa_cons (pp_fld (cl_Book c) (na_Book__rules c) (pp_v 0)) ppa_nil))))))
theorem t_Book_rules (XI : K.In base) (GN : base.Ns mainGlobals mg) (c : obsK K = val0) : DM P w K mg base (ga K "Book") "rules" 1 1 (D_Book_rules P w K) := by
  obtain ⟨fd, F⟩ := F_Book_rules c
  exact ⟨_, fd, _, rfl, (fx_Book_rules XI GN c F), metB_ok (bMet_Book_rules c), F.binds (by intro _ _ _ _ _ _ us hl; first | (match us, hl with | [_], _ => rfl) | (match us, hl with | [_, _], _ => rfl) | (match us, hl with | [_, _, _], _ => rfl) | (match us, hl with | [_, _, _, _], _ => rfl) | (match us, hl with | [_, _, _, _, _], _ => rfl) | (match us, hl with | [_, _, _, _, _, _], _ => rfl) | (match us, hl with | [_, _, _, _, _, _, _], _ => rfl) | (match us, hl with | [_, _, _, _, _, _, _, _], _ => rfl) | (match us, hl with | [_, _, _, _, _, _, _, _, _], _ => rfl))⟩
/-! is_replaced -/
def N_is_replaced : List Str := ["rule", "moment"]
theorem sc_is_replaced : FnScope N_is_replaced ["rule", "moment"] (defScope s_is_replaced) := ⟨rfl, rfl, rfl, by decide +kernel, rfl, by decide +kernel, by decide +kernel⟩
noncomputable def D_is_replaced (P : Program) (w : World) (K : PySem.W.Frag) : FF := fDef 2 2 (sRet (fAndV (fOp (gEqX true) (fProp (ga K "Rule") (D_Rule_moment P w K) (fVar 0)) (fVar 1)) (fOp (fInO (ga K "Earliest") false (D_Earliest___contains__ P w K)) (fVar 1) (fProp (ga K "Rule") (D_Rule_earliest P w K) (fVar 0)))))
theorem fx_is_replaced (XI : K.In base) (GN : base.Ns mainGlobals mg) (c : obsK K = val0) {fd : FuncData} {f : Addr} (F : Fun K "is_replaced" "is_replaced" s_is_replaced f fd) : FnX P w K mg base 3 f fd ["rule", "moment"] (spP 2 (D_is_replaced P w K)) :=
    (Fun.pp F sc_is_replaced (fun cdv A fr s H E hG hr => by
      have hu : A.units + 3 + 64 < cLine := hr.units
      exact (pps_one (ppq_ret (pp_and (pp_neX hu (pp_prop (t_Rule_moment XI GN c) (cl_Rule c) hG (hr.mono (by decide)) (pp_v 0)) (pp_v 1)) (pp_one (pp_inO (t_Earliest___contains__ XI GN c) hG (hr.mono (by decide)) (pp_v 1) (pp_prop (t_Rule_earliest XI GN c) (cl_Rule c) hG (hr.mono (by decide)) (pp_v 0)))))))))
theorem t_is_replaced (XI : K.In base) (GN : base.Ns mainGlobals mg) (c : obsK K = val0) : DP P w K mg base "is_replaced" 2 3 (D_is_replaced P w K) := by
  obtain ⟨fd, F⟩ := F_is_replaced c
  exact ⟨_, fd, _, rfl, (fx_is_replaced XI GN c F), g_is_replaced XI GN c, F.kp, F.binds (by intro _ _ _ _ _ _ us hl; first | (match us, hl with | [_], _ => rfl) | (match us, hl with | [_, _], _ => rfl) | (match us, hl with | [_, _, _], _ => rfl) | (match us, hl with | [_, _, _, _], _ => rfl) | (match us, hl with | [_, _, _, _, _], _ => rfl) | (match us, hl with | [_, _, _, _, _, _], _ => rfl) | (match us, hl with | [_, _, _, _, _, _, _], _ => rfl) | (match us, hl with | [_, _, _, _, _, _, _, _], _ => rfl) | (match us, hl with | [_, _, _, _, _, _, _, _, _], _ => rfl))⟩
/-! check_many -/
def N_check_many : List Str := ["book", "moment", "found", "staying", "replaced", "rule"]
theorem sc_check_many : FnScope N_check_many ["book", "moment", "found"] (defScope s_check_many) := ⟨rfl, rfl, rfl, by decide +kernel, rfl, by decide +kernel, by decide +kernel⟩
noncomputable def D_check_many (P : Program) (w : World) (K : PySem.W.Frag) : FF := fDef 3 6 (sSeq (sSet 3 (fLc (iAny (fMeth (ga K "Book") "rules" (D_Book_rules P w K) (fVar 0) fNil)) (tgName 5) (fTest (fOp (gIn true) (fVar 1) (fProp (ga K "Rule") (D_Rule_moments P w K) (fVar 5)))) (fVar 5) [5]))
      (sSeq (sSet 4 (fLc (iAny (fMeth (ga K "Book") "rules" (D_Book_rules P w K) (fVar 0) fNil)) (tgName 5) (fTest (fCall (D_is_replaced P w K) (fCons (fVar 5) (fCons (fVar 1) fNil)))) (fVar 5) [5]))
      (sIfS (fTest (fOp gGt (fOp gAdd (fCall gLen (fCons (fVar 3) fNil)) (fOp gMul (fCall gLen (fCons (fVar 4) fNil)) (fCall gLen (fCons (fVar 2) fNil)))) (fC (.int 100)))) sBad sNext)))
theorem fx_check_many (XI : K.In base) (GN : base.Ns mainGlobals mg) (c : obsK K = val0) {fd : FuncData} {f : Addr} (F : Fun K "check_many" "check_many" s_check_many f fd) : FnX P w K mg base 5 f fd ["book", "moment", "found"] (spP 3 (D_check_many P w K)) :=
    (Fun.pp F sc_check_many (fun cdv A fr s H E hG hr => by
      have hu : A.units + 3 + 64 < cLine := hr.units
      exact (pps_cons (ppq_setLc (i := 3) (own := [("rule", 5)]) (g := (gName 5)) (by rfl) sc_check_many.nd rfl rfl (sw_true rfl rfl rfl (by decide +kernel)) (ppi_any (pp_meth0 (t_Book_rules XI GN c) (cl_Book c) hG (hr.mono (by decide)) (takes_of rfl rfl rfl rfl) (pp_v 0))) (blkOk_by (own := [("rule", 5)]) (by kernel_rfl)) (fun _ _ _ _ _ => (pg_name (i := 5) sc_check_many.nd rfl (by first | exact Or.inl rfl | exact Or.inr rfl))) (ad_gName (i := 5) (by intro l e; cases e <;> decide)) (fun _ _ _ _ _ => (ppts_one (pt_notIn (Nat.lt_of_le_of_lt (Nat.add_le_add_left (by decide) _) hu) (pp_v 1) (pp_prop (t_Rule_moments XI GN c) (cl_Rule c) hG (hr.mono (by decide)) (pp_v 5))))) (fun _ _ _ _ _ => (pp_v 5)))
      (pps_cons (ppq_setLc (i := 4) (own := [("rule", 5)]) (g := (gName 5)) (by rfl) sc_check_many.nd rfl rfl (sw_true rfl rfl rfl (by decide +kernel)) (ppi_any (pp_meth0 (t_Book_rules XI GN c) (cl_Book c) hG (hr.mono (by decide)) (takes_of rfl rfl rfl rfl) (pp_v 0))) (blkOk_by (own := [("rule", 5)]) (by kernel_rfl)) (fun _ _ _ _ _ => (pg_name (i := 5) sc_check_many.nd rfl (by first | exact Or.inl rfl | exact Or.inr rfl))) (ad_gName (i := 5) (by intro l e; cases e <;> decide)) (fun _ _ _ _ _ => (ppts_one (pt_b (pp_call (t_is_replaced XI GN c) hG (hr.mono (by decide)) takes0 rfl (ppa_cons (pp_v 5) (ppa_cons (pp_v 1) ppa_nil)))))) (fun _ _ _ _ _ => (pp_v 5)))
      (pps_one (ppq_if (pt_gt (pp_add (pp_len' rfl (f_len XI GN c) (ppa_cons (pp_v 3) ppa_nil)) (pp_mul (pp_len' rfl (f_len XI GN c) (ppa_cons (pp_v 4) ppa_nil)) (pp_len' rfl (f_len XI GN c) (ppa_cons (pp_v 2) ppa_nil)))) (pp_ccst rfl (g_Book XI GN c) (cc_Book_MOST_RULES c))) (pps_one ppq_never) pps_nil))))))
theorem t_check_many (XI : K.In base) (GN : base.Ns mainGlobals mg) (c : obsK K = val0) : DP P w K mg base "check_many" 3 5 (D_check_many P w K) := by
  obtain ⟨fd, F⟩ := F_check_many c
  exact ⟨_, fd, _, rfl, (fx_check_many XI GN c F), g_check_many XI GN c, F.kp, F.binds (by intro _ _ _ _ _ _ us hl; first | (match us, hl with | [_], _ => rfl) | (match us, hl with | [_, _], _ => rfl) | (match us, hl with | [_, _, _], _ => rfl) | (match us, hl with | [_, _, _, _], _ => rfl) | (match us, hl with | [_, _, _, _, _], _ => rfl) | (match us, hl with | [_, _, _, _, _, _], _ => rfl) | (match us, hl with | [_, _, _, _, _, _, _], _ => rfl) | (match us, hl with | [_, _, _, _, _, _, _, _], _ => rfl) | (match us, hl with | [_, _, _, _, _, _, _, _, _], _ => rfl))⟩
/-! moved -/
def N_moved : List Str := ["table", "number", "moment"]
theorem sc_moved : FnScope N_moved ["table", "number"] (defScope s_moved) := ⟨rfl, rfl, rfl, by decide +kernel, rfl, by decide +kernel, by decide +kernel⟩
noncomputable def D_moved (P : Program) (w : World) (K : PySem.W.Frag) : FF := fDef 2 3 (sRet (fDc (iAny (fVar 0)) (tgName 2) fYes (fVar 2) (fOp gAdd (fOp gIx (fVar 0) (fVar 2)) (fVar 1)) [2]))
theorem fx_moved (XI : K.In base) (GN : base.Ns mainGlobals mg) (c : obsK K = val0) {fd : FuncData} {f : Addr} (F : Fun K "moved" "moved" s_moved f fd) : FnX P w K mg base 1 f fd ["table", "number"] (spP 2 (D_moved P w K)) :=
    (Fun.pp F sc_moved (fun cdv A fr s H E hG hr => by
      have hu : A.units + 3 + 64 < cLine := hr.units
      exact (pps_one (ppq_ret (pp_dc (own := [("moment", 2)]) (g := (gName 2)) rfl sc_moved.nd (ppi_any (pp_v 0)) (blkOk_by (own := [("moment", 2)]) (by kernel_rfl)) (fun _ _ _ _ _ => (pg_name (i := 2) sc_moved.nd rfl (by first | exact Or.inl rfl | exact Or.inr rfl))) (ad_gName (i := 2) (by intro l e; cases e <;> decide)) (fun _ _ _ _ _ => ppts_nil) (fun _ _ _ _ _ => (pp_v 2)) (fun _ _ _ _ _ => (pp_add (pp_idx (Nat.lt_of_le_of_lt (Nat.add_le_add_left (by decide) _) hu) (pp_v 0) (pp_v 2)) (pp_v 1))))))))
theorem t_moved (XI : K.In base) (GN : base.Ns mainGlobals mg) (c : obsK K = val0) : DP P w K mg base "moved" 2 1 (D_moved P w K) := by
  obtain ⟨fd, F⟩ := F_moved c
  exact ⟨_, fd, _, rfl, (fx_moved XI GN c F), g_moved XI GN c, F.kp, F.binds (by intro _ _ _ _ _ _ us hl; first | (match us, hl with | [_], _ => rfl) | (match us, hl with | [_, _], _ => rfl) | (match us, hl with | [_, _, _], _ => rfl) | (match us, hl with | [_, _, _, _], _ => rfl) | (match us, hl with | [_, _, _, _, _], _ => rfl) | (match us, hl with | [_, _, _, _, _, _], _ => rfl) | (match us, hl with | [_, _, _, _, _, _, _], _ => rfl) | (match us, hl with | [_, _, _, _, _, _, _, _], _ => rfl) | (match us, hl with | [_, _, _, _, _, _, _, _, _], _ => rfl))⟩
/-! least_of -/
def N_least_of : List Str := ["one", "other", "moments", "moment", "table"]
theorem sc_least_of : FnScope N_least_of ["one", "other"] (defScope s_least_of) := ⟨rfl, rfl, rfl, by decide +kernel, rfl, by decide +kernel, by decide +kernel⟩
noncomputable def D_least_of (P : Program) (w : World) (K : PySem.W.Frag) : FF := fDef 2 5 (sSeq (sSet 2 (fCall (gSort' (SetTO P w)) (fCons (fOp (gUnion (SetTO P w)) (fCall (gSet (SetTO P w)) (fCons (fVar 0) fNil)) (fCall (gSet (SetTO P w)) (fCons (fVar 1) fNil))) fNil)))
      (sRet (fDc (iAny (fVar 2)) (tgName 3) fYes (fVar 3) (fCall gMin (fCons (fLc (iAny (fSeq .tup (fCons (fVar 0) (fCons (fVar 1) fNil)))) (tgName 4) (fTest (fOp (gIn false) (fVar 3) (fVar 4))) (fOp gIx (fVar 4) (fVar 3)) [4]) fNil)) [3])))
theorem fx_least_of (XI : K.In base) (GN : base.Ns mainGlobals mg) (c : obsK K = val0) {fd : FuncData} {f : Addr} (F : Fun K "least_of" "least_of" s_least_of f fd) : FnX P w K mg base 1 f fd ["one", "other"] (spP 2 (D_least_of P w K)) :=
    (Fun.pp F sc_least_of (fun cdv A fr s H E hG hr => by
      have hu : A.units + 3 + 64 < cLine := hr.units
      exact (pps_cons (ppq_set (i := 2) sc_least_of.nd rfl (Or.inl rfl) (pp_sorted rfl rfl (f_sorted XI GN c) (ppa_cons (pp_borE (pp_set rfl rfl (f_set XI GN c) (ppa_cons (pp_v 0) ppa_nil)) (pp_set rfl rfl (f_set XI GN c) (ppa_cons (pp_v 1) ppa_nil))) ppa_nil)))
      (pps_one (ppq_ret (pp_dc (own := [("moment", 3)]) (g := (gName 3)) rfl sc_least_of.nd (ppi_any (pp_v 2)) (blkOk_by (own := [("moment", 3)]) (by kernel_rfl)) (fun _ _ _ _ _ => (pg_name (i := 3) sc_least_of.nd rfl (by first | exact Or.inl rfl | exact Or.inr rfl))) (ad_gName (i := 3) (by intro l e; cases e <;> decide)) (fun _ _ _ _ _ => ppts_nil) (fun _ _ _ _ _ => (pp_v 3)) (fun _ _ _ _ _ => (pp_min rfl rfl (f_min XI GN c) (ppa_cons (pp_lc (own := [("table", 4)]) (g := (gName 4)) rfl sc_least_of.nd (ppi_any (pp_tup (ppa_cons (pp_v 0) (ppa_cons (pp_v 1) ppa_nil)))) (blkOk_by (own := [("table", 4)]) (by kernel_rfl)) (fun _ _ _ _ _ => (pg_name (i := 4) sc_least_of.nd rfl (by first | exact Or.inl rfl | exact Or.inr rfl))) (ad_gName (i := 4) (by intro l e; cases e <;> decide)) (fun _ _ _ _ _ => (ppts_one (pt_in (Nat.lt_of_le_of_lt (Nat.add_le_add_left (by decide) _) hu) (pp_v 3) (pp_v 4)))) (fun _ _ _ _ _ => (pp_idx (Nat.lt_of_le_of_lt (Nat.add_le_add_left (by decide) _) hu) (pp_v 4) (pp_v 3)))) ppa_nil)))))))))
theorem t_least_of (XI : K.In base) (GN : base.Ns mainGlobals mg) (c : obsK K = val0) : DP P w K mg base "least_of" 2 1 (D_least_of P w K) := by
  obtain ⟨fd, F⟩ := F_least_of c
  exact ⟨_, fd, _, rfl, (fx_least_of XI GN c F), g_least_of XI GN c, F.kp, F.binds (by intro _ _ _ _ _ _ us hl; first | (match us, hl with | [_], _ => rfl) | (match us, hl with | [_, _], _ => rfl) | (match us, hl with | [_, _, _], _ => rfl) | (match us, hl with | [_, _, _, _], _ => rfl) | (match us, hl with | [_, _, _, _, _], _ => rfl) | (match us, hl with | [_, _, _, _, _, _], _ => rfl) | (match us, hl with | [_, _, _, _, _, _, _], _ => rfl) | (match us, hl with | [_, _, _, _, _, _, _, _], _ => rfl) | (match us, hl with | [_, _, _, _, _, _, _, _, _], _ => rfl))⟩
/-! Earliest.put_in -/
def N_Earliest_put_in : List Str := ["self", "moment", "earliest", "terms"]
theorem sc_Earliest_put_in : FnScope N_Earliest_put_in ["self", "moment", "earliest"] (defScope m_Earliest_put_in) := ⟨rfl, rfl, rfl, by decide +kernel, rfl, by decide +kernel, by decide +kernel⟩
noncomputable def D_Earliest_put_in (P : Program) (w : World) (K : PySem.W.Frag) : FF := fDef 3 4 (sSeq (sDrop (fCall (D_check_moment P w K) (fCons (fVar 1) (fCons (fFld (ga K "Earliest") "_shifts" (fVar 0)) fNil))))
      (sSeq (sSet 3 (fCall (D_moved P w K) (fCons (fMeth (ga K "Earliest") "shifts" (D_Earliest_shifts P w K) (fVar 2) fNil) (fCons (fOp gIx (fFld (ga K "Earliest") "_shifts" (fVar 0)) (fVar 1)) fNil))))
      (sRet (fFrz (fMake (ga K "Earliest") (D_Earliest___init__ P w K) (fCons (fCall (D_least_of P w K) (fCons (fCall (D_left_out P w K) (fCons (fFld (ga K "Earliest") "_shifts" (fVar 0)) (fCons (fVar 1) fNil))) (fCons (fVar 3) fNil))) fNil))))))
theorem fx_Earliest_put_in (XI : K.In base) (GN : base.Ns mainGlobals mg) (c : obsK K = val0) {fd : FuncData} {f : Addr} (F : Fun K "put_in" "Earliest.put_in" m_Earliest_put_in f fd) : FnX P w K mg base 6 f fd ["self", "moment", "earliest"] (spP 3 (D_Earliest_put_in P w K)) :=
    (Fun.pp F sc_Earliest_put_in (fun cdv A fr s H E hG hr => by
      have hu : A.units + 3 + 64 < cLine := hr.units
      exact (pps_cons (ppq_expr (pp_call (t_check_moment XI GN c) hG (hr.mono (by decide)) (takes_of rfl rfl rfl rfl) rfl (ppa_cons (pp_v 1) (ppa_cons (pp_fld (cl_Earliest c) (na_Earliest__shifts c) (pp_v 0)) ppa_nil))))
      (pps_cons (ppq_set (i := 3) sc_Earliest_put_in.nd rfl (Or.inl rfl) (pp_call (t_moved XI GN c) hG (hr.mono (by decide)) (takes_of rfl rfl rfl rfl) rfl (ppa_cons (pp_meth0 (t_Earliest_shifts XI GN c) (cl_Earliest c) hG (hr.mono (by decide)) (takes_of rfl rfl rfl rfl) (pp_v 2)) (ppa_cons (pp_idx (Nat.lt_of_le_of_lt (Nat.add_le_add_left (by decide) _) hu) (pp_fld (cl_Earliest c) (na_Earliest__shifts c) (pp_v 0)) (pp_v 1)) ppa_nil))))
      (pps_one (ppq_ret (pp_make (t_Earliest___init__ XI GN c) hG (hr.mono (by decide)) (takes_of rfl rfl rfl rfl) rfl (ppa_cons (pp_call (t_least_of XI GN c) hG (hr.mono (by decide)) (takes_of rfl rfl rfl rfl) rfl (ppa_cons (pp_call (t_left_out XI GN c) hG (hr.mono (by decide)) (takes_of rfl rfl rfl rfl) rfl (ppa_cons (pp_fld (cl_Earliest c) (na_Earliest__shifts c) (pp_v 0)) (ppa_cons (pp_v 1) ppa_nil))) (ppa_cons (pp_v 3) ppa_nil))) ppa_nil))))))))
theorem t_Earliest_put_in (XI : K.In base) (GN : base.Ns mainGlobals mg) (c : obsK K = val0) : DM P w K mg base (ga K "Earliest") "put_in" 3 6 (D_Earliest_put_in P w K) := by
  obtain ⟨fd, F⟩ := F_Earliest_put_in c
  exact ⟨_, fd, _, rfl, (fx_Earliest_put_in XI GN c F), metB_ok (bMet_Earliest_put_in c), F.binds (by intro _ _ _ _ _ _ us hl; first | (match us, hl with | [_], _ => rfl) | (match us, hl with | [_, _], _ => rfl) | (match us, hl with | [_, _, _], _ => rfl) | (match us, hl with | [_, _, _, _], _ => rfl) | (match us, hl with | [_, _, _, _, _], _ => rfl) | (match us, hl with | [_, _, _, _, _, _], _ => rfl) | (match us, hl with | [_, _, _, _, _, _, _], _ => rfl) | (match us, hl with | [_, _, _, _, _, _, _, _], _ => rfl) | (match us, hl with | [_, _, _, _, _, _, _, _, _], _ => rfl))⟩
/-! _law_told -/
def N__law_told : List Str := ["_law_held", "_law_rule"]
theorem sc__law_told : FnScope N__law_told ["_law_held"] (defScope s__law_told) := ⟨rfl, rfl, rfl, by decide +kernel, rfl, by decide +kernel, by decide +kernel⟩
noncomputable def D__law_told (P : Program) (w : World) (K : PySem.W.Frag) : FF := fDef 1 2 (sRet (fLc (iAny (fMeth (ga K "Book") "rules" (D_Book_rules P w K) (fVar 0) fNil)) (tgName 1) fYes (fSeq .tup (fCons (fProp (ga K "Rule") (D_Rule_moment P w K) (fVar 1)) (fCons (fMeth (ga K "Earliest") "shifts" (D_Earliest_shifts P w K) (fProp (ga K "Rule") (D_Rule_earliest P w K) (fVar 1)) fNil) fNil))) [1]))
theorem fx__law_told (XI : K.In base) (GN : base.Ns mainGlobals mg) (c : obsK K = val0) {fd : FuncData} {f : Addr} (F : Fun K "_law_told" "_law_told" s__law_told f fd) : FnX P w K mg base 3 f fd ["_law_held"] (spP 1 (D__law_told P w K)) :=
    (Fun.pp F sc__law_told (fun cdv A fr s H E hG hr => by
      have hu : A.units + 3 + 64 < cLine := hr.units
      exact (pps_one (ppq_ret (pp_lc (own := [("_law_rule", 1)]) (g := (gName 1)) rfl sc__law_told.nd (ppi_any (pp_meth0 (t_Book_rules XI GN c) (cl_Book c) hG (hr.mono (by decide)) (takes_of rfl rfl rfl rfl) (pp_v 0))) (blkOk_by (own := [("_law_rule", 1)]) (by kernel_rfl)) (fun _ _ _ _ _ => (pg_name (i := 1) sc__law_told.nd rfl (by first | exact Or.inl rfl | exact Or.inr rfl))) (ad_gName (i := 1) (by intro l e; cases e <;> decide)) (fun _ _ _ _ _ => ppts_nil) (fun _ _ _ _ _ => (pp_tup (ppa_cons (pp_prop (t_Rule_moment XI GN c) (cl_Rule c) hG (hr.mono (by decide)) (pp_v 1)) (ppa_cons (pp_meth0 (t_Earliest_shifts XI GN c) (cl_Earliest c) hG (hr.mono (by decide)) takes0 (pp_prop (t_Rule_earliest XI GN c) (cl_Rule c) hG (hr.mono (by decide)) (pp_v 1))) ppa_nil)))))))))
theorem t__law_told (XI : K.In base) (GN : base.Ns mainGlobals mg) (c : obsK K = val0) : DP P w K mg base "_law_told" 1 3 (D__law_told P w K) := by
  obtain ⟨fd, F⟩ := F__law_told c
  exact ⟨_, fd, _, rfl, (fx__law_told XI GN c F), g__law_told XI GN c, F.kp, F.binds (by intro _ _ _ _ _ _ us hl; first | (match us, hl with | [_], _ => rfl) | (match us, hl with | [_, _], _ => rfl) | (match us, hl with | [_, _, _], _ => rfl) | (match us, hl with | [_, _, _, _], _ => rfl) | (match us, hl with | [_, _, _, _, _], _ => rfl) | (match us, hl with | [_, _, _, _, _, _], _ => rfl) | (match us, hl with | [_, _, _, _, _, _, _], _ => rfl) | (match us, hl with | [_, _, _, _, _, _, _, _], _ => rfl) | (match us, hl with | [_, _, _, _, _, _, _, _, _], _ => rfl))⟩
/-! _law_times -/
def N__law_times : List Str := ["_law_pot_here", "_law_others", "_law_due", "_law_scale", "_law_far", "_law_times_here", "_law_turn", "_law_left", "_law_shifts", "_law_moment", "_law_name"]
theorem sc__law_times : FnScope N__law_times ["_law_pot_here", "_law_others", "_law_due", "_law_scale"] (defScope s__law_times) := ⟨rfl, rfl, rfl, by decide +kernel, rfl, by decide +kernel, by decide +kernel⟩
noncomputable def D__law_times (P : Program) (w : World) (K : PySem.W.Frag) : FF := fDef 4 11 (sSeq (sSet 4 (fOp gIx (fSeq .lst (fCons (fC (.int 0)) (fCons (fC (.int 0)) (fCons (fOp fPow (fC (.int 10)) (fC (.int 49))) fNil)))) (fCall (D__law_draw P w K) (fCons (fVar 0) (fCons (fC (.int 3)) fNil)))))
      (sSeq (sSet 5 (fCall (gDict .cell) (fCons (fLc (iAny (fVar 1)) (tgName 10) fYes (fSeq .tup (fCons (fVar 10) (fCons (fOp gAdd (fOp gAdd (fVar 4) (fOp gMul (fVar 3) (fOp fSub (fCall (D__law_draw P w K) (fCons (fVar 0) (fCons (fC (.int 9)) fNil))) (fC (.int 4))))) (fCall (D__law_draw P w K) (fCons (fVar 0) (fCons (fC (.int 2)) fNil)))) fNil))) [10]) fNil)))
      (sSeq (sFor (iRg1 (fCons (fOp gMul (fC (.int 3)) (fCall (D__law_draw P w K) (fCons (fVar 0) (fCons (fC (.int 2)) fNil)))) fNil)) (tgName 6) (sFor (iAny (fVar 2)) (tgTup 2 (tgCons (tgName 7) (tgCons (tgName 8) tgNil))) (sSeq (sSet 9 (fCall (D__law_among P w K) (fCons (fVar 0) (fCons (fCall (gSort' (SetTO P w)) (fCons (fVar 8) fNil)) fNil))))
          (sDPutP (fVar 5) (fVar 7) (fCall gMax (fCons (fSeq .lst (fCons (fOp gIx (fVar 5) (fVar 7)) (fCons (fOp gAdd (fOp gIx (fVar 5) (fVar 9)) (fOp gIx (fVar 8) (fVar 9))) fNil))) fNil))))))
      (sFix 5 (sRet (fVar 5))))))
theorem fx__law_times (XI : K.In base) (GN : base.Ns mainGlobals mg) (c : obsK K = val0) {fd : FuncData} {f : Addr} (F : Fun K "_law_times" "_law_times" s__law_times f fd) : FnX P w K mg base 3 f fd ["_law_pot_here", "_law_others", "_law_due", "_law_scale"] (spP 4 (D__law_times P w K)) :=
    (Fun.pp F sc__law_times (fun cdv A fr s H E hG hr => by
      have hu : A.units + 3 + 64 < cLine := hr.units
      exact (pps_cons (ppq_set (i := 4) sc__law_times.nd rfl (Or.inr rfl) (pp_idx (Nat.lt_of_le_of_lt (Nat.add_le_add_left (by decide) _) hu) (pp_lst (ppa_cons pp_int (ppa_cons pp_int (ppa_cons (pp_pow pp_int pp_int) ppa_nil)))) (pp_call (t__law_draw XI GN c) hG (hr.mono (by decide)) (takes_of rfl rfl rfl rfl) rfl (ppa_cons (pp_v 0) (ppa_cons pp_int ppa_nil)))))
      (pps_cons (ppq_set (i := 5) sc__law_times.nd rfl (Or.inl rfl) (pp_dict .cell rfl rfl (f_dict XI GN c) (ppa_cons (pp_lc (own := [("_law_name", 10)]) (g := (gName 10)) rfl sc__law_times.nd (ppi_any (pp_v 1)) (blkOk_by (own := [("_law_name", 10)]) (by kernel_rfl)) (fun _ _ _ _ _ => (pg_name (i := 10) sc__law_times.nd rfl (by first | exact Or.inl rfl | exact Or.inr rfl))) (ad_gName (i := 10) (by intro l e; cases e <;> decide)) (fun _ _ _ _ _ => ppts_nil) (fun _ _ _ _ _ => (pp_tup (ppa_cons (pp_v 10) (ppa_cons (pp_add (pp_add (pp_v 4) (pp_mul (pp_v 3) (pp_sub (pp_call (t__law_draw XI GN c) hG (hr.mono (by decide)) takes0 rfl (ppa_cons (pp_v 0) (ppa_cons pp_int ppa_nil))) pp_int))) (pp_call (t__law_draw XI GN c) hG (hr.mono (by decide)) takes0 rfl (ppa_cons (pp_v 0) (ppa_cons pp_int ppa_nil)))) ppa_nil))))) ppa_nil)))
      (pps_cons (ppq_for (g := (gName 6)) (passes_of rfl) rfl (ppi_range1 rfl (f_range XI GN c) (ppa_cons (pp_mul pp_int (pp_call (t__law_draw XI GN c) hG (hr.mono (by decide)) (takes_of rfl rfl rfl rfl) rfl (ppa_cons (pp_v 0) (ppa_cons pp_int ppa_nil)))) ppa_nil)) (pg_name (i := 6) sc__law_times.nd rfl (Or.inl rfl)) (ad_gName (i := 6) (by intro l e; cases e <;> decide))
        (pps_one (ppq_for (g := (gTup K 2 (gCons (gName 7) (gCons (gName 8) gNil)))) (passes_of rfl) rfl (ppi_any (pp_v 2)) (pg_tup rfl (pgs_cons (pg_name (i := 7) sc__law_times.nd rfl (Or.inl rfl)) (pgs_cons (pg_name (i := 8) sc__law_times.nd rfl (Or.inl rfl)) pgs_nil))) (ad_gTup (ad_gCons (ad_gName (i := 7) (by intro l e; cases e <;> decide)) (ad_gCons (ad_gName (i := 8) (by intro l e; cases e <;> decide)) ad_gNil)))
          (pps_cons (ppq_set (i := 9) sc__law_times.nd rfl (Or.inl rfl) (pp_call (t__law_among XI GN c) hG (hr.mono (by decide)) (takes_of rfl rfl rfl rfl) rfl (ppa_cons (pp_v 0) (ppa_cons (pp_sorted rfl rfl (f_sorted XI GN c) (ppa_cons (pp_v 8) ppa_nil)) ppa_nil))))
          (pps_one (ppq_dput (Nat.lt_of_le_of_lt (Nat.add_le_add_left (by decide) _) hu) (pp_v 5) (pp_v 7) (pp_max rfl rfl (f_max XI GN c) (ppa_cons (pp_lst (ppa_cons (pp_idx (Nat.lt_of_le_of_lt (Nat.add_le_add_left (by decide) _) hu) (pp_v 5) (pp_v 7)) (ppa_cons (pp_add (pp_idx (Nat.lt_of_le_of_lt (Nat.add_le_add_left (by decide) _) hu) (pp_v 5) (pp_v 9)) (pp_idx (Nat.lt_of_le_of_lt (Nat.add_le_add_left (by decide) _) hu) (pp_v 8) (pp_v 9))) ppa_nil))) ppa_nil))))))))
      (pps_one (ppq_fix (i := 5) (ppq_ret (pp_v 5)))))))))
theorem t__law_times (XI : K.In base) (GN : base.Ns mainGlobals mg) (c : obsK K = val0) : DP P w K mg base "_law_times" 4 3 (D__law_times P w K) := by
  obtain ⟨fd, F⟩ := F__law_times c
  exact ⟨_, fd, _, rfl, (fx__law_times XI GN c F), g__law_times XI GN c, F.kp, F.binds (by intro _ _ _ _ _ _ us hl; first | (match us, hl with | [_], _ => rfl) | (match us, hl with | [_, _], _ => rfl) | (match us, hl with | [_, _, _], _ => rfl) | (match us, hl with | [_, _, _, _], _ => rfl) | (match us, hl with | [_, _, _, _, _], _ => rfl) | (match us, hl with | [_, _, _, _, _, _], _ => rfl) | (match us, hl with | [_, _, _, _, _, _, _], _ => rfl) | (match us, hl with | [_, _, _, _, _, _, _, _], _ => rfl) | (match us, hl with | [_, _, _, _, _, _, _, _, _], _ => rfl))⟩
/-! _law_keeps -/
def N__law_keeps : List Str := ["_law_some", "_law_times_here", "_law_left", "_law_shifts", "_law_moment"]
theorem sc__law_keeps : FnScope N__law_keeps ["_law_some", "_law_times_here"] (defScope s__law_keeps) := ⟨rfl, rfl, rfl, by decide +kernel, rfl, by decide +kernel, by decide +kernel⟩
noncomputable def D__law_keeps (P : Program) (w : World) (K : PySem.W.Frag) : FF := fDef 2 5 (sSeq (sFor (iAny (fVar 0)) (tgTup 2 (tgCons (tgName 2) (tgCons (tgName 3) tgNil))) (sIfS (fTest (fOp gLt (fOp gIx (fVar 1) (fVar 2)) (fCall gMin (fCons (fLc (iAny (fVar 3)) (tgName 4) fYes (fOp gAdd (fOp gIx (fVar 1) (fVar 4)) (fOp gIx (fVar 3) (fVar 4))) [4]) fNil)))) (sRet (fC (.bl false))) sNext))
      (sRet (fC (.bl true))))
theorem fx__law_keeps (XI : K.In base) (GN : base.Ns mainGlobals mg) (c : obsK K = val0) {fd : FuncData} {f : Addr} (F : Fun K "_law_keeps" "_law_keeps" s__law_keeps f fd) : FnX P w K mg base 1 f fd ["_law_some", "_law_times_here"] (spP 2 (D__law_keeps P w K)) :=
    (Fun.pp F sc__law_keeps (fun cdv A fr s H E hG hr => by
      have hu : A.units + 3 + 64 < cLine := hr.units
      exact (pps_cons (ppq_for (g := (gTup K 2 (gCons (gName 2) (gCons (gName 3) gNil)))) (passes_of rfl) rfl (ppi_any (pp_v 0)) (pg_tup rfl (pgs_cons (pg_name (i := 2) sc__law_keeps.nd rfl (Or.inl rfl)) (pgs_cons (pg_name (i := 3) sc__law_keeps.nd rfl (Or.inr rfl)) pgs_nil))) (ad_gTup (ad_gCons (ad_gName (i := 2) (by intro l e; cases e <;> decide)) (ad_gCons (ad_gName (i := 3) (by intro l e; cases e <;> decide)) ad_gNil)))
        (pps_one (ppq_if (pt_lt (pp_idx (Nat.lt_of_le_of_lt (Nat.add_le_add_left (by decide) _) hu) (pp_v 1) (pp_v 2)) (pp_min rfl rfl (f_min XI GN c) (ppa_cons (pp_lc (own := [("_law_moment", 4)]) (g := (gName 4)) rfl sc__law_keeps.nd (ppi_any (pp_v 3)) (blkOk_by (own := [("_law_moment", 4)]) (by kernel_rfl)) (fun _ _ _ _ _ => (pg_name (i := 4) sc__law_keeps.nd rfl (by first | exact Or.inl rfl | exact Or.inr rfl))) (ad_gName (i := 4) (by intro l e; cases e <;> decide)) (fun _ _ _ _ _ => ppts_nil) (fun _ _ _ _ _ => (pp_add (pp_idx (Nat.lt_of_le_of_lt (Nat.add_le_add_left (by decide) _) hu) (pp_v 1) (pp_v 4)) (pp_idx (Nat.lt_of_le_of_lt (Nat.add_le_add_left (by decide) _) hu) (pp_v 3) (pp_v 4))))) ppa_nil))) (pps_one (ppq_ret pp_bl)) pps_nil)))
      (pps_one (ppq_ret pp_bl)))))
theorem t__law_keeps (XI : K.In base) (GN : base.Ns mainGlobals mg) (c : obsK K = val0) : DP P w K mg base "_law_keeps" 2 1 (D__law_keeps P w K) := by
  obtain ⟨fd, F⟩ := F__law_keeps c
  exact ⟨_, fd, _, rfl, (fx__law_keeps XI GN c F), g__law_keeps XI GN c, F.kp, F.binds (by intro _ _ _ _ _ _ us hl; first | (match us, hl with | [_], _ => rfl) | (match us, hl with | [_, _], _ => rfl) | (match us, hl with | [_, _, _], _ => rfl) | (match us, hl with | [_, _, _, _], _ => rfl) | (match us, hl with | [_, _, _, _, _], _ => rfl) | (match us, hl with | [_, _, _, _, _, _], _ => rfl) | (match us, hl with | [_, _, _, _, _, _, _], _ => rfl) | (match us, hl with | [_, _, _, _, _, _, _, _], _ => rfl) | (match us, hl with | [_, _, _, _, _, _, _, _, _], _ => rfl))⟩
end
end Pu
set_option Elab.async false
set_option linter.all false
set_option maxRecDepth 100000
set_option maxHeartbeats 8000000
namespace Pu
open L2 PySem PySem.Spec PyProof.Rows E10
open He (ga ma)
section
variable {P : Program} {w : World} {K : PySem.W.Frag} {mg : Str → Option Value} {base : Heap}
/-! _law_tried -/
def N__law_tried : List Str := ["_law_drawn", "_law_y", "_law_times_here", "_law_found", "_law_left", "_law_terms", "_law_moment", "_law_shift"]
theorem sc__law_tried : FnScope N__law_tried ["_law_drawn", "_law_y", "_law_times_here"] (defScope s__law_tried) := ⟨rfl, rfl, rfl, by decide +kernel, rfl, by decide +kernel, by decide +kernel⟩
noncomputable def D__law_tried (P : Program) (w : World) (K : PySem.W.Frag) : FF := fDef 3 8 (sSeq (sSet 3 (fLstC fNil))
      (sSeq (sFor (iAny (fVar 0)) (tgTup 2 (tgCons (tgName 4) (tgCons (tgName 5) tgNil))) (sFor (iAny (fVar 5)) (tgTup 2 (tgCons (tgName 6) (tgCons (tgName 7) tgNil))) (sIfS (fAndT (fTest (fOp (gEqX false) (fVar 4) (fVar 1))) (fTest (fOp (gEqX true) (fVar 6) (fVar 1)))) (sDrop (fBM "list" mAppend (fVar 3) (fCons (fOp gAdd (fOp gIx (fVar 2) (fVar 6)) (fVar 7)) fNil))) (sIfS (fAndT (fTest (fOp (gEqX false) (fVar 6) (fVar 1))) (fTest (fOp (gEqX true) (fVar 4) (fVar 1)))) (sDrop (fBM "list" mAppend (fVar 3) (fCons (fOp fSub (fOp gIx (fVar 2) (fVar 4)) (fVar 7)) fNil))) sNext))))
      (sRet (fOp gAdd (fVar 3) (fSeq .lst (fCons (fOp fSub (fCall gMin (fCons (fOp gAdd (fVar 3) (fSeq .lst (fCons (fC (.int 0)) fNil))) fNil)) (fC (.int 1))) fNil))))))
theorem fx__law_tried (XI : K.In base) (GN : base.Ns mainGlobals mg) (c : obsK K = val0) {fd : FuncData} {f : Addr} (F : Fun K "_law_tried" "_law_tried" s__law_tried f fd) : FnX P w K mg base 1 f fd ["_law_drawn", "_law_y", "_law_times_here"] (spP 3 (D__law_tried P w K)) :=
    (Fun.pp F sc__law_tried (fun cdv A fr s H E hG hr => by
      have hu : A.units + 3 + 64 < cLine := hr.units
      exact (pps_cons (ppq_set (i := 3) sc__law_tried.nd rfl (Or.inl rfl) (pp_lstC ppa_nil))
      (pps_cons (ppq_for (g := (gTup K 2 (gCons (gName 4) (gCons (gName 5) gNil)))) (passes_of rfl) rfl (ppi_any (pp_v 0)) (pg_tup rfl (pgs_cons (pg_name (i := 4) sc__law_tried.nd rfl (Or.inl rfl)) (pgs_cons (pg_name (i := 5) sc__law_tried.nd rfl (Or.inl rfl)) pgs_nil))) (ad_gTup (ad_gCons (ad_gName (i := 4) (by intro l e; cases e <;> decide)) (ad_gCons (ad_gName (i := 5) (by intro l e; cases e <;> decide)) ad_gNil)))
        (pps_one (ppq_for (g := (gTup K 2 (gCons (gName 6) (gCons (gName 7) gNil)))) (passes_of rfl) rfl (ppi_any (pp_v 5)) (pg_tup rfl (pgs_cons (pg_name (i := 6) sc__law_tried.nd rfl (Or.inl rfl)) (pgs_cons (pg_name (i := 7) sc__law_tried.nd rfl (Or.inl rfl)) pgs_nil))) (ad_gTup (ad_gCons (ad_gName (i := 6) (by intro l e; cases e <;> decide)) (ad_gCons (ad_gName (i := 7) (by intro l e; cases e <;> decide)) ad_gNil)))
          (pps_one (ppq_if (PPW.pt (ptw_and (pt_eqX hu (pp_v 4) (pp_v 1)) (ptw_and1 (pt_neX hu (pp_v 6) (pp_v 1))))) (pps_one (ppq_expr (pp_append (pp_v 3) (pp_add (pp_idx (Nat.lt_of_le_of_lt (Nat.add_le_add_left (by decide) _) hu) (pp_v 2) (pp_v 6)) (pp_v 7))))) (pps_one (ppq_if (PPW.pt (ptw_and (pt_eqX hu (pp_v 6) (pp_v 1)) (ptw_and1 (pt_neX hu (pp_v 4) (pp_v 1))))) (pps_one (ppq_expr (pp_append (pp_v 3) (pp_sub (pp_idx (Nat.lt_of_le_of_lt (Nat.add_le_add_left (by decide) _) hu) (pp_v 2) (pp_v 4)) (pp_v 7))))) pps_nil)))))))
      (pps_one (ppq_ret (pp_add (pp_v 3) (pp_lst (ppa_cons (pp_sub (pp_min rfl rfl (f_min XI GN c) (ppa_cons (pp_add (pp_v 3) (pp_lst (ppa_cons pp_int ppa_nil))) ppa_nil)) pp_int) ppa_nil)))))))))
theorem t__law_tried (XI : K.In base) (GN : base.Ns mainGlobals mg) (c : obsK K = val0) : DP P w K mg base "_law_tried" 3 1 (D__law_tried P w K) := by
  obtain ⟨fd, F⟩ := F__law_tried c
  exact ⟨_, fd, _, rfl, (fx__law_tried XI GN c F), g__law_tried XI GN c, F.kp, F.binds (by intro _ _ _ _ _ _ us hl; first | (match us, hl with | [_], _ => rfl) | (match us, hl with | [_, _], _ => rfl) | (match us, hl with | [_, _, _], _ => rfl) | (match us, hl with | [_, _, _, _], _ => rfl) | (match us, hl with | [_, _, _, _, _], _ => rfl) | (match us, hl with | [_, _, _, _, _, _], _ => rfl) | (match us, hl with | [_, _, _, _, _, _, _], _ => rfl) | (match us, hl with | [_, _, _, _, _, _, _, _], _ => rfl) | (match us, hl with | [_, _, _, _, _, _, _, _, _], _ => rfl))⟩
/-! _law_can_be_completed -/
def N__law_can_be_completed : List Str := ["_law_drawn", "_law_y", "_law_times_here", "_law_some", "_law_time", "_law_whole", "_law_left", "_law_terms"]
theorem sc__law_can_be_completed : FnScope N__law_can_be_completed ["_law_drawn", "_law_y", "_law_times_here"] (defScope s__law_can_be_completed) := ⟨rfl, rfl, rfl, by decide +kernel, rfl, by decide +kernel, by decide +kernel⟩
noncomputable def D__law_can_be_completed (P : Program) (w : World) (K : PySem.W.Frag) : FF := fDef 3 8 (sSeq (sSet 3 (fLc (iAny (fVar 0)) (tgTup 2 (tgCons (tgName 6) (tgCons (tgName 7) tgNil))) fYes (fSeq .tup (fCons (fVar 6) (fCons (fCall (gDict .val) (fCons (fVar 7) fNil)) fNil))) [6, 7]))
      (sSeq (sFor (iAny (fCall (D__law_tried P w K) (fCons (fVar 0) (fCons (fVar 1) (fCons (fVar 2) fNil))))) (tgName 4) (sTrim (sSeq (sSet 5 (fCall (gDict .cell) (fCons (fVar 2) fNil)))
        (sSeq (sDPutP (fVar 5) (fVar 1) (fVar 4))
        (sIfS (fTest (fCall (D__law_keeps P w K) (fCons (fVar 3) (fCons (fVar 5) fNil)))) (sRet (fC (.bl true))) sNext)))))
      (sRet (fC (.bl false)))))
theorem fx__law_can_be_completed (XI : K.In base) (GN : base.Ns mainGlobals mg) (c : obsK K = val0) {fd : FuncData} {f : Addr} (F : Fun K "_law_can_be_completed" "_law_can_be_completed" s__law_can_be_completed f fd) : FnX P w K mg base 2 f fd ["_law_drawn", "_law_y", "_law_times_here"] (spP 3 (D__law_can_be_completed P w K)) :=
    (Fun.pp F sc__law_can_be_completed (fun cdv A fr s H E hG hr => by
      have hu : A.units + 3 + 64 < cLine := hr.units
      exact (pps_cons (ppq_setLc (i := 3) (own := [("_law_left", 6), ("_law_terms", 7)]) (g := (gTup K 2 (gCons (gName 6) (gCons (gName 7) gNil)))) (by rfl) sc__law_can_be_completed.nd rfl rfl (sw_true rfl rfl rfl (by decide +kernel)) (ppi_any (pp_v 0)) (blkOk_by (own := [("_law_left", 6), ("_law_terms", 7)]) (by kernel_rfl)) (fun _ _ _ _ _ => (pg_tup rfl (pgs_cons (pg_name (i := 6) sc__law_can_be_completed.nd rfl (by first | exact Or.inl rfl | exact Or.inr rfl)) (pgs_cons (pg_name (i := 7) sc__law_can_be_completed.nd rfl (by first | exact Or.inl rfl | exact Or.inr rfl)) pgs_nil)))) (ad_gTup (ad_gCons (ad_gName (i := 6) (by intro l e; cases e <;> decide)) (ad_gCons (ad_gName (i := 7) (by intro l e; cases e <;> decide)) ad_gNil))) (fun _ _ _ _ _ => ppts_nil) (fun _ _ _ _ _ => (pp_tup (ppa_cons (pp_v 6) (ppa_cons (pp_dict .val rfl rfl (f_dict XI GN c) (ppa_cons (pp_v 7) ppa_nil)) ppa_nil)))))
      (pps_cons (ppq_for (g := (gName 4)) (passes_of rfl) rfl (ppi_any (pp_call (t__law_tried XI GN c) hG (hr.mono (by decide)) (takes_of rfl rfl rfl rfl) rfl (ppa_cons (pp_v 0) (ppa_cons (pp_v 1) (ppa_cons (pp_v 2) ppa_nil))))) (pg_name (i := 4) sc__law_can_be_completed.nd rfl (Or.inl rfl)) (ad_gName (i := 4) (by intro l e; cases e <;> decide))
        (pps_trim (pps_cons (ppq_set (i := 5) sc__law_can_be_completed.nd rfl (Or.inl rfl) (pp_dict .cell rfl rfl (f_dict XI GN c) (ppa_cons (pp_v 2) ppa_nil)))
        (pps_cons (ppq_dput (Nat.lt_of_le_of_lt (Nat.add_le_add_left (by decide) _) hu) (pp_v 5) (pp_v 1) (pp_v 4))
        (pps_one (ppq_if (pt_b (pp_call (t__law_keeps XI GN c) hG (hr.mono (by decide)) (takes_of rfl rfl rfl rfl) rfl (ppa_cons (pp_v 3) (ppa_cons (pp_v 5) ppa_nil)))) (pps_one (ppq_ret pp_bl)) pps_nil))))))
      (pps_one (ppq_ret pp_bl))))))
theorem t__law_can_be_completed (XI : K.In base) (GN : base.Ns mainGlobals mg) (c : obsK K = val0) : DP P w K mg base "_law_can_be_completed" 3 2 (D__law_can_be_completed P w K) := by
  obtain ⟨fd, F⟩ := F__law_can_be_completed c
  exact ⟨_, fd, _, rfl, (fx__law_can_be_completed XI GN c F), g__law_can_be_completed XI GN c, F.kp, F.binds (by intro _ _ _ _ _ _ us hl; first | (match us, hl with | [_], _ => rfl) | (match us, hl with | [_, _], _ => rfl) | (match us, hl with | [_, _, _], _ => rfl) | (match us, hl with | [_, _, _, _], _ => rfl) | (match us, hl with | [_, _, _, _, _], _ => rfl) | (match us, hl with | [_, _, _, _, _, _], _ => rfl) | (match us, hl with | [_, _, _, _, _, _, _], _ => rfl) | (match us, hl with | [_, _, _, _, _, _, _, _], _ => rfl) | (match us, hl with | [_, _, _, _, _, _, _, _, _], _ => rfl))⟩
/-! Rule.__init__ -/
def N_Rule___init__ : List Str := ["self", "moment", "earliest"]
theorem sc_Rule___init__ : FnScope N_Rule___init__ ["self", "moment", "earliest"] (defScope m_Rule___init__) := ⟨rfl, rfl, rfl, by decide +kernel, rfl, by decide +kernel, by decide +kernel⟩
noncomputable def D_Rule___init__ (P : Program) (w : World) (K : PySem.W.Frag) : FF := fDef 3 3 (sSeq (sIfS (fNotT (fTest (fCall (D_is_name P w K) (fCons (fVar 1) fNil)))) sBad sNext)
      (sSeq (sFldP (ga K "Rule") "_moment" (fVar 0) (fVar 1))
      (sFldP (ga K "Rule") "_earliest" (fVar 0) (fFrz (fMake (ga K "Earliest") (D_Earliest___init__ P w K) (fCons (fAlt (fMeth (ga K "Earliest") "shifts" (D_Earliest_shifts P w K) (fVar 2) fNil) (fMeth (ga K "Term") "shifts" (D_Term_shifts P w K) (fVar 2) fNil)) fNil))))))
theorem fx_Rule___init__ (XI : K.In base) (GN : base.Ns mainGlobals mg) (c : obsK K = val0) {fd : FuncData} {f : Addr} (F : Fun K "__init__" "Rule.__init__" m_Rule___init__ f fd) : FnX P w K mg base 6 f fd ["self", "moment", "earliest"] (spP 3 (D_Rule___init__ P w K)) :=
    (Fun.pp F sc_Rule___init__ (fun cdv A fr s H E hG hr => by
      have hu : A.units + 3 + 64 < cLine := hr.units
      exact (pps_cons (ppq_if (ptt_not (pt_b (pp_call (t_is_name XI GN c) hG (hr.mono (by decide)) (takes_of rfl rfl rfl rfl) rfl (ppa_cons (pp_v 1) ppa_nil)))) (pps_one ppq_never) pps_nil)
      (pps_cons (ppq_fld (cl_Rule c) (na_Rule__moment c) (pp_v 0) (pp_v 1))
      (pps_one (ppq_fld (cl_Rule c) (na_Rule__earliest c) (pp_v 0) (pp_make (t_Earliest___init__ XI GN c) hG (hr.mono (by decide)) (takes_of rfl rfl rfl rfl) rfl (ppa_cons (pp_alt (pp_meth0 (t_Earliest_shifts XI GN c) (cl_Earliest c) hG (hr.mono (by decide)) (takes_of rfl rfl rfl rfl) (pp_v 2)) (pp_meth0 (t_Term_shifts XI GN c) (cl_Term c) hG (hr.mono (by decide)) (takes_of rfl rfl rfl rfl) (pp_v 2))) ppa_nil))))))))
theorem t_Rule___init__ (XI : K.In base) (GN : base.Ns mainGlobals mg) (c : obsK K = val0) : DC P w K mg base "Rule" (ga K "Rule") 3 6 (D_Rule___init__ P w K) := by
  obtain ⟨fd, F⟩ := F_Rule___init__ c
  exact ⟨⟨_, fd, _, rfl, (fx_Rule___init__ XI GN c F), mkB_ok (bMk_Rule c), F.binds (by intro _ _ _ _ _ _ us hl; first | (match us, hl with | [_], _ => rfl) | (match us, hl with | [_, _], _ => rfl) | (match us, hl with | [_, _, _], _ => rfl) | (match us, hl with | [_, _, _, _], _ => rfl) | (match us, hl with | [_, _, _, _, _], _ => rfl) | (match us, hl with | [_, _, _, _, _, _], _ => rfl) | (match us, hl with | [_, _, _, _, _, _, _], _ => rfl) | (match us, hl with | [_, _, _, _, _, _, _, _], _ => rfl) | (match us, hl with | [_, _, _, _, _, _, _, _, _], _ => rfl))⟩, g_Rule XI GN c⟩
/-! _law_book -/
def N__law_book : List Str := ["_law_names_here", "_law_drawn", "_law_left", "_law_terms"]
theorem sc__law_book : FnScope N__law_book ["_law_names_here", "_law_drawn"] (defScope s__law_book) := ⟨rfl, rfl, rfl, by decide +kernel, rfl, by decide +kernel, by decide +kernel⟩
noncomputable def D__law_book (P : Program) (w : World) (K : PySem.W.Frag) : FF := fDef 2 4 (sRet (fFrz (fMake (ga K "Book") (D_Book___init__ P w K) (fCons (fVar 0) (fCons (fLc (iAny (fVar 1)) (tgTup 2 (tgCons (tgName 2) (tgCons (tgName 3) tgNil))) fYes (fFrz (fMake (ga K "Rule") (D_Rule___init__ P w K) (fCons (fVar 2) (fCons (fFrz (fMake (ga K "Earliest") (D_Earliest___init__ P w K) (fCons (fCall (gDict .val) (fCons (fVar 3) fNil)) fNil))) fNil)))) [2, 3]) fNil)))))
theorem fx__law_book (XI : K.In base) (GN : base.Ns mainGlobals mg) (c : obsK K = val0) {fd : FuncData} {f : Addr} (F : Fun K "_law_book" "_law_book" s__law_book f fd) : FnX P w K mg base 8 f fd ["_law_names_here", "_law_drawn"] (spP 2 (D__law_book P w K)) :=
    (Fun.pp F sc__law_book (fun cdv A fr s H E hG hr => by
      have hu : A.units + 3 + 64 < cLine := hr.units
      exact (pps_one (ppq_ret (pp_make (t_Book___init__ XI GN c) hG (hr.mono (by decide)) (takes_of rfl rfl rfl rfl) rfl (ppa_cons (pp_v 0) (ppa_cons (pp_lc (own := [("_law_left", 2), ("_law_terms", 3)]) (g := (gTup K 2 (gCons (gName 2) (gCons (gName 3) gNil)))) rfl sc__law_book.nd (ppi_any (pp_v 1)) (blkOk_by (own := [("_law_left", 2), ("_law_terms", 3)]) (by kernel_rfl)) (fun _ _ _ _ _ => (pg_tup rfl (pgs_cons (pg_name (i := 2) sc__law_book.nd rfl (by first | exact Or.inl rfl | exact Or.inr rfl)) (pgs_cons (pg_name (i := 3) sc__law_book.nd rfl (by first | exact Or.inl rfl | exact Or.inr rfl)) pgs_nil)))) (ad_gTup (ad_gCons (ad_gName (i := 2) (by intro l e; cases e <;> decide)) (ad_gCons (ad_gName (i := 3) (by intro l e; cases e <;> decide)) ad_gNil))) (fun _ _ _ _ _ => ppts_nil) (fun _ _ _ _ _ => (pp_make (t_Rule___init__ XI GN c) hG (hr.mono (by decide)) takes0 rfl (ppa_cons (pp_v 2) (ppa_cons (pp_make (t_Earliest___init__ XI GN c) hG (hr.mono (by decide)) takes0 rfl (ppa_cons (pp_dict .val rfl rfl (f_dict XI GN c) (ppa_cons (pp_v 3) ppa_nil)) ppa_nil)) ppa_nil))))) ppa_nil)))))))
theorem t__law_book (XI : K.In base) (GN : base.Ns mainGlobals mg) (c : obsK K = val0) : DP P w K mg base "_law_book" 2 8 (D__law_book P w K) := by
  obtain ⟨fd, F⟩ := F__law_book c
  exact ⟨_, fd, _, rfl, (fx__law_book XI GN c F), g__law_book XI GN c, F.kp, F.binds (by intro _ _ _ _ _ _ us hl; first | (match us, hl with | [_], _ => rfl) | (match us, hl with | [_, _], _ => rfl) | (match us, hl with | [_, _, _], _ => rfl) | (match us, hl with | [_, _, _, _], _ => rfl) | (match us, hl with | [_, _, _, _, _], _ => rfl) | (match us, hl with | [_, _, _, _, _, _], _ => rfl) | (match us, hl with | [_, _, _, _, _, _, _], _ => rfl) | (match us, hl with | [_, _, _, _, _, _, _, _], _ => rfl) | (match us, hl with | [_, _, _, _, _, _, _, _, _], _ => rfl))⟩
/-! never_kept -/
def N_never_kept : List Str := ["moments"]
theorem sc_never_kept : FnScope N_never_kept ["moments"] (defScope s_never_kept) := ⟨rfl, rfl, rfl, by decide +kernel, rfl, by decide +kernel, by decide +kernel⟩
noncomputable def D_never_kept (P : Program) (w : World) (K : PySem.W.Frag) : FF := fDef 1 1 (sRet (fFrz (fMake (ga K "Book") (D_Book___init__ P w K) (fCons (fVar 0) (fCons (fSeq .lst (fCons (fFrz (fMake (ga K "Rule") (D_Rule___init__ P w K) (fCons (fOp gIx (fVar 0) (fC (.int 0))) (fCons (fFrz (fOp (fOwnI (ga K "Term") (D_Term___add__ P w K)) (fFrz (fMake (ga K "Term") (fDfl (dv1_Term___init__) (D_Term___init__ P w K)) (fCons (fOp gIx (fVar 0) (fC (.int 0))) fNil))) (fC (.int 1)))) fNil)))) fNil)) fNil)))))
theorem fx_never_kept (XI : K.In base) (GN : base.Ns mainGlobals mg) (c : obsK K = val0) {fd : FuncData} {f : Addr} (F : Fun K "never_kept" "never_kept" s_never_kept f fd) : FnX P w K mg base 8 f fd ["moments"] (spP 1 (D_never_kept P w K)) :=
    (Fun.pp F sc_never_kept (fun cdv A fr s H E hG hr => by
      have hu : A.units + 3 + 64 < cLine := hr.units
      exact (pps_one (ppq_ret (pp_make (t_Book___init__ XI GN c) hG (hr.mono (by decide)) (takes_of rfl rfl rfl rfl) rfl (ppa_cons (pp_v 0) (ppa_cons (pp_lst (ppa_cons (pp_make (t_Rule___init__ XI GN c) hG (hr.mono (by decide)) (takes_of rfl rfl rfl rfl) rfl (ppa_cons (pp_idx (Nat.lt_of_le_of_lt (Nat.add_le_add_left (by decide) _) hu) (pp_v 0) pp_int) (ppa_cons (pp_frz (pp_plusI (radd_Term c) (t_Term___add__ XI GN c) (in_Term c) hG (hr.mono (by decide)) (pp_makeD (td1_Term___init__ XI GN c) hG (hr.mono (by decide)) (takes_of rfl rfl rfl rfl) rfl (ppa_cons (pp_idx (Nat.lt_of_le_of_lt (Nat.add_le_add_left (by decide) _) hu) (pp_v 0) pp_int) ppa_nil)) pp_int)) ppa_nil))) ppa_nil)) ppa_nil)))))))
theorem t_never_kept (XI : K.In base) (GN : base.Ns mainGlobals mg) (c : obsK K = val0) : DP P w K mg base "never_kept" 1 8 (D_never_kept P w K) := by
  obtain ⟨fd, F⟩ := F_never_kept c
  exact ⟨_, fd, _, rfl, (fx_never_kept XI GN c F), g_never_kept XI GN c, F.kp, F.binds (by intro _ _ _ _ _ _ us hl; first | (match us, hl with | [_], _ => rfl) | (match us, hl with | [_, _], _ => rfl) | (match us, hl with | [_, _, _], _ => rfl) | (match us, hl with | [_, _, _, _], _ => rfl) | (match us, hl with | [_, _, _, _, _], _ => rfl) | (match us, hl with | [_, _, _, _, _, _], _ => rfl) | (match us, hl with | [_, _, _, _, _, _, _], _ => rfl) | (match us, hl with | [_, _, _, _, _, _, _, _], _ => rfl) | (match us, hl with | [_, _, _, _, _, _, _, _, _], _ => rfl))⟩
/-! put_into -/
def N_put_into : List Str := ["rule", "moment", "found", "hold"]
theorem sc_put_into : FnScope N_put_into ["rule", "moment", "found"] (defScope s_put_into) := ⟨rfl, rfl, rfl, by decide +kernel, rfl, by decide +kernel, by decide +kernel⟩
noncomputable def D_put_into (P : Program) (w : World) (K : PySem.W.Frag) : FF := fDef 3 4 (sSeq (sIfS (fNotT (fTest (fCall (D_is_replaced P w K) (fCons (fVar 0) (fCons (fVar 1) fNil))))) (sRet (fIf (fTest (fOp (gEqX false) (fProp (ga K "Rule") (D_Rule_moment P w K) (fVar 0)) (fVar 1))) (fSeq .lst fNil) (fSeq .lst (fCons (fVar 0) fNil)))) sNext)
      (sRet (fLc (iAny (fVar 2)) (tgName 3) fYes (fFrz (fMake (ga K "Rule") (D_Rule___init__ P w K) (fCons (fProp (ga K "Rule") (D_Rule_moment P w K) (fVar 0)) (fCons (fMeth (ga K "Earliest") "put_in" (D_Earliest_put_in P w K) (fProp (ga K "Rule") (D_Rule_earliest P w K) (fVar 0)) (fCons (fVar 1) (fCons (fVar 3) fNil))) fNil)))) [3])))
theorem fx_put_into (XI : K.In base) (GN : base.Ns mainGlobals mg) (c : obsK K = val0) {fd : FuncData} {f : Addr} (F : Fun K "put_into" "put_into" s_put_into f fd) : FnX P w K mg base 8 f fd ["rule", "moment", "found"] (spP 3 (D_put_into P w K)) :=
    (Fun.pp F sc_put_into (fun cdv A fr s H E hG hr => by
      have hu : A.units + 3 + 64 < cLine := hr.units
      exact (pps_cons (ppq_if (ptt_not (pt_b (pp_call (t_is_replaced XI GN c) hG (hr.mono (by decide)) (takes_of rfl rfl rfl rfl) rfl (ppa_cons (pp_v 0) (ppa_cons (pp_v 1) ppa_nil))))) (pps_one (ppq_ret (pp_if (pt_eqX hu (pp_prop (t_Rule_moment XI GN c) (cl_Rule c) hG (hr.mono (by decide)) (pp_v 0)) (pp_v 1)) (pp_lst ppa_nil) (pp_lst (ppa_cons (pp_v 0) ppa_nil))))) pps_nil)
      (pps_one (ppq_ret (pp_lc (own := [("hold", 3)]) (g := (gName 3)) rfl sc_put_into.nd (ppi_any (pp_v 2)) (blkOk_by (own := [("hold", 3)]) (by kernel_rfl)) (fun _ _ _ _ _ => (pg_name (i := 3) sc_put_into.nd rfl (by first | exact Or.inl rfl | exact Or.inr rfl))) (ad_gName (i := 3) (by intro l e; cases e <;> decide)) (fun _ _ _ _ _ => ppts_nil) (fun _ _ _ _ _ => (pp_make (t_Rule___init__ XI GN c) hG (hr.mono (by decide)) takes0 rfl (ppa_cons (pp_prop (t_Rule_moment XI GN c) (cl_Rule c) hG (hr.mono (by decide)) (pp_v 0)) (ppa_cons (pp_meth (t_Earliest_put_in XI GN c) (cl_Earliest c) hG (hr.mono (by decide)) takes0 (pp_prop (t_Rule_earliest XI GN c) (cl_Rule c) hG (hr.mono (by decide)) (pp_v 0)) (ppa_cons (pp_v 1) (ppa_cons (pp_v 3) ppa_nil))) ppa_nil))))))))))
theorem t_put_into (XI : K.In base) (GN : base.Ns mainGlobals mg) (c : obsK K = val0) : DP P w K mg base "put_into" 3 8 (D_put_into P w K) := by
  obtain ⟨fd, F⟩ := F_put_into c
  exact ⟨_, fd, _, rfl, (fx_put_into XI GN c F), g_put_into XI GN c, F.kp, F.binds (by intro _ _ _ _ _ _ us hl; first | (match us, hl with | [_], _ => rfl) | (match us, hl with | [_, _], _ => rfl) | (match us, hl with | [_, _, _], _ => rfl) | (match us, hl with | [_, _, _, _], _ => rfl) | (match us, hl with | [_, _, _, _, _], _ => rfl) | (match us, hl with | [_, _, _, _, _, _], _ => rfl) | (match us, hl with | [_, _, _, _, _, _, _], _ => rfl) | (match us, hl with | [_, _, _, _, _, _, _, _], _ => rfl) | (match us, hl with | [_, _, _, _, _, _, _, _, _], _ => rfl))⟩
/-! forget -/
def N_forget : List Str := ["book", "moment", "found", "others", "other", "rule", "new"]
theorem sc_forget : FnScope N_forget ["book", "moment"] (defScope s_forget) := ⟨rfl, rfl, rfl, by decide +kernel, rfl, by decide +kernel, by decide +kernel⟩
noncomputable def D_forget (P : Program) (w : World) (K : PySem.W.Frag) : FF := fDef 2 7 (sSeq (sSet 2 (fCall (D_holds P w K) (fCons (fVar 0) (fCons (fVar 1) fNil))))
      (sSeq (sSet 3 (fLc (iAny (fProp (ga K "Book") (D_Book_moments P w K) (fVar 0))) (tgName 4) (fTest (fOp (gEqX true) (fVar 4) (fVar 1))) (fVar 4) [4]))
      (sSeq (sIfS (fNotT (fTruth (fVar 3))) sBad sNext)
      (sSeq (sIfS (fTest (fOp (fIsN false) (fVar 2) (fC .non))) (sRet (fCall (D_never_kept P w K) (fCons (fVar 3) fNil))) sNext)
      (sSeq (sDrop (fCall (D_check_many P w K) (fCons (fVar 0) (fCons (fVar 1) (fCons (fVar 2) fNil)))))
      (sRet (fFrz (fMake (ga K "Book") (D_Book___init__ P w K) (fCons (fVar 3) (fCons (fLc2 (iAny (fMeth (ga K "Book") "rules" (D_Book_rules P w K) (fVar 0) fNil)) (tgName 5) fYes (iAny (fCall (D_put_into P w K) (fCons (fVar 5) (fCons (fVar 1) (fCons (fVar 2) fNil))))) (tgName 6) fYes (fVar 6) [5, 6] [6]) fNil))))))))))
theorem fx_forget (XI : K.In base) (GN : base.Ns mainGlobals mg) (c : obsK K = val0) {fd : FuncData} {f : Addr} (F : Fun K "forget" "forget" s_forget f fd) : FnX P w K mg base 9 f fd ["book", "moment"] (spP 2 (D_forget P w K)) :=
    (Fun.pp F sc_forget (fun cdv A fr s H E hG hr => by
      have hu : A.units + 3 + 64 < cLine := hr.units
      exact (pps_cons (ppq_set (i := 2) sc_forget.nd rfl (Or.inr rfl) (pp_call (t_holds XI GN c) hG (hr.mono (by decide)) (takes_of rfl rfl rfl rfl) rfl (ppa_cons (pp_v 0) (ppa_cons (pp_v 1) ppa_nil))))
      (pps_cons (ppq_setLc (i := 3) (own := [("other", 4)]) (g := (gName 4)) (by rfl) sc_forget.nd rfl rfl (sw_true rfl rfl rfl (by decide +kernel)) (ppi_any (pp_prop (t_Book_moments XI GN c) (cl_Book c) hG (hr.mono (by decide)) (pp_v 0))) (blkOk_by (own := [("other", 4)]) (by kernel_rfl)) (fun _ _ _ _ _ => (pg_name (i := 4) sc_forget.nd rfl (by first | exact Or.inl rfl | exact Or.inr rfl))) (ad_gName (i := 4) (by intro l e; cases e <;> decide)) (fun _ _ _ _ _ => (ppts_one (pt_neX hu (pp_v 4) (pp_v 1)))) (fun _ _ _ _ _ => (pp_v 4)))
      (pps_cons (ppq_if (ptt_not (ptt_truth (pp_v 3))) (pps_one ppq_never) pps_nil)
      (pps_cons (ppq_if (pt_isN (pp_v 2) pp_non) (pps_one (ppq_ret (pp_call (t_never_kept XI GN c) hG (hr.mono (by decide)) (takes_of rfl rfl rfl rfl) rfl (ppa_cons (pp_v 3) ppa_nil)))) pps_nil)
      (pps_cons (ppq_expr (pp_call (t_check_many XI GN c) hG (hr.mono (by decide)) (takes_of rfl rfl rfl rfl) rfl (ppa_cons (pp_v 0) (ppa_cons (pp_v 1) (ppa_cons (pp_v 2) ppa_nil)))))
      (pps_one (ppq_ret (pp_make (t_Book___init__ XI GN c) hG (hr.mono (by decide)) (takes_of rfl rfl rfl rfl) rfl (ppa_cons (pp_v 3) (ppa_cons (pp_lc2 (own := [("rule", 5), ("new", 6)]) (vs1 := [6]) (g := (gName 5)) (g1 := (gName 6)) rfl sc_forget.nd (ppi_any (pp_meth0 (t_Book_rules XI GN c) (cl_Book c) hG (hr.mono (by decide)) (takes_of rfl rfl rfl rfl) (pp_v 0))) (blkOk_by (own := [("rule", 5), ("new", 6)]) (by kernel_rfl)) (by decide) (fun _ _ _ _ _ => (pg_name (i := 5) sc_forget.nd rfl (by first | exact Or.inl rfl | exact Or.inr rfl))) (ad_gName (i := 5) (by intro l e; cases e <;> decide)) (fun _ _ _ _ _ => ppts_nil) (fun _ _ _ _ _ => (ppi_any (pp_call (t_put_into XI GN c) hG (hr.mono (by decide)) takes0 rfl (ppa_cons (pp_v 5) (ppa_cons (pp_v 1) (ppa_cons (pp_v 2) ppa_nil)))))) (fun _ _ _ _ _ => (pg_name (i := 6) sc_forget.nd rfl (by first | exact Or.inl rfl | exact Or.inr rfl))) (ad_gName (i := 6) (by intro l e; cases e <;> decide)) (fun _ _ _ _ _ => ppts_nil) (fun _ _ _ _ _ => (pp_v 6))) ppa_nil))))))))))))
theorem t_forget (XI : K.In base) (GN : base.Ns mainGlobals mg) (c : obsK K = val0) : DP P w K mg base "forget" 2 9 (D_forget P w K) := by
  obtain ⟨fd, F⟩ := F_forget c
  exact ⟨_, fd, _, rfl, (fx_forget XI GN c F), g_forget XI GN c, F.kp, F.binds (by intro _ _ _ _ _ _ us hl; first | (match us, hl with | [_], _ => rfl) | (match us, hl with | [_, _], _ => rfl) | (match us, hl with | [_, _, _], _ => rfl) | (match us, hl with | [_, _, _, _], _ => rfl) | (match us, hl with | [_, _, _, _, _], _ => rfl) | (match us, hl with | [_, _, _, _, _, _], _ => rfl) | (match us, hl with | [_, _, _, _, _, _, _], _ => rfl) | (match us, hl with | [_, _, _, _, _, _, _, _], _ => rfl) | (match us, hl with | [_, _, _, _, _, _, _, _, _], _ => rfl))⟩
/-! _law_right -/
def N__law_right : List Str := ["_law_pot_here", "_law_names_here", "_law_y", "_law_scale", "_law_drawn", "_law_rest", "_law_due", "_law_turn", "_law_times_here", "_law_truth", "_law_moved", "_law_k", "_law_name"]
theorem sc__law_right : FnScope N__law_right ["_law_pot_here"] (defScope s__law_right) := ⟨rfl, rfl, rfl, by decide +kernel, rfl, by decide +kernel, by decide +kernel⟩
noncomputable def D__law_right (P : Program) (w : World) (K : PySem.W.Frag) : FF := fDef 1 13 (sSeq (sSet 1 (fCall (D__law_names P w K) (fCons (fVar 0) (fCons (fOp gAdd (fC (.int 2)) (fCall (D__law_draw P w K) (fCons (fVar 0) (fCons (fC (.int 4)) fNil)))) fNil))))
      (sSeq (sPar 2 3 (fCons (fOp gIx (fVar 1) (fC (.int 0))) (fCons (fOp gIx (fSeq .lst (fCons (fC (.int 1)) (fCons (fC (.int 1)) (fCons (fOp fPow (fC (.int 10)) (fC (.int 45))) fNil)))) (fCall (D__law_draw P w K) (fCons (fVar 0) (fCons (fC (.int 3)) fNil)))) fNil)))
      (sSeq (sSet 4 (fLc (iRg1 (fCons (fOp gAdd (fC (.int 1)) (fCall (D__law_draw P w K) (fCons (fVar 0) (fCons (fC (.int 7)) fNil)))) fNil)) (tgName 11) fYes (fCall (D__law_row P w K) (fCons (fVar 0) (fCons (fVar 1) (fCons (fVar 2) (fCons (fVar 3) fNil))))) [11]))
      (sSeq (sSet 5 (fCall (D_forget P w K) (fCons (fCall (D__law_book P w K) (fCons (fVar 1) (fCons (fVar 4) fNil))) (fCons (fVar 2) fNil))))
      (sSeq (sSet 6 (fCall (D__law_told P w K) (fCons (fVar 5) fNil)))
      (sSeq (sIfS (fTest (fOp (gEqX true) (fProp (ga K "Book") (D_Book_moments P w K) (fVar 5)) (fCall gTupB (fCons (fCall (gSort' (SetTO P w)) (fCons (fSl gSlX (fVar 1) (oSome (fC (.int 1))) oNone) fNil)) fNil)))) (sRet (fC (.bl false))) sNext)
      (sSeq (sFor (iRg1 (fCons (fC (.int 12)) fNil)) (tgName 7) (sSeq (sSet 8 (fCall (D__law_times P w K) (fCons (fVar 0) (fCons (fSl gSlX (fVar 1) (oSome (fC (.int 1))) oNone) (fCons (fVar 6) (fCons (fVar 3) fNil))))))
        (sSeq (sSet 9 (fCall (D__law_keeps P w K) (fCons (fVar 6) (fCons (fVar 8) fNil))))
        (sSeq (sIfS (fTest (fOp (gEqX true) (fVar 9) (fCall (D__law_can_be_completed P w K) (fCons (fVar 4) (fCons (fVar 2) (fCons (fVar 8) fNil)))))) (sRet (fC (.bl false))) sNext)
        (sSeq (sSet 10 (fCall (gDict .val) (fCons (fLc (iAny (fVar 8)) (tgName 12) fYes (fSeq .tup (fCons (fVar 12) (fCons (fOp fSub (fOp gIx (fVar 8) (fVar 12)) (fOp fPow (fC (.int 10)) (fC (.int 48)))) fNil))) [12]) fNil)))
        (sIfS (fTest (fOp (gEqX true) (fVar 9) (fCall (D__law_can_be_completed P w K) (fCons (fVar 4) (fCons (fVar 2) (fCons (fVar 10) fNil)))))) (sRet (fC (.bl false))) sNext))))))
      (sRet (fC (.bl true))))))))))
theorem fx__law_right (XI : K.In base) (GN : base.Ns mainGlobals mg) (c : obsK K = val0) {fd : FuncData} {f : Addr} (F : Fun K "_law_right" "_law_right" s__law_right f fd) : FnX P w K mg base 10 f fd ["_law_pot_here"] (spP 1 (D__law_right P w K)) :=
    (Fun.pp F sc__law_right (fun cdv A fr s H E hG hr => by
      have hu : A.units + 3 + 64 < cLine := hr.units
      exact (pps_cons (ppq_set (i := 1) sc__law_right.nd rfl (Or.inr rfl) (pp_call (t__law_names XI GN c) hG (hr.mono (by decide)) (takes_of rfl rfl rfl rfl) rfl (ppa_cons (pp_v 0) (ppa_cons (pp_add pp_int (pp_call (t__law_draw XI GN c) hG (hr.mono (by decide)) (takes_of rfl rfl rfl rfl) rfl (ppa_cons (pp_v 0) (ppa_cons pp_int ppa_nil)))) ppa_nil))))
      (pps_cons (ppq_parT (i := 2) (j := 3) rfl sc__law_right.nd rfl rfl (by first | exact Or.inl rfl | exact Or.inr rfl) (by first | exact Or.inl rfl | exact Or.inr rfl) (by first | exact Or.inl rfl | exact Or.inr rfl) (by first | exact Or.inl rfl | exact Or.inr rfl) (ppa_cons (pp_idx (Nat.lt_of_le_of_lt (Nat.add_le_add_left (by decide) _) hu) (pp_v 1) pp_int) (ppa_cons (pp_idx (Nat.lt_of_le_of_lt (Nat.add_le_add_left (by decide) _) hu) (pp_lst (ppa_cons pp_int (ppa_cons pp_int (ppa_cons (pp_pow pp_int pp_int) ppa_nil)))) (pp_call (t__law_draw XI GN c) hG (hr.mono (by decide)) (takes_of rfl rfl rfl rfl) rfl (ppa_cons (pp_v 0) (ppa_cons pp_int ppa_nil)))) ppa_nil)))
      (pps_cons (ppq_setLc (i := 4) (own := [("_law_k", 11)]) (g := (gName 11)) (by rfl) sc__law_right.nd rfl rfl (sw_true rfl rfl rfl (by decide +kernel)) (ppi_range1 rfl (f_range XI GN c) (ppa_cons (pp_add pp_int (pp_call (t__law_draw XI GN c) hG (hr.mono (by decide)) (takes_of rfl rfl rfl rfl) rfl (ppa_cons (pp_v 0) (ppa_cons pp_int ppa_nil)))) ppa_nil)) (blkOk_by (own := [("_law_k", 11)]) (by kernel_rfl)) (fun _ _ _ _ _ => (pg_name (i := 11) sc__law_right.nd rfl (by first | exact Or.inl rfl | exact Or.inr rfl))) (ad_gName (i := 11) (by intro l e; cases e <;> decide)) (fun _ _ _ _ _ => ppts_nil) (fun _ _ _ _ _ => (pp_call (t__law_row XI GN c) hG (hr.mono (by decide)) takes0 rfl (ppa_cons (pp_v 0) (ppa_cons (pp_v 1) (ppa_cons (pp_v 2) (ppa_cons (pp_v 3) ppa_nil)))))))
      (pps_cons (ppq_set (i := 5) sc__law_right.nd rfl (Or.inl rfl) (pp_call (t_forget XI GN c) hG (hr.mono (by decide)) (takes_of rfl rfl rfl rfl) rfl (ppa_cons (pp_call (t__law_book XI GN c) hG (hr.mono (by decide)) (takes_of rfl rfl rfl rfl) rfl (ppa_cons (pp_v 1) (ppa_cons (pp_v 4) ppa_nil))) (ppa_cons (pp_v 2) ppa_nil))))
      (pps_cons (ppq_set (i := 6) sc__law_right.nd rfl (Or.inl rfl) (pp_call (t__law_told XI GN c) hG (hr.mono (by decide)) (takes_of rfl rfl rfl rfl) rfl (ppa_cons (pp_v 5) ppa_nil)))
      (pps_cons (ppq_if (pt_neX hu (pp_prop (t_Book_moments XI GN c) (cl_Book c) hG (hr.mono (by decide)) (pp_v 5)) (pp_tuple rfl rfl (f_tuple XI GN c) (ppa_cons (pp_sorted rfl rfl (f_sorted XI GN c) (ppa_cons (pp_slX (pp_v 1) (ppo_some pp_int) ppo_none) ppa_nil)) ppa_nil))) (pps_one (ppq_ret pp_bl)) pps_nil)
      (pps_cons (ppq_for (g := (gName 7)) (passes_of rfl) rfl (ppi_range1 rfl (f_range XI GN c) (ppa_cons pp_int ppa_nil)) (pg_name (i := 7) sc__law_right.nd rfl (Or.inl rfl)) (ad_gName (i := 7) (by intro l e; cases e <;> decide))
        (pps_cons (ppq_set (i := 8) sc__law_right.nd rfl (Or.inr rfl) (pp_call (t__law_times XI GN c) hG (hr.mono (by decide)) (takes_of rfl rfl rfl rfl) rfl (ppa_cons (pp_v 0) (ppa_cons (pp_slX (pp_v 1) (ppo_some pp_int) ppo_none) (ppa_cons (pp_v 6) (ppa_cons (pp_v 3) ppa_nil))))))
        (pps_cons (ppq_set (i := 9) sc__law_right.nd rfl (Or.inl rfl) (pp_call (t__law_keeps XI GN c) hG (hr.mono (by decide)) (takes_of rfl rfl rfl rfl) rfl (ppa_cons (pp_v 6) (ppa_cons (pp_v 8) ppa_nil))))
        (pps_cons (ppq_if (pt_neX hu (pp_v 9) (pp_call (t__law_can_be_completed XI GN c) hG (hr.mono (by decide)) (takes_of rfl rfl rfl rfl) rfl (ppa_cons (pp_v 4) (ppa_cons (pp_v 2) (ppa_cons (pp_v 8) ppa_nil))))) (pps_one (ppq_ret pp_bl)) pps_nil)
        (pps_cons (ppq_set (i := 10) sc__law_right.nd rfl (Or.inl rfl) (pp_dict .val rfl rfl (f_dict XI GN c) (ppa_cons (pp_lc (own := [("_law_name", 12)]) (g := (gName 12)) rfl sc__law_right.nd (ppi_any (pp_v 8)) (blkOk_by (own := [("_law_name", 12)]) (by kernel_rfl)) (fun _ _ _ _ _ => (pg_name (i := 12) sc__law_right.nd rfl (by first | exact Or.inl rfl | exact Or.inr rfl))) (ad_gName (i := 12) (by intro l e; cases e <;> decide)) (fun _ _ _ _ _ => ppts_nil) (fun _ _ _ _ _ => (pp_tup (ppa_cons (pp_v 12) (ppa_cons (pp_sub (pp_idx (Nat.lt_of_le_of_lt (Nat.add_le_add_left (by decide) _) hu) (pp_v 8) (pp_v 12)) (pp_pow pp_int pp_int)) ppa_nil))))) ppa_nil)))
        (pps_one (ppq_if (pt_neX hu (pp_v 9) (pp_call (t__law_can_be_completed XI GN c) hG (hr.mono (by decide)) (takes_of rfl rfl rfl rfl) rfl (ppa_cons (pp_v 4) (ppa_cons (pp_v 2) (ppa_cons (pp_v 10) ppa_nil))))) (pps_one (ppq_ret pp_bl)) pps_nil)))))))
      (pps_one (ppq_ret pp_bl)))))))))))
theorem t__law_right (XI : K.In base) (GN : base.Ns mainGlobals mg) (c : obsK K = val0) : DP P w K mg base "_law_right" 1 10 (D__law_right P w K) := by
  obtain ⟨fd, F⟩ := F__law_right c
  exact ⟨_, fd, _, rfl, (fx__law_right XI GN c F), g__law_right XI GN c, F.kp, F.binds (by intro _ _ _ _ _ _ us hl; first | (match us, hl with | [_], _ => rfl) | (match us, hl with | [_, _], _ => rfl) | (match us, hl with | [_, _, _], _ => rfl) | (match us, hl with | [_, _, _, _], _ => rfl) | (match us, hl with | [_, _, _, _, _], _ => rfl) | (match us, hl with | [_, _, _, _, _, _], _ => rfl) | (match us, hl with | [_, _, _, _, _, _, _], _ => rfl) | (match us, hl with | [_, _, _, _, _, _, _, _], _ => rfl) | (match us, hl with | [_, _, _, _, _, _, _, _, _], _ => rfl))⟩
/-! law -/
def N_law : List Str := ["_law_script", "_law_k"]
theorem sc_law : FnScope N_law ["_law_script"] (defScope s_law) := ⟨rfl, rfl, rfl, by decide +kernel, rfl, by decide +kernel, by decide +kernel⟩
noncomputable def D_law (P : Program) (w : World) (K : PySem.W.Frag) : FF := fDef 1 2 (sRet (fCall (fBls fun bs => bs.all id) (fCons (fLc (iRg1 (fCons (fCall gMax (fCons (fC (.int 1)) (fCons (fCall gMin (fCons (fC (.int 4)) (fCons (fCall gLen (fCons (fVar 0) fNil)) fNil))) fNil))) fNil)) (tgName 1) fYes (fDrop (fCall (D__law_right P w K) (fCons (fCall (D__law_pot P w K) (fCons (fVar 0) (fCons (fVar 1) fNil))) fNil))) [1]) fNil)))
theorem fx_law (XI : K.In base) (GN : base.Ns mainGlobals mg) (c : obsK K = val0) {fd : FuncData} {f : Addr} (F : Fun K "law" "law" s_law f fd) : FnX P w K mg base 11 f fd ["_law_script"] (spP 1 (D_law P w K)) :=
    (Fun.pp F sc_law (fun cdv A fr s H E hG hr => by
      have hu : A.units + 3 + 64 < cLine := hr.units
      exact (pps_one (ppq_ret (pp_all rfl rfl (f_all XI GN c) (ppa_cons (pp_lc (own := [("_law_k", 1)]) (g := (gName 1)) rfl sc_law.nd (ppi_range1 rfl (f_range XI GN c) (ppa_cons (pp_max rfl rfl (f_max XI GN c) (ppa_cons pp_int (ppa_cons (pp_min rfl rfl (f_min XI GN c) (ppa_cons pp_int (ppa_cons (pp_len' rfl (f_len XI GN c) (ppa_cons (pp_v 0) ppa_nil)) ppa_nil))) ppa_nil))) ppa_nil)) (blkOk_by (own := [("_law_k", 1)]) (by kernel_rfl)) (fun _ _ _ _ _ => (pg_name (i := 1) sc_law.nd rfl (by first | exact Or.inl rfl | exact Or.inr rfl))) (ad_gName (i := 1) (by intro l e; cases e <;> decide)) (fun _ _ _ _ _ => ppts_nil) (fun _ _ _ _ _ => (pp_drop (pp_call (t__law_right XI GN c) hG (hr.mono (by decide)) takes0 rfl (ppa_cons (pp_call (t__law_pot XI GN c) hG (hr.mono (by decide)) takes0 rfl (ppa_cons (pp_v 0) (ppa_cons (pp_v 1) ppa_nil))) ppa_nil))))) ppa_nil))))))
end
end Pu
set_option Elab.async false
set_option linter.all false
set_option maxRecDepth 100000
set_option maxHeartbeats 4000000
namespace Pu
open L2 PySem PySem.Spec PyProof.Rows E10
open He (ga ma)
structure Ok (t : Tb) : Prop where
  ne : t ≠ []
  nm : ∀ z ∈ keys t, Nm z
  nd : (keys t).Nodup
  le : t.length ≤ 8
def val (t : Tb) (z : Str) : Int := (get t z).getD 0
def ord (t : Tb) : Tb := (srt (keys t)).map fun z => (z, val t z)
theorem val_of {t : Tb} {z : Str} (m : z ∈ keys t) : get t z = some (val t z) := by
  unfold val
  obtain ⟨v, e⟩ := Option.isSome_iff_exists.mp (get_mem.mpr m)
  rw [e]
  rfl
theorem keys_ord (t : Tb) : keys (ord t) = srt (keys t) := by
  unfold keys ord
  rw [List.map_map]
  exact List.map_id _
def shf (t : Tb) (n : Int) : Tb := t.map fun p => (p.1, p.2 + n)
def low (t times : Tb) : Int := minL ((keys t).map fun z => val times z + val t z)
theorem keys_ne {t : Tb} (h : t ≠ []) : keys t ≠ [] := by
  cases t with
  | nil => exact absurd rfl h
  | cons p r => exact List.cons_ne_nil _ _
theorem keys_shf (t : Tb) (n : Int) : keys (shf t n) = keys t := by
  unfold keys shf
  rw [List.map_map]
  rfl
theorem len_ord (t : Tb) : (ord t).length = t.length := by
  unfold ord
  rw [List.length_map, srt_len, len_keys]
theorem Ok.ord {t : Tb} (h : Ok t) : Ok (ord t) := ⟨fun e => h.ne (List.eq_nil_of_length_eq_zero (by rw [← len_ord, e]; rfl)), by rw [keys_ord]; exact fun z m => h.nm z (srt_mem.mp m), by rw [keys_ord]; exact srt_nodup h.nd, by rw [len_ord]; exact h.le⟩
def nl (t s : Tb) : Bool := (keys s).all fun z => decide (z ∈ keys t) && decide (val t z ≤ val s z)
def same (a b : Tb) : Bool := eqK (a.map rowP) (b.map rowP)
def both (a b : Tb) : List Str := insAll (insAll [] (keys a)) (insAll [] (keys b))
theorem both_mem {a b : Tb} {z : Str} : z ∈ both a b ↔ z ∈ keys a ∨ z ∈ keys b := by
  unfold both
  rw [insAll_mem, insAll_mem, insAll_mem]
  simp
theorem both_nd (a b : Tb) : (both a b).Nodup := insAll_nd (insAll_nd List.nodup_nil)
def lst (a b : Tb) (z : Str) : Int := minL (([a, b].filter fun t => decide (z ∈ keys t)).map fun t => val t z)
def least (a b : Tb) : Tb := (srt (both a b)).map fun z => (z, lst a b z)
theorem keys_least (a b : Tb) : keys (least a b) = srt (both a b) := by
  unfold keys least
  rw [List.map_map]
  exact List.map_id _
def putT (t : Tb) (z : Str) (v : Int) : Tb := if z ∈ keys t then t.map (fun p => if p.1 = z then (p.1, v) else p) else t ++ [(z, v)]
theorem put_rows (t : Tb) (z : Str) (v : Int) : putP (t.map rowP) (Sum.inr z) (.int v) = (putT t z v).map rowP := by
  have an : ((t.map rowP).any fun kv => decide (kv.1 = (Sum.inr z : Key))) = decide (z ∈ keys t) := by
    rw [List.any_map]
    by_cases c : z ∈ keys t
    · rw [decide_eq_true c]
      obtain ⟨p, m, e⟩ := List.mem_map.mp c
      exact List.any_eq_true.mpr ⟨p, m, decide_eq_true (by show (Sum.inr p.1 : Key) = _; rw [e])⟩
    · rw [decide_eq_false c]
      refine List.any_eq_false.mpr fun p m e => c ?_
      have := of_decide_eq_true e
      exact List.mem_map.mpr ⟨p, m, Sum.inr.inj this⟩
  unfold putP putT
  rw [an]
  by_cases c : z ∈ keys t
  · rw [decide_eq_true c, if_pos rfl, if_pos c, List.map_map, List.map_map]
    refine List.map_congr_left fun p _ => ?_
    show (if (Sum.inr p.1 : Key) = Sum.inr z then ((Sum.inr p.1 : Key), P.int v) else (Sum.inr p.1, .int p.2)) = rowP (if p.1 = z then (p.1, v) else p)
    by_cases e : p.1 = z
    · rw [if_pos (by rw [e]), if_pos e]
      rfl
    · rw [if_neg (fun h => e (Sum.inr.inj h)), if_neg e]
      rfl
  · rw [decide_eq_false c, if_neg (by decide), if_neg c, List.map_append]
    rfl
theorem put_keys (t : Tb) (z : Str) (v : Int) : keys (putT t z v) = if z ∈ keys t then keys t else keys t ++ [z] := by
  unfold putT
  by_cases c : z ∈ keys t
  · rw [if_pos c, if_pos c]
    unfold keys
    rw [List.map_map]
    refine List.map_congr_left fun p _ => ?_
    show (if p.1 = z then (p.1, v) else p).1 = p.1
    split <;> rfl
  · rw [if_neg c, if_neg c]
    unfold keys
    rw [List.map_append]
    rfl
theorem put_nd {t : Tb} (nd : (keys t).Nodup) (z : Str) (v : Int) : (keys (putT t z v)).Nodup := by
  rw [put_keys]
  split
  · exact nd
  · rename_i c
    rw [List.nodup_append]
    exact ⟨nd, List.nodup_cons.mpr ⟨List.not_mem_nil, List.nodup_nil⟩, fun x hx y hy e => c (by rw [List.mem_singleton.mp hy] at e; exact e ▸ hx)⟩
theorem put_sub {t : Tb} {ns : List Str} (h : ∀ x ∈ keys t, x ∈ ns) {z : Str} (hz : z ∈ ns) (v : Int) : ∀ x ∈ keys (putT t z v), x ∈ ns := by
  rw [put_keys]
  split
  · exact h
  · intro x hx
    rcases List.mem_append.mp hx with m | m
    · exact h x m
    · rw [List.mem_singleton.mp m]
      exact hz
structure Sub (t : Tb) (ns : List Str) : Prop where
  nd : (keys t).Nodup
  sub : ∀ z ∈ keys t, z ∈ ns
theorem Sub.put {t : Tb} {ns : List Str} (h : Sub t ns) {z : Str} (hz : z ∈ ns) (v : Int) : Sub (putT t z v) ns := ⟨put_nd h.nd z v, put_sub h.sub hz v⟩
theorem Sub.len {t : Tb} {ns : List Str} (h : Sub t ns) : t.length ≤ ns.length := by
  have := nodup_le h.nd h.sub
  rw [len_keys] at this
  exact this
theorem dict_pairs {α : Type} (k : α → Str) (v : α → Int) {l : List α} (nd : (l.map k).Nodup) : gDict .val [.v (.lst (l.map fun a => P.tup [.str (k a), .int (v a)]))] μ = .ok (.v (dctP (l.map fun a => (k a, v a)))) μ := by
  show O.or .bad (match pairsP (l.map fun a => P.tup [.str (k a), .int (v a)]) with
    | some l => mkD .val (mergeP [] l) μ
    | none => .bad) = _
  rw [pairs_map k (fun a => P.int (v a)) l, O.or_bad]
  show O.ok (W.v (.dct (mergeP [] (l.map fun a => (Sum.inr (k a), P.int (v a)))))) μ = _
  rw [merge_fold, put_all (fun p : Key × P => p.1) (fun p => p.2)]
  · unfold dctP
    rw [List.nil_append, List.map_map, List.map_map]
    rfl
  · rw [List.map_nil, List.nil_append, List.map_map]
    have : (l.map ((fun p : Key × P => p.1) ∘ fun a => (Sum.inr (k a), P.int (v a)))) = (l.map k).map Sum.inr := by
      rw [List.map_map]
      rfl
    rw [this]
    exact List.Pairwise.map _ (fun a b h e => h (Sum.inr.inj e)) nd
def Nl (t s : Tb) : Prop := ∀ z ∈ keys s, z ∈ keys t ∧ val t z ≤ val s z
theorem mem_ord {t : Tb} {z : Str} : z ∈ keys (ord t) ↔ z ∈ keys t := by rw [keys_ord, srt_mem]
theorem val_none {t : Tb} {z : Str} (h : z ∉ keys t) : val t z = 0 := by
  unfold val
  cases e : get t z with
  | none => rfl
  | some v => exact absurd (get_mem.mp (by rw [e]; rfl)) h
theorem val_at {t : Tb} (nd : (keys t).Nodup) {z : Str} {v : Int} (m : (z, v) ∈ t) : val t z = v := by
  unfold val
  rw [get_of nd m]
  rfl
theorem val_ord {t : Tb} (nd : (keys t).Nodup) (z : Str) : val (ord t) z = val t z := by
  by_cases c : z ∈ keys t
  · exact val_at (by rw [keys_ord]; exact srt_nodup nd) (List.mem_map.mpr ⟨z, srt_mem.mpr c, rfl⟩)
  · rw [val_none c, val_none (fun m => c (mem_ord.mp m))]
theorem low_le {t x : Tb} {z : Str} (m : z ∈ keys t) : low t x ≤ val x z + val t z := minL_le (List.mem_map.mpr ⟨z, m, rfl⟩)
theorem low_at {t x : Tb} (ne : t ≠ []) : ∃ z ∈ keys t, low t x = val x z + val t z := by
  have := minL_mem (l := (keys t).map fun z => val x z + val t z) fun e => keys_ne ne (List.map_eq_nil_iff.mp e)
  obtain ⟨z, m, e⟩ := List.mem_map.mp this
  exact ⟨z, m, e.symm⟩
theorem Nl.refl (t : Tb) : Nl t t := fun z m => ⟨m, Int.le_refl _⟩
theorem Nl.trans {a b c : Tb} (h : Nl a b) (h2 : Nl b c) : Nl a c := fun z m => by
  obtain ⟨m1, l1⟩ := h2 z m
  obtain ⟨m2, l2⟩ := h z m1
  exact ⟨m2, Int.le_trans l2 l1⟩
theorem val_least {a b : Tb} {z : Str} (m : z ∈ keys (least a b)) : val (least a b) z = lst a b z := by
  rw [keys_least] at m
  exact val_at (by rw [keys_least]; exact srt_nodup (both_nd a b)) (List.mem_map.mpr ⟨z, m, rfl⟩)
theorem mem_least {a b : Tb} {z : Str} : z ∈ keys (least a b) ↔ z ∈ keys a ∨ z ∈ keys b := by rw [keys_least, srt_mem, both_mem]
theorem nd_least (a b : Tb) : (keys (least a b)).Nodup := by rw [keys_least]; exact srt_nodup (both_nd a b)
theorem val_shf {t : Tb} (nd : (keys t).Nodup) (n : Int) {z : Str} (m : z ∈ keys t) : val (shf t n) z = val t z + n := by
  have e := get_in (val_of m)
  exact val_at (by rw [keys_shf]; exact nd) (List.mem_map.mpr ⟨(z, val t z), e, rfl⟩)
structure In8 (ns : List Str) (t : Tb) : Prop where
  s : Sub t ns
  ne : t ≠ []
structure Ns (ns : List Str) : Prop where
  nd : ns.Nodup
  nm : ∀ z ∈ ns, Nm z
  le : ns.length ≤ 8
  ne : ns ≠ []
theorem In8.ok {ns : List Str} {t : Tb} (h : In8 ns t) (n : Ns ns) : Ok t := ⟨h.ne, fun z m => n.nm z (h.s.sub z m), h.s.nd, Nat.le_trans h.s.len n.le⟩
theorem In8.ord {ns : List Str} {t : Tb} (h : In8 ns t) : In8 ns (ord t) := ⟨⟨by rw [keys_ord]; exact srt_nodup h.s.nd, fun z m => h.s.sub z (mem_ord.mp m)⟩, fun e => h.ne (List.eq_nil_of_length_eq_zero (by rw [← len_ord, e]; rfl))⟩
end Pu
set_option Elab.async false
set_option linter.all false
set_option maxRecDepth 100000
set_option maxHeartbeats 4000000
namespace Pu
open L2 PySem PySem.Spec PyProof.Rows E10
open He (ga ma)
/-! ### what a run asks of what is behind it -/
abbrev XP := Addr → List (Str × P) → Μ → Prop
abbrev XG := Addr → List (Str × P) → Γ → Μ → Prop
def WO {α : Type} (o : O α) (Q : α → Μ → Prop) (X : XP) : Prop := match o with
  | .ok a m => Q a m
  | .exc C fs m => X C fs m
  | .bad => False
def WS (o : OS) (N : Γ → Μ → Prop) (R : W → Μ → Prop) (B C : Γ → Μ → Prop) (X : XG) : Prop := match o with
  | .nx γ m => N γ m
  | .ret w m => R w m
  | .bk γ m => B γ m
  | .ct γ m => C γ m
  | .exc C fs γ m => X C fs γ m
  | .bad => False
/-- no error comes out -/
def X0 : XP := fun _ _ _ => False
/-! special shapes -/
def IsB (w : W) (k : Bool → Prop) : Prop := ∃ b, w = .v (.bl b) ∧ k b
def IsI (w : W) (k : Int → Prop) : Prop := ∃ i, w = .v (.int i) ∧ k i
def IsV (w : W) (k : P → Prop) : Prop := ∃ p, w = .v p ∧ k p
def IsVs (ws : List W) (k : List P → Prop) : Prop := ∃ ps, vals ws = some ps ∧ k ps
/-- a list of slots, written out -/
def St1 (γ : Γ) (k : Γ → Prop) : Prop := ∃ γ', γ = γ' ∧ k γ'
def Is2 (ws : List W) (k : W → W → Prop) : Prop := ∃ u v, ws = [u, v] ∧ k u v
def Is3 (ws : List W) (k : W → W → W → Prop) : Prop := ∃ u v w, ws = [u, v, w] ∧ k u v w
def Few (ps : List P) (A : Prop) : Prop := ps.length ≤ 100000 ∧ A
def IsRg (ws : List W) (k : Nat → Prop) : Prop := ∃ j : Nat, ws = [.v (.int (j : Int))] ∧ j ≤ 100000 ∧ k j
def IsO (C : Addr) (m : Μ) (w : W) (k : List (Str × P) → Prop) : Prop := ∃ fs, rdI m w = some (C, fs) ∧ k fs
def NoF (fs : List (Str × P)) (f : Str) (A : Prop) : Prop := fs.lookup f = none ∧ A
def IsC (C : Addr) (w : W) (k : List (Str × P) → Prop) : Prop := ∃ fs, w = .v (.ins C fs) ∧ k fs
def LeM (m n : Μ) (A : Prop) : Prop := m.length ≤ n.length ∧ A
def Bi (b : Bool) (A B : Prop) : Prop := (b = true → A) ∧ (b = false → B)
theorem isB {b : Bool} {k : Bool → Prop} (h : k b) : IsB (.v (.bl b)) k := ⟨b, rfl, h⟩
theorem isI {b : Int} {k : Int → Prop} (h : k b) : IsI (.v (.int b)) k := ⟨b, rfl, h⟩
theorem isV {b : P} {k : P → Prop} (h : k b) : IsV (.v b) k := ⟨b, rfl, h⟩
theorem st1 {γ γ' : Γ} {k : Γ → Prop} (e : γ = γ') (h : k γ') : St1 γ k := ⟨γ', e, h⟩
theorem is2 {u v : W} {k : W → W → Prop} (h : k u v) : Is2 [u, v] k := ⟨u, v, rfl, h⟩
theorem is3 {u v w : W} {k : W → W → W → Prop} (h : k u v w) : Is3 [u, v, w] k := ⟨u, v, w, rfl, h⟩
theorem few1 {ps : List P} {A : Prop} (l : ps.length ≤ 100000) (h : A) : Few ps A := ⟨l, h⟩
theorem isRg {j : Nat} {k : Nat → Prop} (l : j ≤ 100000) (h : k j) : IsRg [.v (.int (j : Int))] k := ⟨j, rfl, l, h⟩
theorem isRgL {i : Int} (j : Nat) {k : Nat → Prop} (e : i = (j : Int)) (l : j ≤ 100000) (h : k j) : IsRg [.v (.int i)] k := ⟨j, by rw [e], l, h⟩
theorem isO {C : Addr} {m : Μ} {fs : List (Str × P)} {k : List (Str × P) → Prop} (h : k fs) : IsO C m (.v (.ins C fs)) k := ⟨fs, rfl, h⟩
theorem noF {fs : List (Str × P)} {f : Str} {A : Prop} (e : fs.lookup f = none) (h : A) : NoF fs f A := ⟨e, h⟩
theorem isC1 {C : Addr} {fs : List (Str × P)} {k : List (Str × P) → Prop} (h : k fs) : IsC C (.v (.ins C fs)) k := ⟨fs, rfl, h⟩
theorem leM {m n : Μ} {A : Prop} (l : m.length ≤ n.length) (h : A) : LeM m n A := ⟨l, h⟩
theorem isVs0 {k : List P → Prop} (h : k []) : IsVs [] k := ⟨[], rfl, h⟩
theorem isVs1 {p : P} {ws : List W} {k : List P → Prop} (h : IsVs ws fun ps => k (p :: ps)) : IsVs (.v p :: ws) k := by
  obtain ⟨ps, e, h⟩ := h
  exact ⟨p :: ps, by rw [vals, e]; rfl, h⟩
theorem vals_map : ∀ ps : List P, vals (ps.map W.v) = some ps
  | [] => rfl
  | p :: r => by
    rw [List.map_cons, vals, vals_map r]
    rfl
theorem isVsM {ps : List P} {k : List P → Prop} (h : k ps) : IsVs (ps.map W.v) k := ⟨ps, vals_map ps, h⟩
theorem isVsA : ∀ {ps : List P} {ws : List W} {k : List P → Prop}, IsVs ws (fun qs => k (ps ++ qs)) → IsVs (ps.map W.v ++ ws) k
  | [], _, _, h => h
  | p :: r, ws, k, h => isVs1 (isVsA (ps := r) (ws := ws) h)
section
variable {A B : Prop} {b c : Bool} {p : Prop} [Decidable p]
theorem bi_tt (h : A) : Bi true A B := ⟨fun _ => h, fun z => by cases z⟩
theorem bi_ff (h : B) : Bi false A B := ⟨fun z => (by cases z), fun _ => h⟩
theorem bi_not (h : Bi b B A) : Bi (!b) A B := by cases b <;> exact ⟨fun z => h.2 (by simpa using z), fun z => h.1 (by simpa using z)⟩
theorem bi_T (h : b = true) (a : A) : Bi b A B := by subst h; exact bi_tt a
theorem bi_F (h : b = false) (a : B) : Bi b A B := by subst h; exact bi_ff a
theorem bi_dT (h : p) (a : A) : Bi (decide p) A B := bi_T (decide_eq_true h) a
theorem bi_dF (h : ¬ p) (a : B) : Bi (decide p) A B := bi_F (decide_eq_false h) a
theorem bi_if (h : p → A) (g : ¬ p → B) : Bi (decide p) A B := ⟨fun z => h (of_decide_eq_true z), fun z => g (of_decide_eq_false z)⟩
theorem bi_by (h : b = true → A) (g : b = false → B) : Bi b A B := ⟨h, g⟩
theorem bi_bneF (h : Bi b A B) : Bi (b != false) A B := by simpa using h
theorem bi_bneT (h : Bi b B A) : Bi (b != true) A B := by cases b <;> simpa [Bi] using h
end
section
variable {α β : Type} {Q : α → Μ → Prop} {X : XP} {o : O α} {μ m : Μ} {a : α}
theorem wo_ok (h : Q a m) : WO (.ok a m) Q X := h
theorem wo_eq (e : o = .ok a m) (h : Q a m) : WO o Q X := by rw [e]; exact h
theorem wo_mono {Q' : α → Μ → Prop} {X' : XP} (h : WO o Q X) (hq : ∀ a m, Q a m → Q' a m) (hx : ∀ C fs m, X C fs m → X' C fs m) : WO o Q' X' := by
  cases o with
  | ok a m => exact hq _ _ h
  | exc C fs m => exact hx _ _ _ h
  | bad => exact h
theorem wo_mid {Q' : α → Μ → Prop} (h : WO o Q' X) (hq : ∀ a m, Q' a m → Q a m) : WO o Q X := wo_mono h hq fun _ _ _ z => z
theorem wo_to {Q' : α → Μ → Prop} (h : WO o Q' X0) (hq : ∀ a m, Q' a m → Q a m) : WO o Q X := wo_mono h hq fun _ _ _ z => z.elim
theorem wo_bind {f : α → Μ → O β} {Q : β → Μ → Prop} (h : WO o (fun a m => WO (f a m) Q X) X) : WO (o.bind f) Q X := by
  cases o <;> exact h
theorem wo_nx (h : WO o Q X0) : WO o.nx Q X := by
  cases o with
  | ok a m => exact h
  | exc C fs m => exact h.elim
  | bad => exact h
theorem wo_s {γ : Γ} {f : α → Μ → OS} {N R B C} {Y : XG} (h : WO o (fun a m => WS (f a m) N R B C Y) fun C fs m => Y C fs γ m) : WS (o.s γ f) N R B C Y := by
  cases o <;> exact h
/-- what was said of it is so -/
theorem wo_out (h : WO o Q X0) : ∃ a m, o = .ok a m ∧ Q a m := by
  cases o with
  | ok a m => exact ⟨a, m, rfl, h⟩
  | exc C fs m => exact h.elim
  | bad => exact h.elim
end
/-! ### kinds -/
def tyN : P → Option String
  | .non => some "NoneType"
  | .bl _ => some "bool"
  | .int _ => some "int"
  | .str _ => some "str"
  | .tup _ => some "tuple"
  | .lst _ => some "list"
  | .dct _ => some "dict"
  | _ => none
theorem tyN_ok {cs : List Addr} {m : Μ} {p : P} {a : String} (h : tyN p = some a) : tyP cs m (.v p) = some (.type a) ∧ a ∈ tyNs := by
  cases p <;> cases h <;> exact ⟨rfl, by decide⟩
def kitN (a b : String) : Bool := a == b || (a == "bool" && b == "int")
theorem kit_eq' : (tyNs.all fun a => tyMs.all fun b => decide (kitB a b = some (kitN a b))) = true := by decide +kernel
theorem kit_eq {a b : String} (ha : a ∈ tyNs) (hb : b ∈ tyMs) : kitB a b = some (kitN a b) := of_decide_eq_true (List.all_eq_true.mp (List.all_eq_true.mp kit_eq' a ha) b hb)
/-! ### expressions -/
section
variable {Q : W → Μ → Prop} {QA : List W → Μ → Prop} {QB : Bool → Μ → Prop} {X : XP} {γ : Γ} {μ m : Μ} {F F1 F2 F3 U : EF} {A : AF} {T T2 : TF} {FF' : FF} {f g : W → W → Μ → O W}
theorem wo_var {i : Nat} {w : W} (e : γ[i]? = some (some w)) (h : Q w μ) : WO (fVar i γ μ) Q X := by
  unfold fVar
  rw [e]
  exact h
theorem wo_c {p : P} (h : Q (.v p) μ) : WO (fC p γ μ) Q X := h
theorem wo_op (h : WO (F1 γ μ) (fun x m => WO (F2 γ m) (fun y m => WO (f x y m) Q X) X) X) : WO (fOp f F1 F2 γ μ) Q X := wo_bind (wo_mono h (fun _ _ z => wo_bind z) fun _ _ _ z => z)
theorem wo_un {f : W → Μ → O W} (h : WO (F γ μ) (fun x m => WO (f x m) Q X) X) : WO (fUn f F γ μ) Q X := wo_bind h
theorem wo_call (h : WO (A γ μ) (fun ws m => WO (FF' ws m) Q X) X) : WO (fCall FF' A γ μ) Q X := wo_bind h
theorem wa_nil (h : QA [] μ) : WO (fNil γ μ) QA X := h
theorem wa_cons (h : WO (F γ μ) (fun w m => WO (A γ m) (fun ws m => QA (w :: ws) m) X) X) : WO (fCons F A γ μ) QA X := wo_bind (wo_mono h (fun _ _ z => wo_bind z) fun _ _ _ z => z)
theorem wa_star (h : WO (F γ μ) (fun w m => ∃ ps, seqP m w = some ps ∧ WO (A γ m) (fun ws m => QA (ps.map W.v ++ ws) m) X) X) : WO (fStar F A γ μ) QA X := wo_bind (wo_mono h (fun w m ⟨ps, e, z⟩ => by rw [e]; exact wo_bind z) fun _ _ _ z => z)
theorem wt_test (h : WO (F γ μ) (fun w m => IsB w fun b => QB b m) X) : WO (fTest F γ μ) QB X := wo_bind (wo_mono h (fun w m ⟨b, e, z⟩ => by subst e; exact z) fun _ _ _ z => z)
theorem wt_not (h : WO (T γ μ) (fun b m => QB (!b) m) X) : WO (fNotT T γ μ) QB X := wo_bind h
theorem wt_and (h : WO (T γ μ) (fun b m => Bi b (WO (T2 γ m) QB X) (QB false m)) X) : WO (fAndT T T2 γ μ) QB X := wo_bind (wo_mono h (fun b m z => by cases b; exact z.2 rfl; exact z.1 rfl) fun _ _ _ z => z)
theorem wt_or (h : WO (T γ μ) (fun b m => Bi b (QB true m) (WO (T2 γ m) QB X)) X) : WO (fOrT T T2 γ μ) QB X := wo_bind (wo_mono h (fun b m z => by cases b; exact z.2 rfl; exact z.1 rfl) fun _ _ _ z => z)
theorem wt_yes (h : QB true μ) : WO (fYes γ μ) QB X := h
theorem wo_andV (h : WO (F γ μ) (fun w m => IsB w fun b => Bi b (WO (U γ m) Q X) (Q (.v (.bl false)) m)) X) : WO (fAndV F U γ μ) Q X := wo_bind (wo_mono h (fun w m ⟨b, e, z⟩ => by subst e; cases b; exact z.2 rfl; exact z.1 rfl) fun _ _ _ z => z)
theorem wo_orV (h : WO (F γ μ) (fun w m => IsB w fun b => Bi b (Q (.v (.bl true)) m) (WO (U γ m) Q X)) X) : WO (fOrV F U γ μ) Q X := wo_bind (wo_mono h (fun w m ⟨b, e, z⟩ => by subst e; cases b; exact z.2 rfl; exact z.1 rfl) fun _ _ _ z => z)
theorem wo_notV (h : WO (F γ μ) (fun w m => IsB w fun b => Q (.v (.bl (!b))) m) X) : WO (fNotV F γ μ) Q X := wo_bind (wo_mono h (fun w m ⟨b, e, z⟩ => by subst e; exact z) fun _ _ _ z => z)
theorem wo_if (h : WO (T γ μ) (fun b m => Bi b (WO (F1 γ m) Q X) (WO (F2 γ m) Q X)) X) : WO (fIf T F1 F2 γ μ) Q X := wo_bind (wo_mono h (fun b m z => by cases b; exact z.2 rfl; exact z.1 rfl) fun _ _ _ z => z)
theorem wo_chain (h : WO (F1 γ μ) (fun x m => WO (F2 γ m) (fun y m => WO (f x y m) (fun z m => IsB z fun b => Bi b (WO (F3 γ m) (fun u m => WO (g y u m) Q X) X) (Q (.v (.bl false)) m)) X) X) X) : WO (fChain f g F1 F2 F3 γ μ) Q X :=
  wo_bind (wo_mono h (fun x m h => wo_bind (wo_mono h (fun y m h => wo_bind (wo_mono h (fun z m ⟨b, e, h⟩ => by
    subst e
    cases b
    · exact h.2 rfl
    · exact wo_bind (h.1 rfl)) fun _ _ _ z => z)) fun _ _ _ z => z)) fun _ _ _ z => z)
theorem wo_seq {mk : List P → P} (h : WO (A γ μ) (fun ws m => IsVs ws fun ps => Few ps (Q (.v (mk ps)) m)) X) : WO (fSeq mk A γ μ) Q X := wo_bind (wo_mono h (fun ws m ⟨ps, e, l, z⟩ => by rw [e]; simp only [l, if_true]; exact z) fun _ _ _ z => z)
theorem wo_lstC (h : WO (A γ μ) (fun ws m => IsVs ws fun ps => Few ps (Q (.loc m.length) (m ++ [.lst ps]))) X) : WO (fLstC A γ μ) Q X := wo_bind (wo_mono h (fun ws m ⟨ps, e, l, z⟩ => by rw [e]; simp only [l, if_true]; exact z) fun _ _ _ z => z)
theorem wo_fld {C : Addr} {fl : Str} (h : WO (F γ μ) (fun w m => WO (fldP C fl w m) Q X) X) : WO (fFld C fl F γ μ) Q X := wo_bind h
theorem wo_fldv {C : Addr} {fl : Str} {fs : List (Str × P)} {p : P} (e : fs.lookup fl = some p) (h : Q (.v p) m) : WO (fldP C fl (.v (.ins C fs)) m) Q X := by
  unfold fldP
  simp only [rdI, if_true, e]
  exact h
theorem wo_meth {C : Addr} {mt : Str} (h : WO (F γ μ) (fun w m => IsO C m w fun fs => NoF fs mt (WO (A γ m) (fun ws m => WO (FF' (w :: ws) m) Q X) X)) X) : WO (fMeth C mt FF' F A γ μ) Q X :=
  wo_bind (wo_mono h (fun w m ⟨fs, e, l, z⟩ => by rw [e]; simp only [l, and_self, if_true]; exact wo_bind z) fun _ _ _ z => z)
theorem wo_prop {C : Addr} (h : WO (F γ μ) (fun w m => IsO C m w fun fs => WO (FF' [w] m) Q X0) X) : WO (fProp C FF' F γ μ) Q X :=
  wo_bind (wo_mono h (fun w m ⟨fs, e, z⟩ => by rw [e]; simp only [if_true]; exact wo_nx z) fun _ _ _ z => z)
theorem wo_callO {C : Addr} (h : WO (F γ μ) (fun w m => IsC C w fun _ => WO (A γ m) (fun ws m => WO (FF' (w :: ws) m) Q X) X) X) : WO (fCallO C FF' F A γ μ) Q X :=
  wo_bind (wo_mono h (fun w m ⟨fs, e, z⟩ => by
    subst e
    have t : ∀ m, isC C m (.v (.ins C fs)) = true := fun m => decide_eq_true rfl
    simp only [t, if_true]
    exact wo_bind z) fun _ _ _ z => z)
/-- a thing made and let go as a value -/
theorem wo_mk {C : Addr} (h : WO (A γ μ) (fun ws m => LeM μ m (WO ((makeP C FF' ws m).bind (frzP m.length)) Q X)) X) : WO (fFrz (fMake C FF' A) γ μ) Q X := by
  have e : fFrz (fMake C FF' A) γ μ = (A γ μ).bind fun ws m => (makeP C FF' ws m).bind (frzP μ.length) := by
    rw [fFrz_eq, fMake_eq]
    cases A γ μ <;> rfl
  rw [e]
  refine wo_bind (wo_mono h (fun ws m ⟨l, z⟩ => ?_) fun _ _ _ z => z)
  unfold makeP at z ⊢
  cases o : FF' (W.loc m.length :: ws) (m ++ [PC.ins C []]) with
  | bad => rw [o] at z; exact z
  | exc C fs m2 => rw [o] at z; exact z
  | ok w2 m2 =>
    rw [o] at z
    cases w2 with
    | loc j => exact z
    | v p =>
      cases p with
      | non =>
        show WO (frzP μ.length (.loc m.length) m2) Q X
        have z' : WO (frzP m.length (.loc m.length) m2) Q X := z
        unfold frzP at z' ⊢
        simp only [l, Nat.le_refl, and_true] at z' ⊢
        exact z'
      | _ => exact z
theorem wo_frz (h : WO (F γ μ) (fun w m => WO (frzP μ.length w m) Q X) X) : WO (fFrz F γ μ) Q X := wo_bind h
theorem wo_frzv {n : Nat} {p : P} (h : Q (.v p) m) : WO (frzP n (.v p) m) Q X := h
theorem wo_drop (h : WO (F γ μ) (fun w m => IsV w fun p => Q (.v p) (m.take μ.length)) X) : WO (fDrop F γ μ) Q X := wo_bind (wo_mono h (fun w m ⟨p, e, z⟩ => by subst e; exact z) fun _ _ _ z => z)
theorem wo_own2 {C : Addr} {fs gs : List (Str × P)} (h : WO (FF' [.v (.ins C fs), .v (.ins C gs)] m) Q X0) : WO (fOwn2 C FF' (.v (.ins C fs)) (.v (.ins C gs)) m) Q X := by
  have t : ∀ fs, isC C m (.v (.ins C fs)) = true := fun fs => decide_eq_true rfl
  unfold fOwn2
  simp only [t, and_self, if_true]
  exact wo_nx h
theorem wo_ownI {C : Addr} {fs : List (Str × P)} {i : Int} (h : WO (FF' [.v (.ins C fs), .v (.int i)] m) Q X0) : WO (fOwnI C FF' (.v (.ins C fs)) (.v (.int i)) m) Q X := by
  have t : ∀ fs, isC C m (.v (.ins C fs)) = true := fun fs => decide_eq_true rfl
  unfold fOwnI
  simp only [t, and_self, if_true]
  exact wo_nx h
theorem wo_iown {C : Addr} {fs : List (Str × P)} {i : Int} (h : WO (FF' [.v (.ins C fs), .v (.int i)] m) Q X0) : WO (fIOwn C FF' (.v (.int i)) (.v (.ins C fs)) m) Q X := by
  have t : ∀ fs, isC C m (.v (.ins C fs)) = true := fun fs => decide_eq_true rfl
  unfold fIOwn
  simp only [t, and_self, if_true]
  exact wo_nx h
theorem wo_ixO {C : Addr} {fs : List (Str × P)} {w : W} (h : WO (FF' [.v (.ins C fs), w] m) Q X0) : WO (fIxO C FF' (.v (.ins C fs)) w m) Q X := by
  have t : ∀ fs, isC C m (.v (.ins C fs)) = true := fun fs => decide_eq_true rfl
  unfold fIxO
  simp only [t, if_true]
  exact wo_nx h
theorem wo_eqO {C : Addr} {cs : List Addr} {fs gs : List (Str × P)} (hc : C ∈ cs) (h : WO (FF' [.v (.ins C fs), .v (.ins C gs)] m) Q X0) : WO (fEqO C cs FF' (.v (.ins C fs)) (.v (.ins C gs)) m) Q X := by
  have t : ∀ fs, isC C m (.v (.ins C fs)) = true := fun fs => decide_eq_true rfl
  have t2 : tyP cs m (.v (.ins C gs)) = some (.ref C) := if_pos hc
  have t3 : nfP cs (.ref C) = true := decide_eq_true hc
  unfold fEqO
  simp only [t, t2, t3, if_true]
  exact wo_nx h
theorem wo_neO {C : Addr} {cs : List Addr} {fs gs : List (Str × P)} (hc : C ∈ cs) (h : WO (FF' [.v (.ins C fs), .v (.ins C gs)] m) (fun w m => IsB w fun b => Q (.v (.bl (!b))) m) X0) : WO (fNeO C cs FF' (.v (.ins C fs)) (.v (.ins C gs)) m) Q X :=
  wo_bind (wo_mono (wo_eqO (X := X0) hc h) (fun w m ⟨b, e, z⟩ => by subst e; exact z) fun _ _ _ z => z.elim)
theorem wo_inO {C : Addr} {fs : List (Str × P)} {w : W} {neg : Bool} (h : WO (FF' [.v (.ins C fs), w] m) (fun w m => IsB w fun b => Q (.v (.bl (if neg then !b else b))) m) X0) : WO (fInO C neg FF' w (.v (.ins C fs)) m) Q X := by
  have t : ∀ fs, isC C m (.v (.ins C fs)) = true := fun fs => decide_eq_true rfl
  unfold fInO
  simp only [t, if_true]
  exact wo_bind (wo_nx (wo_mono h (fun w m ⟨b, e, z⟩ => by subst e; exact z) fun _ _ _ z => z))
theorem wo_bm {Ty : String} {f : W → List W → Μ → O W} (h : WO (F γ μ) (fun w m => isTy Ty m w = true ∧ WO (A γ m) (fun ws m => WO (f w ws m) Q X) X) X) : WO (fBM Ty f F A γ μ) Q X := wo_bind (wo_mono h (fun w m ⟨e, z⟩ => by simp only [e, if_true]; exact wo_bind z) fun _ _ _ z => z)
theorem wo_sl {f : W → Option Int → Option Int → Μ → O W} {L Hi : OF} (h : WO (F γ μ) (fun w m => WO (L γ m) (fun lo m => WO (Hi γ m) (fun hi m => WO (f w lo hi m) Q X) X) X) X) : WO (fSl f F L Hi γ μ) Q X := wo_bind (wo_mono h (fun w m h => wo_bind (wo_mono h (fun lo m h => wo_bind h) fun _ _ _ z => z)) fun _ _ _ z => z)
theorem wq_none {QO : Option Int → Μ → Prop} (h : QO none μ) : WO (oNone γ μ) QO X := h
theorem wq_some {QO : Option Int → Μ → Prop} (h : WO (F γ μ) (fun w m => IsI w fun i => QO (some i) m) X) : WO (oSome F γ μ) QO X := wo_bind (wo_mono h (fun w m ⟨b, e, z⟩ => by subst e; exact z) fun _ _ _ z => z)
theorem wo_isiT {cs : List Addr} (h : WO (F γ μ) (fun w m => WO (A γ m) (fun ws m => ∃ t us b, tyP cs m w = some t ∧ clsAll ws = some us ∧ us.length ≤ 10 ∧ kitAnyP cs t us = some b ∧ Q (.v (.bl b)) m) X) X) : WO (fIsiT cs F A γ μ) Q X :=
  wo_bind (wo_mono h (fun w m h => wo_bind (wo_mono h (fun ws m ⟨t, us, b, e1, e2, l, e3, z⟩ => by rw [e1, e2]; simp only [l, if_true, e3]; exact z) fun _ _ _ z => z)) fun _ _ _ z => z)
theorem wo_isi {cs : List Addr} {p : P} {a b : String} {c : Bool} (ha : tyN p = some a) (hb : b ∈ tyMs) (e : kitN a b = c) (h : Q (.v (.bl c)) m) : WO (fIsi cs [.v p, .v (.ty b)] m) Q X := by
  obtain ⟨t1, t2⟩ := tyN_ok (cs := cs) (m := m) ha
  unfold fIsi
  simp only [t1, clsP, kitP, kit_eq t2 hb, e]
  exact h
theorem wo_isiO {cs : List Addr} {C D : Addr} {fs : List (Str × P)} (hC : C ∈ cs) (hD : D ∈ cs) (h : Q (.v (.bl (decide (C = D)))) m) : WO (fIsi cs [.v (.ins C fs), .v (.ref D)] m) Q X := by
  unfold fIsi
  simp only [tyP, clsP, kitP, hC, hD, and_self, if_true]
  exact h
theorem wo_isiO1 {cs : List Addr} {C : Addr} {fs : List (Str × P)} (hC : C ∈ cs) (h : Q (.v (.bl true)) m) : WO (fIsi cs [.v (.ins C fs), .v (.ref C)] m) Q X := wo_isiO hC hC (by rw [decide_eq_true rfl]; exact h)
theorem wo_isiOb {cs : List Addr} {C : Addr} {b : String} {fs : List (Str × P)} (hC : C ∈ cs) (hb : b ∈ ["int", "str", "bool", "list", "tuple", "dict"]) (h : Q (.v (.bl false)) m) : WO (fIsi cs [.v (.ins C fs), .v (.ty b)] m) Q X := by
  unfold fIsi
  simp only [tyP, clsP, kitP, hC, hb, and_self, if_true]
  exact h
theorem wo_isibO {cs : List Addr} {C : Addr} {p : P} {a : String} (ha : tyN p = some a) (hC : C ∈ cs) (h : Q (.v (.bl false)) m) : WO (fIsi cs [.v p, .v (.ref C)] m) Q X := by
  obtain ⟨t1, t2⟩ := tyN_ok (cs := cs) (m := m) ha
  unfold fIsi
  simp only [t1, clsP, kitP, hC, show a ∈ ["NoneType", "bool", "int", "str", "tuple", "list", "dict"] from t2, and_self, if_true]
  exact h
theorem wo_get2 {F E Z : EF} (h : WO (F γ μ) (fun w m => (rdD m w).isSome = true ∧ WO (E γ m) (fun y m => WO (Z γ m) (fun z m => WO (mDGet2 w [y, z] m) Q X) X) X) X) : WO (fGet2 F E Z γ μ) Q X :=
  wo_bind (wo_mono h (fun w m ⟨e, h⟩ => by simp only [e, if_true]; exact wo_bind (wo_mono h (fun _ _ z => wo_bind z) fun _ _ _ z => z)) fun _ _ _ z => z)
theorem wo_or {β : Type} {o o2 : O β} {Q : β → Μ → Prop} (h : WO o Q X) : WO (o.or o2) Q X := by
  cases o with
  | ok a m => exact h
  | exc C fs m => exact h
  | bad => exact h.elim
theorem wo_orR {β : Type} {o o2 : O β} {Q : β → Μ → Prop} (e : o = .bad) (h : WO o2 Q X) : WO (o.or o2) Q X := by
  rw [e]
  cases o2 <;> exact h
/-! walks -/
variable {QI : List P → Μ → Prop} {I : IF}
theorem wi_any (h : WO (F γ μ) (fun w m => WO (iAnyW w m) QI X) X) : WO (iAny F γ μ) QI X := wo_bind h
theorem wi_vals (h : WO (F γ μ) (fun w m => WO (itV w m) QI X) X) : WO (iValsP F γ μ) QI X := wo_bind h
theorem wi_items (h : WO (F γ μ) (fun w m => WO (itI w m) QI X) X) : WO (iItemsP F γ μ) QI X := wo_bind h
theorem wi_rg1 (h : WO (A γ μ) (fun ws m => IsRg ws fun j => QI (rngP 0 j) m) X) : WO (iRg1 A γ μ) QI X := wo_bind (wo_mono h (fun ws m ⟨j, e, l, z⟩ => by
  subst e
  simp only
  rw [if_pos (by omega)]
  rw [Int.toNat_natCast]
  exact z) fun _ _ _ z => z)
theorem wi_enum (h : WO (A γ μ) (fun ws m => ∃ p ps, ws = [.v p] ∧ (p = .lst ps ∨ p = .tup ps) ∧ ps.length ≤ 100000 ∧ QI (numP ps) m) X) : WO (iEnumP A γ μ) QI X := by
  unfold iEnumP iEnumL iEnumTp
  have num : ∀ ps : List P, (numP ps).length = ps.length := fun ps => by unfold numP; rw [List.length_map, List.length_range]
  cases o : A γ μ with
  | bad => rw [o] at h; exact h
  | exc C fs m => rw [o] at h; exact h
  | ok ws m =>
    rw [o] at h
    obtain ⟨p, ps, rfl, hp, l, z⟩ := h
    have fe : few (numP ps) m = .ok (numP ps) m := few_le (by rw [num]; exact l)
    rcases hp with rfl | rfl
    · refine wo_or ?_
      show WO (few (numP ps) m) QI X
      rw [fe]
      exact z
    · refine wo_orR rfl ?_
      show WO (few (numP ps) m) QI X
      rw [fe]
      exact z
/-! comprehensions -/
theorem wo_lc {t : GF} {T : TF} {E : EF} {vs : List Nat} (h : WO (I γ μ) (fun ps m => WO (lcGo t T E (wipeG γ vs) ps m) (fun qs m => Q (.v (.lst qs)) m) X) X) : WO (fLc I t T E vs γ μ) Q X := wo_bind (wo_mono h (fun _ _ z => wo_bind z) fun _ _ _ z => z)
theorem wo_dc {t : GF} {T : TF} {Ek Ev : EF} {vs : List Nat} (h : WO (I γ μ) (fun ps m => WO (dcGo t T Ek Ev (wipeG γ vs) ps [] m) (fun qs m => Q (.v (.dct qs)) m) X) X) : WO (fDc I t T Ek Ev vs γ μ) Q X := wo_bind (wo_mono h (fun _ _ z => wo_bind z) fun _ _ _ z => z)
theorem wl_go {t : GF} {T : TF} {E : EF} (Inv : Nat → List P → Μ → Prop) : ∀ {ps : List P} {n : Nat} {acc : List P} {m : Μ}, Inv n acc m → (∀ j p acc m, ps[j]? = some p → Inv (n + j) acc m → ∃ γ1, t p γ = some γ1 ∧ WO (T γ1 m) (fun b m => Bi b (WO (E γ1 m) (fun w m => IsV w fun q => Inv (n + j + 1) (acc ++ [q]) m) X0) (Inv (n + j + 1) acc m)) X0) →
    WO (lcGo t T E γ ps m) (fun qs m => Inv (n + ps.length) (acc ++ qs) m) X
  | [], n, acc, m, i, _ => by
    show Inv _ (acc ++ []) m
    rw [List.append_nil]
    exact i
  | p :: r, n, acc, m, i, h => by
    obtain ⟨γ1, e, w1⟩ := h 0 p acc m rfl i
    rw [lcGo, e]
    have ih := fun acc m i => wl_go (t := t) (T := T) (E := E) Inv (ps := r) (n := n + 1) (acc := acc) (m := m) i fun j p acc m hp hi => by
      have := h (j + 1) p acc m hp (by rw [show n + (j + 1) = n + 1 + j by omega]; exact hi)
      rw [show n + (j + 1) + 1 = n + 1 + j + 1 by omega] at this
      exact this
    refine wo_bind (wo_nx (wo_mono w1 (fun b m2 z => ?_) fun _ _ _ z => z))
    have len : n + (p :: r).length = n + 1 + r.length := by rw [List.length_cons]; omega
    cases b with
    | true =>
      simp only [if_true]
      refine wo_bind (wo_nx (wo_mono (z.1 rfl) (fun w m3 ⟨q, eq, z2⟩ => ?_) fun _ _ _ z => z))
      subst eq
      refine wo_bind (wo_mono (ih (acc ++ [q]) m3 z2) (fun qs m4 z3 => ?_) fun _ _ _ z => z)
      show Inv _ (acc ++ q :: qs) m4
      rw [len]
      simpa using z3
    | false =>
      simp only [Bool.false_eq_true, if_false]
      refine wo_mono (ih acc m2 (z.2 rfl)) (fun qs m4 z3 => ?_) fun _ _ _ z => z
      rw [len]
      exact z3
/-- each thing gives one, a state goes along -/
theorem wl_map {t : GF} {E : EF} {QL : List P → Μ → Prop} (S : Μ → Prop) (R : P → P → Prop) {ps : List P} {m : Μ} (s : S m) (h : ∀ p ∈ ps, ∀ m, S m → ∃ γ1, t p γ = some γ1 ∧ WO (E γ1 m) (fun w m => IsV w fun q => R p q ∧ S m) X0)
    (k : ∀ qs m, Paired R ps qs → S m → QL qs m) : WO (lcGo t fYes E γ ps m) QL X := by
  have go : ∀ {ps : List P} {m : Μ}, S m → (∀ p ∈ ps, ∀ m, S m → ∃ γ1, t p γ = some γ1 ∧ WO (E γ1 m) (fun w m => IsV w fun q => R p q ∧ S m) X0) → ∃ qs m', lcGo t fYes E γ ps m = .ok qs m' ∧ S m' ∧ Paired R ps qs := by
    intro ps m s h
    refine lc_run S R rfl s fun p hp m s => ?_
    obtain ⟨γ1, e, w⟩ := h p hp m s
    obtain ⟨w, m', e2, q, rfl, r, s'⟩ := wo_out w
    exact ⟨γ1, q, m', e, e2, s', r⟩
  obtain ⟨qs, m', e, s', pr⟩ := go s h
  rw [e]
  exact k qs m' pr s'
/-- each thing gives one, nothing changes -/
theorem wl_all {α : Type} {t : GF} {E : EF} {QL : List P → Μ → Prop} (g : α → P) (e : α → P) {l : List α} {m : Μ} (h : ∀ a ∈ l, ∃ γ1, t (g a) γ = some γ1 ∧ WO (E γ1 m) (fun w m' => w = .v (e a) ∧ m' = m) X0) (k : QL (l.map e) m) : WO (lcGo t fYes E γ (l.map g) m) QL X := by
  rw [lc_all g e (l := l) fun a ha => ?_]
  · exact k
  · obtain ⟨γ1, e1, w⟩ := h a ha
    obtain ⟨w, m', e2, rfl, rfl⟩ := wo_out w
    exact ⟨γ1, e1, e2⟩
theorem wl_on {α : Type} {t : GF} {T : TF} {E : EF} {QL : List P → Μ → Prop} (g : α → P) (c : α → Bool) (e : α → P) {l : List α} {m : Μ} (h : ∀ a ∈ l, ∃ γ1, t (g a) γ = some γ1 ∧ WO (T γ1 m) (fun b m' => b = c a ∧ m' = m) X0 ∧ (c a = true → WO (E γ1 m) (fun w m' => w = .v (e a) ∧ m' = m) X0)) (k : QL ((l.filter c).map e) m) : WO (lcGo t T E γ (l.map g) m) QL X := by
  rw [lc_on g c e (l := l) fun a ha => ?_]
  · exact k
  · obtain ⟨γ1, e1, w, w2⟩ := h a ha
    obtain ⟨b, m', e2, rfl, rfl⟩ := wo_out w
    refine ⟨γ1, e1, e2, fun z => ?_⟩
    obtain ⟨w, m', e2, rfl, rfl⟩ := wo_out (w2 z)
    exact e2
/-- the same for a dict by unlike keys -/
theorem wd_all {α : Type} {t : GF} {Ek Ev : EF} {QL : List (Key × P) → Μ → Prop} (g : α → P) (kk : α → Key) (v : α → P) {l : List α} {m : Μ} (nd : (l.map kk).Nodup) (h : ∀ a ∈ l, ∃ γ1 kp, t (g a) γ = some γ1 ∧ keyP kp = some (kk a) ∧ WO (Ek γ1 m) (fun w m' => w = .v kp ∧ m' = m) X0 ∧ WO (Ev γ1 m) (fun w m' => w = .v (v a) ∧ m' = m) X0) (k : QL (l.map fun a => (kk a, v a)) m) : WO (dcGo t fYes Ek Ev γ (l.map g) [] m) QL X := by
  rw [dc_all g kk v (l := l) nd fun a ha => ?_]
  · exact k
  · obtain ⟨γ1, kp, e1, ek, w, w2⟩ := h a ha
    obtain ⟨_, m', e2, rfl, rfl⟩ := wo_out w
    obtain ⟨_, m2, e3, rfl, rfl⟩ := wo_out w2
    exact ⟨γ1, kp, e1, e2, ek, e3⟩
theorem wo_lock {i : Nat} {p : P} (e : γ[i]? = some (some (.v p))) (h : WO (F γ μ) Q X) : WO (fLock i F γ μ) Q X := by
  unfold fLock
  rw [e]
  exact h
theorem wo_alt (h : WO (F1 γ μ) Q X) : WO (fAlt F1 F2 γ μ) Q X := wo_or h
theorem wo_altR (e : F1 γ μ = .bad) (h : WO (F2 γ μ) Q X) : WO (fAlt F1 F2 γ μ) Q X := wo_orR e h
end
/-! ### statements -/
section
variable {N B C N' : Γ → Μ → Prop} {R : W → Μ → Prop} {X : XG} {γ γ' : Γ} {μ m : Μ} {F Fd Fk Fv Fl Fi Fo : EF} {A : AF} {T : TF} {S S2 : SF} {I : IF} {t : GF} {o : OS}
theorem ws_mono {N' R' B' C'} {X' : XG} (h : WS o N R B C X) (hn : ∀ g m, N g m → N' g m) (hr : ∀ w m, R w m → R' w m) (hb : ∀ g m, B g m → B' g m) (hc : ∀ g m, C g m → C' g m) (hx : ∀ K fs g m, X K fs g m → X' K fs g m) : WS o N' R' B' C' X' := by
  cases o with
  | nx g m => exact hn _ _ h
  | ret w m => exact hr _ _ h
  | bk g m => exact hb _ _ h
  | ct g m => exact hc _ _ h
  | exc K fs g m => exact hx _ _ _ _ h
  | bad => exact h
theorem ws_mid (N' : Γ → Μ → Prop) (h : WS o N' R B C X) (hn : ∀ g m, N' g m → N g m) : WS o N R B C X := ws_mono h hn (fun _ _ z => z) (fun _ _ z => z) (fun _ _ z => z) fun _ _ _ _ z => z
theorem ws_nx (h : N γ m) : WS (.nx γ m) N R B C X := h
theorem ws_next (h : N γ μ) : WS (sNext γ μ) N R B C X := h
theorem ws_seq (h : WS (S γ μ) (fun γ m => WS (S2 γ m) N R B C X) R B C X) : WS (sSeq S S2 γ μ) N R B C X := by
  unfold sSeq
  cases o : S γ μ <;> rw [o] at h <;> exact h
theorem ws_drop (h : WO (F γ μ) (fun _ m => N γ m) fun C fs m => X C fs γ m) : WS (sDrop F γ μ) N R B C X := wo_s h
theorem ws_ret (h : WO (F γ μ) R fun C fs m => X C fs γ m) : WS (sRet F γ μ) N R B C X := wo_s h
theorem ws_if (h : WO (T γ μ) (fun b m => Bi b (WS (S γ m) N R B C X) (WS (S2 γ m) N R B C X)) fun C fs m => X C fs γ m) : WS (sIfS T S S2 γ μ) N R B C X := wo_s (wo_mono h (fun b m z => by cases b; exact z.2 rfl; exact z.1 rfl) fun _ _ _ z => z)
theorem ws_set {i : Nat} (h : WO (F γ μ) (fun w m => St1 (γ.set i (some w)) fun γ' => N γ' m) fun C fs m => X C fs γ m) : WS (sSet i F γ μ) N R B C X := wo_s (wo_mono h (fun w m ⟨γ', e, z⟩ => by subst e; exact z) fun _ _ _ z => z)
theorem ws_par {i j : Nat} (h : WO (A γ μ) (fun ws m => Is2 ws fun v w => St1 ((γ.set i (some v)).set j (some w)) fun γ' => N γ' m) fun C fs m => X C fs γ m) : WS (sPar i j A γ μ) N R B C X := wo_s (wo_mono h (fun ws m ⟨v, w, e, γ', e2, z⟩ => by subst e; subst e2; exact z) fun _ _ _ z => z)
theorem ws_par3 {i j l : Nat} (h : WO (A γ μ) (fun ws m => Is3 ws fun u v w => St1 (((γ.set i (some u)).set j (some v)).set l (some w)) fun γ' => N γ' m) fun C fs m => X C fs γ m) : WS (sPar3 i j l A γ μ) N R B C X := wo_s (wo_mono h (fun ws m ⟨u, v, w, e, γ', e2, z⟩ => by subst e; subst e2; exact z) fun _ _ _ z => z)
theorem ws_asg (h : WO (F γ μ) (fun w m => IsV w fun p => ∃ γ1, t p γ = some γ1 ∧ St1 γ1 fun γ' => N γ' m) fun C fs m => X C fs γ m) : WS (sAsgP F t γ μ) N R B C X := wo_s (wo_mono h (fun w m ⟨p, e, γ1, e2, γ', e3, z⟩ => by subst e; subst e3; simp only [e2]; exact z) fun _ _ _ z => z)
theorem ws_dput (h : WO (Fv γ μ) (fun wv m => IsV wv fun p => WO (Fd γ m) (fun wd m => WO (Fk γ m) (fun wk m => IsV wk fun pk => ∃ j ps k, wD m wd = some (j, ps) ∧ keyP pk = some k ∧ ps.length < 100000 ∧ N γ (m.set j (.dct (putP ps k p)))) fun C fs m => X C fs γ m) fun C fs m => X C fs γ m) fun C fs m => X C fs γ m) : WS (sDPutP Fd Fk Fv γ μ) N R B C X :=
  wo_s (wo_mono h (fun wv m ⟨p, e, h⟩ => wo_s (wo_mono h (fun wd m h => wo_s (wo_mono h (fun wk m ⟨pk, e2, j, ps, k, e3, e4, l, z⟩ => by
    subst e
    subst e2
    rw [e3]
    simp only [e4, l, if_true]
    exact z) fun _ _ _ z => z)) fun _ _ _ z => z)) fun _ _ _ z => z)
theorem ws_lput (h : WO (Fv γ μ) (fun wv m => IsV wv fun p => WO (Fl γ m) (fun wl m => WO (Fi γ m) (fun wi m => IsI wi fun i => ∃ j ps n, wL m wl = some (j, ps) ∧ ixN ps.length i = some n ∧ N γ (m.set j (.lst (ps.set n p)))) fun C fs m => X C fs γ m) fun C fs m => X C fs γ m) fun C fs m => X C fs γ m) : WS (sLPutP Fv Fl Fi γ μ) N R B C X :=
  wo_s (wo_mono h (fun wv m ⟨p, e, h⟩ => wo_s (wo_mono h (fun wd m h => wo_s (wo_mono h (fun wk m ⟨i, e2, j, ps, n, e3, e4, z⟩ => by
    subst e
    subst e2
    rw [e3]
    simp only [e4]
    exact z) fun _ _ _ z => z)) fun _ _ _ z => z)) fun _ _ _ z => z)
theorem ws_fixL {i j : Nat} {c : PC} {p : P} (e : γ[i]? = some (some (.loc j))) (e2 : μ[j]? = some c) (e3 : c.p = some p) (h : WS (S (γ.set i (some (.v p))) (μ.set j .dead)) N R B C X) : WS (sFix i S γ μ) N R B C X := by
  unfold sFix
  rw [e]
  simp only [e2, Option.bind_some, e3]
  exact h
theorem ws_for (h : WO (I γ μ) (fun ps m => WS (forGo t S ps γ m) N R B C X) fun C fs m => X C fs γ m) : WS (sFor I t S γ μ) N R B C X := wo_s h
theorem wf_go (Inv : Nat → Γ → Μ → Prop) : ∀ {ps : List P} {n : Nat} {γ : Γ} {m : Μ}, Inv n γ m → (∀ j p γ m, ps[j]? = some p → Inv (n + j) γ m → ∃ γ1, t p γ = some γ1 ∧ WS (S γ1 m) (Inv (n + j + 1)) R N (Inv (n + j + 1)) X) → (∀ γ m, Inv (n + ps.length) γ m → N γ m) → WS (forGo t S ps γ m) N R B C X
  | [], n, γ, m, i, _, k => k γ m i
  | p :: r, n, γ, m, i, h, k => by
    obtain ⟨γ1, e, w1⟩ := h 0 p γ m rfl i
    rw [forGo, e]
    have ih := fun γ m i => wf_go Inv (ps := r) (n := n + 1) (γ := γ) (m := m) i (fun j p γ m hp hi => by
      have := h (j + 1) p γ m hp (by rw [show n + (j + 1) = n + 1 + j by omega]; exact hi)
      rw [show n + (j + 1) + 1 = n + 1 + j + 1 by omega] at this
      exact this) (fun γ m z => k γ m (by rw [show n + (p :: r).length = n + 1 + r.length by rw [List.length_cons]; omega]; exact z))
    simp only
    cases o : S γ1 m with
    | nx g m2 => rw [o] at w1; exact ih g m2 w1
    | ct g m2 => rw [o] at w1; exact ih g m2 w1
    | bk g m2 => rw [o] at w1; exact w1
    | ret w m2 => rw [o] at w1; exact w1
    | exc K fs g m2 => rw [o] at w1; exact w1
    | bad => rw [o] at w1; exact w1
theorem ws_lock {i : Nat} {p : P} (e : γ[i]? = some (some (.v p))) (h : WS (S γ μ) N R B C X) : WS (sLock i S γ μ) N R B C X := by
  unfold sLock
  rw [e]
  exact h
theorem ws_trim (h : WS (S γ μ) (fun g m => N (g.map (trimW μ.length)) (m.take μ.length)) R B (fun g m => C (g.map (trimW μ.length)) (m.take μ.length)) X) : WS (sTrim S γ μ) N R B C X := by
  unfold sTrim trimO
  cases o : S γ μ <;> rw [o] at h <;> exact h
theorem ws_sub {i : Nat} (h : WO (Fv γ μ) (fun wv m => ∃ p q, wv = .v (.tup [p, q]) ∧ WO (Fl γ m) (fun wl m => WO (Fi γ m) (fun wi m => IsI wi fun z => ∃ j ps n, wL m wl = some (j, ps) ∧ ixN ps.length z = some n ∧ St1 (γ.set i (some (.v q))) fun γ' => N γ' (m.set j (.lst (ps.set n p)))) fun C fs m => X C fs γ m) fun C fs m => X C fs γ m) fun C fs m => X C fs γ m) : WS (sSubName i Fv Fl Fi γ μ) N R B C X :=
  wo_s (wo_mono h (fun wv m ⟨p, q, e, h⟩ => by
    subst e
    exact wo_s (wo_mono h (fun wd m h => wo_s (wo_mono h (fun wk m ⟨z, e2, j, ps, n, e3, e4, γ', e5, y⟩ => by
      subst e2
      subst e5
      rw [e3]
      simp only [e4]
      exact y) fun _ _ _ z => z)) fun _ _ _ z => z)) fun _ _ _ z => z)
theorem ws_fld {K : Addr} {f : Str} (h : WO (Fv γ μ) (fun wv m => IsV wv fun p => WO (Fo γ m) (fun wo m => ∃ j ps, wI m wo = some (j, K, ps) ∧ ps.length < 900 ∧ N γ (m.set j (.ins K (putFP f p ps)))) fun C fs m => X C fs γ m) fun C fs m => X C fs γ m) : WS (sFldP K f Fo Fv γ μ) N R B C X :=
  wo_s (wo_mono h (fun wv m ⟨p, e, h⟩ => by
    subst e
    exact wo_s (wo_mono h (fun wd m ⟨j, ps, e2, l, z⟩ => by
      rw [e2]
      simp only [l, and_self, if_true]
      exact z) fun _ _ _ z => z)) fun _ _ _ z => z)
end
/-! ### defs -/
def LeW (n : Nat) (Q : W → Μ → Prop) (w : W) (m : Μ) : Prop := match w with
  | .v p => Q (.v p) (m.take n)
  | .loc j => if j < n then Q (.loc j) (m.take n) else ∃ c, m[j]? = some c ∧ liveC c = true ∧ Q (.loc n) (m.take n ++ [c])
theorem lew_v {n : Nat} {Q : W → Μ → Prop} {p : P} {m : Μ} (h : Q (.v p) (m.take n)) : LeW n Q (.v p) m := h
theorem lew_new {n j : Nat} {Q : W → Μ → Prop} {m : Μ} {c : PC} (hj : n ≤ j) (e : m[j]? = some c) (l : liveC c = true) (h : Q (.loc n) (m.take n ++ [c])) : LeW n Q (.loc j) m := by
  show (if j < n then Q (W.loc j) (m.take n) else ∃ c, m[j]? = some c ∧ liveC c = true ∧ Q (W.loc n) (m.take n ++ [c]))
  rw [if_neg (by omega)]
  exact ⟨c, e, l, h⟩
theorem wo_def {n N : Nat} {S : SF} {ws : List W} {μ : Μ} {γ : Γ} {Q : W → Μ → Prop} {X : XP} (hl : ws.length = n) (e : ws.map some ++ List.replicate (N - n) none = γ)
    (h : WS (S γ μ) (fun _ m => Q (.v .non) (m.take μ.length)) (LeW μ.length Q) (fun _ _ => False) (fun _ _ => False) (fun C fs _ m => X C fs (m.take μ.length))) : WO (fDef n N S ws μ) Q X := by
  subst e
  unfold fDef
  rw [if_pos hl]
  cases o : S (ws.map some ++ List.replicate (N - n) none) μ with
  | nx g m => rw [o] at h; exact h
  | exc K fs g m => rw [o] at h; exact h
  | bk g m => rw [o] at h; exact h.elim
  | ct g m => rw [o] at h; exact h.elim
  | bad => rw [o] at h; exact h.elim
  | ret w m =>
    rw [o] at h
    cases w with
    | v p => exact h
    | loc j =>
      have h' : if j < μ.length then Q (W.loc j) (m.take μ.length) else ∃ c, m[j]? = some c ∧ liveC c = true ∧ Q (W.loc μ.length) (m.take μ.length ++ [c]) := h
      unfold leave
      by_cases c : j < μ.length
      · rw [if_pos c] at h'
        simp only [c, if_true]
        exact h'
      · rw [if_neg c] at h'
        obtain ⟨d, e, l, z⟩ := h'
        simp only [c, if_false, e, l, if_true]
        exact z
/-! ### the pot: at place 0, r is what lies behind it -/
structure PotOk (a b : Int) : Prop where
  a0 : 0 ≤ a
  b0 : 0 ≤ b
  b1 : b < 2147483648
def pc (a b : Int) : PC := .lst [.int a, .int b]
def Pot (r m : Μ) : Prop := ∃ a b, PotOk a b ∧ m = pc a b :: r
theorem Pot.len {r m : Μ} (h : Pot r m) : m.length = r.length + 1 := by
  obtain ⟨a, b, _, rfl⟩ := h
  rfl
theorem pot_le {r m n : Μ} (h : Pot r m) (g : Pot r n) : m.length ≤ n.length := by rw [h.len, g.len]; exact Nat.le_refl _
theorem Pot.at {r m : Μ} (h : Pot r m) {j : Nat} : m[j + 1]? = r[j]? := by
  obtain ⟨a, b, _, rfl⟩ := h
  rfl
theorem Pot.set {r m : Μ} (h : Pot r m) {j : Nat} {c : PC} : Pot (r.set j c) (m.set (j + 1) c) := by
  obtain ⟨a, b, q, rfl⟩ := h
  exact ⟨a, b, q, rfl⟩
theorem Pot.add {r m : Μ} (h : Pot r m) {c : PC} : Pot (r ++ [c]) (m ++ [c]) := by
  obtain ⟨a, b, q, rfl⟩ := h
  exact ⟨a, b, q, rfl⟩
theorem Pot.cut {r x m n : Μ} (h : Pot r n) (g : Pot (r ++ x) m) : Pot r (m.take n.length) := by
  obtain ⟨a, b, q, rfl⟩ := g
  rw [h.len]
  refine ⟨a, b, q, ?_⟩
  rw [List.take_succ_cons, List.take_left]
theorem Pot.cut0 {r m n : Μ} (h : Pot r n) (g : Pot r m) : Pot r (m.take n.length) := Pot.cut (x := []) h (by rw [List.append_nil]; exact g)
theorem Pot.keep {r m n : Μ} (h : Pot r n) (g : Pot r m) : m.take n.length = m := List.take_of_length_le (by rw [h.len, g.len]; exact Nat.le_refl _)
/-- the spec of a draw -/
def Draws (F : FF) : Prop := ∀ {n : Int} {r m : Μ} {Q : W → Μ → Prop} {X : XP}, Pot r m → 0 < n → n < 1073741824 → (∀ z m', 0 ≤ z → z < n → Pot r m' → Q (.v (.int z)) m') → WO (F [.loc 0, .v (.int n)] m) Q X
theorem eq_wo {α : Type} {o : O α} {a : α} {m : Μ} (h : WO o (fun b n => b = a ∧ n = m) X0) : o = .ok a m := by
  obtain ⟨b, n, e, rfl, rfl⟩ := wo_out h
  exact e
end Pu
set_option Elab.async false
set_option linter.all false
set_option maxRecDepth 100000
set_option maxHeartbeats 4000000
namespace Pu
open L2 PySem PySem.Spec PyProof.Rows E10
open He (ga ma)
/-! ### the program's things, as values -/
abbrev eaP (K : PySem.W.Frag) (t : Tb) : P := .ins (ga K "Earliest") [("_shifts", dctP t)]
abbrev ruP (K : PySem.W.Frag) (r : Str × Tb) : P := .ins (ga K "Rule") [("_moment", .str r.1), ("_earliest", eaP K r.2)]
abbrev boP (K : PySem.W.Frag) (ns : List Str) (rs : List (Str × Tb)) : P := .ins (ga K "Book") [("_moments", .tup (ns.map .str)), ("_rules", .lst (rs.map (ruP K)))]
abbrev teP (K : PySem.W.Frag) (z : Str) (n : Int) : P := .ins (ga K "Term") [("_moment", .str z), ("_shift", .int n)]
/-- in order -/
def Srt (l : List Str) : Prop := srt l = l
/-- as an Earliest keeps it: in order besides -/
structure So (t : Tb) : Prop extends Ok t where
  so : ord t = t
theorem keys_val {t : Tb} (nd : (keys t).Nodup) : (keys t).map (fun z => (z, val t z)) = t := by
  unfold keys
  rw [List.map_map]
  conv => rhs; rw [← List.map_id t]
  refine List.map_congr_left fun p m => ?_
  show (p.1, val t p.1) = p
  rw [val_at nd (z := p.1) (v := p.2) m]
theorem ord_srt {t : Tb} (nd : (keys t).Nodup) (h : Srt (keys t)) : ord t = t := by
  unfold ord
  rw [show srt (keys t) = keys t from h, keys_val nd]
theorem srt_srt (l : List Str) : Srt (srt l) := srt_id (srt_pw l)
theorem ord_ord {t : Tb} (nd : (keys t).Nodup) : ord (ord t) = ord t := ord_srt (by rw [keys_ord]; exact srt_nodup nd) (by rw [keys_ord]; exact srt_srt _)
theorem Ok.so {t : Tb} (h : Ok t) : So (Pu.ord t) := ⟨h.ord, ord_ord h.nd⟩
theorem So.srt {t : Tb} (h : So t) : Srt (keys t) := by
  have := congrArg keys h.so
  rw [keys_ord] at this
  exact this
end Pu
set_option Elab.async false
set_option linter.all false
set_option maxRecDepth 100000
set_option maxHeartbeats 4000000
namespace Pu
open L2 PySem PySem.Spec PyProof.Rows E10
open He (ga ma)
section
variable {μ : Μ} {C : Addr} {fs gs : List (Str × P)} {FF' : FF} {ws : List W} {S : SF'} {zs : List Str} {ps : List P} {t : Tb}
theorem wI_last : wI (μ ++ [.ins C fs]) (.loc μ.length) = some (μ.length, C, fs) := by
  unfold wI
  simp
theorem make_eq (h : FF' (.loc μ.length :: ws) (μ ++ [.ins C []]) = .ok (.v .non) (μ ++ [.ins C fs])) : (makeP C FF' ws μ).bind (frzP μ.length) = .ok (.v (.ins C fs)) μ := by
  rw [make_ok h]
  exact frz_l rfl
theorem set_l (l : zs.length < 32) : gSet S [.v (.lst (zs.map P.str))] μ = .ok (.v (.set S (insAll [] zs))) μ := by
  show O.or (match strsP (zs.map P.str) with
    | some zs => if zs.length < 32 then O.ok (W.v (.set S (insAll [] zs))) μ else .bad
    | none => .bad) _ = _
  rw [strs_str]
  simp only [l, if_true]
  rfl
theorem sort_l (l : zs.length < 64) : gSort' S [.v (.lst (zs.map P.str))] μ = .ok (.v (.lst ((srt zs).map P.str))) μ := by
  show O.or (match strsP (zs.map P.str) with
    | some zs => if zs.length < 64 then O.ok (W.v (.lst ((srt zs).map .str))) μ else .bad
    | none => .bad) _ = _
  rw [strs_str]
  simp only [l, if_true]
  rfl
theorem tup_l : gTupB [.v (.lst ps)] μ = .ok (.v (.tup ps)) μ := rfl
theorem tup_t : gTupB [.v (dctP t)] μ = .ok (.v (.tup ((keys t).map P.str))) μ := by
  show O.or .bad (O.ok (W.v (.tup ((t.map rowP).map fun kp => keyOf kp.1))) μ) = _
  rw [keys_rows]
  rfl
theorem list_l : gList .val [.v (.lst ps)] μ = .ok (.v (.lst ps)) μ := rfl
theorem dict_tv : gDict .val [.v (dctP t)] μ = .ok (.v (dctP t)) μ := rfl
theorem it_strs (l : zs.length ≤ 100000) : iAnyW (.v (.lst (zs.map P.str))) μ = .ok (zs.map P.str) μ := it_l (by rw [List.length_map]; exact l)
theorem it_tups (l : zs.length ≤ 100000) : iAnyW (.v (.tup (zs.map P.str))) μ = .ok (zs.map P.str) μ := it_t (by rw [List.length_map]; exact l)
theorem in_l {neg : Bool} {z : Str} : gIn neg (.v (.str z)) (.v (.lst (zs.map P.str))) μ = .ok (.v (.bl (decide (z ∈ zs) != neg))) μ := in_strs rfl
theorem in_tup {neg : Bool} {z : Str} : gIn neg (.v (.str z)) (.v (.tup (zs.map P.str))) μ = .ok (.v (.bl (decide (z ∈ zs) != neg))) μ := in_strs rfl
/-- tuples of texts, compared -/
theorem mapO_strs' (n : Nat) : ∀ zs : List Str, mapO (toD (n + 1)) (zs.map P.str) = some (zs.map PyData.str)
  | [] => rfl
  | z :: r => by
    rw [List.map_cons, mapO, mapO_strs' n r]
    rfl
theorem eqvs : ∀ zs ys : List Str, PyData.eqvAll (zs.map PyData.str) (ys.map PyData.str) = decide (zs = ys)
  | [], [] => rfl
  | [], _ :: _ => rfl
  | _ :: _, [] => rfl
  | z :: r, y :: q => by
    show ((z == y) && PyData.eqvAll (r.map PyData.str) (q.map PyData.str)) = _
    rw [eqvs r q]
    by_cases c : z = y
    · subst c
      by_cases d : r = q
      · subst d
        simp
      · rw [decide_eq_false d, decide_eq_false (by simp [d])]
        simp
    · rw [decide_eq_false (show ¬ z :: r = y :: q by simp [c])]
      simp [c]
theorem shaped_t (h : ∀ z ∈ zs, Nm z) : SeqAt.shaped (.tuple (zs.map PyData.str)) = true := by
  unfold SeqAt.shaped
  rw [Bool.and_eq_true]
  refine ⟨?_, decide_eq_true ?_⟩
  · show PyData.canLay0 (.tuple (zs.map PyData.str)) = true
    simp only [PyData.canLay0, (strs_lay zs h).1]
  · show PyData.depthAll (zs.map PyData.str) + 1 ≤ 64
    rw [(strs_lay zs h).2]
    decide
theorem eqx_D {neg : Bool} {x y : W} {b : Bool} (h1 : fEqS neg x y μ = .bad) (h2 : fEqK neg x y μ = .bad) (h : fEqD neg x y μ = .ok (.v (.bl b)) μ) : gEqX neg x y μ = .ok (.v (.bl b)) μ := by
  cases neg
  · show O.or (fEqS false x y μ) (O.or (fEqK false x y μ) (O.or (fEqD false x y μ) _)) = _
    rw [h1, h2, h, O.or_bad, O.or_bad]
    rfl
  · show O.or (fEqS true x y μ) (O.or (fEqK true x y μ) (fEqD true x y μ)) = _
    rw [h1, h2, h, O.or_bad, O.or_bad]
theorem eq_tups {neg : Bool} {ys : List Str} (hz : ∀ z ∈ zs, Nm z) (hy : ∀ z ∈ ys, Nm z) : gEqX neg (.v (.tup (zs.map P.str))) (.v (.tup (ys.map P.str))) μ = .ok (.v (.bl (decide (zs = ys) != neg))) μ := by
  refine eqx_D rfl rfl ?_
  show (match (mapO (toD 5) (zs.map P.str)).map PyData.tuple, (mapO (toD 5) (ys.map P.str)).map PyData.tuple with
    | some d, some e => if SeqAt.shaped d = true ∧ SeqAt.shaped e = true then O.ok (W.v (.bl (PyData.eqv d e != neg))) μ else .bad
    | _, _ => .bad) = _
  rw [mapO_strs' 4, mapO_strs' 4]
  simp only [Option.map_some, shaped_t hz, shaped_t hy, and_self, if_true]
  rw [← eqvs]
  rfl
end
theorem bls_bls : ∀ bs : List Bool, blsP (bs.map P.bl) = some bs
  | [] => rfl
  | b :: r => by
    show (blsP (r.map P.bl)).map (b :: ·) = _
    rw [bls_bls r]
    rfl
/-- a rule's moments -/
def rmom (r : Str × Tb) : List Str := srt (insAll [] (r.1 :: keys r.2))
theorem rmom_mem {r : Str × Tb} {z : Str} : z ∈ rmom r ↔ z = r.1 ∨ z ∈ keys r.2 := by
  unfold rmom
  rw [srt_mem, insAll_mem]
  simp
/-- a rule as the program keeps it -/
structure Ru (r : Str × Tb) : Prop where
  nm : Nm r.1
  so : So r.2
/-- a book as the program keeps it -/
structure Bo (ns : List Str) (rs : List (Str × Tb)) : Prop where
  n8 : Ns ns
  so : Srt ns
  ru : ∀ r ∈ rs, Ru r
  sub : ∀ r ∈ rs, r.1 ∈ ns ∧ ∀ z ∈ keys r.2, z ∈ ns
  le : rs.length ≤ 100
theorem So.of {t : Tb} {ns : List Str} (h : Ns ns) (s : Srt ns) (k : keys t = ns) : So t := ⟨⟨fun e => h.ne (by rw [← k, e]; rfl), by rw [k]; exact h.nm, by rw [k]; exact h.nd, by rw [← len_keys, k]; exact h.le⟩, ord_srt (by rw [k]; exact h.nd) (by rw [k]; exact s)⟩
theorem So.ns {t : Tb} (h : So t) : Ns (keys t) := ⟨h.nd, h.nm, by rw [len_keys]; exact h.le, keys_ne h.ne⟩
end Pu
set_option Elab.async false
set_option linter.all false
set_option maxRecDepth 100000
set_option maxHeartbeats 4000000
namespace Pu
open L2 PySem PySem.Spec PyProof.Rows E10
open He (ga ma)
section
variable {μ m r : Μ} {j k : Nat} {ps : List P} {v p : P} {c d : PC} {Q : W → Μ → Prop} {X : XP}
theorem rdL_at (h : m[j]? = some (.lst ps)) : rdL m (.loc j) = some ps := by
  unfold rdL
  simp only [h]
theorem wL_at (h : m[j]? = some (.lst ps)) : wL m (.loc j) = some (j, ps) := by
  unfold wL
  simp only [h]
theorem wD_at {ks : List (Key × P)} (h : m[j]? = some (.dct ks)) : wD m (.loc j) = some (j, ks) := by
  unfold wD
  simp only [h]
theorem rdD_at {ks : List (Key × P)} (h : m[j]? = some (.dct ks)) : rdD m (.loc j) = some ks := by
  unfold rdD
  simp only [h]
theorem isTy_at (h : m[j]? = some (.lst ps)) : isTy "list" m (.loc j) = true := by
  show ("list" == "list" && (rdL m (.loc j)).isSome || _) = true
  rw [rdL_at h]
  rfl
theorem len_loc (h : rdL m (.loc j) = some ps) : gLen [.loc j] m = .ok (.v (.int ps.length)) m := by
  show O.or .bad (O.or (match rdL m (.loc j) with
    | some ps => O.ok (W.v (.int ps.length)) m
    | none => .bad) _) = _
  rw [h]
  rfl
theorem sq_nat {n : Nat} (h : k < n) : seqIndex? (k : Int) n = some k := by
  have c : ¬ ((k : Int) < 0) := by omega
  have d : ((k : Int) < (n : Int)) := by omega
  simp only [seqIndex?, c, if_false]
  simp [h]
theorem wo_popAt (h : m[j]? = some (.lst ps)) (hk : k < ps.length) (h61 : k < 2 ^ 60) (q : Q (.v ps[k]) (m.set j (.lst (ps.eraseIdx k)))) : WO (mPopAt (.loc j) [.v (.int (k : Int))] m) Q X := by
  unfold mPopAt
  rw [wL_at h]
  simp only
  rw [if_pos (by omega), sq_nat hk]
  simp only [List.getElem?_eq_getElem hk]
  exact q
theorem wo_append (h : m[j]? = some (.lst ps)) (l : ps.length < 100000) (q : Q (.v .non) (m.set j (.lst (ps ++ [p])))) : WO (mAppend (.loc j) [.v p] m) Q X := by
  unfold mAppend
  rw [wL_at h]
  simp only
  rw [if_pos l]
  exact q
theorem Pot.last (h : Pot (r ++ [c]) m) : m[r.length + 1]? = some c := by
  rw [h.at]
  simp
theorem Pot.setl (h : Pot (r ++ [c]) m) : Pot (r ++ [d]) (m.set (r.length + 1) d) := by
  have := h.set (j := r.length) (c := d)
  rw [last_set] at this
  exact this
theorem Pot.cut1 {n : Μ} (h : Pot r n) (g : Pot (r ++ [c]) m) : Pot r (m.take n.length) := Pot.cut h g
end
theorem wl_inv {γ : Γ} {t : GF} {T : TF} {E : EF} {QL : List P → Μ → Prop} {X : XP} (Inv : Nat → List P → Μ → Prop) {ps : List P} {m : Μ} (i : Inv 0 [] m) (h : ∀ j p acc m, ps[j]? = some p → Inv j acc m → ∃ γ1, t p γ = some γ1 ∧ WO (T γ1 m) (fun b m => Bi b (WO (E γ1 m) (fun w m => IsV w fun q => Inv (j + 1) (acc ++ [q]) m) X0) (Inv (j + 1) acc m)) X0)
    (k : ∀ qs m, Inv ps.length qs m → QL qs m) : WO (lcGo t T E γ ps m) QL X := wo_mid (wl_go (n := 0) Inv i fun j p acc m hp hi => by
      have := h j p acc m hp (by rw [Nat.zero_add] at hi; exact hi)
      rw [Nat.zero_add]
      exact this) fun qs m z => k qs m (by rw [Nat.zero_add, List.nil_append] at z; exact z)
theorem wf_inv {γ : Γ} {t : GF} {S : SF} {N B C : Γ → Μ → Prop} {R : W → Μ → Prop} {X : XG} (Inv : Nat → Γ → Μ → Prop) {ps : List P} {m : Μ} (i : Inv 0 γ m) (h : ∀ j p γ m, ps[j]? = some p → Inv j γ m → ∃ γ1, t p γ = some γ1 ∧ WS (S γ1 m) (Inv (j + 1)) R N (Inv (j + 1)) X)
    (k : ∀ γ m, Inv ps.length γ m → N γ m) : WS (forGo t S ps γ m) N R B C X := wf_go (n := 0) Inv i (fun j p γ m hp hi => by
      have := h j p γ m hp (by rw [Nat.zero_add] at hi; exact hi)
      rw [Nat.zero_add]
      exact this) fun γ m z => k γ m (by rw [Nat.zero_add] at z; exact z)
theorem erase_map {α β : Type} (f : α → β) : ∀ (l : List α) (k : Nat), (l.map f).eraseIdx k = (l.eraseIdx k).map f
  | [], _ => rfl
  | _ :: _, 0 => rfl
  | x :: l, k + 1 => congrArg (f x :: ·) (erase_map f l k)
theorem erase_perm {α : Type} : ∀ (l : List α) (k : Nat) (h : k < l.length), (l[k] :: l.eraseIdx k).Perm l
  | _ :: _, 0, _ => List.Perm.refl _
  | x :: l, k + 1, h => (List.Perm.swap x (l[k]'(Nat.lt_of_succ_lt_succ h)) (l.eraseIdx k)).trans ((erase_perm l k (Nat.lt_of_succ_lt_succ h)).cons x)
/-- a small number, or near 10 ** 59 -/
theorem each {α β : Type} {g : α → P} {mk : α → β → P} {R : α → β → Prop} : ∀ {l : List α} {qs : List P}, Paired (fun p q => ∀ a, p = g a → ∃ b, q = mk a b ∧ R a b) (l.map g) qs → ∃ xs : List (α × β), xs.map (·.1) = l ∧ qs = xs.map (fun x => mk x.1 x.2) ∧ ∀ x ∈ xs, R x.1 x.2
  | [], _, .nil => ⟨[], rfl, rfl, fun x h => by cases h⟩
  | a :: l, q :: qs, .cons h t => by
    obtain ⟨b, rfl, hb⟩ := h a rfl
    obtain ⟨xs, e1, e2, e3⟩ := each (l := l) t
    exact ⟨(a, b) :: xs, by rw [List.map_cons, e1], by rw [List.map_cons, e2], fun x hx => (List.mem_cons.mp hx).elim (fun e => e ▸ hb) (e3 x)⟩
/-- each thing gives one, a state goes along: by a list of things -/
theorem wl_each {γ : Γ} {t : GF} {E : EF} {QL : List P → Μ → Prop} {X : XP} {α β : Type} (S : Μ → Prop) (g : α → P) (mk : α → β → P) (R : α → β → Prop) {l : List α} {m : Μ} (inj : ∀ a b, g a = g b → a = b) (s : S m)
    (h : ∀ a ∈ l, ∀ m, S m → ∃ γ1, t (g a) γ = some γ1 ∧ WO (E γ1 m) (fun w m => ∃ b, w = .v (mk a b) ∧ R a b ∧ S m) X0)
    (k : ∀ (xs : List (α × β)) m, xs.map (·.1) = l → (∀ x ∈ xs, R x.1 x.2) → S m → QL (xs.map fun x => mk x.1 x.2) m) : WO (lcGo t fYes E γ (l.map g) m) QL X := by
  refine wl_map S (fun p q => ∀ a, p = g a → ∃ b, q = mk a b ∧ R a b) s (fun p hp m hm => ?_) fun qs m pr hm => ?_
  · obtain ⟨a, ha, rfl⟩ := List.mem_map.mp hp
    obtain ⟨γ1, e, w⟩ := h a ha m hm
    refine ⟨γ1, e, wo_mono w (fun w m ⟨b, e1, e2, e3⟩ => ⟨_, e1, fun a' ea => ?_, e3⟩) fun _ _ _ z => z⟩
    obtain rfl := inj _ _ ea
    exact ⟨b, rfl, e2⟩
  · obtain ⟨xs, e1, rfl, e3⟩ := each pr
    exact k xs m e1 e3 hm
theorem wl_rng {γ : Γ} {t : GF} {E : EF} {QL : List P → Μ → Prop} {X : XP} {β : Type} (S : Μ → Prop) (mk : β → P) (R : β → Prop) {n : Nat} {lo : Int} {m : Μ} (s : S m)
    (h : ∀ i < n, ∀ m, S m → ∃ γ1, t (.int (lo + (i : Nat))) γ = some γ1 ∧ WO (E γ1 m) (fun w m => ∃ b, w = .v (mk b) ∧ R b ∧ S m) X0)
    (k : ∀ (xs : List β) m, xs.length = n → (∀ x ∈ xs, R x) → S m → QL (xs.map mk) m) : WO (lcGo t fYes E γ (rngP lo n) m) QL X := by
  refine wl_each (α := Nat) S (fun i => .int (lo + (i : Nat))) (fun _ b => mk b) (fun _ b => R b) (fun a b e => by have := P.int.inj e; omega) s (fun a ha m hm => h a (List.mem_range.mp ha) m hm) fun xs m e1 e2 e3 => ?_
  have := k (xs.map (·.2)) m (by rw [List.length_map, ← List.length_map (f := (·.1)) (as := xs), e1, List.length_range]) (fun x hx => by
    obtain ⟨y, hy, rfl⟩ := List.mem_map.mp hx
    exact e2 y hy) e3
  rw [List.map_map] at this
  exact this
/-! rows put -/
theorem val_put {t : Tb} (nd : (keys t).Nodup) (z : Str) (v : Int) (y : Str) : val (putT t z v) y = if y = z then v else val t y := by
  by_cases my : y ∈ keys (putT t z v)
  · obtain ⟨p, hp, e⟩ := List.mem_map.mp my
    have nd2 := put_nd nd z v
    have hv : val (putT t z v) y = p.2 := val_at nd2 (by rw [← e]; exact hp)
    rw [hv]
    unfold putT at hp
    by_cases c : z ∈ keys t
    · rw [if_pos c] at hp
      obtain ⟨q, hq, e2⟩ := List.mem_map.mp hp
      by_cases d : q.1 = z
      · rw [if_pos d] at e2
        rw [← e, ← e2, if_pos d]
      · rw [if_neg d] at e2
        rw [← e, ← e2, if_neg d]
        exact (val_at nd (z := q.1) (v := q.2) hq).symm
    · rw [if_neg c] at hp
      rcases List.mem_append.mp hp with hq | hq
      · have : p.1 ≠ z := fun e3 => c (e3 ▸ List.mem_map.mpr ⟨p, hq, rfl⟩)
        rw [← e, if_neg this]
        exact (val_at nd (z := p.1) (v := p.2) hq).symm
      · rw [List.mem_singleton.mp hq] at e ⊢
        rw [← e, if_pos rfl]
  · rw [val_none my, if_neg (fun e => my (by
      rw [e, put_keys]
      split
      · assumption
      · simp)), val_none (fun m => my (by
      rw [put_keys]
      split
      · exact m
      · exact List.mem_append_left _ m))]
theorem mem_put {t : Tb} {z y : Str} {v : Int} : y ∈ keys (putT t z v) ↔ y = z ∨ y ∈ keys t := by
  rw [put_keys]
  split
  · rename_i c
    exact ⟨.inr, fun h => h.elim (fun e => e ▸ c) id⟩
  · rw [List.mem_append, List.mem_singleton]
    exact ⟨fun h => h.elim .inr .inl, fun h => h.elim .inr .inl⟩
theorem dget_loc {t : Tb} {m : Μ} {j : Nat} {z : Str} (h : m[j]? = some (.dct (t.map rowP))) (hz : z ∈ keys t) : gIx (.loc j) (.v (.str z)) m = .ok (.v (.int (val t z))) m := by
  have e2 := dget_ok (μ := m) (val_of hz)
  have e1 : fIxL (.loc j) (.v (.str z)) m = .bad := by
    unfold fIxL
    rw [show rdL m (.loc j) = none by unfold rdL; simp only [h]]
  have e3 : fDGet (.v (dctP t)) (.v (.str z)) m = fDGet (.loc j) (.v (.str z)) m := by
    unfold fDGet
    rw [rdD_at h]
    rfl
  show O.or (fIxL (.loc j) (.v (.str z)) m) (O.or .bad (O.or .bad (fDGet (.loc j) (.v (.str z)) m))) = _
  rw [e1, ← e3]
  exact e2
theorem wo_mkDv {ks : List (Key × P)} {m : Μ} {Q : W → Μ → Prop} {X : XP} (h : Q (.v (.dct ks)) m) : WO (mkD .val ks m) Q X := h
/-! lists of tables, compared -/
end Pu
set_option Elab.async false
set_option linter.all false
set_option maxRecDepth 100000
set_option maxHeartbeats 4000000
namespace Pu
open L2 PySem PySem.Spec PyProof.Rows E10
open He (ga ma)
section
variable {X : XP} {Q : W → Μ → Prop} {QD : List (Key × P) → Μ → Prop} {γ : Γ} {μ m : Μ} {Fk Fv F : EF} {R : DF} {c : Kind}
def IsK (p : P) (k : Key → Prop) : Prop := ∃ key, keyP p = some key ∧ k key
theorem isKs {z : Str} {k : Key → Prop} (h : k (.inr z)) : IsK (.str z) k := ⟨_, rfl, h⟩
def Few15 (l : List (Key × P)) (A : Prop) : Prop := l.length ≤ 15 ∧ A
theorem few15 {l : List (Key × P)} {A : Prop} (h : l.length ≤ 15) (a : A) : Few15 l A := ⟨h, a⟩
theorem wo_disp (h : WO (R γ μ) (fun l m => Few15 l (WO (mkD c (mergeP [] l) m) Q X)) X) : WO (fDisp c R γ μ) Q X := wo_bind (wo_mono h (fun l m ⟨e, z⟩ => by rw [if_pos e]; exact z) fun _ _ _ z => z)
theorem wd_nil (h : QD [] μ) : WO (fDNil γ μ) QD X := h
theorem wd_cons (h : WO (Fk γ μ) (fun wk m => IsV wk fun pk => IsK pk fun k => WO (Fv γ m) (fun wv m => IsV wv fun p => WO (R γ m) (fun l m => QD ((k, p) :: l) m) X) X) X) : WO (fDCons Fk Fv R γ μ) QD X :=
  wo_bind (wo_mono h (fun wk m ⟨pk, e, k, e2, h⟩ => by
    subst e
    exact wo_bind (wo_mono h (fun wv m ⟨p, e3, h⟩ => by
      subst e3
      refine wo_bind (wo_mono h (fun l m h => ?_) fun _ _ _ z => z)
      simp only [e2]
      exact h) fun _ _ _ z => z)) fun _ _ _ z => z)
end
end Pu
set_option Elab.async false
set_option linter.all false
set_option maxRecDepth 100000
set_option maxHeartbeats 4000000
namespace Pu
open L2 PySem PySem.Spec PyProof.Rows E10
open He (ga ma)
/-! ### == of lists and tuples, whatever is in them -/
/-! what can be asked as data -/
def Sh (n : Nat) (p : P) : Prop := ∃ d, toD n p = some d ∧ d.canLay0 = true ∧ d.depth ≤ n
theorem Sh.shaped {p : P} (h : Sh 6 p) : ∃ d, toD 6 p = some d ∧ SeqAt.shaped d = true := by
  obtain ⟨d, e1, e2, e3⟩ := h
  refine ⟨d, e1, ?_⟩
  unfold SeqAt.shaped
  rw [e2, decide_eq_true (show d.depth ≤ 64 by omega)]
  rfl
end Pu
set_option Elab.async false
set_option linter.all false
set_option maxRecDepth 100000
set_option maxHeartbeats 4000000
namespace Pu
open L2 PySem PySem.Spec PyProof.Rows E10
open He (ga ma)
/-! ### all choices of one of each list -/
/-- picked by their places -/
theorem pick_at {α β : Type} (f : α → β) (p : α → Bool) (l : List α) (d : α) : ((List.range l.length).filter fun k => p (l.getD k d)).map (fun k => f (l.getD k d)) = (l.filter p).map f := by
  have e : (List.range l.length).map (fun k => l.getD k d) = l := by
    refine List.ext_getElem (by simp) fun i h1 h2 => ?_
    simp at h1
    simp [List.getD, h1]
  have e2 : (l.filter p).map f = (((List.range l.length).map (fun k => l.getD k d)).filter p).map f := by rw [e]
  rw [e2, List.filter_map, List.map_map]
  rfl
theorem dict_pairsC {μ : Μ} {c : Kind} {α : Type} (k : α → Str) (v : α → Int) {l : List α} (nd : (l.map k).Nodup) : gDict c [.v (.lst (l.map fun a => P.tup [.str (k a), .int (v a)]))] μ = mkD c ((l.map fun a => (k a, v a)).map rowP) μ := by
  show O.or .bad (match pairsP (l.map fun a => P.tup [.str (k a), .int (v a)]) with
    | some l => mkD c (mergeP [] l) μ
    | none => .bad) = _
  rw [pairs_map k (fun a => P.int (v a)) l, O.or_bad]
  show mkD c (mergeP [] (l.map fun a => (Sum.inr (k a), P.int (v a)))) μ = _
  rw [merge_fold, put_all (fun p : Key × P => p.1) (fun p => p.2)]
  · rw [List.nil_append, List.map_map, List.map_map]
    rfl
  · rw [List.map_nil, List.nil_append, List.map_map]
    have : (l.map ((fun p : Key × P => p.1) ∘ fun a => (Sum.inr (k a), P.int (v a)))) = (l.map k).map Sum.inr := by
      rw [List.map_map]
      rfl
    rw [this]
    exact List.Pairwise.map _ (fun a b h e => h (Sum.inr.inj e)) nd
theorem list_c {μ : Μ} {ps : List P} : gList .cell [.v (.lst ps)] μ = .ok (.loc μ.length) (μ ++ [.lst ps]) := rfl
end Pu
namespace Pu
open L2 PySem PySem.Spec PyProof.Rows E10
open He (ga ma)
/-! two places behind the pot's own -/
section
variable {r m : Μ} {c d e : PC}
theorem Pot.add2 (h : Pot r m) : Pot (r ++ [c, d]) (m ++ [c] ++ [d]) := by
  have := (h.add (c := c)).add (c := d)
  rwa [List.append_assoc] at this
theorem Pot.at0 (h : Pot (r ++ [c, d]) m) : m[r.length + 1]? = some c := by
  rw [h.at, List.getElem?_append_right (Nat.le_refl _), Nat.sub_self]
  rfl
theorem Pot.at1 (h : Pot (r ++ [c, d]) m) : m[r.length + 2]? = some d := by
  rw [h.at, List.getElem?_append_right (Nat.le_succ _), show r.length.succ - r.length = 1 by omega]
  rfl
theorem Pot.set0 (h : Pot (r ++ [c, d]) m) : Pot (r ++ [e, d]) (m.set (r.length + 1) e) := by
  have := h.set (j := r.length) (c := e)
  rwa [List.set_append_right _ _ (Nat.le_refl _), Nat.sub_self] at this
theorem Pot.set1 (h : Pot (r ++ [c, d]) m) : Pot (r ++ [c, e]) (m.set (r.length + 2) e) := by
  have := h.set (j := r.length + 1) (c := e)
  rwa [List.set_append_right _ _ (Nat.le_succ _), show r.length.succ - r.length = 1 by omega] at this
end
end Pu
set_option Elab.async false
set_option linter.all false
set_option maxRecDepth 100000
set_option maxHeartbeats 4000000
set_option Elab.async false
set_option linter.all false
set_option maxRecDepth 100000
set_option maxHeartbeats 4000000
namespace Pu
open L2 PySem PySem.Spec PyProof.Rows E10
open He (ga ma)
section
variable {X : XP} {Q : W → Μ → Prop} {QL : List P → Μ → Prop} {QB : Bool → Μ → Prop} {γ : Γ} {μ m : Μ} {F : EF}
/-- a dict comprehension that leaves some out -/
theorem wd_on {α : Type} {t : GF} {T : TF} {Ek Ev : EF} {QL : List (Key × P) → Μ → Prop} (g : α → P) (c : α → Bool) (kk : α → Key) (v : α → P) {l : List α} {m : Μ} (nd : ((l.filter c).map kk).Nodup)
    (h : ∀ a ∈ l, ∃ γ1 kp, t (g a) γ = some γ1 ∧ keyP kp = some (kk a) ∧ WO (T γ1 m) (fun b m' => b = c a ∧ m' = m) X0 ∧ (c a = true → WO (Ek γ1 m) (fun w m' => w = .v kp ∧ m' = m) X0 ∧ WO (Ev γ1 m) (fun w m' => w = .v (v a) ∧ m' = m) X0)) (k : QL ((l.filter c).map fun a => (kk a, v a)) m) : WO (dcGo t T Ek Ev γ (l.map g) [] m) QL X := by
  rw [dc_on g c kk v (l := l) fun a ha => ?_, put_all kk v (by simpa using nd)]
  · exact k
  · obtain ⟨γ1, kp, e1, ek, w, w2⟩ := h a ha
    obtain ⟨_, m', e2, rfl, rfl⟩ := wo_out w
    refine ⟨γ1, kp, e1, e2, fun z => ?_⟩
    obtain ⟨w3, w4⟩ := w2 z
    obtain ⟨_, m2, e3, rfl, rfl⟩ := wo_out w3
    obtain ⟨_, m3, e4, rfl, rfl⟩ := wo_out w4
    exact ⟨e3, ek, e4⟩
theorem wo_lc2 {I I1 : IF} {t t1 : GF} {T T1 : TF} {E : EF} {vs vs1 : List Nat} (h : WO (I γ μ) (fun ps m => ps.length ≤ 1000 ∧ WO (lc2Go t T I1 t1 T1 E vs1 (wipeG γ vs) ps m) (fun qs m => Q (.v (.lst qs)) m) X) X) : WO (fLc2 I t T I1 t1 T1 E vs vs1 γ μ) Q X := wo_bind (wo_mono h (fun _ _ ⟨l, z⟩ => by rw [if_pos l]; exact wo_bind z) fun _ _ _ z => z)
theorem wl2_all {α : Type} {I1 : IF} {t t1 : GF} {T T1 : TF} {E : EF} {vs1 : List Nat} (g : α → P) (e : α → List P) {l : List α} {QL : List P → Μ → Prop} (h : ∀ a ∈ l, ∃ γ1, t (g a) γ = some γ1 ∧ WO (T γ1 m) (fun b m' => b = true ∧ m' = m) X0 ∧ WO (I1 γ1 m) (fun ps m' => ps.length ≤ 1000 ∧ m' = m ∧ WO (lcGo t1 T1 E (wipeG γ1 vs1) ps m) (fun qs m' => qs = e a ∧ m' = m) X0) X0) (k : QL (l.flatMap e) m) : WO (lc2Go t T I1 t1 T1 E vs1 γ (l.map g) m) QL X := by
  have go : lc2Go t T I1 t1 T1 E vs1 γ (l.map g) m = .ok (l.flatMap e) m := by
    clear k
    induction l with
    | nil => rfl
    | cons a l ih =>
      obtain ⟨γ1, e1, wT, wI⟩ := h a List.mem_cons_self
      obtain ⟨_, _, eT, rfl, rfl⟩ := wo_out wT
      obtain ⟨ps, _, eI, lp, rfl, wL⟩ := wo_out wI
      obtain ⟨_, _, eL, rfl, rfl⟩ := wo_out wL
      rw [List.map_cons, lc2Go, e1]
      simp only [eT, eI, O.nx, O.bind_ok, if_true, if_pos lp, eL, ih fun a m => h a (List.mem_cons_of_mem _ m)]
      rfl
  rw [go]
  exact k
theorem wt_truth (h : WO (F γ μ) (fun w m => ∃ b, (w = .v (.bl b) ∨ (∃ i : Int, w = .v (.int i) ∧ b = (i != 0)) ∨ (w = .v .non ∧ b = false) ∨ (∃ ps : List P, (w = .v (.lst ps) ∨ w = .v (.tup ps)) ∧ b = !ps.isEmpty)) ∧ QB b m) X) : WO (fTruth F γ μ) QB X := wo_bind (wo_mono h (fun w m ⟨b, e, z⟩ => by
  rcases e with rfl | ⟨i, rfl, rfl⟩ | ⟨rfl, rfl⟩ | ⟨ps, rfl | rfl, rfl⟩ <;> exact z) fun _ _ _ z => z)
theorem isN_F {p : P} {neg : Bool} (h : p ≠ .non) : fIsN neg (.v p) (.v .non) μ = .ok (.v (.bl neg)) μ := by
  unfold fIsN
  cases p <;> first | exact absurd rfl h | (cases neg <;> rfl)
theorem isN_T {neg : Bool} : fIsN neg (.v .non) (.v .non) μ = .ok (.v (.bl (!neg))) μ := by
  unfold fIsN
  cases neg <;> rfl
end
end Pu
set_option Elab.async false
set_option linter.all false
set_option maxRecDepth 100000
set_option maxHeartbeats 4000000
namespace Pu
open L2 PySem PySem.Spec PyProof.Rows E10
open He (ga ma)
local macro_rules | `(tactic| walk_at "pu wq1") => `(tactic| first | ((with_reducible apply wo_var); next => rfl) | with_reducible refine wo_c ?_ | with_reducible refine wo_op ?_ | with_reducible refine wo_call ?_ | with_reducible refine wa_cons ?_ | with_reducible refine wa_nil ?_ | with_reducible refine wo_eq add_ii ?_ | with_reducible refine wo_eq sub_ii ?_ | with_reducible refine wo_eq le_ii ?_ | with_reducible refine wo_eq lt_ii ?_ | with_reducible refine wo_eq gt_ii ?_ | with_reducible refine wo_eq eq_ii ?_ | with_reducible refine ws_seq ?_ | with_reducible refine ws_set ?_ | ((with_reducible apply st1); next => ((try simp only [List.set_cons_zero, List.set_cons_succ]); first | done | rfl)) | with_reducible refine ws_ret ?_ | with_reducible refine ws_drop ?_ | with_reducible refine ws_next ?_ | with_reducible refine ws_for ?_ | with_reducible refine wt_test ?_ | with_reducible refine isB ?_ | with_reducible refine isV ?_ | with_reducible refine isI ?_ | with_reducible refine bi_tt ?_ | with_reducible refine bi_ff ?_ | with_reducible refine bi_not ?_ | with_reducible refine bi_bneF ?_ | with_reducible refine bi_bneT ?_ | ((with_reducible refine bi_T ?_ ?_); next => assumption) | ((with_reducible refine bi_F ?_ ?_); next => assumption) | ((with_reducible refine bi_dT ?_ ?_); next => assumption) | ((with_reducible refine bi_dF ?_ ?_); next => assumption) | with_reducible refine wt_not ?_ | with_reducible refine wt_and ?_ | with_reducible refine wt_or ?_ | with_reducible refine wt_yes ?_ | with_reducible refine wo_andV ?_ | with_reducible refine wo_orV ?_ | with_reducible refine wo_notV ?_ | with_reducible refine wo_if ?_ | with_reducible refine wo_chain ?_ | with_reducible refine wo_seq ?_ | with_reducible refine wo_lstC ?_ | with_reducible refine isVs1 ?_ | with_reducible refine isVs0 ?_ | with_reducible refine isVsA ?_ | with_reducible refine isVsM ?_ | ((with_reducible refine few1 ?_ ?_); next => (first | decide | (simp only [List.length_map, List.length_append, List.length_cons, List.length_nil]; omega))) | with_reducible refine wo_fld ?_ | with_reducible refine wo_meth ?_ | with_reducible refine wo_prop ?_ | with_reducible refine isO ?_ | with_reducible refine wo_callO ?_ | with_reducible refine wo_mk ?_ | with_reducible refine wo_frz ?_ | with_reducible refine wo_frzv ?_ | with_reducible refine wo_drop ?_ | ((with_reducible apply wo_fldv); next => rfl) | ((with_reducible apply noF); next => rfl) | with_reducible refine isC1 ?_ | ((with_reducible refine leM ?_ ?_); next => (first | exact Nat.le_refl _ | exact pot_le (by assumption) (by assumption))) | ((with_reducible apply wo_isi (c := true)); (next => rfl); (next => decide); (next => decide)) | ((with_reducible apply wo_isi (c := false)); (next => rfl); (next => decide); (next => decide)) | ((with_reducible refine wo_isiO1 ?_ ?_); next => simp) | ((with_reducible refine wo_isiOb ?_ ?_ ?_); (next => simp); (next => simp)) | ((with_reducible apply wo_isibO); (next => rfl); (next => simp)) | ((with_reducible refine wo_eqO ?_ ?_); next => simp) | ((with_reducible refine wo_neO ?_ ?_); next => simp) | with_reducible refine wo_own2 ?_ | with_reducible refine wo_ownI ?_ | with_reducible refine wo_iown ?_ | with_reducible refine wo_ixO ?_ | with_reducible refine wo_inO ?_ | with_reducible refine wi_any ?_ | with_reducible refine wi_vals ?_ | with_reducible refine wi_items ?_ | with_reducible refine wi_rg1 ?_ | with_reducible refine wo_lc ?_ | with_reducible refine wo_dc ?_ | ((with_reducible apply wo_lock); next => rfl) | ((with_reducible apply ws_lock); next => rfl) | with_reducible refine ws_par ?_ | with_reducible refine is2 ?_ | with_reducible refine ws_par3 ?_ | with_reducible refine is3 ?_ | with_reducible refine ws_asg ?_ | with_reducible refine wo_un ?_ | with_reducible refine wo_eq neg_i ?_ | with_reducible refine wo_eq eq_bb ?_ | with_reducible refine wo_eq eq_ss ?_ | with_reducible refine wo_eq max_ii ?_ | with_reducible refine wo_eq min_ii ?_ | with_reducible refine lew_v ?_ | with_reducible refine wo_bm ?_ | with_reducible refine wo_sl ?_ | with_reducible refine wq_none ?_ | with_reducible refine wq_some ?_ | with_reducible refine wo_ok ?_ | with_reducible refine ws_nx ?_ | with_reducible refine wo_get2 ?_ | ((with_reducible refine wo_eq (mul_ii ?_) ?_); next => (first | exact .inl (by decide) | exact .inr (by decide))) | ((with_reducible refine wo_eq (mod_ii ?_) ?_); next => decide) | ((with_reducible refine wo_eq (div_ii ?_) ?_); next => decide) | ((with_reducible refine wo_eq (pow_ii ?_) ?_); next => decide))
local macro_rules | `(tactic| walk_at "pu wp1") => `(tactic| first | walk_at "pu wq1" | with_reducible refine ws_if ?_)
local macro_rules | `(tactic| walk_at "pu wp") => `(tactic| repeat walk_at "pu wp1")
local macro_rules | `(tactic| walk_at "pu wq") => `(tactic| repeat walk_at "pu wq1")
local macro_rules | `(tactic| walk_at "pu wdef") => `(tactic| (apply wo_def rfl; next => ((try simp only [List.map_cons, List.map_nil, List.replicate_succ, List.replicate_zero, List.cons_append, List.nil_append, List.append_nil, List.length_cons, List.length_nil, Nat.reduceAdd, Nat.reduceSub]); first | done | rfl)))
local macro_rules | `(tactic| walk_at "pu wdone") => `(tactic| exact ⟨rfl, by first | rfl | exact List.take_length⟩)
theorem pot0 {a b : Int} {r : Μ} : gIx (.loc 0) (.v (.int 0)) (pc a b :: r) = .ok (.v (.int a)) (pc a b :: r) := rfl
theorem pot1 {a b : Int} {r : Μ} : gIx (.loc 0) (.v (.int 1)) (pc a b :: r) = .ok (.v (.int b)) (pc a b :: r) := rfl
section
variable {Pg : Program} {w : World} {K : PySem.W.Frag}
theorem s_draw : Draws (D__law_draw Pg w K) := by
  intro n r m Q X hm h0 h1 k
  obtain ⟨a, b, hp, rfl⟩ := hm
  unfold D__law_draw
  walk_at "pu wdef"
  have tk : ∀ c : PC, List.take (c :: r).length (c :: r) = c :: r := fun c => List.take_of_length_le (Nat.le_refl _)
  repeat (first | walk_at "pu wp1" | with_reducible refine wo_eq (pot0) ?_ | with_reducible refine wo_eq (pot1) ?_)
  refine bi_if (fun c => ?_) fun c => ?_
  · walk_at "pu wp"
    apply ws_sub
    repeat (first | walk_at "pu wp1" | with_reducible refine wo_eq (pot0) ?_ | with_reducible refine wo_eq (divm ⟨h0, h1⟩) ?_)
    refine ⟨_, _, rfl, ?_⟩
    walk_at "pu wp"
    refine ⟨0, [.int a, .int b], 0, rfl, rfl, ?_⟩
    walk_at "pu wp"
    refine lew_v ?_
    show Q _ (List.take (pc a b :: r).length (pc (a / n) b :: r))
    rw [show (pc a b :: r).length = (pc (a / n) b :: r).length from rfl, tk]
    exact k _ _ (Int.emod_nonneg _ (by omega)) (Int.emod_lt_of_pos _ h0) ⟨_, _, ⟨Int.ediv_nonneg hp.a0 (by omega), hp.b0, hp.b1⟩, rfl⟩
  · walk_at "pu wp"
    apply ws_lput
    repeat (first | walk_at "pu wp1" | with_reducible refine wo_eq (pot1) ?_)
    refine ⟨0, [.int a, .int b], 1, rfl, rfl, ?_⟩
    generalize hb : (b * _ + _) % _ = b'
    show WS _ _ _ _ _ _
    rw [show List.set (pc a b :: r) 0 (PC.lst (List.set [P.int a, P.int b] 1 (.int b'))) = pc a b' :: r from rfl]
    have b2 : 0 ≤ b' := by rw [← hb]; exact Int.emod_nonneg _ (by decide)
    have b3 : b' < 2147483648 := by rw [← hb]; exact Int.lt_of_lt_of_le (Int.emod_lt_of_pos _ (by decide)) (by decide)
    repeat (first | walk_at "pu wp1" | with_reducible refine wo_eq (pot1) ?_ | with_reducible refine wo_eq (mul_ii (i := b') (j := b') (.inl (by omega))) ?_ | with_reducible refine wo_eq (mod_ii h0) ?_)
    refine lew_v ?_
    rw [show (pc a b :: r).length = (pc a b' :: r).length from rfl, tk]
    exact k _ _ (Int.emod_nonneg _ (by omega)) (Int.emod_lt_of_pos _ h0) ⟨_, _, ⟨hp.a0, b2, b3⟩, rfl⟩
theorem s_pot {ns : List Int} {k : Nat} (hk : k < 64) : WO (D__law_pot Pg w K [.v (.lst (ns.map P.int)), .v (.int k)] []) (fun w m => w = .loc 0 ∧ Pot [] m) X0 := by
  unfold D__law_pot
  walk_at "pu wdef"
  walk_at "pu wq"
  refine ws_mid (fun γ m => ∃ c : Int, γ = [some (.v (.lst (ns.map P.int))), some (.v (.int k)), some (.v (.int c))] ∧ m = []) ?_ fun γ m ⟨c, e1, e2⟩ => ?_
  · repeat (first | walk_at "pu wp1" | with_reducible refine wo_eq (len_l) ?_)
    refine bi_if (fun c => ?_) fun c => ?_
    · have lt : k < ns.length := by rw [List.length_map] at c; omega
      repeat (first | walk_at "pu wp1" | with_reducible refine wo_eq (ix_l (ps := ns.map P.int) (k := k) (v := P.int ns[k]) (by simp [lt])) ?_ | with_reducible refine wo_eq (abs_i) ?_)
      exact ⟨_, rfl, rfl⟩
    · walk_at "pu wp"
      exact ⟨_, rfl, rfl⟩
  · subst e1
    subst e2
    repeat (first | walk_at "pu wp1" | with_reducible refine wo_eq (pow_ii (i := 2 * (k : Int) + 5) (by omega)) ?_ | with_reducible refine wo_eq (mul_ii (.inl (by omega))) ?_)
    refine lew_new (Nat.le_refl _) rfl rfl ⟨rfl, _, _, ⟨Int.le_max_left .., ?_, ?_⟩, rfl⟩ <;> omega
/-- the law, if it holds of one pot -/
theorem e_law (h : ∀ m, Pot [] m → WO (D__law_right Pg w K [.loc 0] m) (fun w _ => w = .v (.bl true)) X0) (nsq : List Int) (hl : nsq.length ≤ 63) : ∃ m, D_law Pg w K [.v (.lst (nsq.map P.int))] [] = .ok (.v (.bl true)) m := by
  refine ⟨[], eq_wo ?_⟩
  unfold D_law
  walk_at "pu wdef"
  repeat (first | walk_at "pu wp1" | with_reducible refine wo_eq (len_l) ?_)
  rw [List.length_map]
  refine isRgL (max (1 : Int) (min 4 ((nsq.length : Nat) : Int))).toNat (by omega) (by omega) ?_
  refine wl_map (fun m => m = []) (fun _ q => q = .bl true) rfl (fun p hp m em => ⟨_, rfl, ?_⟩) fun qs m pr em => ?_
  · subst em
    obtain ⟨j, hj⟩ := List.getElem?_of_mem hp
    obtain ⟨lt, rfl⟩ := rng_at hj
    walk_at "pu wp"
    refine wo_to (s_pot (by omega)) fun w m ⟨e1, e2⟩ => ?_
    subst e1
    walk_at "pu wp"
    refine wo_to (h m e2) fun w m e => ?_
    subst e
    walk_at "pu wp"
    exact ⟨rfl, rfl⟩
  · subst em
    walk_at "pu wp"
    have e : blsP qs = some (qs.map fun _ => true) := by
      clear hl
      generalize rngP 0 _ = ps at pr
      induction pr with
      | nil => rfl
      | cons a t ih =>
        subst a
        show (blsP _).map (true :: ·) = _
        rw [ih]
        rfl
    repeat (first | walk_at "pu wp1" | with_reducible refine wo_eq (bls_all e) ?_)
    refine ⟨?_, rfl⟩
    simp
end
end Pu
set_option Elab.async false
set_option linter.all false
set_option maxRecDepth 100000
set_option maxHeartbeats 4000000
namespace Pu
open L2 PySem PySem.Spec PyProof.Rows E10
open He (ga ma)
local macro_rules | `(tactic| walk_at "pu wq1") => `(tactic| first | ((with_reducible apply wo_var); next => rfl) | with_reducible refine wo_c ?_ | with_reducible refine wo_op ?_ | with_reducible refine wo_call ?_ | with_reducible refine wa_cons ?_ | with_reducible refine wa_nil ?_ | with_reducible refine wo_eq add_ii ?_ | with_reducible refine wo_eq sub_ii ?_ | with_reducible refine wo_eq le_ii ?_ | with_reducible refine wo_eq lt_ii ?_ | with_reducible refine wo_eq gt_ii ?_ | with_reducible refine wo_eq eq_ii ?_ | with_reducible refine ws_seq ?_ | with_reducible refine ws_set ?_ | ((with_reducible apply st1); next => ((try simp only [List.set_cons_zero, List.set_cons_succ]); first | done | rfl)) | with_reducible refine ws_ret ?_ | with_reducible refine ws_drop ?_ | with_reducible refine ws_next ?_ | with_reducible refine ws_for ?_ | with_reducible refine wt_test ?_ | with_reducible refine isB ?_ | with_reducible refine isV ?_ | with_reducible refine isI ?_ | with_reducible refine bi_tt ?_ | with_reducible refine bi_ff ?_ | with_reducible refine bi_not ?_ | with_reducible refine bi_bneF ?_ | with_reducible refine bi_bneT ?_ | ((with_reducible refine bi_T ?_ ?_); next => assumption) | ((with_reducible refine bi_F ?_ ?_); next => assumption) | ((with_reducible refine bi_dT ?_ ?_); next => assumption) | ((with_reducible refine bi_dF ?_ ?_); next => assumption) | with_reducible refine wt_not ?_ | with_reducible refine wt_and ?_ | with_reducible refine wt_or ?_ | with_reducible refine wt_yes ?_ | with_reducible refine wo_andV ?_ | with_reducible refine wo_orV ?_ | with_reducible refine wo_notV ?_ | with_reducible refine wo_if ?_ | with_reducible refine wo_chain ?_ | with_reducible refine wo_seq ?_ | with_reducible refine wo_lstC ?_ | with_reducible refine isVs1 ?_ | with_reducible refine isVs0 ?_ | with_reducible refine isVsA ?_ | with_reducible refine isVsM ?_ | ((with_reducible refine few1 ?_ ?_); next => (first | decide | (simp only [List.length_map, List.length_append, List.length_cons, List.length_nil]; omega))) | with_reducible refine wo_fld ?_ | with_reducible refine wo_meth ?_ | with_reducible refine wo_prop ?_ | with_reducible refine isO ?_ | with_reducible refine wo_callO ?_ | with_reducible refine wo_mk ?_ | with_reducible refine wo_frz ?_ | with_reducible refine wo_frzv ?_ | with_reducible refine wo_drop ?_ | ((with_reducible apply wo_fldv); next => rfl) | ((with_reducible apply noF); next => rfl) | with_reducible refine isC1 ?_ | ((with_reducible refine leM ?_ ?_); next => (first | exact Nat.le_refl _ | exact pot_le (by assumption) (by assumption))) | ((with_reducible apply wo_isi (c := true)); (next => rfl); (next => decide); (next => decide)) | ((with_reducible apply wo_isi (c := false)); (next => rfl); (next => decide); (next => decide)) | ((with_reducible refine wo_isiO1 ?_ ?_); next => simp) | ((with_reducible refine wo_isiOb ?_ ?_ ?_); (next => simp); (next => simp)) | ((with_reducible apply wo_isibO); (next => rfl); (next => simp)) | ((with_reducible refine wo_eqO ?_ ?_); next => simp) | ((with_reducible refine wo_neO ?_ ?_); next => simp) | with_reducible refine wo_own2 ?_ | with_reducible refine wo_ownI ?_ | with_reducible refine wo_iown ?_ | with_reducible refine wo_ixO ?_ | with_reducible refine wo_inO ?_ | with_reducible refine wi_any ?_ | with_reducible refine wi_vals ?_ | with_reducible refine wi_items ?_ | with_reducible refine wi_rg1 ?_ | with_reducible refine wo_lc ?_ | with_reducible refine wo_dc ?_ | ((with_reducible apply wo_lock); next => rfl) | ((with_reducible apply ws_lock); next => rfl) | with_reducible refine ws_par ?_ | with_reducible refine is2 ?_ | with_reducible refine ws_par3 ?_ | with_reducible refine is3 ?_ | with_reducible refine ws_asg ?_ | with_reducible refine wo_un ?_ | with_reducible refine wo_eq neg_i ?_ | with_reducible refine wo_eq eq_bb ?_ | with_reducible refine wo_eq eq_ss ?_ | with_reducible refine wo_eq max_ii ?_ | with_reducible refine wo_eq min_ii ?_ | with_reducible refine lew_v ?_ | with_reducible refine wo_bm ?_ | with_reducible refine wo_sl ?_ | with_reducible refine wq_none ?_ | with_reducible refine wq_some ?_ | with_reducible refine wo_ok ?_ | with_reducible refine ws_nx ?_ | with_reducible refine wo_get2 ?_ | ((with_reducible refine wo_eq (mul_ii ?_) ?_); next => (first | exact .inl (by decide) | exact .inr (by decide))) | ((with_reducible refine wo_eq (mod_ii ?_) ?_); next => decide) | ((with_reducible refine wo_eq (div_ii ?_) ?_); next => decide) | ((with_reducible refine wo_eq (pow_ii ?_) ?_); next => decide))
local macro_rules | `(tactic| walk_at "pu wp1") => `(tactic| first | walk_at "pu wq1" | with_reducible refine ws_if ?_)
local macro_rules | `(tactic| walk_at "pu wp") => `(tactic| repeat walk_at "pu wp1")
local macro_rules | `(tactic| walk_at "pu wq") => `(tactic| repeat walk_at "pu wq1")
local macro_rules | `(tactic| walk_at "pu wdef") => `(tactic| (apply wo_def rfl; next => ((try simp only [List.map_cons, List.map_nil, List.replicate_succ, List.replicate_zero, List.cons_append, List.nil_append, List.append_nil, List.length_cons, List.length_nil, Nat.reduceAdd, Nat.reduceSub]); first | done | rfl)))
local macro_rules | `(tactic| walk_at "pu wdone") => `(tactic| exact ⟨rfl, by first | rfl | exact List.take_length⟩)
section
variable {Pg : Program} {w : World} {K : PySem.W.Frag} {μ : Μ}
theorem e_is_name {z : Str} (h : Nm z) : D_is_name Pg w K [.v (.str z)] μ = .ok (.v (.bl true)) μ := eq_wo (by
  have hl := h.hi
  have h1 : ((1 : Int) ≤ ((z.length : Nat) : Int)) := by have := h.lo; omega
  have h8 : (((z.length : Nat) : Int) ≤ 8) := by omega
  unfold D_is_name
  walk_at "pu wdef"
  repeat (first | walk_at "pu wp1" | with_reducible refine wo_eq (len_s (show z.length ≤ 100000 by omega)) ?_ | with_reducible refine wo_eq (it_s (show (chrP z).length ≤ 100000 by rw [len_chr]; omega)) ?_)
  refine wl_all (fun c => P.str ⟨#[c]⟩) (fun _ => P.bl true) (l := z.cps.toList) (fun c hc => ?_) ?_
  · refine ⟨_, rfl, ?_⟩
    obtain ⟨a1, a2⟩ := h.az c hc
    have l1 : leS ("a" : Str) ⟨#[c]⟩ = true := (le_one 97 c).trans (decide_eq_true a1)
    have l2 : leS ⟨#[c]⟩ ("z" : Str) = true := (le_one c 122).trans (decide_eq_true a2)
    repeat (first | walk_at "pu wp1" | with_reducible refine wo_eq (le_ss) ?_)
    rw [l2]
    exact ⟨rfl, rfl⟩
  · repeat (first | walk_at "pu wp1" | with_reducible refine wo_eq (bls_all (bls_map (fun _ => true) z.cps.toList)) ?_)
    rw [show (z.cps.toList.map fun _ => true).all id = true by simp]
    walk_at "pu wdone")
theorem e_is_integer (i : Int) : D_is_integer Pg w K [.v (.int i)] μ = .ok (.v (.bl true)) μ := eq_wo (by
  unfold D_is_integer
  walk_at "pu wdef"
  walk_at "pu wp"
  walk_at "pu wdone")
theorem e_has_names {t : Tb} (h : t ≠ []) (nm : ∀ z ∈ keys t, Nm z) (le : t.length ≤ 64) : D_has_names Pg w K [.v (dctP t)] μ = .ok (.v (.bl true)) μ := eq_wo (by
  have h0 : ((0 : Int) < ((t.length : Nat) : Int)) := by have := List.length_pos_iff.mpr h; omega
  unfold D_has_names
  walk_at "pu wdef"
  repeat (first | walk_at "pu wp1" | with_reducible refine wo_eq (len_t) ?_ | with_reducible refine wo_eq (it_d (show t.length ≤ 100000 by omega)) ?_)
  refine wl_all P.str (fun _ => P.bl true) (l := keys t) (fun z m => ?_) ?_
  · refine ⟨_, rfl, ?_⟩
    repeat (first | walk_at "pu wp1" | with_reducible refine wo_eq (e_is_name (nm z m)) ?_)
    exact ⟨rfl, rfl⟩
  · repeat (first | walk_at "pu wp1" | with_reducible refine wo_eq (bls_all (bls_map (fun _ => true) (keys t))) ?_)
    rw [show ((keys t).map fun _ => true).all id = true by simp]
    walk_at "pu wdone")
theorem e_check_shift (i : Int) : D_check_shift Pg w K [.v (.int i)] μ = .ok (.v .non) μ := eq_wo (by
  unfold D_check_shift
  walk_at "pu wdef"
  repeat (first | walk_at "pu wp1" | with_reducible refine wo_eq (e_is_integer i) ?_)
  walk_at "pu wdone")
theorem e_is_list {p : P} (h : (∃ ps, p = .lst ps) ∨ ∃ ps, p = .tup ps) : D_is_list Pg w K [.v p] μ = .ok (.v (.bl true)) μ := eq_wo (by
  unfold D_is_list
  walk_at "pu wdef"
  walk_at "pu wp"
  apply wo_isiT
  rcases h with ⟨ps, rfl⟩ | ⟨ps, rfl⟩
  · walk_at "pu wp"
    refine ⟨_, _, true, rfl, rfl, by decide, ?_, ?_⟩
    · show kitAnyP _ _ _ = _
      simp only [kitAnyP, kitP]
      decide +kernel
    · walk_at "pu wp"
      walk_at "pu wdone"
  · walk_at "pu wp"
    refine ⟨_, _, true, rfl, rfl, by decide, ?_, ?_⟩
    · show kitAnyP _ _ _ = _
      simp only [kitAnyP, kitP]
      decide +kernel
    · walk_at "pu wp"
      walk_at "pu wdone")
theorem e_in_order {t : Tb} (nd : (keys t).Nodup) (le : t.length < 64) : D_in_order Pg w K [.v (dctP t)] μ = .ok (.v (dctP (ord t))) μ := eq_wo (by
  have hs : ((srt (keys t)).map P.str).length ≤ 100000 := by rw [List.length_map, (srt_perm _).length_eq, len_keys]; omega
  unfold D_in_order
  walk_at "pu wdef"
  repeat (first | walk_at "pu wp1" | with_reducible refine wo_eq (sort_t le) ?_ | with_reducible refine wo_eq (it_l hs) ?_)
  refine wd_all P.str (fun z => Sum.inr z) (fun z => P.int (val t z)) (l := srt (keys t)) (List.Pairwise.map _ (fun a b h e => h (Sum.inr.inj e)) ((srt_perm _).nodup_iff.mpr nd)) (fun z m => ?_) ?_
  · refine ⟨_, .str z, rfl, rfl, ?_, ?_⟩
    · walk_at "pu wp"
      exact ⟨rfl, rfl⟩
    repeat (first | walk_at "pu wp1" | with_reducible refine wo_eq (dget_ok (val_of (srt_mem.mp m))) ?_)
    exact ⟨rfl, rfl⟩
  · walk_at "pu wp"
    refine ⟨?_, List.take_length⟩
    unfold dctP ord rowP
    rw [List.map_map]
    rfl)
theorem e_moved {t : Tb} (nd : (keys t).Nodup) (le : t.length < 64) (n : Int) : D_moved Pg w K [.v (dctP t), .v (.int n)] μ = .ok (.v (dctP (shf t n))) μ := eq_wo (by
  unfold D_moved
  walk_at "pu wdef"
  repeat (first | walk_at "pu wp1" | with_reducible refine wo_eq (it_d (show t.length ≤ 100000 by omega)) ?_)
  refine wd_all P.str (fun z => Sum.inr z) (fun z => P.int (val t z + n)) (l := keys t) (List.Pairwise.map _ (fun a b h e => h (Sum.inr.inj e)) nd) (fun z m => ?_) ?_
  · refine ⟨_, .str z, rfl, rfl, ?_, ?_⟩
    · walk_at "pu wp"
      exact ⟨rfl, rfl⟩
    repeat (first | walk_at "pu wp1" | with_reducible refine wo_eq (dget_ok (val_of m)) ?_)
    exact ⟨rfl, rfl⟩
  · walk_at "pu wp"
    refine ⟨?_, List.take_length⟩
    unfold dctP shf rowP keys
    rw [List.map_map, List.map_map]
    congr 2
    refine List.map_congr_left fun p m => ?_
    show (Sum.inr p.1, P.int (val t p.1 + n)) = (Sum.inr p.1, P.int (p.2 + n))
    rw [val_at nd (z := p.1) (v := p.2) m])
end
end Pu
set_option Elab.async false
set_option linter.all false
set_option maxRecDepth 100000
set_option maxHeartbeats 4000000
namespace Pu
open L2 PySem PySem.Spec PyProof.Rows E10
open He (ga ma)
local macro_rules | `(tactic| walk_at "pu wq1") => `(tactic| first | ((with_reducible apply wo_var); next => rfl) | with_reducible refine wo_c ?_ | with_reducible refine wo_op ?_ | with_reducible refine wo_call ?_ | with_reducible refine wa_cons ?_ | with_reducible refine wa_nil ?_ | with_reducible refine wo_eq add_ii ?_ | with_reducible refine wo_eq sub_ii ?_ | with_reducible refine wo_eq le_ii ?_ | with_reducible refine wo_eq lt_ii ?_ | with_reducible refine wo_eq gt_ii ?_ | with_reducible refine wo_eq eq_ii ?_ | with_reducible refine ws_seq ?_ | with_reducible refine ws_set ?_ | ((with_reducible apply st1); next => ((try simp only [List.set_cons_zero, List.set_cons_succ]); first | done | rfl)) | with_reducible refine ws_ret ?_ | with_reducible refine ws_drop ?_ | with_reducible refine ws_next ?_ | with_reducible refine ws_for ?_ | with_reducible refine wt_test ?_ | with_reducible refine isB ?_ | with_reducible refine isV ?_ | with_reducible refine isI ?_ | with_reducible refine bi_tt ?_ | with_reducible refine bi_ff ?_ | with_reducible refine bi_not ?_ | with_reducible refine bi_bneF ?_ | with_reducible refine bi_bneT ?_ | ((with_reducible refine bi_T ?_ ?_); next => assumption) | ((with_reducible refine bi_F ?_ ?_); next => assumption) | ((with_reducible refine bi_dT ?_ ?_); next => assumption) | ((with_reducible refine bi_dF ?_ ?_); next => assumption) | with_reducible refine wt_not ?_ | with_reducible refine wt_and ?_ | with_reducible refine wt_or ?_ | with_reducible refine wt_yes ?_ | with_reducible refine wo_andV ?_ | with_reducible refine wo_orV ?_ | with_reducible refine wo_notV ?_ | with_reducible refine wo_if ?_ | with_reducible refine wo_chain ?_ | with_reducible refine wo_seq ?_ | with_reducible refine wo_lstC ?_ | with_reducible refine isVs1 ?_ | with_reducible refine isVs0 ?_ | with_reducible refine isVsA ?_ | with_reducible refine isVsM ?_ | ((with_reducible refine few1 ?_ ?_); next => (first | decide | (simp only [List.length_map, List.length_append, List.length_cons, List.length_nil]; omega))) | with_reducible refine wo_fld ?_ | with_reducible refine wo_meth ?_ | with_reducible refine wo_prop ?_ | with_reducible refine isO ?_ | with_reducible refine wo_callO ?_ | with_reducible refine wo_mk ?_ | with_reducible refine wo_frz ?_ | with_reducible refine wo_frzv ?_ | with_reducible refine wo_drop ?_ | ((with_reducible apply wo_fldv); next => rfl) | ((with_reducible apply noF); next => rfl) | with_reducible refine isC1 ?_ | ((with_reducible refine leM ?_ ?_); next => (first | exact Nat.le_refl _ | exact pot_le (by assumption) (by assumption))) | ((with_reducible apply wo_isi (c := true)); (next => rfl); (next => decide); (next => decide)) | ((with_reducible apply wo_isi (c := false)); (next => rfl); (next => decide); (next => decide)) | ((with_reducible refine wo_isiO1 ?_ ?_); next => simp) | ((with_reducible refine wo_isiOb ?_ ?_ ?_); (next => simp); (next => simp)) | ((with_reducible apply wo_isibO); (next => rfl); (next => simp)) | ((with_reducible refine wo_eqO ?_ ?_); next => simp) | ((with_reducible refine wo_neO ?_ ?_); next => simp) | with_reducible refine wo_own2 ?_ | with_reducible refine wo_ownI ?_ | with_reducible refine wo_iown ?_ | with_reducible refine wo_ixO ?_ | with_reducible refine wo_inO ?_ | with_reducible refine wi_any ?_ | with_reducible refine wi_vals ?_ | with_reducible refine wi_items ?_ | with_reducible refine wi_rg1 ?_ | with_reducible refine wo_lc ?_ | with_reducible refine wo_dc ?_ | ((with_reducible apply wo_lock); next => rfl) | ((with_reducible apply ws_lock); next => rfl) | with_reducible refine ws_par ?_ | with_reducible refine is2 ?_ | with_reducible refine ws_par3 ?_ | with_reducible refine is3 ?_ | with_reducible refine ws_asg ?_ | with_reducible refine wo_un ?_ | with_reducible refine wo_eq neg_i ?_ | with_reducible refine wo_eq eq_bb ?_ | with_reducible refine wo_eq eq_ss ?_ | with_reducible refine wo_eq max_ii ?_ | with_reducible refine wo_eq min_ii ?_ | with_reducible refine lew_v ?_ | with_reducible refine wo_bm ?_ | with_reducible refine wo_sl ?_ | with_reducible refine wq_none ?_ | with_reducible refine wq_some ?_ | with_reducible refine wo_ok ?_ | with_reducible refine ws_nx ?_ | with_reducible refine wo_get2 ?_ | ((with_reducible refine wo_eq (mul_ii ?_) ?_); next => (first | exact .inl (by decide) | exact .inr (by decide))) | ((with_reducible refine wo_eq (mod_ii ?_) ?_); next => decide) | ((with_reducible refine wo_eq (div_ii ?_) ?_); next => decide) | ((with_reducible refine wo_eq (pow_ii ?_) ?_); next => decide))
local macro_rules | `(tactic| walk_at "pu wp1") => `(tactic| first | walk_at "pu wq1" | with_reducible refine ws_if ?_)
local macro_rules | `(tactic| walk_at "pu wp") => `(tactic| repeat walk_at "pu wp1")
local macro_rules | `(tactic| walk_at "pu wq") => `(tactic| repeat walk_at "pu wq1")
local macro_rules | `(tactic| walk_at "pu wdef") => `(tactic| (apply wo_def rfl; next => ((try simp only [List.map_cons, List.map_nil, List.replicate_succ, List.replicate_zero, List.cons_append, List.nil_append, List.append_nil, List.length_cons, List.length_nil, Nat.reduceAdd, Nat.reduceSub]); first | done | rfl)))
local macro_rules | `(tactic| walk_at "pu wdone") => `(tactic| exact ⟨rfl, by first | rfl | exact List.take_length⟩)
section
variable {Pg : Program} {w : World} {K : PySem.W.Frag} {μ : Μ}
theorem e_check_shifts {t : Tb} (h : Ok t) : D_check_shifts Pg w K [.v (dctP t)] μ = .ok (.v .non) μ := eq_wo (by
  have le := h.le
  unfold D_check_shifts
  walk_at "pu wdef"
  repeat (first | walk_at "pu wp1" | with_reducible refine wo_eq (e_has_names h.ne h.nm (show t.length ≤ 64 by omega)) ?_ | with_reducible refine wo_eq (sort_t (show t.length < 64 by omega)) ?_ | with_reducible refine wo_eq (it_strs (show (srt (keys t)).length ≤ 100000 by rw [srt_len, len_keys]; omega)) ?_)
  refine wf_go (n := 0) (fun _ γ m => m = μ ∧ ∃ x, γ = [some (W.v (dctP t)), x]) ⟨rfl, none, rfl⟩ (fun j p γ m hp ⟨em, x, eg⟩ => ?_) fun γ m ⟨em, x, eg⟩ => ?_
  · subst em
    subst eg
    obtain ⟨z, mz, rfl⟩ := List.mem_map.mp (List.mem_of_getElem? hp)
    refine ⟨_, rfl, ?_⟩
    repeat (first | walk_at "pu wp1" | with_reducible refine wo_eq (dget_ok (val_of (srt_mem.mp mz))) ?_ | with_reducible refine wo_eq (e_is_integer _) ?_)
    exact ⟨rfl, _, rfl⟩
  · subst em
    subst eg
    repeat (first | walk_at "pu wp1" | with_reducible refine wo_eq (len_t) ?_)
    refine bi_dF (by omega) ?_
    walk_at "pu wp"
    walk_at "pu wdone")
theorem e_Earliest_init {t : Tb} (h : Ok t) : D_Earliest___init__ Pg w K [.loc μ.length, .v (dctP t)] (μ ++ [.ins (ga K "Earliest") []]) = .ok (.v .non) (μ ++ [.ins (ga K "Earliest") [("_shifts", dctP (ord t))]]) := eq_wo (by
  have le := h.le
  unfold D_Earliest___init__
  walk_at "pu wdef"
  repeat (first | walk_at "pu wp1" | with_reducible refine wo_eq (e_check_shifts h) ?_)
  apply ws_fld
  repeat (first | walk_at "pu wp1" | with_reducible refine wo_eq (e_in_order h.nd (show t.length < 64 by omega)) ?_)
  refine ⟨μ.length, [], wI_last, by decide, ?_⟩
  rw [last_set]
  exact ⟨rfl, List.take_of_length_le (by simp)⟩)
theorem e_Earliest {t : Tb} (h : Ok t) : (makeP (ga K "Earliest") (D_Earliest___init__ Pg w K) [.v (dctP t)] μ).bind (frzP μ.length) = .ok (.v (eaP K (ord t))) μ := make_eq (e_Earliest_init h)
theorem e_Earliest_shifts {t : Tb} : D_Earliest_shifts Pg w K [.v (eaP K t)] μ = .ok (.v (dctP t)) μ := eq_wo (by
  unfold D_Earliest_shifts
  walk_at "pu wdef"
  repeat (first | walk_at "pu wp1" | with_reducible refine wo_eq (dict_tv) ?_)
  walk_at "pu wdone")
theorem e_Earliest_moments {t : Tb} : D_Earliest_moments Pg w K [.v (eaP K t)] μ = .ok (.v (.tup ((keys t).map P.str))) μ := eq_wo (by
  unfold D_Earliest_moments
  walk_at "pu wdef"
  repeat (first | walk_at "pu wp1" | with_reducible refine wo_eq (tup_t) ?_)
  walk_at "pu wdone")
theorem e_is_moment_of {t : Tb} {z : Str} : D_is_moment_of Pg w K [.v (.str z), .v (dctP t)] μ = .ok (.v (.bl (decide (z ∈ keys t)))) μ := eq_wo (by
  unfold D_is_moment_of
  walk_at "pu wdef"
  repeat (first | walk_at "pu wp1" | with_reducible refine wo_eq (din_ok false) ?_)
  exact ⟨by simp, List.take_length⟩)
theorem e_check_moment {t : Tb} {z : Str} (h : z ∈ keys t) : D_check_moment Pg w K [.v (.str z), .v (dctP t)] μ = .ok (.v .non) μ := eq_wo (by
  unfold D_check_moment
  walk_at "pu wdef"
  repeat (first | walk_at "pu wp1" | with_reducible refine wo_eq (e_is_moment_of) ?_)
  walk_at "pu wdone")
theorem e_Earliest_getitem {t : Tb} {z : Str} (h : z ∈ keys t) : D_Earliest___getitem__ Pg w K [.v (eaP K t), .v (.str z)] μ = .ok (.v (.int (val t z))) μ := eq_wo (by
  unfold D_Earliest___getitem__
  walk_at "pu wdef"
  repeat (first | walk_at "pu wp1" | with_reducible refine wo_eq (e_check_moment h) ?_ | with_reducible refine wo_eq (dget_ok (val_of h)) ?_)
  walk_at "pu wdone")
end
end Pu
set_option Elab.async false
set_option linter.all false
set_option maxRecDepth 100000
set_option maxHeartbeats 4000000
namespace Pu
open L2 PySem PySem.Spec PyProof.Rows E10
open He (ga ma)
local macro_rules | `(tactic| walk_at "pu wq1") => `(tactic| first | ((with_reducible apply wo_var); next => rfl) | with_reducible refine wo_c ?_ | with_reducible refine wo_op ?_ | with_reducible refine wo_call ?_ | with_reducible refine wa_cons ?_ | with_reducible refine wa_nil ?_ | with_reducible refine wo_eq add_ii ?_ | with_reducible refine wo_eq sub_ii ?_ | with_reducible refine wo_eq le_ii ?_ | with_reducible refine wo_eq lt_ii ?_ | with_reducible refine wo_eq gt_ii ?_ | with_reducible refine wo_eq eq_ii ?_ | with_reducible refine ws_seq ?_ | with_reducible refine ws_set ?_ | ((with_reducible apply st1); next => ((try simp only [List.set_cons_zero, List.set_cons_succ]); first | done | rfl)) | with_reducible refine ws_ret ?_ | with_reducible refine ws_drop ?_ | with_reducible refine ws_next ?_ | with_reducible refine ws_for ?_ | with_reducible refine wt_test ?_ | with_reducible refine isB ?_ | with_reducible refine isV ?_ | with_reducible refine isI ?_ | with_reducible refine bi_tt ?_ | with_reducible refine bi_ff ?_ | with_reducible refine bi_not ?_ | with_reducible refine bi_bneF ?_ | with_reducible refine bi_bneT ?_ | ((with_reducible refine bi_T ?_ ?_); next => assumption) | ((with_reducible refine bi_F ?_ ?_); next => assumption) | ((with_reducible refine bi_dT ?_ ?_); next => assumption) | ((with_reducible refine bi_dF ?_ ?_); next => assumption) | with_reducible refine wt_not ?_ | with_reducible refine wt_and ?_ | with_reducible refine wt_or ?_ | with_reducible refine wt_yes ?_ | with_reducible refine wo_andV ?_ | with_reducible refine wo_orV ?_ | with_reducible refine wo_notV ?_ | with_reducible refine wo_if ?_ | with_reducible refine wo_chain ?_ | with_reducible refine wo_seq ?_ | with_reducible refine wo_lstC ?_ | with_reducible refine isVs1 ?_ | with_reducible refine isVs0 ?_ | with_reducible refine isVsA ?_ | with_reducible refine isVsM ?_ | ((with_reducible refine few1 ?_ ?_); next => (first | decide | (simp only [List.length_map, List.length_append, List.length_cons, List.length_nil]; omega))) | with_reducible refine wo_fld ?_ | with_reducible refine wo_meth ?_ | with_reducible refine wo_prop ?_ | with_reducible refine isO ?_ | with_reducible refine wo_callO ?_ | with_reducible refine wo_mk ?_ | with_reducible refine wo_frz ?_ | with_reducible refine wo_frzv ?_ | with_reducible refine wo_drop ?_ | ((with_reducible apply wo_fldv); next => rfl) | ((with_reducible apply noF); next => rfl) | with_reducible refine isC1 ?_ | ((with_reducible refine leM ?_ ?_); next => (first | exact Nat.le_refl _ | exact pot_le (by assumption) (by assumption))) | ((with_reducible apply wo_isi (c := true)); (next => rfl); (next => decide); (next => decide)) | ((with_reducible apply wo_isi (c := false)); (next => rfl); (next => decide); (next => decide)) | ((with_reducible refine wo_isiO1 ?_ ?_); next => simp) | ((with_reducible refine wo_isiOb ?_ ?_ ?_); (next => simp); (next => simp)) | ((with_reducible apply wo_isibO); (next => rfl); (next => simp)) | ((with_reducible refine wo_eqO ?_ ?_); next => simp) | ((with_reducible refine wo_neO ?_ ?_); next => simp) | with_reducible refine wo_own2 ?_ | with_reducible refine wo_ownI ?_ | with_reducible refine wo_iown ?_ | with_reducible refine wo_ixO ?_ | with_reducible refine wo_inO ?_ | with_reducible refine wi_any ?_ | with_reducible refine wi_vals ?_ | with_reducible refine wi_items ?_ | with_reducible refine wi_rg1 ?_ | with_reducible refine wo_lc ?_ | with_reducible refine wo_dc ?_ | ((with_reducible apply wo_lock); next => rfl) | ((with_reducible apply ws_lock); next => rfl) | with_reducible refine ws_par ?_ | with_reducible refine is2 ?_ | with_reducible refine ws_par3 ?_ | with_reducible refine is3 ?_ | with_reducible refine ws_asg ?_ | with_reducible refine wo_un ?_ | with_reducible refine wo_eq neg_i ?_ | with_reducible refine wo_eq eq_bb ?_ | with_reducible refine wo_eq eq_ss ?_ | with_reducible refine wo_eq max_ii ?_ | with_reducible refine wo_eq min_ii ?_ | with_reducible refine lew_v ?_ | with_reducible refine wo_bm ?_ | with_reducible refine wo_sl ?_ | with_reducible refine wq_none ?_ | with_reducible refine wq_some ?_ | with_reducible refine wo_ok ?_ | with_reducible refine ws_nx ?_ | with_reducible refine wo_get2 ?_ | ((with_reducible refine wo_eq (mul_ii ?_) ?_); next => (first | exact .inl (by decide) | exact .inr (by decide))) | ((with_reducible refine wo_eq (mod_ii ?_) ?_); next => decide) | ((with_reducible refine wo_eq (div_ii ?_) ?_); next => decide) | ((with_reducible refine wo_eq (pow_ii ?_) ?_); next => decide))
local macro_rules | `(tactic| walk_at "pu wp1") => `(tactic| first | walk_at "pu wq1" | with_reducible refine ws_if ?_)
local macro_rules | `(tactic| walk_at "pu wp") => `(tactic| repeat walk_at "pu wp1")
local macro_rules | `(tactic| walk_at "pu wq") => `(tactic| repeat walk_at "pu wq1")
local macro_rules | `(tactic| walk_at "pu wdef") => `(tactic| (apply wo_def rfl; next => ((try simp only [List.map_cons, List.map_nil, List.replicate_succ, List.replicate_zero, List.cons_append, List.nil_append, List.append_nil, List.length_cons, List.length_nil, Nat.reduceAdd, Nat.reduceSub]); first | done | rfl)))
local macro_rules | `(tactic| walk_at "pu wdone") => `(tactic| exact ⟨rfl, by first | rfl | exact List.take_length⟩)
section
variable {Pg : Program} {w : World} {K : PySem.W.Frag} {μ : Μ}
theorem e_Rule_init {z : Str} {t : Tb} (hz : Nm z) (h : So t) : D_Rule___init__ Pg w K [.loc μ.length, .v (.str z), .v (eaP K t)] (μ ++ [.ins (ga K "Rule") []]) = .ok (.v .non) (μ ++ [.ins (ga K "Rule") [("_moment", .str z), ("_earliest", eaP K t)]]) := eq_wo (by
  unfold D_Rule___init__
  walk_at "pu wdef"
  repeat (first | walk_at "pu wp1" | with_reducible refine wo_eq (e_is_name hz) ?_)
  apply ws_fld
  walk_at "pu wp"
  refine ⟨μ.length, [], wI_last, by decide, ?_⟩
  rw [last_set]
  walk_at "pu wp"
  apply ws_fld
  repeat (first | walk_at "pu wp1" | with_reducible refine wo_eq (e_Earliest_shifts) ?_ | with_reducible refine wo_eq (e_Earliest h.toOk) ?_)
  try (refine wo_alt ?_; repeat (first | walk_at "pu wp1" | with_reducible refine wo_eq (e_Earliest_shifts) ?_ | with_reducible refine wo_eq (e_Earliest h.toOk) ?_))
  refine ⟨μ.length, _, wI_last, (by show (1 : Nat) < 900; decide), ?_⟩
  rw [last_set, h.so]
  exact ⟨rfl, List.take_of_length_le (by simp)⟩)
theorem e_Rule {z : Str} {t : Tb} (hz : Nm z) (h : So t) : (makeP (ga K "Rule") (D_Rule___init__ Pg w K) [.v (.str z), .v (eaP K t)] μ).bind (frzP μ.length) = .ok (.v (ruP K (z, t))) μ := make_eq (e_Rule_init hz h)
theorem e_Rule_moment {r : Str × Tb} : D_Rule_moment Pg w K [.v (ruP K r)] μ = .ok (.v (.str r.1)) μ := eq_wo (by
  unfold D_Rule_moment
  walk_at "pu wdef"
  walk_at "pu wp"
  walk_at "pu wdone")
theorem e_Rule_earliest {r : Str × Tb} : D_Rule_earliest Pg w K [.v (ruP K r)] μ = .ok (.v (eaP K r.2)) μ := eq_wo (by
  unfold D_Rule_earliest
  walk_at "pu wdef"
  walk_at "pu wp"
  walk_at "pu wdone")
theorem ins_len8 {z : Str} {t : Tb} (h : t.length ≤ 8) : (insAll [] (z :: keys t)).length ≤ 9 := by
  have := ins_len (z :: keys t)
  rw [List.length_cons, len_keys] at this
  omega
theorem rmom_len {r : Str × Tb} (h : r.2.length ≤ 8) : (rmom r).length ≤ 9 := by
  unfold rmom
  rw [srt_len]
  exact ins_len8 h
theorem e_Rule_moments {r : Str × Tb} (h : r.2.length ≤ 8) : D_Rule_moments Pg w K [.v (ruP K r)] μ = .ok (.v (.tup ((rmom r).map P.str))) μ := eq_wo (by
  have l9 : (insAll [] (r.1 :: keys r.2)).length < 64 := by have := ins_len8 (z := r.1) h; omega
  have l32 : (r.1 :: keys r.2).length < 32 := by rw [List.length_cons, len_keys]; omega
  unfold D_Rule_moments
  walk_at "pu wdef"
  repeat (first | walk_at "pu wp1" | with_reducible refine wo_eq (e_Earliest_moments) ?_)
  apply wa_star
  walk_at "pu wp"
  refine ⟨_, rfl, ?_⟩
  walk_at "pu wp"
  rw [List.append_nil]
  refine few1 (by rw [List.length_cons, List.length_map, len_keys]; omega) ?_
  have e : P.str r.1 :: (keys r.2).map P.str = (r.1 :: keys r.2).map P.str := rfl
  rw [e]
  repeat (first | walk_at "pu wp1" | with_reducible refine wo_eq (set_l l32) ?_ | with_reducible refine wo_eq (sort_s l9) ?_ | with_reducible refine wo_eq (tup_l) ?_)
  walk_at "pu wdone")
theorem e_are_among {ps ms : List Str} (l : ps.length ≤ 64) {p : P} (hp : ∀ m, iAnyW (.v p) m = .ok (ps.map P.str) m) {q : P} (hq : ∀ z m, gIn false (.v (.str z)) (.v q) m = .ok (.v (.bl (decide (z ∈ ms)))) m) (sub : ∀ z ∈ ps, z ∈ ms) : D_are_among Pg w K [.v p, .v q] μ = .ok (.v (.bl true)) μ := eq_wo (by
  unfold D_are_among
  walk_at "pu wdef"
  repeat (first | walk_at "pu wp1" | with_reducible refine wo_eq (hp _) ?_)
  refine wl_all P.str (fun _ => P.bl true) (l := ps) (fun z m => ?_) ?_
  · refine ⟨_, rfl, ?_⟩
    repeat (first | walk_at "pu wp1" | with_reducible refine wo_eq (hq z _) ?_)
    exact ⟨by rw [decide_eq_true (sub z m)], rfl⟩
  · repeat (first | walk_at "pu wp1" | with_reducible refine wo_eq (bls_all (bls_map (fun _ => true) ps)) ?_)
    rw [show (ps.map fun _ => true).all id = true by simp]
    walk_at "pu wdone")
theorem e_check_names {ns : List Str} (h : Ns ns) {p : P} (hp : p = .lst (ns.map P.str)) : D_check_names Pg w K [.v p] μ = .ok (.v .non) μ := eq_wo (by
  subst hp
  have l := h.le
  have ne := List.length_pos_iff.mpr h.ne
  unfold D_check_names
  walk_at "pu wdef"
  repeat (first | walk_at "pu wp1" | with_reducible refine wo_eq (e_is_list (.inl ⟨_, rfl⟩)) ?_ | with_reducible refine wo_eq (len_l) ?_)
  rw [List.length_map]
  refine bi_dF (by omega) ?_
  walk_at "pu wp"
  apply wi_enum
  walk_at "pu wp"
  refine ⟨_, _, rfl, .inl rfl, by rw [List.length_map]; omega, ?_⟩
  refine wf_go (n := 0) (fun _ γ m => m = μ ∧ ∃ x y, γ = [some (W.v (.lst (ns.map P.str))), x, y]) ⟨rfl, _, _, rfl⟩ (fun j p γ m hp ⟨em, x, y, eg⟩ => ?_) fun γ m ⟨em, x, y, eg⟩ => ?_
  · subst em
    subst eg
    have lt : j < ns.length := by
      have := (List.getElem?_eq_some_iff.mp hp).1
      unfold numP at this
      simpa using this
    have e := (num_at (ps := ns.map P.str) (i := j) (q := .str ns[j]) (by simp [lt])).symm.trans hp
    obtain rfl := (Option.some.inj e).symm
    refine ⟨_, rfl, ?_⟩
    repeat (first | walk_at "pu wp1" | with_reducible refine wo_eq (e_is_name (h.nm _ (List.getElem_mem lt))) ?_ | with_reducible refine wo_eq (sl_l) ?_)
    rw [drop_rep, cut_to]
    repeat (first | walk_at "pu wp1" | with_reducible refine wo_eq (in_l) ?_)
    refine bi_dF (fun hm => ?_) ?_
    · obtain ⟨i, hi, e⟩ := List.getElem_of_mem hm
      rw [List.length_take] at hi
      rw [List.getElem_take] at e
      have := (List.getElem_inj h.nd).mp e
      omega
    walk_at "pu wp"
    exact ⟨rfl, _, _, rfl⟩
  · subst em
    subst eg
    repeat (first | walk_at "pu wp1" | with_reducible refine wo_eq (len_l) ?_)
    rw [List.length_map]
    refine bi_dF (by omega) ?_
    walk_at "pu wp"
    walk_at "pu wdone")
theorem e_check_each {n : Nat} : D_check_each Pg w K [.v (.lst ((List.replicate n true).map P.bl))] μ = .ok (.v .non) μ := eq_wo (by
  unfold D_check_each
  walk_at "pu wdef"
  repeat (first | walk_at "pu wp1" | with_reducible refine wo_eq (bls_all (bls_bls (List.replicate n true))) ?_)
  refine bi_T (by simp) ?_
  walk_at "pu wp"
  walk_at "pu wdone")
theorem e_check_rules {ns : List Str} {rs : List (Str × Tb)} (h : ∀ r ∈ rs, r.2.length ≤ 8 ∧ r.1 ∈ ns ∧ ∀ z ∈ keys r.2, z ∈ ns) (l : rs.length ≤ 100) {q : P} (hq : ∀ z m, gIn false (.v (.str z)) (.v q) m = .ok (.v (.bl (decide (z ∈ ns)))) m) : D_check_rules Pg w K [.v (.lst (rs.map (ruP K))), .v q] μ = .ok (.v .non) μ := eq_wo (by
  unfold D_check_rules
  walk_at "pu wdef"
  repeat (first | walk_at "pu wp1" | with_reducible refine wo_eq (e_is_list (.inl ⟨_, rfl⟩)) ?_ | with_reducible refine wo_eq (it_l (show (rs.map (ruP K)).length ≤ 100000 by rw [List.length_map]; omega)) ?_)
  refine wl_all (ruP K) (fun _ => P.bl true) (l := rs) (fun r m => ?_) ?_
  · refine ⟨_, rfl, ?_⟩
    obtain ⟨h8, h1, h2⟩ := h r m
    repeat (first | walk_at "pu wp1" | with_reducible refine wo_eq (e_Rule_moments h8) ?_ | with_reducible refine wo_eq (e_are_among (ps := rmom r) (ms := ns) (by have := rmom_len h8; omega) (fun m => it_tups (by have := rmom_len h8; omega)) hq (fun z hz => (rmom_mem.mp hz).elim (fun e => e ▸ h1) (h2 z))) ?_)
    exact ⟨rfl, rfl⟩
  · rw [show (rs.map fun _ => P.bl true) = (List.replicate rs.length true).map P.bl by simp [List.map_const']]
    repeat (first | walk_at "pu wp1" | with_reducible refine wo_eq (e_check_each) ?_ | with_reducible refine wo_eq (len_l) ?_)
    rw [List.length_map]
    refine bi_dF (by omega) ?_
    walk_at "pu wp"
    walk_at "pu wdone")
end
end Pu
set_option Elab.async false
set_option linter.all false
set_option maxRecDepth 100000
set_option maxHeartbeats 4000000
namespace Pu
open L2 PySem PySem.Spec PyProof.Rows E10
open He (ga ma)
local macro_rules | `(tactic| walk_at "pu wq1") => `(tactic| first | ((with_reducible apply wo_var); next => rfl) | with_reducible refine wo_c ?_ | with_reducible refine wo_op ?_ | with_reducible refine wo_call ?_ | with_reducible refine wa_cons ?_ | with_reducible refine wa_nil ?_ | with_reducible refine wo_eq add_ii ?_ | with_reducible refine wo_eq sub_ii ?_ | with_reducible refine wo_eq le_ii ?_ | with_reducible refine wo_eq lt_ii ?_ | with_reducible refine wo_eq gt_ii ?_ | with_reducible refine wo_eq eq_ii ?_ | with_reducible refine ws_seq ?_ | with_reducible refine ws_set ?_ | ((with_reducible apply st1); next => ((try simp only [List.set_cons_zero, List.set_cons_succ]); first | done | rfl)) | with_reducible refine ws_ret ?_ | with_reducible refine ws_drop ?_ | with_reducible refine ws_next ?_ | with_reducible refine ws_for ?_ | with_reducible refine wt_test ?_ | with_reducible refine isB ?_ | with_reducible refine isV ?_ | with_reducible refine isI ?_ | with_reducible refine bi_tt ?_ | with_reducible refine bi_ff ?_ | with_reducible refine bi_not ?_ | with_reducible refine bi_bneF ?_ | with_reducible refine bi_bneT ?_ | ((with_reducible refine bi_T ?_ ?_); next => assumption) | ((with_reducible refine bi_F ?_ ?_); next => assumption) | ((with_reducible refine bi_dT ?_ ?_); next => assumption) | ((with_reducible refine bi_dF ?_ ?_); next => assumption) | with_reducible refine wt_not ?_ | with_reducible refine wt_and ?_ | with_reducible refine wt_or ?_ | with_reducible refine wt_yes ?_ | with_reducible refine wo_andV ?_ | with_reducible refine wo_orV ?_ | with_reducible refine wo_notV ?_ | with_reducible refine wo_if ?_ | with_reducible refine wo_chain ?_ | with_reducible refine wo_seq ?_ | with_reducible refine wo_lstC ?_ | with_reducible refine isVs1 ?_ | with_reducible refine isVs0 ?_ | with_reducible refine isVsA ?_ | with_reducible refine isVsM ?_ | ((with_reducible refine few1 ?_ ?_); next => (first | decide | (simp only [List.length_map, List.length_append, List.length_cons, List.length_nil]; omega))) | with_reducible refine wo_fld ?_ | with_reducible refine wo_meth ?_ | with_reducible refine wo_prop ?_ | with_reducible refine isO ?_ | with_reducible refine wo_callO ?_ | with_reducible refine wo_mk ?_ | with_reducible refine wo_frz ?_ | with_reducible refine wo_frzv ?_ | with_reducible refine wo_drop ?_ | ((with_reducible apply wo_fldv); next => rfl) | ((with_reducible apply noF); next => rfl) | with_reducible refine isC1 ?_ | ((with_reducible refine leM ?_ ?_); next => (first | exact Nat.le_refl _ | exact pot_le (by assumption) (by assumption))) | ((with_reducible apply wo_isi (c := true)); (next => rfl); (next => decide); (next => decide)) | ((with_reducible apply wo_isi (c := false)); (next => rfl); (next => decide); (next => decide)) | ((with_reducible refine wo_isiO1 ?_ ?_); next => simp) | ((with_reducible refine wo_isiOb ?_ ?_ ?_); (next => simp); (next => simp)) | ((with_reducible apply wo_isibO); (next => rfl); (next => simp)) | ((with_reducible refine wo_eqO ?_ ?_); next => simp) | ((with_reducible refine wo_neO ?_ ?_); next => simp) | with_reducible refine wo_own2 ?_ | with_reducible refine wo_ownI ?_ | with_reducible refine wo_iown ?_ | with_reducible refine wo_ixO ?_ | with_reducible refine wo_inO ?_ | with_reducible refine wi_any ?_ | with_reducible refine wi_vals ?_ | with_reducible refine wi_items ?_ | with_reducible refine wi_rg1 ?_ | with_reducible refine wo_lc ?_ | with_reducible refine wo_dc ?_ | ((with_reducible apply wo_lock); next => rfl) | ((with_reducible apply ws_lock); next => rfl) | with_reducible refine ws_par ?_ | with_reducible refine is2 ?_ | with_reducible refine ws_par3 ?_ | with_reducible refine is3 ?_ | with_reducible refine ws_asg ?_ | with_reducible refine wo_un ?_ | with_reducible refine wo_eq neg_i ?_ | with_reducible refine wo_eq eq_bb ?_ | with_reducible refine wo_eq eq_ss ?_ | with_reducible refine wo_eq max_ii ?_ | with_reducible refine wo_eq min_ii ?_ | with_reducible refine lew_v ?_ | with_reducible refine wo_bm ?_ | with_reducible refine wo_sl ?_ | with_reducible refine wq_none ?_ | with_reducible refine wq_some ?_ | with_reducible refine wo_ok ?_ | with_reducible refine ws_nx ?_ | with_reducible refine wo_get2 ?_ | ((with_reducible refine wo_eq (mul_ii ?_) ?_); next => (first | exact .inl (by decide) | exact .inr (by decide))) | ((with_reducible refine wo_eq (mod_ii ?_) ?_); next => decide) | ((with_reducible refine wo_eq (div_ii ?_) ?_); next => decide) | ((with_reducible refine wo_eq (pow_ii ?_) ?_); next => decide))
local macro_rules | `(tactic| walk_at "pu wp1") => `(tactic| first | walk_at "pu wq1" | with_reducible refine ws_if ?_)
local macro_rules | `(tactic| walk_at "pu wp") => `(tactic| repeat walk_at "pu wp1")
local macro_rules | `(tactic| walk_at "pu wq") => `(tactic| repeat walk_at "pu wq1")
local macro_rules | `(tactic| walk_at "pu wdef") => `(tactic| (apply wo_def rfl; next => ((try simp only [List.map_cons, List.map_nil, List.replicate_succ, List.replicate_zero, List.cons_append, List.nil_append, List.append_nil, List.length_cons, List.length_nil, Nat.reduceAdd, Nat.reduceSub]); first | done | rfl)))
local macro_rules | `(tactic| walk_at "pu wdone") => `(tactic| exact ⟨rfl, by first | rfl | exact List.take_length⟩)
section
variable {Pg : Program} {w : World} {K : PySem.W.Frag} {μ : Μ} {ns : List Str} {rs : List (Str × Tb)}
theorem e_Book_init (h : Ns ns) (hr : ∀ r ∈ rs, r.2.length ≤ 8 ∧ r.1 ∈ ns ∧ ∀ z ∈ keys r.2, z ∈ ns) (l : rs.length ≤ 100) : D_Book___init__ Pg w K [.loc μ.length, .v (.lst (ns.map P.str)), .v (.lst (rs.map (ruP K)))] (μ ++ [.ins (ga K "Book") []]) = .ok (.v .non) (μ ++ [.ins (ga K "Book") [("_moments", .tup ((srt ns).map .str)), ("_rules", .lst (rs.map (ruP K)))]]) := eq_wo (by
  have l8 := h.le
  unfold D_Book___init__
  walk_at "pu wdef"
  repeat (first | walk_at "pu wp1" | with_reducible refine wo_eq (e_check_names h rfl) ?_ | with_reducible refine wo_eq (e_check_rules hr l (fun z m => by rw [in_l]; simp)) ?_)
  apply ws_fld
  repeat (first | walk_at "pu wp1" | with_reducible refine wo_eq (sort_l (show ns.length < 64 by omega)) ?_ | with_reducible refine wo_eq (tup_l) ?_)
  refine ⟨μ.length, [], wI_last, by decide, ?_⟩
  rw [last_set]
  walk_at "pu wp"
  apply ws_fld
  repeat (first | walk_at "pu wp1" | with_reducible refine wo_eq (list_l) ?_)
  refine ⟨μ.length, _, wI_last, (by show (1 : Nat) < 900; decide), ?_⟩
  rw [last_set]
  exact ⟨rfl, List.take_of_length_le (by simp)⟩)
theorem e_Book (h : Ns ns) (hr : ∀ r ∈ rs, r.2.length ≤ 8 ∧ r.1 ∈ ns ∧ ∀ z ∈ keys r.2, z ∈ ns) (l : rs.length ≤ 100) : (makeP (ga K "Book") (D_Book___init__ Pg w K) [.v (.lst (ns.map P.str)), .v (.lst (rs.map (ruP K)))] μ).bind (frzP μ.length) = .ok (.v (boP K (srt ns) rs)) μ := make_eq (e_Book_init h hr l)
theorem e_Book_moments : D_Book_moments Pg w K [.v (boP K ns rs)] μ = .ok (.v (.tup (ns.map P.str))) μ := eq_wo (by
  unfold D_Book_moments
  walk_at "pu wdef"
  walk_at "pu wp"
  walk_at "pu wdone")
theorem e_Book_rules : D_Book_rules Pg w K [.v (boP K ns rs)] μ = .ok (.v (.lst (rs.map (ruP K)))) μ := eq_wo (by
  unfold D_Book_rules
  walk_at "pu wdef"
  repeat (first | walk_at "pu wp1" | with_reducible refine wo_eq (list_l) ?_)
  walk_at "pu wdone")
end
end Pu
set_option Elab.async false
set_option linter.all false
set_option maxRecDepth 100000
set_option maxHeartbeats 4000000
set_option Elab.async false
set_option linter.all false
set_option maxRecDepth 100000
set_option maxHeartbeats 4000000
namespace Pu
open L2 PySem PySem.Spec PyProof.Rows E10
open He (ga ma)
local macro_rules | `(tactic| walk_at "pu wq1") => `(tactic| first | ((with_reducible apply wo_var); next => rfl) | with_reducible refine wo_c ?_ | with_reducible refine wo_op ?_ | with_reducible refine wo_call ?_ | with_reducible refine wa_cons ?_ | with_reducible refine wa_nil ?_ | with_reducible refine wo_eq add_ii ?_ | with_reducible refine wo_eq sub_ii ?_ | with_reducible refine wo_eq le_ii ?_ | with_reducible refine wo_eq lt_ii ?_ | with_reducible refine wo_eq gt_ii ?_ | with_reducible refine wo_eq eq_ii ?_ | with_reducible refine ws_seq ?_ | with_reducible refine ws_set ?_ | ((with_reducible apply st1); next => ((try simp only [List.set_cons_zero, List.set_cons_succ]); first | done | rfl)) | with_reducible refine ws_ret ?_ | with_reducible refine ws_drop ?_ | with_reducible refine ws_next ?_ | with_reducible refine ws_for ?_ | with_reducible refine wt_test ?_ | with_reducible refine isB ?_ | with_reducible refine isV ?_ | with_reducible refine isI ?_ | with_reducible refine bi_tt ?_ | with_reducible refine bi_ff ?_ | with_reducible refine bi_not ?_ | with_reducible refine bi_bneF ?_ | with_reducible refine bi_bneT ?_ | ((with_reducible refine bi_T ?_ ?_); next => assumption) | ((with_reducible refine bi_F ?_ ?_); next => assumption) | ((with_reducible refine bi_dT ?_ ?_); next => assumption) | ((with_reducible refine bi_dF ?_ ?_); next => assumption) | with_reducible refine wt_not ?_ | with_reducible refine wt_and ?_ | with_reducible refine wt_or ?_ | with_reducible refine wt_yes ?_ | with_reducible refine wo_andV ?_ | with_reducible refine wo_orV ?_ | with_reducible refine wo_notV ?_ | with_reducible refine wo_if ?_ | with_reducible refine wo_chain ?_ | with_reducible refine wo_seq ?_ | with_reducible refine wo_lstC ?_ | with_reducible refine isVs1 ?_ | with_reducible refine isVs0 ?_ | with_reducible refine isVsA ?_ | with_reducible refine isVsM ?_ | ((with_reducible refine few1 ?_ ?_); next => (first | decide | (simp only [List.length_map, List.length_append, List.length_cons, List.length_nil]; omega))) | with_reducible refine wo_fld ?_ | with_reducible refine wo_meth ?_ | with_reducible refine wo_prop ?_ | with_reducible refine isO ?_ | with_reducible refine wo_callO ?_ | with_reducible refine wo_mk ?_ | with_reducible refine wo_frz ?_ | with_reducible refine wo_frzv ?_ | with_reducible refine wo_drop ?_ | ((with_reducible apply wo_fldv); next => rfl) | ((with_reducible apply noF); next => rfl) | with_reducible refine isC1 ?_ | ((with_reducible refine leM ?_ ?_); next => (first | exact Nat.le_refl _ | exact pot_le (by assumption) (by assumption))) | ((with_reducible apply wo_isi (c := true)); (next => rfl); (next => decide); (next => decide)) | ((with_reducible apply wo_isi (c := false)); (next => rfl); (next => decide); (next => decide)) | ((with_reducible refine wo_isiO1 ?_ ?_); next => simp) | ((with_reducible refine wo_isiOb ?_ ?_ ?_); (next => simp); (next => simp)) | ((with_reducible apply wo_isibO); (next => rfl); (next => simp)) | ((with_reducible refine wo_eqO ?_ ?_); next => simp) | ((with_reducible refine wo_neO ?_ ?_); next => simp) | with_reducible refine wo_own2 ?_ | with_reducible refine wo_ownI ?_ | with_reducible refine wo_iown ?_ | with_reducible refine wo_ixO ?_ | with_reducible refine wo_inO ?_ | with_reducible refine wi_any ?_ | with_reducible refine wi_vals ?_ | with_reducible refine wi_items ?_ | with_reducible refine wi_rg1 ?_ | with_reducible refine wo_lc ?_ | with_reducible refine wo_dc ?_ | ((with_reducible apply wo_lock); next => rfl) | ((with_reducible apply ws_lock); next => rfl) | with_reducible refine ws_par ?_ | with_reducible refine is2 ?_ | with_reducible refine ws_par3 ?_ | with_reducible refine is3 ?_ | with_reducible refine ws_asg ?_ | with_reducible refine wo_un ?_ | with_reducible refine wo_eq neg_i ?_ | with_reducible refine wo_eq eq_bb ?_ | with_reducible refine wo_eq eq_ss ?_ | with_reducible refine wo_eq max_ii ?_ | with_reducible refine wo_eq min_ii ?_ | with_reducible refine lew_v ?_ | with_reducible refine wo_bm ?_ | with_reducible refine wo_sl ?_ | with_reducible refine wq_none ?_ | with_reducible refine wq_some ?_ | with_reducible refine wo_ok ?_ | with_reducible refine ws_nx ?_ | with_reducible refine wo_get2 ?_ | ((with_reducible refine wo_eq (mul_ii ?_) ?_); next => (first | exact .inl (by decide) | exact .inr (by decide))) | ((with_reducible refine wo_eq (mod_ii ?_) ?_); next => decide) | ((with_reducible refine wo_eq (div_ii ?_) ?_); next => decide) | ((with_reducible refine wo_eq (pow_ii ?_) ?_); next => decide))
local macro_rules | `(tactic| walk_at "pu wp1") => `(tactic| first | walk_at "pu wq1" | with_reducible refine ws_if ?_)
local macro_rules | `(tactic| walk_at "pu wp") => `(tactic| repeat walk_at "pu wp1")
local macro_rules | `(tactic| walk_at "pu wq") => `(tactic| repeat walk_at "pu wq1")
local macro_rules | `(tactic| walk_at "pu wdef") => `(tactic| (apply wo_def rfl; next => ((try simp only [List.map_cons, List.map_nil, List.replicate_succ, List.replicate_zero, List.cons_append, List.nil_append, List.append_nil, List.length_cons, List.length_nil, Nat.reduceAdd, Nat.reduceSub]); first | done | rfl)))
local macro_rules | `(tactic| walk_at "pu wdone") => `(tactic| exact ⟨rfl, by first | rfl | exact List.take_length⟩)
def one (x : (Str × Tb) × Str) : Str × Tb := (x.1.1, [(x.2, val x.1.2 x.2)])
/-- a choice of an alternative for each rule -/
structure Ch (rs : List (Str × Tb)) (c : List Str) : Prop where
  len : c.length = rs.length
  mem : ∀ x ∈ rs.zip c, x.2 ∈ keys x.1.2
def plainR (rs : List (Str × Tb)) (c : List Str) : List (Str × Tb) := (rs.zip c).map one
theorem zip_mem {α β : Type} {as : List α} {bs : List β} {x : α × β} (h : x ∈ as.zip bs) : x.1 ∈ as ∧ x.2 ∈ bs := List.of_mem_zip (a := x.1) (b := x.2) h
theorem one_so {z : Str} {v : Int} (h : Nm z) : So [(z, v)] := by
  have o : Ok [(z, v)] := ⟨by simp, fun y m => by simp [keys] at m; rw [m]; exact h, by simp [keys], by simp⟩
  refine ⟨o, ord_srt o.nd ?_⟩
  show srt [z] = [z]
  have := srt_perm [z]
  exact List.perm_singleton.mp this
theorem Bo.plain {ns : List Str} {rs : List (Str × Tb)} {c : List Str} (h : Bo ns rs) (hc : Ch rs c) : Bo ns (plainR rs c) := by
  refine ⟨h.n8, h.so, fun r m => ?_, fun r m => ?_, by unfold plainR; rw [List.length_map, List.length_zip, hc.len, Nat.min_self]; exact h.le⟩
  · obtain ⟨x, mx, rfl⟩ := List.mem_map.mp m
    have m1 := (zip_mem mx).1
    exact ⟨(h.ru _ m1).nm, one_so ((h.ru _ m1).so.nm _ (hc.mem x mx))⟩
  · obtain ⟨x, mx, rfl⟩ := List.mem_map.mp m
    have m1 := (zip_mem mx).1
    refine ⟨(h.sub _ m1).1, fun z mz => ?_⟩
    have : z = x.2 := by simpa [one, keys] using mz
    rw [this]
    exact (h.sub _ m1).2 _ (hc.mem x mx)
section
variable {Pg : Program} {w : World} {K : PySem.W.Frag} {μ : Μ} {ns : List Str} {rs qs : List (Str × Tb)} {t s : Tb}
theorem e_Earliest_contains {z : Str} : D_Earliest___contains__ Pg w K [.v (eaP K t), .v (.str z)] μ = .ok (.v (.bl (decide (z ∈ keys t)))) μ := eq_wo (by
  unfold D_Earliest___contains__
  walk_at "pu wdef"
  repeat (first | walk_at "pu wp1" | with_reducible refine wo_eq (e_is_moment_of) ?_)
  walk_at "pu wdone")
theorem e_is_position {i n : Nat} (h : i < n) : D_is_position Pg w K [.v (.int i), .v (.int n)] μ = .ok (.v (.bl true)) μ := eq_wo (by
  unfold D_is_position
  walk_at "pu wdef"
  repeat (first | walk_at "pu wp1" | with_reducible refine wo_eq (e_is_integer _) ?_)
  refine bi_dT (by omega) ?_
  walk_at "pu wp"
  exact ⟨by rw [decide_eq_true (by omega)], List.take_length⟩)
theorem e_check_position {i n : Nat} (h : i < n) : D_check_position Pg w K [.v (.int i), .v (.int n)] μ = .ok (.v .non) μ := eq_wo (by
  unfold D_check_position
  walk_at "pu wdef"
  repeat (first | walk_at "pu wp1" | with_reducible refine wo_eq (e_is_position h) ?_)
  walk_at "pu wdone")
theorem e_Book_getitem {i : Nat} (h : i < rs.length) : D_Book___getitem__ Pg w K [.v (boP K ns rs), .v (.int i)] μ = .ok (.v (ruP K rs[i])) μ := eq_wo (by
  unfold D_Book___getitem__
  walk_at "pu wdef"
  repeat (first | walk_at "pu wp1" | with_reducible refine wo_eq (len_l) ?_)
  rw [List.length_map]
  repeat (first | walk_at "pu wp1" | with_reducible refine wo_eq (e_check_position h) ?_ | with_reducible refine wo_eq (ix_l (ps := rs.map (ruP K)) (k := i) (v := ruP K rs[i]) (by simp [h])) ?_)
  walk_at "pu wdone")
end
end Pu
set_option Elab.async false
set_option linter.all false
set_option maxRecDepth 100000
set_option maxHeartbeats 4000000
set_option Elab.async false
set_option linter.all false
set_option maxRecDepth 100000
set_option maxHeartbeats 8000000
namespace Pu
open L2 PySem PySem.Spec PyProof.Rows E10
open He (ga ma)
/-! ### a moment left out, an Earliest put in, holds, forgetting -/
theorem srt_filter {l : List Str} (h : Srt l) (p : Str → Bool) : Srt (l.filter p) := by
  have h1 : l.Pairwise fun a b => leS a b = true := by
    have := srt_pw l
    rwa [show srt l = l from h] at this
  exact srt_id (h1.filter p)
def lout (t : Tb) (y : Str) : Tb := ((keys t).filter fun z => ((z == y) != true)).map fun z => (z, val t z)
theorem keys_lout (t : Tb) (y : Str) : keys (lout t y) = (keys t).filter fun z => ((z == y) != true) := by
  unfold lout
  conv => lhs; unfold keys
  rw [List.map_map]
  exact List.map_id _
theorem mem_lout {t : Tb} {y z : Str} : z ∈ keys (lout t y) ↔ z ∈ keys t ∧ z ≠ y := by
  rw [keys_lout, List.mem_filter]
  refine and_congr_right fun _ => ?_
  by_cases c : z = y <;> simp [c]
theorem nd_lout {t : Tb} (nd : (keys t).Nodup) (y : Str) : (keys (lout t y)).Nodup := by
  rw [keys_lout]
  exact nd.filter _
theorem val_lout {t : Tb} (nd : (keys t).Nodup) {y z : Str} (m : z ∈ keys (lout t y)) : val (lout t y) z = val t z := by
  refine val_at (nd_lout nd y) (List.mem_map.mpr ⟨z, ?_, rfl⟩)
  rw [keys_lout] at m
  exact m
theorem So.lout {t : Tb} (h : So t) {y : Str} (ne : ∃ z ∈ keys t, z ≠ y) : So (Pu.lout t y) := by
  refine So.of (ns := keys (Pu.lout t y)) ⟨nd_lout h.nd y, fun z m => h.nm z (mem_lout.mp m).1, ?_, fun e => ?_⟩ ?_ rfl
  · rw [keys_lout]
    refine Nat.le_trans (List.length_filter_le ..) ?_
    rw [len_keys]
    exact h.le
  · obtain ⟨z, m, ne⟩ := ne
    have : z ∈ keys (Pu.lout t y) := mem_lout.mpr ⟨m, ne⟩
    rw [e] at this
    cases this
  · rw [keys_lout]
    exact srt_filter h.srt _
def putin (t : Tb) (y : Str) (h : Tb) : Tb := least (lout t y) (shf h (val t y))
theorem mem_putin {t h : Tb} {y z : Str} : z ∈ keys (putin t y h) ↔ (z ∈ keys t ∧ z ≠ y) ∨ z ∈ keys h := by
  unfold putin
  rw [mem_least, mem_lout, keys_shf]
theorem So.putin {ns : List Str} {t h : Tb} (n : Ns ns) (ht : So t) (hh : So h) (y : Str) (s1 : ∀ z ∈ keys t, z ∈ ns) (s2 : ∀ z ∈ keys h, z ∈ ns) : So (Pu.putin t y h) := by
  have sub : ∀ z ∈ keys (Pu.putin t y h), z ∈ ns := fun z m => (mem_putin.mp m).elim (fun m => s1 z m.1) (s2 z)
  have nd : (keys (Pu.putin t y h)).Nodup := nd_least _ _
  refine So.of (ns := keys (Pu.putin t y h)) ⟨nd, fun z m => n.nm z (sub z m), Nat.le_trans (nodup_le nd sub) n.le, fun e => ?_⟩ ?_ rfl
  · obtain ⟨z, r, e3⟩ := List.exists_cons_of_ne_nil (keys_ne hh.ne)
    have : z ∈ keys (Pu.putin t y h) := mem_putin.mpr (.inr (by rw [e3]; exact List.mem_cons_self))
    rw [e] at this
    cases this
  · unfold Pu.putin
    rw [keys_least]
    exact srt_srt _
/-- the value of some term is at most this -/
def Kb (t x : Tb) (c : Int) : Prop := ∃ z ∈ keys t, val x z + val t z ≤ c
theorem low_kb {t x : Tb} (ne : t ≠ []) {c : Int} : low t x ≤ c ↔ Kb t x c := by
  constructor
  · intro h
    obtain ⟨z, m, e⟩ := low_at (t := t) (x := x) ne
    exact ⟨z, m, by omega⟩
  · rintro ⟨z, m, l⟩
    exact Int.le_trans (low_le m) l
theorem lst_le {a b : Tb} {z : Str} {c : Int} (m : z ∈ keys a ∨ z ∈ keys b) : lst a b z ≤ c ↔ (z ∈ keys a ∧ val a z ≤ c) ∨ (z ∈ keys b ∧ val b z ≤ c) := by
  unfold lst
  constructor
  · intro h
    have ne : ([a, b].filter fun t => decide (z ∈ keys t)).map (fun t => val t z) ≠ [] := by
      intro e
      have e := List.map_eq_nil_iff.mp e
      rcases m with m | m
      · have : a ∈ [a, b].filter fun t => decide (z ∈ keys t) := List.mem_filter.mpr ⟨by simp, decide_eq_true m⟩
        rw [e] at this
        cases this
      · have : b ∈ [a, b].filter fun t => decide (z ∈ keys t) := List.mem_filter.mpr ⟨by simp, decide_eq_true m⟩
        rw [e] at this
        cases this
    obtain ⟨t, mt, e⟩ := List.mem_map.mp (minL_mem ne)
    obtain ⟨m1, m2⟩ := List.mem_filter.mp mt
    have m2 := of_decide_eq_true m2
    rw [← e] at h
    simp only [List.mem_cons, List.not_mem_nil, or_false] at m1
    rcases m1 with rfl | rfl
    · exact .inl ⟨m2, h⟩
    · exact .inr ⟨m2, h⟩
  · rintro (⟨m, l⟩ | ⟨m, l⟩)
    · exact Int.le_trans (minL_le (List.mem_map.mpr ⟨a, List.mem_filter.mpr ⟨by simp, decide_eq_true m⟩, rfl⟩)) l
    · exact Int.le_trans (minL_le (List.mem_map.mpr ⟨b, List.mem_filter.mpr ⟨by simp, decide_eq_true m⟩, rfl⟩)) l
theorem kb_least {a b x : Tb} {c : Int} : Kb (least a b) x c ↔ Kb a x c ∨ Kb b x c := by
  constructor
  · rintro ⟨z, m, l⟩
    rw [val_least m] at l
    rcases (lst_le (mem_least.mp m) (c := c - val x z)).mp (by omega) with ⟨m, l⟩ | ⟨m, l⟩
    · exact .inl ⟨z, m, by omega⟩
    · exact .inr ⟨z, m, by omega⟩
  · rintro (⟨z, m, l⟩ | ⟨z, m, l⟩)
    · have m2 : z ∈ keys (least a b) := mem_least.mpr (.inl m)
      refine ⟨z, m2, ?_⟩
      rw [val_least m2]
      have := (lst_le (a := a) (b := b) (.inl m) (c := c - val x z)).mpr (.inl ⟨m, by omega⟩)
      omega
    · have m2 : z ∈ keys (least a b) := mem_least.mpr (.inr m)
      refine ⟨z, m2, ?_⟩
      rw [val_least m2]
      have := (lst_le (a := a) (b := b) (.inr m) (c := c - val x z)).mpr (.inr ⟨m, by omega⟩)
      omega
theorem kb_shf {t x : Tb} (nd : (keys t).Nodup) {n c : Int} : Kb (shf t n) x c ↔ Kb t x (c - n) := by
  constructor
  · rintro ⟨z, m, l⟩
    rw [keys_shf] at m
    rw [val_shf nd n m] at l
    exact ⟨z, m, by omega⟩
  · rintro ⟨z, m, l⟩
    refine ⟨z, by rw [keys_shf]; exact m, ?_⟩
    rw [val_shf nd n m]
    omega
/-- without the term of y -/
theorem kb_split {t x : Tb} (nd : (keys t).Nodup) {y : Str} {c : Int} : Kb t x c ↔ Kb (lout t y) x c ∨ (y ∈ keys t ∧ val x y + val t y ≤ c) := by
  constructor
  · rintro ⟨z, m, l⟩
    by_cases e : z = y
    · subst e
      exact .inr ⟨m, l⟩
    · have m2 : z ∈ keys (lout t y) := mem_lout.mpr ⟨m, e⟩
      exact .inl ⟨z, m2, by rw [val_lout nd m2]; exact l⟩
  · rintro (⟨z, m, l⟩ | ⟨m, l⟩)
    · rw [val_lout nd m] at l
      exact ⟨z, (mem_lout.mp m).1, l⟩
    · exact ⟨y, m, l⟩
theorem kb_putin {t h x : Tb} (nh : (keys h).Nodup) {y : Str} {c : Int} : Kb (putin t y h) x c ↔ Kb (lout t y) x c ∨ Kb h x (c - val t y) := by
  unfold putin
  rw [kb_least, kb_shf nh]
theorem kb_to {t x x' : Tb} {c : Int} (e : ∀ z ∈ keys t, val x z = val x' z) : Kb t x c ↔ Kb t x' c := by
  constructor <;> rintro ⟨z, m, l⟩ <;> refine ⟨z, m, ?_⟩ <;> have := e z m <;> omega
def isAl (r : Str × Tb) : Bool := decide (r.1 ∈ keys r.2) && decide (val r.2 r.1 ≤ 0)
def isNe (r : Str × Tb) : Bool := decide (keys r.2 = [r.1]) && decide (0 < val r.2 r.1)
def heldT (r : Str × Tb) : Tb := if r.1 ∈ keys r.2 then lout r.2 r.1 else r.2
def ofL (rs : List (Str × Tb)) (y : Str) : List (Str × Tb) := rs.filter fun r => (r.1 == y) != false
def holdsL (rs : List (Str × Tb)) (y : Str) : List Tb := ((ofL rs y).filter fun r => !isAl r).map heldT
def neverAny (rs : List (Str × Tb)) (y : Str) : Bool := ((ofL rs y).map isNe).any id
def isRp (y : Str) (r : Str × Tb) : Bool := (r.1 == y) != true && decide (y ∈ keys r.2)
def putInto (y : Str) (hs : List Tb) (r : Str × Tb) : List (Str × Tb) := if isRp y r then hs.map fun h => (r.1, putin r.2 y h) else if r.1 = y then [] else [r]
def othersL (ns : List Str) (y : Str) : List Str := ns.filter fun z => ((z == y) != true)
def neverR (ns : List Str) : List (Str × Tb) := match ns with
  | [] => []
  | o :: _ => [(o, [(o, 1)])]
def forgR (ns : List Str) (rs : List (Str × Tb)) (y : Str) : List (Str × Tb) := if neverAny rs y then neverR (othersL ns y) else rs.flatMap (putInto y (holdsL rs y))
theorem mem_ofL {rs : List (Str × Tb)} {y : Str} {r : Str × Tb} : r ∈ ofL rs y ↔ r ∈ rs ∧ r.1 = y := by
  unfold ofL
  rw [List.mem_filter]
  simp
theorem mem_others {ns : List Str} {y z : Str} : z ∈ othersL ns y ↔ z ∈ ns ∧ z ≠ y := by
  unfold othersL
  rw [List.mem_filter]
  refine and_congr_right fun _ => ?_
  by_cases c : z = y <;> simp [c]
/-- one that is neither always nor never kept has an alternative besides its left -/
theorem held_ne {r : Str × Tb} (h : Ru r) (ha : isAl r = false) (hn : isNe r = false) (m : r.1 ∈ keys r.2) : ∃ z ∈ keys r.2, z ≠ r.1 := by
  refine Classical.byContradiction fun c => ?_
  have all : ∀ z ∈ keys r.2, z = r.1 := fun z m => Classical.byContradiction fun e => c ⟨z, m, e⟩
  have pos : 0 < val r.2 r.1 := by
    refine Classical.byContradiction fun d => ?_
    have : isAl r = true := by
      unfold isAl
      rw [decide_eq_true m, decide_eq_true (show val r.2 r.1 ≤ 0 by omega)]
      rfl
    rw [this] at ha
    cases ha
  have one : keys r.2 = [r.1] := by
    have nd := h.so.nd
    revert all nd m
    generalize keys r.2 = ks
    intro m all nd
    cases ks with
    | nil => cases m
    | cons a l =>
      rw [all a List.mem_cons_self]
      cases l with
      | nil => rfl
      | cons b l =>
        have e1 := all a List.mem_cons_self
        have e2 := all b (List.mem_cons_of_mem _ List.mem_cons_self)
        rw [e1, e2] at nd
        exact absurd List.mem_cons_self (List.nodup_cons.mp nd).1
  have : isNe r = true := by
    unfold isNe
    rw [decide_eq_true one, decide_eq_true pos]
    rfl
  rw [this] at hn
  cases hn
theorem held_so {r : Str × Tb} (h : Ru r) (ha : isAl r = false) (hn : isNe r = false) : So (heldT r) := by
  unfold heldT
  split
  · rename_i m
    exact h.so.lout (held_ne h ha hn m)
  · exact h.so
theorem mem_held {r : Str × Tb} {z : Str} : z ∈ keys (heldT r) ↔ z ∈ keys r.2 ∧ z ≠ r.1 := by
  unfold heldT
  split
  · exact mem_lout
  · rename_i m
    exact ⟨fun h => ⟨h, fun e => m (e ▸ h)⟩, And.left⟩
section
variable {ns : List Str} {rs : List (Str × Tb)} {y : Str}
theorem nev_of (h : neverAny rs y = false) {r : Str × Tb} (m : r ∈ ofL rs y) : isNe r = false := by
  have := List.any_eq_false.mp h (isNe r) (List.mem_map.mpr ⟨r, m, rfl⟩)
  simpa using this
theorem mem_holds {h : Tb} : h ∈ holdsL rs y ↔ ∃ r ∈ rs, r.1 = y ∧ isAl r = false ∧ h = heldT r := by
  unfold holdsL
  rw [List.mem_map]
  constructor
  · rintro ⟨r, m, rfl⟩
    obtain ⟨m1, m2⟩ := List.mem_filter.mp m
    obtain ⟨m3, m4⟩ := mem_ofL.mp m1
    exact ⟨r, m3, m4, by simpa using m2, rfl⟩
  · rintro ⟨r, m, e, a, rfl⟩
    exact ⟨r, List.mem_filter.mpr ⟨mem_ofL.mpr ⟨m, e⟩, by simp [a]⟩, rfl⟩
theorem holds_so (hb : Bo ns rs) (nv : neverAny rs y = false) : ∀ h ∈ holdsL rs y, So h ∧ ∀ z ∈ keys h, z ∈ othersL ns y := fun h m => by
  obtain ⟨r, mr, e, a, rfl⟩ := mem_holds.mp m
  refine ⟨held_so (hb.ru r mr) a (nev_of nv (mem_ofL.mpr ⟨mr, e⟩)), fun z mz => ?_⟩
  obtain ⟨m1, m2⟩ := mem_held.mp mz
  exact mem_others.mpr ⟨(hb.sub r mr).2 z m1, e ▸ m2⟩
theorem holds_len : (holdsL rs y).length ≤ (ofL rs y).length := by
  unfold holdsL
  rw [List.length_map]
  exact List.length_filter_le ..
theorem others_ns (hb : Bo ns rs) (ne : ∃ z ∈ ns, z ≠ y) : Ns (othersL ns y) ∧ Srt (othersL ns y) := by
  refine ⟨⟨hb.n8.nd.filter _, fun z m => hb.n8.nm z (mem_others.mp m).1, Nat.le_trans (List.length_filter_le ..) hb.n8.le, fun e => ?_⟩, srt_filter hb.so _⟩
  obtain ⟨z, m, ne⟩ := ne
  have : z ∈ othersL ns y := mem_others.mpr ⟨m, ne⟩
  rw [e] at this
  cases this
/-- what putting in gives, in a book -/
theorem putInto_ok (hb : Bo ns rs) (nv : neverAny rs y = false) {r q : Str × Tb} (mr : r ∈ rs) (mq : q ∈ putInto y (holdsL rs y) r) : Ru q ∧ q.1 ∈ othersL ns y ∧ ∀ z ∈ keys q.2, z ∈ othersL ns y := by
  unfold putInto at mq
  have hr := hb.ru r mr
  have hs := hb.sub r mr
  split at mq
  · rename_i c
    obtain ⟨h, mh, rfl⟩ := List.mem_map.mp mq
    unfold isRp at c
    rw [Bool.and_eq_true] at c
    have ne : r.1 ≠ y := by simpa using c.1
    obtain ⟨h1, h2⟩ := holds_so hb nv h mh
    refine ⟨⟨hr.nm, So.putin hb.n8 hr.so h1 y hs.2 fun z m => (mem_others.mp (h2 z m)).1⟩, mem_others.mpr ⟨hs.1, ne⟩, fun z m => ?_⟩
    rcases mem_putin.mp m with m | m
    · exact mem_others.mpr ⟨hs.2 z m.1, m.2⟩
    · exact h2 z m
  · rename_i c
    split at mq
    · cases mq
    · rename_i ne
      rw [List.mem_singleton.mp mq]
      refine ⟨hr, mem_others.mpr ⟨hs.1, ne⟩, fun z m => mem_others.mpr ⟨hs.2 z m, fun e => c ?_⟩⟩
      unfold isRp
      subst e
      rw [decide_eq_true m]
      simp [ne]
def nRep (rs : List (Str × Tb)) (y : Str) : Nat := (rs.filter (isRp y)).length
def nStay (rs : List (Str × Tb)) (y : Str) : Nat := (rs.filter fun r => decide (y ∈ rmom r) != true).length
theorem flat_len : ∀ rs' : List (Str × Tb), ∀ hs : List Tb, (rs'.flatMap (putInto y hs)).length ≤ nStay rs' y + nRep rs' y * hs.length
  | [], _ => by simp
  | r :: rs', hs => by
    have ih := flat_len rs' hs
    rw [List.flatMap_cons, List.length_append]
    unfold nStay nRep at ih ⊢
    generalize (rs'.flatMap (putInto y hs)).length = tot at ih ⊢
    unfold putInto
    rw [List.filter_cons, List.filter_cons]
    by_cases c : isRp y r = true
    · have hy : y ∈ rmom r := by
        unfold isRp at c
        rw [Bool.and_eq_true] at c
        exact rmom_mem.mpr (.inr (of_decide_eq_true c.2))
      simp only [c, if_true, hy, decide_true, bne_self_eq_false, Bool.false_eq_true, if_false, List.length_map, List.length_cons]
      rw [Nat.succ_mul]
      omega
    · simp only [c, Bool.false_eq_true, if_false]
      by_cases e : r.1 = y
      · simp only [e, if_true, List.length_nil]
        have hy : y ∈ rmom r := rmom_mem.mpr (.inl e.symm)
        simp only [hy, decide_true, bne_self_eq_false, Bool.false_eq_true, if_false]
        omega
      · have hy : y ∉ rmom r := fun m => by
          rcases rmom_mem.mp m with m | m
          · exact e m.symm
          · apply c
            unfold isRp
            rw [decide_eq_true m]
            simp [e]
        simp only [e, if_false, hy, decide_false, List.length_cons, List.length_nil]
        simp only [show (false != true) = true from rfl, if_true, List.length_cons]
        omega
/-- the book that is left is one -/
theorem forg_bo (hb : Bo ns rs) (ne : ∃ z ∈ ns, z ≠ y) (l : nStay rs y + nRep rs y * (holdsL rs y).length ≤ 100) : Bo (othersL ns y) (forgR ns rs y) := by
  obtain ⟨n1, n2⟩ := others_ns hb ne
  unfold forgR
  split
  · have n1' := n1
    revert n1
    cases e : othersL ns y with
    | nil => intro n1; exact absurd rfl n1.ne
    | cons o r =>
      intro n1
      have no := n1.nm o List.mem_cons_self
      refine ⟨n1, e ▸ n2, fun q m => ?_, fun q m => ?_, by show 1 ≤ 100; omega⟩
      · rw [List.mem_singleton.mp m]
        exact ⟨no, one_so no⟩
      · rw [List.mem_singleton.mp m]
        exact ⟨List.mem_cons_self, fun z mz => by simp [keys] at mz; rw [mz]; exact List.mem_cons_self⟩
  · rename_i nv
    have nv : neverAny rs y = false := by simpa using nv
    refine ⟨n1, n2, fun q m => ?_, fun q m => ?_, Nat.le_trans (flat_len rs _) l⟩
    · obtain ⟨r, mr, mq⟩ := List.mem_flatMap.mp m
      exact (putInto_ok hb nv mr mq).1
    · obtain ⟨r, mr, mq⟩ := List.mem_flatMap.mp m
      exact (putInto_ok hb nv mr mq).2
end
/-! what forgetting does -/
def Hd (x : Tb) (r : Str × Tb) : Prop := Kb r.2 x (val x r.1)
section
variable {ns : List Str} {rs : List (Str × Tb)} {y : Str} {x x' : Tb}
/-- a run of the book, without y, is one of what is left -/
theorem forg_of (hb : Bo ns rs) (hx : ∀ z ∈ ns, z ≠ y → val x z = val x' z) (h : ∀ r ∈ rs, Hd x' r) : neverAny rs y = false ∧ ∀ q ∈ rs.flatMap (putInto y (holdsL rs y)), Hd x q := by
  have nv : neverAny rs y = false := by
    refine Bool.eq_false_iff.mpr fun c => ?_
    unfold neverAny at c
    obtain ⟨b, mb, e⟩ := List.any_eq_true.mp c
    obtain ⟨r, mr, rfl⟩ := List.mem_map.mp mb
    obtain ⟨m1, e1⟩ := mem_ofL.mp mr
    unfold isNe at e
    rw [show (id (decide (keys r.2 = [r.1]) && decide (0 < val r.2 r.1))) = (decide (keys r.2 = [r.1]) && decide (0 < val r.2 r.1)) from rfl, Bool.and_eq_true] at e
    have k := of_decide_eq_true e.1
    have p := of_decide_eq_true e.2
    obtain ⟨z, mz, l⟩ := h r m1
    rw [k] at mz
    rw [List.mem_singleton.mp mz] at l
    omega
  refine ⟨nv, fun q mq => ?_⟩
  obtain ⟨r, mr, mq⟩ := List.mem_flatMap.mp mq
  have hr := hb.ru r mr
  have hs := hb.sub r mr
  have hh := h r mr
  unfold putInto at mq
  split at mq
  · rename_i c
    unfold isRp at c
    rw [Bool.and_eq_true] at c
    have ne : r.1 ≠ y := by simpa using c.1
    obtain ⟨g, mg, rfl⟩ := List.mem_map.mp mq
    obtain ⟨p, mp, ep, ap, rfl⟩ := mem_holds.mp mg
    have hp := hb.ru p mp
    obtain ⟨so, sub⟩ := holds_so hb nv _ mg
    show Kb (putin r.2 y (heldT p)) x (val x r.1)
    rw [kb_putin so.nd]
    have e1 : val x r.1 = val x' r.1 := hx _ hs.1 ne
    rw [e1]
    rcases (kb_split hr.so.nd (y := y)).mp hh with h1 | ⟨_, h1⟩
    · exact .inl ((kb_to fun z m => hx z (hs.2 z (mem_lout.mp m).1) (mem_lout.mp m).2).mpr h1)
    · refine .inr ?_
      have hk := h p mp
      unfold Hd at hk
      rw [ep] at hk
      have k2 : Kb (heldT p) x' (val x' y) := by
        obtain ⟨z, mz, l⟩ := hk
        by_cases e : z = y
        · subst e
          have : isAl p = true := by
            unfold isAl
            rw [ep, decide_eq_true mz, decide_eq_true (show val p.2 z ≤ 0 by omega)]
            rfl
          rw [this] at ap
          cases ap
        · have m2 : z ∈ keys (heldT p) := mem_held.mpr ⟨mz, ep ▸ e⟩
          refine ⟨z, m2, ?_⟩
          have ev : val (heldT p) z = val p.2 z := by
            unfold heldT at m2 ⊢
            split at m2
            · rename_i mm
              rw [if_pos mm]
              exact val_lout hp.so.nd m2
            · rename_i mm
              rw [if_neg mm]
          rw [ev]
          exact l
      have k3 : Kb (heldT p) x (val x' y) := (kb_to fun z m => hx z (mem_others.mp (sub z m)).1 (mem_others.mp (sub z m)).2).mpr k2
      obtain ⟨z, mz, l⟩ := k3
      exact ⟨z, mz, by omega⟩
  · rename_i c
    split at mq
    · cases mq
    · rename_i ne
      rw [List.mem_singleton.mp mq]
      have ny : y ∉ keys r.2 := fun m => c (by
        unfold isRp
        rw [decide_eq_true m]
        simp [ne])
      show Kb r.2 x (val x r.1)
      rw [hx _ hs.1 ne]
      exact (kb_to fun z m => hx z (hs.2 z m) fun e => ny (e ▸ m)).mpr hh
/-- a run of what is left, with a time of y, is one of the book: all holds' values are at most the time, and where there is none, it is early enough -/
theorem forg_to (hb : Bo ns rs) (nv : neverAny rs y = false) (hx : ∀ z ∈ ns, z ≠ y → val x z = val x' z) (h : ∀ q ∈ rs.flatMap (putInto y (holdsL rs y)), Hd x q)
    (h1 : ∀ g ∈ holdsL rs y, Kb g x (val x' y)) (h2 : (∃ g ∈ holdsL rs y, ∀ c, Kb g x c → val x' y ≤ c) ∨ ∀ r ∈ rs, isRp y r = true → val x' y + val r.2 y ≤ val x r.1) : ∀ r ∈ rs, Hd x' r := by
  intro r mr
  have hr := hb.ru r mr
  have hs := hb.sub r mr
  by_cases e : r.1 = y
  · by_cases a : isAl r = true
    · unfold isAl at a
      rw [Bool.and_eq_true] at a
      exact ⟨r.1, of_decide_eq_true a.1, by have := of_decide_eq_true a.2; omega⟩
    · have a : isAl r = false := by simpa using a
      have mg : heldT r ∈ holdsL rs y := mem_holds.mpr ⟨r, mr, e, a, rfl⟩
      obtain ⟨so, sub⟩ := holds_so hb nv _ mg
      obtain ⟨z, mz, l⟩ := (kb_to fun z m => hx z (mem_others.mp (sub z m)).1 (mem_others.mp (sub z m)).2).mp (h1 _ mg)
      obtain ⟨m1, m2⟩ := mem_held.mp mz
      refine ⟨z, m1, ?_⟩
      have ev : val (heldT r) z = val r.2 z := by
        unfold heldT at mz ⊢
        split at mz
        · rename_i mm
          rw [if_pos mm]
          exact val_lout hr.so.nd mz
        · rename_i mm
          rw [if_neg mm]
      rw [e, ← ev]
      exact l
  · have ex : val x r.1 = val x' r.1 := hx _ hs.1 e
    by_cases c : isRp y r = true
    · have my : y ∈ keys r.2 := by
        unfold isRp at c
        rw [Bool.and_eq_true] at c
        exact of_decide_eq_true c.2
      show Kb r.2 x' (val x' r.1)
      rw [kb_split hr.so.nd (y := y)]
      rcases h2 with ⟨g, mg, hg⟩ | h2
      · have hq := h (r.1, putin r.2 y g) (List.mem_flatMap.mpr ⟨r, mr, by unfold putInto; rw [if_pos c]; exact List.mem_map.mpr ⟨g, mg, rfl⟩⟩)
        have hq : Kb (putin r.2 y g) x (val x r.1) := hq
        rw [kb_putin (holds_so hb nv g mg).1.nd] at hq
        rcases hq with k | k
        · refine .inl ?_
          rw [← ex]
          exact (kb_to fun z m => hx z (hs.2 z (mem_lout.mp m).1) (mem_lout.mp m).2).mp k
        · have := hg _ k
          exact .inr ⟨my, by omega⟩
      · have := h2 r mr c
        exact .inr ⟨my, by omega⟩
    · have hq : Hd x r := h r (List.mem_flatMap.mpr ⟨r, mr, by unfold putInto; rw [if_neg c, if_neg e]; exact List.mem_cons_self⟩)
      have ny : y ∉ keys r.2 := fun m => c (by
        unfold isRp
        rw [decide_eq_true m]
        simp [e])
      show Kb r.2 x' (val x' r.1)
      rw [← ex]
      exact (kb_to fun z m => hx z (hs.2 z m) fun e => ny (e ▸ m)).mp hq
theorem never_not (hb : Bo ns rs) {o : Str} : ¬ Hd x (o, [(o, 1)]) := by
  rintro ⟨z, m, l⟩
  have : z = o := by simpa [keys] using m
  subst this
  have e : val [(z, (1 : Int))] z = 1 := val_at (by simp [keys]) (by simp)
  rw [e] at l
  have l : val x z + 1 ≤ val x z := l
  omega
end
end Pu
set_option Elab.async false
set_option linter.all false
set_option maxRecDepth 100000
set_option maxHeartbeats 8000000
namespace Pu
open L2 PySem PySem.Spec PyProof.Rows E10
open He (ga ma)
local macro_rules | `(tactic| walk_at "pu wq1") => `(tactic| first | ((with_reducible apply wo_var); next => rfl) | with_reducible refine wo_c ?_ | with_reducible refine wo_op ?_ | with_reducible refine wo_call ?_ | with_reducible refine wa_cons ?_ | with_reducible refine wa_nil ?_ | with_reducible refine wo_eq add_ii ?_ | with_reducible refine wo_eq sub_ii ?_ | with_reducible refine wo_eq le_ii ?_ | with_reducible refine wo_eq lt_ii ?_ | with_reducible refine wo_eq gt_ii ?_ | with_reducible refine wo_eq eq_ii ?_ | with_reducible refine ws_seq ?_ | with_reducible refine ws_set ?_ | ((with_reducible apply st1); next => ((try simp only [List.set_cons_zero, List.set_cons_succ]); first | done | rfl)) | with_reducible refine ws_ret ?_ | with_reducible refine ws_drop ?_ | with_reducible refine ws_next ?_ | with_reducible refine ws_for ?_ | with_reducible refine wt_test ?_ | with_reducible refine isB ?_ | with_reducible refine isV ?_ | with_reducible refine isI ?_ | with_reducible refine bi_tt ?_ | with_reducible refine bi_ff ?_ | with_reducible refine bi_not ?_ | with_reducible refine bi_bneF ?_ | with_reducible refine bi_bneT ?_ | ((with_reducible refine bi_T ?_ ?_); next => assumption) | ((with_reducible refine bi_F ?_ ?_); next => assumption) | ((with_reducible refine bi_dT ?_ ?_); next => assumption) | ((with_reducible refine bi_dF ?_ ?_); next => assumption) | with_reducible refine wt_not ?_ | with_reducible refine wt_and ?_ | with_reducible refine wt_or ?_ | with_reducible refine wt_yes ?_ | with_reducible refine wo_andV ?_ | with_reducible refine wo_orV ?_ | with_reducible refine wo_notV ?_ | with_reducible refine wo_if ?_ | with_reducible refine wo_chain ?_ | with_reducible refine wo_seq ?_ | with_reducible refine wo_lstC ?_ | with_reducible refine isVs1 ?_ | with_reducible refine isVs0 ?_ | with_reducible refine isVsA ?_ | with_reducible refine isVsM ?_ | ((with_reducible refine few1 ?_ ?_); next => (first | decide | (simp only [List.length_map, List.length_append, List.length_cons, List.length_nil]; omega))) | with_reducible refine wo_fld ?_ | with_reducible refine wo_meth ?_ | with_reducible refine wo_prop ?_ | with_reducible refine isO ?_ | with_reducible refine wo_callO ?_ | with_reducible refine wo_mk ?_ | with_reducible refine wo_frz ?_ | with_reducible refine wo_frzv ?_ | with_reducible refine wo_drop ?_ | ((with_reducible apply wo_fldv); next => rfl) | ((with_reducible apply noF); next => rfl) | with_reducible refine isC1 ?_ | ((with_reducible refine leM ?_ ?_); next => (first | exact Nat.le_refl _ | exact pot_le (by assumption) (by assumption))) | ((with_reducible apply wo_isi (c := true)); (next => rfl); (next => decide); (next => decide)) | ((with_reducible apply wo_isi (c := false)); (next => rfl); (next => decide); (next => decide)) | ((with_reducible refine wo_isiO1 ?_ ?_); next => simp) | ((with_reducible refine wo_isiOb ?_ ?_ ?_); (next => simp); (next => simp)) | ((with_reducible apply wo_isibO); (next => rfl); (next => simp)) | ((with_reducible refine wo_eqO ?_ ?_); next => simp) | ((with_reducible refine wo_neO ?_ ?_); next => simp) | with_reducible refine wo_own2 ?_ | with_reducible refine wo_ownI ?_ | with_reducible refine wo_iown ?_ | with_reducible refine wo_ixO ?_ | with_reducible refine wo_inO ?_ | with_reducible refine wi_any ?_ | with_reducible refine wi_vals ?_ | with_reducible refine wi_items ?_ | with_reducible refine wi_rg1 ?_ | with_reducible refine wo_lc ?_ | with_reducible refine wo_dc ?_ | ((with_reducible apply wo_lock); next => rfl) | ((with_reducible apply ws_lock); next => rfl) | with_reducible refine ws_par ?_ | with_reducible refine is2 ?_ | with_reducible refine ws_par3 ?_ | with_reducible refine is3 ?_ | with_reducible refine ws_asg ?_ | with_reducible refine wo_un ?_ | with_reducible refine wo_eq neg_i ?_ | with_reducible refine wo_eq eq_bb ?_ | with_reducible refine wo_eq eq_ss ?_ | with_reducible refine wo_eq max_ii ?_ | with_reducible refine wo_eq min_ii ?_ | with_reducible refine lew_v ?_ | with_reducible refine wo_bm ?_ | with_reducible refine wo_sl ?_ | with_reducible refine wq_none ?_ | with_reducible refine wq_some ?_ | with_reducible refine wo_ok ?_ | with_reducible refine ws_nx ?_ | with_reducible refine wo_get2 ?_ | ((with_reducible refine wo_eq (mul_ii ?_) ?_); next => (first | exact .inl (by decide) | exact .inr (by decide))) | ((with_reducible refine wo_eq (mod_ii ?_) ?_); next => decide) | ((with_reducible refine wo_eq (div_ii ?_) ?_); next => decide) | ((with_reducible refine wo_eq (pow_ii ?_) ?_); next => decide))
local macro_rules | `(tactic| walk_at "pu wp1") => `(tactic| first | walk_at "pu wq1" | with_reducible refine ws_if ?_)
local macro_rules | `(tactic| walk_at "pu wp") => `(tactic| repeat walk_at "pu wp1")
local macro_rules | `(tactic| walk_at "pu wq") => `(tactic| repeat walk_at "pu wq1")
local macro_rules | `(tactic| walk_at "pu wdef") => `(tactic| (apply wo_def rfl; next => ((try simp only [List.map_cons, List.map_nil, List.replicate_succ, List.replicate_zero, List.cons_append, List.nil_append, List.append_nil, List.length_cons, List.length_nil, Nat.reduceAdd, Nat.reduceSub]); first | done | rfl)))
local macro_rules | `(tactic| walk_at "pu wdone") => `(tactic| exact ⟨rfl, by first | rfl | exact List.take_length⟩)
section
variable {Pg : Program} {w : World} {K : PySem.W.Frag} {μ : Μ} {ns : List Str} {rs : List (Str × Tb)} {t s h : Tb} {r : Str × Tb} {y : Str}
theorem e_is_moment_ofT {z : Str} : D_is_moment_of Pg w K [.v (.str z), .v (.tup (ns.map P.str))] μ = .ok (.v (.bl (decide (z ∈ ns)))) μ := eq_wo (by
  unfold D_is_moment_of
  walk_at "pu wdef"
  repeat (first | walk_at "pu wp1" | with_reducible refine wo_eq (in_tup) ?_)
  exact ⟨by simp, List.take_length⟩)
theorem e_check_momentT {z : Str} (h : z ∈ ns) : D_check_moment Pg w K [.v (.str z), .v (.tup (ns.map P.str))] μ = .ok (.v .non) μ := eq_wo (by
  unfold D_check_moment
  walk_at "pu wdef"
  repeat (first | walk_at "pu wp1" | with_reducible refine wo_eq (e_is_moment_ofT) ?_)
  walk_at "pu wdone")
theorem num_map {α : Type} (f : α → P) (l : List α) (d : α) : numP (l.map f) = (List.range l.length).map fun k => P.tup [.int ((k : Nat) : Int), f (l.getD k d)] := by
  unfold numP
  rw [List.length_map]
  refine List.map_congr_left fun k m => ?_
  have lt := List.mem_range.mp m
  rw [show (l.map f).getD k .non = f (l.getD k d) by simp [List.getD, lt]]
theorem e_Book_rules_of (hb : Bo ns rs) (m : y ∈ ns) : D_Book_rules_of Pg w K [.v (boP K ns rs), .v (.str y)] μ = .ok (.v (.lst (((List.range rs.length).filter fun k => ((rs.getD k ("", [])).1 == y) != false).map fun k => P.int ((k : Nat) : Int)))) μ := eq_wo (by
  have l := hb.le
  unfold D_Book_rules_of
  walk_at "pu wdef"
  repeat (first | walk_at "pu wp1" | with_reducible refine wo_eq (e_check_momentT m) ?_)
  apply wi_enum
  walk_at "pu wp"
  refine ⟨_, _, rfl, .inl rfl, by rw [List.length_map]; omega, ?_⟩
  rw [num_map (ruP K) rs ("", [])]
  refine wl_on (fun k : Nat => P.tup [.int ((k : Nat) : Int), ruP K (rs.getD k ("", []))]) (fun k => ((rs.getD k ("", [])).1 == y) != false) (fun k => P.int ((k : Nat) : Int)) (l := List.range rs.length) (fun k mk => ?_) ?_
  · refine ⟨_, rfl, ?_, fun _ => ?_⟩
    · repeat (first | walk_at "pu wp1" | with_reducible refine wo_eq (e_Rule_moment) ?_)
      exact ⟨rfl, rfl⟩
    · walk_at "pu wp"
      exact ⟨rfl, rfl⟩
  · walk_at "pu wp"
    walk_at "pu wdone")
theorem e_Rule_is_never (h : Ru r) : D_Rule_is_never Pg w K [.v (ruP K r)] μ = .ok (.v (.bl (isNe r))) μ := eq_wo (by
  unfold D_Rule_is_never
  walk_at "pu wdef"
  repeat (first | walk_at "pu wp1" | with_reducible refine wo_eq (e_Earliest_moments) ?_)
  have e : P.tup [P.str r.1] = .tup ([r.1].map P.str) := rfl
  rw [e]
  repeat (first | walk_at "pu wp1" | with_reducible refine wo_eq (eq_tups (zs := keys r.2) (ys := [r.1]) h.so.nm (fun z m => by rw [List.mem_singleton.mp m]; exact h.nm)) ?_)
  unfold isNe
  refine bi_by (fun c => ?_) fun c => ?_
  · have c : keys r.2 = [r.1] := by simpa using c
    repeat (first | walk_at "pu wp1" | with_reducible refine wo_eq (e_Earliest_getitem (t := r.2) (z := r.1) (by rw [c]; exact List.mem_cons_self)) ?_)
    exact ⟨by rw [decide_eq_true c]; rfl, List.take_length⟩
  · have c : ¬ keys r.2 = [r.1] := by simpa using c
    walk_at "pu wp"
    exact ⟨by rw [decide_eq_false c]; rfl, List.take_length⟩)
theorem e_Rule_is_always : D_Rule_is_always Pg w K [.v (ruP K r)] μ = .ok (.v (.bl (isAl r))) μ := eq_wo (by
  unfold D_Rule_is_always
  walk_at "pu wdef"
  repeat (first | walk_at "pu wp1" | with_reducible refine wo_eq (e_Earliest_contains) ?_)
  unfold isAl
  refine bi_if (fun c => ?_) fun c => ?_
  · repeat (first | walk_at "pu wp1" | with_reducible refine wo_eq (e_Earliest_getitem (t := r.2) (z := r.1) c) ?_)
    exact ⟨by rw [decide_eq_true c]; rfl, List.take_length⟩
  · walk_at "pu wp"
    exact ⟨by rw [decide_eq_false c]; rfl, List.take_length⟩)
theorem e_left_out (nd : (keys t).Nodup) (le : t.length ≤ 64) : D_left_out Pg w K [.v (dctP t), .v (.str y)] μ = .ok (.v (dctP (lout t y))) μ := eq_wo (by
  unfold D_left_out
  walk_at "pu wdef"
  repeat (first | walk_at "pu wp1" | with_reducible refine wo_eq (it_d (show t.length ≤ 100000 by omega)) ?_)
  refine wd_on P.str (fun z => ((z == y) != true)) (fun z => Sum.inr z) (fun z => P.int (val t z)) (l := keys t) (List.Pairwise.map _ (fun a b h e => h (Sum.inr.inj e)) (nd.filter _)) (fun z m => ?_) ?_
  · refine ⟨_, .str z, rfl, rfl, ?_, fun _ => ⟨?_, ?_⟩⟩
    · walk_at "pu wp"
      exact ⟨rfl, rfl⟩
    · walk_at "pu wp"
      exact ⟨rfl, rfl⟩
    · repeat (first | walk_at "pu wp1" | with_reducible refine wo_eq (dget_ok (val_of m)) ?_)
      exact ⟨rfl, rfl⟩
  · walk_at "pu wp"
    refine ⟨?_, List.take_length⟩
    unfold dctP lout rowP
    rw [List.map_map]
    rfl)
theorem e_least_of (na : (keys t).Nodup) (nb : (keys s).Nodup) (la : t.length ≤ 8) (lb : s.length ≤ 8) : D_least_of Pg w K [.v (dctP t), .v (dctP s)] μ = .ok (.v (dctP (least t s))) μ := eq_wo (by
  have l1 : (insAll [] (keys t)).length ≤ 8 := by have := ins_len (keys t); rw [len_keys] at this; omega
  have l2 : (insAll [] (keys s)).length ≤ 8 := by have := ins_len (keys s); rw [len_keys] at this; omega
  have l3 : (both t s).length ≤ 16 := by
    have h : (both t s).length ≤ (keys t ++ keys s).length := nodup_le (both_nd t s) fun z m => by rw [List.mem_append]; exact both_mem.mp m
    rw [List.length_append, len_keys, len_keys] at h
    omega
  unfold D_least_of
  walk_at "pu wdef"
  repeat (first | walk_at "pu wp1" | with_reducible refine wo_eq (set_t (show t.length < 32 by omega)) ?_ | with_reducible refine wo_eq (set_t (show s.length < 32 by omega)) ?_ | with_reducible refine wo_eq (union_g (a := insAll [] (keys t)) (b := insAll [] (keys s)) (by omega)) ?_)
  rw [show insAll (insAll [] (keys t)) (insAll [] (keys s)) = both t s from rfl]
  repeat (first | walk_at "pu wp1" | with_reducible refine wo_eq (sort_s (show (both t s).length < 64 by omega)) ?_ | with_reducible refine wo_eq (it_strs (show (srt (both t s)).length ≤ 100000 by rw [srt_len]; omega)) ?_)
  refine wd_all P.str (fun z => Sum.inr z) (fun z => P.int (lst t s z)) (l := srt (both t s)) (List.Pairwise.map _ (fun a b h e => h (Sum.inr.inj e)) (srt_nodup (both_nd t s))) (fun z m => ?_) ?_
  · refine ⟨_, .str z, rfl, rfl, ?_, ?_⟩
    · walk_at "pu wp"
      exact ⟨rfl, rfl⟩
    repeat (first | walk_at "pu wp1" | with_reducible refine wo_eq (it_t (ps := [dctP t, dctP s]) (by show 2 ≤ 100000; omega)) ?_)
    refine wl_on dctP (fun t => decide (z ∈ keys t) != false) (fun t => P.int (val t z)) (l := [t, s]) (fun a _ => ?_) ?_
    · refine ⟨_, rfl, ?_, fun c => ?_⟩
      · repeat (first | walk_at "pu wp1" | with_reducible refine wo_eq (din_ok false) ?_)
        exact ⟨rfl, rfl⟩
      · repeat (first | walk_at "pu wp1" | with_reducible refine wo_eq (dget_ok (val_of (t := a) (z := z) (by simpa using c))) ?_)
        exact ⟨rfl, rfl⟩
    walk_at "pu wp"
    have e : (([t, s].filter fun t => decide (z ∈ keys t) != false).map fun t => P.int (val t z)) = ((([t, s].filter fun t => decide (z ∈ keys t)).map fun t => val t z)).map P.int := by
      rw [List.map_map]
      simp only [Bool.bne_false]
      rfl
    rw [e]
    refine wo_eq (min_l (l := ([t, s].filter fun t => decide (z ∈ keys t)).map fun t => val t z) (by have := ints_map (fun i : Int => i) (([t, s].filter fun t => decide (z ∈ keys t)).map fun t => val t z); rw [List.map_id'] at this; exact this) ?_) ?_
    · intro e
      have e := List.map_eq_nil_iff.mp e
      have mz := both_mem.mp (srt_mem.mp m)
      rcases mz with mz | mz
      · have : t ∈ [t, s].filter fun t => decide (z ∈ keys t) := List.mem_filter.mpr ⟨by simp, decide_eq_true mz⟩
        rw [e] at this
        cases this
      · have : s ∈ [t, s].filter fun t => decide (z ∈ keys t) := List.mem_filter.mpr ⟨by simp, decide_eq_true mz⟩
        rw [e] at this
        cases this
    · exact ⟨rfl, rfl⟩
  · walk_at "pu wp"
    refine ⟨?_, List.take_length⟩
    unfold dctP least rowP
    rw [List.map_map]
    rfl)
theorem e_Earliest_without (h : So t) (m : y ∈ keys t) (ne : ∃ z ∈ keys t, z ≠ y) : D_Earliest_without Pg w K [.v (eaP K t), .v (.str y)] μ = .ok (.v (eaP K (lout t y))) μ := eq_wo (by
  have le := h.le
  have l2 : t.length ≠ 1 := fun e => by
    obtain ⟨z, mz, nz⟩ := ne
    have := len_keys t
    rw [e] at this
    match hk : keys t, this with
    | [a], _ =>
      rw [hk] at m mz
      rw [List.mem_singleton.mp m, List.mem_singleton.mp mz] at nz
      exact nz rfl
  unfold D_Earliest_without
  walk_at "pu wdef"
  repeat (first | walk_at "pu wp1" | with_reducible refine wo_eq (e_check_moment m) ?_ | with_reducible refine wo_eq (len_t) ?_)
  refine bi_F (by simp; omega) ?_
  repeat (first | walk_at "pu wp1" | with_reducible refine wo_eq (e_left_out h.nd (show t.length ≤ 64 by omega)) ?_ | with_reducible refine wo_eq (e_Earliest (h.lout ne).toOk) ?_)
  rw [(h.lout ne).so]
  walk_at "pu wdone")
theorem e_held_by (hr : Ru r) (ha : isAl r = false) (hn : isNe r = false) : D_held_by Pg w K [.v (ruP K r)] μ = .ok (.v (eaP K (heldT r))) μ := eq_wo (by
  unfold D_held_by
  walk_at "pu wdef"
  repeat (first | walk_at "pu wp1" | with_reducible refine wo_eq (e_Rule_moment) ?_ | with_reducible refine wo_eq (e_Rule_earliest) ?_ | with_reducible refine wo_eq (e_Earliest_contains) ?_)
  unfold heldT
  refine bi_if (fun c => ?_) fun c => ?_
  · rw [if_pos c]
    repeat (first | walk_at "pu wp1" | with_reducible refine wo_eq (e_Rule_moment) ?_ | with_reducible refine wo_eq (e_Rule_earliest) ?_ | with_reducible refine wo_eq (e_Earliest_without hr.so c (held_ne hr ha hn c)) ?_)
    walk_at "pu wdone"
  · rw [if_neg c]
    repeat (first | walk_at "pu wp1" | with_reducible refine wo_eq (e_Rule_earliest) ?_)
    walk_at "pu wdone")
theorem e_Earliest_put_in (n : Ns ns) (ht : So t) (hh : So h) (m : y ∈ keys t) (s1 : ∀ z ∈ keys t, z ∈ ns) (s2 : ∀ z ∈ keys h, z ∈ ns) : D_Earliest_put_in Pg w K [.v (eaP K t), .v (.str y), .v (eaP K h)] μ = .ok (.v (eaP K (putin t y h))) μ := eq_wo (by
  have l1 := ht.le
  have l2 := hh.le
  have so := So.putin n ht hh y s1 s2
  unfold D_Earliest_put_in
  walk_at "pu wdef"
  repeat (first | walk_at "pu wp1" | with_reducible refine wo_eq (e_check_moment m) ?_)
  try (refine wo_alt ?_)
  repeat (first | walk_at "pu wp1" | with_reducible refine wo_eq (e_Earliest_shifts) ?_ | with_reducible refine wo_eq (dget_ok (val_of m)) ?_ | with_reducible refine wo_eq (e_moved hh.nd (show h.length < 64 by omega) (val t y)) ?_ | with_reducible refine wo_eq (e_left_out ht.nd (show t.length ≤ 64 by omega)) ?_ | with_reducible refine wo_eq (e_least_of (t := lout t y) (s := shf h (val t y)) (nd_lout ht.nd y) (by rw [keys_shf]; exact hh.nd) (by rw [← len_keys, keys_lout]; exact Nat.le_trans (List.length_filter_le ..) (by rw [len_keys]; exact l1)) (by unfold shf; rw [List.length_map]; exact l2)) ?_)
  rw [show least (lout t y) (shf h (val t y)) = putin t y h from rfl]
  repeat (first | walk_at "pu wp1" | with_reducible refine wo_eq (e_Earliest so.toOk) ?_)
  rw [so.so]
  walk_at "pu wdone")
theorem e_holds (hb : Bo ns rs) (m : y ∈ ns) : D_holds Pg w K [.v (boP K ns rs), .v (.str y)] μ = .ok (.v (if neverAny rs y then .non else .lst ((holdsL rs y).map (eaP K)))) μ := eq_wo (by
  have l := hb.le
  have lo : (ofL rs y).length ≤ 100 := Nat.le_trans (List.length_filter_le ..) l
  have ru : ∀ r ∈ ofL rs y, Ru r := fun r m => hb.ru r (mem_ofL.mp m).1
  unfold D_holds
  walk_at "pu wdef"
  repeat (first | walk_at "pu wp1" | with_reducible refine wo_eq (e_Book_rules_of hb m) ?_)
  repeat (first | walk_at "pu wp1" | with_reducible refine wo_eq (it_l (ps := ((List.range rs.length).filter fun k => ((rs.getD k ("", [])).1 == y) != false).map fun k => P.int ((k : Nat) : Int)) (by rw [List.length_map]; refine Nat.le_trans (List.length_filter_le ..) ?_; rw [List.length_range]; omega)) ?_)
  refine wl_all (fun k : Nat => P.int ((k : Nat) : Int)) (fun k => ruP K (rs.getD k ("", []))) (l := (List.range rs.length).filter fun k => ((rs.getD k ("", [])).1 == y) != false) (fun k mk => ?_) ?_
  · have lt := List.mem_range.mp (List.mem_filter.mp mk).1
    refine ⟨_, rfl, ?_⟩
    repeat (first | walk_at "pu wp1" | with_reducible refine wo_eq (e_Book_getitem lt) ?_)
    exact ⟨by simp [List.getD, lt], rfl⟩
  have e : (((List.range rs.length).filter fun k => ((rs.getD k ("", [])).1 == y) != false).map fun k => ruP K (rs.getD k ("", []))) = (ofL rs y).map (ruP K) := pick_at (ruP K) (fun r : Str × Tb => (r.1 == y) != false) rs ("", [])
  rw [e]
  repeat (first | walk_at "pu wp1" | with_reducible refine wo_eq (it_l (show ((ofL rs y).map (ruP K)).length ≤ 100000 by rw [List.length_map]; omega)) ?_)
  refine wl_all (ruP K) (fun r => P.bl (isNe r)) (l := ofL rs y) (fun r mr => ?_) ?_
  · refine ⟨_, rfl, ?_⟩
    repeat (first | walk_at "pu wp1" | with_reducible refine wo_eq (e_Rule_is_never (ru r mr)) ?_)
    exact ⟨rfl, rfl⟩
  repeat (first | walk_at "pu wp1" | with_reducible refine wo_eq (bls_all (bls_map isNe (ofL rs y))) ?_)
  refine bi_by (fun c => ?_) fun c => ?_
  · walk_at "pu wp"
    refine ⟨?_, List.take_length⟩
    rw [show neverAny rs y = true from c]
    rfl
  · repeat (first | walk_at "pu wp1" | with_reducible refine wo_eq (it_l (show ((ofL rs y).map (ruP K)).length ≤ 100000 by rw [List.length_map]; omega)) ?_)
    have nv : neverAny rs y = false := c
    refine wl_on (ruP K) (fun r => !isAl r) (fun r => eaP K (heldT r)) (l := ofL rs y) (fun r mr => ?_) ?_
    · refine ⟨_, rfl, ?_, fun z => ?_⟩
      · repeat (first | walk_at "pu wp1" | with_reducible refine wo_eq (e_Rule_is_always) ?_)
        exact ⟨rfl, rfl⟩
      · repeat (first | walk_at "pu wp1" | with_reducible refine wo_eq (e_held_by (ru r mr) (by simpa using z) (nev_of nv mr)) ?_)
        exact ⟨rfl, rfl⟩
    walk_at "pu wp"
    refine ⟨?_, List.take_length⟩
    rw [nv]
    simp only [Bool.false_eq_true, if_false]
    unfold holdsL
    rw [List.map_map]
    rfl)
theorem e_is_replaced : D_is_replaced Pg w K [.v (ruP K r), .v (.str y)] μ = .ok (.v (.bl (isRp y r))) μ := eq_wo (by
  unfold D_is_replaced
  walk_at "pu wdef"
  repeat (first | walk_at "pu wp1" | with_reducible refine wo_eq (e_Rule_moment) ?_)
  unfold isRp
  refine bi_by (fun c => ?_) fun c => ?_
  · rw [c]
    walk_at "pu wp"
    exact ⟨by simp, List.take_length⟩
  · rw [c]
    repeat (first | walk_at "pu wp1" | with_reducible refine wo_eq (e_Rule_earliest) ?_ | with_reducible refine wo_eq (e_Earliest_contains) ?_)
    exact ⟨by simp, List.take_length⟩)
theorem e_check_many {q : P} {n : Nat} (hb : Bo ns rs) (hq : ∀ m, gLen [.v q] m = .ok (.v (.int n)) m) (hn : n ≤ 100) (hl : nStay rs y + nRep rs y * n ≤ 100) : D_check_many Pg w K [.v (boP K ns rs), .v (.str y), .v q] μ = .ok (.v .non) μ := eq_wo (by
  have l := hb.le
  unfold D_check_many
  walk_at "pu wdef"
  repeat (first | walk_at "pu wp1" | with_reducible refine wo_eq (e_Book_rules) ?_ | with_reducible refine wo_eq (it_l (show (rs.map (ruP K)).length ≤ 100000 by rw [List.length_map]; omega)) ?_)
  refine wl_on (ruP K) (fun r => decide (y ∈ rmom r) != true) (ruP K) (l := rs) (fun r mr => ?_) ?_
  · refine ⟨_, rfl, ?_, fun _ => ?_⟩
    · repeat (first | walk_at "pu wp1" | with_reducible refine wo_eq (e_Rule_moments (hb.ru r mr).so.le) ?_ | with_reducible refine wo_eq (in_tup) ?_)
      exact ⟨rfl, rfl⟩
    · walk_at "pu wp"
      exact ⟨rfl, rfl⟩
  repeat (first | walk_at "pu wp1" | with_reducible refine wo_eq (e_Book_rules) ?_ | with_reducible refine wo_eq (it_l (show (rs.map (ruP K)).length ≤ 100000 by rw [List.length_map]; omega)) ?_)
  refine wl_on (ruP K) (isRp y) (ruP K) (l := rs) (fun r mr => ?_) ?_
  · refine ⟨_, rfl, ?_, fun _ => ?_⟩
    · repeat (first | walk_at "pu wp1" | with_reducible refine wo_eq (e_is_replaced) ?_)
      exact ⟨rfl, rfl⟩
    · walk_at "pu wp"
      exact ⟨rfl, rfl⟩
  repeat (first | walk_at "pu wp1" | with_reducible refine wo_eq (len_l) ?_ | with_reducible refine wo_eq (hq _) ?_)
  rw [List.length_map, List.length_map]
  repeat (first | walk_at "pu wp1" | with_reducible refine wo_eq (mul_ii (i := (((rs.filter (isRp y)).length : Nat) : Int)) (j := ((n : Nat) : Int)) (.inr (by omega))) ?_)
  refine bi_dF ?_ ?_
  · unfold nStay nRep at hl
    have : (((rs.filter (isRp y)).length * n : Nat) : Int) = ((rs.filter (isRp y)).length : Int) * (n : Int) := Int.natCast_mul ..
    omega
  · walk_at "pu wp"
    walk_at "pu wdone")
theorem e_put_into (hb : Bo ns rs) (nv : neverAny rs y = false) (mr : r ∈ rs) : D_put_into Pg w K [.v (ruP K r), .v (.str y), .v (.lst ((holdsL rs y).map (eaP K)))] μ = .ok (.v (.lst ((putInto y (holdsL rs y) r).map (ruP K)))) μ := eq_wo (by
  have l : (holdsL rs y).length ≤ 100 := Nat.le_trans holds_len (Nat.le_trans (List.length_filter_le ..) hb.le)
  have hr := hb.ru r mr
  have hs := hb.sub r mr
  unfold D_put_into
  walk_at "pu wdef"
  repeat (first | walk_at "pu wp1" | with_reducible refine wo_eq (e_is_replaced) ?_)
  unfold putInto
  refine bi_by (fun c => ?_) fun c => ?_
  · rw [if_pos c]
    repeat (first | walk_at "pu wp1" | with_reducible refine wo_eq (it_l (show ((holdsL rs y).map (eaP K)).length ≤ 100000 by rw [List.length_map]; omega)) ?_)
    have my : y ∈ keys r.2 := by
      unfold isRp at c
      rw [Bool.and_eq_true] at c
      exact of_decide_eq_true c.2
    refine wl_all (eaP K) (fun g => ruP K (r.1, putin r.2 y g)) (l := holdsL rs y) (fun g mg => ?_) ?_
    · refine ⟨_, rfl, ?_⟩
      obtain ⟨h1, h2⟩ := holds_so hb nv g mg
      have s2 : ∀ z ∈ keys g, z ∈ ns := fun z m => (mem_others.mp (h2 z m)).1
      repeat (first | walk_at "pu wp1" | with_reducible refine wo_eq (e_Rule_moment) ?_ | with_reducible refine wo_eq (e_Rule_earliest) ?_ | with_reducible refine wo_eq (e_Earliest_put_in hb.n8 hr.so h1 my hs.2 s2) ?_ | with_reducible refine wo_eq (e_Rule hr.nm (So.putin hb.n8 hr.so h1 y hs.2 s2)) ?_)
      exact ⟨rfl, rfl⟩
    · walk_at "pu wp"
      rw [List.map_map]
      walk_at "pu wdone"
  · rw [if_neg (by rw [c]; simp)]
    repeat (first | walk_at "pu wp1" | with_reducible refine wo_eq (e_Rule_moment) ?_)
    refine bi_by (fun d => ?_) fun d => ?_
    · have d : r.1 = y := by simpa using d
      rw [if_pos d]
      walk_at "pu wp"
      walk_at "pu wdone"
    · have d : ¬ r.1 = y := by simpa using d
      rw [if_neg d]
      walk_at "pu wp"
      walk_at "pu wdone")
theorem e_Term_init {z : Str} {n : Int} (hz : Nm z) : D_Term___init__ Pg w K [.loc μ.length, .v (.str z), .v (.int n)] (μ ++ [.ins (ga K "Term") []]) = .ok (.v .non) (μ ++ [.ins (ga K "Term") [("_moment", .str z), ("_shift", .int n)]]) := eq_wo (by
  unfold D_Term___init__
  walk_at "pu wdef"
  repeat (first | walk_at "pu wp1" | with_reducible refine wo_eq (e_is_name hz) ?_ | with_reducible refine wo_eq (e_check_shift n) ?_)
  apply ws_fld
  walk_at "pu wp"
  refine ⟨μ.length, [], wI_last, by decide, ?_⟩
  rw [last_set]
  walk_at "pu wp"
  apply ws_fld
  walk_at "pu wp"
  refine ⟨μ.length, _, wI_last, (by show (1 : Nat) < 900; decide), ?_⟩
  rw [last_set]
  exact ⟨rfl, List.take_of_length_le (by simp)⟩)
theorem e_Term {z : Str} {n : Int} (hz : Nm z) : (makeP (ga K "Term") (D_Term___init__ Pg w K) [.v (.str z), .v (.int n)] μ).bind (frzP μ.length) = .ok (.v (teP K z n)) μ := make_eq (e_Term_init hz)
theorem e_Term0 {z : Str} (hz : Nm z) : (makeP (ga K "Term") (fDfl dv1_Term___init__ (D_Term___init__ Pg w K)) [.v (.str z)] μ).bind (frzP μ.length) = .ok (.v (teP K z 0)) μ := e_Term hz
theorem e_Term_add {z : Str} {n k : Int} (hz : Nm z) : D_Term___add__ Pg w K [.v (teP K z n), .v (.int k)] μ = .ok (.v (teP K z (n + k))) μ := eq_wo (by
  unfold D_Term___add__
  walk_at "pu wdef"
  repeat (first | walk_at "pu wp1" | with_reducible refine wo_eq (e_check_shift k) ?_ | with_reducible refine wo_eq (e_Term hz) ?_)
  walk_at "pu wdone")
theorem e_Term_shifts {z : Str} {n : Int} : D_Term_shifts Pg w K [.v (teP K z n)] μ = .ok (.v (dctP [(z, n)])) μ := eq_wo (by
  unfold D_Term_shifts
  walk_at "pu wdef"
  walk_at "pu wp"
  refine wo_disp ?_
  refine wd_cons ?_
  walk_at "pu wp"
  refine isKs ?_
  walk_at "pu wp"
  refine wd_nil ?_
  refine few15 (by simp) ?_
  refine wo_mkDv ?_
  exact ⟨rfl, List.take_length⟩)
theorem shifts_bad {x : Str} {n : Int} : D_Earliest_shifts Pg w K [.v (teP K x n)] μ = .bad := by
  have h : fldP (ga K "Earliest") "_shifts" (.v (teP K x n)) μ = .bad := by
    unfold fldP
    simp only [rdI]
    split <;> rfl
  have h2 : fFld (ga K "Earliest") "_shifts" (fVar 0) [some (.v (teP K x n))] μ = .bad := h
  unfold D_Earliest_shifts
  show leave μ.length (sRet (fCall (gDict .val) (fCons (fFld (ga K "Earliest") "_shifts" (fVar 0)) fNil)) [some (.v (teP K x n))] μ) = .bad
  unfold sRet fCall fCons
  rw [h2]
  rfl
theorem e_RuleT_init {z x : Str} {n : Int} (hz : Nm z) (hx : Nm x) : D_Rule___init__ Pg w K [.loc μ.length, .v (.str z), .v (teP K x n)] (μ ++ [.ins (ga K "Rule") []]) = .ok (.v .non) (μ ++ [.ins (ga K "Rule") [("_moment", .str z), ("_earliest", eaP K [(x, n)])]]) := eq_wo (by
  unfold D_Rule___init__
  walk_at "pu wdef"
  repeat (first | walk_at "pu wp1" | with_reducible refine wo_eq (e_is_name hz) ?_)
  apply ws_fld
  walk_at "pu wp"
  refine ⟨μ.length, [], wI_last, by decide, ?_⟩
  rw [last_set]
  walk_at "pu wp"
  apply ws_fld
  have so := one_so (v := n) hx
  refine wo_mono (Q := fun wv m => wv = .v (eaP K [(x, n)]) ∧ m = μ ++ [.ins (ga K "Rule") [("_moment", .str z)]]) ?_ (fun wv m ⟨e1, e2⟩ => ?_) fun _ _ _ z => z
  · walk_at "pu wp"
    refine wo_altR ?_ ?_
    · rw [fMeth_eq]
      show methP (ga K "Earliest") "shifts" (D_Earliest_shifts Pg w K) fNil _ (.v (teP K x n)) _ = .bad
      unfold methP
      simp only [rdI]
      split
      · exact shifts_bad (Pg := Pg) (w := w)
      · rfl
    repeat (first | walk_at "pu wp1" | with_reducible refine wo_eq (e_Term_shifts) ?_ | with_reducible refine wo_eq (e_Earliest so.toOk) ?_)
    rw [so.so]
    exact ⟨rfl, rfl⟩
  subst e1
  subst e2
  walk_at "pu wp"
  refine ⟨μ.length, _, wI_last, (by show (1 : Nat) < 900; decide), ?_⟩
  rw [last_set]
  exact ⟨rfl, List.take_of_length_le (by simp)⟩)
theorem e_RuleT {z x : Str} {n : Int} (hz : Nm z) (hx : Nm x) : (makeP (ga K "Rule") (D_Rule___init__ Pg w K) [.v (.str z), .v (teP K x n)] μ).bind (frzP μ.length) = .ok (.v (ruP K (z, [(x, n)]))) μ := make_eq (e_RuleT_init hz hx)
theorem e_never_kept (n : Ns ns) (so : Srt ns) : D_never_kept Pg w K [.v (.lst (ns.map P.str))] μ = .ok (.v (boP K ns (neverR ns))) μ := eq_wo (by
  cases ns with
  | nil => exact absurd rfl n.ne
  | cons o r =>
    have no := n.nm o List.mem_cons_self
    unfold D_never_kept
    walk_at "pu wdef"
    walk_at "pu wp"
    walk_at "pu wp"
    rw [show (P.str o :: r.map P.str) = (o :: r).map P.str from rfl]
    have e0 : ∀ m, gIx (.v (.lst ((o :: r).map P.str))) (.v (.int 0)) m = .ok (.v (.str o)) m := fun _ => ix_0
    repeat (first | walk_at "pu wp1" | with_reducible refine wo_eq (e0 _) ?_ | with_reducible refine wo_eq (e_Term0 no) ?_)
    repeat (first | walk_at "pu wp1" | with_reducible refine wo_eq (e_Term_add (n := 0) (k := 1) no) ?_)
    repeat (first | walk_at "pu wp1" | with_reducible refine wo_eq (e_RuleT (n := 0 + 1) no no) ?_)
    have e : P.lst [ruP K (o, [(o, 0 + 1)])] = .lst ((neverR (o :: r)).map (ruP K)) := rfl
    rw [e]
    refine wo_eq (e_Book (ns := o :: r) (rs := neverR (o :: r)) n (fun q m => ?_) (by show 1 ≤ 100; omega)) ?_
    · rw [List.mem_singleton.mp m]
      exact ⟨(by show 1 ≤ 8; omega), List.mem_cons_self, fun z mz => by simp [keys] at mz; rw [mz]; exact List.mem_cons_self⟩
    rw [show srt (o :: r) = o :: r from so]
    walk_at "pu wp"
    walk_at "pu wdone")
/-- forgetting, where there is room -/
theorem e_forget (hb : Bo ns rs) (m : y ∈ ns) (ne : ∃ z ∈ ns, z ≠ y) (l : nStay rs y + nRep rs y * (holdsL rs y).length ≤ 100) : D_forget Pg w K [.v (boP K ns rs), .v (.str y)] μ = .ok (.v (boP K (othersL ns y) (forgR ns rs y))) μ := eq_wo (by
  have l8 := hb.n8.le
  have lr := hb.le
  obtain ⟨n1, n2⟩ := others_ns hb ne
  have bo := forg_bo hb ne l
  unfold D_forget
  walk_at "pu wdef"
  repeat (first | walk_at "pu wp1" | with_reducible refine wo_eq (e_holds hb m) ?_ | with_reducible refine wo_eq (e_Book_moments) ?_ | with_reducible refine wo_eq (it_tups (show ns.length ≤ 100000 by omega)) ?_)
  refine wl_on P.str (fun z => ((z == y) != true)) P.str (l := ns) (fun z mz => ?_) ?_
  · refine ⟨_, rfl, ?_, fun _ => ?_⟩
    · walk_at "pu wp"
      exact ⟨rfl, rfl⟩
    · walk_at "pu wp"
      exact ⟨rfl, rfl⟩
  walk_at "pu wp"
  refine wt_truth ?_
  walk_at "pu wp"
  refine ⟨true, .inr (.inr (.inr ⟨_, .inl rfl, ?_⟩)), ?_⟩
  · have : (othersL ns y).map P.str ≠ [] := fun e => n1.ne (List.map_eq_nil_iff.mp e)
    show true = !((othersL ns y).map P.str).isEmpty
    cases hh : (othersL ns y).map P.str with
    | nil => exact absurd hh this
    | cons _ _ => rfl
  walk_at "pu wp"
  by_cases nv : neverAny rs y = true
  · rw [if_pos nv]
    repeat (first | walk_at "pu wp1" | with_reducible refine wo_eq (isN_T) ?_)
    rw [show (ns.filter fun z => ((z == y) != true)) = othersL ns y from rfl]
    repeat (first | walk_at "pu wp1" | with_reducible refine wo_eq (e_never_kept n1 n2) ?_)
    unfold forgR
    rw [if_pos nv]
    walk_at "pu wdone"
  · rw [if_neg nv]
    have nv' : neverAny rs y = false := by simpa using nv
    repeat (first | walk_at "pu wp1" | with_reducible refine wo_eq (isN_F (p := .lst ((holdsL rs y).map (eaP K))) (fun z => by cases z)) ?_)
    repeat (first | walk_at "pu wp1" | with_reducible refine wo_eq (e_check_many (q := .lst ((holdsL rs y).map (eaP K))) (n := (holdsL rs y).length) hb (fun m => by rw [len_l, List.length_map]) (Nat.le_trans holds_len (Nat.le_trans (List.length_filter_le ..) lr)) l) ?_)
    refine wo_lc2 ?_
    repeat (first | walk_at "pu wp1" | with_reducible refine wo_eq (e_Book_rules) ?_ | with_reducible refine wo_eq (it_l (show (rs.map (ruP K)).length ≤ 100000 by rw [List.length_map]; omega)) ?_)
    refine ⟨by rw [List.length_map]; omega, ?_⟩
    refine wl2_all (ruP K) (fun r => (putInto y (holdsL rs y) r).map (ruP K)) (l := rs) (fun r mr => ?_) ?_
    · refine ⟨_, rfl, by walk_at "pu wp"; exact ⟨rfl, rfl⟩, ?_⟩
      have lp : (putInto y (holdsL rs y) r).length ≤ 1000 := by
        have h1 : (holdsL rs y).length ≤ 100 := Nat.le_trans holds_len (Nat.le_trans (List.length_filter_le ..) lr)
        unfold putInto
        split
        · rw [List.length_map]; omega
        · split <;> simp
      repeat (first | walk_at "pu wp1" | with_reducible refine wo_eq (e_put_into hb nv' mr) ?_ | with_reducible refine wo_eq (it_l (show ((putInto y (holdsL rs y) r).map (ruP K)).length ≤ 100000 by rw [List.length_map]; omega)) ?_)
      refine ⟨by rw [List.length_map]; exact lp, rfl, ?_⟩
      refine wl_all (ruP K) (ruP K) (l := putInto y (holdsL rs y) r) (fun q mq => ?_) ⟨rfl, rfl⟩
      refine ⟨_, rfl, ?_⟩
      walk_at "pu wp"
      exact ⟨rfl, rfl⟩
    have ef : forgR ns rs y = rs.flatMap (putInto y (holdsL rs y)) := by unfold forgR; rw [if_neg nv]
    rw [show (rs.flatMap fun r => (putInto y (holdsL rs y) r).map (ruP K)) = (forgR ns rs y).map (ruP K) by rw [ef, List.map_flatMap]]
    rw [show (ns.filter fun z => ((z == y) != true)) = othersL ns y from rfl]
    repeat (first | walk_at "pu wp1" | with_reducible refine wo_eq (e_Book (ns := othersL ns y) (rs := forgR ns rs y) n1 (fun q mq => ⟨(bo.ru q mq).so.le, (bo.sub q mq).1, (bo.sub q mq).2⟩) bo.le) ?_)
    rw [show srt (othersL ns y) = othersL ns y from n2]
    walk_at "pu wdone")
end
end Pu
set_option Elab.async false
set_option linter.all false
set_option maxRecDepth 100000
set_option maxHeartbeats 4000000
namespace Pu
open L2 PySem PySem.Spec PyProof.Rows E10
open He (ga ma)
section
variable {X : XP} {Q : W → Μ → Prop} {m : Μ} {j : Nat}
theorem wo_index {zs : List Str} {y : Str} (h : m[j]? = some (.lst (zs.map P.str))) (hy : y ∈ zs) (k : ∀ i, zs[i]? = some y → Q (.v (.int (i : Nat))) m) : WO (mIndex (.loc j) [.v (.str y)] m) Q X := by
  unfold mIndex
  have e : ixL m (.loc j) = some (zs.map P.str) := by
    show (wL m (.loc j)).map (·.2) = _
    rw [wL_at h]
    rfl
  rw [e]
  simp only
  rw [if_pos ⟨rfl, by rw [List.all_map]; exact List.all_eq_true.mpr fun _ _ => rfl⟩]
  cases o : (zs.map P.str).findIdx? (fun p => eqF p (.str y)) with
  | none =>
    exfalso
    have := List.findIdx?_eq_none_iff.mp o (.str y) (List.mem_map.mpr ⟨y, hy, rfl⟩)
    simp [eqF] at this
  | some i =>
    obtain ⟨h1, h2, _⟩ := List.findIdx?_eq_some_iff_getElem.mp o
    refine k i ?_
    rw [List.getElem_map] at h2
    have h2 : (zs[i]'(by simpa using h1) == y) = true := h2
    rw [List.getElem?_eq_getElem (by simpa using h1)]
    exact congrArg some (by simpa using h2)
theorem add_loc {ps qs : List P} (h : m[j]? = some (.lst ps)) (l : ps.length + qs.length ≤ 100000) : gAdd (.loc j) (.v (.lst qs)) m = .ok (.v (.lst (ps ++ qs))) m := by
  have e : fCat (.loc j) (.v (.lst qs)) m = .ok (.v (.lst (ps ++ qs))) m := by
    unfold fCat
    rw [rdL_at h]
    exact if_pos l
  show O.or (fAdd (.loc j) (.v (.lst qs)) m) (O.or (fCatS (.loc j) (.v (.lst qs)) m) (fCat (.loc j) (.v (.lst qs)) m)) = _
  rw [e]
  rfl
theorem max_at {α : Type} (f : α → Int) : ∀ {l : List α}, l ≠ [] → ∃ a ∈ l, ∀ b ∈ l, f b ≤ f a
  | [a], _ => ⟨a, .head _, fun b m => by rw [List.mem_singleton.mp m]; exact Int.le_refl _⟩
  | a :: c :: r, _ => by
    obtain ⟨x, mx, hx⟩ := max_at f (l := c :: r) (by simp)
    by_cases h : f a ≤ f x
    · exact ⟨x, .tail _ mx, fun b m => (List.mem_cons.mp m).elim (fun e => e ▸ h) (hx b)⟩
    · exact ⟨a, .head _, fun b m => (List.mem_cons.mp m).elim (fun e => e ▸ Int.le_refl _) fun m => Int.le_trans (hx b m) (by omega)⟩
end
end Pu
set_option Elab.async false
set_option linter.all false
set_option maxRecDepth 100000
set_option maxHeartbeats 16000000
namespace Pu
open L2 PySem PySem.Spec PyProof.Rows E10
open He (ga ma)
local macro_rules | `(tactic| walk_at "pu wq1") => `(tactic| first | ((with_reducible apply wo_var); next => rfl) | with_reducible refine wo_c ?_ | with_reducible refine wo_op ?_ | with_reducible refine wo_call ?_ | with_reducible refine wa_cons ?_ | with_reducible refine wa_nil ?_ | with_reducible refine wo_eq add_ii ?_ | with_reducible refine wo_eq sub_ii ?_ | with_reducible refine wo_eq le_ii ?_ | with_reducible refine wo_eq lt_ii ?_ | with_reducible refine wo_eq gt_ii ?_ | with_reducible refine wo_eq eq_ii ?_ | with_reducible refine ws_seq ?_ | with_reducible refine ws_set ?_ | ((with_reducible apply st1); next => ((try simp only [List.set_cons_zero, List.set_cons_succ]); first | done | rfl)) | with_reducible refine ws_ret ?_ | with_reducible refine ws_drop ?_ | with_reducible refine ws_next ?_ | with_reducible refine ws_for ?_ | with_reducible refine wt_test ?_ | with_reducible refine isB ?_ | with_reducible refine isV ?_ | with_reducible refine isI ?_ | with_reducible refine bi_tt ?_ | with_reducible refine bi_ff ?_ | with_reducible refine bi_not ?_ | with_reducible refine bi_bneF ?_ | with_reducible refine bi_bneT ?_ | ((with_reducible refine bi_T ?_ ?_); next => assumption) | ((with_reducible refine bi_F ?_ ?_); next => assumption) | ((with_reducible refine bi_dT ?_ ?_); next => assumption) | ((with_reducible refine bi_dF ?_ ?_); next => assumption) | with_reducible refine wt_not ?_ | with_reducible refine wt_and ?_ | with_reducible refine wt_or ?_ | with_reducible refine wt_yes ?_ | with_reducible refine wo_andV ?_ | with_reducible refine wo_orV ?_ | with_reducible refine wo_notV ?_ | with_reducible refine wo_if ?_ | with_reducible refine wo_chain ?_ | with_reducible refine wo_seq ?_ | with_reducible refine wo_lstC ?_ | with_reducible refine isVs1 ?_ | with_reducible refine isVs0 ?_ | with_reducible refine isVsA ?_ | with_reducible refine isVsM ?_ | ((with_reducible refine few1 ?_ ?_); next => (first | decide | (simp only [List.length_map, List.length_append, List.length_cons, List.length_nil]; omega))) | with_reducible refine wo_fld ?_ | with_reducible refine wo_meth ?_ | with_reducible refine wo_prop ?_ | with_reducible refine isO ?_ | with_reducible refine wo_callO ?_ | with_reducible refine wo_mk ?_ | with_reducible refine wo_frz ?_ | with_reducible refine wo_frzv ?_ | with_reducible refine wo_drop ?_ | ((with_reducible apply wo_fldv); next => rfl) | ((with_reducible apply noF); next => rfl) | with_reducible refine isC1 ?_ | ((with_reducible refine leM ?_ ?_); next => (first | exact Nat.le_refl _ | exact pot_le (by assumption) (by assumption))) | ((with_reducible apply wo_isi (c := true)); (next => rfl); (next => decide); (next => decide)) | ((with_reducible apply wo_isi (c := false)); (next => rfl); (next => decide); (next => decide)) | ((with_reducible refine wo_isiO1 ?_ ?_); next => simp) | ((with_reducible refine wo_isiOb ?_ ?_ ?_); (next => simp); (next => simp)) | ((with_reducible apply wo_isibO); (next => rfl); (next => simp)) | ((with_reducible refine wo_eqO ?_ ?_); next => simp) | ((with_reducible refine wo_neO ?_ ?_); next => simp) | with_reducible refine wo_own2 ?_ | with_reducible refine wo_ownI ?_ | with_reducible refine wo_iown ?_ | with_reducible refine wo_ixO ?_ | with_reducible refine wo_inO ?_ | with_reducible refine wi_any ?_ | with_reducible refine wi_vals ?_ | with_reducible refine wi_items ?_ | with_reducible refine wi_rg1 ?_ | with_reducible refine wo_lc ?_ | with_reducible refine wo_dc ?_ | ((with_reducible apply wo_lock); next => rfl) | ((with_reducible apply ws_lock); next => rfl) | with_reducible refine ws_par ?_ | with_reducible refine is2 ?_ | with_reducible refine ws_par3 ?_ | with_reducible refine is3 ?_ | with_reducible refine ws_asg ?_ | with_reducible refine wo_un ?_ | with_reducible refine wo_eq neg_i ?_ | with_reducible refine wo_eq eq_bb ?_ | with_reducible refine wo_eq eq_ss ?_ | with_reducible refine wo_eq max_ii ?_ | with_reducible refine wo_eq min_ii ?_ | with_reducible refine lew_v ?_ | with_reducible refine wo_bm ?_ | with_reducible refine wo_sl ?_ | with_reducible refine wq_none ?_ | with_reducible refine wq_some ?_ | with_reducible refine wo_ok ?_ | with_reducible refine ws_nx ?_ | with_reducible refine wo_get2 ?_ | ((with_reducible refine wo_eq (mul_ii ?_) ?_); next => (first | exact .inl (by decide) | exact .inr (by decide))) | ((with_reducible refine wo_eq (mod_ii ?_) ?_); next => decide) | ((with_reducible refine wo_eq (div_ii ?_) ?_); next => decide) | ((with_reducible refine wo_eq (pow_ii ?_) ?_); next => decide))
local macro_rules | `(tactic| walk_at "pu wp1") => `(tactic| first | walk_at "pu wq1" | with_reducible refine ws_if ?_)
local macro_rules | `(tactic| walk_at "pu wp") => `(tactic| repeat walk_at "pu wp1")
local macro_rules | `(tactic| walk_at "pu wq") => `(tactic| repeat walk_at "pu wq1")
local macro_rules | `(tactic| walk_at "pu wdef") => `(tactic| (apply wo_def rfl; next => ((try simp only [List.map_cons, List.map_nil, List.replicate_succ, List.replicate_zero, List.cons_append, List.nil_append, List.append_nil, List.length_cons, List.length_nil, Nat.reduceAdd, Nat.reduceSub]); first | done | rfl)))
local macro_rules | `(tactic| walk_at "pu wdone") => `(tactic| exact ⟨rfl, by first | rfl | exact List.take_length⟩)
section
variable {Pg : Program} {w : World} {K : PySem.W.Frag} {r m : Μ} {Q : W → Μ → Prop} {X : XP} {ns : List Str}
theorem s_among {ps : List P} (hm : Pot r m) (ne : ps ≠ []) (l : ps.length ≤ 100000) (k : ∀ q m', q ∈ ps → Pot r m' → Q (.v q) m') : WO (D__law_among Pg w K [.loc 0, .v (.lst ps)] m) Q X := by
  have lp := List.length_pos_iff.mpr ne
  unfold D__law_among
  walk_at "pu wdef"
  repeat (first | walk_at "pu wp1" | with_reducible refine wo_eq (len_l) ?_)
  refine s_draw hm (by omega) (by omega) fun z m1 h0 h1 hm1 => ?_
  obtain ⟨i, rfl⟩ := Int.eq_ofNat_of_zero_le h0
  have lt : i < ps.length := by omega
  repeat (first | walk_at "pu wp1" | with_reducible refine wo_eq (ix_l (List.getElem?_eq_getElem lt)) ?_)
  exact k _ _ (List.getElem_mem lt) (hm.cut0 hm1)
def twelve : List Str := ["a", "ab", "b", "bus", "moments", "zzzzzzzz", "q", "rule", "abcdefgh", "none", "c", "ann"]
theorem twelve_ok : twelve.Nodup ∧ ∀ z ∈ twelve, Nm z := by
  have h : (twelve.all fun z => decide (1 ≤ z.length) && decide (z.length ≤ 8) && z.cps.toList.all fun c => decide (97 ≤ c) && decide (c ≤ 122)) = true := by decide +kernel
  refine ⟨by decide +kernel, fun z m => ?_⟩
  have := List.all_eq_true.mp h z m
  simp only [Bool.and_eq_true, List.all_eq_true, decide_eq_true_eq] at this
  exact ⟨this.1.1, this.1.2, this.2⟩
theorem s_names {n : Nat} (hm : Pot r m) (hn : n ≤ 12) (k : ∀ (zs : List Str) m', zs.length = n → zs.Nodup → (∀ z ∈ zs, Nm z) → Pot r m' → Q (.v (.lst (zs.map P.str))) m') : WO (D__law_names Pg w K [.loc 0, .v (.int (n : Int))] m) Q X := by
  unfold D__law_names
  walk_at "pu wdef"
  walk_at "pu wp"
  rw [hm.len]
  walk_at "pu wp"
  refine isRg (by omega) ?_
  have hm0 : Pot (r ++ [.lst (twelve.map P.str)]) (m ++ [.lst (twelve.map P.str)]) := hm.add
  refine wl_inv (fun j acc m => ∃ zs left : List Str, acc = zs.map P.str ∧ zs.length = j ∧ (zs ++ left).Perm twelve ∧ Pot (r ++ [.lst (left.map P.str)]) m) ⟨[], twelve, rfl, rfl, .refl _, hm0⟩ (fun j p acc m1 hp ⟨zs, left, e1, e2, e3, hm1⟩ => ?_) fun qs m1 ⟨zs, left, e1, e2, e3, hm1⟩ => ?_
  · obtain ⟨lt, rfl⟩ := rng_at hp
    have l12 : zs.length + left.length = 12 := by rw [← List.length_append]; exact e3.length_eq
    refine ⟨_, rfl, ?_⟩
    walk_at "pu wp"
    refine ⟨isTy_at hm1.last, ?_⟩
    repeat (first | walk_at "pu wp1" | with_reducible refine wo_eq (len_loc (rdL_at hm1.last)) ?_)
    rw [List.length_map]
    refine s_draw hm1 (by omega) (by omega) fun z m2 h0 h1 hm2 => ?_
    obtain ⟨i, rfl⟩ := Int.eq_ofNat_of_zero_le h0
    have lt2 : i < left.length := by omega
    walk_at "pu wp"
    refine wo_popAt hm2.last (by rw [List.length_map]; exact lt2) (by omega) ?_
    walk_at "pu wp"
    refine ⟨zs ++ [left[i]], left.eraseIdx i, by rw [e1, List.getElem_map, List.map_append]; rfl, by rw [List.length_append, e2]; rfl, ?_, ?_⟩
    · refine .trans ?_ e3
      rw [List.append_assoc]
      exact List.Perm.append_left _ (erase_perm left i lt2)
    · have := hm2.setl (d := .lst ((left.map P.str).eraseIdx i))
      rw [erase_map] at this ⊢
      exact this
  · subst e1
    rw [rng_len] at e2
    walk_at "pu wp"
    have nd := e3.nodup_iff.mpr twelve_ok.1
    exact k zs _ e2 (List.nodup_append.mp nd).1 (fun z m => twelve_ok.2 z (e3.mem_iff.mp (List.mem_append_left _ m))) (by rw [← hm.len]; exact hm.cut1 hm1)
theorem s_amongN (hm : Pot r m) (n : Ns ns) (k : ∀ z m', z ∈ ns → Pot r m' → Q (.v (.str z)) m') : WO (D__law_among Pg w K [.loc 0, .v (.lst (ns.map P.str))] m) Q X :=
  s_among hm (fun e => n.ne (List.map_eq_nil_iff.mp e)) (by rw [List.length_map]; have := n.le; omega) fun q m' hq hm' => by
    obtain ⟨z, hz, rfl⟩ := List.mem_map.mp hq
    exact k z m' hz hm'
abbrev prP (p : Str × Int) : P := .tup [.str p.1, .int p.2]
abbrev rowL (q : Str × Tb) : P := .tup [.str q.1, .lst (q.2.map prP)]
structure Rw3 (ns : List Str) (q : Str × Tb) : Prop where
  l : q.1 ∈ ns
  s : In8 ns q.2
  three : q.2.length ≤ 3
theorem s_row {y : Str} {v : Int} (hm : Pot r m) (n : Ns ns) (hy : y ∈ ns) (k : ∀ q m', Rw3 ns q → Pot r m' → Q (.v (rowL q)) m') : WO (D__law_row Pg w K [.loc 0, .v (.lst (ns.map P.str)), .v (.str y), .v (.int v)] m) Q X := by
  have l8 := n.le
  have l0 := List.length_pos_iff.mpr n.ne
  unfold D__law_row
  walk_at "pu wdef"
  walk_at "pu wp"
  refine s_amongN hm n fun l1 m1 hl1 hm1 => ?_
  walk_at "pu wp"
  refine s_amongN hm1 n fun l2 m2 hl2 hm2 => ?_
  walk_at "pu wp"
  refine s_among hm2 (by simp) (by simp) fun p m3 hp hm3 => ?_
  have el : ∃ l, p = .str l ∧ l ∈ ns := by
    simp only [List.mem_cons, List.not_mem_nil, or_false] at hp
    rcases hp with rfl | rfl | rfl
    · exact ⟨_, rfl, hy⟩
    · exact ⟨_, rfl, hl1⟩
    · exact ⟨_, rfl, hl2⟩
  obtain ⟨l, rfl, hl⟩ := el
  repeat (first | walk_at "pu wq1" | with_reducible refine wo_eq (list_c) ?_)
  simp only [List.length_append, List.length_cons, List.length_nil, hm3.len]
  walk_at "pu wq"
  have hm4 : Pot (r ++ [.lst (ns.map P.str), .lst (([] : Tb).map prP)]) (m3 ++ [.lst (ns.map P.str)] ++ [.lst []]) := hm3.add2
  refine ws_mid (fun γ m => ∃ (left : List Str) (sh : Tb), γ = [some (.loc 0), some (.v (.lst (ns.map P.str))), some (.v (.str y)), some (.v (.int v)), some (.v (.str l)), some (.loc (r.length + 1)), some (.loc (r.length + 2)), none] ∧ (keys sh ++ left).Perm ns ∧ sh.length ≤ 1 ∧ Pot (r ++ [.lst (left.map P.str), .lst (sh.map prP)]) m) ?_ fun γ m ⟨left, sh, eg, pm, ls, hm6⟩ => ?_
  · walk_at "pu wp"
    refine s_draw hm4 (by decide) (by decide) fun z m5 h0 h1 hm5 => ?_
    walk_at "pu wp"
    refine bi_by (fun c => ?_) fun c => ?_
    · walk_at "pu wp"
      refine ⟨isTy_at hm5.at1, ?_⟩
      walk_at "pu wp"
      refine ⟨isTy_at hm5.at0, ?_⟩
      walk_at "pu wp"
      refine ⟨isTy_at hm5.at0, ?_⟩
      walk_at "pu wp"
      refine wo_index hm5.at0 hy fun i hi => ?_
      have lti := (List.getElem?_eq_some_iff.mp hi).1
      walk_at "pu wp"
      refine wo_popAt hm5.at0 (by rw [List.length_map]; exact lti) (by omega) ?_
      have hm6 := hm5.set0 (e := .lst ((ns.map P.str).eraseIdx i))
      rw [List.getElem_map]
      walk_at "pu wp"
      refine s_draw hm6 (by decide) (by decide) fun u m7 b0 b1 hm7 => ?_
      repeat (first | walk_at "pu wp1" | with_reducible refine wo_eq (mul_ii (.inr (show (u - 3).natAbs < 2 ^ 64 by omega))) ?_)
      refine wo_append hm7.at1 (by simp) ?_
      have hm8 := hm7.set1 (e := .lst ((([] : Tb).map prP) ++ [prP (ns[i], v * (u - 3))]))
      refine ⟨ns.eraseIdx i, [(ns[i], v * (u - 3))], rfl, erase_perm ns i lti, Nat.le_refl _, ?_⟩
      rw [← erase_map]
      exact hm8
    · walk_at "pu wp"
      exact ⟨ns, [], rfl, .refl _, Nat.zero_le _, hm5⟩
  subst eg
  have ll : sh.length + left.length = ns.length := by rw [← len_keys, ← List.length_append]; exact pm.length_eq
  repeat (first | walk_at "pu wp1" | with_reducible refine wo_eq (len_loc (rdL_at hm6.at1)) ?_ | with_reducible refine wo_eq (len_loc (rdL_at hm6.at0)) ?_)
  rw [List.length_map, List.length_map]
  repeat (first | walk_at "pu wp1" | with_reducible refine wo_eq (min_l (l := [3, (left.length : Int) + (sh.length : Int)]) rfl (by simp)) ?_)
  have hmin : 0 < minL [3, (left.length : Int) + (sh.length : Int)] ∧ minL [3, (left.length : Int) + (sh.length : Int)] ≤ 3 ∧ minL [3, (left.length : Int) + (sh.length : Int)] ≤ ns.length := by
    have h1 : minL [3, (left.length : Int) + (sh.length : Int)] ≤ 3 := minL_le (by simp)
    have h2 : minL [3, (left.length : Int) + (sh.length : Int)] ≤ (left.length : Int) + (sh.length : Int) := minL_le (by simp)
    have h3 : minL [3, (left.length : Int) + (sh.length : Int)] ∈ [3, (left.length : Int) + (sh.length : Int)] := minL_mem (by simp)
    simp only [List.mem_cons, List.not_mem_nil, or_false] at h3
    omega
  refine s_draw hm6 hmin.1 (by omega) fun z m7 h0 h1 hm7 => ?_
  obtain ⟨d, rfl⟩ := Int.eq_ofNat_of_zero_le h0
  walk_at "pu wp"
  refine isRgL (1 - sh.length + d) (by omega) (by omega) ?_
  refine wf_inv (fun j γ m => ∃ (left sh' : _) (x : Option W), γ = [some (.loc 0), some (.v (.lst (ns.map P.str))), some (.v (.str y)), some (.v (.int v)), some (.v (.str l)), some (.loc (r.length + 1)), some (.loc (r.length + 2)), x] ∧ (keys sh' ++ left).Perm ns ∧ sh'.length = sh.length + j ∧ Pot (r ++ [.lst (left.map P.str), .lst (sh'.map prP)]) m) ⟨left, sh, _, rfl, pm, rfl, hm7⟩ (fun j p γ m hp ⟨left, sh', x, eg, pm, ls', hm8⟩ => ?_) fun γ m ⟨left, sh', x, eg, pm, ls', hm8⟩ => ?_
  · obtain ⟨lt, rfl⟩ := rng_at hp
    subst eg
    have ll : sh'.length + left.length = ns.length := by rw [← len_keys, ← List.length_append]; exact pm.length_eq
    refine ⟨_, rfl, ?_⟩
    walk_at "pu wp"
    refine ⟨isTy_at hm8.at1, ?_⟩
    walk_at "pu wp"
    refine ⟨isTy_at hm8.at0, ?_⟩
    repeat (first | walk_at "pu wp1" | with_reducible refine wo_eq (len_loc (rdL_at hm8.at0)) ?_)
    rw [List.length_map]
    refine s_draw hm8 (by omega) (by omega) fun z m9 a0 a1 hm9 => ?_
    obtain ⟨i, rfl⟩ := Int.eq_ofNat_of_zero_le a0
    have lty : i < left.length := by omega
    walk_at "pu wp"
    refine wo_popAt hm9.at0 (by rw [List.length_map]; exact lty) (by omega) ?_
    have hm10 := hm9.set0 (e := .lst ((left.map P.str).eraseIdx i))
    rw [List.getElem_map]
    walk_at "pu wp"
    refine s_draw hm10 (by decide) (by decide) fun u m11 b0 b1 hm11 => ?_
    repeat (first | walk_at "pu wp1" | with_reducible refine wo_eq (mul_ii (.inr (show (u - 3).natAbs < 2 ^ 64 by omega))) ?_)
    refine wo_append hm11.at1 (by rw [List.length_map]; omega) ?_
    have hm12 := hm11.set1 (e := .lst (sh'.map prP ++ [prP (left[i], v * (u - 3))]))
    refine ⟨left.eraseIdx i, sh' ++ [(left[i], v * (u - 3))], _, rfl, ?_, by simp [ls']; omega, ?_⟩
    · refine .trans ?_ pm
      rw [keys, List.map_append, List.append_assoc]
      exact List.Perm.append_left _ (erase_perm left i lty)
    · rw [List.map_append, ← erase_map]
      exact hm12
  · subst eg
    rw [rng_len] at ls'
    refine ws_fixL rfl hm8.at1 rfl ?_
    walk_at "pu wp"
    have nd : (keys sh').Nodup := (List.nodup_append.mp (pm.nodup_iff.mpr n.nd)).1
    exact k (l, sh') _ ⟨hl, ⟨⟨nd, fun z mz => pm.mem_iff.mp (List.mem_append_left _ mz)⟩, fun e => by have : sh' = [] := e; rw [this] at ls'; simp at ls'; omega⟩, by show sh'.length ≤ 3; omega⟩ (hm.cut (hm8.set1 (e := .dead)))
end
end Pu
set_option Elab.async false
set_option linter.all false
set_option maxRecDepth 100000
set_option maxHeartbeats 16000000
namespace Pu
open L2 PySem PySem.Spec PyProof.Rows E10
open He (ga ma)
local macro_rules | `(tactic| walk_at "pu wq1") => `(tactic| first | ((with_reducible apply wo_var); next => rfl) | with_reducible refine wo_c ?_ | with_reducible refine wo_op ?_ | with_reducible refine wo_call ?_ | with_reducible refine wa_cons ?_ | with_reducible refine wa_nil ?_ | with_reducible refine wo_eq add_ii ?_ | with_reducible refine wo_eq sub_ii ?_ | with_reducible refine wo_eq le_ii ?_ | with_reducible refine wo_eq lt_ii ?_ | with_reducible refine wo_eq gt_ii ?_ | with_reducible refine wo_eq eq_ii ?_ | with_reducible refine ws_seq ?_ | with_reducible refine ws_set ?_ | ((with_reducible apply st1); next => ((try simp only [List.set_cons_zero, List.set_cons_succ]); first | done | rfl)) | with_reducible refine ws_ret ?_ | with_reducible refine ws_drop ?_ | with_reducible refine ws_next ?_ | with_reducible refine ws_for ?_ | with_reducible refine wt_test ?_ | with_reducible refine isB ?_ | with_reducible refine isV ?_ | with_reducible refine isI ?_ | with_reducible refine bi_tt ?_ | with_reducible refine bi_ff ?_ | with_reducible refine bi_not ?_ | with_reducible refine bi_bneF ?_ | with_reducible refine bi_bneT ?_ | ((with_reducible refine bi_T ?_ ?_); next => assumption) | ((with_reducible refine bi_F ?_ ?_); next => assumption) | ((with_reducible refine bi_dT ?_ ?_); next => assumption) | ((with_reducible refine bi_dF ?_ ?_); next => assumption) | with_reducible refine wt_not ?_ | with_reducible refine wt_and ?_ | with_reducible refine wt_or ?_ | with_reducible refine wt_yes ?_ | with_reducible refine wo_andV ?_ | with_reducible refine wo_orV ?_ | with_reducible refine wo_notV ?_ | with_reducible refine wo_if ?_ | with_reducible refine wo_chain ?_ | with_reducible refine wo_seq ?_ | with_reducible refine wo_lstC ?_ | with_reducible refine isVs1 ?_ | with_reducible refine isVs0 ?_ | with_reducible refine isVsA ?_ | with_reducible refine isVsM ?_ | ((with_reducible refine few1 ?_ ?_); next => (first | decide | (simp only [List.length_map, List.length_append, List.length_cons, List.length_nil]; omega))) | with_reducible refine wo_fld ?_ | with_reducible refine wo_meth ?_ | with_reducible refine wo_prop ?_ | with_reducible refine isO ?_ | with_reducible refine wo_callO ?_ | with_reducible refine wo_mk ?_ | with_reducible refine wo_frz ?_ | with_reducible refine wo_frzv ?_ | with_reducible refine wo_drop ?_ | ((with_reducible apply wo_fldv); next => rfl) | ((with_reducible apply noF); next => rfl) | with_reducible refine isC1 ?_ | ((with_reducible refine leM ?_ ?_); next => (first | exact Nat.le_refl _ | exact pot_le (by assumption) (by assumption))) | ((with_reducible apply wo_isi (c := true)); (next => rfl); (next => decide); (next => decide)) | ((with_reducible apply wo_isi (c := false)); (next => rfl); (next => decide); (next => decide)) | ((with_reducible refine wo_isiO1 ?_ ?_); next => simp) | ((with_reducible refine wo_isiOb ?_ ?_ ?_); (next => simp); (next => simp)) | ((with_reducible apply wo_isibO); (next => rfl); (next => simp)) | ((with_reducible refine wo_eqO ?_ ?_); next => simp) | ((with_reducible refine wo_neO ?_ ?_); next => simp) | with_reducible refine wo_own2 ?_ | with_reducible refine wo_ownI ?_ | with_reducible refine wo_iown ?_ | with_reducible refine wo_ixO ?_ | with_reducible refine wo_inO ?_ | with_reducible refine wi_any ?_ | with_reducible refine wi_vals ?_ | with_reducible refine wi_items ?_ | with_reducible refine wi_rg1 ?_ | with_reducible refine wo_lc ?_ | with_reducible refine wo_dc ?_ | ((with_reducible apply wo_lock); next => rfl) | ((with_reducible apply ws_lock); next => rfl) | with_reducible refine ws_par ?_ | with_reducible refine is2 ?_ | with_reducible refine ws_par3 ?_ | with_reducible refine is3 ?_ | with_reducible refine ws_asg ?_ | with_reducible refine wo_un ?_ | with_reducible refine wo_eq neg_i ?_ | with_reducible refine wo_eq eq_bb ?_ | with_reducible refine wo_eq eq_ss ?_ | with_reducible refine wo_eq max_ii ?_ | with_reducible refine wo_eq min_ii ?_ | with_reducible refine lew_v ?_ | with_reducible refine wo_bm ?_ | with_reducible refine wo_sl ?_ | with_reducible refine wq_none ?_ | with_reducible refine wq_some ?_ | with_reducible refine wo_ok ?_ | with_reducible refine ws_nx ?_ | with_reducible refine wo_get2 ?_ | ((with_reducible refine wo_eq (mul_ii ?_) ?_); next => (first | exact .inl (by decide) | exact .inr (by decide))) | ((with_reducible refine wo_eq (mod_ii ?_) ?_); next => decide) | ((with_reducible refine wo_eq (div_ii ?_) ?_); next => decide) | ((with_reducible refine wo_eq (pow_ii ?_) ?_); next => decide))
local macro_rules | `(tactic| walk_at "pu wp1") => `(tactic| first | walk_at "pu wq1" | with_reducible refine ws_if ?_)
local macro_rules | `(tactic| walk_at "pu wp") => `(tactic| repeat walk_at "pu wp1")
local macro_rules | `(tactic| walk_at "pu wq") => `(tactic| repeat walk_at "pu wq1")
local macro_rules | `(tactic| walk_at "pu wdef") => `(tactic| (apply wo_def rfl; next => ((try simp only [List.map_cons, List.map_nil, List.replicate_succ, List.replicate_zero, List.cons_append, List.nil_append, List.append_nil, List.length_cons, List.length_nil, Nat.reduceAdd, Nat.reduceSub]); first | done | rfl)))
local macro_rules | `(tactic| walk_at "pu wdone") => `(tactic| exact ⟨rfl, by first | rfl | exact List.take_length⟩)
abbrev ordR (r : Str × Tb) : Str × Tb := (r.1, ord r.2)
abbrev dueP (q : Str × Tb) : P := .tup [.str q.1, dctP q.2]
theorem book_ok {ns : List Str} {rs : List (Str × Tb)} (n : Ns ns) (h : ∀ r ∈ rs, Rw3 ns r) (l : rs.length ≤ 100) : Bo (srt ns) (rs.map ordR) := by
  refine ⟨⟨srt_nodup n.nd, fun z m => n.nm z (srt_mem.mp m), by rw [srt_len]; exact n.le, fun e => n.ne (List.eq_nil_of_length_eq_zero (by rw [← srt_len, e]; rfl))⟩, srt_srt ns, fun r m => ?_, fun r m => ?_, by rw [List.length_map]; exact l⟩
  · obtain ⟨r, hr, rfl⟩ := List.mem_map.mp m
    exact ⟨n.nm _ (h r hr).l, ((h r hr).s.ok n).so⟩
  · obtain ⟨r, hr, rfl⟩ := List.mem_map.mp m
    exact ⟨srt_mem.mpr (h r hr).l, fun z hz => srt_mem.mpr ((h r hr).s.s.sub z (mem_ord.mp hz))⟩
def keepsB (due : List (Str × Tb)) (t : Tb) : Bool := due.all fun q => decide (low q.2 t ≤ val t q.1)
theorem keeps_hd {due : List (Str × Tb)} {t : Tb} (ne : ∀ q ∈ due, q.2 ≠ []) : keepsB due t = true ↔ ∀ q ∈ due, Hd t q := by
  unfold keepsB
  rw [List.all_eq_true]
  exact forall_congr' fun r => forall_congr' fun m => by rw [decide_eq_true_eq, low_kb (ne r m)]; rfl
theorem hd_ord {q : Str × Tb} {t : Tb} (nd : (keys q.2).Nodup) : Hd t (ordR q) ↔ Hd t q := by
  constructor
  · rintro ⟨z, m, l⟩
    have m2 := mem_ord.mp m
    exact ⟨z, m2, by rw [val_ord nd] at l; exact l⟩
  · rintro ⟨z, m, l⟩
    exact ⟨z, mem_ord.mpr m, by rw [val_ord nd]; exact l⟩
/-- times worth trying for y -/
structure Tr (ds : List (Str × Tb)) (y : Str) (t : Tb) (cs : List Int) : Prop where
  a : ∀ q ∈ ds, q.1 = y → ∀ p ∈ q.2, p.1 ≠ y → val t p.1 + p.2 ∈ cs
  b : ∃ c ∈ cs, ∀ q ∈ ds, q.1 ≠ y → ∀ p ∈ q.2, p.1 = y → c + p.2 ≤ val t q.1
section
variable {ns : List Str} {ds : List (Str × Tb)} {y : Str} {t : Tb} {cs : List Int}
theorem hd_put {q : Str × Tb} {c : Int} (nt : (keys t).Nodup) : val (putT t y c) y = c ∧ ∀ z, z ≠ y → val t z = val (putT t y c) z := ⟨by rw [val_put nt, if_pos rfl], fun z ne => by rw [val_put nt, if_neg ne]⟩
/-- what is left by forgetting is kept just if some of these times makes all rules kept -/
theorem forg_iff (n : Ns ns) (h : ∀ r ∈ ds, Rw3 ns r) (l : ds.length ≤ 100) (nt : (keys t).Nodup) (tr : Tr ds y t cs) (F : List (Str × Tb)) (hF : F = forgR (srt ns) (ds.map ordR) y) (hne : ∀ q ∈ F, q.2 ≠ []) (hoth : othersL (srt ns) y ≠ []) : keepsB F t = cs.any fun c => keepsB ds (putT t y c) := by
  have hb := book_ok n h l
  have dne : ∀ q ∈ ds, q.2 ≠ [] := fun q m => (h q m).s.ne
  refine Bool.eq_iff_iff.mpr ?_
  rw [keeps_hd hne, List.any_eq_true]
  have back : ∀ {x : Tb}, (∀ q ∈ ds, Hd x q) ↔ ∀ r ∈ ds.map ordR, Hd x r := fun {x} => by
    constructor
    · intro g r m
      obtain ⟨q, mq, rfl⟩ := List.mem_map.mp m
      exact (hd_ord (h q mq).s.s.nd).mpr (g q mq)
    · intro g q mq
      exact (hd_ord (h q mq).s.s.nd).mp (g _ (List.mem_map.mpr ⟨q, mq, rfl⟩))
  constructor
  · intro hk
    have nv : neverAny (ds.map ordR) y = false := by
      refine Bool.eq_false_iff.mpr fun c => ?_
      rw [hF] at hk
      unfold forgR at hk
      rw [if_pos c] at hk
      cases e : othersL (srt ns) y with
      | nil => exact hoth e
      | cons o r =>
        rw [e] at hk
        exact never_not (x := t) hb (hk _ List.mem_cons_self)
    have eF : F = (ds.map ordR).flatMap (putInto y (holdsL (ds.map ordR) y)) := by
      rw [hF]
      unfold forgR
      rw [if_neg (by rw [nv]; simp)]
    rw [eF] at hk
    have fin : ∀ c ∈ cs, (∀ g ∈ holdsL (ds.map ordR) y, Kb g t c) → ((∃ g ∈ holdsL (ds.map ordR) y, ∀ d, Kb g t d → c ≤ d) ∨ ∀ r ∈ ds.map ordR, isRp y r = true → c + val r.2 y ≤ val t r.1) → ∃ x, x ∈ cs ∧ keepsB ds (putT t y x) = true := fun c mc g1 g2 => by
      obtain ⟨p1, p2⟩ := hd_put (q := ("", [])) (y := y) (c := c) nt
      refine ⟨c, mc, (keeps_hd dne).mpr (back.mpr (forg_to (x := t) (x' := putT t y c) hb nv (fun z _ ne => p2 z ne) hk ?_ ?_))⟩
      · rw [p1]; exact g1
      · rw [p1]; exact g2
    by_cases e : holdsL (ds.map ordR) y = []
    · obtain ⟨c, mc, hc⟩ := tr.b
      refine fin c mc (fun g m => by rw [e] at m; cases m) (.inr fun r mr c2 => ?_)
      obtain ⟨q, mq, rfl⟩ := List.mem_map.mp mr
      unfold isRp at c2
      rw [Bool.and_eq_true] at c2
      have ne : q.1 ≠ y := by simpa using c2.1
      have m1 := mem_ord.mp (of_decide_eq_true c2.2)
      obtain ⟨p, mp, ep⟩ := List.mem_map.mp m1
      have := hc q mq ne p mp ep
      rw [show (ordR q).2 = ord q.2 from rfl, val_ord (h q mq).s.s.nd, ← ep, val_at (h q mq).s.s.nd (z := p.1) (v := p.2) mp]
      exact this
    · obtain ⟨g, mg, hg⟩ := max_at (fun g => low g t) e
      obtain ⟨so, sub⟩ := holds_so hb nv g mg
      refine fin (low g t) ?_ (fun g' m' => (low_kb (holds_so hb nv g' m').1.ne).mp (hg g' m')) (.inl ⟨g, mg, fun d k => (low_kb so.ne).mpr k⟩)
      obtain ⟨r, mr, er, ar, rfl⟩ := mem_holds.mp mg
      obtain ⟨q, mq, rfl⟩ := List.mem_map.mp mr
      obtain ⟨z, mz, ez⟩ := low_at (t := heldT (ordR q)) (x := t) so.ne
      obtain ⟨m1, m2⟩ := mem_held.mp mz
      rw [ez]
      have ev : val (heldT (ordR q)) z = val (ord q.2) z := by
        unfold heldT at mz ⊢
        split at mz
        · rename_i mm
          rw [if_pos mm]
          exact val_lout (hb.ru _ mr).so.nd mz
        · rename_i mm
          rw [if_neg mm]
      rw [ev, val_ord (h q mq).s.s.nd]
      obtain ⟨p, mp, ep⟩ := List.mem_map.mp (mem_ord.mp m1)
      have er : q.1 = y := er
      have := tr.a q mq er p mp (by rw [ep, ← er]; exact m2)
      rw [← ep, val_at (h q mq).s.s.nd (z := p.1) (v := p.2) mp]
      exact this
  · rintro ⟨c, mc, hc⟩
    obtain ⟨p1, p2⟩ := hd_put (q := ("", [])) (y := y) (c := c) nt
    obtain ⟨nv, hh⟩ := forg_of (x := t) (x' := putT t y c) hb (fun z _ ne => p2 z ne) (back.mp ((keeps_hd dne).mp hc))
    rw [hF]
    unfold forgR
    rw [if_neg (by rw [nv]; simp)]
    exact hh
theorem keeps_shf {due : List (Str × Tb)} {t t' : Tb} {n : Int} (ne : ∀ q ∈ due, q.2 ≠ []) (sub : ∀ q ∈ due, q.1 ∈ keys t ∧ ∀ z ∈ keys q.2, z ∈ keys t) (e : ∀ z ∈ keys t, val t' z = val t z - n) : keepsB due t' = keepsB due t := by
  refine Bool.eq_iff_iff.mpr ?_
  rw [keeps_hd ne, keeps_hd ne]
  refine forall_congr' fun q => forall_congr' fun m => ?_
  obtain ⟨s1, s2⟩ := sub q m
  unfold Hd Kb
  constructor
  · rintro ⟨z, mz, l⟩
    rw [e z (s2 z mz), e _ s1] at l
    exact ⟨z, mz, by omega⟩
  · rintro ⟨z, mz, l⟩
    refine ⟨z, mz, ?_⟩
    rw [e z (s2 z mz), e _ s1]
    omega
end
section
variable {Pg : Program} {w : World} {K : PySem.W.Frag} {r m μ : Μ} {Q : W → Μ → Prop} {X : XP} {ns : List Str} {rs : List (Str × Tb)} {t : Tb}
theorem dict_row {t : Tb} {c : Kind} (nd : (keys t).Nodup) : gDict c [.v (.lst (t.map prP))] m = mkD c (t.map rowP) m := by
  have := dict_pairsC (μ := m) (c := c) (fun p : Str × Int => p.1) (fun p => p.2) (l := t) nd
  rw [show (t.map fun a => (a.1, a.2)) = t from List.map_id t] at this
  exact this
theorem dict_rowV {t : Tb} (nd : (keys t).Nodup) : gDict .val [.v (.lst (t.map prP))] m = .ok (.v (dctP t)) m := dict_row (c := .val) nd
theorem e_law_book (n : Ns ns) (h : ∀ r ∈ rs, Rw3 ns r) (l : rs.length ≤ 100) : D__law_book Pg w K [.v (.lst (ns.map P.str)), .v (.lst (rs.map rowL))] m = .ok (.v (boP K (srt ns) (rs.map ordR))) m := eq_wo (by
  unfold D__law_book
  walk_at "pu wdef"
  repeat (first | walk_at "pu wp1" | with_reducible refine wo_eq (it_l (show (rs.map rowL).length ≤ 100000 by rw [List.length_map]; omega)) ?_)
  refine wl_all rowL (fun r => ruP K (ordR r)) (l := rs) (fun r mr => ?_) ?_
  · refine ⟨_, rfl, ?_⟩
    have hr := h r mr
    repeat (first | walk_at "pu wp1" | with_reducible refine wo_eq (dict_rowV hr.s.s.nd) ?_ | with_reducible refine wo_eq (e_Earliest (hr.s.ok n)) ?_ | with_reducible refine wo_eq (e_Rule (n.nm _ hr.l) (hr.s.ok n).so) ?_)
    exact ⟨rfl, rfl⟩
  rw [show (rs.map fun r => ruP K (ordR r)) = (rs.map ordR).map (ruP K) by rw [List.map_map]; rfl]
  walk_at "pu wp"
  refine wo_eq (e_Book n (fun r mr => ?_) (by rw [List.length_map]; exact l)) ?_
  · obtain ⟨q, hq, rfl⟩ := List.mem_map.mp mr
    exact ⟨by rw [show (ordR q).2.length = q.2.length from len_ord q.2]; exact ((h q hq).s.ok n).le, (h q hq).l, fun z hz => (h q hq).s.s.sub z (mem_ord.mp hz)⟩
  walk_at "pu wp"
  walk_at "pu wdone")
theorem e_law_told (l : rs.length ≤ 100) : D__law_told Pg w K [.v (boP K ns rs)] μ = .ok (.v (.lst (rs.map dueP))) μ := eq_wo (by
  unfold D__law_told
  walk_at "pu wdef"
  repeat (first | walk_at "pu wp1" | with_reducible refine wo_eq (e_Book_rules) ?_ | with_reducible refine wo_eq (it_l (show (rs.map (ruP K)).length ≤ 100000 by rw [List.length_map]; omega)) ?_)
  refine wl_all (ruP K) dueP (l := rs) (fun r mr => ?_) ?_
  · refine ⟨_, rfl, ?_⟩
    repeat (first | walk_at "pu wp1" | with_reducible refine wo_eq (e_Rule_moment) ?_ | with_reducible refine wo_eq (e_Rule_earliest) ?_ | with_reducible refine wo_eq (e_Earliest_shifts) ?_)
    exact ⟨rfl, rfl⟩
  · walk_at "pu wp"
    walk_at "pu wdone")
theorem e_law_keeps {w1 : W} (l : rs.length ≤ 100) (ne : ∀ q ∈ rs, q.2 ≠ [] ∧ q.2.length ≤ 8) (hx : ∀ z ∈ keys t, gIx w1 (.v (.str z)) μ = .ok (.v (.int (val t z))) μ) (sub : ∀ q ∈ rs, q.1 ∈ keys t ∧ ∀ z ∈ keys q.2, z ∈ keys t) : D__law_keeps Pg w K [.v (.lst (rs.map dueP)), w1] μ = .ok (.v (.bl (keepsB rs t))) μ := eq_wo (by
  unfold D__law_keeps
  walk_at "pu wdef"
  repeat (first | walk_at "pu wp1" | with_reducible refine wo_eq (it_l (show (rs.map dueP).length ≤ 100000 by rw [List.length_map]; omega)) ?_)
  refine wf_inv (fun j γ m => m = μ ∧ (∀ q ∈ rs.take j, low q.2 t ≤ val t q.1) ∧ ∃ x y z, γ = [some (W.v (.lst (rs.map dueP))), some w1, x, y, z]) ⟨rfl, fun q hq => (by cases hq), _, _, _, rfl⟩ (fun j p γ m hp ⟨em, pre, x, y, z, eg⟩ => ?_) fun γ m ⟨em, pre, x, y, z, eg⟩ => ?_
  · subst em
    subst eg
    rw [List.getElem?_map] at hp
    obtain ⟨q, hq, rfl⟩ := Option.map_eq_some_iff.mp hp
    have mq := List.mem_of_getElem? hq
    have lt := (List.getElem?_eq_some_iff.mp hq).1
    obtain ⟨s1, s2⟩ := sub q mq
    obtain ⟨n1, n2⟩ := ne q mq
    refine ⟨_, rfl, ?_⟩
    repeat (first | walk_at "pu wp1" | with_reducible refine wo_eq (hx _ s1) ?_ | with_reducible refine wo_eq (it_d (show q.2.length ≤ 100000 by omega)) ?_)
    refine wl_all P.str (fun z => P.int (val t z + val q.2 z)) (l := keys q.2) (fun z mz => ?_) ?_
    · refine ⟨_, rfl, ?_⟩
      repeat (first | walk_at "pu wp1" | with_reducible refine wo_eq (hx _ (s2 z mz)) ?_ | with_reducible refine wo_eq (dget_ok (val_of mz)) ?_)
      exact ⟨rfl, rfl⟩
    walk_at "pu wp"
    refine wo_eq (min_l (ints_map (fun z => val t z + val q.2 z) (keys q.2)) fun e => keys_ne n1 (List.map_eq_nil_iff.mp e)) ?_
    walk_at "pu wp"
    rw [show minL ((keys q.2).map fun z => val t z + val q.2 z) = low q.2 t from rfl]
    refine bi_if (fun c => ?_) fun c => ?_
    · walk_at "pu wp"
      refine ⟨?_, List.take_length⟩
      have : keepsB rs t = false := List.all_eq_false.mpr ⟨q, mq, by rw [decide_eq_true_eq]; omega⟩
      rw [this]
    · walk_at "pu wp"
      refine ⟨rfl, fun p hp => ?_, _, _, _, rfl⟩
      rw [List.take_succ_eq_append_getElem lt] at hp
      rcases List.mem_append.mp hp with m | m
      · exact pre p m
      · rw [List.mem_singleton.mp m]
        have : rs[j] = q := by
          have := List.getElem?_eq_getElem lt
          rw [this] at hq
          exact Option.some.inj hq
        rw [this]
        omega
  · subst em
    subst eg
    walk_at "pu wp"
    refine ⟨?_, List.take_length⟩
    have : keepsB rs t = true := List.all_eq_true.mpr fun q m => decide_eq_true (pre q (by rw [List.length_map, List.take_length]; exact m))
    rw [this])
end
end Pu
set_option Elab.async false
set_option linter.all false
set_option maxRecDepth 100000
set_option maxHeartbeats 16000000
namespace Pu
open L2 PySem PySem.Spec PyProof.Rows E10
open He (ga ma)
local macro_rules | `(tactic| walk_at "pu wq1") => `(tactic| first | ((with_reducible apply wo_var); next => rfl) | with_reducible refine wo_c ?_ | with_reducible refine wo_op ?_ | with_reducible refine wo_call ?_ | with_reducible refine wa_cons ?_ | with_reducible refine wa_nil ?_ | with_reducible refine wo_eq add_ii ?_ | with_reducible refine wo_eq sub_ii ?_ | with_reducible refine wo_eq le_ii ?_ | with_reducible refine wo_eq lt_ii ?_ | with_reducible refine wo_eq gt_ii ?_ | with_reducible refine wo_eq eq_ii ?_ | with_reducible refine ws_seq ?_ | with_reducible refine ws_set ?_ | ((with_reducible apply st1); next => ((try simp only [List.set_cons_zero, List.set_cons_succ]); first | done | rfl)) | with_reducible refine ws_ret ?_ | with_reducible refine ws_drop ?_ | with_reducible refine ws_next ?_ | with_reducible refine ws_for ?_ | with_reducible refine wt_test ?_ | with_reducible refine isB ?_ | with_reducible refine isV ?_ | with_reducible refine isI ?_ | with_reducible refine bi_tt ?_ | with_reducible refine bi_ff ?_ | with_reducible refine bi_not ?_ | with_reducible refine bi_bneF ?_ | with_reducible refine bi_bneT ?_ | ((with_reducible refine bi_T ?_ ?_); next => assumption) | ((with_reducible refine bi_F ?_ ?_); next => assumption) | ((with_reducible refine bi_dT ?_ ?_); next => assumption) | ((with_reducible refine bi_dF ?_ ?_); next => assumption) | with_reducible refine wt_not ?_ | with_reducible refine wt_and ?_ | with_reducible refine wt_or ?_ | with_reducible refine wt_yes ?_ | with_reducible refine wo_andV ?_ | with_reducible refine wo_orV ?_ | with_reducible refine wo_notV ?_ | with_reducible refine wo_if ?_ | with_reducible refine wo_chain ?_ | with_reducible refine wo_seq ?_ | with_reducible refine wo_lstC ?_ | with_reducible refine isVs1 ?_ | with_reducible refine isVs0 ?_ | with_reducible refine isVsA ?_ | with_reducible refine isVsM ?_ | ((with_reducible refine few1 ?_ ?_); next => (first | decide | (simp only [List.length_map, List.length_append, List.length_cons, List.length_nil]; omega))) | with_reducible refine wo_fld ?_ | with_reducible refine wo_meth ?_ | with_reducible refine wo_prop ?_ | with_reducible refine isO ?_ | with_reducible refine wo_callO ?_ | with_reducible refine wo_mk ?_ | with_reducible refine wo_frz ?_ | with_reducible refine wo_frzv ?_ | with_reducible refine wo_drop ?_ | ((with_reducible apply wo_fldv); next => rfl) | ((with_reducible apply noF); next => rfl) | with_reducible refine isC1 ?_ | ((with_reducible refine leM ?_ ?_); next => (first | exact Nat.le_refl _ | exact pot_le (by assumption) (by assumption))) | ((with_reducible apply wo_isi (c := true)); (next => rfl); (next => decide); (next => decide)) | ((with_reducible apply wo_isi (c := false)); (next => rfl); (next => decide); (next => decide)) | ((with_reducible refine wo_isiO1 ?_ ?_); next => simp) | ((with_reducible refine wo_isiOb ?_ ?_ ?_); (next => simp); (next => simp)) | ((with_reducible apply wo_isibO); (next => rfl); (next => simp)) | ((with_reducible refine wo_eqO ?_ ?_); next => simp) | ((with_reducible refine wo_neO ?_ ?_); next => simp) | with_reducible refine wo_own2 ?_ | with_reducible refine wo_ownI ?_ | with_reducible refine wo_iown ?_ | with_reducible refine wo_ixO ?_ | with_reducible refine wo_inO ?_ | with_reducible refine wi_any ?_ | with_reducible refine wi_vals ?_ | with_reducible refine wi_items ?_ | with_reducible refine wi_rg1 ?_ | with_reducible refine wo_lc ?_ | with_reducible refine wo_dc ?_ | ((with_reducible apply wo_lock); next => rfl) | ((with_reducible apply ws_lock); next => rfl) | with_reducible refine ws_par ?_ | with_reducible refine is2 ?_ | with_reducible refine ws_par3 ?_ | with_reducible refine is3 ?_ | with_reducible refine ws_asg ?_ | with_reducible refine wo_un ?_ | with_reducible refine wo_eq neg_i ?_ | with_reducible refine wo_eq eq_bb ?_ | with_reducible refine wo_eq eq_ss ?_ | with_reducible refine wo_eq max_ii ?_ | with_reducible refine wo_eq min_ii ?_ | with_reducible refine lew_v ?_ | with_reducible refine wo_bm ?_ | with_reducible refine wo_sl ?_ | with_reducible refine wq_none ?_ | with_reducible refine wq_some ?_ | with_reducible refine wo_ok ?_ | with_reducible refine ws_nx ?_ | with_reducible refine wo_get2 ?_ | ((with_reducible refine wo_eq (mul_ii ?_) ?_); next => (first | exact .inl (by decide) | exact .inr (by decide))) | ((with_reducible refine wo_eq (mod_ii ?_) ?_); next => decide) | ((with_reducible refine wo_eq (div_ii ?_) ?_); next => decide) | ((with_reducible refine wo_eq (pow_ii ?_) ?_); next => decide))
local macro_rules | `(tactic| walk_at "pu wp1") => `(tactic| first | walk_at "pu wq1" | with_reducible refine ws_if ?_)
local macro_rules | `(tactic| walk_at "pu wp") => `(tactic| repeat walk_at "pu wp1")
local macro_rules | `(tactic| walk_at "pu wq") => `(tactic| repeat walk_at "pu wq1")
local macro_rules | `(tactic| walk_at "pu wdef") => `(tactic| (apply wo_def rfl; next => ((try simp only [List.map_cons, List.map_nil, List.replicate_succ, List.replicate_zero, List.cons_append, List.nil_append, List.append_nil, List.length_cons, List.length_nil, Nat.reduceAdd, Nat.reduceSub]); first | done | rfl)))
local macro_rules | `(tactic| walk_at "pu wdone") => `(tactic| exact ⟨rfl, by first | rfl | exact List.take_length⟩)
section
variable {Pg : Program} {w : World} {K : PySem.W.Frag} {r m μ : Μ} {Q : W → Μ → Prop} {X : XP} {ns : List Str} {rs ds : List (Str × Tb)} {t : Tb} {y : Str}
/-- what is found among the rows ahead -/
structure Fo (ds : List (Str × Tb)) (y : Str) (t : Tb) (cs : List Int) : Prop where
  a : ∀ q ∈ ds, q.1 = y → ∀ p ∈ q.2, p.1 ≠ y → val t p.1 + p.2 ∈ cs
  b : ∀ q ∈ ds, q.1 ≠ y → ∀ p ∈ q.2, p.1 = y → val t q.1 - p.2 ∈ cs
theorem ints_id (cs : List Int) : intsP (cs.map P.int) = some cs := by
  have := ints_map (fun i : Int => i) cs
  rw [List.map_id'] at this
  exact this
theorem s_tried (l : ds.length ≤ 100) (h : ∀ q ∈ ds, q.2.length ≤ 3) (hk : ∀ q ∈ ds, (q.1 ≠ y → q.1 ∈ keys t) ∧ ∀ p ∈ q.2, p.1 ≠ y → p.1 ∈ keys t) (k : ∀ cs, cs.length ≤ 1000 → Tr ds y t cs → Q (.v (.lst (cs.map P.int))) μ) : WO (D__law_tried Pg w K [.v (.lst (ds.map rowL)), .v (.str y), .v (dctP t)] μ) Q X := by
  unfold D__law_tried
  walk_at "pu wdef"
  repeat (first | walk_at "pu wp1" | with_reducible refine wo_eq (it_l (show (ds.map rowL).length ≤ 100000 by rw [List.length_map]; omega)) ?_)
  refine wf_inv (fun j γ m => ∃ (cs : List Int) (x4 x5 x6 x7 : Option W), m = μ ++ [.lst (cs.map P.int)] ∧ γ = [some (W.v (.lst (ds.map rowL))), some (.v (.str y)), some (.v (dctP t)), some (.loc μ.length), x4, x5, x6, x7] ∧ cs.length ≤ 3 * j ∧ Fo (ds.take j) y t cs) ⟨[], _, _, _, _, rfl, rfl, Nat.le_refl _, ⟨fun q m => (by cases m), fun q m => (by cases m)⟩⟩ (fun j p γ m hp ⟨cs, x4, x5, x6, x7, em, eg, lc, fo⟩ => ?_) fun γ m ⟨cs, x4, x5, x6, x7, em, eg, lc, fo⟩ => ?_
  · subst em
    subst eg
    rw [List.getElem?_map] at hp
    obtain ⟨q, hq, rfl⟩ := Option.map_eq_some_iff.mp hp
    have mq := List.mem_of_getElem? hq
    have lt := (List.getElem?_eq_some_iff.mp hq).1
    have eq : ds[j] = q := by
      have := List.getElem?_eq_getElem lt
      rw [this] at hq
      exact Option.some.inj hq
    have l3 := h q mq
    obtain ⟨k1, k2⟩ := hk q mq
    refine ⟨_, rfl, ?_⟩
    repeat (first | walk_at "pu wp1" | with_reducible refine wo_eq (it_l (show (q.2.map prP).length ≤ 100000 by rw [List.length_map]; omega)) ?_)
    refine wf_inv (fun i γ m => ∃ (cs' : List Int) (x6 x7 : Option W), m = μ ++ [.lst (cs'.map P.int)] ∧ γ = [some (W.v (.lst (ds.map rowL))), some (.v (.str y)), some (.v (dctP t)), some (.loc μ.length), some (.v (.str q.1)), some (.v (.lst (q.2.map prP))), x6, x7] ∧ cs'.length ≤ 3 * j + i ∧ (∀ c ∈ cs, c ∈ cs') ∧ Fo [(q.1, q.2.take i)] y t cs') ⟨cs, _, _, rfl, rfl, lc, fun c m => m, ⟨fun q m => ?_, fun q m => ?_⟩⟩ (fun i p γ m hp ⟨cs', x6, x7, em, eg, lc', up, fo'⟩ => ?_) fun γ m ⟨cs', x6, x7, em, eg, lc', up, fo'⟩ => ?_
    · rw [List.mem_singleton.mp m]
      intro _ p mp
      cases mp
    · rw [List.mem_singleton.mp m]
      intro _ p mp
      cases mp
    · subst em
      subst eg
      rw [List.getElem?_map] at hp
      obtain ⟨p, hp2, rfl⟩ := Option.map_eq_some_iff.mp hp
      have mp := List.mem_of_getElem? hp2
      have lt2 := (List.getElem?_eq_some_iff.mp hp2).1
      have ep : q.2[i] = p := by
        have := List.getElem?_eq_getElem lt2
        rw [this] at hp2
        exact Option.some.inj hp2
      have tk : q.2.take (i + 1) = q.2.take i ++ [p] := by rw [List.take_succ_eq_append_getElem lt2, ep]
      have lcs : cs'.length < 100000 := by omega
      refine ⟨_, rfl, ?_⟩
      have done1 : ∀ c : Int, (q.1 = y → p.1 ≠ y → val t p.1 + p.2 = c) → (q.1 ≠ y → p.1 = y → val t q.1 - p.2 = c) → Fo [(q.1, q.2.take (i + 1))] y t (cs' ++ [c]) := fun c c1 c2 => ⟨fun q' m' e p' mp' n' => by
          rw [List.mem_singleton.mp m'] at e mp'
          rw [tk] at mp'
          rcases List.mem_append.mp mp' with mp' | mp'
          · exact List.mem_append_left _ (fo'.a _ List.mem_cons_self e p' mp' n')
          · rw [List.mem_singleton.mp mp'] at n' ⊢
            rw [c1 e n']
            exact List.mem_append_right _ List.mem_cons_self, fun q' m' e p' mp' n' => by
          rw [List.mem_singleton.mp m'] at e mp' ⊢
          rw [tk] at mp'
          rcases List.mem_append.mp mp' with mp' | mp'
          · exact List.mem_append_left _ (fo'.b _ List.mem_cons_self e p' mp' n')
          · rw [List.mem_singleton.mp mp'] at n' ⊢
            rw [c2 e n']
            exact List.mem_append_right _ List.mem_cons_self⟩
      have done0 : (q.1 = y → p.1 = y) → (q.1 ≠ y → p.1 ≠ y) → Fo [(q.1, q.2.take (i + 1))] y t cs' := fun c1 c2 => ⟨fun q' m' e p' mp' n' => by
          rw [List.mem_singleton.mp m'] at e mp'
          rw [tk] at mp'
          rcases List.mem_append.mp mp' with mp' | mp'
          · exact fo'.a _ List.mem_cons_self e p' mp' n'
          · rw [List.mem_singleton.mp mp'] at n'
            exact absurd (c1 e) n', fun q' m' e p' mp' n' => by
          rw [List.mem_singleton.mp m'] at e mp' ⊢
          rw [tk] at mp'
          rcases List.mem_append.mp mp' with mp' | mp'
          · exact fo'.b _ List.mem_cons_self e p' mp' n'
          · rw [List.mem_singleton.mp mp'] at n'
            exact absurd n' (c2 e)⟩
      have app : ∀ c : Int, (μ ++ [PC.lst (cs'.map P.int)]).set μ.length (.lst (cs'.map P.int ++ [.int c])) = μ ++ [.lst ((cs' ++ [c]).map P.int)] := fun c => by rw [last_set, List.map_append]; rfl
      have lenS : ∀ c : Int, (cs' ++ [c]).length ≤ 3 * j + (i + 1) := fun c => by rw [List.length_append]; show cs'.length + 1 ≤ _; omega
      by_cases e : q.1 = y
      · by_cases f : p.1 = y
        · walk_at "pu wp"
          refine bi_T (by simp [e]) ?_
          walk_at "pu wp"
          refine bi_T (by simp [f]) ?_
          walk_at "pu wp"
          refine bi_T (by simp [f]) ?_
          walk_at "pu wp"
          refine bi_T (by simp [e]) ?_
          walk_at "pu wp"
          exact ⟨cs', _, _, rfl, rfl, by omega, up, done0 (fun _ => f) fun z => absurd e z⟩
        · walk_at "pu wp"
          refine bi_T (by simp [e]) ?_
          walk_at "pu wp"
          refine bi_F (by simp [f]) ?_
          walk_at "pu wp"
          refine ⟨isTy_at last_at, ?_⟩
          repeat (first | walk_at "pu wp1" | with_reducible refine wo_eq (dget_ok (val_of (k2 p mp f))) ?_)
          refine wo_append last_at (by rw [List.length_map]; exact lcs) ?_
          rw [app]
          exact ⟨cs' ++ [val t p.1 + p.2], _, _, rfl, rfl, lenS _, fun c m => List.mem_append_left _ (up c m), done1 _ (fun _ _ => rfl) fun z => absurd e z⟩
      · by_cases f : p.1 = y
        · walk_at "pu wp"
          refine bi_F (by simp [e]) ?_
          walk_at "pu wp"
          refine bi_T (by simp [f]) ?_
          walk_at "pu wp"
          refine bi_F (by simp [e]) ?_
          walk_at "pu wp"
          refine ⟨isTy_at last_at, ?_⟩
          repeat (first | walk_at "pu wp1" | with_reducible refine wo_eq (dget_ok (val_of (k1 e))) ?_)
          refine wo_append last_at (by rw [List.length_map]; exact lcs) ?_
          rw [app]
          exact ⟨cs' ++ [val t q.1 - p.2], _, _, rfl, rfl, lenS _, fun c m => List.mem_append_left _ (up c m), done1 _ (fun z => absurd z e) fun _ _ => rfl⟩
        · walk_at "pu wp"
          refine bi_F (by simp [e]) ?_
          walk_at "pu wp"
          refine bi_F (by simp [f]) ?_
          walk_at "pu wp"
          exact ⟨cs', _, _, rfl, rfl, by omega, up, done0 (fun z => absurd z e) fun _ => f⟩
    · subst em
      subst eg
      rw [List.length_map, List.take_length] at fo'
      rw [List.length_map] at lc'
      refine ⟨cs', _, _, _, _, rfl, rfl, by omega, ⟨fun q' m' e p mp np => ?_, fun q' m' e p mp np => ?_⟩⟩
      · rw [List.take_succ_eq_append_getElem lt, eq] at m'
        rcases List.mem_append.mp m' with m' | m'
        · exact up _ (fo.a q' m' e p mp np)
        · rw [List.mem_singleton.mp m'] at e mp
          exact fo'.a _ List.mem_cons_self e p mp np
      · rw [List.take_succ_eq_append_getElem lt, eq] at m'
        rcases List.mem_append.mp m' with m' | m'
        · exact up _ (fo.b q' m' e p mp np)
        · rw [List.mem_singleton.mp m'] at e mp ⊢
          exact fo'.b _ List.mem_cons_self e p mp np
  · subst em
    subst eg
    rw [List.length_map] at lc
    rw [List.length_map, List.take_length] at fo
    have l1 : (cs.map P.int).length + [P.int 0].length ≤ 100000 := by rw [List.length_map]; show cs.length + 1 ≤ _; omega
    repeat (first | walk_at "pu wp1" | with_reducible refine wo_eq (add_loc (qs := [P.int 0]) last_at l1) ?_)
    have e0 : cs.map P.int ++ [P.int 0] = (cs ++ [0]).map P.int := by rw [List.map_append]; rfl
    rw [e0]
    refine wo_eq (min_l (ints_id (cs ++ [0])) (by simp)) ?_
    walk_at "pu wp"
    refine wo_eq (add_loc (ps := cs.map P.int) (qs := [P.int (minL (cs ++ [0]) - 1)]) last_at (by rw [List.length_map]; show cs.length + 1 ≤ _; omega)) ?_
    have e1 : cs.map P.int ++ [P.int (minL (cs ++ [0]) - 1)] = (cs ++ [minL (cs ++ [0]) - 1]).map P.int := by rw [List.map_append]; rfl
    rw [e1]
    refine lew_v ?_
    rw [List.take_left]
    refine k _ (by rw [List.length_append]; show cs.length + 1 ≤ _; omega) ⟨fun q m e p mp np => List.mem_append_left _ (fo.a q m e p mp np), minL (cs ++ [0]) - 1, List.mem_append_right _ List.mem_cons_self, fun q m e p mp np => ?_⟩
    have := minL_le (List.mem_append_left [(0 : Int)] (fo.b q m e p mp np))
    omega
theorem s_can (n : Ns ns) (h : ∀ q ∈ ds, Rw3 ns q) (l : ds.length ≤ 100) (nt : (keys t).Nodup) (lt8 : t.length ≤ 8) (hk : ∀ z ∈ ns, z ≠ y → z ∈ keys t) (k : ∀ cs, Tr ds y t cs → Q (.v (.bl (cs.any fun c => keepsB ds (putT t y c)))) μ) : WO (D__law_can_be_completed Pg w K [.v (.lst (ds.map rowL)), .v (.str y), .v (dctP t)] μ) Q X := by
  unfold D__law_can_be_completed
  walk_at "pu wdef"
  repeat (first | walk_at "pu wp1" | with_reducible refine wo_eq (it_l (show (ds.map rowL).length ≤ 100000 by rw [List.length_map]; omega)) ?_)
  refine wl_all rowL dueP (l := ds) (fun q mq => ?_) ?_
  · refine ⟨_, rfl, ?_⟩
    repeat (first | walk_at "pu wp1" | with_reducible refine wo_eq (dict_rowV (h q mq).s.s.nd) ?_)
    exact ⟨rfl, rfl⟩
  walk_at "pu wp"
  refine s_tried l (fun q m => (h q m).three) (fun q m => ⟨fun ne => hk _ (h q m).l ne, fun p mp ne => hk _ ((h q m).s.s.sub p.1 (List.mem_map.mpr ⟨p, mp, rfl⟩)) ne⟩) fun cs lc tr => ?_
  have kq := k cs tr
  repeat (first | walk_at "pu wp1" | with_reducible refine wo_eq (it_l (show (cs.map P.int).length ≤ 100000 by rw [List.length_map]; omega)) ?_)
  refine wf_inv (fun j γ m => ∃ (x4 x5 : Option W), m = μ ∧ γ = [some (W.v (.lst (ds.map rowL))), some (.v (.str y)), some (.v (dctP t)), some (.v (.lst (ds.map dueP))), x4, x5, none, none] ∧ ∀ c ∈ cs.take j, keepsB ds (putT t y c) = false) ⟨_, _, rfl, rfl, fun c m => (by cases m)⟩ (fun j p γ m hp ⟨x4, x5, em, eg, pre⟩ => ?_) fun γ m ⟨x4, x5, em, eg, pre⟩ => ?_
  · subst em
    subst eg
    rw [List.getElem?_map] at hp
    obtain ⟨c, hc, rfl⟩ := Option.map_eq_some_iff.mp hp
    have mc := List.mem_of_getElem? hc
    have lt := (List.getElem?_eq_some_iff.mp hc).1
    have ec : cs[j] = c := by
      have := List.getElem?_eq_getElem lt
      rw [this] at hc
      exact Option.some.inj hc
    refine ⟨_, rfl, ?_⟩
    refine ws_trim ?_
    walk_at "pu wp"
    refine wo_eq (dict_t (c := .cell) (t := t)) ?_
    walk_at "pu wp"
    apply ws_dput
    walk_at "pu wp"
    refine ⟨_, _, _, wD_at last_at, rfl, by rw [List.length_map]; omega, ?_⟩
    rw [put_rows, last_set]
    have lput : ∀ z ∈ keys (putT t y c), gIx (.loc m.length) (.v (.str z)) (m ++ [.dct ((putT t y c).map rowP)]) = .ok (.v (.int (val (putT t y c) z))) (m ++ [.dct ((putT t y c).map rowP)]) := fun z mz => dget_loc last_at mz
    walk_at "pu wp"
    refine wo_eq (e_law_keeps (rs := ds) (t := putT t y c) l (fun q m => ⟨(h q m).s.ne, by have := (h q m).three; omega⟩) lput fun q mq => ?_) ?_
    · have go : ∀ z ∈ ns, z ∈ keys (putT t y c) := fun z mz => mem_put.mpr (if e : z = y then .inl e else .inr (hk z mz e))
      exact ⟨go _ (h q mq).l, fun z mz => go z ((h q mq).s.s.sub z mz)⟩
    walk_at "pu wp"
    refine bi_by (fun c1 => ?_) fun c1 => ?_
    · walk_at "pu wp"
      rw [List.take_left]
      have : (cs.any fun c => keepsB ds (putT t y c)) = true := List.any_eq_true.mpr ⟨c, mc, c1⟩
      rw [this] at kq
      exact kq
    · walk_at "pu wp"
      refine ⟨_, _, List.take_left, rfl, fun d md => ?_⟩
      rw [List.take_succ_eq_append_getElem lt, ec] at md
      rcases List.mem_append.mp md with md | md
      · exact pre d md
      · rw [List.mem_singleton.mp md]
        exact c1
  · subst em
    subst eg
    rw [List.length_map, List.take_length] at pre
    walk_at "pu wp"
    rw [List.take_length]
    have : (cs.any fun c => keepsB ds (putT t y c)) = false := List.any_eq_false.mpr fun c m => by rw [pre c m]; simp
    rw [this] at kq
    exact kq
theorem s_times {v : Int} {os : List Str} (hm : Pot r m) (n : Ns os) (h : ∀ q ∈ rs, q.2 ≠ [] ∧ q.2.length ≤ 8 ∧ q.1 ∈ os ∧ ∀ z ∈ keys q.2, z ∈ os) (l : rs.length ≤ 100) (k : ∀ t m', keys t = os → Pot r m' → Q (.v (dctP t)) m') : WO (D__law_times Pg w K [.loc 0, .v (.lst (os.map P.str)), .v (.lst (rs.map dueP)), .v (.int v)] m) Q X := by
  have l8 := n.le
  unfold D__law_times
  walk_at "pu wdef"
  walk_at "pu wp"
  refine s_draw hm (by decide) (by decide) fun z m1 a0 a1 hm1 => ?_
  obtain ⟨i, rfl⟩ := Int.eq_ofNat_of_zero_le a0
  have ex : ∃ (u : Int), [P.int 0, P.int 0, P.int (10 ^ Int.toNat 49)][i]? = some (.int u) := by
    match i, a1 with
    | 0, _ => exact ⟨_, rfl⟩
    | 1, _ => exact ⟨_, rfl⟩
    | 2, _ => exact ⟨_, rfl⟩
  obtain ⟨far, ev⟩ := ex
  repeat (first | walk_at "pu wp1" | with_reducible refine wo_eq (ix_l ev) ?_)
  repeat (first | walk_at "pu wp1" | with_reducible refine wo_eq (it_strs (show os.length ≤ 100000 by omega)) ?_)
  refine wl_each (Pot r) P.str (fun z (v : Int) => P.tup [.str z, .int v]) (fun _ _ => True) (fun a b e => P.str.inj e) hm1 (fun z hz m2 hm2 => ?_) fun t m2 kt _ hm2 => ?_
  · refine ⟨_, rfl, ?_⟩
    walk_at "pu wp"
    refine s_draw hm2 (by decide) (by decide) fun a m3 a0 a1 hm3 => ?_
    repeat (first | walk_at "pu wp1" | with_reducible refine wo_eq (mul_ii (.inr (show (a - 4).natAbs < 2 ^ 64 by omega))) ?_)
    refine s_draw hm3 (by decide) (by decide) fun b m4 b0 b1 hm4 => ?_
    walk_at "pu wp"
    exact ⟨_, rfl, trivial, hm4⟩
  walk_at "pu wp"
  refine wo_eq (dict_pairsC (fun p : Str × Int => p.1) (fun p => p.2) (l := t) (by rw [kt]; exact n.nd)) ?_
  rw [hm2.len]
  walk_at "pu wp"
  rw [show (t.map fun a => (a.1, a.2)) = t from List.map_id t]
  have kt' : keys t = os := kt
  have hm3 : Pot (r ++ [.dct (t.map rowP)]) (m2 ++ [.dct (t.map rowP)]) := hm2.add
  refine s_draw hm3 (by decide) (by decide) fun b m4 b0 b1 hm4 => ?_
  obtain ⟨i, rfl⟩ := Int.eq_ofNat_of_zero_le b0
  walk_at "pu wp"
  refine isRgL (3 * i) (by omega) (by omega) ?_
  refine wf_inv (fun j γ m => ∃ (t : Tb) (x6 x7 x8 x9 : Option W), γ = [some (.loc 0), some (.v (.lst (os.map P.str))), some (.v (.lst (rs.map dueP))), some (.v (.int v)), some (.v (.int far)), some (.loc (r.length + 1)), x6, x7, x8, x9, none] ∧ keys t = os ∧ Pot (r ++ [.dct (t.map rowP)]) m) ⟨t, _, _, _, _, rfl, kt', hm4⟩ (fun j p γ m hp ⟨t, x6, x7, x8, x9, eg, kt, hm5⟩ => ?_) fun γ m ⟨t, x6, x7, x8, x9, eg, kt, hm5⟩ => ?_
  · subst eg
    refine ⟨_, rfl, ?_⟩
    repeat (first | walk_at "pu wp1" | with_reducible refine wo_eq (it_l (show (rs.map dueP).length ≤ 100000 by rw [List.length_map]; omega)) ?_)
    refine wf_inv (fun j γ m => ∃ (t : Tb) (x6 x7 x8 x9 : Option W), γ = [some (.loc 0), some (.v (.lst (os.map P.str))), some (.v (.lst (rs.map dueP))), some (.v (.int v)), some (.v (.int far)), some (.loc (r.length + 1)), x6, x7, x8, x9, none] ∧ keys t = os ∧ Pot (r ++ [.dct (t.map rowP)]) m) ⟨t, _, _, _, _, rfl, kt, hm5⟩ (fun j p γ m hp ⟨t, x6, x7, x8, x9, eg, kt, hm6⟩ => ?_) fun γ m z => z
    subst eg
    rw [List.getElem?_map] at hp
    obtain ⟨q, hq, rfl⟩ := Option.map_eq_some_iff.mp hp
    obtain ⟨q1, q2, q3, q4⟩ := h q (List.mem_of_getElem? hq)
    refine ⟨_, rfl, ?_⟩
    repeat (first | walk_at "pu wp1" | with_reducible refine wo_eq (sort_t (show q.2.length < 64 by omega)) ?_)
    refine s_among hm6 (fun e => keys_ne q1 (List.eq_nil_of_length_eq_zero (by rw [← srt_len, ← List.length_map (f := P.str), e]; rfl))) (by rw [List.length_map, srt_len, len_keys]; omega) fun u m7 hu hm7 => ?_
    obtain ⟨z, hz, rfl⟩ := List.mem_map.mp hu
    have hz := srt_mem.mp hz
    walk_at "pu wp"
    apply ws_dput
    have hyk : z ∈ keys t := by rw [kt]; exact q4 z hz
    have hlk : q.1 ∈ keys t := by rw [kt]; exact q3
    repeat (first | walk_at "pu wp1" | with_reducible refine wo_eq (dget_loc hm7.last hlk) ?_ | with_reducible refine wo_eq (dget_loc hm7.last hyk) ?_ | with_reducible refine wo_eq (dget_ok (val_of hz)) ?_)
    repeat (first | walk_at "pu wp1" | with_reducible refine wo_eq (max_l (l := [val t q.1, val t z + val q.2 z]) rfl (by simp)) ?_)
    generalize maxL [val t q.1, val t z + val q.2 z] = mx
    refine ⟨_, _, _, wD_at hm7.last, rfl, by rw [List.length_map, ← len_keys, kt]; omega, ?_⟩
    rw [put_rows]
    exact ⟨putT t q.1 mx, _, _, _, _, rfl, by rw [put_keys, if_pos hlk]; exact kt, hm7.setl⟩
  · subst eg
    refine ws_fixL rfl hm5.last rfl ?_
    walk_at "pu wp"
    exact k t _ kt (hm.cut1 (hm5.setl (d := .dead)))
end
end Pu
set_option Elab.async false
set_option linter.all false
set_option maxRecDepth 100000
set_option maxHeartbeats 16000000
namespace Pu
open L2 PySem PySem.Spec PyProof.Rows E10
open He (ga ma)
local macro_rules | `(tactic| walk_at "pu wq1") => `(tactic| first | ((with_reducible apply wo_var); next => rfl) | with_reducible refine wo_c ?_ | with_reducible refine wo_op ?_ | with_reducible refine wo_call ?_ | with_reducible refine wa_cons ?_ | with_reducible refine wa_nil ?_ | with_reducible refine wo_eq add_ii ?_ | with_reducible refine wo_eq sub_ii ?_ | with_reducible refine wo_eq le_ii ?_ | with_reducible refine wo_eq lt_ii ?_ | with_reducible refine wo_eq gt_ii ?_ | with_reducible refine wo_eq eq_ii ?_ | with_reducible refine ws_seq ?_ | with_reducible refine ws_set ?_ | ((with_reducible apply st1); next => ((try simp only [List.set_cons_zero, List.set_cons_succ]); first | done | rfl)) | with_reducible refine ws_ret ?_ | with_reducible refine ws_drop ?_ | with_reducible refine ws_next ?_ | with_reducible refine ws_for ?_ | with_reducible refine wt_test ?_ | with_reducible refine isB ?_ | with_reducible refine isV ?_ | with_reducible refine isI ?_ | with_reducible refine bi_tt ?_ | with_reducible refine bi_ff ?_ | with_reducible refine bi_not ?_ | with_reducible refine bi_bneF ?_ | with_reducible refine bi_bneT ?_ | ((with_reducible refine bi_T ?_ ?_); next => assumption) | ((with_reducible refine bi_F ?_ ?_); next => assumption) | ((with_reducible refine bi_dT ?_ ?_); next => assumption) | ((with_reducible refine bi_dF ?_ ?_); next => assumption) | with_reducible refine wt_not ?_ | with_reducible refine wt_and ?_ | with_reducible refine wt_or ?_ | with_reducible refine wt_yes ?_ | with_reducible refine wo_andV ?_ | with_reducible refine wo_orV ?_ | with_reducible refine wo_notV ?_ | with_reducible refine wo_if ?_ | with_reducible refine wo_chain ?_ | with_reducible refine wo_seq ?_ | with_reducible refine wo_lstC ?_ | with_reducible refine isVs1 ?_ | with_reducible refine isVs0 ?_ | with_reducible refine isVsA ?_ | with_reducible refine isVsM ?_ | ((with_reducible refine few1 ?_ ?_); next => (first | decide | (simp only [List.length_map, List.length_append, List.length_cons, List.length_nil]; omega))) | with_reducible refine wo_fld ?_ | with_reducible refine wo_meth ?_ | with_reducible refine wo_prop ?_ | with_reducible refine isO ?_ | with_reducible refine wo_callO ?_ | with_reducible refine wo_mk ?_ | with_reducible refine wo_frz ?_ | with_reducible refine wo_frzv ?_ | with_reducible refine wo_drop ?_ | ((with_reducible apply wo_fldv); next => rfl) | ((with_reducible apply noF); next => rfl) | with_reducible refine isC1 ?_ | ((with_reducible refine leM ?_ ?_); next => (first | exact Nat.le_refl _ | exact pot_le (by assumption) (by assumption))) | ((with_reducible apply wo_isi (c := true)); (next => rfl); (next => decide); (next => decide)) | ((with_reducible apply wo_isi (c := false)); (next => rfl); (next => decide); (next => decide)) | ((with_reducible refine wo_isiO1 ?_ ?_); next => simp) | ((with_reducible refine wo_isiOb ?_ ?_ ?_); (next => simp); (next => simp)) | ((with_reducible apply wo_isibO); (next => rfl); (next => simp)) | ((with_reducible refine wo_eqO ?_ ?_); next => simp) | ((with_reducible refine wo_neO ?_ ?_); next => simp) | with_reducible refine wo_own2 ?_ | with_reducible refine wo_ownI ?_ | with_reducible refine wo_iown ?_ | with_reducible refine wo_ixO ?_ | with_reducible refine wo_inO ?_ | with_reducible refine wi_any ?_ | with_reducible refine wi_vals ?_ | with_reducible refine wi_items ?_ | with_reducible refine wi_rg1 ?_ | with_reducible refine wo_lc ?_ | with_reducible refine wo_dc ?_ | ((with_reducible apply wo_lock); next => rfl) | ((with_reducible apply ws_lock); next => rfl) | with_reducible refine ws_par ?_ | with_reducible refine is2 ?_ | with_reducible refine ws_par3 ?_ | with_reducible refine is3 ?_ | with_reducible refine ws_asg ?_ | with_reducible refine wo_un ?_ | with_reducible refine wo_eq neg_i ?_ | with_reducible refine wo_eq eq_bb ?_ | with_reducible refine wo_eq eq_ss ?_ | with_reducible refine wo_eq max_ii ?_ | with_reducible refine wo_eq min_ii ?_ | with_reducible refine lew_v ?_ | with_reducible refine wo_bm ?_ | with_reducible refine wo_sl ?_ | with_reducible refine wq_none ?_ | with_reducible refine wq_some ?_ | with_reducible refine wo_ok ?_ | with_reducible refine ws_nx ?_ | with_reducible refine wo_get2 ?_ | ((with_reducible refine wo_eq (mul_ii ?_) ?_); next => (first | exact .inl (by decide) | exact .inr (by decide))) | ((with_reducible refine wo_eq (mod_ii ?_) ?_); next => decide) | ((with_reducible refine wo_eq (div_ii ?_) ?_); next => decide) | ((with_reducible refine wo_eq (pow_ii ?_) ?_); next => decide))
local macro_rules | `(tactic| walk_at "pu wp1") => `(tactic| first | walk_at "pu wq1" | with_reducible refine ws_if ?_)
local macro_rules | `(tactic| walk_at "pu wp") => `(tactic| repeat walk_at "pu wp1")
local macro_rules | `(tactic| walk_at "pu wq") => `(tactic| repeat walk_at "pu wq1")
local macro_rules | `(tactic| walk_at "pu wdef") => `(tactic| (apply wo_def rfl; next => ((try simp only [List.map_cons, List.map_nil, List.replicate_succ, List.replicate_zero, List.cons_append, List.nil_append, List.append_nil, List.length_cons, List.length_nil, Nat.reduceAdd, Nat.reduceSub]); first | done | rfl)))
local macro_rules | `(tactic| walk_at "pu wdone") => `(tactic| exact ⟨rfl, by first | rfl | exact List.take_length⟩)
theorem others_eq {y : Str} {os : List Str} (nd : (y :: os).Nodup) : othersL (srt (y :: os)) y = srt os := by
  have s1 : Srt (othersL (srt (y :: os)) y) := srt_filter (srt_srt _) _
  have nd2 := List.nodup_cons.mp nd
  have p : (othersL (srt (y :: os)) y).Perm os := (List.perm_ext_iff_of_nodup ((srt_nodup nd).filter _) nd2.2).mpr fun z => by
    show z ∈ othersL (srt (y :: os)) y ↔ _
    rw [mem_others, srt_mem, List.mem_cons]
    constructor
    · rintro ⟨e | m, ne⟩
      · exact absurd e ne
      · exact m
    · intro m
      exact ⟨.inr m, fun e => nd2.1 (e ▸ m)⟩
  have := srt_eq p
  rwa [show srt (othersL (srt (y :: os)) y) = othersL (srt (y :: os)) y from s1] at this
section
variable {Pg : Program} {w : World} {K : PySem.W.Frag} {m : Μ}
theorem s_right (hm : Pot [] m) : WO (D__law_right Pg w K [.loc 0] m) (fun w _ => w = .v (.bl true)) X0 := by
  unfold D__law_right
  walk_at "pu wdef"
  walk_at "pu wp"
  refine s_draw hm (by decide) (by decide) fun z m1 h0 h1 hm1 => ?_
  obtain ⟨i, rfl⟩ := Int.eq_ofNat_of_zero_le h0
  walk_at "pu wp"
  rw [show (2 + (i : Int)) = ((i + 2 : Nat) : Int) by omega]
  refine s_names hm1 (by omega) fun ns m2 ln nd nm hm2 => ?_
  have l8 : ns.length ≤ 8 := by omega
  have l2 : 2 ≤ ns.length := by omega
  clear ln
  match ns, l2 with
  | y :: os, l2 =>
  have n : Ns (y :: os) := ⟨nd, nm, l8, by simp⟩
  have los : os.length ≤ 7 := by have : os.length + 1 ≤ 8 := l8; omega
  have neo : os ≠ [] := fun e => by rw [e] at l2; have : 2 ≤ 1 := l2; omega
  have nd2 := List.nodup_cons.mp nd
  have no : Ns os := ⟨nd2.2, fun z m => nm z (List.mem_cons_of_mem _ m), by omega, neo⟩
  have nex : ∃ z ∈ srt (y :: os), z ≠ y := by
    obtain ⟨o, r, e⟩ := List.exists_cons_of_ne_nil neo
    have mo : o ∈ os := by rw [e]; exact List.mem_cons_self
    exact ⟨o, srt_mem.mpr (List.mem_cons_of_mem _ mo), fun e => nd2.1 (e ▸ mo)⟩
  have e0 : ∀ m, gIx (.v (.lst ((y :: os).map P.str))) (.v (.int 0)) m = .ok (.v (.str y)) m := fun _ => ix_0
  repeat (first | walk_at "pu wp1" | with_reducible refine wo_eq (e0 _) ?_)
  refine s_draw hm2 (by decide) (by decide) fun z m3 a0 a1 hm3 => ?_
  obtain ⟨j, rfl⟩ := Int.eq_ofNat_of_zero_le a0
  have ex : ∃ (v : Int), [P.int 1, P.int 1, P.int (10 ^ Int.toNat 45)][j]? = some (.int v) := by
    match j, a1 with
    | 0, _ => exact ⟨_, rfl⟩
    | 1, _ => exact ⟨_, rfl⟩
    | 2, _ => exact ⟨_, rfl⟩
  obtain ⟨v, ev⟩ := ex
  repeat (first | walk_at "pu wp1" | with_reducible refine wo_eq (ix_l ev) ?_)
  refine s_draw hm3 (by decide) (by decide) fun z m4 b0 b1 hm4 => ?_
  obtain ⟨u, rfl⟩ := Int.eq_ofNat_of_zero_le b0
  walk_at "pu wp"
  refine isRgL (u + 1) (by omega) (by omega) ?_
  refine wl_rng (Pot []) rowL (Rw3 (y :: os)) hm4 (fun i hi m hm => ⟨_, rfl, ?_⟩) fun ds m5 lr hr hm5 => ?_
  · walk_at "pu wp"
    exact s_row hm n List.mem_cons_self fun q m' hq hm' => ⟨q, rfl, hq, hm'⟩
  have l7 : ds.length ≤ 7 := by omega
  have l100 : ds.length ≤ 100 := by omega
  have bo := book_ok n hr l100
  have my : y ∈ srt (y :: os) := srt_mem.mpr List.mem_cons_self
  have room : nStay (ds.map ordR) y + nRep (ds.map ordR) y * (holdsL (ds.map ordR) y).length ≤ 100 := by
    have a1 : nStay (ds.map ordR) y ≤ 7 := Nat.le_trans (List.length_filter_le ..) (by rw [List.length_map]; exact l7)
    have a2 : nRep (ds.map ordR) y ≤ 7 := Nat.le_trans (List.length_filter_le ..) (by rw [List.length_map]; exact l7)
    have a3 : (holdsL (ds.map ordR) y).length ≤ 7 := Nat.le_trans holds_len (Nat.le_trans (List.length_filter_le ..) (by rw [List.length_map]; exact l7))
    have := Nat.mul_le_mul a2 a3
    omega
  have fb := forg_bo bo nex room
  have eo := others_eq nd
  have fle := fb.le
  repeat (first | walk_at "pu wp1" | with_reducible refine wo_eq (e_law_book n hr l100) ?_ | with_reducible refine wo_eq (e_forget bo my nex room) ?_ | with_reducible refine wo_eq (e_law_told fb.le) ?_ | with_reducible refine wo_eq (e_Book_moments) ?_ | with_reducible refine wo_eq (sl_l) ?_)
  have c1 : cutP (y :: os) (some (1 : Int)) none = os := cut_from (zs := y :: os) (k := 1) (by simp)
  have cutp : cutP ((y :: os).map P.str) (some 1) none = os.map P.str := by
    rw [drop_rep, c1]
  have cut : ∀ m, gSlX (.v (.lst ((y :: os).map P.str))) (some 1) none m = .ok (.v (.lst (os.map P.str))) m := fun m => by
    rw [sl_l, cutp]
  rw [cutp]
  repeat (first | walk_at "pu wp1" | with_reducible refine wo_eq (sort_l (zs := os) (by omega)) ?_ | with_reducible refine wo_eq (tup_l) ?_)
  rw [eo]
  repeat (first | walk_at "pu wp1" | with_reducible refine wo_eq (eq_tups (zs := srt os) (ys := srt os) (fun z m => no.nm z (srt_mem.mp m)) (fun z m => no.nm z (srt_mem.mp m))) ?_)
  refine bi_T (by simp) ?_
  walk_at "pu wp"
  generalize hF : forgR (srt (y :: os)) (ds.map ordR) y = F at fb fle
  rw [eo] at fb
  have hne : ∀ q ∈ F, q.2 ≠ [] := fun q mq => (fb.ru q mq).so.ne
  have hF2 : ∀ q ∈ F, q.2 ≠ [] ∧ q.2.length ≤ 8 ∧ q.1 ∈ os ∧ ∀ z ∈ keys q.2, z ∈ os := fun q mq => ⟨hne q mq, (fb.ru q mq).so.le, srt_mem.mp (fb.sub q mq).1, fun z mz => srt_mem.mp ((fb.sub q mq).2 z mz)⟩
  have hoth : othersL (srt (y :: os)) y ≠ [] := by
    rw [eo]
    intro e
    have := srt_len os
    rw [e] at this
    exact neo (List.eq_nil_of_length_eq_zero this.symm)
  have main : ∀ {t : Tb} {cs : List Int}, (keys t).Nodup → Tr ds y t cs → keepsB F t = cs.any fun c => keepsB ds (putT t y c) := fun nt tr => forg_iff n hr l100 nt tr F hF.symm hne hoth
  have hkk : ∀ {t : Tb}, keys t = os → ∀ z ∈ y :: os, z ≠ y → z ∈ keys t := fun e z m ne => by
    rw [e]
    exact (List.mem_cons.mp m).elim (fun e => absurd e ne) id
  refine isRgL 12 rfl (by decide) ?_
  refine wf_inv (fun j γ m => ∃ (x7 x8 x9 x10 : Option W), γ = [some (.loc 0), some (.v (.lst ((y :: os).map P.str))), some (.v (.str y)), some (.v (.int v)), some (.v (.lst (ds.map rowL))), some (.v (boP K (srt os) F)), some (.v (.lst (F.map dueP))), x7, x8, x9, x10, none, none] ∧ Pot [] m) ⟨_, _, _, _, by rw [← hF, ← eo], hm5⟩ (fun j p γ m hp ⟨x7, x8, x9, x10, eg, hm6⟩ => ?_) fun γ m ⟨x7, x8, x9, x10, eg, hm6⟩ => ?_
  · subst eg
    refine ⟨_, rfl, ?_⟩
    repeat (first | walk_at "pu wp1" | with_reducible refine wo_eq (cut _) ?_)
    refine s_times hm6 no hF2 fle fun t m7 kt hm7 => ?_
    have nt : (keys t).Nodup := by rw [kt]; exact nd2.2
    have lt : t.length ≤ 8 := by rw [← len_keys, kt]; omega
    have subF : ∀ q ∈ F, q.1 ∈ keys t ∧ ∀ z ∈ keys q.2, z ∈ keys t := fun q mq => ⟨by rw [kt]; exact (hF2 q mq).2.2.1, fun z mz => by rw [kt]; exact (hF2 q mq).2.2.2 z mz⟩
    walk_at "pu wp"
    refine wo_eq (e_law_keeps (rs := F) (t := t) fle (fun q mq => ⟨(hF2 q mq).1, (hF2 q mq).2.1⟩) (fun z mz => dget_ok (val_of mz)) subF) ?_
    walk_at "pu wp"
    refine s_can n hr l100 nt lt (hkk kt) fun cs tr => ?_
    rw [← main nt tr]
    walk_at "pu wp"
    refine bi_T (by simp) ?_
    repeat (first | walk_at "pu wp1" | with_reducible refine wo_eq (it_d (show t.length ≤ 100000 by omega)) ?_)
    refine wl_all P.str (fun z => P.tup [.str z, .int (val t z - 10 ^ Int.toNat 48)]) (l := keys t) (fun z mz => ?_) ?_
    · refine ⟨_, rfl, ?_⟩
      repeat (first | walk_at "pu wp1" | with_reducible refine wo_eq (dget_ok (val_of mz)) ?_)
      exact ⟨rfl, rfl⟩
    walk_at "pu wp"
    refine wo_eq (dict_pairs (fun z : Str => z) (fun z => val t z - 10 ^ Int.toNat 48) (l := keys t) (by rw [List.map_id']; exact nt)) ?_
    have kt2 : keys ((keys t).map fun z => (z, val t z - 10 ^ Int.toNat 48)) = keys t := by
      conv => lhs; unfold keys
      rw [List.map_map]
      exact List.map_id _
    generalize ht' : ((keys t).map fun z => (z, val t z - 10 ^ Int.toNat 48)) = t' at kt2
    have vt : ∀ z ∈ keys t, val t' z = val t z - 10 ^ Int.toNat 48 := fun z mz => val_at (by rw [kt2]; exact nt) (by rw [← ht']; exact List.mem_map.mpr ⟨z, mz, rfl⟩)
    walk_at "pu wp"
    refine s_can n hr l100 (by rw [kt2]; exact nt) (by rw [← len_keys, kt2, len_keys]; exact lt) (hkk (kt2.trans kt)) fun cs2 tr2 => ?_
    rw [← main (by rw [kt2]; exact nt) tr2, keeps_shf hne subF vt]
    walk_at "pu wp"
    refine bi_T (by simp) ?_
    walk_at "pu wp"
    exact ⟨_, _, _, _, rfl, hm7⟩
  · subst eg
    walk_at "pu wp"
    rfl
end
end Pu
set_option Elab.async false
set_option linter.all false
set_option maxRecDepth 100000
set_option maxHeartbeats 4000000
namespace E10
open L2 PySem PySem.Spec PyProof.Rows
open He (ga ma)
abbrev lawLevel : Nat := 11
noncomputable def spLaw (P : Program) (w : World) (K : PySem.W.Frag) : Sp := Pu.noE (Pu.spP 1 (Pu.D_law P w K))
section
variable {P : Program} {w : World} {K : PySem.W.Frag} {mg : Str → Option Value} {base : Heap}
theorem law_of (X : K.In base) (G : base.Ns mainGlobals mg) (c : obsK K = val0) : ∃ fd, Fun K "law" "law" s_law (ga K "law") fd ∧ FnG P w K mg base lawLevel (ga K "law") fd ["_law_script"] (spLaw P w K) := by
  obtain ⟨fd, F⟩ := F_law c
  exact ⟨fd, F, (Pu.fx_law X G c F).g⟩
theorem law_wants (c : obsK K = val0) (H : Hp) (a : Addr) (ns : List Int) (hl : ns.length ≤ 63) (hS : SqL K H a (ns.map V.int)) : spLaw P w K [.ref a] H (fun v _ => v = .bl true) L2.E0 := Pu.law_want (bNol c) hS (Pu.e_law (fun m h => Pu.s_right h) ns hl)
theorem binds_law {f : Addr} {fd : FuncData} (F : Fun K "law" "law" s_law f fd) (s : Shared) (u : Value) : BindsTo s fd ⟨[u], []⟩ [("_law_script", u)] := by
  obtain ⟨oc, od, kV, doc, pm, an, cdv, ct, osl, rfl, _⟩ := F.ex
  exact BindsTo.of_eq rfl
end
end E10
set_option Elab.async false
set_option linter.all false
set_option maxRecDepth 100000
set_option maxHeartbeats 4000000
open PySem PySem.W PySem.Calls PyProof.Rows
theorem PySem.Challenge.cw_anyofthese_k71_whole_the_runs_without_th_holds : PySem.Challenge.rw_anyofthese_k71_whole_the_runs_without_th.Holds := by
  w_on; o_law
  refine HandSHeadRun.head_any (r := E10.R) (q := E10.qv) (H := E10.hook) (ob := E10.ob) (M := 60000) (loose := E10.names) (d := HandSHeadRun.topDef E10.R.prog E10.iLaw) (kwd := []) E10.ob_eq
    (by kernel_rfl) (fun s => by kernel_rfl) E10.run (by kernel_rfl) (by kernel_rfl) (by kernel_rfl) (by rfl) (by first | assumption | decide +kernel) (by decide +kernel) ⟨rfl, rfl, rfl, rfl, rfl, by decide +kernel⟩ ?hw ?hc
  case hw => w_witness2
  case hc =>
    refine E10.walkG (l := PySem.Challenge.rw_anyofthese_k71_whole_the_runs_without_th) (n := 63) (k := E10.lawLevel) (y := "_law_script") rfl (by decide) (by kernel_rfl) ⟨rfl, by decide, by decide⟩ ?F
    intro w mg f h Y G g
    obtain ⟨K, X, c⟩ := Y
    have g2 : mg ("law" : PySem.Str) = some (.ref f) := by
      have e : (HandSHeadRun.topDef E10.R.prog E10.iLaw).name = ("law" : PySem.Str) := by kernel_rfl
      rw [← e]
      exact g
    have g3 : mg ("law" : PySem.Str) = some (.ref (He.ga K "law")) := E10.g_law X G c
    have ef : f = He.ga K "law" := by
      have z := g2.symm.trans g3
      simpa using z
    subst ef
    obtain ⟨fd, F, _⟩ := E10.law_of (P := (PySem.Challenge.rw_anyofthese_k71_whole_the_runs_without_th).prog) (w := w) X G c
    refine ⟨K, fd, E10.spLaw (PySem.Challenge.rw_anyofthese_k71_whole_the_runs_without_th).prog w K, X, E10.binds_law F, fun H a ns hl hS => E10.law_wants c H a ns hl hS, fun base X2 G2 => ?_⟩
    obtain ⟨fd2, F2, L⟩ := E10.law_of (P := (PySem.Challenge.rw_anyofthese_k71_whole_the_runs_without_th).prog) (w := w) X2 G2 c
    rw [E10.one_fd F F2] at L
    exact L
