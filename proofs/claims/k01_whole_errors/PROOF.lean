import PyProof.Rows.All
import Wide.All
import OpenK.AllK
import Wide.FinOn
import HandS.ForMost
import HandS.ExcInit
import HandS.ExcIs
import HandS.ExcField
import HandS.ExcValue
import HandS.TryMany
import HandS.RaiseMore
import PyProof.ExcBaseAll.ValueError
import PyProof.ExcBaseAll.IndexError
import PyProof.ExcBaseAll.LookupError
import PyProof.ExcBaseAll.OverflowError
import PyProof.ExcBaseAll.ArithmeticError
import KE.KExcIs
import KE.KCallOwn
import HandS.IsInst
import HandS.Wide
import HandS.TupAny
import HandS.Zip
import HandS.Style
import HandS.Strs
import KE.KTryMore
import HandS.Walk
import HandS.Sort
import PySem.Challenge.RW_eachshare_k01_whole_errors
import HandS.WordsExc
import HandS.Lambda
/-! R10 -/
set_option Elab.async false
set_option linter.all false
set_option maxRecDepth 100000
set_option maxHeartbeats 4000000
/-! R10: own exceptions over any built-in class of exceptions, as values and raised. -/
namespace PySem.Ge
open PySem PySem.Builtin PySem.Builtin.ObjectAttr PySem.W PySem.Calls PyProof.Rows PySem.HandSPX
/-- own classes ahead of the tail t -/
def refsTo (t : List Value) : List Value → Bool
  | .ref _ :: r => refsTo t r
  | l => l == t
theorem refsTo_cases {t : List Value} (l : List Value) (e : refsTo t l = true) : (∃ c r, l = .ref c :: r ∧ refsTo t r = true) ∨ l = t := by
  match l, e with
  | .ref c :: r, e => exact .inl ⟨c, r, rfl, e⟩
  | [], e => exact .inr (beq_iff_eq.mp e)
  | .none :: _, e => exact .inr (beq_iff_eq.mp e)
  | .ellipsis :: _, e => exact .inr (beq_iff_eq.mp e)
  | .notImplemented :: _, e => exact .inr (beq_iff_eq.mp e)
  | .bool _ :: _, e => exact .inr (beq_iff_eq.mp e)
  | .int _ _ :: _, e => exact .inr (beq_iff_eq.mp e)
  | .float _ _ :: _, e => exact .inr (beq_iff_eq.mp e)
  | .str _ _ :: _, e => exact .inr (beq_iff_eq.mp e)
  | .bytes _ _ :: _, e => exact .inr (beq_iff_eq.mp e)
  | .type _ :: _, e => exact .inr (beq_iff_eq.mp e)
  | .builtin _ :: _, e => exact .inr (beq_iff_eq.mp e)
/-- a tail of built-in classes -/
structure Tail (t : List Value) : Prop where
  ne : t.isEmpty = false
  ob : t.contains (.type "object") = true
  pass : ∀ self : Value, refuseLoop self "__setattr__" t = pure ()
theorem refsTo_pass {t : List Value} (T : Tail t) (self : Value) : ∀ l : List Value, refsTo t l = true → refuseLoop self "__setattr__" l = pure () := by
  intro l
  induction l with
  | nil =>
    intro e
    rcases refsTo_cases [] e with ⟨_, _, q, _⟩ | q
    · cases q
    · rw [q]; exact T.pass self
  | cons a r ih =>
    intro e
    rcases refsTo_cases _ e with ⟨c, r2, q, h⟩ | q
    · cases q
      exact (refuseLoop_ref ..).trans (ih h)
    · rw [q]; exact T.pass self
theorem refsTo_has {t : List Value} (Y : String) : ∀ l : List Value, refsTo t l = true → l.contains (.type Y) = t.contains (.type Y) := by
  intro l
  induction l with
  | nil =>
    intro e
    rcases refsTo_cases [] e with ⟨_, _, q, _⟩ | q
    · cases q
    · rw [q]
  | cons a r ih =>
    intro e
    rcases refsTo_cases _ e with ⟨c, r2, q, h⟩ | q
    · cases q
      exact List.contains_cons.trans ((congrArg _ (ih h)).trans (Bool.false_or _))
    · rw [q]
theorem refsTo_ne {t : List Value} (T : Tail t) {l : List Value} (e : refsTo t l = true) : l.isEmpty = false := by
  cases l with
  | cons _ _ => rfl
  | nil =>
    rcases refsTo_cases [] e with ⟨_, _, q, _⟩ | q
    · cases q
    · rw [q]; exact T.ne
end PySem.Ge
/-! R11 -/
set_option Elab.async false
set_option linter.all false
set_option maxRecDepth 100000
set_option maxHeartbeats 4000000
/-! R11: the built-in classes of exceptions that the errors stand under; the making of one by its own __init__. -/
namespace PySem
namespace Ge
open PySem PySem.Builtin PySem.Builtin.ObjectAttr PySem.W PySem.Calls PyProof.Rows PySem.HandSPX
abbrev mKE : List Value := [.type "KeyError", .type "LookupError", .type "Exception", .type "BaseException", .type "object"]
abbrev mVE : List Value := [.type "ValueError", .type "Exception", .type "BaseException", .type "object"]
abbrev mIE : List Value := [.type "IndexError", .type "LookupError", .type "Exception", .type "BaseException", .type "object"]
abbrev mLE : List Value := [.type "LookupError", .type "Exception", .type "BaseException", .type "object"]
abbrev mAE : List Value := [.type "ArithmeticError", .type "Exception", .type "BaseException", .type "object"]
abbrev mOE : List Value := [.type "OverflowError", .type "ArithmeticError", .type "Exception", .type "BaseException", .type "object"]
theorem tl_KE : Tail mKE := ⟨rfl, by decide +kernel, fun self => by kernel_rfl⟩
theorem tl_VE : Tail mVE := ⟨rfl, by decide +kernel, fun self => by kernel_rfl⟩
theorem tl_IE : Tail mIE := ⟨rfl, by decide +kernel, fun self => by kernel_rfl⟩
theorem tl_LE : Tail mLE := ⟨rfl, by decide +kernel, fun self => by kernel_rfl⟩
theorem tl_AE : Tail mAE := ⟨rfl, by decide +kernel, fun self => by kernel_rfl⟩
theorem tl_OE : Tail mOE := ⟨rfl, by decide +kernel, fun self => by kernel_rfl⟩
/-- what the making of an instance asks of the classes behind its own one -/
structure Has (B : String) (bm : List Value) : Prop where
  b : bm.contains (.type B) = true
  e : bm.contains (.type "BaseException") = true
  a : bm.contains (.type "AttributeError") = false
  n : bm.contains (.type "NameError") = false
theorem Has.of {B : String} {t l : List Value} (h : Has B t) (e : refsTo t l = true) : Has B l := ⟨(refsTo_has _ l e).trans h.b, (refsTo_has _ l e).trans h.e, (refsTo_has _ l e).trans h.a, (refsTo_has _ l e).trans h.n⟩
theorem has_KE : Has "LookupError" mKE := ⟨by decide +kernel, by decide +kernel, by decide +kernel, by decide +kernel⟩
theorem has_VE : Has "ValueError" mVE := ⟨by decide +kernel, by decide +kernel, by decide +kernel, by decide +kernel⟩
theorem has_IE : Has "IndexError" mIE := ⟨by decide +kernel, by decide +kernel, by decide +kernel, by decide +kernel⟩
theorem has_LE : Has "LookupError" mLE := ⟨by decide +kernel, by decide +kernel, by decide +kernel, by decide +kernel⟩
theorem has_AE : Has "ArithmeticError" mAE := ⟨by decide +kernel, by decide +kernel, by decide +kernel, by decide +kernel⟩
theorem has_OE : Has "OverflowError" mOE := ⟨by decide +kernel, by decide +kernel, by decide +kernel, by decide +kernel⟩
section
variable {prog : Program} {w : World} {A : Around} {E : Value → Shared → Prop} {R : Result → Shared → Prop} {h : Heap} {g : Array GenState} {d : Drawn} {t : Nat} {os : OsState}
variable {nm q : Str} {C N : Addr} {bs bm bmB : List Value} {hd : Bool} {sn : List Str} {sub : List Value} {ab : Bool} {col : Option Bool} {dd : Option Addr} {k0 k1 k2 k3 k5 : Option Value} {B newId initId : String} {rest : List Value}
theorem newC (F : ExcBaseFacts B newId initId bmB) (T : Has B bm) (hC : h.get? C = some (excClassObj nm q C N bs bm hd sn sub ab col dd k0 k1 k2 k3 k5 newId)) {M : Model} {Q : Unit → Shared → Prop} (hq : Q () ⟨h, g, d, t, os⟩) :
    wpAny M A (checkBuiltinCall newId ⟨.ref C :: rest, []⟩) Q E ⟨h, g, d, t, os⟩ := by
  have c1 : (Value.ref C :: bm).contains (.type B) = true := List.contains_cons.trans ((congrArg _ T.b).trans (Bool.or_true _))
  have ns := F.noStar
  simp only [checkBuiltinCall, F.newRow, F.newSplit, F.newKind]
  repeat (first
    | refine wpAny_loadPart_at hC ?_
    | (refine wpAny_isSubtype_exc hC ?_; rw [c1])
    | refine wpAny_staticBase_exc hC ?_
    | refine wpAny_madeBy_exc hC ?_
    | simp only [bne_self_eq_false, if_false, Bool.false_eq_true]
    | wp_step)
  exact hq
theorem newR (F : ExcBaseFacts B newId initId bmB) (T : Has B bm) (hC : h.get? C = some (excClassObj nm q C N bs bm hd sn sub ab col dd k0 k1 k2 k3 k5 newId)) (hr : rest.length ≤ sizeLine)
    (hq : R (.ok (.ret (.ref (h.objs.size + 1)))) ⟨(h.push (W.kdv_tup rest)).push (excO C h.objs.size), g, d, t, os⟩) :
    codeAny (model prog w) A (.builtin newId ⟨.ref C :: rest, []⟩) R ⟨h, g, d, t, os⟩ := by
  have e1 := F.ends
  have c1 : (Value.ref C :: bm).contains (.type B) = true := List.contains_cons.trans ((congrArg _ T.b).trans (Bool.or_true _))
  have c2 : (Value.ref C :: bm).contains (.type "AttributeError") = false := List.contains_cons.trans ((congrArg _ T.a).trans rfl)
  have c3 : (Value.ref C :: bm).contains (.type "NameError") = false := List.contains_cons.trans ((congrArg _ T.n).trans rfl)
  apply codeAny_builtinAt F.entry
  unfold Builtin.«BaseException.__new__»
  apply wpAt_bind
  show wpAt _ _ _ (stack >>= _) _ _ _
  refine wpAt_bind (wpAt_stack fun p below => ?_)
  apply wpAt_of_wpAny
  wp_walk
  apply wpAt_of_wpAny
  rw [F.owner]
  repeat (first
    | with_reducible refine wpAny_madeHere_exc F.canon hC ?_
    | with_reducible refine wpAny_loadPart_at hC ?_
    | (with_reducible refine wpAny_isSubtype_exc hC ?_; first | rw [c1] | rw [c2] | rw [c3])
    | wp_step)
  show R _ _
  rw [Heap.size_push]
  exact hq
end
end Ge
end PySem
/-! R12 -/
set_option Elab.async false
set_option linter.all false
set_option maxRecDepth 100000
set_option maxHeartbeats 4000000
/-! R12: an own exception made by its own __init__ (type.__call__); its first field stored. -/
namespace PySem
namespace Ge
open PySem PySem.Builtin PySem.Builtin.ObjectAttr PySem.W PySem.Calls PyProof.Rows PySem.HandSPX
section
variable {prog : Program} {w : World} {A : Around} {E : Value → Shared → Prop} {R : Result → Shared → Prop} {h : Heap} {g : Array GenState} {d : Drawn} {t : Nat} {os : OsState}
variable {nm q : Str} {C N : Addr} {bs bm bmB : List Value} {hd : Bool} {sn : List Str} {sub : List Value} {ab : Bool} {col : Option Bool} {dd : Option Addr} {k0 k1 k2 k3 k5 : Option Value} {B newId initId : String} {rest : List Value} {fI : Addr}
theorem typeR (F : ExcBaseFacts B newId initId bmB) (T : Has B bm) (hC : h.get? C = some (excClassObj nm q C N bs bm hd sn sub ab col dd k0 k1 k2 k3 k5 newId)) (hr : rest.length ≤ sizeLine) {Q : Fin → Shared → Prop}
    (hi : W.Looks (model prog w) h (typeLookup (.ref C) "__init__") (some (.ref fI))) (hb : ∀ self, W.Looks (model prog w) h (bindSpecial (.ref fI) self) (.ref fI, [self]))
    (hq : codeAny (model prog w) A (.call (.ref fI) ⟨.ref (h.objs.size + 1) :: rest, []⟩) (fun r s' => match r with | .error e => E e s' | .ok (.ret v) => v = .none ∧ Q (.done (.ret (.ref (h.objs.size + 1)))) s' | .ok _ => False)
      ⟨(h.push (W.kdv_tup rest)).push (excO C h.objs.size), g, d, t, os⟩) :
    wpAny (model prog w) A (Builtin.«type.__call__» ⟨.ref C :: rest, []⟩) Q E ⟨h, g, d, t, os⟩ := by
  repeat (first
    | with_reducible refine wpAny_loadPart_at hC ?_
    | with_reducible refine wpAny_madeBy_exc hC ?_
    | wp_step)
  apply codeAny_call_builtin_code (Code.quiet_builtin _ F.quiet)
  apply newC F T hC
  apply newR F T hC hr
  show wpAny _ _ _ _ _ _
  have kk : ∀ b o, h.get? b = some o → ((h.push (W.kdv_tup rest)).push (excO C h.objs.size)).get? b = some o := fun _ _ z => Heap.get?_push_of_some _ (Heap.get?_push_of_some _ z)
  have hC2 := kk _ _ hC
  have hg2 : ((h.push (W.kdv_tup rest)).push (excO C h.objs.size)).get? (h.objs.size + 1) = some (excO C h.objs.size) := by heap_get
  have cC : (Value.ref C :: bm).contains (.ref C) = true := by simp
  have i2 := hi.keeps kk
  have b2 := (hb (.ref (h.objs.size + 1))).keeps kk
  unfold isInstance
  repeat (first
    | with_reducible refine wpAny_loadPart_at hg2 ?_
    | (with_reducible refine wpAny_isSubtype_exc hC2 ?_; rw [cC])
    | wp_step)
  show wpAny _ _ (typeLookup (.ref C) _) _ _ _
  apply i2.at
  apply wpAny_holding
  refine wpAny_bind (b2.at ?_)
  refine wpAny_bind (wpAny_call (codeAny_mono hq ?_))
  intro r s' z
  rcases r with e | (v | _ | _ | _)
  all_goals first
    | exact z
    | exact z.elim
    | (obtain ⟨rfl, z⟩ := z; exact wpAny_pure (wpAny_pure z))
    | (obtain ⟨rfl, z⟩ := z; wp_walk; exact z)
theorem callR (F : ExcBaseFacts B newId initId bmB) (T : Has B bm) (hC : h.get? C = some (excClassObj nm q C N bs bm hd sn sub ab col dd k0 k1 k2 k3 k5 newId)) (hr : rest.length ≤ sizeLine)
    (hi : W.Looks (model prog w) h (typeLookup (.ref C) "__init__") (some (.ref fI))) (hb : ∀ self, W.Looks (model prog w) h (bindSpecial (.ref fI) self) (.ref fI, [self]))
    (hq : codeAny (model prog w) (A.under (.builtin "type.__call__" ⟨.ref C :: rest, []⟩)) (.call (.ref fI) ⟨.ref (h.objs.size + 1) :: rest, []⟩) (W.InitBack (h.objs.size + 1) R) ⟨(h.push (W.kdv_tup rest)).push (excO C h.objs.size), g, d, t, os⟩) :
    codeAny (model prog w) A (.call (.ref C) ⟨rest, []⟩) R ⟨h, g, d, t, os⟩ := by
  have g1 := tc_lookup
  have g2 := tc_bind (.ref C)
  have ty : (⟨h, g, d, t, os⟩ : Shared).TypeIs (.ref C) "type" := ⟨_, hC, rfl⟩
  apply codeAny_of_tree
  show wpAny _ _ (callAny (.ref C) _) _ _ _
  repeat (any_goals (first
    | assumption
    | with_reducible refine wpAny_loadPart_at hC ?_
    | wp_step))
  refine ⟨rfl, ?_⟩
  refine codeAny_call_builtin_at (Code.quiet_builtin _ (by decide +kernel)) entry_typeCall ?_
  apply wpAny_check_type_call_sub hC
  apply typeR F T hC hr hi hb
  apply codeAny_mono hq
  intro r s' z
  rcases r with e | (v | _ | _ | _)
  all_goals exact z
theorem osaR {K : W.Frag} {name : Str} {tk : Tok} {v : Value} {x : Addr} {fv : Array Value} {cd : ClassData}
    (X : K.In h) (hx : h.get? x = some { cls := .ref C, data := .fields fv }) (hcd : W.clsIn K C = some cd) (ne : cd.mro.isEmpty = false) (ob : cd.mro.contains (.type "object") = true) (ps : refuseLoop (.ref x) "__setattr__" cd.mro = pure ()) (hh : cd.hasDict = true) (ha : W.findIn K (.ref C) name = some none)
    (hq : ∀ h' tk' dx, (∀ b o, b ≠ x → h.get? b = some o → h'.get? b = some o) → h.objs.size ≤ dx → dx ≠ x → h'.get? x = some { cls := .ref C, dict := some dx, data := .fields fv } → h'.Ns1 dx (fun y => if y = name then some v else none) → R (.ok (.ret .none)) ⟨h', g, d, tk', os⟩) :
    codeAny (model prog w) A (.call (.builtin "object.__setattr__") ⟨[.ref x, .str name tk, v], []⟩) R ⟨h, g, d, t, os⟩ := by
  have J : W.InstAt h x { cls := .ref C, data := .fields fv } C none := ⟨hx, rfl, rfl, trivial⟩
  have hxs : x ≠ h.objs.size := Nat.ne_of_lt (Heap.lt_size hx)
  have isO : W.Looks (model prog w) h (isInstance (.ref x) (.type "object")) true := by
    apply J.type.andThen
    apply W.looks_mroIn X
    unfold W.mroIn
    rw [hcd, Option.bind_some, if_neg (by rw [ne]; decide), ob]
  apply codeAny_call_builtin F.store_object.slot.plain F.store_object.entry
  refine @W.check_slot (model prog w) _ _ ⟨h, g, d, t, os⟩ "object.__setattr__" "object" "__setattr__" (.ref x) [.str name tk, v] [] _ F.store_object.kind F.store_object.split isO (F.store_object.args (.ref x) (.str name tk) v) ?_
  have lm : W.Looks (model prog w) h (mroOf (.ref C)) cd.mro := (W.looks_clsIn X hcd).andThen .now
  have ln : W.Looks (model prog w) h (storeTaker? none) none := .now
  have lc : W.Looks (model prog w) h (classData C) cd := W.looks_clsIn X hcd
  rw [W.osa_eq]
  rw [refuse_eq]
  refine wpAny_bind (wpAny_bind (J.type.at (wpAny_bind ?_)))
  refine lm.at ?_
  rw [ps]
  refine wpAny_pure (wpAny_bind ?_)
  refine J.type.at (wpAny_bind ((W.looks_findIn X ha).at ?_))
  refine wpAny_bind (ln.at ?_)
  show wpAny _ _ (storeInOwnDict (.ref x) (.ref C) (.str name tk) name v false) _ _ _
  obtain ⟨nm1, bs1, mro1, ns1, qn1, hd1, sn1, sb1, ab1, col1, del1⟩ := cd
  dsimp only at hh
  subst hh
  unfold storeInOwnDict ownDictForStores
  repeat (first
    | with_reducible refine store_in_new ?_ ?_
    | with_reducible refine wpAny_loadPart_at hx ?_
    | with_reducible refine lc.at ?_
    | wp_step)
  · exact ⟨_, #[], _, (Heap.get?_update_ne _ _ _ _ (Ne.symm hxs)).trans (Heap.get?_push_at rfl rfl), rfl,
      fun _ he => absurd he (by simp), fun _ => rfl⟩
  · intro h' tk' hn' hs
    have hx2 : (h.push { cls := .type "dict", data := .dict #[] }).get? x = some { cls := .ref C, data := .fields fv } := Heap.get?_push_of_some _ hx
    refine hq h' tk' h.objs.size ?_ (Nat.le_refl _) hxs.symm ?_ hn'
    · intro b o hb ho
      have e1 := hs.2 b (Nat.ne_of_lt (Heap.lt_size ho))
      have e2 := Heap.get?_push_of_some (h := h) { cls := .type "dict", data := .dict #[] } ho
      exact e1.trans ((Heap.get?_update_ne _ _ _ _ hb).trans e2)
    · exact (hs.2 x hxs).trans (Heap.get?_update_self _ hx2 rfl)
end
end Ge
end PySem
/-! R13 -/
set_option Elab.async false
set_option linter.all false
set_option maxRecDepth 100000
set_option maxHeartbeats 4000000
/-! R13: own exceptions over any built-in class: made as values, their field stored and read, isinstance, raised. -/
namespace Gx
open PySem PySem.Spec PyProof.Rows L2
/-- what the written part says of an own class of exceptions -/
structure ExG (K : PySem.W.Frag) (C : Addr) (newId : String) (bmB : List Value) : Prop where
  cls : ∃ nm q N bs bm sn sub ab col dd k0 k1 k2 k3 k5, K.lookup C = some (excClassObj nm q C N bs bm true sn sub ab col dd k0 k1 k2 k3 k5 newId) ∧ PySem.Ge.refsTo bmB bm = true
  sa : PySem.W.findIn K (.ref C) "__setattr__" = some (some (.builtin "object.__setattr__"))
  tyC : PySem.W.typeIn K (.ref C) = some (.type "type")
  kC : PySem.W.keepIn K (.ref C) = true
  ec : ExcC K C
section
variable {X : Cx} {pins : List (Addr × Obj)} {σ : L2.St} {H : Hp} {s : Shared} {a C dx : Addr} {f : Str} {y : V} {u : Value} {newId B initId : String} {bmB : List Value}
/-- self.f = y, the first field -/
theorem ost1 {A : Around} {Q : Unit → Shared → Prop} {E : Value → Shared → Prop} (T : ExG X.K C newId bmB) (TT : PySem.Ge.Tail bmB) (I : Inv X pins σ H s) (e : H a = some (exo a C none)) (hno : PySem.W.findIn X.K (.ref C) f = some none) (ry : RelV y u)
    (h : ∀ dx s', H dx = none → dx ≠ a → Inv X pins σ (upd (upd H dx (exd dx [(f, y)])) a (exo a C (some dx))) s' → Q () s') : wpAny (model X.prog X.w) A (setAttr (.ref a) f u) Q E s := by
  obtain ⟨nm, q, N, bs, bm, sn, sub, ab, col, dd, k0, k1, k2, k3, k5, hC, hbm⟩ := T.cls
  have hcl : PySem.W.clsIn X.K C = some { name := nm, bases := bs, mro := .ref C :: bm, ns := N, qualname := q, hasDict := true, slotNames := sn, subclasses := sub, abstract := ab, collection := col, hasDel := false } := by
    unfold PySem.W.clsIn
    rw [hC] <;> rfl
  have hmro : PySem.Ge.refsTo bmB (.ref C :: bm) = true := hbm
  obtain ⟨t1, ho⟩ := exo_at I.hok e
  obtain ⟨hp, g, d, t, os⟩ := s
  apply PySem.W.set_plain I.kIn (ox := { cls := .ref C, dict := none, data := .fields #[.ref t1, .none, .none, .none, .bool false, .none] }) (od := none) ⟨ho, rfl, rfl, trivial⟩ T.sa
  apply PySem.Ge.osaR I.kIn ho hcl (PySem.Ge.refsTo_ne TT hmro) ((PySem.Ge.refsTo_has _ _ hmro).trans TT.ob) (PySem.Ge.refsTo_pass TT _ _ hmro) rfl hno
  intro h' tk' dx k dn dne hx hn
  have hnd : H dx = none := I.hok.fresh dn
  have nd : ∀ {b : Addr} {o : Obj}, hp.get? b = some o → b ≠ dx := fun {b o} z => Nat.ne_of_lt (Nat.lt_of_lt_of_le (Heap.lt_size z) dn)
  have na : ∀ {b : Addr}, H b = none → b ≠ a := fun {b} n z => by
    subst z
    rw [e] at n
    cases n
  have Un1 : Un X.fs [] H (upd (upd H dx (exd dx [(f, y)])) a (exo a C (some dx))) hp h' := by
    constructor
    case keep => exact fun b o z n _ _ => k b o (na n) z
    case slot => exact fun b o z n _ _ => ⟨o.slots, k b o (na n) z⟩
    case free =>
      intro b o z n _
      rw [upd_ne (na n), upd_ne (nd z)]
      exact n
    case there =>
      intro b o z _
      by_cases hb : b = a
      · subst hb
        exact ⟨_, hx⟩
      · exact ⟨o, k b o hb z⟩
    case tups =>
      intro b xs z
      rw [upd_ne (at_ne e z exo_tup), upd_ne (ne_of_none z hnd)]
      exact z
    case frzs =>
      intro b o v z
      rw [upd_ne (at_ne e z exo_frz), upd_ne (ne_of_none z hnd)]
      exact z
    case tbls =>
      intro b ps z
      refine ⟨#[], ?_⟩
      rw [upd_ne (at_ne e z exo_tbl), upd_ne (ne_of_none z hnd), z]
      simp
  refine h dx _ hnd dne (I.un (t' := tk') Un1 ?_)
  intro b o z
  by_cases hb : b = a
  · subst hb
    rw [upd_same] at z
    cases z
    exact exo_ok hx
  · rw [upd_ne hb] at z
    by_cases hd : b = dx
    · subst hd
      rw [upd_same] at z
      cases z
      exact exd_ok hn (relO_put (fs := []) ry fun g => True.intro)
    · rw [upd_ne hd] at z
      apply (I.hok b o z).stay
      · intro c v hc w
        refine k c v ?_ w
        rcases hc with hc | hc
        · rw [hc]
          exact hb
        · exact at_ne e hc exo_own
      · intro c hc
        rw [upd_ne (at_ne e hc exo_own), upd_ne (ne_of_none hc hnd)]
        exact hc
      · intro c xs hc
        rw [upd_ne (at_ne e hc exo_tup), upd_ne (ne_of_none hc hnd)]
        exact hc
/-- an exception as a value: at a, of the class at C, its field f holding y (none: it has no field) -/
inductive Er (H : Hp) (a C : Addr) : Option (Str × V) → Prop where
  | bare (h : H a = some (exo a C none)) : Er H a C none
  | full {d : Addr} {f : Str} {y : V} (h : H a = some (exo a C (some d))) (hd : H d = some (exd d [(f, y)])) : Er H a C (some (f, y))
theorem Er.mono {H H' : Hp} {a C : Addr} {fy : Option (Str × V)} (s : ∀ b o, H b = some o → H' b = some o) (h : Er H a C fy) : Er H' a C fy := by
  cases h with
  | bare h => exact .bare (s _ _ h)
  | full h hd => exact .full (s _ _ h) (s _ _ hd)
theorem Er.inst {P : Program} {w : World} {K : PySem.W.Frag} {h : Heap} {fy : Option (Str × V)} (x : Er H a C fy) (hok : HOk P w H h) : ∃ ox od, PySem.W.InstAt h a ox C od := by
  cases x with
  | bare e =>
    obtain ⟨t1, ho⟩ := exo_at hok e
    exact ⟨_, none, ho, rfl, rfl, trivial⟩
  | full e ed =>
    obtain ⟨t1, ho⟩ := exo_at hok e
    obtain ⟨mA, hns, _⟩ := exd_at hok ed
    obtain ⟨oD, _, _, hoD, _⟩ := hns
    exact ⟨_, some oD, ho, rfl, rfl, hoD⟩
/-- isinstance(e, c) -/
def rIsX (K : PySem.W.Frag) : List V → Hp → VK → Prop := fun xs H Q => ∃ (a C : Addr) (fy : Option (Str × V)) (c : V) (cv : Value) (b : Bool), xs = [.ref a, c] ∧ Er H a C fy ∧ ExcC K C ∧ ClsV c cv ∧ PySem.W.kitOne K (.ref C) cv = some b ∧ Q (.bl b) H
theorem call_isX : CallR X (.builtin "isinstance") (rIsX X.K) := by
  intro pins s σ H xs us Q I r h
  obtain ⟨a, C, fy, c, cv, b, rfl, er, T, kc, e, q⟩ := h
  cases r with
  | cons rx rr =>
    cases rr with
    | cons rt rr =>
      cases rr
      cases rx
      have ec := kc.eq rt
      subst ec
      obtain ⟨ox, od, J⟩ := er.inst (K := X.K) I.hok
      obtain ⟨cd, hcd, _⟩ := PySem.W.any_some T.hd
      refine PySem.W.kia_one (PySem.W.kitx_exc (by rw [hcd]; rfl) T.hg T.hk T.hs T.ha T.hn T.ht T.hm) I.kIn J e (fun z => nomatch z) fun tk => ?_
      exact ⟨.bl b, H, I.kept (t' := tk) fun _ _ z => z, rfl, q⟩
/-- e.f -/
def tErF (K : PySem.W.Frag) (f : Str) (te : TE) : TE := fun σ H Q => te σ H fun x H1 => ∃ (a C : Addr) (y : V), x = .ref a ∧ Er H1 a C (some (f, y)) ∧ ExcC K C ∧ PySem.W.findIn K (.ref C) f = some none ∧ Q y H1
theorem pe_erf {e : Expr} {te : TE} {pos : Pos} (he : PE X e te) (hb : attributeBase e f X.env (eval e X.env) = eval e X.env := by rfl) : PE X (.Attribute e f pos) (tErF X.K f te) := by
  refine ⟨fun pins s σ H Q I h => ?_⟩
  apply attr_of hb
  refine thn (he.run pins s σ H _ I h) fun u s1 hh => ?_
  obtain ⟨x, H1, I1, rx, a, C, y, rfl, er, T, hno, q⟩ := hh
  obtain rfl : u = Value.ref a := rx
  cases er with
  | full e1 ed =>
    obtain ⟨t1, ho⟩ := exo_at I1.hok e1
    obtain ⟨mA, hns, hr⟩ := exd_at I1.hok ed
    obtain ⟨od, hod, hl⟩ := lookIn_ns hns
    obtain ⟨v, hv, rv⟩ := RelO.some_of (v := y) (o := mA f) (by
      have z := hr f
      rwa [lookup_put, if_pos rfl] at z)
    have J : PySem.W.InstAt s1.heap a _ C (some od) := ⟨ho, rfl, rfl, hod⟩
    exact HandSPX.exc_get I1.kIn J T.hg T.hk T.hs (PySem.W.findObj_own T.hd hno rfl (by rw [hl, hv])) (handed_of rv) ⟨y, H1, I1.tok _, rv, q⟩
end
end Gx
/-! Rl -/
set_option Elab.async false
set_option linter.all false
set_option maxRecDepth 100000
set_option maxHeartbeats 4000000
/-! Rl: rules of my own over the hand layer: promises of defs that show values (no repr under way), powers, signs of a text, repr. -/
namespace Gd
open PySem PySem.Spec PyProof.Rows L2

/-! ### promises where no repr is under way -/
structure FnG (P : Program) (w : World) (K : PySem.W.Frag) (mg : Str → Option Value) (base : Heap) (CX : CXT) (k : Nat) (f : Addr) (fd : FuncData) (ps : List Str) (sp : Sp) : Prop where
  many : ∀ vs H Q E, sp vs H Q E → vs.length = ps.length
  go : ∀ (A : Around) (outer : List Env) (s : Shared) (H : Hp) (args : Args) (us : List Value) (vs : List V) (Q : VK) (E : XK), A.guards = some [] → Room k A → Env0 P w K mg base A outer s H →
    BindsTo s fd args (ps.zip us) → Vals vs us → sp vs H Q E → codeAny (model P w) A (.call (.ref f) args) (CR CX outer P w H s Q E) s
theorem FnG.of {P : Program} {w : World} {K : PySem.W.Frag} {mg : Str → Option Value} {base : Heap} {CX : CXT} {k : Nat} {f : Addr} {fd : FuncData} {ps : List Str} {sp : Sp} (F : FnOk P w K mg base CX k f fd ps sp) : FnG P w K mg base CX k f fd ps sp :=
  ⟨F.len, fun A outer s H args us vs Q E _ => F.run A outer s H args us vs Q E⟩

theorem fnG_of {CX : CXT} {P : Program} {w : World} {K : PySem.W.Frag} {mg : Str → Option Value} {base : Heap} {k : Nat} {f : Addr} {name qual : Str} {params : Arguments} {body : List Stmt} {scope : Scope} {dV kV doc pm cdv ct oc : Value} {an od : Option Addr}
    {osl : Array (Option Value)} {N ps : List Str} {sp : Sp} (known : K.lookup f = some ⟨oc, od, .func (PySem.W.fnOf name qual params body scope dV kV doc pm an cdv ct), osl⟩) (code : PySem.W.codeIn K cdv qual = true) (S : FnScope N ps scope)
    (many : ∀ vs H Q E, sp vs H Q E → vs.length = ps.length)
    (inside : ∀ (A : Around) (outer : List Env) (s : Shared) (H : Hp) (vs : List V) (Q : VK) (E : XK), A.guards = some [] → Room k (A.deeper (envOfC qual scope s.heap.objs.size f cdv)) → sp vs H Q E →
      ∃ t, PSs (cxOf CX P w K mg base N qual scope f cdv A outer s H E) body t ∧ t { nx := fun _ H' => Q .non H', rt := Q } (start N vs) H) :
    FnG P w K mg base CX (k + 1) f (PySem.W.fnOf name qual params body scope dV kV doc pm an cdv ct) ps sp := by
  constructor
  · exact many
  · intro A outer s H args us vs Q E gd rm e0 bn rel want
    have len1 := many _ _ _ _ want
    have kin : K.In s.heap := e0.mod.kin.keeps fun b o e => And.left (e0.bs b o e)
    have lim : s.heap.NoLimit := e0.mod.nolimit.keeps fun b o e => And.left (e0.bs b o e)
    have kinds : ∀ y ∈ ps.zip us, scope.names.lookup y.1 = some .local ∨ (scope.names.lookup y.1 = some .cell ∧ ((cellsFrom (s.heap.objs.size + 1) scope.names []).lookup y.1).isSome = true) := by
      rintro ⟨n, v⟩ hy
      cases S.par n (List.of_mem_zip hy).1 with
      | inl q => exact Or.inl q
      | inr q => exact Or.inr ⟨q, PySem.W.cellsFrom_some _ _ _ (Or.inl q)⟩
    apply codeAny_call_function rm.depth (kin _ _ known) rfl S.co S.gen rfl (PySem.W.codeRec_of kin code)
    apply bn
    apply wpAny_newFunctionEnv_cells S.kind kinds
    intro env he s1 x
    cases he
    refine And.intro (lim.keeps x.toInCall.keep) (codeAny_func ?_)
    obtain ⟨t, tree, read⟩ := inside A outer s H vs Q E gd (rm.deeper _) want
    have I0 : Inv (cxOf CX P w K mg base N qual scope f cdv A outer s H E) [] (start N vs) H s1 := inv_start S rm.hd e0 len1 rel x
    have done : ∀ {σ' : L2.St} {H' : Hp} {v : V} {u : Value} {s' : Shared}, Inv (cxOf CX P w K mg base N qual scope f cdv A outer s H E) [] σ' H' s' → RelV v u → Q v H' → CE outer P w H s Q u s' :=
      fun {σ' H' v u s'} J rv q => ⟨v, H', J.os, J.bare, J.base, J.hok, rv, q⟩
    refine wpAny_mono (tree.run [] s1 (start N vs) H _ I0 read) ?_ (fun _ _ z => z)
    intro fl s' got
    match fl, got with
    | .ret u, ⟨v, σ', H', J, rv, q⟩ => exact done J rv q
    | .next, ⟨σ', H', J, q⟩ => exact done (v := V.non) (u := Value.none) J rfl q
    | .brk, ⟨_, _, _, q⟩ => exact q.elim
    | .cont, ⟨_, _, _, q⟩ => exact q.elim

section
variable {P : Program} {w : World} {K : PySem.W.Frag} {mg : Str → Option Value} {base : Heap}
theorem okG {x qual : Str} {st : Stmt} {f : Addr} {fd : FuncData} {N ps : List Str} {k : Nat} {sp : Sp} (F : Fun K x qual st f fd) (S : FnScope N ps (defScope st)) (many : ∀ vs H Q E, sp vs H Q E → vs.length = ps.length)
    (inside : ∀ (cdv : Value) (A : Around) (outer : List Env) (s : Shared) (H : Hp) (vs : List V) (Q : VK) (E : XK), A.guards = some [] → Room k (A.deeper (envOfC qual (defScope st) s.heap.objs.size f cdv)) → sp vs H Q E →
      ∃ t, PSs (cxOf CX0 P w K mg base N qual (defScope st) f cdv A outer s H E).nox (defBody st) t ∧ t { nx := fun _ H' => Q .non H', rt := Q } (start N vs) H) : FnG P w K mg base CX0 (k + 1) f fd ps sp := by
  obtain ⟨oc, od, kV, doc, pm, an, cdv, ct, osl, rfl, lk, hcd⟩ := F.ex
  apply fnG_of lk hcd S many
  intro A outer s H vs Q E gd rm want
  obtain ⟨t, h, q⟩ := inside cdv A outer s H vs Q E gd rm want
  exact ⟨t, h.nox, q⟩
end

section
variable {X : Cx} {CX : CXT} {k : Nat} {f : Addr} {fd : FuncData} {ps : List Str} {sp : Sp} {ds : List Value} {dvs : List V} {E : XK}
theorem run_G {pins : List (Addr × Obj)} {σ : L2.St} {H : Hp} {s : Shared} {Q : VK} {us : List Value} {vs : List V} (F : FnG X.prog X.w X.K X.mg X.base CX k f fd ps sp) (gd : X.A.guards = some []) (hr : Room k X.A) (hb : Binds X.K fd ps ds) (hd : Vals dvs ds) (hx : Passes CX X E)
    (I : Inv X pins σ H s) (r : Vals vs us) (h : sp (vs ++ dvs) H Q E) : wpAny (model X.prog X.w) X.A (call (.ref f) us) (EP X pins σ Q) X.xe s := by
  have all : Vals (vs ++ dvs) (us ++ ds) := r.append hd
  have len1 : (us ++ ds).length = ps.length := (all.length).symm.trans (F.many _ _ _ _ h)
  apply wpAny_call
  refine codeAny_mono (F.go X.A X.stack s H ⟨us, []⟩ (us ++ ds) (vs ++ dvs) Q E gd hr I.env0 (hb s us I.kIn len1) all h) ?_
  intro r s' got
  match r, got with
  | .error e, got => exact hx pins σ H s e s' I got
  | .ok (.ret u), got => exact I.after got
  | .ok .next, got => exact got.elim
  | .ok .brk, got => exact got.elim
  | .ok .cont, got => exact got.elim
theorem pe_callG {x : Str} {p pos : Pos} {e : Expr} {es : List Expr} {t : TA} (F : FnG X.prog X.w X.K X.mg X.base CX k f fd ps sp) (gd : X.A.guards = some []) (hr : Room k X.A) (hg : Gl X x) (hm : X.mg x = some (.ref f)) (hk : PySem.W.keepIn X.K (.ref f) = true) (hb : Binds X.K fd ps ds) (hd : Vals dvs ds) (hx : Passes CX X E)
    (ha : PA X (e :: es) t) (hdb : (x == ("__debug__" : Str)) = false := by decide) (he : starEach (e :: es) X.env = (false, eval e X.env) :: starEach es X.env := by rfl) (hpl : (backTo pos (starEach es X.env)).any (·.1) = false := by rfl) :
    PE X (.Call (.Name x p) (e :: es) [] pos) (tCall sp dvs E t) := by
  constructor
  intro pins s σ H Q I h
  apply wpAny_Call_Name_kw
  refine ld_glob I hg hm ?_ hdb
  refine PySem.W.callWith_K (h₀ := X.base) I.ok.mod.kin hk ?_ he hpl
  refine thn (ha.run pos pins s σ H _ I h) ?_
  rintro us s1 ⟨vs, H1, I1, r, q⟩
  exact ⟨I1.kIn, run_G F gd hr hb hd hx I1 r q⟩
end

/-! ### the end of a law whose promise stands where no repr is under way -/
theorem law_G {P : Program} {w : World} {K : PySem.W.Frag} {mg mb : Str → Option Value} {k : Nat} {fa a : Addr} {fd : FuncData} {x : Str} {sp : Sp} {s₁ : Shared} {vs : List Value} {ns : List Int}
    (KX : K.In s₁.heap) (hns : s₁.heap.Ns mainGlobals mg) (hb : s₁.heap.Ns builtinsNs mb) (hbb : ∀ x : Str, x ≠ "__name__" → mb x = bootBuiltins x) (hlim : s₁.heap.NoLimit) (hg : s₁.gens = #[])
    (ha : s₁.heap.get? a = some { cls := .type "list", data := .seq vs.toArray }) (hi : IntsAre vs ns) (hl : ns.length ≤ sizeLine) (hr : Room k callerA)
    (F : ∀ base : Heap, K.In base → base.Ns mainGlobals mg → FnG P w K mg base CX0 k fa fd [x] sp) (hbind : ∀ (s : Shared) (u : Value), BindsTo s fd ⟨[u], []⟩ [(x, u)])
    (hsp : ∀ H : Hp, Only H → SqL K H a (ns.map V.int) → sp [.ref a] H (fun v _ => v = .bl true) fun _ _ _ => False) :
    codeAny (model P w) callerA (.call (.ref fa) ⟨[.ref a], []⟩) (fun r s' => r = .ok (.ret (.bool true)) ∧ OldK s₁.heap s'.heap ∧ s'.os = s₁.os ∧ AllBare s'.gens) s₁ := by
  have rv := vals_ints hi
  have len1 : vs.length = ns.length := hi.length
  have heart : ∀ H : Hp, Only H → SqL K H a (ns.map V.int) → HOk P w H s₁.heap → (∀ b, H b ≠ none → b = a) → (H a ≠ none → K.lookup a = none) →
      codeAny (model P w) callerA (.call (.ref fa) ⟨[.ref a], []⟩) (fun r s' => r = .ok (.ret (.bool true)) ∧ OldK s₁.heap s'.heap ∧ s'.os = s₁.os ∧ AllBare s'.gens) s₁ := by
    intro H only seq ok alone apart
    have keepK : K.In (hidT s₁.heap H) := by
      intro b o e
      refine hidT_get (KX b o e) ?_
      by_cases z : H b = none
      · exact z
      · have := alone b z
        subst this
        rw [apart z] at e
        cases e
    have plain : ∀ {b : Addr} {o : Obj} {es : Array DictEntry} {ep : Nat}, s₁.heap.get? b = some o → o.data = .dict es ep → H b = none := by
      intro b o es ep e d
      by_cases z : H b = none
      · exact z
      · have := alone b z
        subst this
        rw [ha] at e
        cases e
        exact absurd (show Data.seq vs.toArray _ = Data.dict es ep from d) (fun q => nomatch q)
    have keepN : ∀ {b : Addr} {m : Str → Option Value}, s₁.heap.Ns b m → (hidT s₁.heap H).Ns b m := by
      rintro b m ⟨o, es, ep, e, d, r⟩
      exact ⟨o, es, ep, hidT_get e (plain e d), d, r⟩
    have md : Mod K mg (hidT s₁.heap H) := by
      obtain ⟨mc, l1, l2⟩ := hlim
      exact ⟨keepK, keepN hns, ⟨mb, keepN hb, hbb⟩, ⟨mc, keepN l1, l2⟩⟩
    have e0 : Env0 P w K mg (hidT s₁.heap H) callerA [] s₁ H :=
      { frames := rfl, mod := md, bs := fun b o e => of_hidT e, bsz := Nat.le_of_eq (hidT_size _ _), funs := trivial, frf := (fun b z => by cases z), hok := ok, bare := .of_eq hg }
    have ran := (F _ keepK (keepN hns)).go callerA [] s₁ H ⟨[.ref a], []⟩ [.ref a] [.ref a] _ _ rfl hr e0 (hbind s₁ (.ref a)) (.cons rfl .nil) (hsp H only seq)
    refine codeAny_mono ran ?_
    intro r s' got
    match r, got with
    | .error e, got => exact (show False from got).elim
    | .ok .next, got => exact got.elim
    | .ok .brk, got => exact got.elim
    | .ok .cont, got => exact got.elim
    | .ok (.ret u), ⟨v, H', os, bare, un, ok', rel, q⟩ =>
      have qv : v = .bl true := q
      subst qv
      have qu : u = Value.bool true := rel
      subst qu
      refine ⟨rfl, OldK.of_keep fun b o e => ?_, os, bare⟩
      rcases only b with z | ⟨ob, xs, z⟩
      · exact un.keep b o e z (by intro m; cases m) (by intro m; cases m)
      · have z2 := un.frzs b ob _ z
        have g1 := (ok b _ z).1
        have g2 := (ok' b _ z2).1
        rw [e] at g1
        cases g1
        exact g2
  by_cases hk : ∃ o, K.lookup a = some o
  · obtain ⟨o, hk⟩ := hk
    have e := KX a o hk
    rw [ha] at e
    cases e
    refine heart (fun _ => none) (fun _ => Or.inl rfl) ?_ (fun b u z => by cases z) (fun b z => absurd rfl z) (fun z => absurd rfl z)
    exact Or.inr ⟨_, vs.toArray, _, hk, rfl, rfl, rfl, by rw [List.size_toArray, len1]; exact hl, by simpa using rv⟩
  · have hk0 : K.lookup a = none := by
      cases q : K.lookup a with
      | none => rfl
      | some o => exact absurd ⟨o, q⟩ hk
    let H0 : Hp := fun b => if b = a then some (.frz { cls := .type "list", data := .seq vs.toArray } (.lst (ns.map V.int))) else none
    have at0 : H0 a = some (.frz { cls := .type "list", data := .seq vs.toArray } (.lst (ns.map V.int))) := if_pos rfl
    have off0 : ∀ b, b ≠ a → H0 b = none := fun b q => if_neg q
    refine heart H0 (fun b => ?_) (Or.inl (Or.inr ⟨_, at0⟩)) (fun b u z => ?_) (fun b z => ?_) (fun _ => hk0)
    · by_cases q : b = a
      · subst q
        exact Or.inr ⟨_, _, at0⟩
      · exact Or.inl (off0 b q)
    · by_cases q : b = a
      · subst q
        rw [at0] at z
        cases z
        exact ⟨ha, by rw [List.length_map]; exact hl, vs, _, rv, ha⟩
      · rw [off0 b q] at z
        cases z
    · by_cases q : b = a
      · exact q
      · exact absurd (off0 b q) z

theorem walk_G {l : PySem.W.OpenLaw} {n k : Nat} {q : Program} {loose : List Str} {XP : (Str → Option Value) → Heap → Prop} {YP : World → Heap → Prop} {d : DefRec} {K : Params → PySem.W.Frag} {sp : World → Sp} {x : Str}
    (hn : l.most = some n) (hn2 : n ≤ sizeLine) (hdf : d.params.defaults = []) (hr : Room k callerA)
    (hY : ∀ (w : World) (h : Heap), YP w h → (K w.params).In h)
    (F : ∀ (w : World) (mg : Str → Option Value) (fa : Addr) (h : Heap), (K w.params).In h → h.Ns mainGlobals mg → mg d.name = some (.ref fa) →
      ∃ fd : FuncData, (∀ (s : Shared) (u : Value), BindsTo s fd ⟨[u], []⟩ [(x, u)]) ∧
        ∀ base : Heap, (K w.params).In base → base.Ns mainGlobals mg → FnG l.prog w (K w.params) mg base CX0 k fa fd [x] (sp w))
    (hsp : ∀ (w : World) (H : Hp) (a : Addr) (ns : List Int), ns.length ≤ n → Only H → SqL (K w.params) H a (ns.map V.int) → sp w [.ref a] H (fun v _ => v = .bl true) fun _ _ _ => False) :
    PySem.W.WalkO q loose XP YP l.row.toRowW d [] (fun f vs => PySem.call f vs) := by
  apply Att.attach_call hn hdf
  intro w s₀ s₁ mg mb fa o pm cd doc a vs ns G Y ho hd hcd hmg hobj hints hlen hg
  have kin := hY w _ Y
  obtain ⟨fd, bind, all⟩ := F w mg fa _ kin G.T.g hmg
  exact law_G kin G.T.g G.T.b G.T.builtins G.T.nolimit hg hobj hints (Nat.le_trans hlen hn2) hr all bind (fun H o1 o2 => hsp w H a ns hlen o1 o2)
end Gd
/-! R14 -/
set_option Elab.async false
set_option linter.all false
set_option maxRecDepth 100000
set_option maxHeartbeats 4000000
/-! R14: own exceptions made and raised, their own __init__, their own __str__. -/
namespace Gx
open PySem PySem.Spec PyProof.Rows L2 Gd
section
variable {X : Cx} {o e : Expr} {es : List Expr} {to te : TE} {ta : TA} {f : Str} {p p2 pos : Pos} {newId B initId : String} {bmB bmI : List Value}
/-- self.f = e, the first field of an exception that is being made -/
def tOst1 (K : PySem.W.Frag) (newId : String) (bmB : List Value) (f : Str) (to te : TE) : TS := fun D σ H => te σ H fun y H1 => to σ H1 fun x H2 => ∃ a C : Addr, x = .ref a ∧ ExG K C newId bmB ∧ PySem.W.findIn K (.ref C) f = some none ∧
  H2 a = some (exo a C none) ∧ ∀ dx, H2 dx = none → dx ≠ a → D.nx σ (upd (upd H2 dx (exd dx [(f, y)])) a (exo a C (some dx)))
theorem ps_ost1 (TT : PySem.Ge.Tail bmB) (ho : PE X o to) (he : PE X e te) (hs : swapsWith e (some (.Attribute o f p2)) pos.line X.env = pure false := by rfl) : PS X (.Assign [.Attribute o f p2] e pos) (tOst1 X.K newId bmB f to te) := by
  refine ⟨fun pins s σ H D I h => ?_⟩
  refine plainObj_wpAny_Assign_Attribute (thn (he.run pins s σ H _ I h) fun v s1 hv => ?_) hs
  obtain ⟨y, H1, I1, r1, q1⟩ := hv
  refine thn (ho.run pins s1 σ H1 _ I1 q1) fun u s2 hu => ?_
  obtain ⟨x, H2, I2, r2, a, C, rfl, T, hno, ea, q⟩ := hu
  obtain rfl : u = Value.ref a := r2
  exact ost1 T TT I2 ea hno r1 fun dx s3 n ne J => ⟨σ, _, J, q dx n ne⟩
/-- C(e), C an own class without an __init__ of its own -/
def tMk0 (C : Addr) (ta : TE) : TE := fun σ H Q => ta σ H fun _ H1 => ∀ a, H1 a = none → Q (.ref a) (upd H1 a (exo a C none))
theorem pe_mk0 {C : Addr} {x : Str} (F : ExcBaseFacts B newId initId bmB) (q : PySem.W.excIn X.K C bmB newId = true) (gC : X.mg x = some (.ref C)) (kC : PySem.W.keepIn X.K (.ref C) = true) (hg : Gl X x)
    (he : PE X e te) (hs : starEach [e] X.env = (false, eval e X.env) :: starEach [] X.env := by rfl) (hdb : (x == ("__debug__" : Str)) = false := by decide) : PE X (.Call (.Name x p) [e] [] pos) (tMk0 C te) := by
  constructor
  intro pins s σ H Q I h
  apply wpAny_Call_Name_kw
  apply ld_glob I hg gC _ hdb
  refine PySem.W.callWith_K (h₀ := X.base) I.ok.mod.kin kC ?_ hs (by rfl)
  rw [hs]
  show wpAny _ _ (spliced ((false, eval e X.env) :: backTo pos (starEach [] X.env))) _ _ s
  apply Calls.spliced_cons
  refine thn (he.run pins s σ H _ I h) fun u s1 hu => ?_
  obtain ⟨v, H1, I1, r1, q1⟩ := hu
  refine Calls.spliced_nil ⟨I1.kIn, ?_⟩
  show wpAny _ _ (call (.ref C) [u]) _ _ _
  obtain ⟨bm, N, nm, qn, bs, hdct, sn, sub, ab, col, dd, k0, k1, k2, k3, k5, mN, hC, hN, hni, T⟩ := exc_obj I1.kIn q
  refine wpAny_call_exc_subT F T hC hN hni ?_ (by show 1 ≤ sizeLine; rw [sizeLine_eq]; omega)
  intro h' a hm
  have hn : H1 a = none := I1.hok.gone hm.new
  obtain ⟨t, ht, _, _⟩ := hm.there
  exact ⟨.ref a, upd H1 a (exo a C none), I1.laidN hm.keeps hm.new hn (exo_ok ht), rfl, q1 a hn⟩
/-- C(e), C's own __init__ keeping sp: as a value -/
def tMk1 (C : Addr) (sp : Sp) (dvs : List V) (ta : TA) : TE := fun σ H Q => ta σ H fun vs H1 => vs.length ≤ 1000 ∧ ∀ a, H1 a = none → sp (.ref a :: (vs ++ dvs)) (upd H1 a (exo a C none)) (fun v H2 => v = .non ∧ Q (.ref a) H2) (fun _ _ _ => False)
/-- C(e), raised -/
def tMkR (C : Addr) (sp : Sp) (dvs : List V) (ta : TA) : L2.St → Hp → XK → Prop := fun σ H Q => ta σ H fun vs H1 => vs.length ≤ 1000 ∧ ∀ a, H1 a = none → sp (.ref a :: (vs ++ dvs)) (upd H1 a (exo a C none))
  (fun v H2 => v = .non ∧ ∃ (d : Addr) (fs : List (Str × V)), H2 a = some (exo a C (some d)) ∧ H2 d = some (exd d fs) ∧ H1 d = none ∧ Q (.ref C) (some d) (upd (L2.del H2 a) d (.xd fs))) (fun _ _ _ => False)
section
variable {CX : CXT} {x : Str} {C fI : Addr} {k : Nat} {fd : FuncData} {ps : List Str} {sp : Sp} {ds : List Value} {dvs : List V}
/-- the call of such a class: its object is laid, __init__ runs -/
theorem made {pins : List (Addr × Obj)} {σ : L2.St} {H1 : Hp} {s : Shared} {Q : Value → Shared → Prop} {us : List Value} {vs : List V} (F : ExcBaseFacts B newId initId bmI) (hh : PySem.Ge.Has B bmB) (T : ExG X.K C newId bmB)
    (iC : PySem.W.findIn X.K (.ref C) "__init__" = some (some (.ref fI))) (tI : PySem.W.typeIn X.K (.ref fI) = some (.type "function")) (F1 : FnOk X.prog X.w X.K X.mg X.base CX k fI fd ps sp) (hr : Room (k + 1) X.A) (hb : Binds X.K fd ps ds) (hd : Vals dvs ds) (hx : Passes CX X (fun _ _ _ => False))
    (I1 : Inv X pins σ H1 s) (r1 : Vals vs us) (hz : vs.length ≤ 1000) {q : Addr → VK} (h : ∀ a, H1 a = none → sp (.ref a :: (vs ++ dvs)) (upd H1 a (exo a C none)) (fun v H2 => v = .non ∧ q a v H2) (fun _ _ _ => False))
    (done : ∀ (a : Addr) (H2 : Hp) (hp2 : Heap) (s2 : Shared), s.heap.objs.size ≤ a → H1 a = none → (∀ b o, s.heap.get? b = some o → hp2.get? b = some o) → Un (frs X.stack) [] (upd H1 a (exo a C none)) H2 hp2 s2.heap → HOk X.prog X.w H2 s2.heap → s2.os = s.os → AllBare s2.gens →
      Inv X pins σ (upd H1 a (exo a C none)) { s with heap := hp2 } → q a .non H2 → Q (.ref a) s2) :
    wpAny (model X.prog X.w) X.A (call (.ref C) us) Q X.xe s := by
  obtain ⟨nm, qn, N, bs, bm, sn, sub, ab, col, dd, k0, k1, k2, k3, k5, hC, hbm⟩ := T.cls
  obtain ⟨hp, g, dr, tk, os⟩ := s
  have hsz : hp.objs.size ≤ hp.objs.size + 1 := Nat.le_succ _
  have hn : H1 (hp.objs.size + 1) = none := I1.hok.fresh hsz
  have hq := h (hp.objs.size + 1) hn
  have kk : ∀ b o, hp.get? b = some o → ((hp.push (PySem.W.kdv_tup us)).push (PySem.HandSPX.excO C hp.objs.size)).get? b = some o := fun _ _ z => Heap.get?_push_of_some _ (Heap.get?_push_of_some _ z)
  have hget : ((hp.push (PySem.W.kdv_tup us)).push (PySem.HandSPX.excO C hp.objs.size)).get? (hp.objs.size + 1) = some (PySem.HandSPX.excO C hp.objs.size) := by heap_get
  have I2 : Inv X pins σ (upd H1 (hp.objs.size + 1) (exo (hp.objs.size + 1) C none)) ⟨(hp.push (PySem.W.kdv_tup us)).push (PySem.HandSPX.excO C hp.objs.size), g, dr, tk, os⟩ := I1.laid (t' := tk) kk hsz (exo_ok hget)
  have r2 : Vals (V.ref (hp.objs.size + 1) :: (vs ++ dvs)) (Value.ref (hp.objs.size + 1) :: (us ++ ds)) := .cons rfl (r1.append hd)
  have hl : (Value.ref (hp.objs.size + 1) :: us ++ ds).length = ps.length := (r2.length).symm.trans (F1.len _ _ _ _ hq)
  have hus : us.length ≤ sizeLine := by
    have := r1.length
    rw [sizeLine_eq]
    omega
  apply wpAny_call
  apply PySem.Ge.callR F (hh.of hbm) (I1.kIn _ _ hC) hus (PySem.W.looks_findIn I1.kIn iC) (fun self => PySem.W.bind_fn I1.kIn self tI)
  refine codeAny_mono (F1.run _ X.stack _ _ ⟨Value.ref (hp.objs.size + 1) :: us, []⟩ (Value.ref (hp.objs.size + 1) :: (us ++ ds)) _ _ _ (hr.make C us []) (I2.env0.make C us []) (hb _ (Value.ref (hp.objs.size + 1) :: us) I2.kIn hl) r2 hq) ?_
  intro r s' got
  match r, got with
  | .error er, got => exact hx pins σ _ _ er s' I2 got
  | .ok (.ret u), ⟨v, H2, os2, bare2, un2, hok2, rv, ev, q2⟩ =>
    subst ev
    exact ⟨rv, done _ H2 _ s' hsz hn kk un2 hok2 os2 bare2 I2 q2⟩
  | .ok .next, got => exact got.elim
  | .ok .brk, got => exact got.elim
  | .ok .cont, got => exact got.elim
theorem pe_mk1 (F : ExcBaseFacts B newId initId bmI) (hh : PySem.Ge.Has B bmB) (T : ExG X.K C newId bmB) (iC : PySem.W.findIn X.K (.ref C) "__init__" = some (some (.ref fI))) (tI : PySem.W.typeIn X.K (.ref fI) = some (.type "function"))
    (F1 : FnOk X.prog X.w X.K X.mg X.base CX k fI fd ps sp) (hr : Room (k + 1) X.A) (hb : Binds X.K fd ps ds) (hd : Vals dvs ds) (hx : Passes CX X (fun _ _ _ => False)) (hg : Gl X x) (hm : X.mg x = some (.ref C)) (ha : PA X (e :: es) ta)
    (hdb : (x == ("__debug__" : Str)) = false := by decide) (he : starEach (e :: es) X.env = (false, eval e X.env) :: starEach es X.env := by rfl) (hpl : (backTo pos (starEach es X.env)).any (·.1) = false := by rfl) :
    PE X (.Call (.Name x p) (e :: es) [] pos) (tMk1 C sp dvs ta) := by
  constructor
  intro pins s σ H Q I h
  apply wpAny_Call_Name_kw
  apply ld_glob I hg hm _ hdb
  refine PySem.W.callWith_K (h₀ := X.base) I.ok.mod.kin T.kC ?_ he hpl
  refine thn (ha.run pos pins s σ H _ I h) ?_
  rintro us s1 ⟨vs, H1, I1, r1, hz, q1⟩
  refine ⟨I1.kIn, ?_⟩
  refine made (q := fun a _ H2 => Q (.ref a) H2) F hh T iC tI F1 hr hb hd hx I1 r1 hz q1 ?_
  intro a H2 hp2 s2 _ _ _ un2 hok2 os2 bare2 I2 q2
  exact ⟨.ref a, H2, I2.call' (ch := []) os2 un2 hok2 bare2 (fun b z => absurd z (by simp)), rfl, q2⟩
theorem pmk_mk1 (F : ExcBaseFacts B newId initId bmI) (hh : PySem.Ge.Has B bmB) (T : ExG X.K C newId bmB) (iC : PySem.W.findIn X.K (.ref C) "__init__" = some (some (.ref fI))) (tI : PySem.W.typeIn X.K (.ref fI) = some (.type "function"))
    (F1 : FnOk X.prog X.w X.K X.mg X.base CX k fI fd ps sp) (hr : Room (k + 1) X.A) (hb : Binds X.K fd ps ds) (hd : Vals dvs ds) (hx : Passes CX X (fun _ _ _ => False)) (hg : Gl X x) (hm : X.mg x = some (.ref C)) (ha : PA X (e :: es) ta)
    (hdb : (x == ("__debug__" : Str)) = false := by decide) (he : starEach (e :: es) X.env = (false, eval e X.env) :: starEach es X.env := by rfl) (hpl : (backTo pos (starEach es X.env)).any (·.1) = false := by rfl) :
    PMk X (.Call (.Name x p) (e :: es) [] pos) (tMkR C sp dvs ta) := by
  intro pins s σ H Q I h
  apply wpAny_Call_Name_kw
  apply ld_glob I hg hm _ hdb
  refine PySem.W.callWith_K (h₀ := X.base) I.ok.mod.kin T.kC ?_ he hpl
  refine thn (ha.run pos pins s σ H _ I h) ?_
  rintro us s1 ⟨vs, H1, I1, r1, hz, q1⟩
  refine ⟨I1.kIn, ?_⟩
  refine made (q := fun a _ H2 => ∃ (d : Addr) (fs : List (Str × V)), H2 a = some (exo a C (some d)) ∧ H2 d = some (exd d fs) ∧ H1 d = none ∧ Q (.ref C) (some d) (upd (L2.del H2 a) d (.xd fs))) F hh T iC tI F1 hr hb hd hx I1 r1 hz q1 ?_
  intro a H2 hp2 s2 hsz hn kk un2 hok2 os2 bare2 I2 q2
  obtain ⟨d, fs, ea, ed, hd1, q2⟩ := q2
  obtain ⟨hp, g, dr, tk, os⟩ := s1
  obtain ⟨h3, g3, d3, t3, os3⟩ := s2
  exact mk_end (raises_own T.ec.hs T.tyC) I1 hsz kk un2 hok2 os2 bare2 ea ed hd1 q2
/-- str(o), o an exception whose class has a __str__ of its own -/
def rStrX (K : PySem.W.Frag) (fS : Addr) (sp : Sp) : List V → Hp → VK → Prop := fun xs H Q => ∃ (a C : Addr) (fy : Option (Str × V)), xs = [.ref a] ∧ Er H a C fy ∧ PySem.W.findIn K (.ref C) "__str__" = some (some (.ref fS)) ∧ sp [.ref a] H (fun v H' => ∃ z, v = .str z ∧ Q (.str z) H') (fun _ _ _ => False)
theorem call_strX {fS : Addr} (F1 : FnG X.prog X.w X.K X.mg X.base CX k fS fd ps sp) (gd : X.A.guards = some []) (hr : Room (k + 2) X.A) (hb : Binds X.K fd ps []) (hf : PySem.W.isFn X.K (.ref fS) = true) (hx : Passes CX X (fun _ _ _ => False)) : CallR X (.type "str") (rStrX X.K fS sp) := by
  intro pins s σ H xs us Q I r h
  obtain ⟨a, C, fy, rfl, er, hs, h⟩ := h
  obtain rfl := Vals.ref1 r
  obtain ⟨ox, od, J⟩ := er.inst (K := X.K) I.hok
  refine PySem.W.kso_call hr.in1.in1.units0 I.kIn J hs hf ?_
  apply wpAny_call
  have r2 : Vals [V.ref a] [Value.ref a] := .cons rfl .nil
  have hl : ([Value.ref a] ++ ([] : List Value)).length = ps.length := (r2.length).symm.trans (F1.many _ _ _ _ h)
  refine codeAny_mono (F1.go _ X.stack _ _ ⟨[Value.ref a], []⟩ ([Value.ref a] ++ []) _ _ _ gd hr.in1.in1 I.env0.in1.in1 (hb _ [Value.ref a] I.kIn hl) r2 h) ?_
  intro r s' got
  match r, got with
  | .error er, got => exact hx pins σ _ _ er s' I got
  | .ok (.ret u), ⟨v, H2, os2, bare2, un2, hok2, rv, z, ev, q2⟩ =>
    subst ev
    obtain ⟨t, rfl⟩ := rv
    exact ⟨.str z, H2, I.call' (ch := []) os2 un2 hok2 bare2 (fun b z => absurd z (by simp)), ⟨t, rfl⟩, q2⟩
  | .ok .next, got => exact got.elim
  | .ok .brk, got => exact got.elim
  | .ok .cont, got => exact got.elim
end
end
end Gx
/-! R15 -/
set_option Elab.async false
set_option linter.all false
set_option maxRecDepth 100000
set_option maxHeartbeats 4000000
/-! R15: except clauses of one name or of a tuple of names, with or without «as»; several of them. -/
namespace PySem.W
open PySem PySem.Spec PySem.Calls PyProof.Rows
theorem exm_six {M : Model} {K : Frag} {c1 c2 c3 c4 c5 c6 cls : Value} {tp e : Addr} {b : Bool} {h : Heap} (X : K.In h) (LT : Looks M h (typeOf (.ref e)) cls) (hp : h.get? tp = some { cls := .type "tuple", data := .seq [c1, c2, c3, c4, c5, c6].toArray })
    (hx : exmAny K cls [c1, c2, c3, c4, c5, c6] = some b) : Looks M h (excMatches (.ref e) (.ref tp)) b := by
  intro A Q E s kz q
  obtain ⟨hh, g, d, tk, os⟩ := s
  have k : ∀ b o, h.get? b = some o → hh.get? b = some o := kz
  have isT : Looks M h (isInstance (.ref tp) (.type "tuple")) true := ((Looks.ld hp).andThen .now).andThen (Looks.of_pure isSubtype_tuple_tuple)
  obtain ⟨b1, d1, x1, y1, z1⟩ := exmAny_cons hx
  obtain ⟨b2, d2, x2, y2, z2⟩ := exmAny_cons y1
  obtain ⟨b3, d3, x3, y3, z3⟩ := exmAny_cons y2
  obtain ⟨b4, d4, x4, y4, z4⟩ := exmAny_cons y3
  obtain ⟨b5, d5, x5, y5, z5⟩ := exmAny_cons y4
  obtain ⟨b6, d6, x6, y6, z6⟩ := exmAny_cons y5
  have w6 : some false = some d6 := y6
  cases w6
  obtain ⟨e1, S1⟩ := exm_cls (M := M) X x1
  obtain ⟨e2, S2⟩ := exm_cls (M := M) X x2
  obtain ⟨e3, S3⟩ := exm_cls (M := M) X x3
  obtain ⟨e4, S4⟩ := exm_cls (M := M) X x4
  obtain ⟨e5, S5⟩ := exm_cls (M := M) X x5
  obtain ⟨e6, S6⟩ := exm_cls (M := M) X x6
  replace e1 := e1.keeps k
  replace e2 := e2.keeps k
  replace e3 := e3.keeps k
  replace e4 := e4.keeps k
  replace e5 := e5.keeps k
  replace e6 := e6.keeps k
  replace S1 := S1.keeps k
  replace S2 := S2.keeps k
  replace S3 := S3.keeps k
  replace S4 := S4.keeps k
  replace S5 := S5.keeps k
  replace S6 := S6.keeps k
  replace LT := LT.keeps k
  replace isT := isT.keeps k
  have hp2 := k _ _ hp
  subst z1 z2 z3 z4 z5 z6
  unfold excMatches
  apply wpAny_bind
  apply isT.at
  dsimp only
  rw [if_pos rfl]
  first
    | refine wpAny_bind (wpAny_seqItems hp2 rfl ?_)
    | refine wpAny_bind (wpAny_bind (wpAny_seqItems hp2 rfl (wpAny_pure ?_)))
  dsimp only [Option.getD_some, Option.getD]
  cases b1
  · cases b2
    · cases b3
      · cases b4
        · cases b5
          · cases b6
            · repeat (first
                | simp only [List.forIn_nil, List.forIn_cons, Bool.not_true, if_true, Bool.false_eq_true, if_false]
                | lk)
              exact q
            · repeat (first
                | simp only [List.forIn_nil, List.forIn_cons, Bool.not_true, if_true, Bool.false_eq_true, if_false]
                | lk)
              exact q
          · repeat (first
              | simp only [List.forIn_nil, List.forIn_cons, Bool.not_true, if_true, Bool.false_eq_true, if_false]
              | lk)
            exact q
        · repeat (first
            | simp only [List.forIn_nil, List.forIn_cons, Bool.not_true, if_true, Bool.false_eq_true, if_false]
            | lk)
          exact q
      · repeat (first
          | simp only [List.forIn_nil, List.forIn_cons, Bool.not_true, if_true, Bool.false_eq_true, if_false]
          | lk)
        exact q
    · repeat (first
        | simp only [List.forIn_nil, List.forIn_cons, Bool.not_true, if_true, Bool.false_eq_true, if_false]
        | lk)
      exact q
  · repeat (first
      | simp only [List.forIn_nil, List.forIn_cons, Bool.not_true, if_true, Bool.false_eq_true, if_false]
      | lk)
    exact q
end PySem.W
namespace Gx
open PySem PySem.Spec PyProof.Rows L2 Gd
/-- a clause's test, asked of an exception that has landed -/
def HTest (X : Cx) (t : Expr) (m : Value → Option Bool) : Prop := ∀ (a : Addr) (pn : List (Addr × Obj)) (oe : Obj) (σ : L2.St) (H : Hp) (s : Shared) (cls : Value) (b : Bool) (Q : Bool → Shared → Prop) (E : Value → Shared → Prop),
  Inv (X.suite a ((a, oe) :: pn)) [] σ H s → PySem.W.Looks (model X.prog X.w) s.heap (typeOf (.ref a)) cls → m cls = some b → (∀ h', (∀ q o, s.heap.get? q = some o → h'.get? q = some o) → Q b { s with heap := h' }) →
    wpAny (model X.prog X.w) (X.A.mark (some (.ref a))) (eval t X.env) (fun c s1 => wpAny (model X.prog X.w) (X.A.mark (some (.ref a))) (excMatches (.ref a) c) Q E s1) E s
section
variable {X : Cx}
theorem ld_names {a : Addr} {pn : List (Addr × Obj)} {oe : Obj} {σ : L2.St} {H : Hp} {s : Shared} {x : Str} {c : Value} {p : Pos} {Q : Value → Shared → Prop} {E : Value → Shared → Prop} (S : Inv (X.suite a ((a, oe) :: pn)) [] σ H s) (n : Names X x c) (q : Q c s) :
    wpAny (model X.prog X.w) (X.A.mark (some (.ref a))) (eval (.Name x p) X.env) Q E s := by
  obtain ⟨hg, hdbg, hm | ⟨hm, hv, hnn⟩⟩ := n
  · exact ld_glob (X := X.suite a ((a, oe) :: pn)) S hg hm q hdbg
  · exact ld_blt (X := X.suite a ((a, oe) :: pn)) S hg hm hv q hnn hdbg
theorem ht_name {x : Str} {c : Value} {p : Pos} (n : Names X x c) : HTest X (.Name x p) (fun cls => PySem.W.exmOne X.K cls c) := by
  intro a pn oe σ H s cls b Q E S LT hb q
  apply ld_names S n
  exact (PySem.W.exm_one S.kIn LT hb).here (q s.heap fun _ _ z => z)
theorem ht_three {x1 x2 x3 : Str} {c1 c2 c3 : Value} {p1 p2 p3 p : Pos} {k : Nat} (n1 : Names X x1 c1) (n2 : Names X x2 c2) (n3 : Names X x3 c3) : HTest X (.Tuple [.Name x1 p1, .Name x2 p2, .Name x3 p3] k p) (fun cls => PySem.W.exmAny X.K cls [c1, c2, c3]) := by
  intro a pn oe σ H s cls b Q E S LT hb q
  apply wpAny_Tuple
  apply wpAny_items_cons (ld_names S n1 _)
  apply wpAny_items_cons (ld_names S n2 _)
  apply wpAny_items_cons (ld_names S n3 _)
  refine wpAny_items_nil ⟨by size_fits, ?_⟩
  have kp : ∀ q o, s.heap.get? q = some o → (s.heap.push { cls := .type "tuple", data := .seq [c1, c2, c3].toArray }).get? q = some o := fun _ _ z => Heap.get?_push_of_some _ z
  exact (PySem.W.exm_tup3 (S.kIn.keeps kp) (LT.keeps kp) (Heap.get?_push_size s.heap rfl) hb).here (q _ kp)
theorem ht_six {x1 x2 x3 x4 x5 x6 : Str} {c1 c2 c3 c4 c5 c6 : Value} {p1 p2 p3 p4 p5 p6 p : Pos} {k : Nat} (n1 : Names X x1 c1) (n2 : Names X x2 c2) (n3 : Names X x3 c3) (n4 : Names X x4 c4) (n5 : Names X x5 c5) (n6 : Names X x6 c6) :
    HTest X (.Tuple [.Name x1 p1, .Name x2 p2, .Name x3 p3, .Name x4 p4, .Name x5 p5, .Name x6 p6] k p) (fun cls => PySem.W.exmAny X.K cls [c1, c2, c3, c4, c5, c6]) := by
  intro a pn oe σ H s cls b Q E S LT hb q
  apply wpAny_Tuple
  apply wpAny_items_cons (ld_names S n1 _)
  apply wpAny_items_cons (ld_names S n2 _)
  apply wpAny_items_cons (ld_names S n3 _)
  apply wpAny_items_cons (ld_names S n4 _)
  apply wpAny_items_cons (ld_names S n5 _)
  apply wpAny_items_cons (ld_names S n6 _)
  refine wpAny_items_nil ⟨by size_fits, ?_⟩
  have kp : ∀ q o, s.heap.get? q = some o → (s.heap.push { cls := .type "tuple", data := .seq [c1, c2, c3, c4, c5, c6].toArray }).get? q = some o := fun _ _ z => Heap.get?_push_of_some _ z
  exact (PySem.W.exm_six (S.kIn.keeps kp) (LT.keeps kp) (Heap.get?_push_size s.heap rfl) hb).here (q _ kp)
/-- a clause: its test, the slot of its name, its suite -/
abbrev Cl := (Value → Option Bool) × Option Nat × (Addr → Value → Option Addr → TS)
/-- what follows a clause with a name: the name goes -/
def Ends.gone (i : Nat) (D : Ends) : Ends := { nx := fun σ' H' => D.nx (σ'.set i none) H', rt := D.rt, bk := fun σ' H' => D.bk (σ'.set i none) H', ct := fun σ' H' => D.ct (σ'.set i none) H' }
def wCl (Wout : WX) (D : Ends) : List Cl → WX
  | [] => Wout
  | (m, none, ts) :: r => fun cls d σ H => ∃ b, m cls = some b ∧ (b = true → ∀ a, H a = none → ts a cls d D σ H) ∧ (b = false → wCl Wout D r cls d σ H)
  | (m, some i, ts) :: r => fun cls d σ H => ∃ b, m cls = some b ∧ (b = true → ∀ a, H a = none → ts a cls d (Ends.gone i D) (σ.set i (some (.ref a))) H) ∧ (b = false → wCl Wout D r cls d σ H)
inductive ClsOk (X : Cx) : List ExceptHandler → List Cl → Prop
  | nil : ClsOk X [] []
  | bare {t : Expr} {m : Value → Option Bool} {ts : Addr → Value → Option Addr → TS} {b0 : Stmt} {suite : List Stmt} {pos : Pos} {hds : List ExceptHandler} {l : List Cl} (ht : HTest X t m)
      (hsu : ∀ (a : Addr) (oe : Obj) (cls : Value) (d : Option Addr) (pn : List (Addr × Obj)), Zc cls d oe → (∃ vs, oe.data = .fields vs) → PSs (X.suite a ((a, oe) :: pn)) (b0 :: suite) (ts a cls d)) (r : ClsOk X hds l) :
      ClsOk X (.ExceptHandler (some t) none (b0 :: suite) pos :: hds) ((m, none, ts) :: l)
  | named {t : Expr} {m : Value → Option Bool} {n : Str} {i : Nat} {ts : Addr → Value → Option Addr → TS} {b0 : Stmt} {suite : List Stmt} {pos : Pos} {hds : List ExceptHandler} {l : List Cl} (ht : HTest X t m) (hi : X.N[i]? = some n) (hln : X.env.kindOf n = some .local)
      (hsu : ∀ (a : Addr) (oe : Obj) (cls : Value) (d : Option Addr) (pn : List (Addr × Obj)), Zc cls d oe → (∃ vs, oe.data = .fields vs) → PSs (X.suite a ((a, oe) :: pn)) (b0 :: suite) (ts a cls d)) (r : ClsOk X hds l) :
      ClsOk X (.ExceptHandler (some t) (some n) (b0 :: suite) pos :: hds) ((m, some i, ts) :: l)
variable {body : List Stmt} {h0 : ExceptHandler} {hds : List ExceptHandler} {l : List Cl} {pos : Pos} {tb : WX → TS} {Wout : WX}
theorem flies {B h h' : Heap} {fr : List Env} {e : Addr} {Z : Obj → Prop} (R : HandSPX.FlyingZ B fr e Z h) (k : ∀ b o, h.get? b = some o → h'.get? b = some o) : HandSPX.FlyingZ B fr e Z h' := by
  obtain ⟨f1, f2, f3, oe, vs, T, oT, ts, he, hz, hd, h1, hn, hne, hT, hdT, h3⟩ := R
  exact ⟨fun b o q => k b o (f1 b o q), f2, f3.of_keeps fun b o q _ => ⟨o, k b o q, rfl⟩, oe, vs, T, oT, ts, k _ _ he, hz, hd, h1, hn, hne, k _ _ hT, hdT, h3⟩
theorem ps_try_g (hs : X.stack = X.env :: X.outer) (hf : X.env.frame = some X.env.locals) (hN : X.N.Nodup) (tk : Takes X Wout)
    (hb : ∀ (W : WX) (pn : List (Addr × Obj)) (xe : Value → Shared → Prop), Takes (X.tr pn xe) W → PassesOwn (model X.prog X.w) X.A X.env xe → PSs (X.tr pn xe) body (tb W))
    (hh : ClsOk X (h0 :: hds) l) : PS X (.Try body (h0 :: hds) [] [] pos) (fun D σ H => tb (wCl Wout D l) D σ H) := by
  refine ⟨fun pins s σ H D I h => ?_⟩
  have ok := I.ok
  have hfr : X.A.frames = some (X.env :: X.outer) := ok.frames.trans (congrArg some hs)
  apply wpAny_Try_except
  refine wpAny_mono ((hb (wCl Wout D l) (X.pn ++ pins) (fun e s1 => wpAny (model X.prog X.w) X.A (noteFrame e X.env) (fun _ s2 => wpAny (model X.prog X.w) X.A (setFlight e none) (fun _ s3 => wpAny (model X.prog X.w) X.A (handleBy e X.env (h0 :: hds)) (SP X pins D) X.xe s3) X.xe s2) X.xe s1)
    ?caught PassesOwn.looking).run [] s σ H D (I.toTry _) h) ?through (fun e s1 he => he)
  case through =>
    intro f s1 got
    match f, got with
    | .next, ⟨σ2, H2, J2, q⟩ => exact wpAny_execs_nil ⟨σ2, H2, J2.ofTry ok, q⟩
    | .brk, ⟨σ2, H2, J2, q⟩ => exact ⟨σ2, H2, J2.ofTry ok, q⟩
    | .cont, ⟨σ2, H2, J2, q⟩ => exact ⟨σ2, H2, J2.ofTry ok, q⟩
    | .ret u, ⟨v, σ2, H2, J2, r, q⟩ => exact ⟨v, σ2, H2, J2.ofTry ok, r, q⟩
  case caught =>
    rintro u s' ⟨a, B, sI, pins2, σ2, H2, cls, d, rfl, J0, nb, up, sky, na, os, ag, w⟩
    have J : Inv X pins σ2 H2 sI := J0.ofTry ok
    have sky2 : Sky B (X.env :: X.outer) a (Zc cls d) X.env.locals s'.heap := by
      rw [← hs]
      exact sky
    show wpAny (model X.prog X.w) X.A (noteFrame (.ref a) X.env) _ _ _
    refine Sky.land Zc.steady hfr hf sky2 ?_
    intro h3 fl3 up3
    have notFr : ∀ {h : Heap} {o : Obj} {vs : Array Value}, h.FunFrames B (X.env :: X.outer) → h.get? a = some o → o.data = .fields vs → a ∉ frs (X.env :: X.outer) := fun {h o vs} ff e dd hm => by
      obtain ⟨_, o2, e2, hnf⟩ := ff.mem hm
      rw [e] at e2
      cases e2
      exact hnf _ dd
    have nfr : a ∉ frs (X.env :: X.outer) := by
      obtain ⟨oe3, vs3, he3, _, hd3⟩ := fl3.there
      exact notFr fl3.2.2.1 he3 hd3
    have nL : a ≠ X.env.locals := fun z => nfr (List.mem_filterMap.mpr ⟨X.env, List.mem_cons_self, hf.trans (congrArg some z.symm)⟩)
    have nF : a ∉ X.fs := fun hm => by
      obtain ⟨e, he, q⟩ := List.mem_filterMap.mp hm
      exact nfr (List.mem_filterMap.mpr ⟨e, List.mem_cons_of_mem _ he, q⟩)
    -- one clause: its test, then its suite or the clauses behind it
    have ask : ∀ {t : Expr} {m : Value → Option Bool} {b : Bool} {Q : Bool → Shared → Prop} {E : Value → Shared → Prop} {h4 : Heap}, HTest X t m → m cls = some b → HandSPX.FlyingZ B (X.env :: X.outer) a (Zc cls d) h4 → sI.heap.UpToSlots h4 →
        (∀ h5, HandSPX.FlyingZ B (X.env :: X.outer) a (Zc cls d) h5 → sI.heap.UpToSlots h5 → Q b { s' with heap := h5 }) →
        wpAny (model X.prog X.w) (X.A.mark (some (.ref a))) (eval t X.env) (fun c s1 => wpAny (model X.prog X.w) (X.A.mark (some (.ref a))) (excMatches (.ref a) c) Q E s1) E { s' with heap := h4 } := by
      intro t m b Q E h4 ht hm fl4 up4 q
      obtain ⟨oe4, vs4, he4, hz4, hd4⟩ := fl4.there
      have J4 : Inv X pins σ2 H2 { s' with heap := h4 } := J.landed nb fl4.1 up4 os ag
      have LT : PySem.W.Looks (model X.prog X.w) h4 (typeOf (.ref a)) cls := fun A Q E s k q => wpAny_typeOf_ref (k _ _ he4) (by rw [hz4.1]; exact q)
      refine ht a (X.pn ++ pins) oe4 σ2 H2 { s' with heap := h4 } cls b Q E (J4.suite he4 hd4 na nL nF) LT hm ?_
      intro h5 k5
      exact q h5 (flies fl4 k5) (up4.trans (Heap.UpToSlots.of_keeps k5))
    have go : ∀ {hds2 : List ExceptHandler} {l2 : List Cl}, ClsOk X hds2 l2 → wCl Wout D l2 cls d σ2 H2 → ∀ h4, HandSPX.FlyingZ B (X.env :: X.outer) a (Zc cls d) h4 → sI.heap.UpToSlots h4 →
        wpAny (model X.prog X.w) X.A (handleBy (.ref a) X.env hds2) (SP X pins D) X.xe { s' with heap := h4 } := by
      intro hds2 l2 hk
      induction hk with
      | nil =>
        intro w h4 fl4 up4
        apply wpAny_handleBy_nil
        obtain ⟨k1, k2, k3, oe, vs, T, oT, ts, he, hz, hd, h1, hr⟩ := id fl4
        unfold PySem.passOn
        refine wpAny_bind (wpAny_field he hd h1 ?_)
        rw [if_neg (show ¬ ((Value.ref T == Value.none) = true) from by simp)]
        have fin : wpAny (model X.prog X.w) X.A (setFlight (.ref a) X.env.frame) (fun _ s4 => wpAny (model X.prog X.w) X.A (throw (.ref a) : Sem Flow) (SP X pins D) X.xe s4) X.xe { s' with heap := h4 } := by
          rw [hf]
          refine HandSPX.setFlight_upZ fl4 fun h5 hh5 up5 => wpAny_throw (tk _ _ ?_)
          exact ⟨a, B, sI, pins, σ2, H2, cls, d, rfl, J, nb, up4.trans up5, .inr (.inr (by rw [hs]; exact hh5)), na, os, ag, w⟩
        first
          | exact wpAny_bind (wpAny_pure (wpAny_bind fin))
          | exact wpAny_bind fin
      | @bare t m ts b0 suite np hds3 l3 ht hsu r ih =>
        intro w h4 fl4 up4
        obtain ⟨b, hb1, hyes, hno⟩ := w
        refine wpAny_handleBy_cons (codeAny_handlers_test ?_) (by intro q; cases q)
        refine ask ht hb1 fl4 up4 ?_
        intro h5 fl5 up5
        cases b with
        | false => exact ih (hno rfl) h5 fl5 up5
        | true =>
          apply codeAny_handlers_suite
          refine HandSPX.lands_againZ fl5 ?_
          intro h6 fl6 up6
          obtain ⟨oe6, vs6, he6, hz6, hd6⟩ := fl6.there
          have J6 : Inv X pins σ2 H2 { s' with heap := h6 } := J.landed nb fl6.1 (up5.trans up6) os ag
          refine wpAny_mono ((hsu a oe6 cls d (X.pn ++ pins) hz6 ⟨_, hd6⟩).run [] _ _ H2 _ (J6.suite he6 hd6 na nL nF) (hyes rfl a na)) ?_ (fun _ _ z => z.elim)
          intro f s7 got
          match f, got with
          | .next, ⟨σ7, H7, S7, q7⟩ => exact ⟨_, _, S7.unsuite ok, q7⟩
          | .brk, ⟨σ7, H7, S7, q7⟩ => exact ⟨_, _, S7.unsuite ok, q7⟩
          | .cont, ⟨σ7, H7, S7, q7⟩ => exact ⟨_, _, S7.unsuite ok, q7⟩
          | .ret u, ⟨v7, σ7, H7, S7, r7, q7⟩ => exact ⟨_, _, _, S7.unsuite ok, r7, q7⟩
      | @named t m n i ts b0 suite np hds3 l3 ht hi hln hsu r ih =>
        intro w h4 fl4 up4
        obtain ⟨b, hb1, hyes, hno⟩ := w
        refine wpAny_handleBy_cons (codeAny_handlers_test ?_) (by intro q; cases q)
        refine ask ht hb1 fl4 up4 ?_
        intro h5 fl5 up5
        cases b with
        | false => exact ih (hno rfl) h5 fl5 up5
        | true =>
          apply codeAny_handlers_suite_as
          refine HandSPX.lands_againZ fl5 ?_
          intro h6 fl6 up6
          obtain ⟨oe6, vs6, he6, hz6, hd6⟩ := fl6.there
          have J6 : Inv X pins σ2 H2 { s' with heap := h6 } := J.landed nb fl6.1 (up5.trans up6) os ag
          refine store_ok (X := X.suite a ((a, oe6) :: (X.pn ++ pins))) (v := .ref a) (J6.suite he6 hd6 na nL nF) hN hi (.inl hln) rfl (fun s7 S7 => ?_) (.inr hln)
          refine wpAny_mono ((hsu a oe6 cls d (X.pn ++ pins) hz6 ⟨_, hd6⟩).run [] s7 _ H2 _ S7 (hyes rfl a na)) ?_ (fun _ _ z => z.elim)
          intro f s8 got
          match f, got with
          | .next, ⟨σ8, H8, S8, q8⟩ => exact gone_ok (S8.unsuite ok) hN hi hln fun s9 J9 => ⟨_, _, J9, q8⟩
          | .brk, ⟨σ8, H8, S8, q8⟩ => exact gone_ok (S8.unsuite ok) hN hi hln fun s9 J9 => ⟨_, _, J9, q8⟩
          | .cont, ⟨σ8, H8, S8, q8⟩ => exact gone_ok (S8.unsuite ok) hN hi hln fun s9 J9 => ⟨_, _, J9, q8⟩
          | .ret u, ⟨v8, σ8, H8, S8, r8, q8⟩ => exact gone_ok (S8.unsuite ok) hN hi hln fun s9 J9 => ⟨_, _, _, J9, r8, q8⟩
    exact go hh w h3 fl3 (up.trans up3)
end
end Gx
/-! R2 -/
set_option Elab.async false
set_option linter.all false
set_option maxRecDepth 100000
set_option maxHeartbeats 4000000
namespace Gd
open PySem PySem.Spec PyProof.Rows L2
section
variable {X : Cx}
/-! ### a power with a bounded result -/
def CPowB (i j : Int) : Prop := 0 ≤ j ∧ (Builtin.Int.intBits i : Int) * j ≤ 2 ^ 27
theorem op_powB : OpR X (binaryOp .Pow) (rI CPowB fun i j => .int (i ^ j.toNat)) := opI fun _ _ _ _ _ _ _ hc q => pow_int hc.1 hc.2 q
/-! ### text * number -/
def repS (z : Str) (n : Nat) : Str := ⟨(List.replicate n z.cps.toList).flatten.toArray⟩
theorem foldl_cat : ∀ (l : List (Array Nat)) (a : Array Nat), (l.foldl (· ++ ·) a).toList = a.toList ++ (l.map (·.toList)).flatten
  | [], a => by simp
  | x :: l, a => by
    rw [List.foldl_cons, foldl_cat l (a ++ x)]
    simp
theorem mul_rep (z : Str) (n : Int) (h1 : 0 ≤ n) : Txt.mul z n = repS z n.toNat := by
  have hz : z = ⟨z.cps⟩ := rfl
  unfold Txt.mul repS
  by_cases h : n < 1
  · rw [if_pos h]
    have e : n.toNat = 0 := by omega
    rw [e]
    rfl
  · rw [if_neg h]
    by_cases h2 : (n == 1 || z.length == 0) = true
    · rw [if_pos h2, Bool.or_eq_true] at *
      rcases h2 with e | e
      · have e1 : n = 1 := eq_of_beq e
        subst e1
        show z = _
        have : (List.replicate (Int.toNat 1) z.cps.toList).flatten.toArray = z.cps := by
          show (List.replicate 1 z.cps.toList).flatten.toArray = z.cps
          simp
        rw [this]
      · have e1 : z.cps.toList = [] := by
          have : z.cps.size = 0 := eq_of_beq e
          exact List.eq_nil_of_length_eq_zero (by rw [Array.length_toList]; exact this)
        have : (List.replicate n.toNat z.cps.toList).flatten = [] := by
          rw [e1]
          exact List.flatten_eq_nil_iff.mpr fun l hl => (List.mem_replicate.mp hl).2
        rw [this]
        show z = ⟨#[]⟩
        cases z with
        | mk c => 
          have : c = #[] := Array.toList_inj.mp (by simpa using e1)
          rw [this]
    · rw [if_neg h2]
      congr 1
      apply Array.toList_inj.mp
      rw [foldl_cat]
      simp
def rMulS : R2 := fun x y H Q => ∃ (z : Str) (n : Int), x = .str z ∧ y = .int n ∧ 0 ≤ n ∧ n ≤ 1000 ∧ z.length ≤ 1000 ∧ Q (.str (repS z n.toNat)) H
theorem op_mul_str : OpR X (binaryOp .Mult) rMulS := by
  intro pins s σ H x y v u Q I rx ry h
  obtain ⟨z, n, rfl, rfl, h0, h1, h2, q⟩ := h
  obtain ⟨t, rfl⟩ := rx
  obtain ⟨t', rfl⟩ := ry
  refine SB.mul (n := n) ⟨?_, ?_, ?_⟩ fun t' k => ⟨.str (repS z n.toNat), H, I.tok _, ⟨t', by rw [mul_rep z n h0]⟩, q⟩
  · have a : ¬ n < -(2 ^ 63 : Int) := by omega
    have b : ¬ n ≥ (2 ^ 63 : Int) := by omega
    rw [decide_eq_false a, decide_eq_false b]
    rfl
  · intro _ _ g
    have p : 0 < n := by
      rcases Int.lt_or_le 0 n with p | p
      · exact p
      · have : n = 0 := by omega
        subst this
        omega
    have : ((2 : Int) ^ 63 - 1) / 1000 ≤ (2 ^ 63 - 1) / n := Int.le_ediv_of_mul_le p (by
      have : ((2 : Int) ^ 63 - 1) / 1000 * n ≤ (2 ^ 63 - 1) / 1000 * 1000 := Int.mul_le_mul_of_nonneg_left h1 (by decide)
      exact Int.le_trans this (by decide))
    have c : (1000 : Int) ≤ (2 ^ 63 - 1) / 1000 := by decide
    have : (z.length : Int) ≤ 1000 := by omega
    omega
  · intro _ _
    have : z.length * n.toNat ≤ 1000 * 1000 := Nat.mul_le_mul h2 (by omega)
    have b : 1000 * 1000 ≤ sizeLine := by decide
    exact decide_eq_false (by omega)
/-! ### list(text) -/
def signsV (z : Str) : List V := z.cps.toList.map fun c => V.str ⟨#[c]⟩
theorem vals_of_signs (z : Str) (acc : Array Value) (h : ItemsOf (SignAt z) acc z.cps.size) : Vals (signsV z) acc.toList := by
  have key : ∀ (l : List Nat) (us : List Value), l.length = us.length → (∀ (j : Nat) (v : Value), us[j]? = some v → ∃ c u, l[j]? = some c ∧ v = .str ⟨#[c]⟩ u) → Vals (l.map fun c => V.str ⟨#[c]⟩) us := by
    intro l
    induction l with
    | nil =>
      intro us e _
      cases us with
      | nil => exact .nil
      | cons _ _ => cases e
    | cons c l ih =>
      intro us e g
      cases us with
      | nil => cases e
      | cons v us =>
        obtain ⟨c', u, h1, h2⟩ := g 0 v rfl
        have : c = c' := Option.some.inj h1
        subst this
        refine .cons ⟨u, h2⟩ (ih us (Nat.succ.inj e) fun j v hv => ?_)
        obtain ⟨c2, u2, h3, h4⟩ := g (j + 1) v hv
        exact ⟨c2, u2, h3, h4⟩
  refine key z.cps.toList acc.toList (by rw [Array.length_toList, Array.length_toList]; exact h.1.symm) fun j v hv => ?_
  obtain ⟨c, u, h1, h2⟩ := h.2 j v (by simpa using hv)
  exact ⟨c, u, by simpa using h1, h2⟩
def rListS : List V → Hp → VK → Prop := fun xs H Q => ∃ z, xs = [.str z] ∧ z.length ≤ sizeLine ∧ ∀ l, H l = none → Q (.ref l) (upd H l (.lst (signsV z)))
theorem call_listS (hc : X.calm = true) : CallR X (.type "list") rListS := by
  intro pins s σ H xs us Q I r h
  obtain ⟨z, rfl, hz, q⟩ := h
  obtain ⟨u, rfl, t, rfl⟩ := vals1 r
  refine PySem.call_list_str (I.ok.hd hc) z t (fun h' tk acc' c' hk hS hA => ?_) hz
  have rv := vals_of_signs z acc' hA
  have new : ObjOk X.prog X.w (upd H s.heap.objs.size (.lst (signsV z))) h' s.heap.objs.size (.lst (signsV z)) :=
    ⟨by unfold signsV; rw [List.length_map, Array.length_toList]; exact hz, acc'.toList, c', rv, by simpa using hS⟩
  exact ⟨.ref s.heap.objs.size, _, I.laid (t' := tk) hk (Nat.le_refl _) new, rfl, q _ (I.hok.fresh (Nat.le_refl _))⟩
/-! ### repr of data, where no repr is under way -/
def rRepr (K : PySem.W.Frag) : List V → Hp → VK → Prop := fun xs H Q => ∃ (a : Addr) (d : PyData), xs = [.ref a] ∧ Dp K H (.ref a) d ∧ d.showable = true ∧ d.hasDict = false ∧ d.depth ≤ 40 ∧ d.shown.length ≤ sizeLine ∧ Q (.str d.shown) H
theorem call_reprD (gd : X.A.guards = some []) (hu : X.A.units + 64 < cLine) : CallR X (.builtin "repr") (rRepr X.K) := by
  intro pins s σ H xs us Q I r h
  obtain ⟨a, d, rfl, hd, h1, h2, h3, h4, q⟩ := h
  obtain ⟨u, rfl, rx⟩ := vals1 r
  obtain ⟨as, rd⟩ := Dp.reads I d (.ref a) u hd rx
  have rx' : u = Value.ref a := rx
  subst rx'
  exact repr_of_reads' rd h1 (PyData.noDict_hsm h2) gd (by omega) (fun _ _ e => e) (fun h' u tk hk => ⟨.str d.shown, H, I.kept (t' := tk) hk, ⟨u, rfl⟩, q⟩) h4
end
end Gd
/-! R3 -/
set_option Elab.async false
set_option linter.all false
set_option maxRecDepth 100000
set_option maxHeartbeats 4000000
/-! R3: the rules whose reading names the written part, with that part given (so that they serve inside a comprehension). -/
namespace Gd
open PySem PySem.Spec PyProof.Rows L2
section
variable {X : Cx} (K : PySem.W.Frag) (h : X.K = K := by rfl)
include h
theorem ix_listK : IxR X (rIxL K) := by subst h; exact ix_list
theorem ix_tupK : IxR X (rIxT K) := by subst h; exact ix_tup
theorem op_in_seqK : OpR X (compareOp .In) (rIn K false) := by subst h; exact op_in_seq
theorem op_notIn_seqK : OpR X (compareOp .NotIn) (rIn K true) := by subst h; exact op_notIn_seq
theorem sl_listK : SlR X (rSlL K) := by subst h; exact sl_list
theorem sl_tupK : SlR X (rSlA K) := by subst h; exact sl_tupA
theorem op_catTK : OpR X (binaryOp .Add) (rCatA K) := by subst h; exact op_catA
theorem call_isiK1 : CallR X (.builtin "isinstance") (rIsi K) := by subst h; exact call_isi
theorem cr_sortedSK : CallR X (.builtin "sorted") (rSortedS K) := by subst h; exact cr_sortedS
theorem call_lenK : CallR X (.builtin "len") (fun xs H Q => ∃ p ys, xs = [.ref p] ∧ (SqL K H p ys ∨ SqT K H p ys) ∧ Q (.int ys.length) H) := by subst h; exact call_len_seq
theorem call_listK : CallR X (.type "list") (fun xs H Q => ∃ p ys, xs = [.ref p] ∧ (SqL K H p ys ∨ SqT K H p ys) ∧ ∀ l, H l = none → Q (.ref l) (upd H l (.lst ys))) := by subst h; exact call_list_of
theorem call_tupleK : CallR X (.type "tuple") (fun xs H Q => ∃ p ys, xs = [.ref p] ∧ ((SqL K H p ys ∧ ∀ l, H l = none → Q (.ref l) (upd H l (.tup ys))) ∨ (SqT K H p ys ∧ Q (.ref p) H))) := by subst h; exact call_tuple_of
end
section
variable {X : Cx} (K : PySem.W.Frag)
theorem cr_allK (hc : X.calm = true) (h : X.K = K := by rfl) : CallR X (.builtin "all") (rAll K) := by subst h; exact cr_all hc
theorem cr_anyK (hc : X.calm = true) (h : X.K = K := by rfl) : CallR X (.builtin "any") (rAny K) := by subst h; exact cr_any hc
theorem op_eqDK (hu : X.A.units + 64 < cLine) (h : X.K = K := by rfl) : OpR X (compareOp .Eq) (rEqD K) := by subst h; exact op_eqD hu
theorem op_neDK (hu : X.A.units + 64 < cLine) (h : X.K = K := by rfl) : OpR X (compareOp .NotEq) (rNeD K) := by subst h; exact op_neD hu
theorem call_reprK (gd : X.A.guards = some []) (hu : X.A.units + 64 < cLine) (h : X.K = K := by rfl) : CallR X (.builtin "repr") (rRepr K) := by subst h; exact call_reprD gd hu
variable {e o : Expr} {es : List Expr} {to te : TE} {t : TA} {name f : Str} {apos cpos pos : Pos} {T id : String} {r : V → List V → Hp → VK → Prop}
theorem pe_bmK (pa : PlainAttrs T) (slot : Slot T name id) (hty : typeOf (.builtin id) = pure (.type "method_descriptor")) (hm : MtR X id r) (ho : PE X o to) (ha : PA X (e :: es) t)
    (h : X.K = K := by rfl) (hbase : attributeBase o name X.env (eval o X.env) = eval o X.env := by rfl)
    (hfew : ((backTo cpos (starEach (e :: es) X.env)).all (fun x => !x.1) && (backToKw cpos (keywordEach [] X.env)).all (fun x => x.1.isSome)
      && decide ((e :: es).length + ([] : List Keyword).length + (if ([] : List Keyword).isEmpty then 0 else 1) < 30)) = true := by rfl)
    (hline : (apos.endLine == cpos.line) = true := by rfl) (hs : starEach (e :: es) X.env = (false, eval e X.env) :: starEach es X.env := by rfl) (hplain : (backTo cpos (starEach es X.env)).any (·.1) = false := by rfl) :
    PE X (.Call (.Attribute o name apos) (e :: es) [] cpos) (tBM K T r to t) := by
  subst h
  exact pe_bm pa slot hty hm ho ha hbase hfew hline hs hplain
theorem pe_bm0K (pa : PlainAttrs T) (slot : Slot T name id) (hty : typeOf (.builtin id) = pure (.type "method_descriptor")) (hm : MtR X id r) (ho : PE X o to) (h : X.K = K := by rfl)
    (hbase : attributeBase o name X.env (eval o X.env) = eval o X.env := by rfl) (hline : (apos.endLine == cpos.line) = true := by rfl) : PE X (.Call (.Attribute o name apos) [] [] cpos) (tBM0 K T r to) := by
  subst h
  exact pe_bm0 pa slot hty hm ho hbase hline
def rJoin (K : PySem.W.Frag) : V → List V → Hp → VK → Prop := fun x xs H Q => ∃ a p, ∃ ys : List Str, x = .str a ∧ xs = [.ref p] ∧ (SqL K H p (ys.map V.str) ∨ SqT K H p (ys.map V.str)) ∧
      (ys.map (·.length)).sum + ys.length * a.length ≤ 16777216 ∧ Q (.str (Txt.join a ys)) H
theorem pe_joinK (ho : PE X o to) (he : PE X e te) (h : X.K = K := by rfl) (hs : starEach [e] X.env = [(false, eval e X.env)] := by rfl) (hbase : attributeBase o "join" X.env (eval o X.env) = eval o X.env := by rfl) (hline : (apos.endLine == pos.line) = true := by rfl) :
    PE X (.Call (.Attribute o "join" apos) [e] [] pos) (tM1 (rJoin K) to te) := by
  subst h
  exact pe_join ho he hs hbase hline
theorem pe_fldK (he : PE X e te) (hb : attributeBase e f X.env (eval e X.env) = eval e X.env) (h : X.K = K := by rfl) : PE X (.Attribute e f pos) (tFld K te f) := by
  subst h
  exact pe_fld he hb
end
theorem pg_tupK {X : Cx} (K : PySem.W.Frag) (n : Nat) {es : List Expr} {k : Nat} {pos : Pos} {t : TGs} (hc : X.calm = true) (g : PGs X es t) (h : X.K = K := by rfl)
    (hn : (assignEach es X.env).length = n := by rfl) (hst : (assignEach es X.env).findIdx? (·.1) = none := by rfl) : PG X (.Tuple es k pos) (gTup K n t) := by
  subst h
  exact pg_tup hc g hn hst
/-- the empty tuple -/
theorem pe_tup0 {X : Cx} {j : Nat} {pos : Pos} : PE X (.Tuple [] j pos) (tTup tNil) := pe_tup pa_nil
end Gd
/-! R4 -/
set_option Elab.async false
set_option linter.all false
set_option maxRecDepth 100000
set_option maxHeartbeats 4000000
namespace Gd
open PySem PySem.Spec PyProof.Rows L2
theorem same_new {H : Hp} {p : Addr} (h : H p = none) (o : HO) : Same H (upd H p o) := fun b x e => by
  rw [upd_ne (ne_of_none e h)]
  exact e
/-- a comprehension whose turns change nothing that stood: the items xs, those that pass, what is made of them -/
theorem lc_pure {J : It} {xs : List V} {G : Hp → Prop} (w : Walk J xs.length G (fun i H x H' => Same H H' ∧ xs[i]? = some x)) {g : TG} {tt : TT} {te : TE} {vs : List Nat} {σ : L2.St} {H1 : Hp} {D : Addr} {Qd : Hp → Prop}
    (p : V → Bool) (f : V → V) (nD : H1 D = none) (hn : xs.length ≤ 100000) (hG : ∀ H, Same H1 H → G H)
    (hs : ∀ x H (N1 : VK) (N0 : Hp → Prop), x ∈ xs → Same H1 H → (p x = true → ∀ H', Same H H' → N1 (f x) H') → (p x = false → ∀ H', Same H H' → N0 H') →
      g x (wipe σ vs) H fun σ2 H2 => wipe σ2 vs = wipe σ vs ∧ tt σ2 H2 fun b H3 => if b = true then te σ2 H3 N1 else N0 H3)
    (hd : ∀ H, Same H1 H → H D = some (.lst ((xs.filter p).map f)) → Qd H) :
    ∃ W : Nat → Nat → Hp → Prop, (∃ m, W 0 m (upd H1 D (.lst []))) ∧ ∀ i m H, W i m H →
      (J.stop i H ∧ Qd H) ∨ (J.go i H ∧ ∃ Nx : Hp → Prop, (∀ H', Nx H' → ∃ m', m' < m ∧ W (i + 1) m' H') ∧ ∀ x H', J.yld i H x H' → g x (wipe σ vs) H' fun σ2 H2 => wipe σ2 vs = wipe σ vs ∧ tt σ2 H2 fun b H3 =>
        if b = true then te σ2 H3 fun y H4 => ∃ acc, H4 D = some (.lst acc) ∧ acc.length < sizeLine ∧ Nx (upd H4 D (.lst (acc ++ [y]))) else Nx H3) := by
  refine lc_it w (fun i H => Same H1 H ∧ H D = some (.lst (((xs.take i).filter p).map f))) ⟨same_new nD _, upd_same⟩ (fun i H _ q => hG H q.1) ?_ ?_
  · rintro i x H H' hi ⟨s1, eD⟩ ⟨s2, ex⟩
    have mem : x ∈ xs := List.mem_of_getElem? ex
    have tk : xs.take (i + 1) = xs.take i ++ [x] := by rw [List.take_add_one, ex]; rfl
    refine hs x H' _ _ mem (s1.trans s2) (fun hp H4 s4 => ?_) (fun hp H3 s3 => ?_)
    · have eD4 : H4 D = some (.lst (((xs.take i).filter p).map f)) := s4 _ _ (s2 _ _ eD)
      refine ⟨_, eD4, ?_, ?_, ?_⟩
      · have a1 : (((xs.take i).filter p).map f).length ≤ 100000 := by
          rw [List.length_map]
          refine Nat.le_trans (List.length_filter_le _ _) ?_
          rw [List.length_take]
          omega
        exact Nat.lt_of_le_of_lt a1 (by decide)
      · intro b o e
        have hbD : b ≠ D := ne_of_none e nD
        rw [upd_ne hbD]
        exact s4 _ _ (s2 _ _ (s1 _ _ e))
      · rw [upd_same, tk, List.filter_append, List.map_append]
        have : [x].filter p = [x] := by simp [hp]
        rw [this]
        rfl
    · refine ⟨fun b o e => s3 _ _ (s2 _ _ (s1 _ _ e)), ?_⟩
      have : [x].filter p = [] := by simp [hp]
      rw [tk, List.filter_append, this, List.append_nil]
      exact s3 _ _ (s2 _ _ eD)
  · rintro H ⟨s1, eD⟩
    rw [List.take_length] at eD
    exact hd H s1 eD
/-- the same over pairs that are made on the way -/
theorem lc_pair {J : It} {xs ys : List V} {n : Nat} {G : Hp → Prop} (w : Walk J n G (YPair (fun i => xs[i]?) (fun i => ys[i]?))) (hw : n = min xs.length ys.length) {g : TG} {tt : TT} {te : TE} {vs : List Nat} {σ : L2.St} {H1 : Hp} {D : Addr} {Qd : Hp → Prop}
    (f : V → V → V) (nD : H1 D = none) (hn : n ≤ 100000) (hG : ∀ H, Same H1 H → G H)
    (hs : ∀ x y T H (N1 : VK) (N0 : Hp → Prop), x ∈ xs → y ∈ ys → Same H1 H → H T = some (.tup [x, y]) → (∀ H', Same H H' → N1 (f x y) H') →
      g (.ref T) (wipe σ vs) H fun σ2 H2 => wipe σ2 vs = wipe σ vs ∧ tt σ2 H2 fun b H3 => if b = true then te σ2 H3 N1 else N0 H3)
    (hd : ∀ H, Same H1 H → H D = some (.lst (List.zipWith f xs ys)) → Qd H) :
    ∃ W : Nat → Nat → Hp → Prop, (∃ m, W 0 m (upd H1 D (.lst []))) ∧ ∀ i m H, W i m H →
      (J.stop i H ∧ Qd H) ∨ (J.go i H ∧ ∃ Nx : Hp → Prop, (∀ H', Nx H' → ∃ m', m' < m ∧ W (i + 1) m' H') ∧ ∀ x H', J.yld i H x H' → g x (wipe σ vs) H' fun σ2 H2 => wipe σ2 vs = wipe σ vs ∧ tt σ2 H2 fun b H3 =>
        if b = true then te σ2 H3 fun y H4 => ∃ acc, H4 D = some (.lst acc) ∧ acc.length < sizeLine ∧ Nx (upd H4 D (.lst (acc ++ [y]))) else Nx H3) := by
  refine lc_it w (fun i H => Same H1 H ∧ H D = some (.lst ((List.zipWith f xs ys).take i))) ⟨same_new nD _, upd_same⟩ (fun i H _ q => hG H q.1) ?_ ?_
  · rintro i v H H' hi ⟨s1, eD⟩ ⟨T, x, y, rfl, nT, rfl, ex, ey⟩
    have s2 : Same H (upd H T (.tup [x, y])) := same_new nT _
    have ez : (List.zipWith f xs ys)[i]? = some (f x y) := by
      rw [List.getElem?_zipWith]
      have ex' : xs[i]? = some x := ex
      have ey' : ys[i]? = some y := ey
      rw [ex', ey']
    have tk : (List.zipWith f xs ys).take (i + 1) = (List.zipWith f xs ys).take i ++ [f x y] := by rw [List.take_add_one, ez]; rfl
    refine hs x y T _ _ _ (List.mem_of_getElem? ex) (List.mem_of_getElem? ey) (s1.trans s2) upd_same (fun H4 s4 => ?_)
    refine ⟨_, s4 _ _ (s2 _ _ eD), ?_, ?_, ?_⟩
    · have : ((List.zipWith f xs ys).take i).length ≤ 100000 := by
        rw [List.length_take, List.length_zipWith]
        omega
      exact Nat.lt_of_le_of_lt this (by decide)
    · intro b o e
      rw [upd_ne (ne_of_none e nD)]
      exact s4 _ _ (s2 _ _ (s1 _ _ e))
    · rw [upd_same, tk]
  · rintro H ⟨s1, eD⟩
    refine hd H s1 ?_
    rw [List.take_of_length_le (by rw [List.length_zipWith]; omega)] at eD
    exact eD
theorem walk_zipT {K : PySem.W.Frag} {a b : Addr} {xs ys : List V} {n : Nat} (hn : n = min xs.length ys.length) : Walk (RZ.ItzT K a b) n (fun H => SqT K H a xs ∧ SqT K H b ys) (YPair (fun i => xs[i]?) (fun i => ys[i]?)) := by
  subst hn
  constructor
  · intro i H hi q
    have h1 : i < xs.length := by omega
    have h2 : i < ys.length := by omega
    exact ⟨xs, ys, xs[i], ys[i], q.1, q.2, by simp [h1], by simp [h2]⟩
  · exact fun H q => ⟨xs, ys, q.1, q.2, by omega⟩
  · intro i H v H' hi q y
    obtain ⟨T, x, z, h1, h2, h3, h4, h5⟩ := y
    exact ⟨T, x, z, h1, h2, h3, h4 xs q.1, h5 ys q.2⟩
theorem walk_strV {z : Str} : Walk (Its z) (signsV z).length (fun _ => True) (fun i H x H' => Same H H' ∧ (signsV z)[i]? = some x) := by
  have e : (signsV z).length = z.cps.size := by unfold signsV; rw [List.length_map, Array.length_toList]
  rw [e]
  refine (walk_str (z := z)).mono (fun _ h => h) ?_
  rintro i H x H' hi _ ⟨rfl, c, hc, rfl⟩
  refine ⟨Same.refl _, ?_⟩
  unfold signsV
  rw [List.getElem?_map, Array.getElem?_toList, hc]
  rfl
theorem walk_tupV {K : PySem.W.Frag} {a : Addr} {xs : List V} : Walk (Itt K a) xs.length (fun H => SqT K H a xs) (fun i H x H' => Same H H' ∧ xs[i]? = some x) :=
  walk_tup.mono (fun _ h => h) fun i H x H' _ _ y => ⟨by rw [y.1]; exact Same.refl _, y.2⟩
theorem walk_lstV {K : PySem.W.Frag} {a : Addr} {xs : List V} : Walk (Itl K a) xs.length (fun H => SqL K H a xs) (fun i H x H' => Same H H' ∧ xs[i]? = some x) :=
  walk_list.mono (fun _ h => h) fun i H x H' _ _ y => ⟨by rw [y.1]; exact Same.refl _, y.2⟩
end Gd
/-! R16 -/
set_option Elab.async false
set_option linter.all false
set_option maxRecDepth 100000
set_option maxHeartbeats 4000000
/-! R16: repr of any value that is shown, isinstance of a caught error, tables of classes. -/
namespace Gx
open PySem PySem.Spec PyProof.Rows L2 Gd
/-- the value v is shown as z -/
inductive Sv (K : PySem.W.Frag) (H : Hp) : V → Str → Prop where
  | int {i : Int} (h : i.natAbs.log2 < 1920) : Sv K H (.int i) (toString i)
  | str {x : Str} (h : (reprText x).length ≤ sizeLine) : Sv K H (.str x) (reprText x)
  | bl (b : Bool) : Sv K H (.bl b) (if b then "True" else "False")
  | non : Sv K H .non "None"
  | dat {a : Addr} {d : PyData} (h : Dp K H (.ref a) d) (h1 : d.showable = true) (h2 : d.hasDict = false) (h3 : d.depth ≤ 40) (h4 : d.shown.length ≤ sizeLine) : Sv K H (.ref a) d.shown
  | emp {a : Addr} (h : H a = some (.dK [])) : Sv K H (.ref a) (PyData.dict []).shown
def rSv (K : PySem.W.Frag) : List V → Hp → VK → Prop := fun xs H Q => ∃ v z, xs = [v] ∧ Sv K H v z ∧ Q (.str z) H
theorem call_sv (K : PySem.W.Frag) {X : Cx} (gd : X.A.guards = some []) (hu : X.A.units + 64 < cLine) (hK : X.K = K := by rfl) : CallR X (.builtin "repr") (rSv K) := by
  subst hK
  intro pins s σ H xs us Q I r h
  obtain ⟨v, z, rfl, sv, q⟩ := h
  cases sv with
  | int hi =>
    obtain ⟨u, rfl, t, rfl⟩ := vals1 r
    exact PySem.P.repr_of_int hi ⟨.str _, H, I.tok _, ⟨_, rfl⟩, q⟩
  | str hx =>
    obtain ⟨u, rfl, t, rfl⟩ := vals1 r
    exact PySem.P.repr_of_str ⟨.str _, H, I.tok _, ⟨_, rfl⟩, q⟩ hx
  | bl b =>
    obtain ⟨u, rfl, rx⟩ := vals1 r
    cases rx
    exact PySem.P.repr_of_bool ⟨.str _, H, I.tok _, ⟨_, rfl⟩, q⟩
  | non =>
    obtain ⟨u, rfl, rx⟩ := vals1 r
    cases rx
    exact PySem.P.repr_of_none ⟨.str _, H, I.tok _, ⟨_, rfl⟩, q⟩
  | dat h h1 h2 h3 h4 => exact call_reprD gd hu pins s σ H _ us Q I r ⟨_, _, rfl, h, h1, h2, h3, h4, q⟩
  | @emp a h =>
    obtain ⟨u, rfl, rx⟩ := vals1 r
    obtain rfl : u = Value.ref a := rx
    obtain ⟨hz, hsm, vs, kv, dof⟩ := dk_of I.hok h
    have hd2 : (PyData.dict []).depth ≤ 2 := by decide +kernel
    have hdep : X.A.units + ((PyData.dict []).depth + 1) < cLine := by omega
    have rd : Reads s.heap (.ref a) (.dict []) (a :: [] ++ []) := by
      cases kv
      obtain ⟨o, es, n, e1, e2, e3, e4, e5⟩ := dof
      have e6 : es.toList = [] := by
        cases hes : es.toList with
        | nil => rfl
        | cons x xs =>
          rw [hes] at e5
          cases e5.1
      exact Reads.dict e1 e2.1 e3 (by rw [e6]; exact .nil) (by rw [e6]; exact .nil)
    refine repr_of_reads' rd (by decide +kernel) ?_ gd hdep (fun _ _ e => e) (fun h' u tk hk => ⟨.str _, H, I.kept (t' := tk) hk, ⟨u, rfl⟩, q⟩) (by decide +kernel)
    intro _ m
    have : sysModules = a := by simpa using m
    subst this
    exact absurd hsm (by decide)
theorem call_isC {X : Cx} (K : PySem.W.Frag) {a : Addr} {oe : Obj} {cls : Value} {d : Option Addr} {pn : List (Addr × Obj)} (hz : Zc cls d oe) (hf : ∃ vs, oe.data = .fields vs) (hK : X.K = K := by rfl) : CallR (X.suite a ((a, oe) :: pn)) (.builtin "isinstance")
    (fun xs H Q => ∃ (D : Addr) (c : V) (cv : Value) (b : Bool), xs = [.ref a, c] ∧ cls = .ref D ∧ d = none ∧ ExcC K D ∧ ClsV c cv ∧ PySem.W.kitOne K (.ref D) cv = some b ∧ Q (.bl b) H) := by
  subst hK
  intro pins s σ H xs us Q I r h
  obtain ⟨D, c, cv, b, rfl, rfl, rfl, T, kc, e, q⟩ := h
  exact call_isE T hz hf pins s σ H _ us Q I r ⟨c, cv, b, rfl, fun u ru => kc.eq ru, e, q⟩
/-! ### tables of what the written part says of pairs of classes -/
def tabK (K : PySem.W.Frag) (xs ys : List Value) : List (List (Option Bool)) := xs.map fun x => ys.map fun y => PySem.W.kitOne K x y
def tabX (K : PySem.W.Frag) (xs ys : List Value) : List (List (Option Bool)) := xs.map fun x => ys.map fun y => PySem.W.exmOne K x y
theorem tabK_at {K : PySem.W.Frag} {xs ys : List Value} {t : List (List (Option Bool))} (h : tabK K xs ys = t) {i j : Nat} {x y : Value} {r : Option Bool} (hx : xs[i]? = some x) (hy : ys[j]? = some y) (hr : (t[i]?.bind fun l => l[j]?) = some r) : PySem.W.kitOne K x y = r := by
  subst h
  unfold tabK at hr
  rw [List.getElem?_map, hx, Option.map_some, Option.bind_some, List.getElem?_map, hy] at hr
  exact Option.some.inj hr
theorem tabX_at {K : PySem.W.Frag} {xs ys : List Value} {t : List (List (Option Bool))} (h : tabX K xs ys = t) {i j : Nat} {x y : Value} {r : Option Bool} (hx : xs[i]? = some x) (hy : ys[j]? = some y) (hr : (t[i]?.bind fun l => l[j]?) = some r) : PySem.W.exmOne K x y = r := by
  subst h
  unfold tabX at hr
  rw [List.getElem?_map, hx, Option.map_some, Option.bind_some, List.getElem?_map, hy] at hr
  exact Option.some.inj hr
end Gx
namespace Gx
open PySem PySem.Spec PyProof.Rows L2 Gd
def ecB (K : PySem.W.Frag) (C : Addr) : Bool := decide (PySem.W.findIn K (.ref C) "__getattribute__" = some (some (.builtin "BaseException.__getattribute__"))) && (decide (PySem.W.findIn K (.ref C) "__getattr__" = some none) &&
  (decide (PySem.W.subIn K (.ref C) (.type "BaseException") = some true) && (PySem.W.hasDictIn K C && (decide (PySem.W.findIn K (.ref C) "__class__" = some (some (.builtin "object.__class__"))) &&
  (decide (PySem.W.specialIn K (.builtin "object.__class__") "__get__" = some (some (.builtin "getset_descriptor.__get__"))) && (decide (PySem.W.takesIn K (.builtin "object.__class__") = some true) && decide (PySem.W.mroIn K C (.type "object") = some true)))))))
theorem ecB_ok {K : PySem.W.Frag} {C : Addr} (h : ecB K C = true) : ExcC K C := by
  obtain ⟨h1, h⟩ := Bool.and_eq_true_iff.mp h
  obtain ⟨h2, h⟩ := Bool.and_eq_true_iff.mp h
  obtain ⟨h3, h⟩ := Bool.and_eq_true_iff.mp h
  obtain ⟨h4, h⟩ := Bool.and_eq_true_iff.mp h
  obtain ⟨h5, h⟩ := Bool.and_eq_true_iff.mp h
  obtain ⟨h6, h⟩ := Bool.and_eq_true_iff.mp h
  obtain ⟨h7, h8⟩ := Bool.and_eq_true_iff.mp h
  exact ⟨of_decide_eq_true h1, of_decide_eq_true h2, of_decide_eq_true h3, h4, of_decide_eq_true h5, of_decide_eq_true h6, of_decide_eq_true h7, of_decide_eq_true h8⟩
end Gx
/-! R17 -/
set_option Elab.async false
set_option linter.all false
set_option maxRecDepth 100000
set_option maxHeartbeats 4000000
/-! R17: range(n) as a value, list(range(n)) of a small n. -/
namespace Gx
open PySem PySem.Spec PyProof.Rows L2 Gd
section
variable {X : Cx}
theorem cr_rng1 : CallR X (.type "range") (fun vs H Q => ∃ j, vs = [V.int j] ∧ ∀ p, H p = none → Q (.ref p) (upd H p (.rng 0 j))) := by
  intro pins s σ H vs us Q I r h
  obtain ⟨j, rfl, q⟩ := h
  obtain ⟨u1, rfl, t, rfl⟩ := vals1 r
  refine call_range_1 ⟨.ref s.heap.objs.size, upd H s.heap.objs.size (.rng 0 j), I.laid (t' := s.toks + 1 + 1) (fun b o e => Heap.get?_push_of_some _ e) (Nat.le_refl _) ?_, rfl, q _ (I.hok.fresh (Nat.le_refl _))⟩
  exact ⟨_, _, _, Heap.get?_push_size _ rfl⟩
/-- n numbers from k on -/
def rowOf : Nat → Nat → List V
  | _, 0 => []
  | k, n + 1 => V.int (Int.ofNat k) :: rowOf (k + 1) n
theorem rowOf_len : ∀ (n k : Nat), (rowOf k n).length = n
  | 0, _ => rfl
  | n + 1, k => congrArg (· + 1) (rowOf_len n (k + 1))
theorem vals_row : ∀ (its : List Value) (k n : Nat), its.length = n → (∀ i v, its[i]? = some v → ∃ t, v = Value.int (Int.ofNat (k + i)) t) → Vals (rowOf k n) its
  | [], k, n, hl, h => by
    subst hl
    exact .nil
  | x :: r, k, n, hl, h => by
    subst hl
    obtain ⟨t, e⟩ := h 0 x rfl
    refine Paired.cons ⟨t, e⟩ (vals_row r (k + 1) r.length rfl ?_)
    intro i v e2
    obtain ⟨t2, e3⟩ := h (i + 1) v e2
    exact ⟨t2, by rw [e3]; congr 2; omega⟩
theorem call_rng14 (hc : X.calm = true) : CallR X (.type "list") (fun xs H Q => ∃ (p : Addr), xs = [.ref p] ∧ H p = some (.rng 0 14) ∧ ∀ l, H l = none → Q (.ref l) (upd H l (.lst (rowOf 0 14)))) := by
  intro pins s σ H xs us Q I r h
  obtain ⟨p, rfl, hp, q⟩ := h
  obtain ⟨u, rfl, rx⟩ := vals1 r
  obtain rfl : u = Value.ref p := rx
  obtain ⟨t, u, v, hr⟩ := I.hok p _ hp
  refine call_list_range (n := 14) (I.ok.hd hc) hr (by decide +kernel) (by decide +kernel) (by decide) ?_
  intro h' tk acc c kp e it
  refine ⟨.ref s.heap.objs.size, _, I.laid (t' := tk) kp (Nat.le_refl _) (o := .lst (rowOf 0 14)) ?_, rfl, q _ (I.hok.fresh (Nat.le_refl _))⟩
  refine ⟨by decide, acc.toList, c, vals_row _ 0 14 it.1 ?_, e⟩
  intro i v e2
  obtain ⟨t2, e3⟩ := it.2 i v (by rw [← e2]; exact Array.getElem?_toList.symm)
  refine ⟨t2, ?_⟩
  rw [e3]
  congr 1
  rw [Nat.zero_add, Int.zero_add, Int.mul_one]
  rfl
end
end Gx
/-! B01 -/
set_option Elab.async false
set_option linter.all false
set_option maxRecDepth 100000
set_option maxHeartbeats 4000000
namespace Gx
/-- which built-in classes the class i stands under -/
def ktU : Nat → List Nat
  | 8 => [1, 2]
  | 9 => [1, 3]
  | 10 => [4, 5]
  | 11 => [1]
  | 12 => [4]
  | 13 => [4]
  | _ => [0]
def ktB (i j : Nat) : Bool := if j < 14 then i == j else if j == 14 then decide (i < 8) else (ktU i).contains (j - 15)
def wantK : List (List (Option Bool)) := (List.range 14).map fun i => (List.range 22).map fun j => some (ktB i j)
def wantX : List (List (Option Bool)) := (List.range 14).map fun i => (List.range 15).map fun j => some (ktB i j)
end Gx
namespace W1
open PySem PySem.Spec PyProof.Rows L2 Gd
def topS (i : Nat) : Stmt := PySem.Challenge.pw_eachshare_k01_whole_errors.main.body.getD i (.Pass ⟨0, 0, 0, 0⟩)
def inClass (s : Stmt) (j : Nat) : Stmt := match s with
  | .ClassDef (body := b) .. => b.getD j (.Pass ⟨0, 0, 0, 0⟩)
  | _ => .Pass ⟨0, 0, 0, 0⟩
abbrev s_Unmatched___init__ : Stmt := (inClass (topS 8) 0)
theorem sc_Unmatched___init__ : FnScope ["self", "pair"] ["self", "pair"] (defScope s_Unmatched___init__) := ⟨rfl, rfl, rfl, by decide +kernel, rfl, by decide +kernel, by decide +kernel⟩
abbrev s_ParseError___init__ : Stmt := (inClass (topS 9) 0)
theorem sc_ParseError___init__ : FnScope ["self", "index"] ["self", "index"] (defScope s_ParseError___init__) := ⟨rfl, rfl, rfl, by decide +kernel, rfl, by decide +kernel, by decide +kernel⟩
abbrev s_InvalidNumber___init__ : Stmt := (inClass (topS 10) 0)
theorem sc_InvalidNumber___init__ : FnScope ["self", "value"] ["self", "value"] (defScope s_InvalidNumber___init__) := ⟨rfl, rfl, rfl, by decide +kernel, rfl, by decide +kernel, by decide +kernel⟩
abbrev s_InvalidNumber___str__ : Stmt := (inClass (topS 10) 1)
theorem sc_InvalidNumber___str__ : FnScope ["self"] ["self"] (defScope s_InvalidNumber___str__) := ⟨rfl, rfl, rfl, by decide +kernel, rfl, by decide +kernel, by decide +kernel⟩
abbrev s_UnknownName___init__ : Stmt := (inClass (topS 11) 0)
theorem sc_UnknownName___init__ : FnScope ["self", "name"] ["self", "name"] (defScope s_UnknownName___init__) := ⟨rfl, rfl, rfl, by decide +kernel, rfl, by decide +kernel, by decide +kernel⟩
abbrev s_UnknownName___str__ : Stmt := (inClass (topS 11) 1)
theorem sc_UnknownName___str__ : FnScope ["self"] ["self"] (defScope s_UnknownName___str__) := ⟨rfl, rfl, rfl, by decide +kernel, rfl, by decide +kernel, by decide +kernel⟩
abbrev s_TooMany___init__ : Stmt := (inClass (topS 12) 0)
theorem sc_TooMany___init__ : FnScope ["self", "limit"] ["self", "limit"] (defScope s_TooMany___init__) := ⟨rfl, rfl, rfl, by decide +kernel, rfl, by decide +kernel, by decide +kernel⟩
abbrev s_NothingToUndo___init__ : Stmt := (inClass (topS 13) 0)
theorem sc_NothingToUndo___init__ : FnScope ["self", "many"] ["self", "many"] (defScope s_NothingToUndo___init__) := ⟨rfl, rfl, rfl, by decide +kernel, rfl, by decide +kernel, by decide +kernel⟩
abbrev s_Unsteady___init__ : Stmt := (inClass (topS 14) 0)
theorem sc_Unsteady___init__ : FnScope ["self", "breach"] ["self", "breach"] (defScope s_Unsteady___init__) := ⟨rfl, rfl, rfl, by decide +kernel, rfl, by decide +kernel, by decide +kernel⟩
abbrev s_Refused___init__ : Stmt := (inClass (topS 15) 0)
theorem sc_Refused___init__ : FnScope ["self", "name"] ["self", "name"] (defScope s_Refused___init__) := ⟨rfl, rfl, rfl, by decide +kernel, rfl, by decide +kernel, by decide +kernel⟩
abbrev s_l_jar : Stmt := topS 17
theorem sc_l_jar : FnScope ["script", "at", "cell", "great", "mixed"] ["script", "at"] (defScope s_l_jar) := ⟨rfl, rfl, rfl, by decide +kernel, rfl, by decide +kernel, by decide +kernel⟩
abbrev s_l_sip : Stmt := topS 18
theorem sc_l_sip : FnScope ["jar", "total", "found", "one", "two"] ["jar", "total"] (defScope s_l_sip) := ⟨rfl, rfl, rfl, by decide +kernel, rfl, by decide +kernel, by decide +kernel⟩
abbrev s_l_which : Stmt := topS 19
theorem sc_l_which : FnScope ["jar", "items"] ["jar", "items"] (defScope s_l_which) := ⟨rfl, rfl, rfl, by decide +kernel, rfl, by decide +kernel, by decide +kernel⟩
abbrev s_l_mixed : Stmt := topS 20
theorem sc_l_mixed : FnScope ["jar", "items", "waits", "turn"] ["jar", "items"] (defScope s_l_mixed) := ⟨rfl, rfl, rfl, by decide +kernel, rfl, by decide +kernel, by decide +kernel⟩
abbrev s_l_letter : Stmt := topS 21
theorem sc_l_letter : FnScope ["jar"] ["jar"] (defScope s_l_letter) := ⟨rfl, rfl, rfl, by decide +kernel, rfl, by decide +kernel, by decide +kernel⟩
abbrev s_l_made_plain : Stmt := topS 22
theorem sc_l_made_plain : FnScope ["lot", "value"] ["lot", "value"] (defScope s_l_made_plain) := ⟨rfl, rfl, rfl, by decide +kernel, rfl, by decide +kernel, by decide +kernel⟩
abbrev s_l_made_one : Stmt := topS 23
theorem sc_l_made_one : FnScope ["lot", "value"] ["lot", "value"] (defScope s_l_made_one) := ⟨rfl, rfl, rfl, by decide +kernel, rfl, by decide +kernel, by decide +kernel⟩
abbrev s_l_raised : Stmt := topS 24
theorem sc_l_raised : FnScope ["lot", "value"] ["lot", "value"] (defScope s_l_raised) := ⟨rfl, rfl, rfl, by decide +kernel, rfl, by decide +kernel, by decide +kernel⟩
abbrev s_l_classes : Stmt := topS 25
theorem sc_l_classes : FnScope ["error", "found"] ["error"] (defScope s_l_classes) := ⟨rfl, rfl, rfl, by decide +kernel, rfl, by decide +kernel, by decide +kernel⟩
abbrev s_l_bases : Stmt := topS 26
theorem sc_l_bases : FnScope ["error", "found"] ["error"] (defScope s_l_bases) := ⟨rfl, rfl, rfl, by decide +kernel, rfl, by decide +kernel, by decide +kernel⟩
abbrev s_l_due : Stmt := topS 27
theorem sc_l_due : FnScope ["lot", "some", "at"] ["lot"] (defScope s_l_due) := ⟨rfl, rfl, rfl, by decide +kernel, rfl, by decide +kernel, by decide +kernel⟩
abbrev s_l_is_kept : Stmt := topS 28
theorem sc_l_is_kept : FnScope ["lot", "error", "value"] ["lot", "error", "value"] (defScope s_l_is_kept) := ⟨rfl, rfl, rfl, by decide +kernel, rfl, by decide +kernel, by decide +kernel⟩
abbrev s_l_caught : Stmt := topS 29
theorem sc_l_caught : FnScope ["lot", "value", "error"] ["lot", "value"] (defScope s_l_caught) := ⟨rfl, rfl, rfl, by decide +kernel, rfl, by decide +kernel, by decide +kernel⟩
abbrev s_l_is_caught_by_base : Stmt := topS 30
theorem sc_l_is_caught_by_base : FnScope ["lot", "value"] ["lot", "value"] (defScope s_l_is_caught_by_base) := ⟨rfl, rfl, rfl, by decide +kernel, rfl, by decide +kernel, by decide +kernel⟩
abbrev s_l_worth : Stmt := topS 31
theorem sc_l_worth : FnScope ["jar", "lot", "word", "number", "odd", "at"] ["jar", "lot"] (defScope s_l_worth) := ⟨rfl, rfl, rfl, by decide +kernel, rfl, by decide +kernel, by decide +kernel⟩
abbrev s_l_cell_right : Stmt := topS 32
theorem sc_l_cell_right : FnScope ["jar", "found", "lot", "value", "error"] ["jar"] (defScope s_l_cell_right) := ⟨rfl, rfl, rfl, by decide +kernel, rfl, by decide +kernel, by decide +kernel⟩
abbrev s_law : Stmt := topS 33
theorem sc_law : FnScope ["script", "at"] ["script"] (defScope s_law) := ⟨rfl, rfl, rfl, by decide +kernel, rfl, by decide +kernel, by decide +kernel⟩
structure Tx (K : PySem.W.Frag) (mg : Str → Option Value) where
  a_Unmatched___init__ : Addr
  d_Unmatched___init__ : FuncData
  F_Unmatched___init__ : Fun K "__init__" "Unmatched.__init__" s_Unmatched___init__ a_Unmatched___init__ d_Unmatched___init__
  b_Unmatched___init__ : Binds K d_Unmatched___init__ ["self", "pair"] []
  a_ParseError___init__ : Addr
  d_ParseError___init__ : FuncData
  F_ParseError___init__ : Fun K "__init__" "ParseError.__init__" s_ParseError___init__ a_ParseError___init__ d_ParseError___init__
  b_ParseError___init__ : Binds K d_ParseError___init__ ["self", "index"] []
  a_InvalidNumber___init__ : Addr
  d_InvalidNumber___init__ : FuncData
  F_InvalidNumber___init__ : Fun K "__init__" "InvalidNumber.__init__" s_InvalidNumber___init__ a_InvalidNumber___init__ d_InvalidNumber___init__
  b_InvalidNumber___init__ : Binds K d_InvalidNumber___init__ ["self", "value"] []
  a_InvalidNumber___str__ : Addr
  d_InvalidNumber___str__ : FuncData
  F_InvalidNumber___str__ : Fun K "__str__" "InvalidNumber.__str__" s_InvalidNumber___str__ a_InvalidNumber___str__ d_InvalidNumber___str__
  b_InvalidNumber___str__ : Binds K d_InvalidNumber___str__ ["self"] []
  a_UnknownName___init__ : Addr
  d_UnknownName___init__ : FuncData
  F_UnknownName___init__ : Fun K "__init__" "UnknownName.__init__" s_UnknownName___init__ a_UnknownName___init__ d_UnknownName___init__
  b_UnknownName___init__ : Binds K d_UnknownName___init__ ["self", "name"] []
  a_UnknownName___str__ : Addr
  d_UnknownName___str__ : FuncData
  F_UnknownName___str__ : Fun K "__str__" "UnknownName.__str__" s_UnknownName___str__ a_UnknownName___str__ d_UnknownName___str__
  b_UnknownName___str__ : Binds K d_UnknownName___str__ ["self"] []
  a_TooMany___init__ : Addr
  d_TooMany___init__ : FuncData
  F_TooMany___init__ : Fun K "__init__" "TooMany.__init__" s_TooMany___init__ a_TooMany___init__ d_TooMany___init__
  b_TooMany___init__ : Binds K d_TooMany___init__ ["self", "limit"] []
  a_NothingToUndo___init__ : Addr
  d_NothingToUndo___init__ : FuncData
  F_NothingToUndo___init__ : Fun K "__init__" "NothingToUndo.__init__" s_NothingToUndo___init__ a_NothingToUndo___init__ d_NothingToUndo___init__
  b_NothingToUndo___init__ : Binds K d_NothingToUndo___init__ ["self", "many"] []
  a_Unsteady___init__ : Addr
  d_Unsteady___init__ : FuncData
  F_Unsteady___init__ : Fun K "__init__" "Unsteady.__init__" s_Unsteady___init__ a_Unsteady___init__ d_Unsteady___init__
  b_Unsteady___init__ : Binds K d_Unsteady___init__ ["self", "breach"] []
  a_Refused___init__ : Addr
  d_Refused___init__ : FuncData
  F_Refused___init__ : Fun K "__init__" "Refused.__init__" s_Refused___init__ a_Refused___init__ d_Refused___init__
  b_Refused___init__ : Binds K d_Refused___init__ ["self", "name"] []
  a_l_jar : Addr
  d_l_jar : FuncData
  F_l_jar : Fun K "_law_jar" "_law_jar" s_l_jar a_l_jar d_l_jar
  b_l_jar : Binds K d_l_jar ["script", "at"] []
  g_l_jar : mg "_law_jar" = some (.ref a_l_jar)
  a_l_sip : Addr
  d_l_sip : FuncData
  F_l_sip : Fun K "_law_sip" "_law_sip" s_l_sip a_l_sip d_l_sip
  b_l_sip : Binds K d_l_sip ["jar", "total"] []
  g_l_sip : mg "_law_sip" = some (.ref a_l_sip)
  a_l_which : Addr
  d_l_which : FuncData
  F_l_which : Fun K "_law_which" "_law_which" s_l_which a_l_which d_l_which
  b_l_which : Binds K d_l_which ["jar", "items"] []
  g_l_which : mg "_law_which" = some (.ref a_l_which)
  a_l_mixed : Addr
  d_l_mixed : FuncData
  F_l_mixed : Fun K "_law_mixed" "_law_mixed" s_l_mixed a_l_mixed d_l_mixed
  b_l_mixed : Binds K d_l_mixed ["jar", "items"] []
  g_l_mixed : mg "_law_mixed" = some (.ref a_l_mixed)
  a_l_letter : Addr
  d_l_letter : FuncData
  F_l_letter : Fun K "_law_letter" "_law_letter" s_l_letter a_l_letter d_l_letter
  b_l_letter : Binds K d_l_letter ["jar"] []
  g_l_letter : mg "_law_letter" = some (.ref a_l_letter)
  a_l_made_plain : Addr
  d_l_made_plain : FuncData
  F_l_made_plain : Fun K "_law_made_plain" "_law_made_plain" s_l_made_plain a_l_made_plain d_l_made_plain
  b_l_made_plain : Binds K d_l_made_plain ["lot", "value"] []
  g_l_made_plain : mg "_law_made_plain" = some (.ref a_l_made_plain)
  a_l_made_one : Addr
  d_l_made_one : FuncData
  F_l_made_one : Fun K "_law_made_one" "_law_made_one" s_l_made_one a_l_made_one d_l_made_one
  b_l_made_one : Binds K d_l_made_one ["lot", "value"] []
  g_l_made_one : mg "_law_made_one" = some (.ref a_l_made_one)
  a_l_raised : Addr
  d_l_raised : FuncData
  F_l_raised : Fun K "_law_raised" "_law_raised" s_l_raised a_l_raised d_l_raised
  b_l_raised : Binds K d_l_raised ["lot", "value"] []
  g_l_raised : mg "_law_raised" = some (.ref a_l_raised)
  a_l_classes : Addr
  d_l_classes : FuncData
  F_l_classes : Fun K "_law_classes" "_law_classes" s_l_classes a_l_classes d_l_classes
  b_l_classes : Binds K d_l_classes ["error"] []
  g_l_classes : mg "_law_classes" = some (.ref a_l_classes)
  a_l_bases : Addr
  d_l_bases : FuncData
  F_l_bases : Fun K "_law_bases" "_law_bases" s_l_bases a_l_bases d_l_bases
  b_l_bases : Binds K d_l_bases ["error"] []
  g_l_bases : mg "_law_bases" = some (.ref a_l_bases)
  a_l_due : Addr
  d_l_due : FuncData
  F_l_due : Fun K "_law_due" "_law_due" s_l_due a_l_due d_l_due
  b_l_due : Binds K d_l_due ["lot"] []
  g_l_due : mg "_law_due" = some (.ref a_l_due)
  a_l_is_kept : Addr
  d_l_is_kept : FuncData
  F_l_is_kept : Fun K "_law_is_kept" "_law_is_kept" s_l_is_kept a_l_is_kept d_l_is_kept
  b_l_is_kept : Binds K d_l_is_kept ["lot", "error", "value"] []
  g_l_is_kept : mg "_law_is_kept" = some (.ref a_l_is_kept)
  a_l_caught : Addr
  d_l_caught : FuncData
  F_l_caught : Fun K "_law_caught" "_law_caught" s_l_caught a_l_caught d_l_caught
  b_l_caught : Binds K d_l_caught ["lot", "value"] []
  g_l_caught : mg "_law_caught" = some (.ref a_l_caught)
  a_l_is_caught_by_base : Addr
  d_l_is_caught_by_base : FuncData
  F_l_is_caught_by_base : Fun K "_law_is_caught_by_base" "_law_is_caught_by_base" s_l_is_caught_by_base a_l_is_caught_by_base d_l_is_caught_by_base
  b_l_is_caught_by_base : Binds K d_l_is_caught_by_base ["lot", "value"] []
  g_l_is_caught_by_base : mg "_law_is_caught_by_base" = some (.ref a_l_is_caught_by_base)
  a_l_worth : Addr
  d_l_worth : FuncData
  F_l_worth : Fun K "_law_worth" "_law_worth" s_l_worth a_l_worth d_l_worth
  b_l_worth : Binds K d_l_worth ["jar", "lot"] []
  g_l_worth : mg "_law_worth" = some (.ref a_l_worth)
  a_l_cell_right : Addr
  d_l_cell_right : FuncData
  F_l_cell_right : Fun K "_law_cell_right" "_law_cell_right" s_l_cell_right a_l_cell_right d_l_cell_right
  b_l_cell_right : Binds K d_l_cell_right ["jar"] []
  g_l_cell_right : mg "_law_cell_right" = some (.ref a_l_cell_right)
  a_law : Addr
  d_law : FuncData
  F_law : Fun K "law" "law" s_law a_law d_law
  b_law : Binds K d_law ["script"] []
  g_law : mg "law" = some (.ref a_law)
  c_ShareError : Addr
  g_ShareError : mg "ShareError" = some (.ref c_ShareError)
  e_ShareError : ExcC K c_ShareError
  x_ShareError : PySem.W.excIn K c_ShareError PySem.Ge.mVE "ValueError.__new__" = true
  k_ShareError : PySem.W.keepIn K (.ref c_ShareError) = true
  ty_ShareError : PySem.W.typeIn K (.ref c_ShareError) = some (.type "type")
  c_InvalidName : Addr
  g_InvalidName : mg "InvalidName" = some (.ref c_InvalidName)
  e_InvalidName : ExcC K c_InvalidName
  x_InvalidName : PySem.W.excIn K c_InvalidName PySem.Ge.mVE "ValueError.__new__" = true
  k_InvalidName : PySem.W.keepIn K (.ref c_InvalidName) = true
  ty_InvalidName : PySem.W.typeIn K (.ref c_InvalidName) = some (.type "type")
  c_InvalidRow : Addr
  g_InvalidRow : mg "InvalidRow" = some (.ref c_InvalidRow)
  e_InvalidRow : ExcC K c_InvalidRow
  x_InvalidRow : PySem.W.excIn K c_InvalidRow PySem.Ge.mVE "ValueError.__new__" = true
  k_InvalidRow : PySem.W.keepIn K (.ref c_InvalidRow) = true
  ty_InvalidRow : PySem.W.typeIn K (.ref c_InvalidRow) = some (.type "type")
  c_InvalidHouse : Addr
  g_InvalidHouse : mg "InvalidHouse" = some (.ref c_InvalidHouse)
  e_InvalidHouse : ExcC K c_InvalidHouse
  x_InvalidHouse : PySem.W.excIn K c_InvalidHouse PySem.Ge.mVE "ValueError.__new__" = true
  k_InvalidHouse : PySem.W.keepIn K (.ref c_InvalidHouse) = true
  ty_InvalidHouse : PySem.W.typeIn K (.ref c_InvalidHouse) = some (.type "type")
  c_InvalidWish : Addr
  g_InvalidWish : mg "InvalidWish" = some (.ref c_InvalidWish)
  e_InvalidWish : ExcC K c_InvalidWish
  x_InvalidWish : PySem.W.excIn K c_InvalidWish PySem.Ge.mVE "ValueError.__new__" = true
  k_InvalidWish : PySem.W.keepIn K (.ref c_InvalidWish) = true
  ty_InvalidWish : PySem.W.typeIn K (.ref c_InvalidWish) = some (.type "type")
  c_InvalidShare : Addr
  g_InvalidShare : mg "InvalidShare" = some (.ref c_InvalidShare)
  e_InvalidShare : ExcC K c_InvalidShare
  x_InvalidShare : PySem.W.excIn K c_InvalidShare PySem.Ge.mVE "ValueError.__new__" = true
  k_InvalidShare : PySem.W.keepIn K (.ref c_InvalidShare) = true
  ty_InvalidShare : PySem.W.typeIn K (.ref c_InvalidShare) = some (.type "type")
  c_InvalidOperation : Addr
  g_InvalidOperation : mg "InvalidOperation" = some (.ref c_InvalidOperation)
  e_InvalidOperation : ExcC K c_InvalidOperation
  x_InvalidOperation : PySem.W.excIn K c_InvalidOperation PySem.Ge.mVE "ValueError.__new__" = true
  k_InvalidOperation : PySem.W.keepIn K (.ref c_InvalidOperation) = true
  ty_InvalidOperation : PySem.W.typeIn K (.ref c_InvalidOperation) = some (.type "type")
  c_Unmatched : Addr
  g_Unmatched : mg "Unmatched" = some (.ref c_Unmatched)
  e_Unmatched : Gx.ExG K c_Unmatched "ValueError.__new__" PySem.Ge.mVE
  i_Unmatched : PySem.W.findIn K (.ref c_Unmatched) "__init__" = some (some (.ref a_Unmatched___init__))
  ti_Unmatched : PySem.W.typeIn K (.ref a_Unmatched___init__) = some (.type "function")
  nf_Unmatched : PySem.W.findIn K (.ref c_Unmatched) "pair" = some none
  c_ParseError : Addr
  g_ParseError : mg "ParseError" = some (.ref c_ParseError)
  e_ParseError : Gx.ExG K c_ParseError "ValueError.__new__" PySem.Ge.mVE
  i_ParseError : PySem.W.findIn K (.ref c_ParseError) "__init__" = some (some (.ref a_ParseError___init__))
  ti_ParseError : PySem.W.typeIn K (.ref a_ParseError___init__) = some (.type "function")
  nf_ParseError : PySem.W.findIn K (.ref c_ParseError) "index" = some none
  c_InvalidNumber : Addr
  g_InvalidNumber : mg "InvalidNumber" = some (.ref c_InvalidNumber)
  e_InvalidNumber : Gx.ExG K c_InvalidNumber "IndexError.__new__" PySem.Ge.mIE
  i_InvalidNumber : PySem.W.findIn K (.ref c_InvalidNumber) "__init__" = some (some (.ref a_InvalidNumber___init__))
  ti_InvalidNumber : PySem.W.typeIn K (.ref a_InvalidNumber___init__) = some (.type "function")
  nf_InvalidNumber : PySem.W.findIn K (.ref c_InvalidNumber) "value" = some none
  s_InvalidNumber : PySem.W.findIn K (.ref c_InvalidNumber) "__str__" = some (some (.ref a_InvalidNumber___str__))
  fs_InvalidNumber : PySem.W.isFn K (.ref a_InvalidNumber___str__) = true
  c_UnknownName : Addr
  g_UnknownName : mg "UnknownName" = some (.ref c_UnknownName)
  e_UnknownName : Gx.ExG K c_UnknownName "LookupError.__new__" PySem.Ge.mKE
  i_UnknownName : PySem.W.findIn K (.ref c_UnknownName) "__init__" = some (some (.ref a_UnknownName___init__))
  ti_UnknownName : PySem.W.typeIn K (.ref a_UnknownName___init__) = some (.type "function")
  nf_UnknownName : PySem.W.findIn K (.ref c_UnknownName) "name" = some none
  s_UnknownName : PySem.W.findIn K (.ref c_UnknownName) "__str__" = some (some (.ref a_UnknownName___str__))
  fs_UnknownName : PySem.W.isFn K (.ref a_UnknownName___str__) = true
  c_TooMany : Addr
  g_TooMany : mg "TooMany" = some (.ref c_TooMany)
  e_TooMany : Gx.ExG K c_TooMany "OverflowError.__new__" PySem.Ge.mOE
  i_TooMany : PySem.W.findIn K (.ref c_TooMany) "__init__" = some (some (.ref a_TooMany___init__))
  ti_TooMany : PySem.W.typeIn K (.ref a_TooMany___init__) = some (.type "function")
  nf_TooMany : PySem.W.findIn K (.ref c_TooMany) "limit" = some none
  c_NothingToUndo : Addr
  g_NothingToUndo : mg "NothingToUndo" = some (.ref c_NothingToUndo)
  e_NothingToUndo : Gx.ExG K c_NothingToUndo "LookupError.__new__" PySem.Ge.mLE
  i_NothingToUndo : PySem.W.findIn K (.ref c_NothingToUndo) "__init__" = some (some (.ref a_NothingToUndo___init__))
  ti_NothingToUndo : PySem.W.typeIn K (.ref a_NothingToUndo___init__) = some (.type "function")
  nf_NothingToUndo : PySem.W.findIn K (.ref c_NothingToUndo) "many" = some none
  c_Unsteady : Addr
  g_Unsteady : mg "Unsteady" = some (.ref c_Unsteady)
  e_Unsteady : Gx.ExG K c_Unsteady "ArithmeticError.__new__" PySem.Ge.mAE
  i_Unsteady : PySem.W.findIn K (.ref c_Unsteady) "__init__" = some (some (.ref a_Unsteady___init__))
  ti_Unsteady : PySem.W.typeIn K (.ref a_Unsteady___init__) = some (.type "function")
  nf_Unsteady : PySem.W.findIn K (.ref c_Unsteady) "breach" = some none
  c_Refused : Addr
  g_Refused : mg "Refused" = some (.ref c_Refused)
  e_Refused : Gx.ExG K c_Refused "ArithmeticError.__new__" PySem.Ge.mAE
  i_Refused : PySem.W.findIn K (.ref c_Refused) "__init__" = some (some (.ref a_Refused___init__))
  ti_Refused : PySem.W.typeIn K (.ref a_Refused___init__) = some (.type "function")
  nf_Refused : PySem.W.findIn K (.ref c_Refused) "name" = some none
  tabK : Gx.tabK K [.ref c_InvalidName, .ref c_InvalidRow, .ref c_InvalidHouse, .ref c_InvalidWish, .ref c_InvalidShare, .ref c_InvalidOperation, .ref c_Unmatched, .ref c_ParseError, .ref c_InvalidNumber, .ref c_UnknownName, .ref c_TooMany, .ref c_NothingToUndo, .ref c_Unsteady, .ref c_Refused] [.ref c_InvalidName, .ref c_InvalidRow, .ref c_InvalidHouse, .ref c_InvalidWish, .ref c_InvalidShare, .ref c_InvalidOperation, .ref c_Unmatched, .ref c_ParseError, .ref c_InvalidNumber, .ref c_UnknownName, .ref c_TooMany, .ref c_NothingToUndo, .ref c_Unsteady, .ref c_Refused, .ref c_ShareError, .type "ValueError", .type "LookupError", .type "IndexError", .type "KeyError", .type "ArithmeticError", .type "OverflowError", .type "ZeroDivisionError"] = Gx.wantK
  tabX : Gx.tabX K [.ref c_InvalidName, .ref c_InvalidRow, .ref c_InvalidHouse, .ref c_InvalidWish, .ref c_InvalidShare, .ref c_InvalidOperation, .ref c_Unmatched, .ref c_ParseError, .ref c_InvalidNumber, .ref c_UnknownName, .ref c_TooMany, .ref c_NothingToUndo, .ref c_Unsteady, .ref c_Refused] [.ref c_InvalidName, .ref c_InvalidRow, .ref c_InvalidHouse, .ref c_InvalidWish, .ref c_InvalidShare, .ref c_InvalidOperation, .ref c_Unmatched, .ref c_ParseError, .ref c_InvalidNumber, .ref c_UnknownName, .ref c_TooMany, .ref c_NothingToUndo, .ref c_Unsteady, .ref c_Refused, .ref c_ShareError] = Gx.wantX
  n_repr : mg "repr" = none
  n_int : mg "int" = none
  n_max : mg "max" = none
  n_abs : mg "abs" = none
  n_len : mg "len" = none
  n_range : mg "range" = none
  n_list : mg "list" = none
  n_isinstance : mg "isinstance" = none
  n_ZeroDivisionError : mg "ZeroDivisionError" = none
  n_OverflowError : mg "OverflowError" = none
  n_ArithmeticError : mg "ArithmeticError" = none
  n_KeyError : mg "KeyError" = none
  n_IndexError : mg "IndexError" = none
  n_LookupError : mg "LookupError" = none
  n_ValueError : mg "ValueError" = none
  n_str : mg "str" = none
  n_min : mg "min" = none
end W1
/-! C1 -/
set_option Elab.async false
set_option linter.all false
set_option maxRecDepth 100000
set_option maxHeartbeats 4000000
namespace W1
open PySem PySem.Spec PyProof.Rows L2 Gd
local macro_rules | `(tactic| walk_at "sq") => `(tactic| first | assumption | exact Or.inl (Or.inl upd_same) | exact Or.inl (Or.inl (by assumption)))
local macro_rules | `(tactic| walk_at "sq2") => `(tactic| first | exact Or.inl (by walk_at "sq") | exact Or.inr (by walk_at "sq"))
local macro_rules | `(tactic| walk_at "hp") => `(tactic| first | assumption | exact upd_same)
local macro_rules | `(tactic| walk_at "at") => `(tactic| first | rfl | assumption)
local macro_rules | `(tactic| walk_at "len") => `(tactic| first | assumption | decide)
local macro_rules | `(tactic| walk_at "side") => `(tactic| first | assumption | (show (0 : Int) < _; decide) | exact Or.inl ⟨by decide, by decide⟩ | exact ⟨by decide, by decide⟩ | omega)

/-! ### the jar of draws -/
def jarL (a b c : Int) : HO := .lst [.int a, .int b, .int c]
def Jar (H : Hp) (j : Addr) : Prop := ∃ a b c : Int, H j = some (jarL a b c) ∧ 0 ≤ b ∧ b < 2 ^ 61 ∧ 0 ≤ c
/-- all but what stands at j is as it was -/
def Keep (j : Addr) (H H' : Hp) : Prop := ∀ b o, H b = some o → b ≠ j → H' b = some o
theorem Keep.refl (j : Addr) (H : Hp) : Keep j H H := fun _ _ h _ => h
theorem Keep.trans {j : Addr} {H H1 H2 : Hp} (a : Keep j H H1) (b : Keep j H1 H2) : Keep j H H2 := fun x o h n => b x o (a x o h n) n
theorem Keep.upd (j : Addr) (H : Hp) (o : HO) : Keep j H (upd H j o) := fun b u h n => (upd_ne n).trans h
theorem Keep.new {j p : Addr} {H H' : Hp} (k : Keep j H H') (h : H' p = none) (o : HO) : Keep j H (L2.upd H' p o) := fun b u e n => by
  have := k b u e n
  rw [upd_ne (ne_of_none this h)]
  exact this
def spSip : Sp := fun vs H Q _ => ∃ (j : Addr) (n : Int), vs = [.ref j, .int n] ∧ Jar H j ∧ 0 < n ∧ n < 2 ^ 200 ∧ ∀ H' v, Keep j H H' → Jar H' j → 0 ≤ v → v < n → Q (.int v) H'
theorem big_div {n : Int} (h : 0 < n) (h2 : n < 2 ^ 200) (i : Int) : CDivW i n := wide_div h (b := 200) (by omega) (by decide) (by decide)
section
variable {P : Program} {w : World} {K : PySem.W.Frag} {mg : Str → Option Value} {base : Heap}
theorem ok_sip (T : Tx K mg) : FnOk P w K mg base CX0 1 T.a_l_sip T.d_l_sip ["jar", "total"] spSip := by
  refine T.F_l_sip.ok sc_l_sip (fun vs H Q E h => ?_) (fun cdv A outer s H vs Q E hr h => ?_)
  · obtain ⟨j, n, rfl, _⟩ := h
    rfl
  · obtain ⟨j, n, rfl, ⟨a, b, c, hj, hb, hb2, hc⟩, hn, hn2, q⟩ := h
    refine ⟨_, (pss_cons (ps_if (pt_cmpR op_gt (pe_ix (ix_listK K) (pv 0) pe_int (fun _ _ => rfl)) pe_int (nomark _))
      (pss_cons (ps_set (i := 2) sc_l_sip.nd rfl (Or.inl rfl) (pe_op op_mod (pe_callTy call_int1 (by rfl) T.n_int (by decide +kernel) (pa_cons (pe_ix (ix_listK K) (pv 0) pe_int (fun _ _ => rfl)) pa_nil)) (pv 1)))
      (pss_cons (ps_asg (pe_op op_fdivW (pe_ix (ix_listK K) (pv 0) pe_int (fun _ _ => rfl)) (pv 1)) (pg_sub (pv 0) pe_int set_list))
      (pss_one (ps_ret (pv 2)))))
      pss_nil)
      (pss_cons (ps_asg (pe_op op_add (pe_ix (ix_listK K) (pv 0) pe_int (fun _ _ => rfl)) pe_int) (pg_sub (pv 0) pe_int set_list))
      (pss_cons (ps_set (i := 3) sc_l_sip.nd rfl (Or.inl rfl) (pe_op op_mod (pe_callTy call_int1 (by rfl) T.n_int (by decide +kernel) (pa_cons (pe_op op_add (pe_ix (ix_listK K) (pv 0) pe_int (fun _ _ => rfl)) (pe_op op_mul pe_int (pe_ix (ix_listK K) (pv 0) pe_int (fun _ _ => rfl)))) pa_nil)) pe_int))
      (pss_cons (ps_set (i := 4) sc_l_sip.nd rfl (Or.inl rfl) (pe_op op_add (pe_op op_mul (pe_op op_mod (pe_callTy call_int1 (by rfl) T.n_int (by decide +kernel) (pa_cons (pe_op op_mul (pv 3) (pv 3)) pa_nil)) pe_int) (pv 3)) (pe_op op_mul pe_int (pe_ix (ix_listK K) (pv 0) pe_int (fun _ _ => rfl)))))
      (pss_one (ps_ret (pe_op op_mod (pe_callTy call_int1 (by rfl) T.n_int (by decide +kernel) (pa_cons (pe_op op_fdivW (pe_op op_mod (pe_callTy call_int1 (by rfl) T.n_int (by decide +kernel) (pa_cons (pv 4) pa_nil)) pe_int) pe_int) pa_nil)) (pv 1)))))))), ?_⟩
    have hD := big_div hn hn2
    have hj : H j = some (.lst [.int a, .int b, .int c]) := hj
    refine ⟨_, rfl, _, _, _, _, rfl, rfl, (by walk_at "sq"), (by walk_at "at"), _, _, rfl, rfl, _, rfl, ite2 (fun e => ?_) (fun e => ?_)⟩
    · refine ⟨_, rfl, _, _, _, _, rfl, rfl, (by walk_at "sq"), (by walk_at "at"), .inl ⟨_, rfl, _, rfl, _, _, rfl, rfl, (by walk_at "side"),
        _, rfl, _, _, _, _, rfl, rfl, (by walk_at "sq"), (by walk_at "at"), _, rfl, _, _, rfl, rfl, hD _, _, rfl, _, _, _, _, rfl, rfl, (by walk_at "hp"), rfl, ?_⟩⟩
      refine ⟨_, rfl, ?_⟩
      exact q _ _ (Keep.upd _ _ _) ⟨a / n, b, c, upd_same, hb, hb2, hc⟩ (Int.emod_nonneg _ (by omega)) (Int.emod_lt_of_pos _ hn)
    · refine ⟨_, rfl, _, _, _, _, rfl, rfl, (by walk_at "sq"), (by walk_at "at"), _, _, rfl, rfl, _, rfl, _, _, _, _, rfl, rfl, (by walk_at "hp"), rfl, ?_⟩
      have hj1 : (upd H j (.lst [.int a, .int b, .int (c + 1)])) j = some (.lst [.int a, .int b, .int (c + 1)]) := upd_same
      refine ⟨_, rfl, _, _, _, _, rfl, rfl, .inl (.inl hj1), (by walk_at "at"), _, rfl, _, _, _, _, rfl, rfl, .inl (.inl hj1), (by walk_at "at"), _, _, rfl, rfl, (by walk_at "side"), _, _, rfl, rfl, .inl ⟨_, rfl, _, _, rfl, rfl, (by walk_at "side"), ?_⟩⟩
      have key : ∀ one : Int, 0 ≤ one → one < 2305843009213693951 → CMul one one ∧ CMul (one * one % 2305843009213693921) one := by
        intro one o1 o2
        have t1 : 0 ≤ one * one % 2305843009213693921 := Int.emod_nonneg _ (by decide)
        have t2 : one * one % 2305843009213693921 < 2305843009213693921 := Int.emod_lt_of_pos _ (by decide)
        exact ⟨.inl ⟨by omega, by omega⟩, .inl ⟨by omega, by omega⟩⟩
      obtain ⟨c1, c2⟩ := key ((b + 1000409 * (c + 1)) % 2305843009213693951) (Int.emod_nonneg _ (by decide)) (Int.emod_lt_of_pos _ (by decide))
      refine ⟨_, rfl, _, rfl, _, _, rfl, rfl, c1, .inl ⟨_, rfl, _, _, rfl, rfl, (by walk_at "side"), _, rfl, _, _, rfl, rfl, c2, _, rfl, _, _, _, _, rfl, rfl, .inl (.inl hj1), (by walk_at "at"), _, _, rfl, rfl, (by walk_at "side"), _, _, rfl, rfl, ?_⟩⟩
      refine ⟨_, rfl, .inl ⟨_, rfl, _, _, rfl, rfl, (by walk_at "side"), _, _, rfl, rfl, (by walk_at "side"), .inl ⟨_, rfl, _, rfl, _, _, rfl, rfl, hn, ?_⟩⟩⟩
      exact q _ _ (Keep.upd _ _ _) ⟨a, b, c + 1, upd_same, hb, hb2, by omega⟩ (Int.emod_nonneg _ (by omega)) (Int.emod_lt_of_pos _ hn)
end
/-! C2 -/

theorem atI_in {α : Type} {xs : List α} {v : Int} (h0 : 0 ≤ v) (h1 : v < xs.length) : ∃ x, x ∈ xs ∧ atI xs v = some x ∧ xs[v.toNat]? = some x := by
  have hk : v.toNat < xs.length := by omega
  refine ⟨xs[v.toNat], List.getElem_mem hk, ?_, List.getElem?_eq_getElem hk⟩
  unfold atI ixN
  rw [if_pos h0, if_pos h1]
  exact List.getElem?_eq_getElem hk
theorem seqIx {n : Nat} {v : Int} (h0 : 0 ≤ v) (h1 : v < n) : seqIndex? v n = some v.toNat := by
  have : ixN n v = some v.toNat := by
    unfold ixN
    rw [if_pos h0, if_pos h1]
  exact (ixN_seq this).1
theorem erase_perm {α : Type} : ∀ (l : List α) (k : Nat) (x : α), l[k]? = some x → (x :: l.eraseIdx k).Perm l
  | [], k, x, h => by simp at h
  | y :: l, 0, x, h => by
    have : y = x := Option.some.inj h
    subst this
    exact .refl _
  | y :: l, k + 1, x, h => by
    have h' : l[k]? = some x := h
    exact (List.Perm.swap y x _).trans ((erase_perm l k x h').cons y)
def spWhich : Sp := fun vs H Q _ => ∃ (j l : Addr) (xs : List V), vs = [.ref j, .ref l] ∧ Jar H j ∧ H l = some (.lst xs) ∧ l ≠ j ∧ 0 < xs.length ∧ xs.length ≤ 100000 ∧ ∀ H' v, Keep j H H' → Jar H' j → v ∈ xs → Q v H'
def spLetter : Sp := fun vs H Q _ => ∃ (j : Addr), vs = [.ref j] ∧ Jar H j ∧ ∀ H' c, Keep j H H' → Jar H' j → 97 ≤ c → c ≤ 122 → Q (.str ⟨#[c]⟩) H'
def spMixed : Sp := fun vs H Q _ => ∃ (j l : Addr) (xs : List V), vs = [.ref j, .ref l] ∧ Jar H j ∧ H l = some (.lst xs) ∧ l ≠ j ∧ xs.length ≤ 1000 ∧ ∀ H' r ys, Keep j H H' → Jar H' j → H r = none → H' r = some (.lst ys) → ys.Perm xs → Q (.ref r) H'
section
variable {P : Program} {w : World} {K : PySem.W.Frag} {mg : Str → Option Value} {base : Heap}
theorem ok_which (T : Tx K mg) : FnOk P w K mg base CX0 2 T.a_l_which T.d_l_which ["jar", "items"] spWhich := by
  have G_l_sip : FnOk P w K mg base CX0 1 T.a_l_sip T.d_l_sip ["jar", "total"] spSip := ok_sip T
  refine T.F_l_which.ok sc_l_which (fun vs H Q E h => ?_) (fun cdv A outer s H vs Q E hr h => ?_)
  · obtain ⟨j, l, xs, rfl, _⟩ := h
    rfl
  · obtain ⟨j, l, xs, rfl, hj, hl, hne, h0, h1, q⟩ := h
    refine ⟨_, (pss_one (ps_ret (pe_ix (ix_listK K) (pv 1) (pe_call G_l_sip (hr.mono (by decide)) (by rfl) T.g_l_sip T.F_l_sip.kp T.b_l_sip .nil pass0 (pa_cons (pv 0) (pa_cons (pe_callB (call_lenK K) (by rfl) T.n_len (by decide +kernel) (pa_cons (pv 1) pa_nil)) pa_nil))) (fun _ _ => rfl)))), ?_⟩
    refine ⟨_, rfl, _, rfl, _, rfl, _, xs, rfl, .inl (.inl (.inl hl)), j, xs.length, rfl, hj, by omega, by omega, fun H' v k hj' v0 v1 => ?_⟩
    obtain ⟨x, hx, ex, _⟩ := atI_in v0 v1
    exact ⟨_, _, _, _, rfl, rfl, .inl (.inl (k _ _ hl hne)), ex, q _ _ k hj' hx⟩
theorem letters : ("abcdefghijklmnopqrstuvwxyz" : Str).cps.toList = [97, 98, 99, 100, 101, 102, 103, 104, 105, 106, 107, 108, 109, 110, 111, 112, 113, 114, 115, 116, 117, 118, 119, 120, 121, 122] := by decide +kernel
theorem letters_len : ("abcdefghijklmnopqrstuvwxyz" : Str).length = 26 := by decide +kernel
theorem ok_letter (T : Tx K mg) : FnOk P w K mg base CX0 2 T.a_l_letter T.d_l_letter ["jar"] spLetter := by
  have G_l_sip : FnOk P w K mg base CX0 1 T.a_l_sip T.d_l_sip ["jar", "total"] spSip := ok_sip T
  refine T.F_l_letter.ok sc_l_letter (fun vs H Q E h => ?_) (fun cdv A outer s H vs Q E hr h => ?_)
  · obtain ⟨j, rfl, _⟩ := h
    rfl
  · obtain ⟨j, rfl, hj, q⟩ := h
    refine ⟨_, (pss_one (ps_ret (pe_ix ix_str pe_str (pe_call G_l_sip (hr.mono (by decide)) (by rfl) T.g_l_sip T.F_l_sip.kp T.b_l_sip .nil pass0 (pa_cons (pv 0) (pa_cons pe_int pa_nil))) (fun _ _ => rfl)))), ?_⟩
    refine ⟨_, rfl, j, 26, rfl, hj, by decide, by decide, fun H' v k hj' v0 v1 => ?_⟩
    have hv : v < ("abcdefghijklmnopqrstuvwxyz" : Str).cps.toList.length := by
      rw [letters]
      exact v1
    obtain ⟨c, hc, ec, _⟩ := atI_in v0 hv
    have b : 97 ≤ c ∧ c ≤ 122 := by
      rw [letters] at hc
      have : ∀ x ∈ [97, 98, 99, 100, 101, 102, 103, 104, 105, 106, 107, 108, 109, 110, 111, 112, 113, 114, 115, 116, 117, 118, 119, 120, 121, 122], 97 ≤ x ∧ x ≤ 122 := by decide
      exact this c hc
    exact ⟨_, v, c, rfl, rfl, (by rw [letters_len]; decide), ec, q _ _ k hj' b.1 b.2⟩
theorem ok_mixed (T : Tx K mg) : FnOk P w K mg base CX0 2 T.a_l_mixed T.d_l_mixed ["jar", "items"] spMixed := by
  have G_l_sip : FnOk P w K mg base CX0 1 T.a_l_sip T.d_l_sip ["jar", "total"] spSip := ok_sip T
  refine T.F_l_mixed.ok sc_l_mixed (fun vs H Q E h => ?_) (fun cdv A outer s H vs Q E hr h => ?_)
  · obtain ⟨j, l, z, rfl, _⟩ := h
    rfl
  · obtain ⟨j, l, z, rfl, hj, hl, hlj, hz, q⟩ := h
    refine ⟨_, (pss_cons (ps_set (i := 2) sc_l_mixed.nd rfl (Or.inr rfl) (pe_callTy (call_listK K) (by rfl) T.n_list (by decide +kernel) (pa_cons (pv 1) pa_nil)))
      (pss_one (ps_ret (pe_lc (own := [("turn", 3)]) (g := gName 3) rfl sc_l_mixed.nd (pi_range1 (by rfl) T.n_range (pa_cons (pe_callB (call_lenK K) (by rfl) T.n_len (by decide +kernel) (pa_cons (pv 1) pa_nil)) pa_nil)) (blkOk_by (own := [("turn", 3)]) (N := ["jar", "items", "waits", "turn"]) (sc := defScope s_l_mixed) (by decide +kernel)) (fun _ _ _ _ _ => (pg_name (i := 3) sc_l_mixed.nd rfl (Or.inl rfl))) (fun _ _ _ _ _ => pts_nil) (fun _ _ _ _ _ => (pe_bmK K PySem.F.plainAttrs_list PySem.F.slot_list_pop PySem.F.type_list_pop mt_popAt (pv 2) (pa_cons (pe_call G_l_sip (hr.mono (by decide)) (by rfl) T.g_l_sip T.F_l_sip.kp T.b_l_sip .nil pass0 (pa_cons (pv 0) (pa_cons (pe_callB (call_lenK K) (by rfl) T.n_len (by decide +kernel) (pa_cons (pv 2) pa_nil)) pa_nil))) pa_nil))))))), ?_⟩
    have jne : ∃ o, H j = some o := let ⟨a, b, c, e, _⟩ := hj; ⟨_, e⟩
    obtain ⟨oj, ej⟩ := jne
    refine ⟨_, rfl, l, z, rfl, .inl (.inl (.inl hl)), fun L nL => ?_⟩
    have jL : j ≠ L := ne_of_none ej nL
    have hl1 : (upd H L (.lst z)) l = some (.lst z) := (upd_ne (ne_of_none hl nL)).trans hl
    refine ⟨_, rfl, l, z, rfl, .inl (.inl (.inl hl1)), (z.length : Int), rfl, by omega, by omega, fun D nD => ?_⟩
    have LD : L ≠ D := ne_of_none (H := upd H L (.lst z)) upd_same nD
    have jD : j ≠ D := ne_of_none (H := upd H L (.lst z)) (o := oj) ((upd_ne jL).trans ej) nD
    have nD' : H D = none := by
      have := nD
      rw [upd_ne LD.symm] at this
      exact this
    refine lc_range (lo := 0) (n := (z.length : Int).toNat) (fun i H1 => Keep j H H1 ∧ Jar H1 j ∧ ∃ acc ws, H1 D = some (.lst acc) ∧ H1 L = some (.lst ws) ∧ acc.length = i ∧ (acc ++ ws).Perm z) ?_ ?_ ?_
    · obtain ⟨a, b, c, e, r⟩ := hj
      refine ⟨((Keep.refl j H).new nL _).new nD _, ⟨a, b, c, ?_, r⟩, [], z, upd_same, ?_, rfl, .refl _⟩
      · rw [upd_ne jD, upd_ne jL]; exact e
      · rw [upd_ne LD]; exact upd_same
    · rintro i H1 hi ⟨k1, j1, acc, ws, hD, hL, la, pm⟩
      have lw : acc.length + ws.length = z.length := by rw [← pm.length_eq, List.length_append]
      have wpos : 0 < ws.length := by omega
      refine ⟨rfl, _, rfl, .inl ⟨rfl, _, .inl (.inl hL)⟩, _, rfl, _, rfl, _, _, rfl, .inl (.inl (.inl hL)), j, ws.length, rfl, j1, by omega, by omega, fun H2 v k2 j2 v0 v1 => ?_⟩
      obtain ⟨x, hx, _, ex⟩ := atI_in v0 v1
      have hL2 : H2 L = some (.lst ws) := k2 _ _ hL jL.symm
      have hD2 : H2 D = some (.lst acc) := k2 _ _ hD jD.symm
      refine ⟨L, ws, v, v.toNat, x, rfl, rfl, hL2, by omega, by omega, seqIx v0 v1, ex, acc, (upd_ne LD.symm).trans hD2, ?_, ?_⟩
      · exact Nat.lt_of_lt_of_le (show acc.length < 1000 by omega) (by decide)
      · have kk : Keep j H (upd (upd H2 L (.lst (ws.eraseIdx v.toNat))) D (.lst (acc ++ [x]))) := by
          intro b o e n
          rw [upd_ne (ne_of_none e nD'), upd_ne (ne_of_none e nL)]
          exact (k1.trans k2) b o e n
        obtain ⟨a, b, c, e, r⟩ := j2
        refine ⟨kk, ⟨a, b, c, ?_, r⟩, acc ++ [x], ws.eraseIdx v.toNat, upd_same, ?_, by rw [List.length_append, la]; rfl, ?_⟩
        · rw [upd_ne jD, upd_ne jL]; exact e
        · rw [upd_ne LD]; exact upd_same
        · rw [List.append_assoc]
          refine List.Perm.trans ?_ pm
          refine List.Perm.append_left acc ?_
          exact erase_perm ws v.toNat x ex
    · rintro H1 ⟨k1, j1, acc, ws, hD, hL, la, pm⟩
      have lw : acc.length + ws.length = z.length := by rw [← pm.length_eq, List.length_append]
      have : ws = [] := List.eq_nil_of_length_eq_zero (by omega)
      subst this
      rw [List.append_nil] at pm
      exact q _ D acc k1 j1 nD' hD pm
end
/-! C3 -/

def spJar (K : PySem.W.Frag) : Sp := fun vs H Q _ => ∃ (a : Addr) (i : Int) (ns : List Int), vs = [.ref a, .int i] ∧ SqL K H a (ns.map V.int) ∧ 0 ≤ i ∧ i ≤ 1000000 ∧ ∀ H' p, Same H H' → H p = none → Jar H' p → Q (.ref p) H'
theorem pow59 : CPowB 10 59 := ⟨by decide, by decide +kernel⟩
theorem pow59_11 : CPowB ((10 : Int) ^ (59 : Int).toNat) 11 := ⟨by decide, by decide +kernel⟩
theorem pos59_11 : (0 : Int) < ((10 : Int) ^ (59 : Int).toNat) ^ (11 : Int).toNat := by decide +kernel
theorem pow18 : CPowB 10 18 := ⟨by decide, by decide +kernel⟩
theorem ints_at {ns : List Int} {i : Int} (h0 : 0 ≤ i) (h1 : i < (ns.map V.int).length) : ∃ n, atI (ns.map V.int) i = some (.int n) := by
  obtain ⟨x, hx, e, _⟩ := atI_in h0 h1
  obtain ⟨n, _, rfl⟩ := List.mem_map.mp hx
  exact ⟨n, e⟩
section
variable {P : Program} {w : World} {K : PySem.W.Frag} {mg : Str → Option Value} {base : Heap}
theorem ok_jar (T : Tx K mg) : FnOk P w K mg base CX0 1 T.a_l_jar T.d_l_jar ["script", "at"] (spJar K) := by
  refine T.F_l_jar.ok sc_l_jar (fun vs H Q E h => ?_) (fun cdv A outer s H vs Q E hr h => ?_)
  · obtain ⟨a, i, ns, rfl, _⟩ := h
    rfl
  · obtain ⟨a, i, ns, rfl, hS, i0, i1, q⟩ := h
    refine ⟨_, (pss_cons (ps_set (i := 2) sc_l_jar.nd rfl (Or.inl rfl) (pe_ifExp (pt_cmpR op_lt (pv 1) (pe_callB (call_lenK K) (by rfl) T.n_len (by decide +kernel) (pa_cons (pv 0) pa_nil)) (nomark _)) (pe_ix (ix_listK K) (pv 0) (pv 1) (fun _ _ => rfl)) (pe_op op_add (pe_op op_mul pe_int (pv 1)) pe_int)))
      (pss_cons (ps_set (i := 3) sc_l_jar.nd rfl (Or.inl rfl) (pe_op op_mod (pe_callTy call_int1 (by rfl) T.n_int (by decide +kernel) (pa_cons (pe_callB call_abs (by rfl) T.n_abs (by decide +kernel) (pa_cons (pv 2) pa_nil)) pa_nil)) (pe_op op_powB (pe_op op_powB pe_int pe_int) pe_int)))
      (pss_cons (ps_set (i := 4) sc_l_jar.nd rfl (Or.inl rfl) (pe_op op_add (pe_op op_add (pe_op op_add (pe_op op_mul (pe_op op_mod (pe_callTy call_int1 (by rfl) T.n_int (by decide +kernel) (pa_cons (pv 3) pa_nil)) pe_int) pe_int) (pe_op op_mul pe_int (pv 1))) (pe_op op_mul pe_int (pe_callTy call_int1 (by rfl) T.n_int (by decide +kernel) (pa_cons (pe_cmpR op_lt (pv 2) pe_int (nomark _)) pa_nil)))) pe_int))
      (pss_one (ps_ret (pe_lst (pa_cons (pe_callB (call_max2 rfl) (by rfl) T.n_max (by decide +kernel) (pa_cons pe_int (pa_cons (pe_op op_sub (pv 3) (pe_op op_powB pe_int pe_int)) pa_nil))) (pa_cons (pe_op op_mod (pe_callTy call_int1 (by rfl) T.n_int (by decide +kernel) (pa_cons (pv 4) pa_nil)) pe_int) (pa_cons pe_int pa_nil))))))))), ?_⟩
    refine ⟨_, rfl, _, rfl, _, ns.map V.int, rfl, .inl hS, _, _, rfl, rfl, _, rfl, ite2 (fun e => ?_) (fun e => ?_)⟩
    · have e1 : i < (ns.map V.int).length := of_decide_eq_true e
      obtain ⟨cell, hc⟩ := ints_at i0 e1
      refine ⟨_, rfl, _, rfl, _, _, _, _, rfl, rfl, hS, hc, ?_⟩
      refine ⟨_, rfl, cell, rfl, .inl ⟨_, rfl, _, _, rfl, rfl, pow59, _, _, rfl, rfl, pow59_11, _, _, rfl, rfl, pos59_11, ?_⟩⟩
      have g0 : 0 ≤ (if cell < 0 then -cell else cell) % ((10 : Int) ^ (59 : Int).toNat) ^ (11 : Int).toNat := Int.emod_nonneg _ (by have := pos59_11; omega)
      generalize hg : (if cell < 0 then -cell else cell) % ((10 : Int) ^ (59 : Int).toNat) ^ (11 : Int).toNat = great at g0
      have c1 : ∀ x : Int, CMul (x % 2147483323) 94261 := fun x => .inr ⟨by decide, by decide⟩
      refine ⟨_, rfl, .inl ⟨_, rfl, _, _, rfl, rfl, (by walk_at "side"), _, _, rfl, rfl, c1 _, _, rfl, _, _, rfl, rfl, (by walk_at "side"), _, _, rfl, rfl, _, rfl, _, _, rfl, rfl, .inr ⟨_, rfl, _, _, rfl, rfl, (by walk_at "side"), _, _, rfl, rfl, _, _, rfl, rfl, ?_⟩⟩⟩
      refine ⟨_, rfl, _, _, rfl, rfl, pow18, _, _, rfl, rfl, _, _, rfl, _, rfl, .inl ⟨_, rfl, _, _, rfl, rfl, (by walk_at "side"), (by show 3 ≤ sizeLine; decide), fun p np => ?_⟩⟩
      exact q _ p (fun b o e => by rw [upd_ne (ne_of_none e np)]; exact e) np ⟨_, _, _, upd_same, Int.emod_nonneg _ (by decide), Int.lt_trans (Int.emod_lt_of_pos _ (by decide)) (by decide), by decide⟩
    · refine ⟨_, rfl, _, _, rfl, rfl, (by walk_at "side"), _, _, rfl, rfl, ?_⟩
      refine ⟨_, rfl, _, rfl, .inl ⟨_, rfl, _, _, rfl, rfl, pow59, _, _, rfl, rfl, pow59_11, _, _, rfl, rfl, pos59_11, ?_⟩⟩
      have c1 : ∀ x : Int, CMul (x % 2147483323) 94261 := fun x => .inr ⟨by decide, by decide⟩
      refine ⟨_, rfl, .inl ⟨_, rfl, _, _, rfl, rfl, (by walk_at "side"), _, _, rfl, rfl, c1 _, _, rfl, _, _, rfl, rfl, (by walk_at "side"), _, _, rfl, rfl, _, rfl, _, _, rfl, rfl, .inr ⟨_, rfl, _, _, rfl, rfl, (by walk_at "side"), _, _, rfl, rfl, _, _, rfl, rfl, ?_⟩⟩⟩
      refine ⟨_, rfl, _, _, rfl, rfl, pow18, _, _, rfl, rfl, _, _, rfl, _, rfl, .inl ⟨_, rfl, _, _, rfl, rfl, (by walk_at "side"), (by show 3 ≤ sizeLine; decide), fun p np => ?_⟩⟩
      exact q _ p (fun b o e => by rw [upd_ne (ne_of_none e np)]; exact e) np ⟨_, _, _, upd_same, Int.emod_nonneg _ (by decide), Int.lt_trans (Int.emod_lt_of_pos _ (by decide)) (by decide), by decide⟩
end
/-! C4 -/
open PySem PySem.Spec PyProof.Rows L2 Gd Gx

theorem isI {k : Nat} {n : Int} (e : decide (V.int (k : Int) = V.int n) = true) : (k : Int) = n := by
  have h := of_decide_eq_true e
  injection h
theorem isN {k : Nat} {n : Int} (e : ¬ (decide (V.int (k : Int) = V.int n) = true)) : (k : Int) ≠ n := fun h => e (decide_eq_true (by rw [h]))
def fy : Nat → V → Option (Str × V)
  | 6, y => some ("pair", y)
  | 7, y => some ("index", y)
  | 8, y => some ("value", y)
  | 9, y => some ("name", y)
  | 10, y => some ("limit", y)
  | 11, y => some ("many", y)
  | 12, y => some ("breach", y)
  | 13, y => some ("name", y)
  | _, _ => none
def spInit (C : Addr) (f : Str) : Sp := fun vs H Q _ => ∃ (a : Addr) (y : V), vs = [.ref a, y] ∧ H a = some (exo a C none) ∧ ∀ dx, H dx = none → dx ≠ a → Q .non (upd (upd H dx (exd dx [(f, y)])) a (exo a C (some dx)))
theorem new_er {H : Hp} {a dx C : Addr} {f : Str} {y : V} (na : H a = none) (nd : (upd H a (exo a C none)) dx = none) (ne : dx ≠ a) : Same H (upd (upd (upd H a (exo a C none)) dx (exd dx [(f, y)])) a (exo a C (some dx))) ∧ Er (upd (upd (upd H a (exo a C none)) dx (exd dx [(f, y)])) a (exo a C (some dx))) a C (some (f, y)) := by
  refine ⟨fun b o e => ?_, .full upd_same (by rw [upd_ne ne, upd_same])⟩
  have nd2 : H dx = none := by rwa [upd_ne ne] at nd
  rw [upd_ne (ne_of_none e na), upd_ne (ne_of_none e nd2), upd_ne (ne_of_none e na)]
  exact e
section
variable {P : Program} {w : World} {K : PySem.W.Frag} {mg : Str → Option Value} {base : Heap}
def Tx.cs (T : Tx K mg) : Nat → Addr
  | 0 => T.c_InvalidName
  | 1 => T.c_InvalidRow
  | 2 => T.c_InvalidHouse
  | 3 => T.c_InvalidWish
  | 4 => T.c_InvalidShare
  | 5 => T.c_InvalidOperation
  | 6 => T.c_Unmatched
  | 7 => T.c_ParseError
  | 8 => T.c_InvalidNumber
  | 9 => T.c_UnknownName
  | 10 => T.c_TooMany
  | 11 => T.c_NothingToUndo
  | 12 => T.c_Unsteady
  | _ => T.c_Refused
theorem ok_i6 (T : Tx K mg) : FnOk P w K mg base CX0 1 T.a_Unmatched___init__ T.d_Unmatched___init__ ["self", "pair"] (spInit T.c_Unmatched "pair") := by
  refine T.F_Unmatched___init__.ok sc_Unmatched___init__ (fun vs H Q E h => ?_) (fun cdv A outer s H vs Q E hr h => ?_)
  · obtain ⟨a, y, rfl, _⟩ := h
    rfl
  · obtain ⟨a, y, rfl, ha, q⟩ := h
    refine ⟨_, (pss_one (Gx.ps_ost1 (newId := "ValueError.__new__") PySem.Ge.tl_VE (pv 0) (pv 1))), ?_⟩
    exact ⟨_, rfl, _, rfl, a, T.c_Unmatched, rfl, T.e_Unmatched, T.nf_Unmatched, ha, fun dx nd ne => q dx nd ne⟩
theorem ok_i7 (T : Tx K mg) : FnOk P w K mg base CX0 1 T.a_ParseError___init__ T.d_ParseError___init__ ["self", "index"] (spInit T.c_ParseError "index") := by
  refine T.F_ParseError___init__.ok sc_ParseError___init__ (fun vs H Q E h => ?_) (fun cdv A outer s H vs Q E hr h => ?_)
  · obtain ⟨a, y, rfl, _⟩ := h
    rfl
  · obtain ⟨a, y, rfl, ha, q⟩ := h
    refine ⟨_, (pss_one (Gx.ps_ost1 (newId := "ValueError.__new__") PySem.Ge.tl_VE (pv 0) (pv 1))), ?_⟩
    exact ⟨_, rfl, _, rfl, a, T.c_ParseError, rfl, T.e_ParseError, T.nf_ParseError, ha, fun dx nd ne => q dx nd ne⟩
theorem ok_i8 (T : Tx K mg) : FnOk P w K mg base CX0 1 T.a_InvalidNumber___init__ T.d_InvalidNumber___init__ ["self", "value"] (spInit T.c_InvalidNumber "value") := by
  refine T.F_InvalidNumber___init__.ok sc_InvalidNumber___init__ (fun vs H Q E h => ?_) (fun cdv A outer s H vs Q E hr h => ?_)
  · obtain ⟨a, y, rfl, _⟩ := h
    rfl
  · obtain ⟨a, y, rfl, ha, q⟩ := h
    refine ⟨_, (pss_one (Gx.ps_ost1 (newId := "IndexError.__new__") PySem.Ge.tl_IE (pv 0) (pv 1))), ?_⟩
    exact ⟨_, rfl, _, rfl, a, T.c_InvalidNumber, rfl, T.e_InvalidNumber, T.nf_InvalidNumber, ha, fun dx nd ne => q dx nd ne⟩
theorem ok_i9 (T : Tx K mg) : FnOk P w K mg base CX0 1 T.a_UnknownName___init__ T.d_UnknownName___init__ ["self", "name"] (spInit T.c_UnknownName "name") := by
  refine T.F_UnknownName___init__.ok sc_UnknownName___init__ (fun vs H Q E h => ?_) (fun cdv A outer s H vs Q E hr h => ?_)
  · obtain ⟨a, y, rfl, _⟩ := h
    rfl
  · obtain ⟨a, y, rfl, ha, q⟩ := h
    refine ⟨_, (pss_one (Gx.ps_ost1 (newId := "LookupError.__new__") PySem.Ge.tl_KE (pv 0) (pv 1))), ?_⟩
    exact ⟨_, rfl, _, rfl, a, T.c_UnknownName, rfl, T.e_UnknownName, T.nf_UnknownName, ha, fun dx nd ne => q dx nd ne⟩
theorem ok_i10 (T : Tx K mg) : FnOk P w K mg base CX0 1 T.a_TooMany___init__ T.d_TooMany___init__ ["self", "limit"] (spInit T.c_TooMany "limit") := by
  refine T.F_TooMany___init__.ok sc_TooMany___init__ (fun vs H Q E h => ?_) (fun cdv A outer s H vs Q E hr h => ?_)
  · obtain ⟨a, y, rfl, _⟩ := h
    rfl
  · obtain ⟨a, y, rfl, ha, q⟩ := h
    refine ⟨_, (pss_one (Gx.ps_ost1 (newId := "OverflowError.__new__") PySem.Ge.tl_OE (pv 0) (pv 1))), ?_⟩
    exact ⟨_, rfl, _, rfl, a, T.c_TooMany, rfl, T.e_TooMany, T.nf_TooMany, ha, fun dx nd ne => q dx nd ne⟩
theorem ok_i11 (T : Tx K mg) : FnOk P w K mg base CX0 1 T.a_NothingToUndo___init__ T.d_NothingToUndo___init__ ["self", "many"] (spInit T.c_NothingToUndo "many") := by
  refine T.F_NothingToUndo___init__.ok sc_NothingToUndo___init__ (fun vs H Q E h => ?_) (fun cdv A outer s H vs Q E hr h => ?_)
  · obtain ⟨a, y, rfl, _⟩ := h
    rfl
  · obtain ⟨a, y, rfl, ha, q⟩ := h
    refine ⟨_, (pss_one (Gx.ps_ost1 (newId := "LookupError.__new__") PySem.Ge.tl_LE (pv 0) (pv 1))), ?_⟩
    exact ⟨_, rfl, _, rfl, a, T.c_NothingToUndo, rfl, T.e_NothingToUndo, T.nf_NothingToUndo, ha, fun dx nd ne => q dx nd ne⟩
theorem ok_i12 (T : Tx K mg) : FnOk P w K mg base CX0 1 T.a_Unsteady___init__ T.d_Unsteady___init__ ["self", "breach"] (spInit T.c_Unsteady "breach") := by
  refine T.F_Unsteady___init__.ok sc_Unsteady___init__ (fun vs H Q E h => ?_) (fun cdv A outer s H vs Q E hr h => ?_)
  · obtain ⟨a, y, rfl, _⟩ := h
    rfl
  · obtain ⟨a, y, rfl, ha, q⟩ := h
    refine ⟨_, (pss_one (Gx.ps_ost1 (newId := "ArithmeticError.__new__") PySem.Ge.tl_AE (pv 0) (pv 1))), ?_⟩
    exact ⟨_, rfl, _, rfl, a, T.c_Unsteady, rfl, T.e_Unsteady, T.nf_Unsteady, ha, fun dx nd ne => q dx nd ne⟩
theorem ok_i13 (T : Tx K mg) : FnOk P w K mg base CX0 1 T.a_Refused___init__ T.d_Refused___init__ ["self", "name"] (spInit T.c_Refused "name") := by
  refine T.F_Refused___init__.ok sc_Refused___init__ (fun vs H Q E h => ?_) (fun cdv A outer s H vs Q E hr h => ?_)
  · obtain ⟨a, y, rfl, _⟩ := h
    rfl
  · obtain ⟨a, y, rfl, ha, q⟩ := h
    refine ⟨_, (pss_one (Gx.ps_ost1 (newId := "ArithmeticError.__new__") PySem.Ge.tl_AE (pv 0) (pv 1))), ?_⟩
    exact ⟨_, rfl, _, rfl, a, T.c_Refused, rfl, T.e_Refused, T.nf_Refused, ha, fun dx nd ne => q dx nd ne⟩
def spMade (cs : Nat → Addr) : Sp := fun vs H Q _ => ∃ (k : Nat) (y : V), vs = [.int (k : Int), y] ∧ k < 14 ∧ ∀ H' a, Same H H' → H a = none → Er H' a (cs k) (fy k y) → Q (.ref a) H'
def spPlain (cs : Nat → Addr) : Sp := fun vs H Q _ => ∃ (k : Nat) (y : V), vs = [.int (k : Int), y] ∧ k < 6 ∧ ∀ H' a, Same H H' → H a = none → Er H' a (cs k) none → Q (.ref a) H'
theorem ok_plain (T : Tx K mg) : FnOk P w K mg base CX0 1 T.a_l_made_plain T.d_l_made_plain ["lot", "value"] (spPlain T.cs) := by
  refine T.F_l_made_plain.ok sc_l_made_plain (fun vs H Q E h => ?_) (fun cdv A outer s H vs Q E hr h => ?_)
  · obtain ⟨k, y, rfl, _⟩ := h
    rfl
  · obtain ⟨k, y, rfl, hk, q⟩ := h
    refine ⟨_, (pss_cons (ps_if (pt_cmpR op_eq (pv 0) pe_int (nomark _))
      (pss_one (ps_ret (Gx.pe_mk0 PySem.F.excBase_ValueError T.x_InvalidName T.g_InvalidName T.k_InvalidName (by rfl) (pv 1))))
      pss_nil)
      (pss_cons (ps_if (pt_cmpR op_eq (pv 0) pe_int (nomark _))
      (pss_one (ps_ret (Gx.pe_mk0 PySem.F.excBase_ValueError T.x_InvalidRow T.g_InvalidRow T.k_InvalidRow (by rfl) (pv 1))))
      pss_nil)
      (pss_cons (ps_if (pt_cmpR op_eq (pv 0) pe_int (nomark _))
      (pss_one (ps_ret (Gx.pe_mk0 PySem.F.excBase_ValueError T.x_InvalidHouse T.g_InvalidHouse T.k_InvalidHouse (by rfl) (pv 1))))
      pss_nil)
      (pss_cons (ps_if (pt_cmpR op_eq (pv 0) pe_int (nomark _))
      (pss_one (ps_ret (Gx.pe_mk0 PySem.F.excBase_ValueError T.x_InvalidWish T.g_InvalidWish T.k_InvalidWish (by rfl) (pv 1))))
      pss_nil)
      (pss_one (ps_ret (pe_ifExp (pt_cmpR op_eq (pv 0) pe_int (nomark _)) (Gx.pe_mk0 PySem.F.excBase_ValueError T.x_InvalidShare T.g_InvalidShare T.k_InvalidShare (by rfl) (pv 1)) (Gx.pe_mk0 PySem.F.excBase_ValueError T.x_InvalidOperation T.g_InvalidOperation T.k_InvalidOperation (by rfl) (pv 1))))))))), ?_⟩
    refine ⟨_, rfl, rfl, _, rfl, ite2 (fun e => ?_) (fun e => ?_)⟩
    · obtain rfl : k = 0 := by have := isI e; omega
      exact ⟨_, rfl, fun a na => q _ a (same_new na _) na (.bare upd_same)⟩
    · have e0 := isN e
      refine ⟨_, rfl, rfl, _, rfl, ite2 (fun e => ?_) (fun e => ?_)⟩
      · obtain rfl : k = 1 := by have := isI e; omega
        exact ⟨_, rfl, fun a na => q _ a (same_new na _) na (.bare upd_same)⟩
      · have e1 := isN e
        refine ⟨_, rfl, rfl, _, rfl, ite2 (fun e => ?_) (fun e => ?_)⟩
        · obtain rfl : k = 2 := by have := isI e; omega
          exact ⟨_, rfl, fun a na => q _ a (same_new na _) na (.bare upd_same)⟩
        · have e2 := isN e
          refine ⟨_, rfl, rfl, _, rfl, ite2 (fun e => ?_) (fun e => ?_)⟩
          · obtain rfl : k = 3 := by have := isI e; omega
            exact ⟨_, rfl, fun a na => q _ a (same_new na _) na (.bare upd_same)⟩
          · have e3 := isN e
            refine ⟨_, rfl, rfl, _, rfl, ite2 (fun e => ?_) (fun e => ?_)⟩
            · obtain rfl : k = 4 := by have := isI e; omega
              exact ⟨_, rfl, fun a na => q _ a (same_new na _) na (.bare upd_same)⟩
            · have e4 := isN e
              obtain rfl : k = 5 := by omega
              exact ⟨_, rfl, fun a na => q _ a (same_new na _) na (.bare upd_same)⟩
theorem ok_made (T : Tx K mg) : FnOk P w K mg base CX0 3 T.a_l_made_one T.d_l_made_one ["lot", "value"] (spMade T.cs) := by
  have G_l_made_plain : FnOk P w K mg base CX0 1 T.a_l_made_plain T.d_l_made_plain ["lot", "value"] (spPlain T.cs) := ok_plain T
  have G_Unmatched___init__ : FnOk P w K mg base CX0 1 T.a_Unmatched___init__ T.d_Unmatched___init__ ["self", "pair"] (spInit T.c_Unmatched "pair") := ok_i6 T
  have G_ParseError___init__ : FnOk P w K mg base CX0 1 T.a_ParseError___init__ T.d_ParseError___init__ ["self", "index"] (spInit T.c_ParseError "index") := ok_i7 T
  have G_InvalidNumber___init__ : FnOk P w K mg base CX0 1 T.a_InvalidNumber___init__ T.d_InvalidNumber___init__ ["self", "value"] (spInit T.c_InvalidNumber "value") := ok_i8 T
  have G_UnknownName___init__ : FnOk P w K mg base CX0 1 T.a_UnknownName___init__ T.d_UnknownName___init__ ["self", "name"] (spInit T.c_UnknownName "name") := ok_i9 T
  have G_TooMany___init__ : FnOk P w K mg base CX0 1 T.a_TooMany___init__ T.d_TooMany___init__ ["self", "limit"] (spInit T.c_TooMany "limit") := ok_i10 T
  have G_NothingToUndo___init__ : FnOk P w K mg base CX0 1 T.a_NothingToUndo___init__ T.d_NothingToUndo___init__ ["self", "many"] (spInit T.c_NothingToUndo "many") := ok_i11 T
  have G_Unsteady___init__ : FnOk P w K mg base CX0 1 T.a_Unsteady___init__ T.d_Unsteady___init__ ["self", "breach"] (spInit T.c_Unsteady "breach") := ok_i12 T
  have G_Refused___init__ : FnOk P w K mg base CX0 1 T.a_Refused___init__ T.d_Refused___init__ ["self", "name"] (spInit T.c_Refused "name") := ok_i13 T
  refine T.F_l_made_one.ok sc_l_made_one (fun vs H Q E h => ?_) (fun cdv A outer s H vs Q E hr h => ?_)
  · obtain ⟨k, y, rfl, _⟩ := h
    rfl
  · obtain ⟨k, y, rfl, hk, q⟩ := h
    refine ⟨_, (pss_cons (ps_if (pt_cmpR op_lt (pv 0) pe_int (nomark _))
      (pss_one (ps_ret (pe_call G_l_made_plain (hr.mono (by decide)) (by rfl) T.g_l_made_plain T.F_l_made_plain.kp T.b_l_made_plain .nil pass0 (pa_cons (pv 0) (pa_cons (pv 1) pa_nil)))))
      pss_nil)
      (pss_cons (ps_if (pt_cmpR op_eq (pv 0) pe_int (nomark _))
      (pss_one (ps_ret (Gx.pe_mk1 PySem.F.excBase_ValueError PySem.Ge.has_VE T.e_Unmatched T.i_Unmatched T.ti_Unmatched G_Unmatched___init__ (hr.mono (by decide)) T.b_Unmatched___init__ .nil pass0 (by rfl) T.g_Unmatched (pa_cons (pv 1) pa_nil))))
      pss_nil)
      (pss_cons (ps_if (pt_cmpR op_eq (pv 0) pe_int (nomark _))
      (pss_one (ps_ret (Gx.pe_mk1 PySem.F.excBase_ValueError PySem.Ge.has_VE T.e_ParseError T.i_ParseError T.ti_ParseError G_ParseError___init__ (hr.mono (by decide)) T.b_ParseError___init__ .nil pass0 (by rfl) T.g_ParseError (pa_cons (pv 1) pa_nil))))
      pss_nil)
      (pss_cons (ps_if (pt_cmpR op_eq (pv 0) pe_int (nomark _))
      (pss_one (ps_ret (Gx.pe_mk1 PySem.F.excBase_IndexError PySem.Ge.has_IE T.e_InvalidNumber T.i_InvalidNumber T.ti_InvalidNumber G_InvalidNumber___init__ (hr.mono (by decide)) T.b_InvalidNumber___init__ .nil pass0 (by rfl) T.g_InvalidNumber (pa_cons (pv 1) pa_nil))))
      pss_nil)
      (pss_cons (ps_if (pt_cmpR op_eq (pv 0) pe_int (nomark _))
      (pss_one (ps_ret (Gx.pe_mk1 PySem.F.excBase_LookupError PySem.Ge.has_KE T.e_UnknownName T.i_UnknownName T.ti_UnknownName G_UnknownName___init__ (hr.mono (by decide)) T.b_UnknownName___init__ .nil pass0 (by rfl) T.g_UnknownName (pa_cons (pv 1) pa_nil))))
      pss_nil)
      (pss_cons (ps_if (pt_cmpR op_eq (pv 0) pe_int (nomark _))
      (pss_one (ps_ret (Gx.pe_mk1 PySem.F.excBase_OverflowError PySem.Ge.has_OE T.e_TooMany T.i_TooMany T.ti_TooMany G_TooMany___init__ (hr.mono (by decide)) T.b_TooMany___init__ .nil pass0 (by rfl) T.g_TooMany (pa_cons (pv 1) pa_nil))))
      pss_nil)
      (pss_cons (ps_if (pt_cmpR op_eq (pv 0) pe_int (nomark _))
      (pss_one (ps_ret (Gx.pe_mk1 PySem.F.excBase_LookupError PySem.Ge.has_LE T.e_NothingToUndo T.i_NothingToUndo T.ti_NothingToUndo G_NothingToUndo___init__ (hr.mono (by decide)) T.b_NothingToUndo___init__ .nil pass0 (by rfl) T.g_NothingToUndo (pa_cons (pv 1) pa_nil))))
      pss_nil)
      (pss_one (ps_ret (pe_ifExp (pt_cmpR op_eq (pv 0) pe_int (nomark _)) (Gx.pe_mk1 PySem.F.excBase_ArithmeticError PySem.Ge.has_AE T.e_Unsteady T.i_Unsteady T.ti_Unsteady G_Unsteady___init__ (hr.mono (by decide)) T.b_Unsteady___init__ .nil pass0 (by rfl) T.g_Unsteady (pa_cons (pv 1) pa_nil)) (Gx.pe_mk1 PySem.F.excBase_ArithmeticError PySem.Ge.has_AE T.e_Refused T.i_Refused T.ti_Refused G_Refused___init__ (hr.mono (by decide)) T.b_Refused___init__ .nil pass0 (by rfl) T.g_Refused (pa_cons (pv 1) pa_nil)))))))))))), ?_⟩
    refine ⟨_, rfl, _, _, rfl, rfl, _, rfl, ite2 (fun e => ?_) (fun e => ?_)⟩
    · have e1 := of_decide_eq_true e
      have e2 : k < 6 := by omega
      refine ⟨_, rfl, _, rfl, k, y, rfl, e2, fun H' a s n er => q _ a s n ?_⟩
      match k, e2, er with
      | 0, _, er => exact er
      | 1, _, er => exact er
      | 2, _, er => exact er
      | 3, _, er => exact er
      | 4, _, er => exact er
      | 5, _, er => exact er
    · have e6 : ¬ ((k : Int) < 6) := fun h => e (decide_eq_true h)
      refine ⟨_, rfl, rfl, _, rfl, ite2 (fun e => ?_) (fun e => ?_)⟩
      · obtain rfl : k = 6 := by have := isI e; omega
        exact ⟨_, rfl, (by show 1 ≤ 1000; decide), fun a na => ⟨a, y, rfl, upd_same, fun dx nd ne => ⟨rfl, q _ a (new_er na nd ne).1 na (new_er na nd ne).2⟩⟩⟩
      · have e106 := isN e
        refine ⟨_, rfl, rfl, _, rfl, ite2 (fun e => ?_) (fun e => ?_)⟩
        · obtain rfl : k = 7 := by have := isI e; omega
          exact ⟨_, rfl, (by show 1 ≤ 1000; decide), fun a na => ⟨a, y, rfl, upd_same, fun dx nd ne => ⟨rfl, q _ a (new_er na nd ne).1 na (new_er na nd ne).2⟩⟩⟩
        · have e107 := isN e
          refine ⟨_, rfl, rfl, _, rfl, ite2 (fun e => ?_) (fun e => ?_)⟩
          · obtain rfl : k = 8 := by have := isI e; omega
            exact ⟨_, rfl, (by show 1 ≤ 1000; decide), fun a na => ⟨a, y, rfl, upd_same, fun dx nd ne => ⟨rfl, q _ a (new_er na nd ne).1 na (new_er na nd ne).2⟩⟩⟩
          · have e108 := isN e
            refine ⟨_, rfl, rfl, _, rfl, ite2 (fun e => ?_) (fun e => ?_)⟩
            · obtain rfl : k = 9 := by have := isI e; omega
              exact ⟨_, rfl, (by show 1 ≤ 1000; decide), fun a na => ⟨a, y, rfl, upd_same, fun dx nd ne => ⟨rfl, q _ a (new_er na nd ne).1 na (new_er na nd ne).2⟩⟩⟩
            · have e109 := isN e
              refine ⟨_, rfl, rfl, _, rfl, ite2 (fun e => ?_) (fun e => ?_)⟩
              · obtain rfl : k = 10 := by have := isI e; omega
                exact ⟨_, rfl, (by show 1 ≤ 1000; decide), fun a na => ⟨a, y, rfl, upd_same, fun dx nd ne => ⟨rfl, q _ a (new_er na nd ne).1 na (new_er na nd ne).2⟩⟩⟩
              · have e110 := isN e
                refine ⟨_, rfl, rfl, _, rfl, ite2 (fun e => ?_) (fun e => ?_)⟩
                · obtain rfl : k = 11 := by have := isI e; omega
                  exact ⟨_, rfl, (by show 1 ≤ 1000; decide), fun a na => ⟨a, y, rfl, upd_same, fun dx nd ne => ⟨rfl, q _ a (new_er na nd ne).1 na (new_er na nd ne).2⟩⟩⟩
                · have e111 := isN e
                  refine ⟨_, rfl, rfl, _, rfl, ite2 (fun e => ?_) (fun e => ?_)⟩
                  · obtain rfl : k = 12 := by have := isI e; omega
                    exact ⟨_, rfl, (by show 1 ≤ 1000; decide), fun a na => ⟨a, y, rfl, upd_same, fun dx nd ne => ⟨rfl, q _ a (new_er na nd ne).1 na (new_er na nd ne).2⟩⟩⟩
                  · have e112 := isN e
                    obtain rfl : k = 13 := by omega
                    exact ⟨_, rfl, (by show 1 ≤ 1000; decide), fun a na => ⟨a, y, rfl, upd_same, fun dx nd ne => ⟨rfl, q _ a (new_er na nd ne).1 na (new_er na nd ne).2⟩⟩⟩
end
/-! C5 -/
open PySem PySem.Spec PyProof.Rows L2 Gd Gx

def spRaised (cs : Nat → Addr) : Sp := fun vs H _ E => ∃ (k : Nat) (y : V), vs = [.int (k : Int), y] ∧ k < 14 ∧ ∀ H' d, Same H H' → (k < 6 → d = none) → E (.ref (cs k)) d H'
theorem raised_heap {H H2 : Hp} {a dx d C : Addr} {f : Str} {y : V} {fs : List (Str × V)} (na : H a = none) (nd : (upd H a (exo a C none)) dx = none) (ne : dx ≠ a) : Same H (upd (L2.del (upd (upd (upd H a (exo a C none)) dx (exd dx [(f, y)])) a (exo a C (some dx))) a) dx (.xd fs)) := by
  intro b o e
  have nd2 : H dx = none := by rwa [upd_ne ne] at nd
  rw [upd_ne (ne_of_none e nd2), L2.del_ne (ne_of_none e na), upd_ne (ne_of_none e na), upd_ne (ne_of_none e nd2), upd_ne (ne_of_none e na)]
  exact e
section
variable {P : Program} {w : World} {K : PySem.W.Frag} {mg : Str → Option Value} {base : Heap}
theorem ok_raised (T : Tx K mg) : FnOk P w K mg base (L2.CX P w) 3 T.a_l_raised T.d_l_raised ["lot", "value"] (spRaised T.cs) := by
  have G_Unmatched___init__ : FnOk P w K mg base CX0 1 T.a_Unmatched___init__ T.d_Unmatched___init__ ["self", "pair"] (spInit T.c_Unmatched "pair") := ok_i6 T
  have G_ParseError___init__ : FnOk P w K mg base CX0 1 T.a_ParseError___init__ T.d_ParseError___init__ ["self", "index"] (spInit T.c_ParseError "index") := ok_i7 T
  have G_InvalidNumber___init__ : FnOk P w K mg base CX0 1 T.a_InvalidNumber___init__ T.d_InvalidNumber___init__ ["self", "value"] (spInit T.c_InvalidNumber "value") := ok_i8 T
  have G_UnknownName___init__ : FnOk P w K mg base CX0 1 T.a_UnknownName___init__ T.d_UnknownName___init__ ["self", "name"] (spInit T.c_UnknownName "name") := ok_i9 T
  have G_TooMany___init__ : FnOk P w K mg base CX0 1 T.a_TooMany___init__ T.d_TooMany___init__ ["self", "limit"] (spInit T.c_TooMany "limit") := ok_i10 T
  have G_NothingToUndo___init__ : FnOk P w K mg base CX0 1 T.a_NothingToUndo___init__ T.d_NothingToUndo___init__ ["self", "many"] (spInit T.c_NothingToUndo "many") := ok_i11 T
  have G_Unsteady___init__ : FnOk P w K mg base CX0 1 T.a_Unsteady___init__ T.d_Unsteady___init__ ["self", "breach"] (spInit T.c_Unsteady "breach") := ok_i12 T
  have G_Refused___init__ : FnOk P w K mg base CX0 1 T.a_Refused___init__ T.d_Refused___init__ ["self", "name"] (spInit T.c_Refused "name") := ok_i13 T
  refine T.F_l_raised.okX sc_l_raised (fun vs H Q E h => ?_) (fun cdv A outer s H vs Q E hr h => ?_)
  · obtain ⟨k, y, rfl, _⟩ := h
    rfl
  · obtain ⟨k, y, rfl, hk, q⟩ := h
    refine ⟨_, (pss_cons (ps_if (pt_cmpR op_eq (pv 0) pe_int (nomark _))
      (pss_one (ps_raise rfl (takes_of rfl rfl rfl rfl) (SkE.pmk_own1 PySem.F.excBase_ValueError T.x_InvalidName T.g_InvalidName T.k_InvalidName (raises_own T.e_InvalidName.hs T.ty_InvalidName) (by rfl) (pv 1))))
      pss_nil)
      (pss_cons (ps_if (pt_cmpR op_eq (pv 0) pe_int (nomark _))
      (pss_one (ps_raise rfl (takes_of rfl rfl rfl rfl) (SkE.pmk_own1 PySem.F.excBase_ValueError T.x_InvalidRow T.g_InvalidRow T.k_InvalidRow (raises_own T.e_InvalidRow.hs T.ty_InvalidRow) (by rfl) (pv 1))))
      pss_nil)
      (pss_cons (ps_if (pt_cmpR op_eq (pv 0) pe_int (nomark _))
      (pss_one (ps_raise rfl (takes_of rfl rfl rfl rfl) (SkE.pmk_own1 PySem.F.excBase_ValueError T.x_InvalidHouse T.g_InvalidHouse T.k_InvalidHouse (raises_own T.e_InvalidHouse.hs T.ty_InvalidHouse) (by rfl) (pv 1))))
      pss_nil)
      (pss_cons (ps_if (pt_cmpR op_eq (pv 0) pe_int (nomark _))
      (pss_one (ps_raise rfl (takes_of rfl rfl rfl rfl) (SkE.pmk_own1 PySem.F.excBase_ValueError T.x_InvalidWish T.g_InvalidWish T.k_InvalidWish (raises_own T.e_InvalidWish.hs T.ty_InvalidWish) (by rfl) (pv 1))))
      pss_nil)
      (pss_cons (ps_if (pt_cmpR op_eq (pv 0) pe_int (nomark _))
      (pss_one (ps_raise rfl (takes_of rfl rfl rfl rfl) (SkE.pmk_own1 PySem.F.excBase_ValueError T.x_InvalidShare T.g_InvalidShare T.k_InvalidShare (raises_own T.e_InvalidShare.hs T.ty_InvalidShare) (by rfl) (pv 1))))
      pss_nil)
      (pss_cons (ps_if (pt_cmpR op_eq (pv 0) pe_int (nomark _))
      (pss_one (ps_raise rfl (takes_of rfl rfl rfl rfl) (SkE.pmk_own1 PySem.F.excBase_ValueError T.x_InvalidOperation T.g_InvalidOperation T.k_InvalidOperation (raises_own T.e_InvalidOperation.hs T.ty_InvalidOperation) (by rfl) (pv 1))))
      pss_nil)
      (pss_cons (ps_if (pt_cmpR op_eq (pv 0) pe_int (nomark _))
      (pss_one (ps_raise rfl (takes_of rfl rfl rfl rfl) (Gx.pmk_mk1 PySem.F.excBase_ValueError PySem.Ge.has_VE T.e_Unmatched T.i_Unmatched T.ti_Unmatched G_Unmatched___init__ (hr.mono (by decide)) T.b_Unmatched___init__ .nil pass0 (by rfl) T.g_Unmatched (pa_cons (pv 1) pa_nil))))
      pss_nil)
      (pss_cons (ps_if (pt_cmpR op_eq (pv 0) pe_int (nomark _))
      (pss_one (ps_raise rfl (takes_of rfl rfl rfl rfl) (Gx.pmk_mk1 PySem.F.excBase_ValueError PySem.Ge.has_VE T.e_ParseError T.i_ParseError T.ti_ParseError G_ParseError___init__ (hr.mono (by decide)) T.b_ParseError___init__ .nil pass0 (by rfl) T.g_ParseError (pa_cons (pv 1) pa_nil))))
      pss_nil)
      (pss_cons (ps_if (pt_cmpR op_eq (pv 0) pe_int (nomark _))
      (pss_one (ps_raise rfl (takes_of rfl rfl rfl rfl) (Gx.pmk_mk1 PySem.F.excBase_IndexError PySem.Ge.has_IE T.e_InvalidNumber T.i_InvalidNumber T.ti_InvalidNumber G_InvalidNumber___init__ (hr.mono (by decide)) T.b_InvalidNumber___init__ .nil pass0 (by rfl) T.g_InvalidNumber (pa_cons (pv 1) pa_nil))))
      pss_nil)
      (pss_cons (ps_if (pt_cmpR op_eq (pv 0) pe_int (nomark _))
      (pss_one (ps_raise rfl (takes_of rfl rfl rfl rfl) (Gx.pmk_mk1 PySem.F.excBase_LookupError PySem.Ge.has_KE T.e_UnknownName T.i_UnknownName T.ti_UnknownName G_UnknownName___init__ (hr.mono (by decide)) T.b_UnknownName___init__ .nil pass0 (by rfl) T.g_UnknownName (pa_cons (pv 1) pa_nil))))
      pss_nil)
      (pss_cons (ps_if (pt_cmpR op_eq (pv 0) pe_int (nomark _))
      (pss_one (ps_raise rfl (takes_of rfl rfl rfl rfl) (Gx.pmk_mk1 PySem.F.excBase_OverflowError PySem.Ge.has_OE T.e_TooMany T.i_TooMany T.ti_TooMany G_TooMany___init__ (hr.mono (by decide)) T.b_TooMany___init__ .nil pass0 (by rfl) T.g_TooMany (pa_cons (pv 1) pa_nil))))
      pss_nil)
      (pss_cons (ps_if (pt_cmpR op_eq (pv 0) pe_int (nomark _))
      (pss_one (ps_raise rfl (takes_of rfl rfl rfl rfl) (Gx.pmk_mk1 PySem.F.excBase_LookupError PySem.Ge.has_LE T.e_NothingToUndo T.i_NothingToUndo T.ti_NothingToUndo G_NothingToUndo___init__ (hr.mono (by decide)) T.b_NothingToUndo___init__ .nil pass0 (by rfl) T.g_NothingToUndo (pa_cons (pv 1) pa_nil))))
      pss_nil)
      (pss_cons (ps_if (pt_cmpR op_eq (pv 0) pe_int (nomark _))
      (pss_one (ps_raise rfl (takes_of rfl rfl rfl rfl) (Gx.pmk_mk1 PySem.F.excBase_ArithmeticError PySem.Ge.has_AE T.e_Unsteady T.i_Unsteady T.ti_Unsteady G_Unsteady___init__ (hr.mono (by decide)) T.b_Unsteady___init__ .nil pass0 (by rfl) T.g_Unsteady (pa_cons (pv 1) pa_nil))))
      pss_nil)
      (pss_one (ps_raise rfl (takes_of rfl rfl rfl rfl) (Gx.pmk_mk1 PySem.F.excBase_ArithmeticError PySem.Ge.has_AE T.e_Refused T.i_Refused T.ti_Refused G_Refused___init__ (hr.mono (by decide)) T.b_Refused___init__ .nil pass0 (by rfl) T.g_Refused (pa_cons (pv 1) pa_nil))))))))))))))))), ?_⟩
    refine ⟨_, rfl, rfl, _, rfl, ite2 (fun e => ?_) (fun e => ?_)⟩
    · obtain rfl : k = 0 := by have := isI e; omega
      exact ⟨_, rfl, q _ none (Same.refl _) (fun _ => rfl)⟩
    · have e100 := isN e
      refine ⟨_, rfl, rfl, _, rfl, ite2 (fun e => ?_) (fun e => ?_)⟩
      · obtain rfl : k = 1 := by have := isI e; omega
        exact ⟨_, rfl, q _ none (Same.refl _) (fun _ => rfl)⟩
      · have e101 := isN e
        refine ⟨_, rfl, rfl, _, rfl, ite2 (fun e => ?_) (fun e => ?_)⟩
        · obtain rfl : k = 2 := by have := isI e; omega
          exact ⟨_, rfl, q _ none (Same.refl _) (fun _ => rfl)⟩
        · have e102 := isN e
          refine ⟨_, rfl, rfl, _, rfl, ite2 (fun e => ?_) (fun e => ?_)⟩
          · obtain rfl : k = 3 := by have := isI e; omega
            exact ⟨_, rfl, q _ none (Same.refl _) (fun _ => rfl)⟩
          · have e103 := isN e
            refine ⟨_, rfl, rfl, _, rfl, ite2 (fun e => ?_) (fun e => ?_)⟩
            · obtain rfl : k = 4 := by have := isI e; omega
              exact ⟨_, rfl, q _ none (Same.refl _) (fun _ => rfl)⟩
            · have e104 := isN e
              refine ⟨_, rfl, rfl, _, rfl, ite2 (fun e => ?_) (fun e => ?_)⟩
              · obtain rfl : k = 5 := by have := isI e; omega
                exact ⟨_, rfl, q _ none (Same.refl _) (fun _ => rfl)⟩
              · have e105 := isN e
                refine ⟨_, rfl, rfl, _, rfl, ite2 (fun e => ?_) (fun e => ?_)⟩
                · obtain rfl : k = 6 := by have := isI e; omega
                  exact ⟨_, rfl, (by show 1 ≤ 1000; decide), fun a na => ⟨a, y, rfl, upd_same, fun dx nd ne => ⟨rfl, dx, [("pair", y)], upd_same, (by rw [upd_ne ne, upd_same]), (by rwa [upd_ne ne] at nd), q _ _ (raised_heap (H2 := H) (d := dx) na nd ne) (fun z => absurd z (by decide))⟩⟩⟩
                · have e106 := isN e
                  refine ⟨_, rfl, rfl, _, rfl, ite2 (fun e => ?_) (fun e => ?_)⟩
                  · obtain rfl : k = 7 := by have := isI e; omega
                    exact ⟨_, rfl, (by show 1 ≤ 1000; decide), fun a na => ⟨a, y, rfl, upd_same, fun dx nd ne => ⟨rfl, dx, [("index", y)], upd_same, (by rw [upd_ne ne, upd_same]), (by rwa [upd_ne ne] at nd), q _ _ (raised_heap (H2 := H) (d := dx) na nd ne) (fun z => absurd z (by decide))⟩⟩⟩
                  · have e107 := isN e
                    refine ⟨_, rfl, rfl, _, rfl, ite2 (fun e => ?_) (fun e => ?_)⟩
                    · obtain rfl : k = 8 := by have := isI e; omega
                      exact ⟨_, rfl, (by show 1 ≤ 1000; decide), fun a na => ⟨a, y, rfl, upd_same, fun dx nd ne => ⟨rfl, dx, [("value", y)], upd_same, (by rw [upd_ne ne, upd_same]), (by rwa [upd_ne ne] at nd), q _ _ (raised_heap (H2 := H) (d := dx) na nd ne) (fun z => absurd z (by decide))⟩⟩⟩
                    · have e108 := isN e
                      refine ⟨_, rfl, rfl, _, rfl, ite2 (fun e => ?_) (fun e => ?_)⟩
                      · obtain rfl : k = 9 := by have := isI e; omega
                        exact ⟨_, rfl, (by show 1 ≤ 1000; decide), fun a na => ⟨a, y, rfl, upd_same, fun dx nd ne => ⟨rfl, dx, [("name", y)], upd_same, (by rw [upd_ne ne, upd_same]), (by rwa [upd_ne ne] at nd), q _ _ (raised_heap (H2 := H) (d := dx) na nd ne) (fun z => absurd z (by decide))⟩⟩⟩
                      · have e109 := isN e
                        refine ⟨_, rfl, rfl, _, rfl, ite2 (fun e => ?_) (fun e => ?_)⟩
                        · obtain rfl : k = 10 := by have := isI e; omega
                          exact ⟨_, rfl, (by show 1 ≤ 1000; decide), fun a na => ⟨a, y, rfl, upd_same, fun dx nd ne => ⟨rfl, dx, [("limit", y)], upd_same, (by rw [upd_ne ne, upd_same]), (by rwa [upd_ne ne] at nd), q _ _ (raised_heap (H2 := H) (d := dx) na nd ne) (fun z => absurd z (by decide))⟩⟩⟩
                        · have e110 := isN e
                          refine ⟨_, rfl, rfl, _, rfl, ite2 (fun e => ?_) (fun e => ?_)⟩
                          · obtain rfl : k = 11 := by have := isI e; omega
                            exact ⟨_, rfl, (by show 1 ≤ 1000; decide), fun a na => ⟨a, y, rfl, upd_same, fun dx nd ne => ⟨rfl, dx, [("many", y)], upd_same, (by rw [upd_ne ne, upd_same]), (by rwa [upd_ne ne] at nd), q _ _ (raised_heap (H2 := H) (d := dx) na nd ne) (fun z => absurd z (by decide))⟩⟩⟩
                          · have e111 := isN e
                            refine ⟨_, rfl, rfl, _, rfl, ite2 (fun e => ?_) (fun e => ?_)⟩
                            · obtain rfl : k = 12 := by have := isI e; omega
                              exact ⟨_, rfl, (by show 1 ≤ 1000; decide), fun a na => ⟨a, y, rfl, upd_same, fun dx nd ne => ⟨rfl, dx, [("breach", y)], upd_same, (by rw [upd_ne ne, upd_same]), (by rwa [upd_ne ne] at nd), q _ _ (raised_heap (H2 := H) (d := dx) na nd ne) (fun z => absurd z (by decide))⟩⟩⟩
                            · have e112 := isN e
                              obtain rfl : k = 13 := by omega
                              exact ⟨_, rfl, (by show 1 ≤ 1000; decide), fun a na => ⟨a, y, rfl, upd_same, fun dx nd ne => ⟨rfl, dx, [("name", y)], upd_same, (by rw [upd_ne ne, upd_same]), (by rwa [upd_ne ne] at nd), q _ _ (raised_heap (H2 := H) (d := dx) na nd ne) (fun z => absurd z (by decide))⟩⟩⟩
end
/-! C6 -/
open PySem PySem.Spec PyProof.Rows L2 Gd Gx

theorem mt_indexK {X : Cx} (K : PySem.W.Frag) (h : X.K = K := by rfl) : MtR X "list.index" (rIndex K) := by
  subst h
  exact mt_index
theorem any3 {K : PySem.W.Frag} {cls c1 c2 c3 : Value} {b1 b2 b3 : Bool} (h1 : PySem.W.exmOne K cls c1 = some b1) (h2 : PySem.W.exmOne K cls c2 = some b2) (h3 : PySem.W.exmOne K cls c3 = some b3) : PySem.W.exmAny K cls [c1, c2, c3] = some (b1 || (b2 || (b3 || false))) := by
  simp only [PySem.W.exmAny, h1, h2, h3]
theorem any6 {K : PySem.W.Frag} {cls c1 c2 c3 c4 c5 c6 : Value} {b1 b2 b3 b4 b5 b6 : Bool} (h1 : PySem.W.exmOne K cls c1 = some b1) (h2 : PySem.W.exmOne K cls c2 = some b2) (h3 : PySem.W.exmOne K cls c3 = some b3) (h4 : PySem.W.exmOne K cls c4 = some b4) (h5 : PySem.W.exmOne K cls c5 = some b5) (h6 : PySem.W.exmOne K cls c6 = some b6) :
    PySem.W.exmAny K cls [c1, c2, c3, c4, c5, c6] = some (b1 || (b2 || (b3 || (b4 || (b5 || (b6 || false)))))) := by
  simp only [PySem.W.exmAny, h1, h2, h3, h4, h5, h6]
theorem to14 {k : Nat} (h : k < 14) : k = 0 ∨ k = 1 ∨ k = 2 ∨ k = 3 ∨ k = 4 ∨ k = 5 ∨ k = 6 ∨ k = 7 ∨ k = 8 ∨ k = 9 ∨ k = 10 ∨ k = 11 ∨ k = 12 ∨ k = 13 := by omega
def spCaught : Sp := fun vs H Q _ => ∃ (k : Nat) (y : V), vs = [.int (k : Int), y] ∧ k < 14 ∧ ∀ H', Same H H' → Q (.int (k : Int)) H'
def spBase : Sp := fun vs H Q _ => ∃ (k : Nat) (y : V), vs = [.int (k : Int), y] ∧ k < 14 ∧ ∀ H', Same H H' → Q (.bl true) H'
section
variable {P : Program} {w : World} {K : PySem.W.Frag} {mg : Str → Option Value} {base : Heap}
theorem ok_caught (T : Tx K mg) : FnOk P w K mg base CX0 4 T.a_l_caught T.d_l_caught ["lot", "value"] spCaught := by
  have G_l_raised : FnOk P w K mg base (L2.CX P w) 3 T.a_l_raised T.d_l_raised ["lot", "value"] (spRaised T.cs) := ok_raised T
  refine T.F_l_caught.ok sc_l_caught (fun vs H Q E h => ?_) (fun cdv A outer s H vs Q E hr h => ?_)
  · obtain ⟨k, y, rfl, _⟩ := h
    rfl
  · obtain ⟨k, y, rfl, hk, q⟩ := h
    refine ⟨_, (pss_cons (Gx.ps_try_g rfl rfl sc_l_caught.nd takes0 (fun W pn xe tk _ => (pss_one (ps_expr (pe_callS G_l_raised (hr.mono (by decide)) (by rfl) T.g_l_raised T.F_l_raised.kp T.b_l_raised (fun σ => passAt tk σ) (pa_cons (pv 0) (pa_cons (pv 1) pa_nil)))))) (.named (i := 2) (Gx.ht_three ⟨by rfl, by decide, .inl T.g_InvalidName⟩ ⟨by rfl, by decide, .inl T.g_InvalidRow⟩ ⟨by rfl, by decide, .inl T.g_InvalidHouse⟩) rfl (by rfl) (fun a oe cls d pn hz hf => (pss_one (ps_ret (pe_bmK K PySem.F.plainAttrs_list PySem.F.slot_list_index PySem.F.type_list_index (mt_indexK K) (pe_lst (pa_cons (pe_callB (Gx.call_isC K hz hf) (by rfl) T.n_isinstance (by decide +kernel) (pa_cons (pv 2) (pa_cons (pe_glob (v := .ref T.c_InvalidName) rfl T.g_InvalidName rfl) pa_nil))) (pa_cons (pe_callB (Gx.call_isC K hz hf) (by rfl) T.n_isinstance (by decide +kernel) (pa_cons (pv 2) (pa_cons (pe_glob (v := .ref T.c_InvalidRow) rfl T.g_InvalidRow rfl) pa_nil))) (pa_cons pe_bl pa_nil)))) (pa_cons pe_bl pa_nil))))) (.named (i := 2) (Gx.ht_three ⟨by rfl, by decide, .inl T.g_InvalidWish⟩ ⟨by rfl, by decide, .inl T.g_InvalidShare⟩ ⟨by rfl, by decide, .inl T.g_InvalidOperation⟩) rfl (by rfl) (fun a oe cls d pn hz hf => (pss_one (ps_ret (pe_op op_add pe_int (pe_bmK K PySem.F.plainAttrs_list PySem.F.slot_list_index PySem.F.type_list_index (mt_indexK K) (pe_lst (pa_cons (pe_callB (Gx.call_isC K hz hf) (by rfl) T.n_isinstance (by decide +kernel) (pa_cons (pv 2) (pa_cons (pe_glob (v := .ref T.c_InvalidWish) rfl T.g_InvalidWish rfl) pa_nil))) (pa_cons (pe_callB (Gx.call_isC K hz hf) (by rfl) T.n_isinstance (by decide +kernel) (pa_cons (pv 2) (pa_cons (pe_glob (v := .ref T.c_InvalidShare) rfl T.g_InvalidShare rfl) pa_nil))) (pa_cons pe_bl pa_nil)))) (pa_cons pe_bl pa_nil)))))) (.bare (Gx.ht_name ⟨by rfl, by decide, .inl T.g_Unmatched⟩) (fun a oe cls d pn hz hf => (pss_one (ps_ret pe_int))) (.bare (Gx.ht_name ⟨by rfl, by decide, .inl T.g_ParseError⟩) (fun a oe cls d pn hz hf => (pss_one (ps_ret pe_int))) (.bare (Gx.ht_name ⟨by rfl, by decide, .inl T.g_InvalidNumber⟩) (fun a oe cls d pn hz hf => (pss_one (ps_ret pe_int))) (.bare (Gx.ht_name ⟨by rfl, by decide, .inl T.g_UnknownName⟩) (fun a oe cls d pn hz hf => (pss_one (ps_ret pe_int))) (.bare (Gx.ht_name ⟨by rfl, by decide, .inl T.g_TooMany⟩) (fun a oe cls d pn hz hf => (pss_one (ps_ret pe_int))) (.bare (Gx.ht_name ⟨by rfl, by decide, .inl T.g_NothingToUndo⟩) (fun a oe cls d pn hz hf => (pss_one (ps_ret pe_int))) (.bare (Gx.ht_name ⟨by rfl, by decide, .inl T.g_Unsteady⟩) (fun a oe cls d pn hz hf => (pss_one (ps_ret pe_int))) (.bare (Gx.ht_name ⟨by rfl, by decide, .inl T.g_Refused⟩) (fun a oe cls d pn hz hf => (pss_one (ps_ret pe_int))) .nil)))))))))))
      (pss_one (ps_ret pe_int))), ?_⟩
    rcases to14 hk with rfl | rfl | rfl | rfl | rfl | rfl | rfl | rfl | rfl | rfl | rfl | rfl | rfl | rfl
    · refine ⟨_, rfl, _, rfl, 0, y, rfl, by decide, fun H1 d1 s1 dn => ?_⟩
      refine ⟨true, any3 (Gx.tabX_at T.tabX (i := 0) (j := 0) (r := some true) rfl rfl rfl) (Gx.tabX_at T.tabX (i := 0) (j := 1) (r := some false) rfl rfl rfl) (Gx.tabX_at T.tabX (i := 0) (j := 2) (r := some false) rfl rfl rfl), ⟨fun _ a na => ?_, (fun z => by cases z)⟩⟩
      refine ⟨_, rfl, T.c_InvalidName, _, _, _, rfl, rfl, dn (by decide), T.e_InvalidName, .own _, (Gx.tabK_at T.tabK (i := 0) (j := 0) (r := some true) rfl rfl rfl), _, rfl, T.c_InvalidName, _, _, _, rfl, rfl, dn (by decide), T.e_InvalidName, .own _, (Gx.tabK_at T.tabK (i := 0) (j := 1) (r := some false) rfl rfl rfl), (by show 3 ≤ sizeLine; decide), fun L nL => ⟨.inl ⟨rfl, _, .inl (.inl upd_same)⟩, L, _, _, 0, .bl true, rfl, rfl, .inl (.inl upd_same), rfl, rfl, rfl, rfl, ?_, ?_⟩⟩
      · intro m z lt e
        cases lt
      · exact q _ (s1.trans (same_new nL _))
    · refine ⟨_, rfl, _, rfl, 1, y, rfl, by decide, fun H1 d1 s1 dn => ?_⟩
      refine ⟨true, any3 (Gx.tabX_at T.tabX (i := 1) (j := 0) (r := some false) rfl rfl rfl) (Gx.tabX_at T.tabX (i := 1) (j := 1) (r := some true) rfl rfl rfl) (Gx.tabX_at T.tabX (i := 1) (j := 2) (r := some false) rfl rfl rfl), ⟨fun _ a na => ?_, (fun z => by cases z)⟩⟩
      refine ⟨_, rfl, T.c_InvalidRow, _, _, _, rfl, rfl, dn (by decide), T.e_InvalidRow, .own _, (Gx.tabK_at T.tabK (i := 1) (j := 0) (r := some false) rfl rfl rfl), _, rfl, T.c_InvalidRow, _, _, _, rfl, rfl, dn (by decide), T.e_InvalidRow, .own _, (Gx.tabK_at T.tabK (i := 1) (j := 1) (r := some true) rfl rfl rfl), (by show 3 ≤ sizeLine; decide), fun L nL => ⟨.inl ⟨rfl, _, .inl (.inl upd_same)⟩, L, _, _, 1, .bl true, rfl, rfl, .inl (.inl upd_same), rfl, rfl, rfl, rfl, ?_, ?_⟩⟩
      · intro m z lt e
        match m, lt, e with
        | 0, _, e => cases e; rfl
      · exact q _ (s1.trans (same_new nL _))
    · refine ⟨_, rfl, _, rfl, 2, y, rfl, by decide, fun H1 d1 s1 dn => ?_⟩
      refine ⟨true, any3 (Gx.tabX_at T.tabX (i := 2) (j := 0) (r := some false) rfl rfl rfl) (Gx.tabX_at T.tabX (i := 2) (j := 1) (r := some false) rfl rfl rfl) (Gx.tabX_at T.tabX (i := 2) (j := 2) (r := some true) rfl rfl rfl), ⟨fun _ a na => ?_, (fun z => by cases z)⟩⟩
      refine ⟨_, rfl, T.c_InvalidHouse, _, _, _, rfl, rfl, dn (by decide), T.e_InvalidHouse, .own _, (Gx.tabK_at T.tabK (i := 2) (j := 0) (r := some false) rfl rfl rfl), _, rfl, T.c_InvalidHouse, _, _, _, rfl, rfl, dn (by decide), T.e_InvalidHouse, .own _, (Gx.tabK_at T.tabK (i := 2) (j := 1) (r := some false) rfl rfl rfl), (by show 3 ≤ sizeLine; decide), fun L nL => ⟨.inl ⟨rfl, _, .inl (.inl upd_same)⟩, L, _, _, 2, .bl true, rfl, rfl, .inl (.inl upd_same), rfl, rfl, rfl, rfl, ?_, ?_⟩⟩
      · intro m z lt e
        match m, lt, e with
        | 0, _, e => cases e; rfl
        | 1, _, e => cases e; rfl
      · exact q _ (s1.trans (same_new nL _))
    · refine ⟨_, rfl, _, rfl, 3, y, rfl, by decide, fun H1 d1 s1 dn => ?_⟩
      refine ⟨false, any3 (Gx.tabX_at T.tabX (i := 3) (j := 0) (r := some false) rfl rfl rfl) (Gx.tabX_at T.tabX (i := 3) (j := 1) (r := some false) rfl rfl rfl) (Gx.tabX_at T.tabX (i := 3) (j := 2) (r := some false) rfl rfl rfl), ⟨(fun z => by cases z), fun _ => ?_⟩⟩
      refine ⟨true, any3 (Gx.tabX_at T.tabX (i := 3) (j := 3) (r := some true) rfl rfl rfl) (Gx.tabX_at T.tabX (i := 3) (j := 4) (r := some false) rfl rfl rfl) (Gx.tabX_at T.tabX (i := 3) (j := 5) (r := some false) rfl rfl rfl), ⟨fun _ a na => ?_, (fun z => by cases z)⟩⟩
      refine ⟨_, rfl, T.c_InvalidWish, _, _, _, rfl, rfl, dn (by decide), T.e_InvalidWish, .own _, (Gx.tabK_at T.tabK (i := 3) (j := 3) (r := some true) rfl rfl rfl), _, rfl, T.c_InvalidWish, _, _, _, rfl, rfl, dn (by decide), T.e_InvalidWish, .own _, (Gx.tabK_at T.tabK (i := 3) (j := 4) (r := some false) rfl rfl rfl), (by show 3 ≤ sizeLine; decide), fun L nL => ⟨.inl ⟨rfl, _, .inl (.inl upd_same)⟩, L, _, _, 0, .bl true, rfl, rfl, .inl (.inl upd_same), rfl, rfl, rfl, rfl, ?_, ?_⟩⟩
      · intro m z lt e
        cases lt
      · exact ⟨_, _, rfl, rfl, q _ (s1.trans (same_new nL _))⟩
    · refine ⟨_, rfl, _, rfl, 4, y, rfl, by decide, fun H1 d1 s1 dn => ?_⟩
      refine ⟨false, any3 (Gx.tabX_at T.tabX (i := 4) (j := 0) (r := some false) rfl rfl rfl) (Gx.tabX_at T.tabX (i := 4) (j := 1) (r := some false) rfl rfl rfl) (Gx.tabX_at T.tabX (i := 4) (j := 2) (r := some false) rfl rfl rfl), ⟨(fun z => by cases z), fun _ => ?_⟩⟩
      refine ⟨true, any3 (Gx.tabX_at T.tabX (i := 4) (j := 3) (r := some false) rfl rfl rfl) (Gx.tabX_at T.tabX (i := 4) (j := 4) (r := some true) rfl rfl rfl) (Gx.tabX_at T.tabX (i := 4) (j := 5) (r := some false) rfl rfl rfl), ⟨fun _ a na => ?_, (fun z => by cases z)⟩⟩
      refine ⟨_, rfl, T.c_InvalidShare, _, _, _, rfl, rfl, dn (by decide), T.e_InvalidShare, .own _, (Gx.tabK_at T.tabK (i := 4) (j := 3) (r := some false) rfl rfl rfl), _, rfl, T.c_InvalidShare, _, _, _, rfl, rfl, dn (by decide), T.e_InvalidShare, .own _, (Gx.tabK_at T.tabK (i := 4) (j := 4) (r := some true) rfl rfl rfl), (by show 3 ≤ sizeLine; decide), fun L nL => ⟨.inl ⟨rfl, _, .inl (.inl upd_same)⟩, L, _, _, 1, .bl true, rfl, rfl, .inl (.inl upd_same), rfl, rfl, rfl, rfl, ?_, ?_⟩⟩
      · intro m z lt e
        match m, lt, e with
        | 0, _, e => cases e; rfl
      · exact ⟨_, _, rfl, rfl, q _ (s1.trans (same_new nL _))⟩
    · refine ⟨_, rfl, _, rfl, 5, y, rfl, by decide, fun H1 d1 s1 dn => ?_⟩
      refine ⟨false, any3 (Gx.tabX_at T.tabX (i := 5) (j := 0) (r := some false) rfl rfl rfl) (Gx.tabX_at T.tabX (i := 5) (j := 1) (r := some false) rfl rfl rfl) (Gx.tabX_at T.tabX (i := 5) (j := 2) (r := some false) rfl rfl rfl), ⟨(fun z => by cases z), fun _ => ?_⟩⟩
      refine ⟨true, any3 (Gx.tabX_at T.tabX (i := 5) (j := 3) (r := some false) rfl rfl rfl) (Gx.tabX_at T.tabX (i := 5) (j := 4) (r := some false) rfl rfl rfl) (Gx.tabX_at T.tabX (i := 5) (j := 5) (r := some true) rfl rfl rfl), ⟨fun _ a na => ?_, (fun z => by cases z)⟩⟩
      refine ⟨_, rfl, T.c_InvalidOperation, _, _, _, rfl, rfl, dn (by decide), T.e_InvalidOperation, .own _, (Gx.tabK_at T.tabK (i := 5) (j := 3) (r := some false) rfl rfl rfl), _, rfl, T.c_InvalidOperation, _, _, _, rfl, rfl, dn (by decide), T.e_InvalidOperation, .own _, (Gx.tabK_at T.tabK (i := 5) (j := 4) (r := some false) rfl rfl rfl), (by show 3 ≤ sizeLine; decide), fun L nL => ⟨.inl ⟨rfl, _, .inl (.inl upd_same)⟩, L, _, _, 2, .bl true, rfl, rfl, .inl (.inl upd_same), rfl, rfl, rfl, rfl, ?_, ?_⟩⟩
      · intro m z lt e
        match m, lt, e with
        | 0, _, e => cases e; rfl
        | 1, _, e => cases e; rfl
      · exact ⟨_, _, rfl, rfl, q _ (s1.trans (same_new nL _))⟩
    · refine ⟨_, rfl, _, rfl, 6, y, rfl, by decide, fun H1 d1 s1 dn => ?_⟩
      refine ⟨false, any3 (Gx.tabX_at T.tabX (i := 6) (j := 0) (r := some false) rfl rfl rfl) (Gx.tabX_at T.tabX (i := 6) (j := 1) (r := some false) rfl rfl rfl) (Gx.tabX_at T.tabX (i := 6) (j := 2) (r := some false) rfl rfl rfl), ⟨(fun z => by cases z), fun _ => ?_⟩⟩
      refine ⟨false, any3 (Gx.tabX_at T.tabX (i := 6) (j := 3) (r := some false) rfl rfl rfl) (Gx.tabX_at T.tabX (i := 6) (j := 4) (r := some false) rfl rfl rfl) (Gx.tabX_at T.tabX (i := 6) (j := 5) (r := some false) rfl rfl rfl), ⟨(fun z => by cases z), fun _ => ?_⟩⟩
      refine ⟨true, (Gx.tabX_at T.tabX (i := 6) (j := 6) (r := some true) rfl rfl rfl), ⟨fun _ a na => ?_, (fun z => by cases z)⟩⟩
      exact q _ s1
    · refine ⟨_, rfl, _, rfl, 7, y, rfl, by decide, fun H1 d1 s1 dn => ?_⟩
      refine ⟨false, any3 (Gx.tabX_at T.tabX (i := 7) (j := 0) (r := some false) rfl rfl rfl) (Gx.tabX_at T.tabX (i := 7) (j := 1) (r := some false) rfl rfl rfl) (Gx.tabX_at T.tabX (i := 7) (j := 2) (r := some false) rfl rfl rfl), ⟨(fun z => by cases z), fun _ => ?_⟩⟩
      refine ⟨false, any3 (Gx.tabX_at T.tabX (i := 7) (j := 3) (r := some false) rfl rfl rfl) (Gx.tabX_at T.tabX (i := 7) (j := 4) (r := some false) rfl rfl rfl) (Gx.tabX_at T.tabX (i := 7) (j := 5) (r := some false) rfl rfl rfl), ⟨(fun z => by cases z), fun _ => ?_⟩⟩
      refine ⟨false, (Gx.tabX_at T.tabX (i := 7) (j := 6) (r := some false) rfl rfl rfl), ⟨(fun z => by cases z), fun _ => ?_⟩⟩
      refine ⟨true, (Gx.tabX_at T.tabX (i := 7) (j := 7) (r := some true) rfl rfl rfl), ⟨fun _ a na => ?_, (fun z => by cases z)⟩⟩
      exact q _ s1
    · refine ⟨_, rfl, _, rfl, 8, y, rfl, by decide, fun H1 d1 s1 dn => ?_⟩
      refine ⟨false, any3 (Gx.tabX_at T.tabX (i := 8) (j := 0) (r := some false) rfl rfl rfl) (Gx.tabX_at T.tabX (i := 8) (j := 1) (r := some false) rfl rfl rfl) (Gx.tabX_at T.tabX (i := 8) (j := 2) (r := some false) rfl rfl rfl), ⟨(fun z => by cases z), fun _ => ?_⟩⟩
      refine ⟨false, any3 (Gx.tabX_at T.tabX (i := 8) (j := 3) (r := some false) rfl rfl rfl) (Gx.tabX_at T.tabX (i := 8) (j := 4) (r := some false) rfl rfl rfl) (Gx.tabX_at T.tabX (i := 8) (j := 5) (r := some false) rfl rfl rfl), ⟨(fun z => by cases z), fun _ => ?_⟩⟩
      refine ⟨false, (Gx.tabX_at T.tabX (i := 8) (j := 6) (r := some false) rfl rfl rfl), ⟨(fun z => by cases z), fun _ => ?_⟩⟩
      refine ⟨false, (Gx.tabX_at T.tabX (i := 8) (j := 7) (r := some false) rfl rfl rfl), ⟨(fun z => by cases z), fun _ => ?_⟩⟩
      refine ⟨true, (Gx.tabX_at T.tabX (i := 8) (j := 8) (r := some true) rfl rfl rfl), ⟨fun _ a na => ?_, (fun z => by cases z)⟩⟩
      exact q _ s1
    · refine ⟨_, rfl, _, rfl, 9, y, rfl, by decide, fun H1 d1 s1 dn => ?_⟩
      refine ⟨false, any3 (Gx.tabX_at T.tabX (i := 9) (j := 0) (r := some false) rfl rfl rfl) (Gx.tabX_at T.tabX (i := 9) (j := 1) (r := some false) rfl rfl rfl) (Gx.tabX_at T.tabX (i := 9) (j := 2) (r := some false) rfl rfl rfl), ⟨(fun z => by cases z), fun _ => ?_⟩⟩
      refine ⟨false, any3 (Gx.tabX_at T.tabX (i := 9) (j := 3) (r := some false) rfl rfl rfl) (Gx.tabX_at T.tabX (i := 9) (j := 4) (r := some false) rfl rfl rfl) (Gx.tabX_at T.tabX (i := 9) (j := 5) (r := some false) rfl rfl rfl), ⟨(fun z => by cases z), fun _ => ?_⟩⟩
      refine ⟨false, (Gx.tabX_at T.tabX (i := 9) (j := 6) (r := some false) rfl rfl rfl), ⟨(fun z => by cases z), fun _ => ?_⟩⟩
      refine ⟨false, (Gx.tabX_at T.tabX (i := 9) (j := 7) (r := some false) rfl rfl rfl), ⟨(fun z => by cases z), fun _ => ?_⟩⟩
      refine ⟨false, (Gx.tabX_at T.tabX (i := 9) (j := 8) (r := some false) rfl rfl rfl), ⟨(fun z => by cases z), fun _ => ?_⟩⟩
      refine ⟨true, (Gx.tabX_at T.tabX (i := 9) (j := 9) (r := some true) rfl rfl rfl), ⟨fun _ a na => ?_, (fun z => by cases z)⟩⟩
      exact q _ s1
    · refine ⟨_, rfl, _, rfl, 10, y, rfl, by decide, fun H1 d1 s1 dn => ?_⟩
      refine ⟨false, any3 (Gx.tabX_at T.tabX (i := 10) (j := 0) (r := some false) rfl rfl rfl) (Gx.tabX_at T.tabX (i := 10) (j := 1) (r := some false) rfl rfl rfl) (Gx.tabX_at T.tabX (i := 10) (j := 2) (r := some false) rfl rfl rfl), ⟨(fun z => by cases z), fun _ => ?_⟩⟩
      refine ⟨false, any3 (Gx.tabX_at T.tabX (i := 10) (j := 3) (r := some false) rfl rfl rfl) (Gx.tabX_at T.tabX (i := 10) (j := 4) (r := some false) rfl rfl rfl) (Gx.tabX_at T.tabX (i := 10) (j := 5) (r := some false) rfl rfl rfl), ⟨(fun z => by cases z), fun _ => ?_⟩⟩
      refine ⟨false, (Gx.tabX_at T.tabX (i := 10) (j := 6) (r := some false) rfl rfl rfl), ⟨(fun z => by cases z), fun _ => ?_⟩⟩
      refine ⟨false, (Gx.tabX_at T.tabX (i := 10) (j := 7) (r := some false) rfl rfl rfl), ⟨(fun z => by cases z), fun _ => ?_⟩⟩
      refine ⟨false, (Gx.tabX_at T.tabX (i := 10) (j := 8) (r := some false) rfl rfl rfl), ⟨(fun z => by cases z), fun _ => ?_⟩⟩
      refine ⟨false, (Gx.tabX_at T.tabX (i := 10) (j := 9) (r := some false) rfl rfl rfl), ⟨(fun z => by cases z), fun _ => ?_⟩⟩
      refine ⟨true, (Gx.tabX_at T.tabX (i := 10) (j := 10) (r := some true) rfl rfl rfl), ⟨fun _ a na => ?_, (fun z => by cases z)⟩⟩
      exact q _ s1
    · refine ⟨_, rfl, _, rfl, 11, y, rfl, by decide, fun H1 d1 s1 dn => ?_⟩
      refine ⟨false, any3 (Gx.tabX_at T.tabX (i := 11) (j := 0) (r := some false) rfl rfl rfl) (Gx.tabX_at T.tabX (i := 11) (j := 1) (r := some false) rfl rfl rfl) (Gx.tabX_at T.tabX (i := 11) (j := 2) (r := some false) rfl rfl rfl), ⟨(fun z => by cases z), fun _ => ?_⟩⟩
      refine ⟨false, any3 (Gx.tabX_at T.tabX (i := 11) (j := 3) (r := some false) rfl rfl rfl) (Gx.tabX_at T.tabX (i := 11) (j := 4) (r := some false) rfl rfl rfl) (Gx.tabX_at T.tabX (i := 11) (j := 5) (r := some false) rfl rfl rfl), ⟨(fun z => by cases z), fun _ => ?_⟩⟩
      refine ⟨false, (Gx.tabX_at T.tabX (i := 11) (j := 6) (r := some false) rfl rfl rfl), ⟨(fun z => by cases z), fun _ => ?_⟩⟩
      refine ⟨false, (Gx.tabX_at T.tabX (i := 11) (j := 7) (r := some false) rfl rfl rfl), ⟨(fun z => by cases z), fun _ => ?_⟩⟩
      refine ⟨false, (Gx.tabX_at T.tabX (i := 11) (j := 8) (r := some false) rfl rfl rfl), ⟨(fun z => by cases z), fun _ => ?_⟩⟩
      refine ⟨false, (Gx.tabX_at T.tabX (i := 11) (j := 9) (r := some false) rfl rfl rfl), ⟨(fun z => by cases z), fun _ => ?_⟩⟩
      refine ⟨false, (Gx.tabX_at T.tabX (i := 11) (j := 10) (r := some false) rfl rfl rfl), ⟨(fun z => by cases z), fun _ => ?_⟩⟩
      refine ⟨true, (Gx.tabX_at T.tabX (i := 11) (j := 11) (r := some true) rfl rfl rfl), ⟨fun _ a na => ?_, (fun z => by cases z)⟩⟩
      exact q _ s1
    · refine ⟨_, rfl, _, rfl, 12, y, rfl, by decide, fun H1 d1 s1 dn => ?_⟩
      refine ⟨false, any3 (Gx.tabX_at T.tabX (i := 12) (j := 0) (r := some false) rfl rfl rfl) (Gx.tabX_at T.tabX (i := 12) (j := 1) (r := some false) rfl rfl rfl) (Gx.tabX_at T.tabX (i := 12) (j := 2) (r := some false) rfl rfl rfl), ⟨(fun z => by cases z), fun _ => ?_⟩⟩
      refine ⟨false, any3 (Gx.tabX_at T.tabX (i := 12) (j := 3) (r := some false) rfl rfl rfl) (Gx.tabX_at T.tabX (i := 12) (j := 4) (r := some false) rfl rfl rfl) (Gx.tabX_at T.tabX (i := 12) (j := 5) (r := some false) rfl rfl rfl), ⟨(fun z => by cases z), fun _ => ?_⟩⟩
      refine ⟨false, (Gx.tabX_at T.tabX (i := 12) (j := 6) (r := some false) rfl rfl rfl), ⟨(fun z => by cases z), fun _ => ?_⟩⟩
      refine ⟨false, (Gx.tabX_at T.tabX (i := 12) (j := 7) (r := some false) rfl rfl rfl), ⟨(fun z => by cases z), fun _ => ?_⟩⟩
      refine ⟨false, (Gx.tabX_at T.tabX (i := 12) (j := 8) (r := some false) rfl rfl rfl), ⟨(fun z => by cases z), fun _ => ?_⟩⟩
      refine ⟨false, (Gx.tabX_at T.tabX (i := 12) (j := 9) (r := some false) rfl rfl rfl), ⟨(fun z => by cases z), fun _ => ?_⟩⟩
      refine ⟨false, (Gx.tabX_at T.tabX (i := 12) (j := 10) (r := some false) rfl rfl rfl), ⟨(fun z => by cases z), fun _ => ?_⟩⟩
      refine ⟨false, (Gx.tabX_at T.tabX (i := 12) (j := 11) (r := some false) rfl rfl rfl), ⟨(fun z => by cases z), fun _ => ?_⟩⟩
      refine ⟨true, (Gx.tabX_at T.tabX (i := 12) (j := 12) (r := some true) rfl rfl rfl), ⟨fun _ a na => ?_, (fun z => by cases z)⟩⟩
      exact q _ s1
    · refine ⟨_, rfl, _, rfl, 13, y, rfl, by decide, fun H1 d1 s1 dn => ?_⟩
      refine ⟨false, any3 (Gx.tabX_at T.tabX (i := 13) (j := 0) (r := some false) rfl rfl rfl) (Gx.tabX_at T.tabX (i := 13) (j := 1) (r := some false) rfl rfl rfl) (Gx.tabX_at T.tabX (i := 13) (j := 2) (r := some false) rfl rfl rfl), ⟨(fun z => by cases z), fun _ => ?_⟩⟩
      refine ⟨false, any3 (Gx.tabX_at T.tabX (i := 13) (j := 3) (r := some false) rfl rfl rfl) (Gx.tabX_at T.tabX (i := 13) (j := 4) (r := some false) rfl rfl rfl) (Gx.tabX_at T.tabX (i := 13) (j := 5) (r := some false) rfl rfl rfl), ⟨(fun z => by cases z), fun _ => ?_⟩⟩
      refine ⟨false, (Gx.tabX_at T.tabX (i := 13) (j := 6) (r := some false) rfl rfl rfl), ⟨(fun z => by cases z), fun _ => ?_⟩⟩
      refine ⟨false, (Gx.tabX_at T.tabX (i := 13) (j := 7) (r := some false) rfl rfl rfl), ⟨(fun z => by cases z), fun _ => ?_⟩⟩
      refine ⟨false, (Gx.tabX_at T.tabX (i := 13) (j := 8) (r := some false) rfl rfl rfl), ⟨(fun z => by cases z), fun _ => ?_⟩⟩
      refine ⟨false, (Gx.tabX_at T.tabX (i := 13) (j := 9) (r := some false) rfl rfl rfl), ⟨(fun z => by cases z), fun _ => ?_⟩⟩
      refine ⟨false, (Gx.tabX_at T.tabX (i := 13) (j := 10) (r := some false) rfl rfl rfl), ⟨(fun z => by cases z), fun _ => ?_⟩⟩
      refine ⟨false, (Gx.tabX_at T.tabX (i := 13) (j := 11) (r := some false) rfl rfl rfl), ⟨(fun z => by cases z), fun _ => ?_⟩⟩
      refine ⟨false, (Gx.tabX_at T.tabX (i := 13) (j := 12) (r := some false) rfl rfl rfl), ⟨(fun z => by cases z), fun _ => ?_⟩⟩
      refine ⟨true, (Gx.tabX_at T.tabX (i := 13) (j := 13) (r := some true) rfl rfl rfl), ⟨fun _ a na => ?_, (fun z => by cases z)⟩⟩
      exact q _ s1
end
/-! C7 -/
open PySem PySem.Spec PyProof.Rows L2 Gd Gx

section
variable {P : Program} {w : World} {K : PySem.W.Frag} {mg : Str → Option Value} {base : Heap}
theorem ok_by_base (T : Tx K mg) : FnOk P w K mg base CX0 4 T.a_l_is_caught_by_base T.d_l_is_caught_by_base ["lot", "value"] spBase := by
  have G_l_raised : FnOk P w K mg base (L2.CX P w) 3 T.a_l_raised T.d_l_raised ["lot", "value"] (spRaised T.cs) := ok_raised T
  refine T.F_l_is_caught_by_base.ok sc_l_is_caught_by_base (fun vs H Q E h => ?_) (fun cdv A outer s H vs Q E hr h => ?_)
  · obtain ⟨k, y, rfl, _⟩ := h
    rfl
  · obtain ⟨k, y, rfl, hk, q⟩ := h
    refine ⟨_, (pss_cons (Gx.ps_try_g rfl rfl sc_l_is_caught_by_base.nd takes0 (fun W pn xe tk _ => (pss_one (ps_expr (pe_callS G_l_raised (hr.mono (by decide)) (by rfl) T.g_l_raised T.F_l_raised.kp T.b_l_raised (fun σ => passAt tk σ) (pa_cons (pv 0) (pa_cons (pv 1) pa_nil)))))) (.bare (Gx.ht_name ⟨by rfl, by decide, .inl T.g_ShareError⟩) (fun a oe cls d pn hz hf => (pss_one (ps_ret (pe_cmpR op_lt (pv 0) pe_int (nomark _))))) (.bare (Gx.ht_six ⟨by rfl, by decide, .inl T.g_InvalidNumber⟩ ⟨by rfl, by decide, .inl T.g_UnknownName⟩ ⟨by rfl, by decide, .inl T.g_TooMany⟩ ⟨by rfl, by decide, .inl T.g_NothingToUndo⟩ ⟨by rfl, by decide, .inl T.g_Unsteady⟩ ⟨by rfl, by decide, .inl T.g_Refused⟩) (fun a oe cls d pn hz hf => (pss_one (ps_ret (pe_cmpR op_gt (pv 0) pe_int (nomark _))))) .nil)))
      (pss_one (ps_ret pe_bl))), ?_⟩
    rcases to14 hk with rfl | rfl | rfl | rfl | rfl | rfl | rfl | rfl | rfl | rfl | rfl | rfl | rfl | rfl
    · refine ⟨_, rfl, _, rfl, 0, y, rfl, by decide, fun H1 d1 s1 dn => ?_⟩
      refine ⟨true, (Gx.tabX_at T.tabX (i := 0) (j := 14) (r := some true) rfl rfl rfl), ⟨fun _ a na => ?_, (fun z => by cases z)⟩⟩
      exact ⟨_, rfl, _, _, rfl, rfl, q _ s1⟩
    · refine ⟨_, rfl, _, rfl, 1, y, rfl, by decide, fun H1 d1 s1 dn => ?_⟩
      refine ⟨true, (Gx.tabX_at T.tabX (i := 1) (j := 14) (r := some true) rfl rfl rfl), ⟨fun _ a na => ?_, (fun z => by cases z)⟩⟩
      exact ⟨_, rfl, _, _, rfl, rfl, q _ s1⟩
    · refine ⟨_, rfl, _, rfl, 2, y, rfl, by decide, fun H1 d1 s1 dn => ?_⟩
      refine ⟨true, (Gx.tabX_at T.tabX (i := 2) (j := 14) (r := some true) rfl rfl rfl), ⟨fun _ a na => ?_, (fun z => by cases z)⟩⟩
      exact ⟨_, rfl, _, _, rfl, rfl, q _ s1⟩
    · refine ⟨_, rfl, _, rfl, 3, y, rfl, by decide, fun H1 d1 s1 dn => ?_⟩
      refine ⟨true, (Gx.tabX_at T.tabX (i := 3) (j := 14) (r := some true) rfl rfl rfl), ⟨fun _ a na => ?_, (fun z => by cases z)⟩⟩
      exact ⟨_, rfl, _, _, rfl, rfl, q _ s1⟩
    · refine ⟨_, rfl, _, rfl, 4, y, rfl, by decide, fun H1 d1 s1 dn => ?_⟩
      refine ⟨true, (Gx.tabX_at T.tabX (i := 4) (j := 14) (r := some true) rfl rfl rfl), ⟨fun _ a na => ?_, (fun z => by cases z)⟩⟩
      exact ⟨_, rfl, _, _, rfl, rfl, q _ s1⟩
    · refine ⟨_, rfl, _, rfl, 5, y, rfl, by decide, fun H1 d1 s1 dn => ?_⟩
      refine ⟨true, (Gx.tabX_at T.tabX (i := 5) (j := 14) (r := some true) rfl rfl rfl), ⟨fun _ a na => ?_, (fun z => by cases z)⟩⟩
      exact ⟨_, rfl, _, _, rfl, rfl, q _ s1⟩
    · refine ⟨_, rfl, _, rfl, 6, y, rfl, by decide, fun H1 d1 s1 dn => ?_⟩
      refine ⟨true, (Gx.tabX_at T.tabX (i := 6) (j := 14) (r := some true) rfl rfl rfl), ⟨fun _ a na => ?_, (fun z => by cases z)⟩⟩
      exact ⟨_, rfl, _, _, rfl, rfl, q _ s1⟩
    · refine ⟨_, rfl, _, rfl, 7, y, rfl, by decide, fun H1 d1 s1 dn => ?_⟩
      refine ⟨true, (Gx.tabX_at T.tabX (i := 7) (j := 14) (r := some true) rfl rfl rfl), ⟨fun _ a na => ?_, (fun z => by cases z)⟩⟩
      exact ⟨_, rfl, _, _, rfl, rfl, q _ s1⟩
    · refine ⟨_, rfl, _, rfl, 8, y, rfl, by decide, fun H1 d1 s1 dn => ?_⟩
      refine ⟨false, (Gx.tabX_at T.tabX (i := 8) (j := 14) (r := some false) rfl rfl rfl), ⟨(fun z => by cases z), fun _ => ?_⟩⟩
      refine ⟨true, any6 (Gx.tabX_at T.tabX (i := 8) (j := 8) (r := some true) rfl rfl rfl) (Gx.tabX_at T.tabX (i := 8) (j := 9) (r := some false) rfl rfl rfl) (Gx.tabX_at T.tabX (i := 8) (j := 10) (r := some false) rfl rfl rfl) (Gx.tabX_at T.tabX (i := 8) (j := 11) (r := some false) rfl rfl rfl) (Gx.tabX_at T.tabX (i := 8) (j := 12) (r := some false) rfl rfl rfl) (Gx.tabX_at T.tabX (i := 8) (j := 13) (r := some false) rfl rfl rfl), ⟨fun _ a na => ?_, (fun z => by cases z)⟩⟩
      exact ⟨_, rfl, _, _, rfl, rfl, q _ s1⟩
    · refine ⟨_, rfl, _, rfl, 9, y, rfl, by decide, fun H1 d1 s1 dn => ?_⟩
      refine ⟨false, (Gx.tabX_at T.tabX (i := 9) (j := 14) (r := some false) rfl rfl rfl), ⟨(fun z => by cases z), fun _ => ?_⟩⟩
      refine ⟨true, any6 (Gx.tabX_at T.tabX (i := 9) (j := 8) (r := some false) rfl rfl rfl) (Gx.tabX_at T.tabX (i := 9) (j := 9) (r := some true) rfl rfl rfl) (Gx.tabX_at T.tabX (i := 9) (j := 10) (r := some false) rfl rfl rfl) (Gx.tabX_at T.tabX (i := 9) (j := 11) (r := some false) rfl rfl rfl) (Gx.tabX_at T.tabX (i := 9) (j := 12) (r := some false) rfl rfl rfl) (Gx.tabX_at T.tabX (i := 9) (j := 13) (r := some false) rfl rfl rfl), ⟨fun _ a na => ?_, (fun z => by cases z)⟩⟩
      exact ⟨_, rfl, _, _, rfl, rfl, q _ s1⟩
    · refine ⟨_, rfl, _, rfl, 10, y, rfl, by decide, fun H1 d1 s1 dn => ?_⟩
      refine ⟨false, (Gx.tabX_at T.tabX (i := 10) (j := 14) (r := some false) rfl rfl rfl), ⟨(fun z => by cases z), fun _ => ?_⟩⟩
      refine ⟨true, any6 (Gx.tabX_at T.tabX (i := 10) (j := 8) (r := some false) rfl rfl rfl) (Gx.tabX_at T.tabX (i := 10) (j := 9) (r := some false) rfl rfl rfl) (Gx.tabX_at T.tabX (i := 10) (j := 10) (r := some true) rfl rfl rfl) (Gx.tabX_at T.tabX (i := 10) (j := 11) (r := some false) rfl rfl rfl) (Gx.tabX_at T.tabX (i := 10) (j := 12) (r := some false) rfl rfl rfl) (Gx.tabX_at T.tabX (i := 10) (j := 13) (r := some false) rfl rfl rfl), ⟨fun _ a na => ?_, (fun z => by cases z)⟩⟩
      exact ⟨_, rfl, _, _, rfl, rfl, q _ s1⟩
    · refine ⟨_, rfl, _, rfl, 11, y, rfl, by decide, fun H1 d1 s1 dn => ?_⟩
      refine ⟨false, (Gx.tabX_at T.tabX (i := 11) (j := 14) (r := some false) rfl rfl rfl), ⟨(fun z => by cases z), fun _ => ?_⟩⟩
      refine ⟨true, any6 (Gx.tabX_at T.tabX (i := 11) (j := 8) (r := some false) rfl rfl rfl) (Gx.tabX_at T.tabX (i := 11) (j := 9) (r := some false) rfl rfl rfl) (Gx.tabX_at T.tabX (i := 11) (j := 10) (r := some false) rfl rfl rfl) (Gx.tabX_at T.tabX (i := 11) (j := 11) (r := some true) rfl rfl rfl) (Gx.tabX_at T.tabX (i := 11) (j := 12) (r := some false) rfl rfl rfl) (Gx.tabX_at T.tabX (i := 11) (j := 13) (r := some false) rfl rfl rfl), ⟨fun _ a na => ?_, (fun z => by cases z)⟩⟩
      exact ⟨_, rfl, _, _, rfl, rfl, q _ s1⟩
    · refine ⟨_, rfl, _, rfl, 12, y, rfl, by decide, fun H1 d1 s1 dn => ?_⟩
      refine ⟨false, (Gx.tabX_at T.tabX (i := 12) (j := 14) (r := some false) rfl rfl rfl), ⟨(fun z => by cases z), fun _ => ?_⟩⟩
      refine ⟨true, any6 (Gx.tabX_at T.tabX (i := 12) (j := 8) (r := some false) rfl rfl rfl) (Gx.tabX_at T.tabX (i := 12) (j := 9) (r := some false) rfl rfl rfl) (Gx.tabX_at T.tabX (i := 12) (j := 10) (r := some false) rfl rfl rfl) (Gx.tabX_at T.tabX (i := 12) (j := 11) (r := some false) rfl rfl rfl) (Gx.tabX_at T.tabX (i := 12) (j := 12) (r := some true) rfl rfl rfl) (Gx.tabX_at T.tabX (i := 12) (j := 13) (r := some false) rfl rfl rfl), ⟨fun _ a na => ?_, (fun z => by cases z)⟩⟩
      exact ⟨_, rfl, _, _, rfl, rfl, q _ s1⟩
    · refine ⟨_, rfl, _, rfl, 13, y, rfl, by decide, fun H1 d1 s1 dn => ?_⟩
      refine ⟨false, (Gx.tabX_at T.tabX (i := 13) (j := 14) (r := some false) rfl rfl rfl), ⟨(fun z => by cases z), fun _ => ?_⟩⟩
      refine ⟨true, any6 (Gx.tabX_at T.tabX (i := 13) (j := 8) (r := some false) rfl rfl rfl) (Gx.tabX_at T.tabX (i := 13) (j := 9) (r := some false) rfl rfl rfl) (Gx.tabX_at T.tabX (i := 13) (j := 10) (r := some false) rfl rfl rfl) (Gx.tabX_at T.tabX (i := 13) (j := 11) (r := some false) rfl rfl rfl) (Gx.tabX_at T.tabX (i := 13) (j := 12) (r := some false) rfl rfl rfl) (Gx.tabX_at T.tabX (i := 13) (j := 13) (r := some true) rfl rfl rfl), ⟨fun _ a na => ?_, (fun z => by cases z)⟩⟩
      exact ⟨_, rfl, _, _, rfl, rfl, q _ s1⟩
end
/-! C8 -/
open PySem PySem.Spec PyProof.Rows L2 Gd Gx

theorem grow0 {p : Addr} {Hk : Hp} {o : HO} (n : Hk p = none) : ∃ H', H' = upd Hk p o ∧ Same Hk H' ∧ H' p = some o := ⟨_, rfl, same_new n o, upd_same⟩
def clsL (k : Nat) : List Bool := [ktB k 0, ktB k 1, ktB k 2, ktB k 3, ktB k 4, ktB k 5, ktB k 6, ktB k 7, ktB k 8, ktB k 9, ktB k 10, ktB k 11, ktB k 12, ktB k 13, ktB k 14]
def basL (k : Nat) : List Bool := [ktB k 15, ktB k 16, ktB k 17, ktB k 18, ktB k 19, ktB k 20, ktB k 21]
def spBools (cs : Nat → Addr) (g : Nat → List Bool) : Sp := fun vs H Q _ => ∃ (e : Addr) (k : Nat) (fv : Option (Str × V)), vs = [.ref e] ∧ k < 14 ∧ Er H e (cs k) fv ∧ ∀ H' r, Same H H' → H' r = some (.lst ((g k).map V.bl)) → Q (.ref r) H'
section
variable {P : Program} {w : World} {K : PySem.W.Frag} {mg : Str → Option Value} {base : Heap}
theorem ecs (T : Tx K mg) {k : Nat} (hk : k < 14) : ExcC K (T.cs k) := by
  rcases to14 hk with rfl | rfl | rfl | rfl | rfl | rfl | rfl | rfl | rfl | rfl | rfl | rfl | rfl | rfl
  · exact T.e_InvalidName
  · exact T.e_InvalidRow
  · exact T.e_InvalidHouse
  · exact T.e_InvalidWish
  · exact T.e_InvalidShare
  · exact T.e_InvalidOperation
  · exact T.e_Unmatched.ec
  · exact T.e_ParseError.ec
  · exact T.e_InvalidNumber.ec
  · exact T.e_UnknownName.ec
  · exact T.e_TooMany.ec
  · exact T.e_NothingToUndo.ec
  · exact T.e_Unsteady.ec
  · exact T.e_Refused.ec
theorem kk (T : Tx K mg) {k : Nat} (hk : k < 14) (j : Nat) (hj : j < 22) {y : Value} (hy : ([.ref T.c_InvalidName, .ref T.c_InvalidRow, .ref T.c_InvalidHouse, .ref T.c_InvalidWish, .ref T.c_InvalidShare, .ref T.c_InvalidOperation, .ref T.c_Unmatched, .ref T.c_ParseError, .ref T.c_InvalidNumber, .ref T.c_UnknownName, .ref T.c_TooMany, .ref T.c_NothingToUndo, .ref T.c_Unsteady, .ref T.c_Refused, .ref T.c_ShareError, .type "ValueError", .type "LookupError", .type "IndexError", .type "KeyError", .type "ArithmeticError", .type "OverflowError", .type "ZeroDivisionError"] : List Value)[j]? = some y) : PySem.W.kitOne K (.ref (T.cs k)) y = some (ktB k j) := by
  refine Gx.tabK_at T.tabK (i := k) (j := j) ?_ hy ?_
  · rcases to14 hk with rfl | rfl | rfl | rfl | rfl | rfl | rfl | rfl | rfl | rfl | rfl | rfl | rfl | rfl <;> rfl
  · unfold Gx.wantK
    rw [List.getElem?_map, List.getElem?_range hk, Option.map_some, Option.bind_some, List.getElem?_map, List.getElem?_range hj]
    rfl
theorem ok_classes (T : Tx K mg) : FnOk P w K mg base CX0 1 T.a_l_classes T.d_l_classes ["error"] (spBools T.cs clsL) := by
  refine T.F_l_classes.ok sc_l_classes (fun vs H Q E h => ?_) (fun cdv A outer s H vs Q E hr h => ?_)
  · obtain ⟨e, k, fv, rfl, _⟩ := h
    rfl
  · obtain ⟨e, k, fv, rfl, hk, er, q⟩ := h
    refine ⟨_, (pss_cons (ps_set (i := 1) sc_l_classes.nd rfl (Or.inl rfl) (pe_lst (pa_cons (pe_callB Gx.call_isX (by rfl) T.n_isinstance (by decide +kernel) (pa_cons (pv 0) (pa_cons (pe_glob (v := .ref T.c_InvalidName) rfl T.g_InvalidName rfl) pa_nil))) (pa_cons (pe_callB Gx.call_isX (by rfl) T.n_isinstance (by decide +kernel) (pa_cons (pv 0) (pa_cons (pe_glob (v := .ref T.c_InvalidRow) rfl T.g_InvalidRow rfl) pa_nil))) (pa_cons (pe_callB Gx.call_isX (by rfl) T.n_isinstance (by decide +kernel) (pa_cons (pv 0) (pa_cons (pe_glob (v := .ref T.c_InvalidHouse) rfl T.g_InvalidHouse rfl) pa_nil))) pa_nil)))))
      (pss_cons (ps_set (i := 1) sc_l_classes.nd rfl (Or.inl rfl) (pe_op op_cat (pv 1) (pe_lst (pa_cons (pe_callB Gx.call_isX (by rfl) T.n_isinstance (by decide +kernel) (pa_cons (pv 0) (pa_cons (pe_glob (v := .ref T.c_InvalidWish) rfl T.g_InvalidWish rfl) pa_nil))) (pa_cons (pe_callB Gx.call_isX (by rfl) T.n_isinstance (by decide +kernel) (pa_cons (pv 0) (pa_cons (pe_glob (v := .ref T.c_InvalidShare) rfl T.g_InvalidShare rfl) pa_nil))) pa_nil)))))
      (pss_cons (ps_set (i := 1) sc_l_classes.nd rfl (Or.inl rfl) (pe_op op_cat (pv 1) (pe_lst (pa_cons (pe_callB Gx.call_isX (by rfl) T.n_isinstance (by decide +kernel) (pa_cons (pv 0) (pa_cons (pe_glob (v := .ref T.c_InvalidOperation) rfl T.g_InvalidOperation rfl) pa_nil))) (pa_cons (pe_callB Gx.call_isX (by rfl) T.n_isinstance (by decide +kernel) (pa_cons (pv 0) (pa_cons (pe_glob (v := .ref T.c_Unmatched) rfl T.g_Unmatched rfl) pa_nil))) (pa_cons (pe_callB Gx.call_isX (by rfl) T.n_isinstance (by decide +kernel) (pa_cons (pv 0) (pa_cons (pe_glob (v := .ref T.c_ParseError) rfl T.g_ParseError rfl) pa_nil))) pa_nil))))))
      (pss_cons (ps_set (i := 1) sc_l_classes.nd rfl (Or.inl rfl) (pe_op op_cat (pv 1) (pe_lst (pa_cons (pe_callB Gx.call_isX (by rfl) T.n_isinstance (by decide +kernel) (pa_cons (pv 0) (pa_cons (pe_glob (v := .ref T.c_InvalidNumber) rfl T.g_InvalidNumber rfl) pa_nil))) (pa_cons (pe_callB Gx.call_isX (by rfl) T.n_isinstance (by decide +kernel) (pa_cons (pv 0) (pa_cons (pe_glob (v := .ref T.c_UnknownName) rfl T.g_UnknownName rfl) pa_nil))) (pa_cons (pe_callB Gx.call_isX (by rfl) T.n_isinstance (by decide +kernel) (pa_cons (pv 0) (pa_cons (pe_glob (v := .ref T.c_TooMany) rfl T.g_TooMany rfl) pa_nil))) pa_nil))))))
      (pss_cons (ps_set (i := 1) sc_l_classes.nd rfl (Or.inl rfl) (pe_op op_cat (pv 1) (pe_lst (pa_cons (pe_callB Gx.call_isX (by rfl) T.n_isinstance (by decide +kernel) (pa_cons (pv 0) (pa_cons (pe_glob (v := .ref T.c_NothingToUndo) rfl T.g_NothingToUndo rfl) pa_nil))) (pa_cons (pe_callB Gx.call_isX (by rfl) T.n_isinstance (by decide +kernel) (pa_cons (pv 0) (pa_cons (pe_glob (v := .ref T.c_Unsteady) rfl T.g_Unsteady rfl) pa_nil))) (pa_cons (pe_callB Gx.call_isX (by rfl) T.n_isinstance (by decide +kernel) (pa_cons (pv 0) (pa_cons (pe_glob (v := .ref T.c_Refused) rfl T.g_Refused rfl) pa_nil))) pa_nil))))))
      (pss_one (ps_ret (pe_op op_cat (pv 1) (pe_lst (pa_cons (pe_callB Gx.call_isX (by rfl) T.n_isinstance (by decide +kernel) (pa_cons (pv 0) (pa_cons (pe_glob (v := .ref T.c_ShareError) rfl T.g_ShareError rfl) pa_nil))) pa_nil)))))))))), ?_⟩
    have jS := Same.refl H
    refine ⟨_, rfl, e, _, _, _, _, _, rfl, er, ecs T hk, .own _, kk T hk 0 (by decide) rfl, _, rfl, e, _, _, _, _, _, rfl, er, ecs T hk, .own _, kk T hk 1 (by decide) rfl, _, rfl, e, _, _, _, _, _, rfl, er, ecs T hk, .own _, kk T hk 2 (by decide) rfl, (by show 3 ≤ sizeLine; decide), fun L1 n1 => ?_⟩
    obtain ⟨H1, e1, s1, a1⟩ := grow0 (o := .lst [.bl (ktB k 0), .bl (ktB k 1), .bl (ktB k 2)]) n1
    rw [← e1]
    replace er := er.mono s1
    replace jS := jS.trans s1
    have aF := a1
    refine ⟨_, rfl, _, rfl, e, _, _, _, _, _, rfl, er, ecs T hk, .own _, kk T hk 3 (by decide) rfl, _, rfl, e, _, _, _, _, _, rfl, er, ecs T hk, .own _, kk T hk 4 (by decide) rfl, (by show 2 ≤ sizeLine; decide), fun L2 n2 => ?_⟩
    obtain ⟨H2, e2, s2, a2⟩ := grow0 (o := .lst [.bl (ktB k 3), .bl (ktB k 4)]) n2
    rw [← e2]
    replace er := er.mono s2
    replace jS := jS.trans s2
    replace aF := s2 _ _ aF
    refine ⟨L1, L2, _, _, rfl, rfl, aF, a2, (by show 5 ≤ sizeLine; decide), fun M3 n3 => ?_⟩
    obtain ⟨H3, e3, s3, a3⟩ := grow0 (o := .lst [.bl (ktB k 0), .bl (ktB k 1), .bl (ktB k 2), .bl (ktB k 3), .bl (ktB k 4)]) n3
    rw [show ([.bl (ktB k 0), .bl (ktB k 1), .bl (ktB k 2)] ++ [.bl (ktB k 3), .bl (ktB k 4)] : List V) = [.bl (ktB k 0), .bl (ktB k 1), .bl (ktB k 2), .bl (ktB k 3), .bl (ktB k 4)] from rfl, ← e3]
    replace er := er.mono s3
    replace jS := jS.trans s3
    replace aF := a3
    refine ⟨_, rfl, _, rfl, e, _, _, _, _, _, rfl, er, ecs T hk, .own _, kk T hk 5 (by decide) rfl, _, rfl, e, _, _, _, _, _, rfl, er, ecs T hk, .own _, kk T hk 6 (by decide) rfl, _, rfl, e, _, _, _, _, _, rfl, er, ecs T hk, .own _, kk T hk 7 (by decide) rfl, (by show 3 ≤ sizeLine; decide), fun L4 n4 => ?_⟩
    obtain ⟨H4, e4, s4, a4⟩ := grow0 (o := .lst [.bl (ktB k 5), .bl (ktB k 6), .bl (ktB k 7)]) n4
    rw [← e4]
    replace er := er.mono s4
    replace jS := jS.trans s4
    replace aF := s4 _ _ aF
    refine ⟨M3, L4, _, _, rfl, rfl, aF, a4, (by show 8 ≤ sizeLine; decide), fun M5 n5 => ?_⟩
    obtain ⟨H5, e5, s5, a5⟩ := grow0 (o := .lst [.bl (ktB k 0), .bl (ktB k 1), .bl (ktB k 2), .bl (ktB k 3), .bl (ktB k 4), .bl (ktB k 5), .bl (ktB k 6), .bl (ktB k 7)]) n5
    rw [show ([.bl (ktB k 0), .bl (ktB k 1), .bl (ktB k 2), .bl (ktB k 3), .bl (ktB k 4)] ++ [.bl (ktB k 5), .bl (ktB k 6), .bl (ktB k 7)] : List V) = [.bl (ktB k 0), .bl (ktB k 1), .bl (ktB k 2), .bl (ktB k 3), .bl (ktB k 4), .bl (ktB k 5), .bl (ktB k 6), .bl (ktB k 7)] from rfl, ← e5]
    replace er := er.mono s5
    replace jS := jS.trans s5
    replace aF := a5
    refine ⟨_, rfl, _, rfl, e, _, _, _, _, _, rfl, er, ecs T hk, .own _, kk T hk 8 (by decide) rfl, _, rfl, e, _, _, _, _, _, rfl, er, ecs T hk, .own _, kk T hk 9 (by decide) rfl, _, rfl, e, _, _, _, _, _, rfl, er, ecs T hk, .own _, kk T hk 10 (by decide) rfl, (by show 3 ≤ sizeLine; decide), fun L6 n6 => ?_⟩
    obtain ⟨H6, e6, s6, a6⟩ := grow0 (o := .lst [.bl (ktB k 8), .bl (ktB k 9), .bl (ktB k 10)]) n6
    rw [← e6]
    replace er := er.mono s6
    replace jS := jS.trans s6
    replace aF := s6 _ _ aF
    refine ⟨M5, L6, _, _, rfl, rfl, aF, a6, (by show 11 ≤ sizeLine; decide), fun M7 n7 => ?_⟩
    obtain ⟨H7, e7, s7, a7⟩ := grow0 (o := .lst [.bl (ktB k 0), .bl (ktB k 1), .bl (ktB k 2), .bl (ktB k 3), .bl (ktB k 4), .bl (ktB k 5), .bl (ktB k 6), .bl (ktB k 7), .bl (ktB k 8), .bl (ktB k 9), .bl (ktB k 10)]) n7
    rw [show ([.bl (ktB k 0), .bl (ktB k 1), .bl (ktB k 2), .bl (ktB k 3), .bl (ktB k 4), .bl (ktB k 5), .bl (ktB k 6), .bl (ktB k 7)] ++ [.bl (ktB k 8), .bl (ktB k 9), .bl (ktB k 10)] : List V) = [.bl (ktB k 0), .bl (ktB k 1), .bl (ktB k 2), .bl (ktB k 3), .bl (ktB k 4), .bl (ktB k 5), .bl (ktB k 6), .bl (ktB k 7), .bl (ktB k 8), .bl (ktB k 9), .bl (ktB k 10)] from rfl, ← e7]
    replace er := er.mono s7
    replace jS := jS.trans s7
    replace aF := a7
    refine ⟨_, rfl, _, rfl, e, _, _, _, _, _, rfl, er, ecs T hk, .own _, kk T hk 11 (by decide) rfl, _, rfl, e, _, _, _, _, _, rfl, er, ecs T hk, .own _, kk T hk 12 (by decide) rfl, _, rfl, e, _, _, _, _, _, rfl, er, ecs T hk, .own _, kk T hk 13 (by decide) rfl, (by show 3 ≤ sizeLine; decide), fun L8 n8 => ?_⟩
    obtain ⟨H8, e8, s8, a8⟩ := grow0 (o := .lst [.bl (ktB k 11), .bl (ktB k 12), .bl (ktB k 13)]) n8
    rw [← e8]
    replace er := er.mono s8
    replace jS := jS.trans s8
    replace aF := s8 _ _ aF
    refine ⟨M7, L8, _, _, rfl, rfl, aF, a8, (by show 14 ≤ sizeLine; decide), fun M9 n9 => ?_⟩
    obtain ⟨H9, e9, s9, a9⟩ := grow0 (o := .lst [.bl (ktB k 0), .bl (ktB k 1), .bl (ktB k 2), .bl (ktB k 3), .bl (ktB k 4), .bl (ktB k 5), .bl (ktB k 6), .bl (ktB k 7), .bl (ktB k 8), .bl (ktB k 9), .bl (ktB k 10), .bl (ktB k 11), .bl (ktB k 12), .bl (ktB k 13)]) n9
    rw [show ([.bl (ktB k 0), .bl (ktB k 1), .bl (ktB k 2), .bl (ktB k 3), .bl (ktB k 4), .bl (ktB k 5), .bl (ktB k 6), .bl (ktB k 7), .bl (ktB k 8), .bl (ktB k 9), .bl (ktB k 10)] ++ [.bl (ktB k 11), .bl (ktB k 12), .bl (ktB k 13)] : List V) = [.bl (ktB k 0), .bl (ktB k 1), .bl (ktB k 2), .bl (ktB k 3), .bl (ktB k 4), .bl (ktB k 5), .bl (ktB k 6), .bl (ktB k 7), .bl (ktB k 8), .bl (ktB k 9), .bl (ktB k 10), .bl (ktB k 11), .bl (ktB k 12), .bl (ktB k 13)] from rfl, ← e9]
    replace er := er.mono s9
    replace jS := jS.trans s9
    replace aF := a9
    refine ⟨_, rfl, _, rfl, e, _, _, _, _, _, rfl, er, ecs T hk, .own _, kk T hk 14 (by decide) rfl, (by show 1 ≤ sizeLine; decide), fun L10 n10 => ?_⟩
    obtain ⟨H10, e10, s10, a10⟩ := grow0 (o := .lst [.bl (ktB k 14)]) n10
    rw [← e10]
    replace er := er.mono s10
    replace jS := jS.trans s10
    replace aF := s10 _ _ aF
    refine ⟨M9, L10, _, _, rfl, rfl, aF, a10, (by show 15 ≤ sizeLine; decide), fun M11 n11 => ?_⟩
    obtain ⟨H11, e11, s11, a11⟩ := grow0 (o := .lst [.bl (ktB k 0), .bl (ktB k 1), .bl (ktB k 2), .bl (ktB k 3), .bl (ktB k 4), .bl (ktB k 5), .bl (ktB k 6), .bl (ktB k 7), .bl (ktB k 8), .bl (ktB k 9), .bl (ktB k 10), .bl (ktB k 11), .bl (ktB k 12), .bl (ktB k 13), .bl (ktB k 14)]) n11
    rw [show ([.bl (ktB k 0), .bl (ktB k 1), .bl (ktB k 2), .bl (ktB k 3), .bl (ktB k 4), .bl (ktB k 5), .bl (ktB k 6), .bl (ktB k 7), .bl (ktB k 8), .bl (ktB k 9), .bl (ktB k 10), .bl (ktB k 11), .bl (ktB k 12), .bl (ktB k 13)] ++ [.bl (ktB k 14)] : List V) = [.bl (ktB k 0), .bl (ktB k 1), .bl (ktB k 2), .bl (ktB k 3), .bl (ktB k 4), .bl (ktB k 5), .bl (ktB k 6), .bl (ktB k 7), .bl (ktB k 8), .bl (ktB k 9), .bl (ktB k 10), .bl (ktB k 11), .bl (ktB k 12), .bl (ktB k 13), .bl (ktB k 14)] from rfl, ← e11]
    replace er := er.mono s11
    replace jS := jS.trans s11
    replace aF := a11
    exact q _ _ jS aF
theorem ok_bases (T : Tx K mg) : FnOk P w K mg base CX0 1 T.a_l_bases T.d_l_bases ["error"] (spBools T.cs basL) := by
  refine T.F_l_bases.ok sc_l_bases (fun vs H Q E h => ?_) (fun cdv A outer s H vs Q E hr h => ?_)
  · obtain ⟨e, k, fv, rfl, _⟩ := h
    rfl
  · obtain ⟨e, k, fv, rfl, hk, er, q⟩ := h
    refine ⟨_, (pss_cons (ps_set (i := 1) sc_l_bases.nd rfl (Or.inl rfl) (pe_lst (pa_cons (pe_callB Gx.call_isX (by rfl) T.n_isinstance (by decide +kernel) (pa_cons (pv 0) (pa_cons (pe_bltn (v := .ty "ValueError") (by rfl) T.n_ValueError (by decide +kernel) rfl) pa_nil))) (pa_cons (pe_callB Gx.call_isX (by rfl) T.n_isinstance (by decide +kernel) (pa_cons (pv 0) (pa_cons (pe_bltn (v := .ty "LookupError") (by rfl) T.n_LookupError (by decide +kernel) rfl) pa_nil))) (pa_cons (pe_callB Gx.call_isX (by rfl) T.n_isinstance (by decide +kernel) (pa_cons (pv 0) (pa_cons (pe_bltn (v := .ty "IndexError") (by rfl) T.n_IndexError (by decide +kernel) rfl) pa_nil))) pa_nil)))))
      (pss_cons (ps_set (i := 1) sc_l_bases.nd rfl (Or.inl rfl) (pe_op op_cat (pv 1) (pe_lst (pa_cons (pe_callB Gx.call_isX (by rfl) T.n_isinstance (by decide +kernel) (pa_cons (pv 0) (pa_cons (pe_bltn (v := .ty "KeyError") (by rfl) T.n_KeyError (by decide +kernel) rfl) pa_nil))) (pa_cons (pe_callB Gx.call_isX (by rfl) T.n_isinstance (by decide +kernel) (pa_cons (pv 0) (pa_cons (pe_bltn (v := .ty "ArithmeticError") (by rfl) T.n_ArithmeticError (by decide +kernel) rfl) pa_nil))) (pa_cons (pe_callB Gx.call_isX (by rfl) T.n_isinstance (by decide +kernel) (pa_cons (pv 0) (pa_cons (pe_bltn (v := .ty "OverflowError") (by rfl) T.n_OverflowError (by decide +kernel) rfl) pa_nil))) pa_nil))))))
      (pss_one (ps_ret (pe_op op_cat (pv 1) (pe_lst (pa_cons (pe_callB Gx.call_isX (by rfl) T.n_isinstance (by decide +kernel) (pa_cons (pv 0) (pa_cons (pe_bltn (v := .ty "ZeroDivisionError") (by rfl) T.n_ZeroDivisionError (by decide +kernel) rfl) pa_nil))) pa_nil))))))), ?_⟩
    have jS := Same.refl H
    refine ⟨_, rfl, e, _, _, _, _, _, rfl, er, ecs T hk, .ty _, kk T hk 15 (by decide) rfl, _, rfl, e, _, _, _, _, _, rfl, er, ecs T hk, .ty _, kk T hk 16 (by decide) rfl, _, rfl, e, _, _, _, _, _, rfl, er, ecs T hk, .ty _, kk T hk 17 (by decide) rfl, (by show 3 ≤ sizeLine; decide), fun L1 n1 => ?_⟩
    obtain ⟨H1, e1, s1, a1⟩ := grow0 (o := .lst [.bl (ktB k 15), .bl (ktB k 16), .bl (ktB k 17)]) n1
    rw [← e1]
    replace er := er.mono s1
    replace jS := jS.trans s1
    have aF := a1
    refine ⟨_, rfl, _, rfl, e, _, _, _, _, _, rfl, er, ecs T hk, .ty _, kk T hk 18 (by decide) rfl, _, rfl, e, _, _, _, _, _, rfl, er, ecs T hk, .ty _, kk T hk 19 (by decide) rfl, _, rfl, e, _, _, _, _, _, rfl, er, ecs T hk, .ty _, kk T hk 20 (by decide) rfl, (by show 3 ≤ sizeLine; decide), fun L2 n2 => ?_⟩
    obtain ⟨H2, e2, s2, a2⟩ := grow0 (o := .lst [.bl (ktB k 18), .bl (ktB k 19), .bl (ktB k 20)]) n2
    rw [← e2]
    replace er := er.mono s2
    replace jS := jS.trans s2
    replace aF := s2 _ _ aF
    refine ⟨L1, L2, _, _, rfl, rfl, aF, a2, (by show 6 ≤ sizeLine; decide), fun M3 n3 => ?_⟩
    obtain ⟨H3, e3, s3, a3⟩ := grow0 (o := .lst [.bl (ktB k 15), .bl (ktB k 16), .bl (ktB k 17), .bl (ktB k 18), .bl (ktB k 19), .bl (ktB k 20)]) n3
    rw [show ([.bl (ktB k 15), .bl (ktB k 16), .bl (ktB k 17)] ++ [.bl (ktB k 18), .bl (ktB k 19), .bl (ktB k 20)] : List V) = [.bl (ktB k 15), .bl (ktB k 16), .bl (ktB k 17), .bl (ktB k 18), .bl (ktB k 19), .bl (ktB k 20)] from rfl, ← e3]
    replace er := er.mono s3
    replace jS := jS.trans s3
    replace aF := a3
    refine ⟨_, rfl, _, rfl, e, _, _, _, _, _, rfl, er, ecs T hk, .ty _, kk T hk 21 (by decide) rfl, (by show 1 ≤ sizeLine; decide), fun L4 n4 => ?_⟩
    obtain ⟨H4, e4, s4, a4⟩ := grow0 (o := .lst [.bl (ktB k 21)]) n4
    rw [← e4]
    replace er := er.mono s4
    replace jS := jS.trans s4
    replace aF := s4 _ _ aF
    refine ⟨M3, L4, _, _, rfl, rfl, aF, a4, (by show 7 ≤ sizeLine; decide), fun M5 n5 => ?_⟩
    obtain ⟨H5, e5, s5, a5⟩ := grow0 (o := .lst [.bl (ktB k 15), .bl (ktB k 16), .bl (ktB k 17), .bl (ktB k 18), .bl (ktB k 19), .bl (ktB k 20), .bl (ktB k 21)]) n5
    rw [show ([.bl (ktB k 15), .bl (ktB k 16), .bl (ktB k 17), .bl (ktB k 18), .bl (ktB k 19), .bl (ktB k 20)] ++ [.bl (ktB k 21)] : List V) = [.bl (ktB k 15), .bl (ktB k 16), .bl (ktB k 17), .bl (ktB k 18), .bl (ktB k 19), .bl (ktB k 20), .bl (ktB k 21)] from rfl, ← e5]
    replace er := er.mono s5
    replace jS := jS.trans s5
    replace aF := a5
    exact q _ _ jS aF
end
/-! C9 -/
open PySem PySem.Spec PyProof.Rows L2 Gd Gx

theorem weak {X : Cx} {e : Expr} {t u : TE} (h : PE X e t) (w : ∀ σ H Q, u σ H Q → t σ H Q) : PE X e u := ⟨fun pins s σ H Q I q => h.run pins s σ H Q I (w _ _ _ q)⟩
def nums (l : List Nat) : List V := l.map fun n => V.int (Int.ofNat n)
def tDue : TE := fun σ H Q => ∃ k : Nat, k < 14 ∧ σ[0]? = some (some (.int (k : Int))) ∧ ∀ H' t, Same H H' → H' t = some (.tup (nums (ktU k))) → Q (.ref t) H'
def tDict : TE := tDGet2 (tDisp [(tC (.int 8), (tTup (tCons (tC (.int 1)) (tCons (tC (.int 2)) tNil)))), (tC (.int 9), (tTup (tCons (tC (.int 1)) (tCons (tC (.int 3)) tNil)))), (tC (.int 10), (tTup (tCons (tC (.int 4)) (tCons (tC (.int 5)) tNil)))), (tC (.int 11), (tTup (tCons (tC (.int 1)) tNil))), (tC (.int 12), (tTup (tCons (tC (.int 4)) tNil))), (tC (.int 13), (tTup (tCons (tC (.int 4)) tNil)))]) (tVar 0) (tTup (tCons (tC (.int 0)) tNil))
theorem due_w {σ : L2.St} {H : Hp} {Q : VK} (h : tDue σ H Q) : tDict σ H Q := by
  obtain ⟨k, hk, e0, q⟩ := h
  intro p n0
  have jS : Same H H := Same.refl H
  obtain ⟨H0, e0', s0, a0⟩ := grow0 (o := .dK []) n0
  rw [← e0']
  have ap := a0
  replace jS := jS.trans s0
  refine ⟨(by show 2 ≤ sizeLine; decide), fun t1 n1 => ?_⟩
  obtain ⟨H1, e1, s1, a1⟩ := grow0 (o := .tup (nums [1, 2])) n1
  rw [show ([.int 1, .int 2] : List V) = nums [1, 2] from rfl, ← e1]
  replace ap := s1 _ _ ap
  replace jS := jS.trans s1
  refine ⟨(by show 2 ≤ sizeLine; decide), fun t2 n2 => ?_⟩
  obtain ⟨H2, e2, s2, a2⟩ := grow0 (o := .tup (nums [1, 3])) n2
  rw [show ([.int 1, .int 3] : List V) = nums [1, 3] from rfl, ← e2]
  replace ap := s2 _ _ ap
  replace jS := jS.trans s2
  replace a1 := s2 _ _ a1
  refine ⟨(by show 2 ≤ sizeLine; decide), fun t3 n3 => ?_⟩
  obtain ⟨H3, e3, s3, a3⟩ := grow0 (o := .tup (nums [4, 5])) n3
  rw [show ([.int 4, .int 5] : List V) = nums [4, 5] from rfl, ← e3]
  replace ap := s3 _ _ ap
  replace jS := jS.trans s3
  replace a1 := s3 _ _ a1
  replace a2 := s3 _ _ a2
  refine ⟨(by show 1 ≤ sizeLine; decide), fun t4 n4 => ?_⟩
  obtain ⟨H4, e4, s4, a4⟩ := grow0 (o := .tup (nums [1])) n4
  rw [show ([.int 1] : List V) = nums [1] from rfl, ← e4]
  replace ap := s4 _ _ ap
  replace jS := jS.trans s4
  replace a1 := s4 _ _ a1
  replace a2 := s4 _ _ a2
  replace a3 := s4 _ _ a3
  refine ⟨(by show 1 ≤ sizeLine; decide), fun t5 n5 => ?_⟩
  obtain ⟨H5, e5, s5, a5⟩ := grow0 (o := .tup (nums [4])) n5
  rw [show ([.int 4] : List V) = nums [4] from rfl, ← e5]
  replace ap := s5 _ _ ap
  replace jS := jS.trans s5
  replace a1 := s5 _ _ a1
  replace a2 := s5 _ _ a2
  replace a3 := s5 _ _ a3
  replace a4 := s5 _ _ a4
  refine ⟨(by show 1 ≤ sizeLine; decide), fun t6 n6 => ?_⟩
  obtain ⟨H6, e6, s6, a6⟩ := grow0 (o := .tup (nums [4])) n6
  rw [show ([.int 4] : List V) = nums [4] from rfl, ← e6]
  replace ap := s6 _ _ ap
  replace jS := jS.trans s6
  replace a1 := s6 _ _ a1
  replace a2 := s6 _ _ a2
  replace a3 := s6 _ _ a3
  replace a4 := s6 _ _ a4
  replace a5 := s6 _ _ a5
  refine ⟨ap, [(Sum.inl 8, .ref t1), (Sum.inl 9, .ref t2), (Sum.inl 10, .ref t3), (Sum.inl 11, .ref t4), (Sum.inl 12, .ref t5), (Sum.inl 13, .ref t6)], rfl, (by show 6 ≤ 15; decide), ?_⟩
  have oth : Same H (upd H6 p (.dK (mergeK [] [(Sum.inl 8, .ref t1), (Sum.inl 9, .ref t2), (Sum.inl 10, .ref t3), (Sum.inl 11, .ref t4), (Sum.inl 12, .ref t5), (Sum.inl 13, .ref t6)]))) := fun b o e => (upd_ne (ne_of_none e n0)).trans (jS b o e)
  have b1 : (upd H6 p (.dK (mergeK [] [(Sum.inl 8, .ref t1), (Sum.inl 9, .ref t2), (Sum.inl 10, .ref t3), (Sum.inl 11, .ref t4), (Sum.inl 12, .ref t5), (Sum.inl 13, .ref t6)]))) t1 = some (.tup (nums [1, 2])) := (upd_ne (fun z => by rw [z, ap] at a1; cases a1)).trans a1
  have b2 : (upd H6 p (.dK (mergeK [] [(Sum.inl 8, .ref t1), (Sum.inl 9, .ref t2), (Sum.inl 10, .ref t3), (Sum.inl 11, .ref t4), (Sum.inl 12, .ref t5), (Sum.inl 13, .ref t6)]))) t2 = some (.tup (nums [1, 3])) := (upd_ne (fun z => by rw [z, ap] at a2; cases a2)).trans a2
  have b3 : (upd H6 p (.dK (mergeK [] [(Sum.inl 8, .ref t1), (Sum.inl 9, .ref t2), (Sum.inl 10, .ref t3), (Sum.inl 11, .ref t4), (Sum.inl 12, .ref t5), (Sum.inl 13, .ref t6)]))) t3 = some (.tup (nums [4, 5])) := (upd_ne (fun z => by rw [z, ap] at a3; cases a3)).trans a3
  have b4 : (upd H6 p (.dK (mergeK [] [(Sum.inl 8, .ref t1), (Sum.inl 9, .ref t2), (Sum.inl 10, .ref t3), (Sum.inl 11, .ref t4), (Sum.inl 12, .ref t5), (Sum.inl 13, .ref t6)]))) t4 = some (.tup (nums [1])) := (upd_ne (fun z => by rw [z, ap] at a4; cases a4)).trans a4
  have b5 : (upd H6 p (.dK (mergeK [] [(Sum.inl 8, .ref t1), (Sum.inl 9, .ref t2), (Sum.inl 10, .ref t3), (Sum.inl 11, .ref t4), (Sum.inl 12, .ref t5), (Sum.inl 13, .ref t6)]))) t5 = some (.tup (nums [4])) := (upd_ne (fun z => by rw [z, ap] at a5; cases a5)).trans a5
  have b6 : (upd H6 p (.dK (mergeK [] [(Sum.inl 8, .ref t1), (Sum.inl 9, .ref t2), (Sum.inl 10, .ref t3), (Sum.inl 11, .ref t4), (Sum.inl 12, .ref t5), (Sum.inl 13, .ref t6)]))) t6 = some (.tup (nums [4])) := (upd_ne (fun z => by rw [z, ap] at a6; cases a6)).trans a6
  have bp : (upd H6 p (.dK (mergeK [] [(Sum.inl 8, .ref t1), (Sum.inl 9, .ref t2), (Sum.inl 10, .ref t3), (Sum.inl 11, .ref t4), (Sum.inl 12, .ref t5), (Sum.inl 13, .ref t6)]))) p = some (.dK (mergeK [] [(Sum.inl 8, .ref t1), (Sum.inl 9, .ref t2), (Sum.inl 10, .ref t3), (Sum.inl 11, .ref t4), (Sum.inl 12, .ref t5), (Sum.inl 13, .ref t6)])) := upd_same
  generalize upd H6 p (.dK (mergeK [] [(Sum.inl 8, .ref t1), (Sum.inl 9, .ref t2), (Sum.inl 10, .ref t3), (Sum.inl 11, .ref t4), (Sum.inl 12, .ref t5), (Sum.inl 13, .ref t6)])) = H7 at oth b1 b2 b3 b4 b5 b6 bp
  refine ⟨p, rfl, .inl ⟨_, .inl bp⟩, _, e0, (by show 1 ≤ sizeLine; decide), fun t7 n7 => ?_⟩
  have o7 : Same H (upd H7 t7 (.tup [.int 0])) := oth.trans (same_new n7 _)
  have c7 : (upd H7 t7 (.tup [.int 0])) t7 = some (.tup (nums [0])) := upd_same
  have cp := same_new (o := .tup [.int 0]) n7 _ _ bp
  have c1 := same_new (o := .tup [.int 0]) n7 _ _ b1
  have c2 := same_new (o := .tup [.int 0]) n7 _ _ b2
  have c3 := same_new (o := .tup [.int 0]) n7 _ _ b3
  have c4 := same_new (o := .tup [.int 0]) n7 _ _ b4
  have c5 := same_new (o := .tup [.int 0]) n7 _ _ b5
  have c6 := same_new (o := .tup [.int 0]) n7 _ _ b6
  refine ⟨_, DGet.k (k := Sum.inl (k : Int)) cp, ?_⟩
  rcases to14 hk with rfl | rfl | rfl | rfl | rfl | rfl | rfl | rfl | rfl | rfl | rfl | rfl | rfl | rfl
  · exact q _ t7 o7 c7
  · exact q _ t7 o7 c7
  · exact q _ t7 o7 c7
  · exact q _ t7 o7 c7
  · exact q _ t7 o7 c7
  · exact q _ t7 o7 c7
  · exact q _ t7 o7 c7
  · exact q _ t7 o7 c7
  · exact q _ t1 o7 c1
  · exact q _ t2 o7 c2
  · exact q _ t3 o7 c3
  · exact q _ t4 o7 c4
  · exact q _ t5 o7 c5
  · exact q _ t6 o7 c6
/-! C10 -/
open PySem PySem.Spec PyProof.Rows L2 Gd Gx

def spDue : Sp := fun vs H Q _ => ∃ k : Nat, vs = [.int (k : Int)] ∧ k < 14 ∧ ∀ H' r a b, Same H H' → H' r = some (.lst [.ref a, .ref b]) → H' a = some (.lst ((clsL k).map V.bl)) → H' b = some (.lst ((basL k).map V.bl)) → Q (.ref r) H'
def bitsTo (k m n : Nat) : List V := (List.range n).map fun j => V.bl (ktB k (m + j))
theorem bits_succ (k m n : Nat) : bitsTo k m (n + 1) = bitsTo k m n ++ [V.bl (ktB k (m + n))] := by
  unfold bitsTo
  rw [List.range_succ, List.map_append]
  rfl
theorem bits_len (k m n : Nat) : (bitsTo k m n).length = n := by
  unfold bitsTo
  rw [List.length_map, List.length_range]
theorem eqb {i k : Nat} (hi : i < 14) : decide (V.int (0 + (i : Int)) = V.int (k : Int)) = ktB k (0 + i) := by
  unfold ktB
  rw [if_pos (by omega)]
  by_cases h : k = i
  · subst h
    have e1 : (0 : Int) + (k : Int) = (k : Int) := by omega
    have e2 : 0 + k = k := by omega
    rw [e1, e2]
    simp
  · have e1 : ¬ (V.int (0 + (i : Int)) = V.int (k : Int)) := fun z => by
      injection z with z
      omega
    have e2 : (k == 0 + i) = false := by
      rw [Nat.zero_add]
      exact beq_eq_false_iff_ne.mpr h
    rw [decide_eq_false e1, e2]
theorem to7 {k : Nat} (h : k < 7) : k = 0 ∨ k = 1 ∨ k = 2 ∨ k = 3 ∨ k = 4 ∨ k = 5 ∨ k = 6 := by omega
theorem inb {i k : Nat} (hi : i < 7) (hk : k < 14) : inV (.int (0 + (i : Int))) (nums (ktU k)) = ktB k (15 + i) := by
  rcases to14 hk with rfl | rfl | rfl | rfl | rfl | rfl | rfl | rfl | rfl | rfl | rfl | rfl | rfl | rfl <;>
    rcases to7 hi with rfl | rfl | rfl | rfl | rfl | rfl | rfl <;> rfl
theorem nums_flat : ∀ l : List Nat, (nums l).all flatV = true
  | [] => rfl
  | _ :: l => by
    have := nums_flat l
    simpa [nums, flatV] using this
theorem lt8 {k : Nat} : decide ((k : Int) < 8) = ktB k 14 := by
  unfold ktB
  rw [if_neg (by decide), if_pos (show (14 == 14) = true from rfl)]
  by_cases h : k < 8
  · rw [decide_eq_true h, decide_eq_true (by omega)]
  · rw [decide_eq_false h, decide_eq_false (by omega)]
section
variable {P : Program} {w : World} {K : PySem.W.Frag} {mg : Str → Option Value} {base : Heap}
theorem ok_due (T : Tx K mg) : FnOk P w K mg base CX0 1 T.a_l_due T.d_l_due ["lot"] spDue := by
  refine T.F_l_due.ok sc_l_due (fun vs H Q E h => ?_) (fun cdv A outer s H vs Q E hr h => ?_)
  · obtain ⟨k, rfl, _⟩ := h
    rfl
  · obtain ⟨k, rfl, hk, q⟩ := h
    refine ⟨_, (pss_cons (ps_set (i := 1) sc_l_due.nd rfl (Or.inr rfl) (weak (pe_dget2 (hu_of hr) (pe_disp (pps_cons pe_int (pe_tup (pa_cons pe_int (pa_cons pe_int pa_nil))) (pps_cons pe_int (pe_tup (pa_cons pe_int (pa_cons pe_int pa_nil))) (pps_cons pe_int (pe_tup (pa_cons pe_int (pa_cons pe_int pa_nil))) (pps_cons pe_int (pe_tup (pa_cons pe_int pa_nil)) (pps_cons pe_int (pe_tup (pa_cons pe_int pa_nil)) (pps_cons pe_int (pe_tup (pa_cons pe_int pa_nil)) pps_nil)))))) (by rfl) (by rfl) (fun z => by cases z) (by decide)) (pv 0) (pe_tup (pa_cons pe_int pa_nil)) ⟨by rfl, by rfl, by rfl, by rfl⟩) (fun σ H Q q => due_w q)))
      (pss_one (ps_ret (pe_lst (pa_cons (pe_op op_cat (pe_lc (own := [("at", 2)]) (g := gName 2) rfl sc_l_due.nd (pi_range1 (by rfl) T.n_range (pa_cons pe_int pa_nil)) (blkOk_by (own := [("at", 2)]) (N := ["lot", "some", "at"]) (sc := defScope s_l_due) (by decide +kernel)) (fun _ _ _ _ _ => (pg_name (i := 2) sc_l_due.nd rfl (Or.inl rfl))) (fun _ _ _ _ _ => pts_nil) (fun _ _ _ _ _ => (pe_cmpR op_eq (pv 2) (pv 0) (nomark _)))) (pe_lst (pa_cons (pe_cmpR op_lt (pv 0) pe_int (nomark _)) pa_nil))) (pa_cons (pe_lc (own := [("at", 2)]) (g := gName 2) rfl sc_l_due.nd (pi_range1 (by rfl) T.n_range (pa_cons pe_int pa_nil)) (blkOk_by (own := [("at", 2)]) (N := ["lot", "some", "at"]) (sc := defScope s_l_due) (by decide +kernel)) (fun _ _ _ _ _ => (pg_name (i := 2) sc_l_due.nd rfl (Or.inl rfl))) (fun _ _ _ _ _ => pts_nil) (fun _ _ _ _ _ => (pe_cmpR (op_in_seqK K) (pv 2) (pv 1) (by rfl)))) pa_nil)))))), ?_⟩
    refine ⟨k, hk, rfl, fun H1 t s1 at1 => ?_⟩
    refine ⟨14, rfl, by decide, by decide, fun D nD => ?_⟩
    refine lc_range (lo := 0) (n := 14) (fun i H2 => Same H1 H2 ∧ H2 D = some (.lst (bitsTo k 0 i))) ⟨same_new nD _, upd_same⟩ ?_ ?_
    · rintro i H2 hi ⟨s2, hD⟩
      refine ⟨rfl, _, rfl, _, rfl, rfl, _, hD, ?_, ?_⟩
      · rw [bits_len]
        exact Nat.lt_of_lt_of_le (show i < 1000 by omega) (by decide)
      · rw [eqb hi, ← bits_succ]
        exact ⟨fun b o e => (upd_ne (ne_of_none e nD)).trans (s2 b o (by exact e)), upd_same⟩
    rintro H2 ⟨s2, hD⟩
    refine ⟨_, rfl, _, _, rfl, rfl, (by show 1 ≤ sizeLine; decide), fun L nL => ?_⟩
    obtain ⟨H3, e3, s3, aL⟩ := grow0 (o := .lst [.bl (decide ((k : Int) < 8))]) nL
    rw [← e3]
    have hD3 := s3 _ _ hD
    refine ⟨D, L, _, _, rfl, rfl, hD3, aL, (by rw [bits_len]; exact Nat.le_trans (show 14 + 1 ≤ 100 by decide) (by decide)), fun M nM => ?_⟩
    have eM : bitsTo k 0 14 ++ [V.bl (decide ((k : Int) < 8))] = (clsL k).map V.bl := by
      rw [lt8]
      rfl
    rw [eM]
    obtain ⟨H4, e4, s4, aM⟩ := grow0 (o := .lst ((clsL k).map V.bl)) nM
    rw [← e4]
    have sF := ((s1.trans s2).trans s3).trans s4
    have at4 := s4 _ _ (s3 _ _ (s2 _ _ at1))
    refine ⟨7, rfl, by decide, by decide, fun D2 nD2 => ?_⟩
    refine lc_range (lo := 0) (n := 7) (fun i H5 => Same H4 H5 ∧ H5 D2 = some (.lst (bitsTo k 15 i))) ⟨same_new nD2 _, upd_same⟩ ?_ ?_
    · rintro i H5 hi ⟨s5, hD5⟩
      refine ⟨rfl, _, rfl, _, rfl, t, _, rfl, .inr (.inl (.inl (s5 _ _ at4))), rfl, nums_flat _, _, hD5, ?_, ?_⟩
      · rw [bits_len]
        exact Nat.lt_of_lt_of_le (show i < 1000 by omega) (by decide)
      · rw [show (if false = true then !inV (V.int (0 + (i : Int))) (nums (ktU k)) else inV (V.int (0 + (i : Int))) (nums (ktU k))) = ktB k (15 + i) from inb hi hk, ← bits_succ]
        exact ⟨fun b o e => (upd_ne (ne_of_none e nD2)).trans (s5 b o (by exact e)), upd_same⟩
    rintro H5 ⟨s5, hD5⟩
    refine ⟨(by show 2 ≤ sizeLine; decide), fun R nR => ?_⟩
    have s6 := same_new (o := .lst [.ref M, .ref D2]) nR
    exact q _ R M D2 ((sF.trans s5).trans s6) upd_same (s6 _ _ (s5 _ _ aM)) (s6 _ _ hD5)
end
/-! C11 -/
open PySem PySem.Spec PyProof.Rows L2 Gd Gx

def spStr (K : PySem.W.Frag) (C : Addr) (f : Str) : Sp := fun vs H Q _ => ∃ (a : Addr) (y : V) (z : Str), vs = [.ref a] ∧ Er H a C (some (f, y)) ∧ Sv K H y z ∧ Q (.str z) H
def spKept (K : PySem.W.Frag) (cs : Nat → Addr) : Sp := fun vs H Q _ => ∃ (k : Nat) (e : Addr) (y : V) (z : Str), vs = [.int (k : Int), .ref e, y] ∧ k < 14 ∧ Er H e (cs k) (fy k y) ∧ Sv K H y z ∧ Q (.bl true) H
section
variable {P : Program} {w : World} {K : PySem.W.Frag} {mg : Str → Option Value} {base : Heap}
theorem ok_sInvalidNumber (T : Tx K mg) : FnG P w K mg base CX0 1 T.a_InvalidNumber___str__ T.d_InvalidNumber___str__ ["self"] (spStr K T.c_InvalidNumber "value") := by
  refine okG T.F_InvalidNumber___str__ sc_InvalidNumber___str__ (fun vs H Q E h => ?_) (fun cdv A outer s H vs Q E gd hr h => ?_)
  · obtain ⟨a, y, z, rfl, _⟩ := h
    rfl
  · obtain ⟨a, y, z, rfl, er, sv, q⟩ := h
    refine ⟨_, (pss_one (ps_ret (pe_callB (Gx.call_sv K gd hr.units) (by rfl) T.n_repr (by decide +kernel) (pa_cons (Gx.pe_erf (pv 0)) pa_nil)))), ?_⟩
    exact ⟨_, rfl, a, _, y, rfl, er, T.e_InvalidNumber.ec, T.nf_InvalidNumber, y, z, rfl, sv, q⟩
theorem ok_sUnknownName (T : Tx K mg) : FnG P w K mg base CX0 1 T.a_UnknownName___str__ T.d_UnknownName___str__ ["self"] (spStr K T.c_UnknownName "name") := by
  refine okG T.F_UnknownName___str__ sc_UnknownName___str__ (fun vs H Q E h => ?_) (fun cdv A outer s H vs Q E gd hr h => ?_)
  · obtain ⟨a, y, z, rfl, _⟩ := h
    rfl
  · obtain ⟨a, y, z, rfl, er, sv, q⟩ := h
    refine ⟨_, (pss_one (ps_ret (pe_callB (Gx.call_sv K gd hr.units) (by rfl) T.n_repr (by decide +kernel) (pa_cons (Gx.pe_erf (pv 0)) pa_nil)))), ?_⟩
    exact ⟨_, rfl, a, _, y, rfl, er, T.e_UnknownName.ec, T.nf_UnknownName, y, z, rfl, sv, q⟩
theorem ok_kept (T : Tx K mg) : FnG P w K mg base CX0 4 T.a_l_is_kept T.d_l_is_kept ["lot", "error", "value"] (spKept K T.cs) := by
  have G_InvalidNumber___str__ : FnG P w K mg base CX0 1 T.a_InvalidNumber___str__ T.d_InvalidNumber___str__ ["self"] (spStr K T.c_InvalidNumber "value") := ok_sInvalidNumber T
  have G_UnknownName___str__ : FnG P w K mg base CX0 1 T.a_UnknownName___str__ T.d_UnknownName___str__ ["self"] (spStr K T.c_UnknownName "name") := ok_sUnknownName T
  refine okG T.F_l_is_kept sc_l_is_kept (fun vs H Q E h => ?_) (fun cdv A outer s H vs Q E gd hr h => ?_)
  · obtain ⟨k, e, y, z, rfl, _⟩ := h
    rfl
  · obtain ⟨k, e, y, z, rfl, hk, er, sv, q⟩ := h
    refine ⟨_, (pss_cons (ps_if (pt_cmpR op_eq (pv 0) pe_int (nomark _))
      (pss_one (ps_ret (pe_cmpR op_eq (pe_callB (Gx.call_sv K gd hr.units) (by rfl) T.n_repr (by decide +kernel) (pa_cons (Gx.pe_erf (pv 1)) pa_nil)) (pe_callB (Gx.call_sv K gd hr.units) (by rfl) T.n_repr (by decide +kernel) (pa_cons (pv 2) pa_nil)) (nomark _))))
      pss_nil)
      (pss_cons (ps_if (pt_cmpR op_eq (pv 0) pe_int (nomark _))
      (pss_one (ps_ret (pe_cmpR op_eq (pe_callB (Gx.call_sv K gd hr.units) (by rfl) T.n_repr (by decide +kernel) (pa_cons (Gx.pe_erf (pv 1)) pa_nil)) (pe_callB (Gx.call_sv K gd hr.units) (by rfl) T.n_repr (by decide +kernel) (pa_cons (pv 2) pa_nil)) (nomark _))))
      pss_nil)
      (pss_cons (ps_if (pt_cmpR op_eq (pv 0) pe_int (nomark _))
      (pss_one (ps_ret (pe_and (pe_cmpR op_eq (pe_callB (Gx.call_sv K gd hr.units) (by rfl) T.n_repr (by decide +kernel) (pa_cons (Gx.pe_erf (pv 1)) pa_nil)) (pe_callB (Gx.call_sv K gd hr.units) (by rfl) T.n_repr (by decide +kernel) (pa_cons (pv 2) pa_nil)) (nomark _)) (pe_one (pe_cmpR op_eq (pe_callTy (Gx.call_strX G_InvalidNumber___str__ gd (hr.mono (by decide)) T.b_InvalidNumber___str__ T.fs_InvalidNumber pass0) (by rfl) T.n_str (by decide +kernel) (pa_cons (pv 1) pa_nil)) (pe_callB (Gx.call_sv K gd hr.units) (by rfl) T.n_repr (by decide +kernel) (pa_cons (pv 2) pa_nil)) (nomark _))))))
      pss_nil)
      (pss_cons (ps_if (pt_cmpR op_eq (pv 0) pe_int (nomark _))
      (pss_one (ps_ret (pe_and (pe_cmpR op_eq (pe_callB (Gx.call_sv K gd hr.units) (by rfl) T.n_repr (by decide +kernel) (pa_cons (Gx.pe_erf (pv 1)) pa_nil)) (pe_callB (Gx.call_sv K gd hr.units) (by rfl) T.n_repr (by decide +kernel) (pa_cons (pv 2) pa_nil)) (nomark _)) (pe_one (pe_cmpR op_eq (pe_callTy (Gx.call_strX G_UnknownName___str__ gd (hr.mono (by decide)) T.b_UnknownName___str__ T.fs_UnknownName pass0) (by rfl) T.n_str (by decide +kernel) (pa_cons (pv 1) pa_nil)) (pe_callB (Gx.call_sv K gd hr.units) (by rfl) T.n_repr (by decide +kernel) (pa_cons (pv 2) pa_nil)) (nomark _))))))
      pss_nil)
      (pss_cons (ps_if (pt_cmpR op_eq (pv 0) pe_int (nomark _))
      (pss_one (ps_ret (pe_cmpR op_eq (pe_callB (Gx.call_sv K gd hr.units) (by rfl) T.n_repr (by decide +kernel) (pa_cons (Gx.pe_erf (pv 1)) pa_nil)) (pe_callB (Gx.call_sv K gd hr.units) (by rfl) T.n_repr (by decide +kernel) (pa_cons (pv 2) pa_nil)) (nomark _))))
      pss_nil)
      (pss_cons (ps_if (pt_cmpR op_eq (pv 0) pe_int (nomark _))
      (pss_one (ps_ret (pe_cmpR op_eq (pe_callB (Gx.call_sv K gd hr.units) (by rfl) T.n_repr (by decide +kernel) (pa_cons (Gx.pe_erf (pv 1)) pa_nil)) (pe_callB (Gx.call_sv K gd hr.units) (by rfl) T.n_repr (by decide +kernel) (pa_cons (pv 2) pa_nil)) (nomark _))))
      pss_nil)
      (pss_cons (ps_if (pt_cmpR op_eq (pv 0) pe_int (nomark _))
      (pss_one (ps_ret (pe_cmpR op_eq (pe_callB (Gx.call_sv K gd hr.units) (by rfl) T.n_repr (by decide +kernel) (pa_cons (Gx.pe_erf (pv 1)) pa_nil)) (pe_callB (Gx.call_sv K gd hr.units) (by rfl) T.n_repr (by decide +kernel) (pa_cons (pv 2) pa_nil)) (nomark _))))
      pss_nil)
      (pss_one (ps_ret (pe_or (pe_cmpR op_ne (pv 0) pe_int (nomark _)) (pe_one (pe_cmpR op_eq (pe_callB (Gx.call_sv K gd hr.units) (by rfl) T.n_repr (by decide +kernel) (pa_cons (Gx.pe_erf (pv 1)) pa_nil)) (pe_callB (Gx.call_sv K gd hr.units) (by rfl) T.n_repr (by decide +kernel) (pa_cons (pv 2) pa_nil)) (nomark _))))))))))))), ?_⟩
    have same : decide (V.str z = V.str z) = true := decide_eq_true rfl
    refine ⟨_, rfl, rfl, _, rfl, ite2 (fun e1 => ?_) (fun e1 => ?_)⟩
    · obtain rfl : k = 6 := by have := isI e1; omega
      refine ⟨_, rfl, e, _, y, rfl, er, T.e_Unmatched.ec, T.nf_Unmatched, y, z, rfl, sv, _, rfl, y, z, rfl, sv, rfl, ?_⟩
      rw [same]
      exact q
    · have e106 := isN e1
      refine ⟨_, rfl, rfl, _, rfl, ite2 (fun e1 => ?_) (fun e1 => ?_)⟩
      · obtain rfl : k = 7 := by have := isI e1; omega
        refine ⟨_, rfl, e, _, y, rfl, er, T.e_ParseError.ec, T.nf_ParseError, y, z, rfl, sv, _, rfl, y, z, rfl, sv, rfl, ?_⟩
        rw [same]
        exact q
      · have e107 := isN e1
        refine ⟨_, rfl, rfl, _, rfl, ite2 (fun e1 => ?_) (fun e1 => ?_)⟩
        · obtain rfl : k = 8 := by have := isI e1; omega
          refine ⟨_, rfl, e, _, y, rfl, er, T.e_InvalidNumber.ec, T.nf_InvalidNumber, y, z, rfl, sv, _, rfl, y, z, rfl, sv, rfl, ?_⟩
          refine ⟨_, rfl, ?_⟩
          rw [if_pos same]
          refine ⟨_, rfl, e, _, _, rfl, er, T.s_InvalidNumber, e, y, z, rfl, er, sv, z, rfl, _, rfl, y, z, rfl, sv, rfl, ?_⟩
          rw [same]
          exact q
        · have e108 := isN e1
          refine ⟨_, rfl, rfl, _, rfl, ite2 (fun e1 => ?_) (fun e1 => ?_)⟩
          · obtain rfl : k = 9 := by have := isI e1; omega
            refine ⟨_, rfl, e, _, y, rfl, er, T.e_UnknownName.ec, T.nf_UnknownName, y, z, rfl, sv, _, rfl, y, z, rfl, sv, rfl, ?_⟩
            refine ⟨_, rfl, ?_⟩
            rw [if_pos same]
            refine ⟨_, rfl, e, _, _, rfl, er, T.s_UnknownName, e, y, z, rfl, er, sv, z, rfl, _, rfl, y, z, rfl, sv, rfl, ?_⟩
            rw [same]
            exact q
          · have e109 := isN e1
            refine ⟨_, rfl, rfl, _, rfl, ite2 (fun e1 => ?_) (fun e1 => ?_)⟩
            · obtain rfl : k = 10 := by have := isI e1; omega
              refine ⟨_, rfl, e, _, y, rfl, er, T.e_TooMany.ec, T.nf_TooMany, y, z, rfl, sv, _, rfl, y, z, rfl, sv, rfl, ?_⟩
              rw [same]
              exact q
            · have e110 := isN e1
              refine ⟨_, rfl, rfl, _, rfl, ite2 (fun e1 => ?_) (fun e1 => ?_)⟩
              · obtain rfl : k = 11 := by have := isI e1; omega
                refine ⟨_, rfl, e, _, y, rfl, er, T.e_NothingToUndo.ec, T.nf_NothingToUndo, y, z, rfl, sv, _, rfl, y, z, rfl, sv, rfl, ?_⟩
                rw [same]
                exact q
              · have e111 := isN e1
                refine ⟨_, rfl, rfl, _, rfl, ite2 (fun e1 => ?_) (fun e1 => ?_)⟩
                · obtain rfl : k = 12 := by have := isI e1; omega
                  refine ⟨_, rfl, e, _, y, rfl, er, T.e_Unsteady.ec, T.nf_Unsteady, y, z, rfl, sv, _, rfl, y, z, rfl, sv, rfl, ?_⟩
                  rw [same]
                  exact q
                · have e112 := isN e1
                  refine ⟨_, rfl, rfl, _, rfl, ?_⟩
                  by_cases h13 : k = 13
                  · subst h13
                    have nt : ¬ ((!decide (V.int ((13 : Nat) : Int) = V.int 13)) = true) := by rw [decide_eq_true (show V.int ((13 : Nat) : Int) = V.int 13 from rfl)]; decide
                    rw [if_neg nt]
                    refine ⟨_, rfl, e, _, y, rfl, er, T.e_Refused.ec, T.nf_Refused, y, z, rfl, sv, _, rfl, y, z, rfl, sv, rfl, ?_⟩
                    rw [same]
                    exact q
                  · have nt : (!decide (V.int (k : Int) = V.int 13)) = true := by rw [decide_eq_false (fun z => by injection z with z; omega)]; rfl
                    rw [if_pos nt]
                    exact q
end
/-! C12 -/
open PySem PySem.Spec PyProof.Rows L2 Gd Gx

/-! ### plain values, and what they are -/
def ascS (z : Str) : Prop := ∀ c ∈ z.cps.toList, c < 128
mutual
/-- data that is read off the heap -/
inductive Da (H : Hp) : V → PyData → Prop
  | non : Da H .non .none
  | bl (b : Bool) : Da H (.bl b) (.bool b)
  | int (i : Int) : Da H (.int i) (.int i)
  | str (z : Str) (h : z.length ≤ 10000) (k : ascS z) : Da H (.str z) (.str z)
  | lst {a : Addr} {xs : List V} {ds : List PyData} (h : H a = some (.lst xs)) (x : DaAll H xs ds) : Da H (.ref a) (.list ds)
  | tup {a : Addr} {xs : List V} {ds : List PyData} (h : H a = some (.tup xs)) (l : xs.length ≤ 50) (x : DaAll H xs ds) : Da H (.ref a) (.tuple ds)
inductive DaAll (H : Hp) : List V → List PyData → Prop
  | nil : DaAll H [] []
  | cons {v : V} {vs : List V} {d : PyData} {ds : List PyData} (h : Da H v d) (t : DaAll H vs ds) : DaAll H (v :: vs) (d :: ds)
end
mutual
theorem Da.mono {H H' : Hp} (s : Same H H') {v : V} {d : PyData} : Da H v d → Da H' v d
  | .non => .non
  | .bl b => .bl b
  | .int i => .int i
  | .str z h k => .str z h k
  | .lst h x => .lst (s _ _ h) (DaAll.mono s x)
  | .tup h l x => .tup (s _ _ h) l (DaAll.mono s x)
theorem DaAll.mono {H H' : Hp} (s : Same H H') {vs : List V} {ds : List PyData} : DaAll H vs ds → DaAll H' vs ds
  | .nil => .nil
  | .cons h t => .cons (Da.mono s h) (DaAll.mono s t)
end
mutual
theorem Da.dp {K : PySem.W.Frag} {H : Hp} {v : V} {d : PyData} : Da H v d → Dp K H v d
  | .non => .non
  | .bl b => .bl b
  | .int i => .int i
  | .str z _ _ => .str z
  | .lst h x => .lst (.inl (.inl h)) (DaAll.dp x)
  | .tup h _ x => .tup (.inl (.inl h)) (DaAll.dp x)
theorem DaAll.dp {K : PySem.W.Frag} {H : Hp} {vs : List V} {ds : List PyData} : DaAll H vs ds → DpAll K H vs ds
  | .nil => .nil
  | .cons h t => .cons (Da.dp h) (DaAll.dp t)
end
theorem strOk_asc {z : Str} (h : ascS z) : PyData.strOk z = true := by
  show z.cps.all (fun c => decide (c < 0x110000)) = true
  rw [← Array.all_toList, List.all_eq_true]
  intro c hc
  have := h c hc
  exact decide_eq_true (by omega)
def one (c : Nat) : Str := ⟨#[c]⟩
theorem Jar.upd {H : Hp} {j p : Addr} {o : HO} (h : Jar H j) (n : j ≠ p) : Jar (L2.upd H p o) j := by
  obtain ⟨a, b, c, e, r⟩ := h
  exact ⟨a, b, c, (upd_ne n).trans e, r⟩
theorem Jar.ne {H : Hp} {j p : Addr} (h : Jar H j) (n : H p = none) : j ≠ p := by
  obtain ⟨a, b, c, e, _⟩ := h
  exact ne_of_none e n
/-- what is new behind a Keep was new ahead of it -/
theorem Keep.free {j p : Addr} {H H' : Hp} (k : Keep j H H') (n : H' p = none) (jp : j ≠ p) : H p = none := by
  cases e : H p with
  | none => rfl
  | some o =>
    have := k _ _ e jp.symm
    rw [n] at this
    cases this
/-- a comprehension over range whose turns draw from the jar -/
theorem lc_draw {j D : Addr} {n : Nat} {g : TG} {tt : TT} {te : TE} {vs : List Nat} {σ : L2.St} {H1 : Hp} {Qd : Hp → Prop} (R : V → Prop) (nD : H1 D = none) (hn : n ≤ 1000) (hj : Jar H1 j)
    (hs : ∀ (i : Nat) H (N1 : VK) (N0 : Hp → Prop), i < n → Keep j H1 H → Jar H j → (∀ H' y, Keep j H H' → Jar H' j → R y → N1 y H') →
      g (.int (0 + i)) (wipe σ vs) H fun σ2 H2 => wipe σ2 vs = wipe σ vs ∧ tt σ2 H2 fun b H3 => if b = true then te σ2 H3 N1 else N0 H3)
    (hd : ∀ H ys, Keep j H1 H → Jar H j → H D = some (.lst ys) → ys.length = n → (∀ y ∈ ys, R y) → Qd H) :
    ∃ W : Nat → Nat → Hp → Prop, (∃ m, W 0 m (upd H1 D (.lst []))) ∧ ∀ i m H, W i m H →
      ((Itr 0 n).stop i H ∧ Qd H) ∨ ((Itr 0 n).go i H ∧ ∃ Nx : Hp → Prop, (∀ H', Nx H' → ∃ m', m' < m ∧ W (i + 1) m' H') ∧ ∀ x H', (Itr 0 n).yld i H x H' → g x (wipe σ vs) H' fun σ2 H2 => wipe σ2 vs = wipe σ vs ∧ tt σ2 H2 fun b H3 =>
        if b = true then te σ2 H3 fun y H4 => ∃ acc, H4 D = some (.lst acc) ∧ acc.length < sizeLine ∧ Nx (upd H4 D (.lst (acc ++ [y]))) else Nx H3) := by
  have jD : j ≠ D := by
    obtain ⟨a, b, c, e, _⟩ := hj
    exact ne_of_none e nD
  have jar_upd : ∀ {H : Hp} {o : HO}, Jar H j → Jar (upd H D o) j := by
    rintro H o ⟨a, b, c, e, r⟩
    exact ⟨a, b, c, (upd_ne jD).trans e, r⟩
  refine lc_range (lo := 0) (n := n) (fun i H => Keep j H1 H ∧ Jar H j ∧ ∃ ys, H D = some (.lst ys) ∧ ys.length = i ∧ ∀ y ∈ ys, R y) ?_ ?_ ?_
  · exact ⟨(Keep.refl j H1).new nD _, jar_upd hj, [], upd_same, rfl, fun y m => by cases m⟩
  · rintro i H hi ⟨k1, j1, ys, eD, ly, hy⟩
    refine hs i H _ _ hi k1 j1 fun H' y k2 j2 ry => ?_
    refine ⟨ys, k2 _ _ eD jD.symm, Nat.lt_of_lt_of_le (show ys.length < 1001 by omega) (by decide), ?_, jar_upd j2, ys ++ [y], upd_same, by rw [List.length_append, ly]; rfl, ?_⟩
    · intro b o e n
      rw [upd_ne (ne_of_none e nD)]
      exact (k1.trans k2) b o e n
    · intro z m
      rcases List.mem_append.mp m with m | m
      · exact hy z m
      · rw [List.mem_singleton.mp m]; exact ry
  · rintro H ⟨k1, j1, ys, eD, ly, hy⟩
    exact hd H ys k1 j1 eD ly hy
/-- one small letter -/
def Lt (y : V) : Prop := ∃ c, y = .str (one c) ∧ 97 ≤ c ∧ c ≤ 122
theorem lts_of : ∀ {ys : List V}, (∀ y ∈ ys, Lt y) → ∃ cs : List Nat, ys = (cs.map one).map V.str ∧ ∀ c ∈ cs, 97 ≤ c ∧ c ≤ 122
  | [], _ => ⟨[], rfl, fun c m => by cases m⟩
  | y :: ys, h => by
    obtain ⟨c, rfl, h1, h2⟩ := h y List.mem_cons_self
    obtain ⟨cs, e, g⟩ := lts_of fun z m => h z (List.mem_cons_of_mem _ m)
    refine ⟨c :: cs, by rw [e]; rfl, fun d m => ?_⟩
    rcases List.mem_cons.mp m with q | q
    · rw [q]; exact ⟨h1, h2⟩
    · exact g d q
theorem join_ones : ∀ cs : List Nat, (Txt.join ("" : Str) (cs.map one)) = ⟨cs.toArray⟩ := by
  intro cs
  show Builtin.Str.glued _ _ = _
  rw [StrLaws.glued_eq_join]
  induction cs with
  | nil => rfl
  | cons c cs ih =>
    cases cs with
    | nil => rfl
    | cons d cs =>
      show one c ++ "" ++ Str.join "" ((d :: cs).map one) = _
      rw [ih]
      show (⟨((#[c] : Array Nat) ++ ("" : Str).cps) ++ (d :: cs).toArray⟩ : Str) = _
      have : ("" : Str).cps = #[] := by decide +kernel
      rw [this]
      simp
theorem ones_sum (cs : List Nat) : ((cs.map one).map (·.length)).sum = cs.length := by
  induction cs with
  | nil => rfl
  | cons c cs ih =>
    show (one c).length + ((cs.map one).map (·.length)).sum = cs.length + 1
    rw [ih]
    show 1 + cs.length = cs.length + 1
    omega
/-- a text of small letters -/
def low (n : Nat) (z : Str) : Prop := z.length ≤ n ∧ ∀ c ∈ z.cps.toList, 97 ≤ c ∧ c ≤ 122
def plainT (n : Nat) (z : Str) : Prop := z.length ≤ n ∧ ascS z
theorem low.plain {n : Nat} {z : Str} (h : low n z) : plainT n z := ⟨h.1, fun c m => by have := h.2 c m; omega⟩
theorem plainT.cat {a b : Nat} {x y : Str} (h1 : plainT a x) (h2 : plainT b y) : plainT (a + b) (x ++ y) := by
  refine ⟨?_, fun c m => ?_⟩
  · show (x.cps ++ y.cps).size ≤ _
    rw [Array.size_append]
    exact Nat.add_le_add h1.1 h2.1
  · have m' : c ∈ (x.cps ++ y.cps).toList := m
    rw [Array.toList_append, List.mem_append] at m'
    rcases m' with m' | m'
    · exact h1.2 c m'
    · exact h2.2 c m'
theorem plainT.cut {n : Nat} {z : Str} (h : plainT n z) (lo hi : Option Int) : plainT n (cutS z lo hi) := by
  unfold cutS
  refine ⟨?_, fun c m => ?_⟩
  · show (List.toArray _).size ≤ n
    rw [List.size_toArray, List.length_take, List.length_drop, Array.length_toList]
    have : z.cps.size ≤ n := h.1
    omega
  · have m' : c ∈ (List.toArray ((z.cps.toList.drop (HT.sIx z.length 0 lo)).take (HT.sIx z.length z.length hi - HT.sIx z.length 0 lo))).toList := m
    exact h.2 c (List.mem_of_mem_drop (List.mem_of_mem_take (by simpa using m')))
theorem plainT.rep {n k : Nat} {z : Str} (h : plainT n z) : plainT (k * n) (repS z k) := by
  unfold repS
  refine ⟨?_, fun c m => ?_⟩
  · show (List.toArray _).size ≤ _
    rw [List.size_toArray, List.length_flatten, List.map_replicate, List.sum_replicate_nat, Array.length_toList]
    exact Nat.mul_le_mul_left k h.1
  · have m' : c ∈ (List.replicate k z.cps.toList).flatten := by simpa using m
    obtain ⟨l, hl, hc⟩ := List.mem_flatten.mp m'
    rw [(List.mem_replicate.mp hl).2] at hc
    exact h.2 c hc
theorem plainT.mono {m n : Nat} {z : Str} (h : plainT m z) (l : m ≤ n) : plainT n z := ⟨Nat.le_trans h.1 l, h.2⟩
theorem plainT.line {n : Nat} {z : Str} (h : plainT n z) (l : n ≤ 10000) : z.length ≤ sizeLine := Nat.le_trans h.1 (Nat.le_trans l (by decide))
theorem low_ones {cs : List Nat} {n : Nat} (l : cs.length ≤ n) (h : ∀ c ∈ cs, 97 ≤ c ∧ c ≤ 122) : low n ⟨cs.toArray⟩ := ⟨by show cs.toArray.size ≤ n; rw [List.size_toArray]; exact l, fun c m => h c (by simpa using m)⟩
/-- the heap without what stands at j -/
def hide (j : Addr) (H : Hp) : Hp := fun b => if b = j then none else H b
theorem hideS {j : Addr} {H H' : Hp} (k : Keep j H H') : Same (hide j H) (hide j H') := fun b o e => by
  unfold hide at e ⊢
  by_cases q : b = j
  · rw [if_pos q] at e
    cases e
  · rw [if_neg q] at e ⊢
    exact k b o e q
theorem unhide {j p : Addr} {H : Hp} {o : HO} (e : hide j H p = some o) : H p = some o := by
  unfold hide at e
  by_cases q : p = j
  · rw [if_pos q] at e
    cases e
  · rwa [if_neg q] at e
theorem hide_le (j : Addr) (H : Hp) : Same (hide j H) H := fun _ _ e => unhide e
theorem grow {j p : Addr} {H Hk : Hp} {o : HO} (k : Keep j H Hk) (jr : Jar Hk j) (n : Hk p = none) :
    ∃ H', H' = upd Hk p o ∧ Same (hide j Hk) (hide j H') ∧ hide j H' p = some o ∧ Keep j H H' ∧ Jar H' j ∧ j ≠ p ∧ H p = none := by
  have jp := jr.ne n
  have k1 : Keep j Hk (upd Hk p o) := (Keep.refl j Hk).new n o
  refine ⟨_, rfl, hideS k1, ?_, k.new n o, jr.upd jp, jp, k.free n jp⟩
  unfold hide
  rw [if_neg jp.symm, upd_same]
theorem asc_of {z : Str} {n : Nat} (h : z.cps.toList.all (· < 128) = true) (l : z.length ≤ n) : plainT n z := ⟨l, fun c m => by
  have := List.all_eq_true.mp h c m
  simpa using this⟩
/-- what has come up since H, but for what stands at j -/
def part (j : Addr) (H H' : Hp) : Hp := fun b => if H b = none ∧ b ≠ j then H' b else none
theorem unpart {j p : Addr} {H H' : Hp} {o : HO} (e : part j H H' p = some o) : H' p = some o ∧ H p = none ∧ p ≠ j := by
  unfold part at e
  by_cases q : H p = none ∧ p ≠ j
  · rw [if_pos q] at e
    exact ⟨e, q⟩
  · rw [if_neg q] at e
    cases e
theorem partS {j : Addr} {H H1 H2 : Hp} (k : Keep j H1 H2) : Same (part j H H1) (part j H H2) := fun b o e => by
  obtain ⟨e1, e2, e3⟩ := unpart e
  unfold part
  rw [if_pos ⟨e2, e3⟩]
  exact k b o e1 e3
theorem growP {j p : Addr} {H Hk : Hp} {o : HO} (k : Keep j H Hk) (jr : Jar Hk j) (n : Hk p = none) :
    ∃ H', H' = upd Hk p o ∧ Same (part j H Hk) (part j H H') ∧ part j H H' p = some o ∧ Keep j H H' ∧ Jar H' j ∧ j ≠ p ∧ H p = none := by
  obtain ⟨H', e, _, _, k2, j2, jp, n0⟩ := grow (o := o) k jr n
  refine ⟨H', e, ?_, ?_, k2, j2, jp, n0⟩
  · refine partS ?_
    rw [e]
    exact (Keep.refl j Hk).new n o
  · unfold part
    rw [if_pos ⟨n0, jp.symm⟩, e, upd_same]
theorem hide_mono {F : Addr} {H H' : Hp} (s : Same H H') : Same (hide F H) (hide F H') := fun b o e => by
  unfold hide at e ⊢
  by_cases q : b = F
  · rw [if_pos q] at e
    cases e
  · rw [if_neg q] at e ⊢
    exact s b o e
/-- the heap without what stands at F and at j -/
def hd2 (F j : Addr) (H : Hp) : Hp := hide F (hide j H)
theorem hd2_le {F j : Addr} {H : Hp} : Same (hd2 F j H) H := fun _ _ e => unhide (unhide e)
theorem hd2_in {F j b : Addr} {H : Hp} {o : HO} (e : H b = some o) (h1 : b ≠ F) (h2 : b ≠ j) : hd2 F j H b = some o := by
  unfold hd2 hide
  rw [if_neg h1, if_neg h2]
  exact e
theorem hd2_out {F j b : Addr} {H : Hp} {o : HO} (e : hd2 F j H b = some o) : H b = some o ∧ b ≠ F ∧ b ≠ j := by
  refine ⟨hd2_le b o e, fun z => ?_, fun z => ?_⟩
  · subst z
    unfold hd2 hide at e
    rw [if_pos rfl] at e
    cases e
  · subst z
    have e2 := unhide e
    unfold hide at e2
    rw [if_pos rfl] at e2
    cases e2
/-- a step that changes nothing but what stands at F and at j -/
theorem hd2_step {F j : Addr} {H H' : Hp} (k : ∀ b o, H b = some o → b ≠ F → b ≠ j → H' b = some o) : Same (hd2 F j H) (hd2 F j H') := fun b o e => by
  obtain ⟨e1, e2, e3⟩ := hd2_out e
  exact hd2_in (k b o e1 e2 e3) e2 e3
theorem part_hd2 {F j : Addr} {H H' : Hp} (h : H F ≠ none) : Same (part j H H') (hd2 F j H') := fun b o e => by
  obtain ⟨e1, e2, e3⟩ := unpart e
  exact hd2_in e1 (fun z => h (by rw [← z]; exact e2)) e3
theorem sq_new {K : PySem.W.Frag} {H : Hp} {a : Addr} {xs : List V} (h : H a = some (.lst xs)) : SqL K H a xs := .inl (.inl h)
/-- the value v is shown as z, by what is tracked alone -/
inductive Sw (H : Hp) : V → Str → Prop where
  | int {i : Int} (h : i.natAbs.log2 < 1920) : Sw H (.int i) (toString i)
  | str {x : Str} (h : (reprText x).length ≤ sizeLine) : Sw H (.str x) (reprText x)
  | bl (b : Bool) : Sw H (.bl b) (if b then "True" else "False")
  | non : Sw H .non "None"
  | dat {a : Addr} {d : PyData} (h : Da H (.ref a) d) (h1 : d.showable = true) (h2 : d.hasDict = false) (h3 : d.depth ≤ 40) (h4 : d.shown.length ≤ sizeLine) : Sw H (.ref a) d.shown
  | emp {a : Addr} (h : H a = some (.dK [])) : Sw H (.ref a) (PyData.dict []).shown
theorem Sw.mono {H H' : Hp} {v : V} {z : Str} (s : Same H H') (h : Sw H v z) : Sw H' v z := by
  cases h with
  | int h => exact .int h
  | str h => exact .str h
  | bl b => exact .bl b
  | non => exact .non
  | dat h h1 h2 h3 h4 => exact .dat (h.mono s) h1 h2 h3 h4
  | emp h => exact .emp (s _ _ h)
theorem Sw.sv {K : PySem.W.Frag} {H : Hp} {v : V} {z : Str} (h : Sw H v z) : Sv K H v z := by
  cases h with
  | int h => exact .int h
  | str h => exact .str h
  | bl b => exact .bl b
  | non => exact .non
  | dat h h1 h2 h3 h4 => exact .dat h.dp h1 h2 h3 h4
  | emp h => exact .emp h
theorem short_txt {n : Nat} {x : Str} (h : plainT n x) : PyData.leavesShort 100 (.str x) = true := by
  simp only [PyData.leavesShort, List.all_eq_true]
  intro c m
  have := h.2 c m
  exact decide_eq_true (by omega)
theorem sw_txt {H : Hp} {n : Nat} {x : Str} (h : plainT n x) (l : n ≤ 100) : Sw H (.str x) (reprText x) := .str (by
  have h7 := PyData.shown_le 100 (by decide) (.str x) (short_txt h)
  have e1 : PyData.shown (.str x) = reprText x := by simp only [PyData.shown]
  have e2 : PyData.weight (.str x) = x.cps.size := by simp only [PyData.weight]
  rw [e1, e2] at h7
  have h2 : x.cps.size ≤ n := h.1
  have h8 : 102 * 100 + 100 ≤ sizeLine := by decide
  omega)
theorem log_lt {i : Int} (h : i.natAbs < 10 ^ 20) : i.natAbs.log2 < 1920 := by
  by_cases z : i.natAbs = 0
  · rw [z]; decide
  · refine (Nat.log2_lt z).mpr ?_
    have : (10 : Nat) ^ 20 < 2 ^ 1920 := by decide +kernel
    omega
theorem sw_dat {H : Hp} {a : Addr} {d : PyData} (h : Da H (.ref a) d) (h1 : d.showable = true) (h2 : d.hasDict = false) (h3 : d.depth ≤ 40) (h5 : d.leavesShort 100 = true) (h6 : d.weight ≤ 10000) : Sw H (.ref a) d.shown := .dat h h1 h2 h3 (by
  have h7 := PyData.shown_le 100 (by decide) d h5
  have h8 : 102 * 10000 + 100 ≤ sizeLine := by decide
  omega)
/-! C13 -/
open PySem PySem.Spec PyProof.Rows L2 Gd Gx

def spWorth : Sp := fun vs H Q _ => ∃ (j : Addr) (k : Nat), vs = [.ref j, .int (k : Int)] ∧ Jar H j ∧ k < 14 ∧ ∀ H' v z, Keep j H H' → Jar H' j → Sw (part j H H') v z → Q v H'
theorem pow20 : CPowB 10 20 := ⟨by decide, by decide +kernel⟩
theorem tx : plainT 100 "x" := asc_of (by decide +kernel) (by decide +kernel)
theorem ta : plainT 100 "a" := asc_of (by decide +kernel) (by decide +kernel)
theorem tb : plainT 100 "b" := asc_of (by decide +kernel) (by decide +kernel)
theorem da_txt {H : Hp} {n : Nat} {z : Str} (h : plainT n z) (l : n ≤ 100) : Da H (.str z) (.str z) := .str z (Nat.le_trans h.1 (Nat.le_trans l (by decide))) h.2
theorem w_txt {n : Nat} {z : Str} (h : plainT n z) : PyData.weight (.str z) ≤ n := by
  simp only [PyData.weight]
  exact h.1
theorem int20 {i : Int} (h : i.natAbs < 10 ^ 20) : PyData.showable (.int i) = true ∧ PyData.leavesShort 100 (.int i) = true ∧ PyData.weight (.int i) ≤ 1921 := by
  have h1 := log_lt h
  refine ⟨by simp only [PyData.showable]; exact decide_eq_true h1, ?_, ?_⟩
  · simp only [PyData.leavesShort, PyData.shown]
    have h3 := int_text_length_le10 (a := i) (k := 20) (by decide) h
    refine decide_eq_true ?_
    show (Str.ofString (toString i)).length ≤ 100
    rw [PySem.ofString_length]
    exact Nat.le_trans h3 (by decide)
  · simp only [PyData.weight]
    split <;> omega
theorem sw_int {H : Hp} {i : Int} (h : i.natAbs < 10 ^ 20) : Sw H (.int i) (toString i) := .int (log_lt h)
section
variable {P : Program} {w : World} {K : PySem.W.Frag} {mg : Str → Option Value} {base : Heap}
theorem ok_worth (T : Tx K mg) : FnOk P w K mg base CX0 3 T.a_l_worth T.d_l_worth ["jar", "lot"] spWorth := by
  have G_l_sip : FnOk P w K mg base CX0 1 T.a_l_sip T.d_l_sip ["jar", "total"] spSip := ok_sip T
  have G_l_letter : FnOk P w K mg base CX0 2 T.a_l_letter T.d_l_letter ["jar"] spLetter := ok_letter T
  have G_l_which : FnOk P w K mg base CX0 2 T.a_l_which T.d_l_which ["jar", "items"] spWhich := ok_which T
  refine T.F_l_worth.ok sc_l_worth (fun vs H Q E h => ?_) (fun cdv A outer s H vs Q E hr h => ?_)
  · obtain ⟨j, k, rfl, _⟩ := h
    rfl
  · obtain ⟨j, k, rfl, hj, hk, q⟩ := h
    refine ⟨_, (pss_cons (ps_set (i := 2) sc_l_worth.nd rfl (Or.inl rfl) (pe_joinK K pe_str (pe_lc (own := [("at", 5)]) (g := gName 5) rfl sc_l_worth.nd (pi_range1 (by rfl) T.n_range (pa_cons (pe_op op_add pe_int (pe_call G_l_sip (hr.mono (by decide)) (by rfl) T.g_l_sip T.F_l_sip.kp T.b_l_sip .nil pass0 (pa_cons (pv 0) (pa_cons pe_int pa_nil)))) pa_nil)) (blkOk_by (own := [("at", 5)]) (N := ["jar", "lot", "word", "number", "odd", "at"]) (sc := defScope s_l_worth) (by decide +kernel)) (fun _ _ _ _ _ => (pg_name (i := 5) sc_l_worth.nd rfl (Or.inl rfl))) (fun _ _ _ _ _ => pts_nil) (fun _ _ _ _ _ => (pe_call G_l_letter (hr.mono (by decide)) (by rfl) T.g_l_letter T.F_l_letter.kp T.b_l_letter .nil pass0 (pa_cons (pv 0) pa_nil))))))
      (pss_cons (ps_if (PW.pt (pw_or (pt_cmpR op_lt (pv 1) pe_int (nomark _)) (pw_or1 (pt_cmpR op_eq (pv 1) pe_int (nomark _)))))
      (pss_one (ps_ret (pv 2)))
      pss_nil)
      (pss_cons (ps_set (i := 3) sc_l_worth.nd rfl (Or.inl rfl) (pe_call G_l_sip (hr.mono (by decide)) (by rfl) T.g_l_sip T.F_l_sip.kp T.b_l_sip .nil pass0 (pa_cons (pv 0) (pa_cons (pe_op op_powB pe_int pe_int) pa_nil))))
      (pss_cons (ps_if (pt_cmpR op_eq (pv 1) pe_int (nomark _))
      (pss_one (ps_ret (pe_tup (pa_cons (pv 2) (pa_cons (pe_op op_add_str (pv 2) pe_str) pa_nil)))))
      pss_nil)
      (pss_cons (ps_if (pt_cmpR op_eq (pv 1) pe_int (nomark _))
      (pss_one (ps_ret (pe_tup (pa_cons (pe_tup (pa_cons (pv 2) (pa_cons pe_str pa_nil))) (pa_cons (pv 3) pa_nil)))))
      pss_nil)
      (pss_cons (ps_set (i := 4) sc_l_worth.nd rfl (Or.inl rfl) (pe_lst (pa_cons (pv 3) (pa_cons (pe_op op_sub pe_int (pv 3)) (pa_cons pe_bl (pa_cons pe_non (pa_cons pe_str (pa_cons pe_tup0 (pa_cons (pe_tup (pa_cons pe_int (pa_cons pe_str pa_nil))) (pa_cons (pe_lst (pa_cons pe_str pa_nil)) (pa_cons pe_dnewK pa_nil)))))))))))
      (pss_one (ps_ret (pe_ifExp (pt_cmpR (op_in_seqK K) (pv 1) (pe_tup (pa_cons pe_int (pa_cons pe_int pa_nil))) (by rfl)) (pe_call G_l_which (hr.mono (by decide)) (by rfl) T.g_l_which T.F_l_which.kp T.b_l_which .nil pass0 (pa_cons (pv 0) (pa_cons (pv 4) pa_nil))) (pv 3)))))))))), ?_⟩
    refine ⟨⟨_, rfl⟩, _, rfl, j, 8, rfl, hj, by decide, by decide, fun H1 v k1 j1 v0 v1 => ⟨_, _, rfl, rfl, 1 + v, rfl, by omega, by omega, fun D nD => ?_⟩⟩
    refine lc_draw Lt nD (by omega) j1 ?_ ?_
    · intro i H2 N1 N0 hi k2 j2 n1
      exact ⟨rfl, _, rfl, j, rfl, j2, fun H3 c k3 j3 c1 c2 => n1 H3 _ k3 j3 ⟨c, rfl, c1, c2⟩⟩
    intro H2 ys k2 j2 eD ly all
    obtain ⟨cs, ecs, gcs⟩ := lts_of all
    rw [ecs] at eD
    have lcs : cs.length ≤ 8 := by
      have := congrArg List.length ecs
      rw [List.length_map, List.length_map] at this
      omega
    have lb : low 8 ⟨cs.toArray⟩ := low_ones lcs gcs
    refine ⟨"", D, cs.map one, rfl, rfl, .inl (sq_new eD), by rw [ones_sum, List.length_map]; show cs.length + cs.length * 0 ≤ 16777216; omega, ?_⟩
    rw [join_ones]
    generalize hb : (⟨cs.toArray⟩ : Str) = body at lb
    have pb := lb.plain
    have k12 := k1.trans k2
    refine ⟨_, rfl, _, _, rfl, rfl, _, rfl, ?_⟩
    refine ite2 (fun e1 => ?_) (fun e1 => ?_)
    · refine ite2 (fun _ => ?_) (fun e => absurd rfl e)
      exact ⟨_, rfl, q _ _ _ k12 j2 (sw_txt pb (by decide))⟩
    refine ⟨_, rfl, rfl, _, rfl, ite2 (fun e => ?_) (fun e13 => ?_)⟩
    · exact ⟨_, rfl, q _ _ _ k12 j2 (sw_txt pb (by decide))⟩
    refine ⟨_, rfl, _, _, rfl, rfl, pow20, j, _, rfl, j2, by decide, by decide, fun H3 n k3 j3 n0 n1 => ?_⟩
    have n2 : n < 10 ^ 20 := n1
    have na : n.natAbs < 10 ^ 20 := by omega
    have k13 := k12.trans k3
    refine ⟨_, rfl, rfl, _, rfl, ite2 (fun e => ?_) (fun e6 => ?_)⟩
    · refine ⟨_, rfl, _, rfl, _, _, rfl, rfl, ?_, (by show 2 ≤ sizeLine; decide), fun p np => ?_⟩
      · have h1 := pb.1
        have h2 : ("x" : Str).length ≤ 100 := tx.1
        exact Nat.le_trans (show _ ≤ 8 + 100 by omega) (by decide)
      obtain ⟨H4, e4, s4, a4, k4, j4, _, _⟩ := growP (o := .tup [.str body, .str (body ++ "x")]) k13 j3 np
      rw [← e4]
      have pc : plainT 100 (body ++ "x") := (pb.cat (show plainT 10 "x" from asc_of (by decide +kernel) (by decide +kernel))).mono (by decide)
      refine q _ _ _ k4 j4 (sw_dat (d := .tuple [.str body, .str (body ++ "x")]) (.tup a4 (by show 2 ≤ 50; decide) (.cons (da_txt pb (by decide)) (.cons (da_txt pc (by decide)) .nil))) ?_ ?_ ?_ ?_ ?_)
      · simp [PyData.showable, PyData.showableAll]
      · simp [PyData.hasDict, PyData.hasDictAll]
      · simp [PyData.depth, PyData.depthAll]
      · simp only [PyData.leavesShort, PyData.leavesShortAll, Bool.and_true, Bool.and_eq_true]
        exact ⟨by simpa only [PyData.leavesShort] using short_txt pb, by simpa only [PyData.leavesShort] using short_txt pc⟩
      · have w1 := w_txt pb
        have w2 := w_txt pc
        simp only [PyData.weight, PyData.weightAll] at w1 w2 ⊢
        omega
    refine ⟨_, rfl, rfl, _, rfl, ite2 (fun e => ?_) (fun e12 => ?_)⟩
    · refine ⟨_, rfl, (by show 2 ≤ sizeLine; decide), fun p np => ?_⟩
      obtain ⟨H4, e4, s4, a4, k4, j4, _, _⟩ := growP (o := .tup [.str body, .str "b"]) k13 j3 np
      rw [← e4]
      refine ⟨_, rfl, (by show 2 ≤ sizeLine; decide), fun r nr => ?_⟩
      obtain ⟨H5, e5, s5, a5, k5, j5, _, _⟩ := growP (o := .tup [.ref p, .int n]) k4 j4 nr
      rw [← e5]
      refine q _ _ _ k5 j5 (sw_dat (d := .tuple [.tuple [.str body, .str "b"], .int n]) (.tup a5 (by show 2 ≤ 50; decide) (.cons (.tup (s5 _ _ a4) (by show 2 ≤ 50; decide) (.cons (da_txt pb (by decide)) (.cons (da_txt tb (by decide)) .nil))) (.cons (.int n) .nil))) ?_ ?_ ?_ ?_ ?_)
      · have h1 := (int20 na).1
        simp only [PyData.showable, PyData.showableAll, Bool.and_true, Bool.true_and] at h1 ⊢
        exact h1
      · simp [PyData.hasDict, PyData.hasDictAll]
      · simp [PyData.depth, PyData.depthAll]
      · have h1 := (int20 na).2.1
        have h2 := short_txt pb
        have h3 := short_txt tb
        simp only [PyData.leavesShort, PyData.leavesShortAll, Bool.and_true, Bool.and_eq_true] at h1 h2 h3 ⊢
        exact ⟨⟨h2, h3⟩, h1⟩
      · have w1 := w_txt pb
        have w2 := w_txt tb
        have w3 := (int20 na).2.2
        simp only [PyData.weight, PyData.weightAll] at w1 w2 w3 ⊢
        omega
    refine ⟨_, rfl, _, rfl, _, _, rfl, rfl, (by show 0 ≤ sizeLine; decide), fun p1 m1 => ?_⟩
    obtain ⟨H4, e4, s4, a1, k4, j4, _, _⟩ := growP (o := .tup []) k13 j3 m1
    rw [← e4]
    refine ⟨(by show 2 ≤ sizeLine; decide), fun p2 m2 => ?_⟩
    obtain ⟨H5, e5, s5, a2, k5, j5, _, _⟩ := growP (o := .tup [.int 0, .str "a"]) k4 j4 m2
    rw [← e5]
    refine ⟨(by show 1 ≤ sizeLine; decide), fun p3 m3 => ?_⟩
    obtain ⟨H6, e6', s6, a3, k6, j6, _, _⟩ := growP (o := .lst [.str "a"]) k5 j5 m3
    rw [← e6']
    refine fun p4 m4 => ?_
    obtain ⟨H7, e7, s7, a4, k7, j7, _, _⟩ := growP (o := .dK []) k6 j6 m4
    rw [← e7]
    refine ⟨(by show 9 ≤ sizeLine; decide), fun L m5 => ?_⟩
    obtain ⟨H8, e8, s8, a5, k8, j8, jL, _⟩ := growP (o := .lst [.int n, .int (0 - n), .bl true, .non, .str "x", .ref p1, .ref p2, .ref p3, .ref p4]) k7 j7 m5
    rw [← e8]
    refine ⟨_, rfl, (by show 2 ≤ sizeLine; decide), fun t m6 => ?_⟩
    obtain ⟨H9, e9, s9, a6, k9, j9, _, _⟩ := growP (o := .tup [.int 8, .int 9]) k8 j8 m6
    rw [← e9]
    refine ⟨t, _, rfl, .inr (.inl (.inl ((unpart a6).1))), rfl, rfl, _, rfl, ite2 (fun e => ?_) (fun e => ?_)⟩
    · refine ⟨_, rfl, _, rfl, j, L, _, rfl, j9, (unpart (s9 _ _ a5)).1, Ne.symm jL, (by show 0 < 9; decide), (by show 9 ≤ 100000; decide), fun H' v k10 j10 m => ?_⟩
      have s10 := partS (H := H) k10
      have b1 := s10 _ _ (s9 _ _ (s8 _ _ (s7 _ _ (s6 _ _ (s5 _ _ a1)))))
      have b2 := s10 _ _ (s9 _ _ (s8 _ _ (s7 _ _ (s6 _ _ a2))))
      have b3 := s10 _ _ (s9 _ _ (s8 _ _ (s7 _ _ a3)))
      have b4 := s10 _ _ (s9 _ _ (s8 _ _ a4))
      have k11 := k9.trans k10
      simp only [List.mem_cons, List.not_mem_nil, or_false] at m
      rcases m with rfl | rfl | rfl | rfl | rfl | rfl | rfl | rfl | rfl
      · exact q _ _ _ k11 j10 (sw_int na)
      · exact q _ _ _ k11 j10 (sw_int (by omega))
      · exact q _ _ _ k11 j10 (.bl true)
      · exact q _ _ _ k11 j10 .non
      · exact q _ _ _ k11 j10 (sw_txt tx (by decide))
      · exact q _ _ _ k11 j10 (sw_dat (d := .tuple []) (.tup b1 (by decide) .nil) (by decide +kernel) (by decide +kernel) (by decide +kernel) (by decide +kernel) (by decide +kernel))
      · exact q _ _ _ k11 j10 (sw_dat (d := .tuple [.int 0, .str "a"]) (.tup b2 (by decide) (.cons (.int 0) (.cons (da_txt ta (by decide)) .nil))) (by decide +kernel) (by decide +kernel) (by decide +kernel) (by decide +kernel) (by decide +kernel))
      · exact q _ _ _ k11 j10 (sw_dat (d := .list [.str "a"]) (.lst b3 (.cons (da_txt ta (by decide)) .nil)) (by decide +kernel) (by decide +kernel) (by decide +kernel) (by decide +kernel) (by decide +kernel))
      · exact q _ _ _ k11 j10 (.emp b4)
    · exact ⟨_, rfl, q _ _ _ k9 j9 (sw_int na)⟩
end
/-! C14 -/
open PySem PySem.Spec PyProof.Rows L2 Gd Gx

/-- a row of the record: the lot, the value, the error made of it -/
def Row (cs : Nat → Addr) (H : Hp) (x : V) : Prop := ∃ (p e : Addr) (k : Nat) (y : V) (z : Str), x = .ref p ∧ k < 14 ∧ H p = some (.tup [.int (k : Int), y, .ref e]) ∧ Sw H y z ∧ Er H e (cs k) (fy k y)
theorem Row.mono {cs : Nat → Addr} {H H' : Hp} {x : V} (s : Same H H') (h : Row cs H x) : Row cs H' x := by
  obtain ⟨p, e, k, y, z, rfl, hk, hp, sw, er⟩ := h
  exact ⟨p, e, k, y, z, rfl, hk, s _ _ hp, sw.mono s, er.mono s⟩
theorem rowOf_mem : ∀ {n k : Nat} {y : V}, y ∈ rowOf k n → ∃ i : Nat, k ≤ i ∧ i < k + n ∧ y = .int (i : Int)
  | 0, _, _, m => by cases m
  | n + 1, k, y, m => by
    rcases List.mem_cons.mp m with m | m
    · exact ⟨k, Nat.le_refl _, by omega, m⟩
    · obtain ⟨i, h1, h2, h3⟩ := rowOf_mem m
      exact ⟨i, by omega, by omega, h3⟩
theorem lots_mem {y : V} (m : y ∈ (List.replicate (2 : Int).toNat (rowOf 0 14)).flatten) : ∃ k : Nat, k < 14 ∧ y = .int (k : Int) := by
  obtain ⟨l, hl, hy⟩ := List.mem_flatten.mp m
  rw [(List.mem_replicate.mp hl).2] at hy
  obtain ⟨i, _, h2, h3⟩ := rowOf_mem hy
  exact ⟨i, by omega, h3⟩
theorem lots_len : (List.replicate (2 : Int).toNat (rowOf 0 14)).flatten.length = 28 := by decide
def twoD (k : Nat) : PyData := .list [.list ((clsL k).map .bool), .list ((basL k).map .bool)]
theorem two_ok {k : Nat} (hk : k < 14) : (twoD k).showable = true ∧ (twoD k).hasDict = false ∧ (twoD k).depth ≤ 40 ∧ (twoD k).shown.length ≤ sizeLine := by
  rcases to14 hk with rfl | rfl | rfl | rfl | rfl | rfl | rfl | rfl | rfl | rfl | rfl | rfl | rfl | rfl <;> exact ⟨by decide +kernel, by decide +kernel, by decide +kernel, by decide +kernel⟩
theorem dp_bools {K : PySem.W.Frag} {H : Hp} : ∀ l : List Bool, DpAll K H (l.map V.bl) (l.map PyData.bool)
  | [] => .nil
  | b :: l => .cons (.bl b) (dp_bools l)
theorem sv_two {K : PySem.W.Frag} {H : Hp} {R a b : Addr} {k : Nat} (hk : k < 14) (hR : H R = some (.lst [.ref a, .ref b])) (ha : H a = some (.lst ((clsL k).map V.bl))) (hb : H b = some (.lst ((basL k).map V.bl))) : Sv K H (.ref R) (twoD k).shown := by
  obtain ⟨h1, h2, h3, h4⟩ := two_ok hk
  exact .dat (.lst (sq_new hR) (.cons (.lst (sq_new ha) (dp_bools _)) (.cons (.lst (sq_new hb) (dp_bools _)) .nil))) h1 h2 h3 h4
theorem er_hd2 {F j e C : Addr} {H : Hp} {fv : Option (Str × V)} {zs l : List V} (er : Er H e C fv) (hF : H F = some (.lst zs)) (hj : H j = some (.lst l)) : Er (hd2 F j H) e C fv := by
  have ne1 : ∀ {a b c : Addr} {d : Option Addr} {w : List V}, H a = some (exo b c d) → H F = some (.lst w) → a ≠ F := fun {a b c d w} h1 h2 z => by
    have z2 : HO.lst w = HO.ext _ := Option.some.inj (h2.symm.trans (z ▸ h1))
    cases z2
  have ne2 : ∀ {a b c : Addr} {d : Option Addr} {w : List V}, H a = some (exo b c d) → H j = some (.lst w) → a ≠ j := fun {a b c d w} h1 h2 z => by
    have z2 : HO.lst w = HO.ext _ := Option.some.inj (h2.symm.trans (z ▸ h1))
    cases z2
  have ne3 : ∀ {a b : Addr} {fs : List (Str × V)} {w : List V}, H a = some (exd b fs) → H F = some (.lst w) → a ≠ F := fun {a b fs w} h1 h2 z => by
    have z2 : HO.lst w = HO.ext _ := Option.some.inj (h2.symm.trans (z ▸ h1))
    cases z2
  have ne4 : ∀ {a b : Addr} {fs : List (Str × V)} {w : List V}, H a = some (exd b fs) → H j = some (.lst w) → a ≠ j := fun {a b fs w} h1 h2 z => by
    have z2 : HO.lst w = HO.ext _ := Option.some.inj (h2.symm.trans (z ▸ h1))
    cases z2
  cases er with
  | bare h => exact .bare (hd2_in h (ne1 h hF) (ne2 h hj))
  | full h hd => exact .full (hd2_in h (ne1 h hF) (ne2 h hj)) (hd2_in hd (ne3 hd hF) (ne4 hd hj))
def spCell : Sp := fun vs H Q _ => ∃ (j : Addr), vs = [.ref j] ∧ Jar H j ∧ ∀ H', Keep j H H' → Q (.bl true) H'
section
variable {P : Program} {w : World} {K : PySem.W.Frag} {mg : Str → Option Value} {base : Heap}
theorem ok_cell (T : Tx K mg) : FnG P w K mg base CX0 5 T.a_l_cell_right T.d_l_cell_right ["jar"] spCell := by
  have G_l_mixed : FnOk P w K mg base CX0 2 T.a_l_mixed T.d_l_mixed ["jar", "items"] spMixed := ok_mixed T
  have G_l_worth : FnOk P w K mg base CX0 3 T.a_l_worth T.d_l_worth ["jar", "lot"] spWorth := ok_worth T
  have G_l_made_one : FnOk P w K mg base CX0 3 T.a_l_made_one T.d_l_made_one ["lot", "value"] (spMade T.cs) := ok_made T
  have G_l_caught : FnOk P w K mg base CX0 4 T.a_l_caught T.d_l_caught ["lot", "value"] spCaught := ok_caught T
  have G_l_is_caught_by_base : FnOk P w K mg base CX0 4 T.a_l_is_caught_by_base T.d_l_is_caught_by_base ["lot", "value"] spBase := ok_by_base T
  have G_l_classes : FnOk P w K mg base CX0 1 T.a_l_classes T.d_l_classes ["error"] (spBools T.cs clsL) := ok_classes T
  have G_l_bases : FnOk P w K mg base CX0 1 T.a_l_bases T.d_l_bases ["error"] (spBools T.cs basL) := ok_bases T
  have G_l_due : FnOk P w K mg base CX0 1 T.a_l_due T.d_l_due ["lot"] spDue := ok_due T
  have G_l_is_kept : FnG P w K mg base CX0 4 T.a_l_is_kept T.d_l_is_kept ["lot", "error", "value"] (spKept K T.cs) := ok_kept T
  refine okG T.F_l_cell_right sc_l_cell_right (fun vs H Q E h => ?_) (fun cdv A outer s H vs Q E gd hr h => ?_)
  · obtain ⟨j, rfl, _⟩ := h
    rfl
  · obtain ⟨j, rfl, hj, q⟩ := h
    refine ⟨_, (pss_cons (ps_set (i := 1) sc_l_cell_right.nd rfl (Or.inl rfl) (pe_lst pa_nil))
      (pss_cons (ps_for PassesOwn.never rfl (pi_list (pe_call G_l_mixed (hr.mono (by decide)) (by rfl) T.g_l_mixed T.F_l_mixed.kp T.b_l_mixed .nil pass0 (pa_cons (pv 0) (pa_cons (pe_op op_rep (pe_callTy (Gx.call_rng14 rfl) (by rfl) T.n_list (by decide +kernel) (pa_cons (pe_callTy Gx.cr_rng1 (by rfl) T.n_range (by decide +kernel) (pa_cons pe_int pa_nil)) pa_nil)) pe_int) pa_nil)))) (pg_name (i := 2) sc_l_cell_right.nd rfl (Or.inl rfl))
      (pss_cons (ps_set (i := 3) sc_l_cell_right.nd rfl (Or.inl rfl) (pe_call G_l_worth (hr.mono (by decide)) (by rfl) T.g_l_worth T.F_l_worth.kp T.b_l_worth .nil pass0 (pa_cons (pv 0) (pa_cons (pv 2) pa_nil))))
      (pss_cons (ps_expr (pe_bmK K PySem.F.plainAttrs_list PySem.F.slot_list_append PySem.F.type_list_append mt_append (pv 1) (pa_cons (pe_tup (pa_cons (pv 2) (pa_cons (pv 3) (pa_cons (pe_call G_l_made_one (hr.mono (by decide)) (by rfl) T.g_l_made_one T.F_l_made_one.kp T.b_l_made_one .nil pass0 (pa_cons (pv 2) (pa_cons (pv 3) pa_nil))) pa_nil)))) pa_nil)))
      (pss_one (ps_if (PW.pt (pw_or (pt_cmpR op_ne (pe_call G_l_caught (hr.mono (by decide)) (by rfl) T.g_l_caught T.F_l_caught.kp T.b_l_caught .nil pass0 (pa_cons (pv 2) (pa_cons (pv 3) pa_nil))) (pv 2) (nomark _)) (pw_or1 (pt_not (pt_val (pe_call G_l_is_caught_by_base (hr.mono (by decide)) (by rfl) T.g_l_is_caught_by_base T.F_l_is_caught_by_base.kp T.b_l_is_caught_by_base .nil pass0 (pa_cons (pv 2) (pa_cons (pv 3) pa_nil))))))))
      (pss_one (ps_ret pe_bl))
      pss_nil)))))
      (pss_cons (ps_for PassesOwn.never rfl (pi_list (pv 1)) (pg_tupK K 3 rfl (pgs_cons (pg_name (i := 2) sc_l_cell_right.nd rfl (Or.inl rfl)) (pgs_cons (pg_name (i := 3) sc_l_cell_right.nd rfl (Or.inl rfl)) (pgs_cons (pg_name (i := 4) sc_l_cell_right.nd rfl (Or.inl rfl)) pgs_nil))))
      (pss_one (ps_if (PW.pt (pw_or (pt_cmpR op_ne (pe_callB (Gx.call_sv K gd hr.units) (by rfl) T.n_repr (by decide +kernel) (pa_cons (pe_lst (pa_cons (pe_call G_l_classes (hr.mono (by decide)) (by rfl) T.g_l_classes T.F_l_classes.kp T.b_l_classes .nil pass0 (pa_cons (pv 4) pa_nil)) (pa_cons (pe_call G_l_bases (hr.mono (by decide)) (by rfl) T.g_l_bases T.F_l_bases.kp T.b_l_bases .nil pass0 (pa_cons (pv 4) pa_nil)) pa_nil))) pa_nil)) (pe_callB (Gx.call_sv K gd hr.units) (by rfl) T.n_repr (by decide +kernel) (pa_cons (pe_call G_l_due (hr.mono (by decide)) (by rfl) T.g_l_due T.F_l_due.kp T.b_l_due .nil pass0 (pa_cons (pv 2) pa_nil)) pa_nil)) (nomark _)) (pw_or1 (pt_not (pt_val (pe_callG G_l_is_kept gd (hr.mono (by decide)) (by rfl) T.g_l_is_kept T.F_l_is_kept.kp T.b_l_is_kept .nil pass0 (pa_cons (pv 2) (pa_cons (pv 4) (pa_cons (pv 3) pa_nil)))))))))
      (pss_one (ps_ret pe_bl))
      pss_nil)))
      (pss_one (ps_ret pe_bl))))), ?_⟩
    refine ⟨(by show 0 ≤ sizeLine; decide), fun F nF => ?_⟩
    have jF := hj.ne nF
    have j1 : Jar (upd H F (.lst [])) j := hj.upd jF
    have k1 : Keep j H (upd H F (.lst [])) := (Keep.refl j H).new nF _
    have aF : (upd H F (.lst [])) F = some (.lst []) := upd_same
    generalize upd H F (.lst []) = H1 at j1 k1 aF
    refine ⟨_, rfl, 14, rfl, fun p0 n0 => ⟨p0, rfl, upd_same, fun L1 n1 => ?_⟩⟩
    have j2 := (j1.upd (o := .rng 0 14) (j1.ne n0))
    have k2 := k1.new n0 (.rng 0 14)
    have aF2 := same_new (o := .rng 0 14) n0 _ _ aF
    generalize upd H1 p0 (.rng 0 14) = H2 at j2 k2 aF2 n1
    have j3 := (j2.upd (o := .lst (rowOf 0 14)) (j2.ne n1))
    have k3 := k2.new n1 (.lst (rowOf 0 14))
    have aF3 := same_new (o := .lst (rowOf 0 14)) n1 _ _ aF2
    have aL3 : (upd H2 L1 (.lst (rowOf 0 14))) L1 = some (.lst (rowOf 0 14)) := upd_same
    generalize upd H2 L1 (.lst (rowOf 0 14)) = H3 at j3 k3 aF3 aL3
    refine ⟨L1, 2, _, rfl, rfl, aL3, by decide, by decide, by decide, fun L2 n2 => ?_⟩
    have jL2 := j3.ne n2
    have j4 := (j3.upd (o := .lst (List.replicate (2 : Int).toNat (rowOf 0 14)).flatten) jL2)
    have k4 := k3.new n2 (.lst (List.replicate (2 : Int).toNat (rowOf 0 14)).flatten)
    have aF4 := same_new (o := .lst (List.replicate (2 : Int).toNat (rowOf 0 14)).flatten) n2 _ _ aF3
    have aL4 : (upd H3 L2 (.lst (List.replicate (2 : Int).toNat (rowOf 0 14)).flatten)) L2 = some (.lst (List.replicate (2 : Int).toNat (rowOf 0 14)).flatten) := upd_same
    generalize upd H3 L2 (.lst (List.replicate (2 : Int).toNat (rowOf 0 14)).flatten) = H4 at j4 k4 aF4 aL4
    refine ⟨j, L2, _, rfl, j4, aL4, Ne.symm jL2, (by rw [lots_len]; decide), fun H5 r ys k5 j5 nr ar pm => ?_⟩
    have k05 := k4.trans k5
    have aF5 := k5 _ _ aF4 jF.symm
    have Fr : F ≠ r := ne_of_none aF4 nr
    have jr : j ≠ r := j4.ne nr
    have lots : ∀ y ∈ ys, ∃ k : Nat, k < 14 ∧ y = .int (k : Int) := fun y m => lots_mem (pm.mem_iff.mp m)
    have len28 : ys.length = 28 := by rw [pm.length_eq, lots_len]
    refine ⟨r, rfl, ⟨_, sq_new ar⟩, ?_⟩
    refine for_it (walk_lstV (xs := ys)) (fun i σ H8 => ∃ (t2 t3 : Option V) (zs : List V), σ = [some (.ref j), some (.ref F), t2, t3, none] ∧ Keep j H H8 ∧ Jar H8 j ∧ H8 r = some (.lst ys) ∧ H8 F = some (.lst zs) ∧ zs.length = i ∧ ∀ x ∈ zs, Row T.cs (hd2 F j H8) x) ?_ ?_ ?_ ?_
    · exact ⟨none, none, [], rfl, k05, j5, ar, aF5, rfl, fun x m => by cases m⟩
    · rintro i σ H8 _ ⟨_, _, _, _, _, _, g8, _⟩
      exact sq_new g8
    · rintro i x σ H8 H9 hi ⟨t2, t3, zs, rfl, k8, j8, r8, f8, l8, rows⟩ ⟨s9, ex⟩
      obtain ⟨k, hk, rfl⟩ := lots x (List.mem_of_getElem? ex)
      have k9 : Keep j H8 H9 := fun b o e _ => s9 b o e
      have j9 : Jar H9 j := by
        obtain ⟨a, b, c, e, rr⟩ := j8
        exact ⟨a, b, c, s9 _ _ e, rr⟩
      refine ⟨_, rfl, _, rfl, j, k, rfl, j9, hk, fun G1 y z g1 jg1 sw => ?_⟩
      have f9 : H9 F = some (.lst zs) := s9 _ _ f8
      have f10 : G1 F = some (.lst zs) := g1 _ _ f9 jF.symm
      have sw1 : Sw (hd2 F j G1) y z := sw.mono (part_hd2 (by rw [f9]; exact fun z => by cases z))
      refine ⟨_, rfl, .inl ⟨rfl, _, sq_new f10⟩, _, rfl, _, rfl, _, rfl, _, rfl, k, y, rfl, hk, fun G2 e g2 ne er => ?_⟩
      refine ⟨(by show 3 ≤ sizeLine; decide), fun p np => ?_⟩
      obtain ⟨G3, e3, g3, ap⟩ := grow0 (o := .tup [.int (k : Int), y, .ref e]) np
      rw [← e3]
      have f12 : G3 F = some (.lst zs) := g3 _ _ (g2 _ _ f10)
      refine ⟨F, zs, _, rfl, rfl, f12, Nat.lt_of_lt_of_le (show zs.length < 1000 by omega) (by decide), ?_⟩
      obtain ⟨ja, jb, jc, je, jrr⟩ := jg1
      have je3 : G3 j = some (jarL ja jb jc) := g3 _ _ (g2 _ _ je)
      have pF : p ≠ F := fun z => by rw [z, f12] at ap; cases ap
      have pj : p ≠ j := fun z => by
        rw [z, je3] at ap
        have z2 : HO.lst _ = HO.tup _ := Option.some.inj ap
        cases z2
      have st3 : ∀ b o, G3 b = some o → b ≠ F → (upd G3 F (.lst (zs ++ [.ref p]))) b = some o := fun b o e n => (upd_ne n).trans e
      have f4 : (upd G3 F (.lst (zs ++ [.ref p]))) F = some (.lst (zs ++ [.ref p])) := upd_same
      generalize upd G3 F (.lst (zs ++ [.ref p])) = G4 at st3 f4
      refine ⟨_, rfl, _, rfl, k, y, rfl, hk, fun G5 g5 => ⟨_, rfl, rfl, _, rfl, ite2 (fun e1 => ?_) (fun _ => ?_)⟩⟩
      · rw [decide_eq_true rfl] at e1
        cases e1
      refine ⟨_, rfl, _, rfl, k, y, rfl, hk, fun G6 g6 => ⟨_, rfl, ite2 (fun e1 => by cases e1) (fun _ => ?_)⟩⟩
      have st6 : ∀ b o, G3 b = some o → b ≠ F → G6 b = some o := fun b o e n => g6 _ _ (g5 _ _ (st3 b o e n))
      have st1 : ∀ b o, G1 b = some o → b ≠ F → G6 b = some o := fun b o e n => st6 b o (g3 _ _ (g2 _ _ e)) n
      have st8 : ∀ b o, H8 b = some o → b ≠ F → b ≠ j → G6 b = some o := fun b o e n m => st1 b o (g1 _ _ (s9 _ _ e) m) n
      refine ⟨_, _, zs ++ [.ref p], rfl, ?_, ?_, st8 _ _ r8 Fr.symm jr.symm, g6 _ _ (g5 _ _ f4), by rw [List.length_append, l8]; rfl, ?_⟩
      · exact fun b o e n => st8 b o (k8 b o e n) (ne_of_none e nF) n
      · exact ⟨ja, jb, jc, st1 _ _ je jF, jrr⟩
      · intro x m
        rcases List.mem_append.mp m with m | m
        · exact (rows x m).mono (hd2_step st8)
        · rw [List.mem_singleton.mp m]
          have er6 : Er (hd2 F j G6) e (T.cs k) (fy k y) := (er_hd2 er (g2 _ _ f10) (g2 _ _ je)).mono (hd2_step fun b o e n _ => st6 b o (g3 _ _ e) n)
          exact ⟨p, e, k, y, z, rfl, hk, hd2_in (st6 _ _ ap pF) pF pj, sw1.mono (hd2_step fun b o e n _ => st1 b o e n), er6⟩
    · rintro σ H8 ⟨t2, t3, zs, rfl, k8, j8, r8, f8, l8, rows⟩
      refine ⟨_, rfl, F, rfl, ⟨_, sq_new f8⟩, ?_⟩
      have rows8 : ∀ x ∈ zs, Row T.cs H8 x := fun x m => (rows x m).mono hd2_le
      refine for_it (walk_lstV (xs := zs)) (fun i σ H9 => ∃ (t2 t3 t4 : Option V), σ = [some (.ref j), some (.ref F), t2, t3, t4] ∧ Same H8 H9) ?_ ?_ ?_ ?_
      · exact ⟨_, _, _, rfl, Same.refl _⟩
      · rintro i σ H9 _ ⟨_, _, _, _, s9⟩
        exact sq_new (s9 _ _ f8)
      · rintro i x σ H9 G0 hi ⟨t2, t3, t4, rfl, s9⟩ ⟨s10, ex⟩
        obtain ⟨p, e, k, y, z, rfl, hk, hp, sw, er⟩ := (rows8 x (List.mem_of_getElem? ex)).mono (s9.trans s10)
        refine ⟨p, _, rfl, .inl (.inl hp), rfl, ?_⟩
        refine ⟨_, _, rfl, _, _, rfl, _, _, rfl, rfl, ?_⟩
        refine ⟨_, rfl, e, k, _, rfl, hk, er, fun A1 R1 a1 b1 => ⟨_, rfl, e, k, _, rfl, hk, er.mono a1, fun A2 R2 a2 b2 => ⟨(by show 2 ≤ sizeLine; decide), fun R3 n3 => ?_⟩⟩⟩
        obtain ⟨A3, e3, a3, b3⟩ := grow0 (o := .lst [.ref R1, .ref R2]) n3
        rw [← e3]
        refine ⟨.ref R3, _, rfl, sv_two hk b3 (a3 _ _ (a2 _ _ b1)) (a3 _ _ b2), _, rfl, k, rfl, hk, fun A4 R4 x1 x2 a4 y1 y2 y3 => ⟨.ref R4, _, rfl, sv_two hk y1 y2 y3, rfl, _, rfl, ite2 (fun e1 => ?_) (fun _ => ?_)⟩⟩
        · rw [decide_eq_true rfl] at e1
          cases e1
        have t4 := ((a1.trans a2).trans a3).trans a4
        refine ⟨_, rfl, _, rfl, _, rfl, k, e, y, z, rfl, hk, er.mono t4, (sw.mono t4).sv, _, rfl, ite2 (fun e1 => by cases e1) (fun _ => ?_)⟩
        exact ⟨_, _, _, rfl, (s9.trans s10).trans t4⟩
      · rintro σ H9 ⟨t2, t3, t4, rfl, s9⟩
        refine q _ ?_
        exact fun b o e n => s9 _ _ (k8 b o e n)
end
/-! C15 -/
open PySem PySem.Spec PyProof.Rows L2 Gd Gx

def spLaw (K : PySem.W.Frag) : Sp := fun vs H Q _ => ∃ (a : Addr) (ns : List Int), vs = [.ref a] ∧ SqL K H a (ns.map V.int) ∧ ns.length ≤ 63 ∧ ∀ H', Q (.bl true) H'
section
variable {P : Program} {w : World} {K : PySem.W.Frag} {mg : Str → Option Value} {base : Heap}
theorem ok_law (T : Tx K mg) : FnG P w K mg base CX0 6 T.a_law T.d_law ["script"] (spLaw K) := by
  have G_l_jar : FnOk P w K mg base CX0 1 T.a_l_jar T.d_l_jar ["script", "at"] (spJar K) := ok_jar T
  have G_l_cell_right : FnG P w K mg base CX0 5 T.a_l_cell_right T.d_l_cell_right ["jar"] spCell := ok_cell T
  refine okG T.F_law sc_law (fun vs H Q E h => ?_) (fun cdv A outer s H vs Q E gd hr h => ?_)
  · obtain ⟨a, ns, rfl, _⟩ := h
    rfl
  · obtain ⟨a, ns, rfl, hS, hl, q⟩ := h
    refine ⟨_, (pss_cons (ps_for PassesOwn.never rfl (pi_range1 (by rfl) T.n_range (pa_cons (pe_callB (call_max2 rfl) (by rfl) T.n_max (by decide +kernel) (pa_cons pe_int (pa_cons (pe_callB (call_min2 rfl) (by rfl) T.n_min (by decide +kernel) (pa_cons pe_int (pa_cons (pe_callB (call_lenK K) (by rfl) T.n_len (by decide +kernel) (pa_cons (pv 0) pa_nil)) pa_nil))) pa_nil))) pa_nil)) (pg_name (i := 1) sc_law.nd rfl (Or.inl rfl))
      (pss_one (ps_if (pt_not (pt_val (pe_callG G_l_cell_right gd (hr.mono (by decide)) (by rfl) T.g_l_cell_right T.F_l_cell_right.kp T.b_l_cell_right .nil pass0 (pa_cons (pe_call G_l_jar (hr.mono (by decide)) (by rfl) T.g_l_jar T.F_l_jar.kp T.b_l_jar .nil pass0 (pa_cons (pv 0) (pa_cons (pv 1) pa_nil))) pa_nil))))
      (pss_one (ps_ret pe_bl))
      pss_nil)))
      (pss_one (ps_ret pe_bl))), ?_⟩
    have hm : (ns.map V.int).length ≤ 63 := by rw [List.length_map]; exact hl
    generalize hN : (if (if ((ns.map V.int).length : Int) < 6 then ((ns.map V.int).length : Int) else 6) > 1 then (if ((ns.map V.int).length : Int) < 6 then ((ns.map V.int).length : Int) else 6) else (1 : Int)) = N
    have n0 : 0 ≤ N := by rw [← hN]; split <;> split <;> omega
    have n1 : N ≤ 6 := by rw [← hN]; split <;> split <;> omega
    refine ⟨_, rfl, a, ns.map V.int, rfl, .inl hS, _, _, rfl, _, _, rfl, N, by rw [← hN], by omega, by omega, ?_⟩
    have go : ∀ n : Nat, n ≤ 6 → tFor (fun σ H R => R (Itr 0 n) H) (gName 1)
          (tIfS (tNot (tB (tCall spCell [] E (tCons (tCall (spJar K) [] E (tCons (tVar 0) (tCons (tVar 1) tNil))) tNil)))) (tRet (tC (.bl false)))
            tNext) { nx := fun σ' H' => tRet (tC (.bl true)) { nx := fun _ H' => Q .non H', rt := Q } σ' H', rt := Q } (start ["script", "at"] [.ref a]) H := by
      intro n n6
      refine for_range (lo := 0) (n := n) (fun _ σ H8 => ∃ (t : Option V), σ = [some (.ref a), t] ∧ Same H H8) ?_ ?_ ?_
      · exact ⟨_, rfl, Same.refl _⟩
      · rintro t σ G0 lt ⟨t1, rfl, g0⟩
        have bt : (0 : Int) ≤ 0 + (t : Int) ∧ 0 + (t : Int) ≤ 1000000 := by omega
        refine ⟨_, rfl, _, rfl, a, _, ns, rfl, g0.seq hS, bt.1, bt.2, fun H9 p s9 np jp => ⟨p, rfl, jp, fun H10 k10 => ?_⟩⟩
        refine ⟨_, rfl, ite2 (fun e => by cases e) (fun e => ?_)⟩
        refine ⟨_, rfl, fun b o e => ?_⟩
        have e1 := g0 _ _ e
        exact k10 _ _ (s9 _ _ e1) (ne_of_none e1 np)
      · rintro σ H8 ⟨t, rfl, g8⟩
        exact q _
    exact go _ (by omega)
end
end W1
/-! C16 -/
set_option Elab.async false
set_option linter.all false
set_option maxRecDepth 100000
set_option maxHeartbeats 4000000
namespace W1
open PySem PySem.Spec PyProof.Rows L2 Gd Gx
theorem mk_T {K : PySem.W.Frag} {h : Heap} {mg : Str → Option Value} {fa : Addr} (X : K.In h) (G : h.Ns mainGlobals mg) (hfa : mg "law" = some (.ref fa))
    {f0 : Addr} {oc0 kV0 dc0 pm0 cd0 ct0 : Value} {od0 an0 : Option Addr} {sl0 : Array (Option Value)}
    {f1 : Addr} {oc1 kV1 dc1 pm1 cd1 ct1 : Value} {od1 an1 : Option Addr} {sl1 : Array (Option Value)}
    {f2 : Addr} {oc2 kV2 dc2 pm2 cd2 ct2 : Value} {od2 an2 : Option Addr} {sl2 : Array (Option Value)}
    {f3 : Addr} {oc3 kV3 dc3 pm3 cd3 ct3 : Value} {od3 an3 : Option Addr} {sl3 : Array (Option Value)}
    {f4 : Addr} {oc4 kV4 dc4 pm4 cd4 ct4 : Value} {od4 an4 : Option Addr} {sl4 : Array (Option Value)}
    {f5 : Addr} {oc5 kV5 dc5 pm5 cd5 ct5 : Value} {od5 an5 : Option Addr} {sl5 : Array (Option Value)}
    {f6 : Addr} {oc6 kV6 dc6 pm6 cd6 ct6 : Value} {od6 an6 : Option Addr} {sl6 : Array (Option Value)}
    {f7 : Addr} {oc7 kV7 dc7 pm7 cd7 ct7 : Value} {od7 an7 : Option Addr} {sl7 : Array (Option Value)}
    {f8 : Addr} {oc8 kV8 dc8 pm8 cd8 ct8 : Value} {od8 an8 : Option Addr} {sl8 : Array (Option Value)}
    {f9 : Addr} {oc9 kV9 dc9 pm9 cd9 ct9 : Value} {od9 an9 : Option Addr} {sl9 : Array (Option Value)}
    {f10 : Addr} {oc10 kV10 dc10 pm10 cd10 ct10 : Value} {od10 an10 : Option Addr} {sl10 : Array (Option Value)}
    {f11 : Addr} {oc11 kV11 dc11 pm11 cd11 ct11 : Value} {od11 an11 : Option Addr} {sl11 : Array (Option Value)}
    {f12 : Addr} {oc12 kV12 dc12 pm12 cd12 ct12 : Value} {od12 an12 : Option Addr} {sl12 : Array (Option Value)}
    {f13 : Addr} {oc13 kV13 dc13 pm13 cd13 ct13 : Value} {od13 an13 : Option Addr} {sl13 : Array (Option Value)}
    {f14 : Addr} {oc14 kV14 dc14 pm14 cd14 ct14 : Value} {od14 an14 : Option Addr} {sl14 : Array (Option Value)}
    {f15 : Addr} {oc15 kV15 dc15 pm15 cd15 ct15 : Value} {od15 an15 : Option Addr} {sl15 : Array (Option Value)}
    {f16 : Addr} {oc16 kV16 dc16 pm16 cd16 ct16 : Value} {od16 an16 : Option Addr} {sl16 : Array (Option Value)}
    {f17 : Addr} {oc17 kV17 dc17 pm17 cd17 ct17 : Value} {od17 an17 : Option Addr} {sl17 : Array (Option Value)}
    {f18 : Addr} {oc18 kV18 dc18 pm18 cd18 ct18 : Value} {od18 an18 : Option Addr} {sl18 : Array (Option Value)}
    {f19 : Addr} {oc19 kV19 dc19 pm19 cd19 ct19 : Value} {od19 an19 : Option Addr} {sl19 : Array (Option Value)}
    {f20 : Addr} {oc20 kV20 dc20 pm20 cd20 ct20 : Value} {od20 an20 : Option Addr} {sl20 : Array (Option Value)}
    {f21 : Addr} {oc21 kV21 dc21 pm21 cd21 ct21 : Value} {od21 an21 : Option Addr} {sl21 : Array (Option Value)}
    {f22 : Addr} {oc22 kV22 dc22 pm22 cd22 ct22 : Value} {od22 an22 : Option Addr} {sl22 : Array (Option Value)}
    {f23 : Addr} {oc23 kV23 dc23 pm23 cd23 ct23 : Value} {od23 an23 : Option Addr} {sl23 : Array (Option Value)}
    {f24 : Addr} {oc24 kV24 dc24 pm24 cd24 ct24 : Value} {od24 an24 : Option Addr} {sl24 : Array (Option Value)}
    {f25 : Addr} {oc25 kV25 dc25 pm25 cd25 ct25 : Value} {od25 an25 : Option Addr} {sl25 : Array (Option Value)}
    {f26 : Addr} {oc26 kV26 dc26 pm26 cd26 ct26 : Value} {od26 an26 : Option Addr} {sl26 : Array (Option Value)}
    {c_ShareError : Addr} (g_ShareError : PySem.W.nsIn K mainGlobals "ShareError" = some (some (.ref c_ShareError)))
    (e_ShareError : Gx.ecB K c_ShareError = true) (k_ShareError : PySem.W.keepIn K (.ref c_ShareError) = true) (ty_ShareError : PySem.W.typeIn K (.ref c_ShareError) = some (.type "type"))
    (x_ShareError : PySem.W.excIn K c_ShareError PySem.Ge.mVE "ValueError.__new__" = true)
    {c_InvalidName : Addr} (g_InvalidName : PySem.W.nsIn K mainGlobals "InvalidName" = some (some (.ref c_InvalidName)))
    (e_InvalidName : Gx.ecB K c_InvalidName = true) (k_InvalidName : PySem.W.keepIn K (.ref c_InvalidName) = true) (ty_InvalidName : PySem.W.typeIn K (.ref c_InvalidName) = some (.type "type"))
    (x_InvalidName : PySem.W.excIn K c_InvalidName PySem.Ge.mVE "ValueError.__new__" = true)
    {c_InvalidRow : Addr} (g_InvalidRow : PySem.W.nsIn K mainGlobals "InvalidRow" = some (some (.ref c_InvalidRow)))
    (e_InvalidRow : Gx.ecB K c_InvalidRow = true) (k_InvalidRow : PySem.W.keepIn K (.ref c_InvalidRow) = true) (ty_InvalidRow : PySem.W.typeIn K (.ref c_InvalidRow) = some (.type "type"))
    (x_InvalidRow : PySem.W.excIn K c_InvalidRow PySem.Ge.mVE "ValueError.__new__" = true)
    {c_InvalidHouse : Addr} (g_InvalidHouse : PySem.W.nsIn K mainGlobals "InvalidHouse" = some (some (.ref c_InvalidHouse)))
    (e_InvalidHouse : Gx.ecB K c_InvalidHouse = true) (k_InvalidHouse : PySem.W.keepIn K (.ref c_InvalidHouse) = true) (ty_InvalidHouse : PySem.W.typeIn K (.ref c_InvalidHouse) = some (.type "type"))
    (x_InvalidHouse : PySem.W.excIn K c_InvalidHouse PySem.Ge.mVE "ValueError.__new__" = true)
    {c_InvalidWish : Addr} (g_InvalidWish : PySem.W.nsIn K mainGlobals "InvalidWish" = some (some (.ref c_InvalidWish)))
    (e_InvalidWish : Gx.ecB K c_InvalidWish = true) (k_InvalidWish : PySem.W.keepIn K (.ref c_InvalidWish) = true) (ty_InvalidWish : PySem.W.typeIn K (.ref c_InvalidWish) = some (.type "type"))
    (x_InvalidWish : PySem.W.excIn K c_InvalidWish PySem.Ge.mVE "ValueError.__new__" = true)
    {c_InvalidShare : Addr} (g_InvalidShare : PySem.W.nsIn K mainGlobals "InvalidShare" = some (some (.ref c_InvalidShare)))
    (e_InvalidShare : Gx.ecB K c_InvalidShare = true) (k_InvalidShare : PySem.W.keepIn K (.ref c_InvalidShare) = true) (ty_InvalidShare : PySem.W.typeIn K (.ref c_InvalidShare) = some (.type "type"))
    (x_InvalidShare : PySem.W.excIn K c_InvalidShare PySem.Ge.mVE "ValueError.__new__" = true)
    {c_InvalidOperation : Addr} (g_InvalidOperation : PySem.W.nsIn K mainGlobals "InvalidOperation" = some (some (.ref c_InvalidOperation)))
    (e_InvalidOperation : Gx.ecB K c_InvalidOperation = true) (k_InvalidOperation : PySem.W.keepIn K (.ref c_InvalidOperation) = true) (ty_InvalidOperation : PySem.W.typeIn K (.ref c_InvalidOperation) = some (.type "type"))
    (x_InvalidOperation : PySem.W.excIn K c_InvalidOperation PySem.Ge.mVE "ValueError.__new__" = true)
    {c_Unmatched : Addr} (g_Unmatched : PySem.W.nsIn K mainGlobals "Unmatched" = some (some (.ref c_Unmatched)))
    (e_Unmatched : Gx.ecB K c_Unmatched = true) (k_Unmatched : PySem.W.keepIn K (.ref c_Unmatched) = true) (ty_Unmatched : PySem.W.typeIn K (.ref c_Unmatched) = some (.type "type"))
    {nmUnmatched qUnmatched : Str} {NUnmatched : Addr} {bsUnmatched bmUnmatched : List Value} {snUnmatched : List Str} {subUnmatched : List Value} {abUnmatched : Bool} {colUnmatched : Option Bool} {ddUnmatched : Option Addr} {k0Unmatched k1Unmatched k2Unmatched k3Unmatched k5Unmatched : Option Value}
    (x_Unmatched : K.lookup c_Unmatched = some (excClassObj nmUnmatched qUnmatched c_Unmatched NUnmatched bsUnmatched bmUnmatched true snUnmatched subUnmatched abUnmatched colUnmatched ddUnmatched k0Unmatched k1Unmatched k2Unmatched k3Unmatched k5Unmatched "ValueError.__new__")) (y_Unmatched : PySem.Ge.refsTo PySem.Ge.mVE bmUnmatched = true)
    (sa_Unmatched : PySem.W.findIn K (.ref c_Unmatched) "__setattr__" = some (some (.builtin "object.__setattr__")))
    (i_Unmatched : PySem.W.findIn K (.ref c_Unmatched) "__init__" = some (some (.ref f0))) (ti_Unmatched : PySem.W.typeIn K (.ref f0) = some (.type "function")) (nf_Unmatched : PySem.W.findIn K (.ref c_Unmatched) "pair" = some none)
    {c_ParseError : Addr} (g_ParseError : PySem.W.nsIn K mainGlobals "ParseError" = some (some (.ref c_ParseError)))
    (e_ParseError : Gx.ecB K c_ParseError = true) (k_ParseError : PySem.W.keepIn K (.ref c_ParseError) = true) (ty_ParseError : PySem.W.typeIn K (.ref c_ParseError) = some (.type "type"))
    {nmParseError qParseError : Str} {NParseError : Addr} {bsParseError bmParseError : List Value} {snParseError : List Str} {subParseError : List Value} {abParseError : Bool} {colParseError : Option Bool} {ddParseError : Option Addr} {k0ParseError k1ParseError k2ParseError k3ParseError k5ParseError : Option Value}
    (x_ParseError : K.lookup c_ParseError = some (excClassObj nmParseError qParseError c_ParseError NParseError bsParseError bmParseError true snParseError subParseError abParseError colParseError ddParseError k0ParseError k1ParseError k2ParseError k3ParseError k5ParseError "ValueError.__new__")) (y_ParseError : PySem.Ge.refsTo PySem.Ge.mVE bmParseError = true)
    (sa_ParseError : PySem.W.findIn K (.ref c_ParseError) "__setattr__" = some (some (.builtin "object.__setattr__")))
    (i_ParseError : PySem.W.findIn K (.ref c_ParseError) "__init__" = some (some (.ref f1))) (ti_ParseError : PySem.W.typeIn K (.ref f1) = some (.type "function")) (nf_ParseError : PySem.W.findIn K (.ref c_ParseError) "index" = some none)
    {c_InvalidNumber : Addr} (g_InvalidNumber : PySem.W.nsIn K mainGlobals "InvalidNumber" = some (some (.ref c_InvalidNumber)))
    (e_InvalidNumber : Gx.ecB K c_InvalidNumber = true) (k_InvalidNumber : PySem.W.keepIn K (.ref c_InvalidNumber) = true) (ty_InvalidNumber : PySem.W.typeIn K (.ref c_InvalidNumber) = some (.type "type"))
    {nmInvalidNumber qInvalidNumber : Str} {NInvalidNumber : Addr} {bsInvalidNumber bmInvalidNumber : List Value} {snInvalidNumber : List Str} {subInvalidNumber : List Value} {abInvalidNumber : Bool} {colInvalidNumber : Option Bool} {ddInvalidNumber : Option Addr} {k0InvalidNumber k1InvalidNumber k2InvalidNumber k3InvalidNumber k5InvalidNumber : Option Value}
    (x_InvalidNumber : K.lookup c_InvalidNumber = some (excClassObj nmInvalidNumber qInvalidNumber c_InvalidNumber NInvalidNumber bsInvalidNumber bmInvalidNumber true snInvalidNumber subInvalidNumber abInvalidNumber colInvalidNumber ddInvalidNumber k0InvalidNumber k1InvalidNumber k2InvalidNumber k3InvalidNumber k5InvalidNumber "IndexError.__new__")) (y_InvalidNumber : PySem.Ge.refsTo PySem.Ge.mIE bmInvalidNumber = true)
    (sa_InvalidNumber : PySem.W.findIn K (.ref c_InvalidNumber) "__setattr__" = some (some (.builtin "object.__setattr__")))
    (i_InvalidNumber : PySem.W.findIn K (.ref c_InvalidNumber) "__init__" = some (some (.ref f2))) (ti_InvalidNumber : PySem.W.typeIn K (.ref f2) = some (.type "function")) (nf_InvalidNumber : PySem.W.findIn K (.ref c_InvalidNumber) "value" = some none)
    (s_InvalidNumber : PySem.W.findIn K (.ref c_InvalidNumber) "__str__" = some (some (.ref f3))) (fs_InvalidNumber : PySem.W.isFn K (.ref f3) = true)
    {c_UnknownName : Addr} (g_UnknownName : PySem.W.nsIn K mainGlobals "UnknownName" = some (some (.ref c_UnknownName)))
    (e_UnknownName : Gx.ecB K c_UnknownName = true) (k_UnknownName : PySem.W.keepIn K (.ref c_UnknownName) = true) (ty_UnknownName : PySem.W.typeIn K (.ref c_UnknownName) = some (.type "type"))
    {nmUnknownName qUnknownName : Str} {NUnknownName : Addr} {bsUnknownName bmUnknownName : List Value} {snUnknownName : List Str} {subUnknownName : List Value} {abUnknownName : Bool} {colUnknownName : Option Bool} {ddUnknownName : Option Addr} {k0UnknownName k1UnknownName k2UnknownName k3UnknownName k5UnknownName : Option Value}
    (x_UnknownName : K.lookup c_UnknownName = some (excClassObj nmUnknownName qUnknownName c_UnknownName NUnknownName bsUnknownName bmUnknownName true snUnknownName subUnknownName abUnknownName colUnknownName ddUnknownName k0UnknownName k1UnknownName k2UnknownName k3UnknownName k5UnknownName "LookupError.__new__")) (y_UnknownName : PySem.Ge.refsTo PySem.Ge.mKE bmUnknownName = true)
    (sa_UnknownName : PySem.W.findIn K (.ref c_UnknownName) "__setattr__" = some (some (.builtin "object.__setattr__")))
    (i_UnknownName : PySem.W.findIn K (.ref c_UnknownName) "__init__" = some (some (.ref f4))) (ti_UnknownName : PySem.W.typeIn K (.ref f4) = some (.type "function")) (nf_UnknownName : PySem.W.findIn K (.ref c_UnknownName) "name" = some none)
    (s_UnknownName : PySem.W.findIn K (.ref c_UnknownName) "__str__" = some (some (.ref f5))) (fs_UnknownName : PySem.W.isFn K (.ref f5) = true)
    {c_TooMany : Addr} (g_TooMany : PySem.W.nsIn K mainGlobals "TooMany" = some (some (.ref c_TooMany)))
    (e_TooMany : Gx.ecB K c_TooMany = true) (k_TooMany : PySem.W.keepIn K (.ref c_TooMany) = true) (ty_TooMany : PySem.W.typeIn K (.ref c_TooMany) = some (.type "type"))
    {nmTooMany qTooMany : Str} {NTooMany : Addr} {bsTooMany bmTooMany : List Value} {snTooMany : List Str} {subTooMany : List Value} {abTooMany : Bool} {colTooMany : Option Bool} {ddTooMany : Option Addr} {k0TooMany k1TooMany k2TooMany k3TooMany k5TooMany : Option Value}
    (x_TooMany : K.lookup c_TooMany = some (excClassObj nmTooMany qTooMany c_TooMany NTooMany bsTooMany bmTooMany true snTooMany subTooMany abTooMany colTooMany ddTooMany k0TooMany k1TooMany k2TooMany k3TooMany k5TooMany "OverflowError.__new__")) (y_TooMany : PySem.Ge.refsTo PySem.Ge.mOE bmTooMany = true)
    (sa_TooMany : PySem.W.findIn K (.ref c_TooMany) "__setattr__" = some (some (.builtin "object.__setattr__")))
    (i_TooMany : PySem.W.findIn K (.ref c_TooMany) "__init__" = some (some (.ref f6))) (ti_TooMany : PySem.W.typeIn K (.ref f6) = some (.type "function")) (nf_TooMany : PySem.W.findIn K (.ref c_TooMany) "limit" = some none)
    {c_NothingToUndo : Addr} (g_NothingToUndo : PySem.W.nsIn K mainGlobals "NothingToUndo" = some (some (.ref c_NothingToUndo)))
    (e_NothingToUndo : Gx.ecB K c_NothingToUndo = true) (k_NothingToUndo : PySem.W.keepIn K (.ref c_NothingToUndo) = true) (ty_NothingToUndo : PySem.W.typeIn K (.ref c_NothingToUndo) = some (.type "type"))
    {nmNothingToUndo qNothingToUndo : Str} {NNothingToUndo : Addr} {bsNothingToUndo bmNothingToUndo : List Value} {snNothingToUndo : List Str} {subNothingToUndo : List Value} {abNothingToUndo : Bool} {colNothingToUndo : Option Bool} {ddNothingToUndo : Option Addr} {k0NothingToUndo k1NothingToUndo k2NothingToUndo k3NothingToUndo k5NothingToUndo : Option Value}
    (x_NothingToUndo : K.lookup c_NothingToUndo = some (excClassObj nmNothingToUndo qNothingToUndo c_NothingToUndo NNothingToUndo bsNothingToUndo bmNothingToUndo true snNothingToUndo subNothingToUndo abNothingToUndo colNothingToUndo ddNothingToUndo k0NothingToUndo k1NothingToUndo k2NothingToUndo k3NothingToUndo k5NothingToUndo "LookupError.__new__")) (y_NothingToUndo : PySem.Ge.refsTo PySem.Ge.mLE bmNothingToUndo = true)
    (sa_NothingToUndo : PySem.W.findIn K (.ref c_NothingToUndo) "__setattr__" = some (some (.builtin "object.__setattr__")))
    (i_NothingToUndo : PySem.W.findIn K (.ref c_NothingToUndo) "__init__" = some (some (.ref f7))) (ti_NothingToUndo : PySem.W.typeIn K (.ref f7) = some (.type "function")) (nf_NothingToUndo : PySem.W.findIn K (.ref c_NothingToUndo) "many" = some none)
    {c_Unsteady : Addr} (g_Unsteady : PySem.W.nsIn K mainGlobals "Unsteady" = some (some (.ref c_Unsteady)))
    (e_Unsteady : Gx.ecB K c_Unsteady = true) (k_Unsteady : PySem.W.keepIn K (.ref c_Unsteady) = true) (ty_Unsteady : PySem.W.typeIn K (.ref c_Unsteady) = some (.type "type"))
    {nmUnsteady qUnsteady : Str} {NUnsteady : Addr} {bsUnsteady bmUnsteady : List Value} {snUnsteady : List Str} {subUnsteady : List Value} {abUnsteady : Bool} {colUnsteady : Option Bool} {ddUnsteady : Option Addr} {k0Unsteady k1Unsteady k2Unsteady k3Unsteady k5Unsteady : Option Value}
    (x_Unsteady : K.lookup c_Unsteady = some (excClassObj nmUnsteady qUnsteady c_Unsteady NUnsteady bsUnsteady bmUnsteady true snUnsteady subUnsteady abUnsteady colUnsteady ddUnsteady k0Unsteady k1Unsteady k2Unsteady k3Unsteady k5Unsteady "ArithmeticError.__new__")) (y_Unsteady : PySem.Ge.refsTo PySem.Ge.mAE bmUnsteady = true)
    (sa_Unsteady : PySem.W.findIn K (.ref c_Unsteady) "__setattr__" = some (some (.builtin "object.__setattr__")))
    (i_Unsteady : PySem.W.findIn K (.ref c_Unsteady) "__init__" = some (some (.ref f8))) (ti_Unsteady : PySem.W.typeIn K (.ref f8) = some (.type "function")) (nf_Unsteady : PySem.W.findIn K (.ref c_Unsteady) "breach" = some none)
    {c_Refused : Addr} (g_Refused : PySem.W.nsIn K mainGlobals "Refused" = some (some (.ref c_Refused)))
    (e_Refused : Gx.ecB K c_Refused = true) (k_Refused : PySem.W.keepIn K (.ref c_Refused) = true) (ty_Refused : PySem.W.typeIn K (.ref c_Refused) = some (.type "type"))
    {nmRefused qRefused : Str} {NRefused : Addr} {bsRefused bmRefused : List Value} {snRefused : List Str} {subRefused : List Value} {abRefused : Bool} {colRefused : Option Bool} {ddRefused : Option Addr} {k0Refused k1Refused k2Refused k3Refused k5Refused : Option Value}
    (x_Refused : K.lookup c_Refused = some (excClassObj nmRefused qRefused c_Refused NRefused bsRefused bmRefused true snRefused subRefused abRefused colRefused ddRefused k0Refused k1Refused k2Refused k3Refused k5Refused "ArithmeticError.__new__")) (y_Refused : PySem.Ge.refsTo PySem.Ge.mAE bmRefused = true)
    (sa_Refused : PySem.W.findIn K (.ref c_Refused) "__setattr__" = some (some (.builtin "object.__setattr__")))
    (i_Refused : PySem.W.findIn K (.ref c_Refused) "__init__" = some (some (.ref f9))) (ti_Refused : PySem.W.typeIn K (.ref f9) = some (.type "function")) (nf_Refused : PySem.W.findIn K (.ref c_Refused) "name" = some none)
    (tabK : Gx.tabK K [.ref c_InvalidName, .ref c_InvalidRow, .ref c_InvalidHouse, .ref c_InvalidWish, .ref c_InvalidShare, .ref c_InvalidOperation, .ref c_Unmatched, .ref c_ParseError, .ref c_InvalidNumber, .ref c_UnknownName, .ref c_TooMany, .ref c_NothingToUndo, .ref c_Unsteady, .ref c_Refused] [.ref c_InvalidName, .ref c_InvalidRow, .ref c_InvalidHouse, .ref c_InvalidWish, .ref c_InvalidShare, .ref c_InvalidOperation, .ref c_Unmatched, .ref c_ParseError, .ref c_InvalidNumber, .ref c_UnknownName, .ref c_TooMany, .ref c_NothingToUndo, .ref c_Unsteady, .ref c_Refused, .ref c_ShareError, .type "ValueError", .type "LookupError", .type "IndexError", .type "KeyError", .type "ArithmeticError", .type "OverflowError", .type "ZeroDivisionError"] = Gx.wantK)
    (tabX : Gx.tabX K [.ref c_InvalidName, .ref c_InvalidRow, .ref c_InvalidHouse, .ref c_InvalidWish, .ref c_InvalidShare, .ref c_InvalidOperation, .ref c_Unmatched, .ref c_ParseError, .ref c_InvalidNumber, .ref c_UnknownName, .ref c_TooMany, .ref c_NothingToUndo, .ref c_Unsteady, .ref c_Refused] [.ref c_InvalidName, .ref c_InvalidRow, .ref c_InvalidHouse, .ref c_InvalidWish, .ref c_InvalidShare, .ref c_InvalidOperation, .ref c_Unmatched, .ref c_ParseError, .ref c_InvalidNumber, .ref c_UnknownName, .ref c_TooMany, .ref c_NothingToUndo, .ref c_Unsteady, .ref c_Refused, .ref c_ShareError] = Gx.wantX)
    (l0 : K.lookup f0 = some ⟨oc0, od0, .func (PySem.W.fnOf "__init__" "Unmatched.__init__" (defArgs s_Unmatched___init__) (defBody s_Unmatched___init__) (defScope s_Unmatched___init__) .none kV0 dc0 pm0 an0 cd0 ct0), sl0⟩) (c0 : PySem.W.codeIn K cd0 "Unmatched.__init__" = true) (k0 : PySem.W.keepIn K (.ref f0) = true)
    (l1 : K.lookup f1 = some ⟨oc1, od1, .func (PySem.W.fnOf "__init__" "ParseError.__init__" (defArgs s_ParseError___init__) (defBody s_ParseError___init__) (defScope s_ParseError___init__) .none kV1 dc1 pm1 an1 cd1 ct1), sl1⟩) (c1 : PySem.W.codeIn K cd1 "ParseError.__init__" = true) (k1 : PySem.W.keepIn K (.ref f1) = true)
    (l2 : K.lookup f2 = some ⟨oc2, od2, .func (PySem.W.fnOf "__init__" "InvalidNumber.__init__" (defArgs s_InvalidNumber___init__) (defBody s_InvalidNumber___init__) (defScope s_InvalidNumber___init__) .none kV2 dc2 pm2 an2 cd2 ct2), sl2⟩) (c2 : PySem.W.codeIn K cd2 "InvalidNumber.__init__" = true) (k2 : PySem.W.keepIn K (.ref f2) = true)
    (l3 : K.lookup f3 = some ⟨oc3, od3, .func (PySem.W.fnOf "__str__" "InvalidNumber.__str__" (defArgs s_InvalidNumber___str__) (defBody s_InvalidNumber___str__) (defScope s_InvalidNumber___str__) .none kV3 dc3 pm3 an3 cd3 ct3), sl3⟩) (c3 : PySem.W.codeIn K cd3 "InvalidNumber.__str__" = true) (k3 : PySem.W.keepIn K (.ref f3) = true)
    (l4 : K.lookup f4 = some ⟨oc4, od4, .func (PySem.W.fnOf "__init__" "UnknownName.__init__" (defArgs s_UnknownName___init__) (defBody s_UnknownName___init__) (defScope s_UnknownName___init__) .none kV4 dc4 pm4 an4 cd4 ct4), sl4⟩) (c4 : PySem.W.codeIn K cd4 "UnknownName.__init__" = true) (k4 : PySem.W.keepIn K (.ref f4) = true)
    (l5 : K.lookup f5 = some ⟨oc5, od5, .func (PySem.W.fnOf "__str__" "UnknownName.__str__" (defArgs s_UnknownName___str__) (defBody s_UnknownName___str__) (defScope s_UnknownName___str__) .none kV5 dc5 pm5 an5 cd5 ct5), sl5⟩) (c5 : PySem.W.codeIn K cd5 "UnknownName.__str__" = true) (k5 : PySem.W.keepIn K (.ref f5) = true)
    (l6 : K.lookup f6 = some ⟨oc6, od6, .func (PySem.W.fnOf "__init__" "TooMany.__init__" (defArgs s_TooMany___init__) (defBody s_TooMany___init__) (defScope s_TooMany___init__) .none kV6 dc6 pm6 an6 cd6 ct6), sl6⟩) (c6 : PySem.W.codeIn K cd6 "TooMany.__init__" = true) (k6 : PySem.W.keepIn K (.ref f6) = true)
    (l7 : K.lookup f7 = some ⟨oc7, od7, .func (PySem.W.fnOf "__init__" "NothingToUndo.__init__" (defArgs s_NothingToUndo___init__) (defBody s_NothingToUndo___init__) (defScope s_NothingToUndo___init__) .none kV7 dc7 pm7 an7 cd7 ct7), sl7⟩) (c7 : PySem.W.codeIn K cd7 "NothingToUndo.__init__" = true) (k7 : PySem.W.keepIn K (.ref f7) = true)
    (l8 : K.lookup f8 = some ⟨oc8, od8, .func (PySem.W.fnOf "__init__" "Unsteady.__init__" (defArgs s_Unsteady___init__) (defBody s_Unsteady___init__) (defScope s_Unsteady___init__) .none kV8 dc8 pm8 an8 cd8 ct8), sl8⟩) (c8 : PySem.W.codeIn K cd8 "Unsteady.__init__" = true) (k8 : PySem.W.keepIn K (.ref f8) = true)
    (l9 : K.lookup f9 = some ⟨oc9, od9, .func (PySem.W.fnOf "__init__" "Refused.__init__" (defArgs s_Refused___init__) (defBody s_Refused___init__) (defScope s_Refused___init__) .none kV9 dc9 pm9 an9 cd9 ct9), sl9⟩) (c9 : PySem.W.codeIn K cd9 "Refused.__init__" = true) (k9 : PySem.W.keepIn K (.ref f9) = true)
    (a10 : PySem.W.nsIn K mainGlobals "_law_jar" = some (some (.ref f10)))
    (l10 : K.lookup f10 = some ⟨oc10, od10, .func (PySem.W.fnOf "_law_jar" "_law_jar" (defArgs s_l_jar) (defBody s_l_jar) (defScope s_l_jar) .none kV10 dc10 pm10 an10 cd10 ct10), sl10⟩) (c10 : PySem.W.codeIn K cd10 "_law_jar" = true) (k10 : PySem.W.keepIn K (.ref f10) = true)
    (a11 : PySem.W.nsIn K mainGlobals "_law_sip" = some (some (.ref f11)))
    (l11 : K.lookup f11 = some ⟨oc11, od11, .func (PySem.W.fnOf "_law_sip" "_law_sip" (defArgs s_l_sip) (defBody s_l_sip) (defScope s_l_sip) .none kV11 dc11 pm11 an11 cd11 ct11), sl11⟩) (c11 : PySem.W.codeIn K cd11 "_law_sip" = true) (k11 : PySem.W.keepIn K (.ref f11) = true)
    (a12 : PySem.W.nsIn K mainGlobals "_law_which" = some (some (.ref f12)))
    (l12 : K.lookup f12 = some ⟨oc12, od12, .func (PySem.W.fnOf "_law_which" "_law_which" (defArgs s_l_which) (defBody s_l_which) (defScope s_l_which) .none kV12 dc12 pm12 an12 cd12 ct12), sl12⟩) (c12 : PySem.W.codeIn K cd12 "_law_which" = true) (k12 : PySem.W.keepIn K (.ref f12) = true)
    (a13 : PySem.W.nsIn K mainGlobals "_law_mixed" = some (some (.ref f13)))
    (l13 : K.lookup f13 = some ⟨oc13, od13, .func (PySem.W.fnOf "_law_mixed" "_law_mixed" (defArgs s_l_mixed) (defBody s_l_mixed) (defScope s_l_mixed) .none kV13 dc13 pm13 an13 cd13 ct13), sl13⟩) (c13 : PySem.W.codeIn K cd13 "_law_mixed" = true) (k13 : PySem.W.keepIn K (.ref f13) = true)
    (a14 : PySem.W.nsIn K mainGlobals "_law_letter" = some (some (.ref f14)))
    (l14 : K.lookup f14 = some ⟨oc14, od14, .func (PySem.W.fnOf "_law_letter" "_law_letter" (defArgs s_l_letter) (defBody s_l_letter) (defScope s_l_letter) .none kV14 dc14 pm14 an14 cd14 ct14), sl14⟩) (c14 : PySem.W.codeIn K cd14 "_law_letter" = true) (k14 : PySem.W.keepIn K (.ref f14) = true)
    (a15 : PySem.W.nsIn K mainGlobals "_law_made_plain" = some (some (.ref f15)))
    (l15 : K.lookup f15 = some ⟨oc15, od15, .func (PySem.W.fnOf "_law_made_plain" "_law_made_plain" (defArgs s_l_made_plain) (defBody s_l_made_plain) (defScope s_l_made_plain) .none kV15 dc15 pm15 an15 cd15 ct15), sl15⟩) (c15 : PySem.W.codeIn K cd15 "_law_made_plain" = true) (k15 : PySem.W.keepIn K (.ref f15) = true)
    (a16 : PySem.W.nsIn K mainGlobals "_law_made_one" = some (some (.ref f16)))
    (l16 : K.lookup f16 = some ⟨oc16, od16, .func (PySem.W.fnOf "_law_made_one" "_law_made_one" (defArgs s_l_made_one) (defBody s_l_made_one) (defScope s_l_made_one) .none kV16 dc16 pm16 an16 cd16 ct16), sl16⟩) (c16 : PySem.W.codeIn K cd16 "_law_made_one" = true) (k16 : PySem.W.keepIn K (.ref f16) = true)
    (a17 : PySem.W.nsIn K mainGlobals "_law_raised" = some (some (.ref f17)))
    (l17 : K.lookup f17 = some ⟨oc17, od17, .func (PySem.W.fnOf "_law_raised" "_law_raised" (defArgs s_l_raised) (defBody s_l_raised) (defScope s_l_raised) .none kV17 dc17 pm17 an17 cd17 ct17), sl17⟩) (c17 : PySem.W.codeIn K cd17 "_law_raised" = true) (k17 : PySem.W.keepIn K (.ref f17) = true)
    (a18 : PySem.W.nsIn K mainGlobals "_law_classes" = some (some (.ref f18)))
    (l18 : K.lookup f18 = some ⟨oc18, od18, .func (PySem.W.fnOf "_law_classes" "_law_classes" (defArgs s_l_classes) (defBody s_l_classes) (defScope s_l_classes) .none kV18 dc18 pm18 an18 cd18 ct18), sl18⟩) (c18 : PySem.W.codeIn K cd18 "_law_classes" = true) (k18 : PySem.W.keepIn K (.ref f18) = true)
    (a19 : PySem.W.nsIn K mainGlobals "_law_bases" = some (some (.ref f19)))
    (l19 : K.lookup f19 = some ⟨oc19, od19, .func (PySem.W.fnOf "_law_bases" "_law_bases" (defArgs s_l_bases) (defBody s_l_bases) (defScope s_l_bases) .none kV19 dc19 pm19 an19 cd19 ct19), sl19⟩) (c19 : PySem.W.codeIn K cd19 "_law_bases" = true) (k19 : PySem.W.keepIn K (.ref f19) = true)
    (a20 : PySem.W.nsIn K mainGlobals "_law_due" = some (some (.ref f20)))
    (l20 : K.lookup f20 = some ⟨oc20, od20, .func (PySem.W.fnOf "_law_due" "_law_due" (defArgs s_l_due) (defBody s_l_due) (defScope s_l_due) .none kV20 dc20 pm20 an20 cd20 ct20), sl20⟩) (c20 : PySem.W.codeIn K cd20 "_law_due" = true) (k20 : PySem.W.keepIn K (.ref f20) = true)
    (a21 : PySem.W.nsIn K mainGlobals "_law_is_kept" = some (some (.ref f21)))
    (l21 : K.lookup f21 = some ⟨oc21, od21, .func (PySem.W.fnOf "_law_is_kept" "_law_is_kept" (defArgs s_l_is_kept) (defBody s_l_is_kept) (defScope s_l_is_kept) .none kV21 dc21 pm21 an21 cd21 ct21), sl21⟩) (c21 : PySem.W.codeIn K cd21 "_law_is_kept" = true) (k21 : PySem.W.keepIn K (.ref f21) = true)
    (a22 : PySem.W.nsIn K mainGlobals "_law_caught" = some (some (.ref f22)))
    (l22 : K.lookup f22 = some ⟨oc22, od22, .func (PySem.W.fnOf "_law_caught" "_law_caught" (defArgs s_l_caught) (defBody s_l_caught) (defScope s_l_caught) .none kV22 dc22 pm22 an22 cd22 ct22), sl22⟩) (c22 : PySem.W.codeIn K cd22 "_law_caught" = true) (k22 : PySem.W.keepIn K (.ref f22) = true)
    (a23 : PySem.W.nsIn K mainGlobals "_law_is_caught_by_base" = some (some (.ref f23)))
    (l23 : K.lookup f23 = some ⟨oc23, od23, .func (PySem.W.fnOf "_law_is_caught_by_base" "_law_is_caught_by_base" (defArgs s_l_is_caught_by_base) (defBody s_l_is_caught_by_base) (defScope s_l_is_caught_by_base) .none kV23 dc23 pm23 an23 cd23 ct23), sl23⟩) (c23 : PySem.W.codeIn K cd23 "_law_is_caught_by_base" = true) (k23 : PySem.W.keepIn K (.ref f23) = true)
    (a24 : PySem.W.nsIn K mainGlobals "_law_worth" = some (some (.ref f24)))
    (l24 : K.lookup f24 = some ⟨oc24, od24, .func (PySem.W.fnOf "_law_worth" "_law_worth" (defArgs s_l_worth) (defBody s_l_worth) (defScope s_l_worth) .none kV24 dc24 pm24 an24 cd24 ct24), sl24⟩) (c24 : PySem.W.codeIn K cd24 "_law_worth" = true) (k24 : PySem.W.keepIn K (.ref f24) = true)
    (a25 : PySem.W.nsIn K mainGlobals "_law_cell_right" = some (some (.ref f25)))
    (l25 : K.lookup f25 = some ⟨oc25, od25, .func (PySem.W.fnOf "_law_cell_right" "_law_cell_right" (defArgs s_l_cell_right) (defBody s_l_cell_right) (defScope s_l_cell_right) .none kV25 dc25 pm25 an25 cd25 ct25), sl25⟩) (c25 : PySem.W.codeIn K cd25 "_law_cell_right" = true) (k25 : PySem.W.keepIn K (.ref f25) = true)
    (a26 : PySem.W.nsIn K mainGlobals "law" = some (some (.ref f26)))
    (l26 : K.lookup f26 = some ⟨oc26, od26, .func (PySem.W.fnOf "law" "law" (defArgs s_law) (defBody s_law) (defScope s_law) .none kV26 dc26 pm26 an26 cd26 ct26), sl26⟩) (c26 : PySem.W.codeIn K cd26 "law" = true) (k26 : PySem.W.keepIn K (.ref f26) = true)
    (z0 : PySem.W.nsIn K mainGlobals "repr" = some none)
    (z1 : PySem.W.nsIn K mainGlobals "int" = some none)
    (z2 : PySem.W.nsIn K mainGlobals "max" = some none)
    (z3 : PySem.W.nsIn K mainGlobals "abs" = some none)
    (z4 : PySem.W.nsIn K mainGlobals "len" = some none)
    (z5 : PySem.W.nsIn K mainGlobals "range" = some none)
    (z6 : PySem.W.nsIn K mainGlobals "list" = some none)
    (z7 : PySem.W.nsIn K mainGlobals "isinstance" = some none)
    (z8 : PySem.W.nsIn K mainGlobals "ZeroDivisionError" = some none)
    (z9 : PySem.W.nsIn K mainGlobals "OverflowError" = some none)
    (z10 : PySem.W.nsIn K mainGlobals "ArithmeticError" = some none)
    (z11 : PySem.W.nsIn K mainGlobals "KeyError" = some none)
    (z12 : PySem.W.nsIn K mainGlobals "IndexError" = some none)
    (z13 : PySem.W.nsIn K mainGlobals "LookupError" = some none)
    (z14 : PySem.W.nsIn K mainGlobals "ValueError" = some none)
    (z15 : PySem.W.nsIn K mainGlobals "str" = some none)
    (z16 : PySem.W.nsIn K mainGlobals "min" = some none)
    : ∃ T : Tx K mg, T.a_law = fa ∧ ∀ (s : Shared) (v : Value), BindsTo s T.d_law ⟨[v], []⟩ [("script", v)] := by
  have e := hfa.symm.trans (PySem.W.mg_of X G a26)
  have e2 : f26 = fa := by cases e; rfl
  subst e2
  have F0 := fun_mk (st := s_Unmatched___init__) l0 c0 k0
  have b0 := F0.binds (ps := ["self", "pair"]) fun _ _ _ _ _ _ us hl => match us, hl with | [_, _], _ => rfl
  have F1 := fun_mk (st := s_ParseError___init__) l1 c1 k1
  have b1 := F1.binds (ps := ["self", "index"]) fun _ _ _ _ _ _ us hl => match us, hl with | [_, _], _ => rfl
  have F2 := fun_mk (st := s_InvalidNumber___init__) l2 c2 k2
  have b2 := F2.binds (ps := ["self", "value"]) fun _ _ _ _ _ _ us hl => match us, hl with | [_, _], _ => rfl
  have F3 := fun_mk (st := s_InvalidNumber___str__) l3 c3 k3
  have b3 := F3.binds (ps := ["self"]) fun _ _ _ _ _ _ us hl => match us, hl with | [_], _ => rfl
  have F4 := fun_mk (st := s_UnknownName___init__) l4 c4 k4
  have b4 := F4.binds (ps := ["self", "name"]) fun _ _ _ _ _ _ us hl => match us, hl with | [_, _], _ => rfl
  have F5 := fun_mk (st := s_UnknownName___str__) l5 c5 k5
  have b5 := F5.binds (ps := ["self"]) fun _ _ _ _ _ _ us hl => match us, hl with | [_], _ => rfl
  have F6 := fun_mk (st := s_TooMany___init__) l6 c6 k6
  have b6 := F6.binds (ps := ["self", "limit"]) fun _ _ _ _ _ _ us hl => match us, hl with | [_, _], _ => rfl
  have F7 := fun_mk (st := s_NothingToUndo___init__) l7 c7 k7
  have b7 := F7.binds (ps := ["self", "many"]) fun _ _ _ _ _ _ us hl => match us, hl with | [_, _], _ => rfl
  have F8 := fun_mk (st := s_Unsteady___init__) l8 c8 k8
  have b8 := F8.binds (ps := ["self", "breach"]) fun _ _ _ _ _ _ us hl => match us, hl with | [_, _], _ => rfl
  have F9 := fun_mk (st := s_Refused___init__) l9 c9 k9
  have b9 := F9.binds (ps := ["self", "name"]) fun _ _ _ _ _ _ us hl => match us, hl with | [_, _], _ => rfl
  have F10 := fun_mk (st := s_l_jar) l10 c10 k10
  have b10 := F10.binds (ps := ["script", "at"]) fun _ _ _ _ _ _ us hl => match us, hl with | [_, _], _ => rfl
  have F11 := fun_mk (st := s_l_sip) l11 c11 k11
  have b11 := F11.binds (ps := ["jar", "total"]) fun _ _ _ _ _ _ us hl => match us, hl with | [_, _], _ => rfl
  have F12 := fun_mk (st := s_l_which) l12 c12 k12
  have b12 := F12.binds (ps := ["jar", "items"]) fun _ _ _ _ _ _ us hl => match us, hl with | [_, _], _ => rfl
  have F13 := fun_mk (st := s_l_mixed) l13 c13 k13
  have b13 := F13.binds (ps := ["jar", "items"]) fun _ _ _ _ _ _ us hl => match us, hl with | [_, _], _ => rfl
  have F14 := fun_mk (st := s_l_letter) l14 c14 k14
  have b14 := F14.binds (ps := ["jar"]) fun _ _ _ _ _ _ us hl => match us, hl with | [_], _ => rfl
  have F15 := fun_mk (st := s_l_made_plain) l15 c15 k15
  have b15 := F15.binds (ps := ["lot", "value"]) fun _ _ _ _ _ _ us hl => match us, hl with | [_, _], _ => rfl
  have F16 := fun_mk (st := s_l_made_one) l16 c16 k16
  have b16 := F16.binds (ps := ["lot", "value"]) fun _ _ _ _ _ _ us hl => match us, hl with | [_, _], _ => rfl
  have F17 := fun_mk (st := s_l_raised) l17 c17 k17
  have b17 := F17.binds (ps := ["lot", "value"]) fun _ _ _ _ _ _ us hl => match us, hl with | [_, _], _ => rfl
  have F18 := fun_mk (st := s_l_classes) l18 c18 k18
  have b18 := F18.binds (ps := ["error"]) fun _ _ _ _ _ _ us hl => match us, hl with | [_], _ => rfl
  have F19 := fun_mk (st := s_l_bases) l19 c19 k19
  have b19 := F19.binds (ps := ["error"]) fun _ _ _ _ _ _ us hl => match us, hl with | [_], _ => rfl
  have F20 := fun_mk (st := s_l_due) l20 c20 k20
  have b20 := F20.binds (ps := ["lot"]) fun _ _ _ _ _ _ us hl => match us, hl with | [_], _ => rfl
  have F21 := fun_mk (st := s_l_is_kept) l21 c21 k21
  have b21 := F21.binds (ps := ["lot", "error", "value"]) fun _ _ _ _ _ _ us hl => match us, hl with | [_, _, _], _ => rfl
  have F22 := fun_mk (st := s_l_caught) l22 c22 k22
  have b22 := F22.binds (ps := ["lot", "value"]) fun _ _ _ _ _ _ us hl => match us, hl with | [_, _], _ => rfl
  have F23 := fun_mk (st := s_l_is_caught_by_base) l23 c23 k23
  have b23 := F23.binds (ps := ["lot", "value"]) fun _ _ _ _ _ _ us hl => match us, hl with | [_, _], _ => rfl
  have F24 := fun_mk (st := s_l_worth) l24 c24 k24
  have b24 := F24.binds (ps := ["jar", "lot"]) fun _ _ _ _ _ _ us hl => match us, hl with | [_, _], _ => rfl
  have F25 := fun_mk (st := s_l_cell_right) l25 c25 k25
  have b25 := F25.binds (ps := ["jar"]) fun _ _ _ _ _ _ us hl => match us, hl with | [_], _ => rfl
  have F26 := fun_mk (st := s_law) l26 c26 k26
  have b26 := F26.binds (ps := ["script"]) fun _ _ _ _ _ _ us hl => match us, hl with | [_], _ => rfl
  refine ⟨{
      a_Unmatched___init__ := f0,
      d_Unmatched___init__ := _,
      F_Unmatched___init__ := F0,
      b_Unmatched___init__ := b0,
      a_ParseError___init__ := f1,
      d_ParseError___init__ := _,
      F_ParseError___init__ := F1,
      b_ParseError___init__ := b1,
      a_InvalidNumber___init__ := f2,
      d_InvalidNumber___init__ := _,
      F_InvalidNumber___init__ := F2,
      b_InvalidNumber___init__ := b2,
      a_InvalidNumber___str__ := f3,
      d_InvalidNumber___str__ := _,
      F_InvalidNumber___str__ := F3,
      b_InvalidNumber___str__ := b3,
      a_UnknownName___init__ := f4,
      d_UnknownName___init__ := _,
      F_UnknownName___init__ := F4,
      b_UnknownName___init__ := b4,
      a_UnknownName___str__ := f5,
      d_UnknownName___str__ := _,
      F_UnknownName___str__ := F5,
      b_UnknownName___str__ := b5,
      a_TooMany___init__ := f6,
      d_TooMany___init__ := _,
      F_TooMany___init__ := F6,
      b_TooMany___init__ := b6,
      a_NothingToUndo___init__ := f7,
      d_NothingToUndo___init__ := _,
      F_NothingToUndo___init__ := F7,
      b_NothingToUndo___init__ := b7,
      a_Unsteady___init__ := f8,
      d_Unsteady___init__ := _,
      F_Unsteady___init__ := F8,
      b_Unsteady___init__ := b8,
      a_Refused___init__ := f9,
      d_Refused___init__ := _,
      F_Refused___init__ := F9,
      b_Refused___init__ := b9,
      a_l_jar := f10,
      d_l_jar := _,
      F_l_jar := F10,
      b_l_jar := b10,
      g_l_jar := PySem.W.mg_of X G a10,
      a_l_sip := f11,
      d_l_sip := _,
      F_l_sip := F11,
      b_l_sip := b11,
      g_l_sip := PySem.W.mg_of X G a11,
      a_l_which := f12,
      d_l_which := _,
      F_l_which := F12,
      b_l_which := b12,
      g_l_which := PySem.W.mg_of X G a12,
      a_l_mixed := f13,
      d_l_mixed := _,
      F_l_mixed := F13,
      b_l_mixed := b13,
      g_l_mixed := PySem.W.mg_of X G a13,
      a_l_letter := f14,
      d_l_letter := _,
      F_l_letter := F14,
      b_l_letter := b14,
      g_l_letter := PySem.W.mg_of X G a14,
      a_l_made_plain := f15,
      d_l_made_plain := _,
      F_l_made_plain := F15,
      b_l_made_plain := b15,
      g_l_made_plain := PySem.W.mg_of X G a15,
      a_l_made_one := f16,
      d_l_made_one := _,
      F_l_made_one := F16,
      b_l_made_one := b16,
      g_l_made_one := PySem.W.mg_of X G a16,
      a_l_raised := f17,
      d_l_raised := _,
      F_l_raised := F17,
      b_l_raised := b17,
      g_l_raised := PySem.W.mg_of X G a17,
      a_l_classes := f18,
      d_l_classes := _,
      F_l_classes := F18,
      b_l_classes := b18,
      g_l_classes := PySem.W.mg_of X G a18,
      a_l_bases := f19,
      d_l_bases := _,
      F_l_bases := F19,
      b_l_bases := b19,
      g_l_bases := PySem.W.mg_of X G a19,
      a_l_due := f20,
      d_l_due := _,
      F_l_due := F20,
      b_l_due := b20,
      g_l_due := PySem.W.mg_of X G a20,
      a_l_is_kept := f21,
      d_l_is_kept := _,
      F_l_is_kept := F21,
      b_l_is_kept := b21,
      g_l_is_kept := PySem.W.mg_of X G a21,
      a_l_caught := f22,
      d_l_caught := _,
      F_l_caught := F22,
      b_l_caught := b22,
      g_l_caught := PySem.W.mg_of X G a22,
      a_l_is_caught_by_base := f23,
      d_l_is_caught_by_base := _,
      F_l_is_caught_by_base := F23,
      b_l_is_caught_by_base := b23,
      g_l_is_caught_by_base := PySem.W.mg_of X G a23,
      a_l_worth := f24,
      d_l_worth := _,
      F_l_worth := F24,
      b_l_worth := b24,
      g_l_worth := PySem.W.mg_of X G a24,
      a_l_cell_right := f25,
      d_l_cell_right := _,
      F_l_cell_right := F25,
      b_l_cell_right := b25,
      g_l_cell_right := PySem.W.mg_of X G a25,
      a_law := f26,
      d_law := _,
      F_law := F26,
      b_law := b26,
      g_law := PySem.W.mg_of X G a26,
      c_ShareError := c_ShareError,
      g_ShareError := PySem.W.mg_of X G g_ShareError,
      e_ShareError := Gx.ecB_ok e_ShareError,
      x_ShareError := x_ShareError,
      k_ShareError := k_ShareError,
      ty_ShareError := ty_ShareError,
      c_InvalidName := c_InvalidName,
      g_InvalidName := PySem.W.mg_of X G g_InvalidName,
      e_InvalidName := Gx.ecB_ok e_InvalidName,
      x_InvalidName := x_InvalidName,
      k_InvalidName := k_InvalidName,
      ty_InvalidName := ty_InvalidName,
      c_InvalidRow := c_InvalidRow,
      g_InvalidRow := PySem.W.mg_of X G g_InvalidRow,
      e_InvalidRow := Gx.ecB_ok e_InvalidRow,
      x_InvalidRow := x_InvalidRow,
      k_InvalidRow := k_InvalidRow,
      ty_InvalidRow := ty_InvalidRow,
      c_InvalidHouse := c_InvalidHouse,
      g_InvalidHouse := PySem.W.mg_of X G g_InvalidHouse,
      e_InvalidHouse := Gx.ecB_ok e_InvalidHouse,
      x_InvalidHouse := x_InvalidHouse,
      k_InvalidHouse := k_InvalidHouse,
      ty_InvalidHouse := ty_InvalidHouse,
      c_InvalidWish := c_InvalidWish,
      g_InvalidWish := PySem.W.mg_of X G g_InvalidWish,
      e_InvalidWish := Gx.ecB_ok e_InvalidWish,
      x_InvalidWish := x_InvalidWish,
      k_InvalidWish := k_InvalidWish,
      ty_InvalidWish := ty_InvalidWish,
      c_InvalidShare := c_InvalidShare,
      g_InvalidShare := PySem.W.mg_of X G g_InvalidShare,
      e_InvalidShare := Gx.ecB_ok e_InvalidShare,
      x_InvalidShare := x_InvalidShare,
      k_InvalidShare := k_InvalidShare,
      ty_InvalidShare := ty_InvalidShare,
      c_InvalidOperation := c_InvalidOperation,
      g_InvalidOperation := PySem.W.mg_of X G g_InvalidOperation,
      e_InvalidOperation := Gx.ecB_ok e_InvalidOperation,
      x_InvalidOperation := x_InvalidOperation,
      k_InvalidOperation := k_InvalidOperation,
      ty_InvalidOperation := ty_InvalidOperation,
      c_Unmatched := c_Unmatched,
      g_Unmatched := PySem.W.mg_of X G g_Unmatched,
      e_Unmatched := ⟨⟨_, _, _, _, _, _, _, _, _, _, _, _, _, _, _, x_Unmatched, y_Unmatched⟩, sa_Unmatched, ty_Unmatched, k_Unmatched, Gx.ecB_ok e_Unmatched⟩,
      i_Unmatched := i_Unmatched,
      ti_Unmatched := ti_Unmatched,
      nf_Unmatched := nf_Unmatched,
      c_ParseError := c_ParseError,
      g_ParseError := PySem.W.mg_of X G g_ParseError,
      e_ParseError := ⟨⟨_, _, _, _, _, _, _, _, _, _, _, _, _, _, _, x_ParseError, y_ParseError⟩, sa_ParseError, ty_ParseError, k_ParseError, Gx.ecB_ok e_ParseError⟩,
      i_ParseError := i_ParseError,
      ti_ParseError := ti_ParseError,
      nf_ParseError := nf_ParseError,
      c_InvalidNumber := c_InvalidNumber,
      g_InvalidNumber := PySem.W.mg_of X G g_InvalidNumber,
      e_InvalidNumber := ⟨⟨_, _, _, _, _, _, _, _, _, _, _, _, _, _, _, x_InvalidNumber, y_InvalidNumber⟩, sa_InvalidNumber, ty_InvalidNumber, k_InvalidNumber, Gx.ecB_ok e_InvalidNumber⟩,
      i_InvalidNumber := i_InvalidNumber,
      ti_InvalidNumber := ti_InvalidNumber,
      nf_InvalidNumber := nf_InvalidNumber,
      s_InvalidNumber := s_InvalidNumber,
      fs_InvalidNumber := fs_InvalidNumber,
      c_UnknownName := c_UnknownName,
      g_UnknownName := PySem.W.mg_of X G g_UnknownName,
      e_UnknownName := ⟨⟨_, _, _, _, _, _, _, _, _, _, _, _, _, _, _, x_UnknownName, y_UnknownName⟩, sa_UnknownName, ty_UnknownName, k_UnknownName, Gx.ecB_ok e_UnknownName⟩,
      i_UnknownName := i_UnknownName,
      ti_UnknownName := ti_UnknownName,
      nf_UnknownName := nf_UnknownName,
      s_UnknownName := s_UnknownName,
      fs_UnknownName := fs_UnknownName,
      c_TooMany := c_TooMany,
      g_TooMany := PySem.W.mg_of X G g_TooMany,
      e_TooMany := ⟨⟨_, _, _, _, _, _, _, _, _, _, _, _, _, _, _, x_TooMany, y_TooMany⟩, sa_TooMany, ty_TooMany, k_TooMany, Gx.ecB_ok e_TooMany⟩,
      i_TooMany := i_TooMany,
      ti_TooMany := ti_TooMany,
      nf_TooMany := nf_TooMany,
      c_NothingToUndo := c_NothingToUndo,
      g_NothingToUndo := PySem.W.mg_of X G g_NothingToUndo,
      e_NothingToUndo := ⟨⟨_, _, _, _, _, _, _, _, _, _, _, _, _, _, _, x_NothingToUndo, y_NothingToUndo⟩, sa_NothingToUndo, ty_NothingToUndo, k_NothingToUndo, Gx.ecB_ok e_NothingToUndo⟩,
      i_NothingToUndo := i_NothingToUndo,
      ti_NothingToUndo := ti_NothingToUndo,
      nf_NothingToUndo := nf_NothingToUndo,
      c_Unsteady := c_Unsteady,
      g_Unsteady := PySem.W.mg_of X G g_Unsteady,
      e_Unsteady := ⟨⟨_, _, _, _, _, _, _, _, _, _, _, _, _, _, _, x_Unsteady, y_Unsteady⟩, sa_Unsteady, ty_Unsteady, k_Unsteady, Gx.ecB_ok e_Unsteady⟩,
      i_Unsteady := i_Unsteady,
      ti_Unsteady := ti_Unsteady,
      nf_Unsteady := nf_Unsteady,
      c_Refused := c_Refused,
      g_Refused := PySem.W.mg_of X G g_Refused,
      e_Refused := ⟨⟨_, _, _, _, _, _, _, _, _, _, _, _, _, _, _, x_Refused, y_Refused⟩, sa_Refused, ty_Refused, k_Refused, Gx.ecB_ok e_Refused⟩,
      i_Refused := i_Refused,
      ti_Refused := ti_Refused,
      nf_Refused := nf_Refused,
      tabK := tabK,
      tabX := tabX,
      n_repr := PySem.W.mg_none_of X G z0,
      n_int := PySem.W.mg_none_of X G z1,
      n_max := PySem.W.mg_none_of X G z2,
      n_abs := PySem.W.mg_none_of X G z3,
      n_len := PySem.W.mg_none_of X G z4,
      n_range := PySem.W.mg_none_of X G z5,
      n_list := PySem.W.mg_none_of X G z6,
      n_isinstance := PySem.W.mg_none_of X G z7,
      n_ZeroDivisionError := PySem.W.mg_none_of X G z8,
      n_OverflowError := PySem.W.mg_none_of X G z9,
      n_ArithmeticError := PySem.W.mg_none_of X G z10,
      n_KeyError := PySem.W.mg_none_of X G z11,
      n_IndexError := PySem.W.mg_none_of X G z12,
      n_LookupError := PySem.W.mg_none_of X G z13,
      n_ValueError := PySem.W.mg_none_of X G z14,
      n_str := PySem.W.mg_none_of X G z15,
      n_min := PySem.W.mg_none_of X G z16 }, rfl, fun s v => .of_eq rfl⟩
theorem fin {K : PySem.W.Frag} {mg : Str → Option Value} {fa : Addr} {w : World} {P : Program} (E : ∃ T : Tx K mg, T.a_law = fa ∧ ∀ (s : Shared) (v : Value), BindsTo s T.d_law ⟨[v], []⟩ [("script", v)]) :
    ∃ fd : FuncData, (∀ (s : Shared) (v : Value), BindsTo s fd ⟨[v], []⟩ [("script", v)]) ∧ ∀ base : Heap, K.In base → base.Ns mainGlobals mg → FnG P w K mg base CX0 6 fa fd ["script"] (spLaw K) := by
  obtain ⟨T, rfl, b⟩ := E
  exact ⟨T.d_law, b, fun _ _ _ => ok_law T⟩
end W1
open PySem PySem.W PyProof.Rows
set_option maxHeartbeats 0 in
theorem PySem.Challenge.cw_eachshare_k01_whole_errors_holds : PySem.Challenge.rw_eachshare_k01_whole_errors.Holds := by
  w_on; o_law; k_head; (case hw => w_witness2)
  k_fill
  refine Gd.walk_G (l := PySem.Challenge.rw_eachshare_k01_whole_errors) (n := 63) (k := 6) (x := "script") (sp := fun w => W1.spLaw _) rfl (by decide) rfl ⟨rfl, by decide, by decide⟩ (fun w h Y => PySem.W.kIn_of Y) ?F (fun _ _ a ns hl _ hS => ⟨a, ns, rfl, hS, hl, fun _ => rfl⟩)
  case F =>
    intro w mg fa h KX G hmg
    refine' W1.fin (W1.mk_T KX G hmg ?g_ShareError ?e_ShareError ?k_ShareError ?ty_ShareError ?x_ShareError ?g_InvalidName ?e_InvalidName ?k_InvalidName ?ty_InvalidName ?x_InvalidName ?g_InvalidRow ?e_InvalidRow ?k_InvalidRow ?ty_InvalidRow ?x_InvalidRow ?g_InvalidHouse ?e_InvalidHouse ?k_InvalidHouse ?ty_InvalidHouse ?x_InvalidHouse ?g_InvalidWish ?e_InvalidWish ?k_InvalidWish ?ty_InvalidWish ?x_InvalidWish ?g_InvalidShare ?e_InvalidShare ?k_InvalidShare ?ty_InvalidShare ?x_InvalidShare ?g_InvalidOperation ?e_InvalidOperation ?k_InvalidOperation ?ty_InvalidOperation ?x_InvalidOperation ?g_Unmatched ?e_Unmatched ?k_Unmatched ?ty_Unmatched ?x_Unmatched ?y_Unmatched ?sa_Unmatched ?i_Unmatched ?ti_Unmatched ?nf_Unmatched ?g_ParseError ?e_ParseError ?k_ParseError ?ty_ParseError ?x_ParseError ?y_ParseError ?sa_ParseError ?i_ParseError ?ti_ParseError ?nf_ParseError ?g_InvalidNumber ?e_InvalidNumber ?k_InvalidNumber ?ty_InvalidNumber ?x_InvalidNumber ?y_InvalidNumber ?sa_InvalidNumber ?i_InvalidNumber ?ti_InvalidNumber ?nf_InvalidNumber ?s_InvalidNumber ?fs_InvalidNumber ?g_UnknownName ?e_UnknownName ?k_UnknownName ?ty_UnknownName ?x_UnknownName ?y_UnknownName ?sa_UnknownName ?i_UnknownName ?ti_UnknownName ?nf_UnknownName ?s_UnknownName ?fs_UnknownName ?g_TooMany ?e_TooMany ?k_TooMany ?ty_TooMany ?x_TooMany ?y_TooMany ?sa_TooMany ?i_TooMany ?ti_TooMany ?nf_TooMany ?g_NothingToUndo ?e_NothingToUndo ?k_NothingToUndo ?ty_NothingToUndo ?x_NothingToUndo ?y_NothingToUndo ?sa_NothingToUndo ?i_NothingToUndo ?ti_NothingToUndo ?nf_NothingToUndo ?g_Unsteady ?e_Unsteady ?k_Unsteady ?ty_Unsteady ?x_Unsteady ?y_Unsteady ?sa_Unsteady ?i_Unsteady ?ti_Unsteady ?nf_Unsteady ?g_Refused ?e_Refused ?k_Refused ?ty_Refused ?x_Refused ?y_Refused ?sa_Refused ?i_Refused ?ti_Refused ?nf_Refused ?tabK ?tabX ?l0 ?c0 ?k0 ?l1 ?c1 ?k1 ?l2 ?c2 ?k2 ?l3 ?c3 ?k3 ?l4 ?c4 ?k4 ?l5 ?c5 ?k5 ?l6 ?c6 ?k6 ?l7 ?c7 ?k7 ?l8 ?c8 ?k8 ?l9 ?c9 ?k9 ?a10 ?l10 ?c10 ?k10 ?a11 ?l11 ?c11 ?k11 ?a12 ?l12 ?c12 ?k12 ?a13 ?l13 ?c13 ?k13 ?a14 ?l14 ?c14 ?k14 ?a15 ?l15 ?c15 ?k15 ?a16 ?l16 ?c16 ?k16 ?a17 ?l17 ?c17 ?k17 ?a18 ?l18 ?c18 ?k18 ?a19 ?l19 ?c19 ?k19 ?a20 ?l20 ?c20 ?k20 ?a21 ?l21 ?c21 ?k21 ?a22 ?l22 ?c22 ?k22 ?a23 ?l23 ?c23 ?k23 ?a24 ?l24 ?c24 ?k24 ?a25 ?l25 ?c25 ?k25 ?a26 ?l26 ?c26 ?k26 ?z0 ?z1 ?z2 ?z3 ?z4 ?z5 ?z6 ?z7 ?z8 ?z9 ?z10 ?z11 ?z12 ?z13 ?z14 ?z15 ?z16)
    (case g_ShareError => first | k_is | k_exc | kernel_rfl); (case e_ShareError => first | k_is | k_exc | kernel_rfl); (case k_ShareError => first | k_is | k_exc | kernel_rfl); (case ty_ShareError => first | k_is | k_exc | kernel_rfl); (case x_ShareError => first | k_is | k_exc | kernel_rfl); (case g_InvalidName => first | k_is | k_exc | kernel_rfl); (case e_InvalidName => first | k_is | k_exc | kernel_rfl); (case k_InvalidName => first | k_is | k_exc | kernel_rfl); (case ty_InvalidName => first | k_is | k_exc | kernel_rfl); (case x_InvalidName => first | k_is | k_exc | kernel_rfl); (case g_InvalidRow => first | k_is | k_exc | kernel_rfl); (case e_InvalidRow => first | k_is | k_exc | kernel_rfl); (case k_InvalidRow => first | k_is | k_exc | kernel_rfl); (case ty_InvalidRow => first | k_is | k_exc | kernel_rfl); (case x_InvalidRow => first | k_is | k_exc | kernel_rfl); (case g_InvalidHouse => first | k_is | k_exc | kernel_rfl); (case e_InvalidHouse => first | k_is | k_exc | kernel_rfl); (case k_InvalidHouse => first | k_is | k_exc | kernel_rfl); (case ty_InvalidHouse => first | k_is | k_exc | kernel_rfl); (case x_InvalidHouse => first | k_is | k_exc | kernel_rfl); (case g_InvalidWish => first | k_is | k_exc | kernel_rfl); (case e_InvalidWish => first | k_is | k_exc | kernel_rfl); (case k_InvalidWish => first | k_is | k_exc | kernel_rfl); (case ty_InvalidWish => first | k_is | k_exc | kernel_rfl); (case x_InvalidWish => first | k_is | k_exc | kernel_rfl); (case g_InvalidShare => first | k_is | k_exc | kernel_rfl); (case e_InvalidShare => first | k_is | k_exc | kernel_rfl); (case k_InvalidShare => first | k_is | k_exc | kernel_rfl); (case ty_InvalidShare => first | k_is | k_exc | kernel_rfl); (case x_InvalidShare => first | k_is | k_exc | kernel_rfl); (case g_InvalidOperation => first | k_is | k_exc | kernel_rfl); (case e_InvalidOperation => first | k_is | k_exc | kernel_rfl); (case k_InvalidOperation => first | k_is | k_exc | kernel_rfl); (case ty_InvalidOperation => first | k_is | k_exc | kernel_rfl); (case x_InvalidOperation => first | k_is | k_exc | kernel_rfl); (case g_Unmatched => first | k_is | k_exc | kernel_rfl); (case e_Unmatched => first | k_is | k_exc | kernel_rfl); (case k_Unmatched => first | k_is | k_exc | kernel_rfl); (case ty_Unmatched => first | k_is | k_exc | kernel_rfl); (case x_Unmatched => first | k_is | k_exc | kernel_rfl); (case y_Unmatched => first | k_is | k_exc | kernel_rfl); (case sa_Unmatched => first | k_is | k_exc | kernel_rfl); (case i_Unmatched => first | k_is | k_exc | kernel_rfl); (case ti_Unmatched => first | k_is | k_exc | kernel_rfl); (case nf_Unmatched => first | k_is | k_exc | kernel_rfl); (case g_ParseError => first | k_is | k_exc | kernel_rfl); (case e_ParseError => first | k_is | k_exc | kernel_rfl); (case k_ParseError => first | k_is | k_exc | kernel_rfl); (case ty_ParseError => first | k_is | k_exc | kernel_rfl); (case x_ParseError => first | k_is | k_exc | kernel_rfl); (case y_ParseError => first | k_is | k_exc | kernel_rfl); (case sa_ParseError => first | k_is | k_exc | kernel_rfl); (case i_ParseError => first | k_is | k_exc | kernel_rfl); (case ti_ParseError => first | k_is | k_exc | kernel_rfl); (case nf_ParseError => first | k_is | k_exc | kernel_rfl); (case g_InvalidNumber => first | k_is | k_exc | kernel_rfl); (case e_InvalidNumber => first | k_is | k_exc | kernel_rfl); (case k_InvalidNumber => first | k_is | k_exc | kernel_rfl); (case ty_InvalidNumber => first | k_is | k_exc | kernel_rfl); (case x_InvalidNumber => first | k_is | k_exc | kernel_rfl); (case y_InvalidNumber => first | k_is | k_exc | kernel_rfl); (case sa_InvalidNumber => first | k_is | k_exc | kernel_rfl); (case i_InvalidNumber => first | k_is | k_exc | kernel_rfl); (case ti_InvalidNumber => first | k_is | k_exc | kernel_rfl); (case nf_InvalidNumber => first | k_is | k_exc | kernel_rfl); (case s_InvalidNumber => first | k_is | k_exc | kernel_rfl); (case fs_InvalidNumber => first | k_is | k_exc | kernel_rfl); (case g_UnknownName => first | k_is | k_exc | kernel_rfl); (case e_UnknownName => first | k_is | k_exc | kernel_rfl); (case k_UnknownName => first | k_is | k_exc | kernel_rfl); (case ty_UnknownName => first | k_is | k_exc | kernel_rfl); (case x_UnknownName => first | k_is | k_exc | kernel_rfl); (case y_UnknownName => first | k_is | k_exc | kernel_rfl); (case sa_UnknownName => first | k_is | k_exc | kernel_rfl); (case i_UnknownName => first | k_is | k_exc | kernel_rfl); (case ti_UnknownName => first | k_is | k_exc | kernel_rfl); (case nf_UnknownName => first | k_is | k_exc | kernel_rfl); (case s_UnknownName => first | k_is | k_exc | kernel_rfl); (case fs_UnknownName => first | k_is | k_exc | kernel_rfl); (case g_TooMany => first | k_is | k_exc | kernel_rfl); (case e_TooMany => first | k_is | k_exc | kernel_rfl); (case k_TooMany => first | k_is | k_exc | kernel_rfl); (case ty_TooMany => first | k_is | k_exc | kernel_rfl); (case x_TooMany => first | k_is | k_exc | kernel_rfl); (case y_TooMany => first | k_is | k_exc | kernel_rfl); (case sa_TooMany => first | k_is | k_exc | kernel_rfl); (case i_TooMany => first | k_is | k_exc | kernel_rfl); (case ti_TooMany => first | k_is | k_exc | kernel_rfl); (case nf_TooMany => first | k_is | k_exc | kernel_rfl); (case g_NothingToUndo => first | k_is | k_exc | kernel_rfl); (case e_NothingToUndo => first | k_is | k_exc | kernel_rfl); (case k_NothingToUndo => first | k_is | k_exc | kernel_rfl); (case ty_NothingToUndo => first | k_is | k_exc | kernel_rfl); (case x_NothingToUndo => first | k_is | k_exc | kernel_rfl); (case y_NothingToUndo => first | k_is | k_exc | kernel_rfl); (case sa_NothingToUndo => first | k_is | k_exc | kernel_rfl); (case i_NothingToUndo => first | k_is | k_exc | kernel_rfl); (case ti_NothingToUndo => first | k_is | k_exc | kernel_rfl); (case nf_NothingToUndo => first | k_is | k_exc | kernel_rfl); (case g_Unsteady => first | k_is | k_exc | kernel_rfl); (case e_Unsteady => first | k_is | k_exc | kernel_rfl); (case k_Unsteady => first | k_is | k_exc | kernel_rfl); (case ty_Unsteady => first | k_is | k_exc | kernel_rfl); (case x_Unsteady => first | k_is | k_exc | kernel_rfl); (case y_Unsteady => first | k_is | k_exc | kernel_rfl); (case sa_Unsteady => first | k_is | k_exc | kernel_rfl); (case i_Unsteady => first | k_is | k_exc | kernel_rfl); (case ti_Unsteady => first | k_is | k_exc | kernel_rfl); (case nf_Unsteady => first | k_is | k_exc | kernel_rfl); (case g_Refused => first | k_is | k_exc | kernel_rfl); (case e_Refused => first | k_is | k_exc | kernel_rfl); (case k_Refused => first | k_is | k_exc | kernel_rfl); (case ty_Refused => first | k_is | k_exc | kernel_rfl); (case x_Refused => first | k_is | k_exc | kernel_rfl); (case y_Refused => first | k_is | k_exc | kernel_rfl); (case sa_Refused => first | k_is | k_exc | kernel_rfl); (case i_Refused => first | k_is | k_exc | kernel_rfl); (case ti_Refused => first | k_is | k_exc | kernel_rfl); (case nf_Refused => first | k_is | k_exc | kernel_rfl); (case tabK => first | k_is | k_exc | kernel_rfl); (case tabX => first | k_is | k_exc | kernel_rfl); (case l0 => first | k_is | k_exc | kernel_rfl); (case c0 => first | k_is | k_exc | kernel_rfl); (case k0 => first | k_is | k_exc | kernel_rfl); (case l1 => first | k_is | k_exc | kernel_rfl); (case c1 => first | k_is | k_exc | kernel_rfl); (case k1 => first | k_is | k_exc | kernel_rfl); (case l2 => first | k_is | k_exc | kernel_rfl); (case c2 => first | k_is | k_exc | kernel_rfl); (case k2 => first | k_is | k_exc | kernel_rfl); (case l3 => first | k_is | k_exc | kernel_rfl); (case c3 => first | k_is | k_exc | kernel_rfl); (case k3 => first | k_is | k_exc | kernel_rfl); (case l4 => first | k_is | k_exc | kernel_rfl); (case c4 => first | k_is | k_exc | kernel_rfl); (case k4 => first | k_is | k_exc | kernel_rfl); (case l5 => first | k_is | k_exc | kernel_rfl); (case c5 => first | k_is | k_exc | kernel_rfl); (case k5 => first | k_is | k_exc | kernel_rfl); (case l6 => first | k_is | k_exc | kernel_rfl); (case c6 => first | k_is | k_exc | kernel_rfl); (case k6 => first | k_is | k_exc | kernel_rfl); (case l7 => first | k_is | k_exc | kernel_rfl); (case c7 => first | k_is | k_exc | kernel_rfl); (case k7 => first | k_is | k_exc | kernel_rfl); (case l8 => first | k_is | k_exc | kernel_rfl); (case c8 => first | k_is | k_exc | kernel_rfl); (case k8 => first | k_is | k_exc | kernel_rfl); (case l9 => first | k_is | k_exc | kernel_rfl); (case c9 => first | k_is | k_exc | kernel_rfl); (case k9 => first | k_is | k_exc | kernel_rfl); (case a10 => first | k_is | k_exc | kernel_rfl); (case l10 => first | k_is | k_exc | kernel_rfl); (case c10 => first | k_is | k_exc | kernel_rfl); (case k10 => first | k_is | k_exc | kernel_rfl); (case a11 => first | k_is | k_exc | kernel_rfl); (case l11 => first | k_is | k_exc | kernel_rfl); (case c11 => first | k_is | k_exc | kernel_rfl); (case k11 => first | k_is | k_exc | kernel_rfl); (case a12 => first | k_is | k_exc | kernel_rfl); (case l12 => first | k_is | k_exc | kernel_rfl); (case c12 => first | k_is | k_exc | kernel_rfl); (case k12 => first | k_is | k_exc | kernel_rfl); (case a13 => first | k_is | k_exc | kernel_rfl); (case l13 => first | k_is | k_exc | kernel_rfl); (case c13 => first | k_is | k_exc | kernel_rfl); (case k13 => first | k_is | k_exc | kernel_rfl); (case a14 => first | k_is | k_exc | kernel_rfl); (case l14 => first | k_is | k_exc | kernel_rfl); (case c14 => first | k_is | k_exc | kernel_rfl); (case k14 => first | k_is | k_exc | kernel_rfl); (case a15 => first | k_is | k_exc | kernel_rfl); (case l15 => first | k_is | k_exc | kernel_rfl); (case c15 => first | k_is | k_exc | kernel_rfl); (case k15 => first | k_is | k_exc | kernel_rfl); (case a16 => first | k_is | k_exc | kernel_rfl); (case l16 => first | k_is | k_exc | kernel_rfl); (case c16 => first | k_is | k_exc | kernel_rfl); (case k16 => first | k_is | k_exc | kernel_rfl); (case a17 => first | k_is | k_exc | kernel_rfl); (case l17 => first | k_is | k_exc | kernel_rfl); (case c17 => first | k_is | k_exc | kernel_rfl); (case k17 => first | k_is | k_exc | kernel_rfl); (case a18 => first | k_is | k_exc | kernel_rfl); (case l18 => first | k_is | k_exc | kernel_rfl); (case c18 => first | k_is | k_exc | kernel_rfl); (case k18 => first | k_is | k_exc | kernel_rfl); (case a19 => first | k_is | k_exc | kernel_rfl); (case l19 => first | k_is | k_exc | kernel_rfl); (case c19 => first | k_is | k_exc | kernel_rfl); (case k19 => first | k_is | k_exc | kernel_rfl); (case a20 => first | k_is | k_exc | kernel_rfl); (case l20 => first | k_is | k_exc | kernel_rfl); (case c20 => first | k_is | k_exc | kernel_rfl); (case k20 => first | k_is | k_exc | kernel_rfl); (case a21 => first | k_is | k_exc | kernel_rfl); (case l21 => first | k_is | k_exc | kernel_rfl); (case c21 => first | k_is | k_exc | kernel_rfl); (case k21 => first | k_is | k_exc | kernel_rfl); (case a22 => first | k_is | k_exc | kernel_rfl); (case l22 => first | k_is | k_exc | kernel_rfl); (case c22 => first | k_is | k_exc | kernel_rfl); (case k22 => first | k_is | k_exc | kernel_rfl); (case a23 => first | k_is | k_exc | kernel_rfl); (case l23 => first | k_is | k_exc | kernel_rfl); (case c23 => first | k_is | k_exc | kernel_rfl); (case k23 => first | k_is | k_exc | kernel_rfl); (case a24 => first | k_is | k_exc | kernel_rfl); (case l24 => first | k_is | k_exc | kernel_rfl); (case c24 => first | k_is | k_exc | kernel_rfl); (case k24 => first | k_is | k_exc | kernel_rfl); (case a25 => first | k_is | k_exc | kernel_rfl); (case l25 => first | k_is | k_exc | kernel_rfl); (case c25 => first | k_is | k_exc | kernel_rfl); (case k25 => first | k_is | k_exc | kernel_rfl); (case a26 => first | k_is | k_exc | kernel_rfl); (case l26 => first | k_is | k_exc | kernel_rfl); (case c26 => first | k_is | k_exc | kernel_rfl); (case k26 => first | k_is | k_exc | kernel_rfl); (case z0 => first | k_is | k_exc | kernel_rfl); (case z1 => first | k_is | k_exc | kernel_rfl); (case z2 => first | k_is | k_exc | kernel_rfl); (case z3 => first | k_is | k_exc | kernel_rfl); (case z4 => first | k_is | k_exc | kernel_rfl); (case z5 => first | k_is | k_exc | kernel_rfl); (case z6 => first | k_is | k_exc | kernel_rfl); (case z7 => first | k_is | k_exc | kernel_rfl); (case z8 => first | k_is | k_exc | kernel_rfl); (case z9 => first | k_is | k_exc | kernel_rfl); (case z10 => first | k_is | k_exc | kernel_rfl); (case z11 => first | k_is | k_exc | kernel_rfl); (case z12 => first | k_is | k_exc | kernel_rfl); (case z13 => first | k_is | k_exc | kernel_rfl); (case z14 => first | k_is | k_exc | kernel_rfl); (case z15 => first | k_is | k_exc | kernel_rfl); (case z16 => first | k_is | k_exc | kernel_rfl)
