import PyProof.Rows.All
import Wide.All
import OpenK.AllK
import Wide.FinOn
import HandS.ForExc
import HandS.ExcInit
import HandS.IsInst
import HandS.MakeKw
import KE.KExcInit
import KE.KExcIs
import HandS.ForMost
import HandS.Ends
import HandS.EndBits
import PyProof.ReprRoads
import HandS.Wide
import HandS.ExcField
import PySem.Challenge.RW_likelybook_k01_limits_and_errors
import HandS.Walk
set_option Elab.async false
set_option linter.all false
set_option maxRecDepth 100000
set_option maxHeartbeats 4000000
namespace Xv
open PySem PySem.W PySem.Calls PyProof.Rows PySem.HandSPX
section
variable {M : Model} {A : Around} {E : Value → Shared → Prop} {h : Heap} {g : Array GenState} {d : Drawn} {t : Nat} {os : OsState}
variable {nm q : Str} {C N : Addr} {bs bm bmB : List Value} {hdct : Bool} {sn : List Str} {sub : List Value} {ab : Bool} {col : Option Bool} {dd : Option Addr} {k0 k1 k2 k3 k5 : Option Value} {B newId initId : String}
theorem chk_new (F : ExcBaseFacts B newId initId bmB) (hT : ∀ X : String, bm.contains (.type X) = bmB.contains (.type X)) {rest : List Value} {kw : List (Str × Value)} {Q : Unit → Shared → Prop}
    (hC : h.get? C = some (excClassObj nm q C N bs bm hdct sn sub ab col dd k0 k1 k2 k3 k5 newId)) (hq : Q () ⟨h, g, d, t, os⟩) :
    wpAny M A (checkBuiltinCall newId ⟨.ref C :: rest, kw⟩) Q E ⟨h, g, d, t, os⟩ := by
  have hc1 : (Value.ref C :: bm).contains (.type B) = true := by rw [List.contains_cons, hT, F.hasB, Bool.or_true]
  have hs1 := F.noStar
  simp only [checkBuiltinCall, F.newKind, F.newSplit, F.newRow]
  repeat (first
    | refine wpAny_loadPart_at hC ?_
    | (refine wpAny_isSubtype_exc hC ?_; rw [hc1])
    | refine wpAny_staticBase_exc hC ?_
    | refine wpAny_madeBy_exc hC ?_
    | simp only [bne_self_eq_false, Bool.false_eq_true, if_false]
    | wp_step)

  exact hq
end
section
variable {prog : Program} {w : World} {A : Around} {E : Value → Shared → Prop} {R : Result → Shared → Prop} {h : Heap} {g : Array GenState} {d : Drawn} {t : Nat} {os : OsState}
variable {nm q : Str} {C N : Addr} {bs bm bmB : List Value} {hdct : Bool} {sn : List Str} {sub : List Value} {ab : Bool} {col : Option Bool} {dd : Option Addr} {k0 k1 k2 k3 k5 : Option Value} {B newId initId : String}
theorem run_new (F : ExcBaseFacts B newId initId bmB) (hT : ∀ X : String, bm.contains (.type X) = bmB.contains (.type X)) {rest : List Value} {kw : List (Str × Value)}
    (hC : h.get? C = some (excClassObj nm q C N bs bm hdct sn sub ab col dd k0 k1 k2 k3 k5 newId)) (hz : rest.length ≤ sizeLine)
    (hq : R (.ok (.ret (.ref (h.objs.size + 1)))) ⟨(h.push (kdv_tup rest)).push (excO C h.objs.size), g, d, t, os⟩) :
    codeAny (model prog w) A (.builtin newId ⟨.ref C :: rest, kw⟩) R ⟨h, g, d, t, os⟩ := by
  have he1 := F.ends
  have c1 : (Value.ref C :: bm).contains (.type B) = true := by rw [List.contains_cons, hT, F.hasB, Bool.or_true]
  have c2 : (Value.ref C :: bm).contains (.type "AttributeError") = false := by rw [List.contains_cons, hT, F.noAttr]; rfl
  have c3 : (Value.ref C :: bm).contains (.type "NameError") = false := by rw [List.contains_cons, hT, F.noName]; rfl
  refine codeAny_builtinAt F.entry ?_
  unfold Builtin.«BaseException.__new__»
  refine PySem.wpAt_bind ?_
  show PySem.wpAt _ _ _ (stack >>= _) _ _ _
  refine PySem.wpAt_bind (PySem.wpAt_stack fun p below => PySem.wpAt_of_wpAny ?_)
  wp_walk
  refine PySem.wpAt_of_wpAny ?_
  rw [F.owner]
  repeat (first
    | with_reducible refine wpAny_madeHere_exc F.canon hC ?_
    | with_reducible refine wpAny_loadPart_at hC ?_
    | (with_reducible refine wpAny_isSubtype_exc hC ?_; first | rw [c1] | rw [c2] | rw [c3])
    | wp_step)
  show R _ _
  rw [Heap.size_push]
  exact hq
theorem run_tcall (F : ExcBaseFacts B newId initId bmB) (hT : ∀ X : String, bm.contains (.type X) = bmB.contains (.type X)) {rest : List Value} {kw : List (Str × Value)} {fI : Addr} {Q : Fin → Shared → Prop}
    (hC : h.get? C = some (excClassObj nm q C N bs bm hdct sn sub ab col dd k0 k1 k2 k3 k5 newId)) 
    (hi : W.Looks (model prog w) h (typeLookup (.ref C) "__init__") (some (.ref fI)))
    (hb : ∀ self, W.Looks (model prog w) h (bindSpecial (.ref fI) self) (.ref fI, [self])) (hz : rest.length ≤ sizeLine)
    (hq : codeAny (model prog w) A (.call (.ref fI) ⟨.ref (h.objs.size + 1) :: rest, kw⟩)
      (fun r s' => match r with
        | .ok (.ret v) => v = .none ∧ Q (.done (.ret (.ref (h.objs.size + 1)))) s'
        | .ok _ => False
        | .error e => E e s')
      ⟨(h.push (kdv_tup rest)).push (excO C h.objs.size), g, d, t, os⟩) :
    wpAny (model prog w) A (Builtin.«type.__call__» ⟨.ref C :: rest, kw⟩) Q E ⟨h, g, d, t, os⟩ := by
  repeat (first
    | with_reducible refine wpAny_loadPart_at hC ?_
    | with_reducible refine wpAny_madeBy_exc hC ?_
    | wp_step)
  refine codeAny_call_builtin_code (Code.quiet_builtin _ F.quiet) (chk_new F hT hC ?_)
  refine run_new F hT hC hz ?_
  show wpAny _ _ _ _ _ _
  have k : ∀ b o, h.get? b = some o → ((h.push (kdv_tup rest)).push (excO C h.objs.size)).get? b = some o := fun b o e =>
    Heap.get?_push_of_some _ (Heap.get?_push_of_some _ e)
  have hC1 := k _ _ hC
  have hg1 : ((h.push (kdv_tup rest)).push (excO C h.objs.size)).get? (h.objs.size + 1) = some (excO C h.objs.size) := by heap_get
  have cC : (Value.ref C :: bm).contains (.ref C) = true := by simp
  have i1 := hi.keeps k
  have b1 := (hb (.ref (h.objs.size + 1))).keeps k
  unfold isInstance
  repeat (first
    | with_reducible refine wpAny_loadPart_at hg1 ?_
    | (with_reducible refine wpAny_isSubtype_exc hC1 ?_; rw [cC])
    | wp_step)
  show wpAny _ _ (typeLookup (.ref C) _) _ _ _
  refine i1.at ?_
  refine wpAny_holding (wpAny_bind (b1.at ?_))
  refine wpAny_bind (wpAny_call (codeAny_mono hq fun r s' z => ?_))
  rcases r with e | (v | _ | _ | _) <;> first | exact z | exact z.elim | skip
  obtain ⟨rfl, z⟩ := z
  first
    | exact wpAny_pure (wpAny_pure z)
    | (wp_walk; exact z)
theorem run_ccall (F : ExcBaseFacts B newId initId bmB) (hT : ∀ X : String, bm.contains (.type X) = bmB.contains (.type X)) {rest : List Value} {kw : List (Str × Value)} {fI : Addr}
    (hC : h.get? C = some (excClassObj nm q C N bs bm hdct sn sub ab col dd k0 k1 k2 k3 k5 newId))
    (hi : W.Looks (model prog w) h (typeLookup (.ref C) "__init__") (some (.ref fI)))
    (hb : ∀ self, W.Looks (model prog w) h (bindSpecial (.ref fI) self) (.ref fI, [self])) (hz : rest.length ≤ sizeLine)
    (hq : codeAny (model prog w) (A.under (.builtin "type.__call__" ⟨.ref C :: rest, kw⟩)) (.call (.ref fI) ⟨.ref (h.objs.size + 1) :: rest, kw⟩) (W.InitBack (h.objs.size + 1) R)
      ⟨(h.push (kdv_tup rest)).push (excO C h.objs.size), g, d, t, os⟩) :
    codeAny (model prog w) A (.call (.ref C) ⟨rest, kw⟩) R ⟨h, g, d, t, os⟩ := by
  have f1 := tc_lookup
  have f2 := tc_bind (.ref C)
  have hTy : (⟨h, g, d, t, os⟩ : Shared).TypeIs (.ref C) "type" := ⟨_, hC, rfl⟩
  refine codeAny_of_tree ?_
  show wpAny _ _ (callAny (.ref C) _) _ _ _
  repeat (any_goals (first
    | assumption
    | with_reducible refine wpAny_loadPart_at hC ?_
    | wp_step))
  refine ⟨rfl, ?_⟩
  refine codeAny_call_builtin_at (Code.quiet_builtin _ (by decide +kernel)) entry_typeCall (wpAny_check_type_call_sub hC (run_tcall F hT hC hi hb hz ?_))
  refine codeAny_mono hq fun r s' z => ?_
  rcases r with e | (v | _ | _ | _) <;> exact z
end
end Xv

set_option maxRecDepth 100000
set_option maxHeartbeats 4000000
namespace Xv
open PySem PySem.Spec PyProof.Rows L2
/-! what the written part says of an own exception class at C -/
def xcB (K : PySem.W.Frag) (C : Addr) (bmB : List Value) (newId : String) : Bool :=
  PySem.W.excInitIn K C bmB newId && (PySem.W.hasDictIn K C &&
  (decide (PySem.W.findIn K (.ref C) "__setattr__" = some (some (.builtin "object.__setattr__"))) &&
  (decide (PySem.W.findIn K (.ref C) "__getattribute__" = some (some (.builtin "BaseException.__getattribute__"))) &&
  (decide (PySem.W.findIn K (.ref C) "__getattr__" = some none) &&
  (decide (PySem.W.subIn K (.ref C) (.type "BaseException") = some true) &&
  (decide (PySem.W.typeIn K (.ref C) = some (.type "type")) &&
  (PySem.W.keepIn K (.ref C) &&
  (decide (PySem.W.findIn K (.ref C) "__class__" = some (some (.builtin "object.__class__"))) &&
  decide (PySem.W.mroIn K C (.type "object") = some true)))))))))
structure XC (K : PySem.W.Frag) (C : Addr) (bmB : List Value) (newId : String) : Prop where
  mkk : PySem.W.excInitIn K C bmB newId = true
  hd : PySem.W.hasDictIn K C = true
  sa : PySem.W.findIn K (.ref C) "__setattr__" = some (some (.builtin "object.__setattr__"))
  ga : PySem.W.findIn K (.ref C) "__getattribute__" = some (some (.builtin "BaseException.__getattribute__"))
  gg : PySem.W.findIn K (.ref C) "__getattr__" = some none
  exC : PySem.W.subIn K (.ref C) (.type "BaseException") = some true
  tyC : PySem.W.typeIn K (.ref C) = some (.type "type")
  kC : PySem.W.keepIn K (.ref C) = true
  ca : PySem.W.findIn K (.ref C) "__class__" = some (some (.builtin "object.__class__"))
  ob : PySem.W.mroIn K C (.type "object") = some true
theorem xc_of {K : PySem.W.Frag} {C : Addr} {bmB : List Value} {newId : String} (h : xcB K C bmB newId = true) : XC K C bmB newId := by
  unfold xcB at h
  simp only [Bool.and_eq_true, decide_eq_true_eq] at h
  obtain ⟨h1, h2, h3, h4, h5, h6, h7, h8, h9, h10⟩ := h
  exact ⟨h1, h2, h3, h4, h5, h6, h7, h8, h9, h10⟩
/-- the class object, as the library's rules want it -/
theorem XC.cls {K : PySem.W.Frag} {C : Addr} {bmB : List Value} {newId : String} (T : XC K C bmB newId) : ∃ nm q N bs bm sn sub ab col dd k0 k1 k2 k3 k5,
    K.lookup C = some (excClassObj nm q C N bs bm true sn sub ab col dd k0 k1 k2 k3 k5 newId) ∧ PySem.W.excTail bmB bm = true := by
  have q := T.mkk
  have hd := T.hd
  unfold PySem.W.excInitIn at q
  unfold PySem.W.hasDictIn PySem.W.clsIn at hd
  split at q
  · rename_i dd cd sl ho
    rw [ho] at hd
    split at q
    · rename_i C' bm k0 k1 k2 k3 n k5 hm hs
      simp only [Bool.and_eq_true, beq_iff_eq, Bool.not_eq_true'] at q
      obtain ⟨⟨⟨rfl, rfl⟩, hdel⟩, ht⟩ := q
      obtain ⟨nm, bs, mro, ns, qn, hdd, sn, sub, ab, col, del⟩ := cd
      simp only at hm hdel hd
      have hdd1 : hdd = true := by simpa using hd
      subst hm hdel hdd1
      have hsl : sl = #[k0, k1, k2, k3, some (.builtin n), k5] := by
        obtain ⟨l⟩ := sl
        simp only at hs
        rw [hs]
      subst hsl
      exact ⟨nm, qn, ns, bs, bm, sn, sub, ab, col, dd, k0, k1, k2, k3, k5, ho, ht⟩
    · cases q
  · cases q

section
variable {X : Cx} {pins : List (Addr × Obj)} {σ : L2.St} {H : Hp} {s : Shared} {a C dx : Addr} {f : Str} {y : V} {u : Value} {fs : List (Str × V)}
  {bmB : List Value} {B newId initId : String} {Q : Unit → Shared → Prop} {E : Value → Shared → Prop} {A : Around}
/-- Base.__init__(self, ..): nothing of it is told -/
theorem x_init {us : List Value} {Q : Value → Shared → Prop} (F : ExcBaseFacts B newId initId bmB) (T : XC X.K C bmB newId) (I : Inv X pins σ H s) (e : H a = some (exo a C none))
    (hl : us.length ≤ sizeLine) (h : ∀ s', Inv X pins σ H s' → Q .none s') : wpAny (model X.prog X.w) A (call (.builtin initId) (.ref a :: us)) Q E s := by
  obtain ⟨nm, q, N, bs, bm, sn, sub, ab, col, dd, k0, k1, k2, k3, k5, hC, hbm⟩ := T.cls
  obtain ⟨t1, ho⟩ := exo_at I.hok e
  obtain ⟨hp, g, d, t, os⟩ := s
  refine wpAny_call (PySem.HandSPX.init_base F (fun Y => PySem.W.excTail_contains Y bm hbm) (I.kIn _ _ hC) ho hl fun h' t2 k hx => ?_)
  have J := I.write (t' := t) (x := a) (e := a) (o := exo a C none) (by rw [e]; exact True.intro) (.inl rfl) k ⟨_, hx⟩ (exo_ok hx)
  have eu : upd H a (exo a C none) = H := by
    funext b
    by_cases hb : b = a
    · rw [hb, upd_same, e]
    · rw [upd_ne hb]
  rw [eu] at J
  exact h _ J
/-- object.__setattr__ on an exception: past the classes, to the own dict -/
theorem x_osa {R : Result → Shared → Prop} {hp : Heap} {g : Array GenState} {d : Drawn} {t : Nat} {os : OsState} {K : PySem.W.Frag} {name : Str} {tk : Tok} {v : Value} {x : Addr} {fv : Array Value} {prog : Program} {w : World}
    (SF : StoreFacts B bmB "object.__setattr__" "object") (T : XC K C bmB newId) (X : K.In hp) (hx : hp.get? x = some { cls := .ref C, data := .fields fv }) (ha : PySem.W.findIn K (.ref C) name = some none)
    (hq : ∀ h' tk' dx, (∀ b o, b ≠ x → hp.get? b = some o → h'.get? b = some o) → hp.objs.size ≤ dx → dx ≠ x → h'.get? x = some { cls := .ref C, dict := some dx, data := .fields fv } →
      h'.Ns1 dx (fun y => if y = name then some v else none) → R (.ok (.ret .none)) ⟨h', g, d, tk', os⟩) :
    codeAny (model prog w) A (.call (.builtin "object.__setattr__") ⟨[.ref x, .str name tk, v], []⟩) R ⟨hp, g, d, t, os⟩ := by
  have J : PySem.W.InstAt hp x { cls := .ref C, data := .fields fv } C none := ⟨hx, rfl, rfl, trivial⟩
  have hxs : x ≠ hp.objs.size := Nat.ne_of_lt (Heap.lt_size hx)
  obtain ⟨nm, q, N, bs, bm, sn, sub, ab, col, dd, k0, k1, k2, k3, k5, hC, hbm⟩ := T.cls
  have hcl : PySem.W.clsIn K C = some { name := nm, bases := bs, mro := .ref C :: bm, ns := N, qualname := q, hasDict := true, slotNames := sn, subclasses := sub, abstract := ab, collection := col, hasDel := false } := by
    unfold PySem.W.clsIn
    rw [hC]
  have hov : PySem.W.excOver K C bmB = true := by
    unfold PySem.W.excOver
    rw [hcl]
    simp [hbm]
  have htk : PySem.W.takerIn K C name = some none := by
    unfold PySem.W.takerIn
    rw [ha]
    rfl
  refine PySem.W.osa_openX (s := ⟨hp, g, d, t, os⟩) (r := none) SF X J hov htk fun b => ?_
  have hcls : PySem.W.Looks (model prog w) hp (classData C) _ := PySem.W.looks_clsIn X hcl
  show wpAny _ _ (Builtin.ObjectAttr.storeInOwnDict (.ref x) (.ref C) (.str name tk) name v b) _ _ _
  unfold Builtin.ObjectAttr.storeInOwnDict Builtin.ObjectAttr.ownDictForStores
  repeat (first
    | with_reducible refine PySem.HandSPX.store_in_new ?_ ?_
    | with_reducible refine wpAny_loadPart_at hx ?_
    | with_reducible refine hcls.at ?_
    | wp_step)
  · exact ⟨_, #[], _, (Heap.get?_update_ne _ _ _ _ hxs.symm).trans (Heap.get?_push_at rfl rfl), rfl, fun e he => absurd he (by simp), fun _ => rfl⟩
  · intro h' tk' hn' hs
    have hx1 : (hp.push { cls := .type "dict", data := .dict #[] }).get? x = some { cls := .ref C, data := .fields fv } := Heap.get?_push_of_some _ hx
    refine hq h' tk' hp.objs.size (fun b o hb ho => ?_) (Nat.le_refl _) hxs.symm ?_ hn'
    · exact (hs.2 b (Nat.ne_of_lt (Heap.lt_size ho))).trans ((Heap.get?_update_ne _ _ _ _ hb).trans (Heap.get?_push_of_some _ ho))
    · exact (hs.2 x hxs).trans (Heap.get?_update_self _ hx1 rfl)
end
end Xv

set_option maxRecDepth 100000
set_option maxHeartbeats 4000000
namespace Xv
open PySem PySem.Spec PyProof.Rows L2
section
variable {X : Cx} {pins : List (Addr × Obj)} {σ : L2.St} {H : Hp} {s : Shared} {a C : Addr} {f : Str} {y : V} {u : Value}
  {bmB : List Value} {B newId initId : String}
/-- self.f = y, the first field of an exception -/
theorem x_set {A : Around} {E : Value → Shared → Prop} {Q : Unit → Shared → Prop} (SF : StoreFacts B bmB "object.__setattr__" "object") (T : XC X.K C bmB newId) (I : Inv X pins σ H s)
    (e : H a = some (exo a C none)) (hno : PySem.W.findIn X.K (.ref C) f = some none) (ry : RelV y u)
    (h : ∀ dx s', H dx = none → dx ≠ a → Inv X pins σ (upd (upd H dx (exd dx [(f, y)])) a (exo a C (some dx))) s' → Q () s') :
    wpAny (model X.prog X.w) A (setAttr (.ref a) f u) Q E s := by
  obtain ⟨t1, ho⟩ := exo_at I.hok e
  obtain ⟨hp, g, d, t, os⟩ := s
  refine PySem.W.set_plain I.kIn (ox := _) (od := none) ⟨ho, rfl, rfl, trivial⟩ T.sa ?_
  refine x_osa SF T I.kIn ho hno (fun h' tk' dx k dn dne hx hn => ?_)
  have hnd : H dx = none := I.hok.fresh dn
  have nd : ∀ {b : Addr} {o : Obj}, hp.get? b = some o → b ≠ dx := fun {b o} q => Nat.ne_of_lt (Nat.lt_of_lt_of_le (Heap.lt_size q) dn)
  have na : ∀ {b : Addr}, H b = none → b ≠ a := fun {b} n z => by
    rw [z, e] at n
    cases n
  have U : Un X.fs [] H (upd (upd H dx (exd dx [(f, y)])) a (exo a C (some dx))) hp h' := by
    refine ⟨fun b o q n _ _ => k b o (na n) q, fun b o q n _ _ => ⟨o.slots, k b o (na n) q⟩, fun b o q n _ => ?_, fun b o q _ => ?_, fun b xs q => ?_, fun b o v q => ?_, fun b ps q => ⟨#[], ?_⟩⟩
    · rw [upd_ne (na n), upd_ne (nd q)]
      exact n
    · by_cases hb : b = a
      · exact ⟨_, by rw [hb]; exact hx⟩
      · exact ⟨o, k b o hb q⟩
    · rw [upd_ne (at_ne e q exo_tup), upd_ne (ne_of_none q hnd)]
      exact q
    · rw [upd_ne (at_ne e q exo_frz), upd_ne (ne_of_none q hnd)]
      exact q
    · rw [upd_ne (at_ne e q exo_tbl), upd_ne (ne_of_none q hnd), q]
      simp
  refine h dx _ hnd dne (I.un (t' := tk') U fun b o q => ?_)
  by_cases hb : b = a
  · subst hb
    rw [upd_same] at q
    cases q
    exact exo_ok hx
  · rw [upd_ne hb] at q
    by_cases hd : b = dx
    · subst hd
      rw [upd_same] at q
      cases q
      exact exd_ok hn (relO_put (fs := []) ry fun g => True.intro)
    · rw [upd_ne hd] at q
      refine (I.hok b o q).stay (fun c v hc z => k c v ?_ z) (fun c hc => ?_) (fun c xs hc => ?_)
      · rcases hc with hc | hc
        · rw [hc]
          exact hb
        · exact at_ne e hc exo_own
      · rw [upd_ne (at_ne e hc exo_own), upd_ne (ne_of_none hc hnd)]
        exact hc
      · rw [upd_ne (at_ne e hc exo_tup), upd_ne (ne_of_none hc hnd)]
        exact hc
/-! the readings -/
/-- Base.__init__(self, ..) in __init__ of the class at C -/
def tXi (C : Addr) (ta : TA) : TE := fun σ H Q => ta σ H fun vs H1 => ∃ (a : Addr) (ws : List V), vs = .ref a :: ws ∧ ws.length ≤ 1000 ∧ H1 a = some (exo a C none) ∧ Q .non H1
/-- self.f = e, the first field -/
def tXs (C : Addr) (f : Str) (to te : TE) : TS := fun D σ H => te σ H fun y H1 => to σ H1 fun x H2 => ∃ a : Addr, x = .ref a ∧ H2 a = some (exo a C none) ∧
  ∀ dx, H2 dx = none → dx ≠ a → D.nx σ (upd (upd H2 dx (exd dx [(f, y)])) a (exo a C (some dx)))
/-- what the base class at D (own) says of __init__ -/
structure XB (K : PySem.W.Frag) (D : Addr) (initId : String) : Prop where
  rd : PySem.W.readsIn K D (.type "type") = true
  gs : PySem.W.specialIn K (.ref D) "__getattribute__" = some (some (.builtin "type.__getattribute__"))
  hand : PySem.W.handedIn (.builtin initId) = true
  ini : PySem.W.findCls K (.ref D) (.type "type") "__init__" = some (.val (.builtin initId))
variable {o e : Expr} {es : List Expr} {to te : TE} {ta : TA} {p p' p1 p2 pos : Pos} {x : Str} {D : Addr}
theorem pe_xinit {pl : Sem Bool} (F : ExcBaseFacts B newId initId bmB) (T : XC X.K C bmB newId) (W : XB X.K D initId) (hg : Gl X x) (hm : X.mg x = some (.ref D)) (ha : PA X (e :: es) ta) (hdb : (x == ("__debug__" : Str)) = false := by decide)
    (hc : eval (.Call (.Attribute (.Name x p1) "__init__" p2) (e :: es) [] pos) X.env = (do
      let ov ← eval (.Name x p1) X.env
      standAt p2.atName
      let (f, first) ← holding [ov] (getMethod ov "__init__" pl)
      callWith pos f first (backTo pos (starEach (e :: es) X.env)) (backToKw pos (keywordEach [] X.env))) := by rfl)
    (he : starEach (e :: es) X.env = (false, eval e X.env) :: starEach es X.env := by rfl) (hpl : (backTo pos (starEach es X.env)).any (·.1) = false := by rfl) :
    PE X (.Call (.Attribute (.Name x p1) "__init__" p2) (e :: es) [] pos) (tXi C ta) := by
  refine ⟨fun pins s σ H Q I h => ?_⟩
  refine PySem.W.methodCall_KW (ld_glob I hg hm ?_ hdb) hc
  refine PySem.W.method_cls I.kIn W.gs (PySem.W.cls_value I.kIn W.rd W.ini W.hand ?_)
  show wpAny _ _ (callWith pos (Value.builtin initId) [] (backTo pos (starEach (e :: es) X.env)) []) _ _ _
  refine PyProof.Rows.callWith_method1 (thn (ha.run pos pins _ σ H _ (I.tok _) h) fun us s1 ⟨vs, H1, I1, r1, a, ws, ev, hl, ea, q⟩ => ?_) he hpl
  subst ev
  cases r1 with
  | @cons _ u0 _ ur ra rw' =>
    obtain rfl : u0 = Value.ref a := ra
    have hlen : ur.length ≤ sizeLine := by
      rw [← Paired.length rw', sizeLine_eq]
      omega
    exact x_init F T I1 ea hlen fun s' J => ⟨.non, H1, J, rfl, q⟩
theorem ps_xset (SF : StoreFacts B bmB "object.__setattr__" "object") (T : XC X.K C bmB newId) (hno : PySem.W.findIn X.K (.ref C) f = some none) (ho : PE X o to) (he : PE X e te)
    (hs : swapsWith e (some (.Attribute o f p')) pos.line X.env = pure false := by rfl) : PS X (.Assign [.Attribute o f p'] e pos) (tXs C f to te) := by
  refine ⟨fun pins s σ H D I h => ?_⟩
  refine plainObj_wpAny_Assign_Attribute (thn (he.run pins s σ H _ I h) fun v s1 ⟨y, H1, I1, r1, q1⟩ => thn (ho.run pins s1 σ H1 _ I1 q1) fun u s2 ⟨x, H2, I2, r2, a, ex, ea, q⟩ => ?_) hs
  subst ex
  obtain rfl : u = Value.ref a := r2
  exact x_set SF T I2 ea hno r1 fun dx s' n ne J => ⟨σ, _, J, q dx n ne⟩
end
/-! the promise of such an __init__, and the body that keeps it -/
def spXI (C : Addr) (f : Str) : Sp := fun vs H Q _ => ∃ (a : Addr) (v : V), vs = [.ref a, v] ∧ H a = some (exo a C none) ∧
  ∀ d, H d = none → d ≠ a → Q .non (upd (upd H d (exd d [(f, v)])) a (exo a C (some d)))
/-! the three built-in bases of this package -/
abbrev mroV : List Value := [.type "ValueError", .type "Exception", .type "BaseException", .type "object"]
abbrev mroL : List Value := [.type "LookupError", .type "Exception", .type "BaseException", .type "object"]
abbrev mroA : List Value := [.type "ArithmeticError", .type "Exception", .type "BaseException", .type "object"]
end Xv

set_option maxRecDepth 100000
set_option maxHeartbeats 4000000
namespace Xv
open PySem PySem.Spec PyProof.Rows L2
theorem kbn_of {K : PySem.W.Frag} {x qual : Str} {st : Stmt} {f : Addr} {fd : FuncData} {ps ks : List Str} {n : Nat} {g : List Value → List Value → List Value} {gV : List V → List V → List V} (F : Fun K x qual st f fd)
    (h : ∀ (kV doc pm : Value) (an : Option Addr) (cdv ct : Value) (us ws : List Value), us.length = n → ws.length = ks.length →
      bindArgs (PySem.W.fnOf x qual (defArgs st) (defBody st) (defScope st) .none kV doc pm an cdv ct) ⟨us, ks.zip ws⟩ = pure (ps.zip (g us ws)))
    (hrel : ∀ {vs : List V} {us : List Value} {zs : List V} {ws : List Value}, Vals vs us → Vals zs ws → Vals (gV vs zs) (g us ws)) : KBn K fd ps n ks g gV := by
  obtain ⟨oc, od, kV, doc, pm, an, cdv, ct, osl, rfl, lk, hcd⟩ := F.ex
  exact ⟨fun s us ws _ l1 l2 => .of_eq (h kV doc pm an cdv ct us ws l1 l2), hrel⟩
/-- C(e, .., k = v, ..), C an own exception class with an own __init__ that keeps sp: the exception as a value -/
def tXn (C : Addr) (n m : Nat) (sp : Sp) (gV : List V → List V → List V) (t tk : TA) : TE := fun σ H Q => t σ H fun vs H1 => tk σ H1 fun zs H2 => vs.length = n ∧ zs.length = m ∧
  ∀ a, H2 a = none → sp (gV (.ref a :: vs) zs) (upd H2 a (exo a C none)) (fun v H3 => v = .non ∧ Q (.ref a) H3) E0
section
variable {X : Cx} {k n : Nat} {fI C : Addr} {fd : FuncData} {ps ks : List Str} {sp : Sp} {x : Str} {p pos : Pos} {e : Expr} {es : List Expr} {kws : List Keyword} {t tk : TA} {g : List Value → List Value → List Value} {gV : List V → List V → List V}
  {bmB : List Value} {B newId initId : String}
structure XM (K : PySem.W.Frag) (C fI : Addr) : Prop where
  ini : PySem.W.findIn K (.ref C) "__init__" = some (some (.ref fI))
  ty : PySem.W.typeIn K (.ref fI) = some (.type "function")
theorem run_xn {pins : List (Addr × Obj)} {σ : L2.St} {H : Hp} {s : Shared} {Q : VK} {us ws : List Value} {vs zs : List V} (FB : ExcBaseFacts B newId initId bmB) (T : XC X.K C bmB newId) (M : XM X.K C fI)
    (F1 : FnOk X.prog X.w X.K X.mg X.base CX0 k fI fd ps sp) (hr : Room (k + 1) X.A) (hb : KBn X.K fd ps (n + 1) ks g gV)
    (I : Inv X pins σ H s) (r : Vals vs us) (rz : Vals zs ws) (l1 : vs.length = n) (l2 : zs.length = ks.length) (hn : n ≤ 1000)
    (h : ∀ a, H a = none → sp (gV (.ref a :: vs) zs) (upd H a (exo a C none)) (fun v H3 => v = .non ∧ Q (.ref a) H3) E0) :
    wpAny (model X.prog X.w) X.A (call (.ref C) us (ks.zip ws)) (EP X pins σ Q) X.xe s := by
  obtain ⟨nm, q, N, bs, bm, sn, sub, ab, col, dd, k0, k1, k2, k3, k5, hC, hbm⟩ := T.cls
  obtain ⟨hp, gs, dr, tok, os⟩ := s
  have hsz : hp.objs.size ≤ hp.objs.size + 1 := Nat.le_succ _
  have hq := h (hp.objs.size + 1) (I.hok.fresh hsz)
  have kk : ∀ b o, hp.get? b = some o → ((hp.push (PySem.W.kdv_tup us)).push (PySem.HandSPX.excO C hp.objs.size)).get? b = some o := fun b o e =>
    Heap.get?_push_of_some _ (Heap.get?_push_of_some _ e)
  have hget : ((hp.push (PySem.W.kdv_tup us)).push (PySem.HandSPX.excO C hp.objs.size)).get? (hp.objs.size + 1) = some (PySem.HandSPX.excO C hp.objs.size) := by heap_get
  have I2 : Inv X pins σ (upd H (hp.objs.size + 1) (exo (hp.objs.size + 1) C none)) ⟨(hp.push (PySem.W.kdv_tup us)).push (PySem.HandSPX.excO C hp.objs.size), gs, dr, tok, os⟩ :=
    I.laid (t' := tok) kk hsz (exo_ok hget)
  have ra : Vals (V.ref (hp.objs.size + 1) :: vs) (Value.ref (hp.objs.size + 1) :: us) := .cons rfl r
  have e1 : (Value.ref (hp.objs.size + 1) :: us).length = n + 1 := ra.length.symm.trans (congrArg Nat.succ l1)
  have e2 : ws.length = ks.length := rz.length.symm.trans l2
  have hus : us.length ≤ sizeLine := by
    rw [← Paired.length r, sizeLine_eq]
    omega
  refine wpAny_call (run_ccall FB (fun Y => PySem.W.excTail_contains Y bm hbm) (I.kIn _ _ hC) (PySem.W.looks_findIn I.kIn M.ini) (fun self => PySem.W.bind_fn I.kIn self M.ty) hus
    (codeAny_mono (F1.run _ X.stack _ _ ⟨Value.ref (hp.objs.size + 1) :: us, ks.zip ws⟩ (g (Value.ref (hp.objs.size + 1) :: us) ws) _ _ E0 (hr.make C us (ks.zip ws)) (I2.env0.make C us (ks.zip ws)) (hb.to _ _ ws I2.kIn e1 e2) (hb.rel ra rz) hq) fun r s' hq' => ?_))
  cases r with
  | error er => exact hq'.elim
  | ok fl =>
    cases fl with
    | ret u =>
      obtain ⟨v, H', I3, rv, ev, q3⟩ := I2.after hq'
      subst ev
      exact ⟨rv, ⟨V.ref (hp.objs.size + 1), H', I3, rfl, q3⟩⟩
    | next => exact False.elim hq'
    | brk => exact False.elim hq'
    | cont => exact False.elim hq'
theorem pe_xn (FB : ExcBaseFacts B newId initId bmB) (T : XC X.K C bmB newId) (M : XM X.K C fI) (F1 : FnOk X.prog X.w X.K X.mg X.base CX0 k fI fd ps sp) (hr : Room (k + 1) X.A) (hg : Gl X x) (hm : X.mg x = some (.ref C))
    (hb : KBn X.K fd ps (n + 1) [] g gV) (ha : PA X (e :: es) t) (hn : n ≤ 1000 := by decide) (hdb : (x == ("__debug__" : Str)) = false := by decide)
    (he : starEach (e :: es) X.env = (false, eval e X.env) :: starEach es X.env := by rfl) (hpl : (backTo pos (starEach es X.env)).any (·.1) = false := by rfl) :
    PE X (.Call (.Name x p) (e :: es) [] pos) (tXn C n 0 sp gV t tNil) := by
  refine ⟨fun pins s σ H Q I h => ?_⟩
  refine wpAny_Call_Name_kw (ld_glob I hg hm ?_ hdb)
  refine PySem.W.callWith_K (h₀ := X.base) I.ok.mod.kin T.kC (thn (ha.run pos pins s σ H _ I h) fun us s1 ⟨vs, H1, I1, r, l1, l2, q⟩ => ⟨I1.kIn, ?_⟩) he hpl
  exact run_xn (ks := []) (ws := []) FB T M F1 hr hb I1 r .nil l1 l2 hn q
theorem pe_xn0 (FB : ExcBaseFacts B newId initId bmB) (T : XC X.K C bmB newId) (M : XM X.K C fI) (F1 : FnOk X.prog X.w X.K X.mg X.base CX0 k fI fd ps sp) (hr : Room (k + 1) X.A) (hg : Gl X x) (hm : X.mg x = some (.ref C))
    (hb : KBn X.K fd ps 1 [] g gV) (hdb : (x == ("__debug__" : Str)) = false := by decide) :
    PE X (.Call (.Name x p) [] [] pos) (tXn C 0 0 sp gV tNil tNil) := by
  refine ⟨fun pins s σ H Q I h => ?_⟩
  obtain ⟨l1, l2, q⟩ := h
  refine wpAny_Call_Name_kw (ld_glob I hg hm ?_ hdb)
  exact PySem.W.callWith_K0 I.kIn T.kC (run_xn (n := 0) (ks := []) (us := []) (ws := []) FB T M F1 hr hb I .nil .nil l1 l2 (by decide) q)
theorem pe_xnK (FB : ExcBaseFacts B newId initId bmB) (T : XC X.K C bmB newId) (M : XM X.K C fI) (F1 : FnOk X.prog X.w X.K X.mg X.base CX0 k fI fd ps sp) (hr : Room (k + 1) X.A) (hg : Gl X x) (hm : X.mg x = some (.ref C))
    (hb : KBn X.K fd ps 1 ks g gV) (hkw : PK X kws tk)
    (hall : (backToKw pos (keywordEach kws X.env)).all (·.1.isSome) = true := by rfl) (hks : (backToKw pos (keywordEach kws X.env)).filterMap (·.1) = ks := by rfl) (hdb : (x == ("__debug__" : Str)) = false := by decide)
    (hpl : ((backTo pos (starEach [] X.env)).any (·.1) || (backToKw pos (keywordEach kws X.env)).any (·.1.isNone)) = false := by rfl) :
    PE X (.Call (.Name x p) [] kws pos) (tXn C 0 ks.length sp gV tNil tk) := by
  refine ⟨fun pins s σ H Q I h => ?_⟩
  refine wpAny_Call_Name_kw (ld_glob I hg hm ?_ hdb)
  refine PySem.W.callWith_KW0 (h₀ := X.base) I.ok.mod.kin T.kC hall ?_ hpl
  refine thn (hkw.run pos pins s σ H _ I h) fun ws s2 ⟨zs, H2, I2, rz, l1, l2, q2⟩ => ⟨I2.kIn, ?_⟩
  rw [hks]
  exact run_xn (n := 0) (us := []) (vs := []) FB T M F1 hr hb I2 .nil rz rfl l2 (by decide) q2
/-! isinstance of such a value; its field -/
/-- what K says once of object.__class__ -/
structure XO (K : PySem.W.Frag) : Prop where
  sp : PySem.W.specialIn K (.builtin "object.__class__") "__get__" = some (some (.builtin "getset_descriptor.__get__"))
  tk : PySem.W.takesIn K (.builtin "object.__class__") = some true
def rIsX (K : PySem.W.Frag) : List V → Hp → VK → Prop := fun xs H Q => ∃ (a C : Addr) (d : Option Addr) (c : V) (cv : Value) (b : Bool), xs = [.ref a, c] ∧ ClsV c cv ∧ H a = some (exo a C d) ∧ (∀ dd, d = some dd → ∃ fs, H dd = some (exd dd fs)) ∧
  (∃ bmB newId, XC K C bmB newId) ∧ PySem.W.kitOne K (.ref C) cv = some b ∧ Q (.bl b) H
theorem xo_inst {pins : List (Addr × Obj)} {σ : L2.St} {H : Hp} {s : Shared} {a : Addr} {d : Option Addr} (I : Inv X pins σ H s) (ha : H a = some (exo a C d)) (hd : ∀ dd, d = some dd → ∃ fs, H dd = some (exd dd fs)) :
    ∃ ox od, PySem.W.InstAt s.heap a ox C od ∧ ox.dict = d ∧ (∀ dd, d = some dd → ∃ o, od = some o ∧ s.heap.get? dd = some o) := by
  obtain ⟨t1, ho⟩ := exo_at I.hok ha
  cases d with
  | none => exact ⟨_, none, ⟨ho, rfl, rfl, trivial⟩, rfl, fun _ z => nomatch z⟩
  | some dd =>
    obtain ⟨fs, hf⟩ := hd dd rfl
    obtain ⟨mA, ⟨o, es, ep, ho2, hr⟩, _⟩ := exd_at I.hok hf
    exact ⟨_, some o, ⟨ho, rfl, rfl, ho2⟩, rfl, fun _ z => ⟨o, rfl, by cases z; exact ho2⟩⟩
theorem call_isX (O : XO X.K) : CallR X (.builtin "isinstance") (rIsX X.K) := by
  intro pins s σ H xs us Q I r h
  obtain ⟨a, C, d, c, cv, b, rfl, hc, ha, hd, ⟨bmB, newId, T⟩, e, q⟩ := h
  obtain ⟨u1, u2, rfl, r1, r2⟩ := vals2 r
  have e2 := hc.eq r2
  subst e2
  cases (show u1 = Value.ref a from r1)
  obtain ⟨ox, od, J, _, _⟩ := xo_inst I ha hd
  have hcl : (PySem.W.clsIn X.K C).isSome = true := by
    obtain ⟨cd, hcd, _⟩ := PySem.W.any_some T.hd
    rw [hcd]
    rfl
  exact PySem.W.kia_one (PySem.W.kitx_exc hcl T.ga T.gg T.exC T.ca O.sp O.tk T.ob) I.kIn J e (fun z => nomatch z) fun tk => ⟨.bl b, H, I.tok tk, rfl, q⟩
/-- e.f of such a value -/
def tXf (K : PySem.W.Frag) (f : Str) (te : TE) : TE := fun σ H Q => te σ H fun x H1 => ∃ (a C d : Addr) (fs : List (Str × V)) (v : V), x = .ref a ∧ H1 a = some (exo a C (some d)) ∧ H1 d = some (exd d fs) ∧
  (∃ bmB newId, XC K C bmB newId) ∧ PySem.W.findIn K (.ref C) f = some none ∧ fs.lookup f = some v ∧ Q v H1
theorem pe_xf {e : Expr} {te : TE} {f : Str} (he : PE X e te) (hb : attributeBase e f X.env (eval e X.env) = eval e X.env := by rfl) : PE X (.Attribute e f pos) (tXf X.K f te) := by
  refine ⟨fun pins s σ H Q I h => ?_⟩
  refine attr_of hb (thn (he.run pins s σ H _ I h) fun u s1 hh => ?_)
  obtain ⟨x, H1, I1, rx, a, C, d, fs, v, ex, ea, ed, ⟨bmB, newId, T⟩, hno, l, q⟩ := hh
  subst ex
  obtain rfl : u = Value.ref a := rx
  obtain ⟨t1, ho⟩ := exo_at I1.hok ea
  obtain ⟨mA, hns, hr⟩ := exd_at I1.hok ed
  obtain ⟨od, ho2, hl⟩ := lookIn_ns hns
  obtain ⟨u, hu, ru⟩ := RelO.some_of (v := v) (o := mA f) (by rw [← l]; exact hr f)
  have J : PySem.W.InstAt s1.heap a _ C (some od) := ⟨ho, rfl, rfl, ho2⟩
  exact HandSPX.exc_get I1.kIn J T.ga T.gg T.exC (PySem.W.findObj_own T.hd hno rfl (by rw [hl, hu])) (handed_of ru) ⟨v, H1, I1.tok _, ru, q⟩
end
end Xv

set_option maxRecDepth 100000
set_option maxHeartbeats 4000000
namespace Xv
open PySem PySem.Spec PyProof.Rows L2
/-! a def's promise where nothing is being shown (no repr is under way): only so does repr of a list tell its items -/
structure FnG (P : Program) (w : World) (K : PySem.W.Frag) (mg : Str → Option Value) (base : Heap) (CX : CXT) (k : Nat) (f : Addr) (fd : FuncData) (ps : List Str) (sp : Sp) : Prop where
  len : ∀ vs H Q E, sp vs H Q E → vs.length = ps.length
  run : ∀ (A : Around) (outer : List Env) (s : Shared) (H : Hp) (args : Args) (us : List Value) (vs : List V) (Q : VK) (E : XK),
    A.guards = some [] → Room k A → Env0 P w K mg base A outer s H → BindsTo s fd args (ps.zip us) → Vals vs us → sp vs H Q E →
    codeAny (model P w) A (.call (.ref f) args) (CR CX outer P w H s Q E) s
theorem FnG.of {P : Program} {w : World} {K : PySem.W.Frag} {mg : Str → Option Value} {base : Heap} {CX : CXT} {k : Nat} {f : Addr} {fd : FuncData} {ps : List Str} {sp : Sp} (F : FnOk P w K mg base CX k f fd ps sp) : FnG P w K mg base CX k f fd ps sp :=
  ⟨F.len, fun A outer s H args us vs Q E _ => F.run A outer s H args us vs Q E⟩
theorem FnG.mono {P : Program} {w : World} {K : PySem.W.Frag} {mg : Str → Option Value} {base : Heap} {CX : CXT} {j k : Nat} {f : Addr} {fd : FuncData} {ps : List Str} {sp : Sp} (F : FnG P w K mg base CX j f fd ps sp) (h : j ≤ k) : FnG P w K mg base CX k f fd ps sp :=
  ⟨F.len, fun A outer s H args us vs Q E g hr => F.run A outer s H args us vs Q E g (hr.mono h)⟩
theorem deeper_g {A : Around} {env : Env} (h : A.guards = some []) : (A.deeper env).guards = some [] := by
  show pushGuards [] A.guards = some []
  rw [h]
  rfl
theorem fng_of {CX : CXT} {P : Program} {w : World} {K : PySem.W.Frag} {mg : Str → Option Value} {base : Heap} {k : Nat} {f : Addr} {name qual : Str} {params : Arguments} {body : List Stmt} {scope : Scope} {dV kV doc pm cdv ct oc : Value} {an od : Option Addr}
    {osl : Array (Option Value)} {N ps : List Str} {sp : Sp} (lk : K.lookup f = some ⟨oc, od, .func (PySem.W.fnOf name qual params body scope dV kV doc pm an cdv ct), osl⟩) (hcd : PySem.W.codeIn K cdv qual = true) (S : FnScope N ps scope)
    (len : ∀ vs H Q E, sp vs H Q E → vs.length = ps.length)
    (hbody : ∀ (A : Around) (outer : List Env) (s : Shared) (H : Hp) (vs : List V) (Q : VK) (E : XK), (A.deeper (envOfC qual scope s.heap.objs.size f cdv)).guards = some [] → Room k (A.deeper (envOfC qual scope s.heap.objs.size f cdv)) → sp vs H Q E →
      ∃ t, PSs (cxOf CX P w K mg base N qual scope f cdv A outer s H E) body t ∧ t { nx := fun _ H' => Q .non H', rt := Q } (start N vs) H) :
    FnG P w K mg base CX (k + 1) f (PySem.W.fnOf name qual params body scope dV kV doc pm an cdv ct) ps sp := by
  refine ⟨len, fun A outer s H args us vs Q E hgd hr e0 hb r hsp => ?_⟩
  have hl := len _ _ _ _ hsp
  have KX : K.In s.heap := e0.mod.kin.keeps fun b o e => (e0.bs b o e).1
  have hkind : ∀ y ∈ ps.zip us, scope.names.lookup y.1 = some .local ∨ (scope.names.lookup y.1 = some .cell ∧ ((cellsFrom (s.heap.objs.size + 1) scope.names []).lookup y.1).isSome = true) := by
    rintro ⟨n, v⟩ hy
    rcases S.par n (List.of_mem_zip hy).1 with q | q
    · exact .inl q
    · exact .inr ⟨q, PySem.W.cellsFrom_some _ _ _ (.inl q)⟩
  refine codeAny_call_function hr.depth (KX _ _ lk) rfl S.co S.gen rfl (PySem.W.codeRec_of KX hcd) (hb _ _ _ _ ?_)
  refine wpAny_newFunctionEnv_cells S.kind hkind fun env he s1 x => ?_
  subst he
  refine ⟨(e0.mod.nolimit.keeps fun b o e => (e0.bs b o e).1).keeps x.toInCall.keep, codeAny_func ?_⟩
  obtain ⟨t, ht, hq⟩ := hbody A outer s H vs Q E (deeper_g hgd) (hr.deeper _) hsp
  have I : Inv (cxOf CX P w K mg base N qual scope f cdv A outer s H E) [] (start N vs) H s1 := inv_start S hr.hd e0 hl r x
  refine wpAny_mono (ht.run [] s1 (start N vs) H _ I hq) (fun fl s' hs => ?_) fun e s' hs => hs
  cases fl with
  | ret u =>
    obtain ⟨v, σ', H', J, rv, q⟩ := hs
    exact ⟨v, H', J.os, J.bare, J.base, J.hok, rv, q⟩
  | next =>
    obtain ⟨σ', H', J, q⟩ := hs
    exact ⟨V.non, H', J.os, J.bare, J.base, J.hok, rfl, q⟩
  | brk =>
    obtain ⟨_, _, _, q⟩ := hs
    exact False.elim q
  | cont =>
    obtain ⟨_, _, _, q⟩ := hs
    exact False.elim q
section
variable {P : Program} {w : World} {K : PySem.W.Frag} {mg : Str → Option Value} {base : Heap}
/-- a def of the text that lets nothing out -/
theorem okG {x qual : Str} {st : Stmt} {f : Addr} {fd : FuncData} {N ps : List Str} {k : Nat} {sp : Sp} (F : Fun K x qual st f fd) (S : FnScope N ps (defScope st)) (len : ∀ vs H Q E, sp vs H Q E → vs.length = ps.length)
    (hbody : ∀ (cdv : Value) (A : Around) (outer : List Env) (s : Shared) (H : Hp) (vs : List V) (Q : VK) (E : XK), (A.deeper (envOfC qual (defScope st) s.heap.objs.size f cdv)).guards = some [] →
      Room k (A.deeper (envOfC qual (defScope st) s.heap.objs.size f cdv)) → sp vs H Q E →
      ∃ t, PSs (cxOf CX0 P w K mg base N qual (defScope st) f cdv A outer s H E).nox (defBody st) t ∧ t { nx := fun _ H' => Q .non H', rt := Q } (start N vs) H) : FnG P w K mg base CX0 (k + 1) f fd ps sp := by
  obtain ⟨oc, od, kV, doc, pm, an, cdv, ct, osl, rfl, lk, hcd⟩ := F.ex
  refine fng_of lk hcd S len fun A outer s H vs Q E hg hr hsp => ?_
  obtain ⟨t, h, q⟩ := hbody cdv A outer s H vs Q E hg hr hsp
  exact ⟨t, h.nox, q⟩
end
section
variable {X : Cx} {k : Nat} {f : Addr} {fd : FuncData} {ps : List Str} {sp : Sp} {dvs : List V} {ds : List Value} {x : Str} {p pos : Pos} {e : Expr} {es : List Expr} {t : TA} {r : List V → Hp → VK → Prop}
/-- such a def, called where nothing is being shown -/
theorem FnG.callR (F : FnG X.prog X.w X.K X.mg X.base CX0 k f fd ps sp) (hg : X.A.guards = some []) (hr : Room k X.A) (hb : Binds X.K fd ps ds) (hd : Vals dvs ds) : CallR X (.ref f) (fun vs H Q => sp (vs ++ dvs) H Q E0) := by
  intro pins s σ H vs us Q I r h
  have r2 : Vals (vs ++ dvs) (us ++ ds) := r.append hd
  have hl : (us ++ ds).length = ps.length := by
    rw [← r2.length]
    exact F.len _ _ _ _ h
  refine wpAny_call (codeAny_mono (F.run X.A X.stack s H ⟨us, []⟩ (us ++ ds) (vs ++ dvs) Q E0 hg hr I.env0 (hb s us I.kIn hl) r2 h) fun r s' hq => ?_)
  cases r with
  | error e => exact hq.elim
  | ok fl =>
    cases fl with
    | ret u => exact I.after hq
    | next => exact False.elim hq
    | brk => exact False.elim hq
    | cont => exact False.elim hq
/-- f(e, ..), f an object of the module, by what its call is worth -/
theorem pe_cf {f : Addr} (hc : CallR X (.ref f) r) (hg : Gl X x) (hm : X.mg x = some (.ref f)) (hk : PySem.W.keepIn X.K (.ref f) = true) (ha : PA X (e :: es) t) (hdb : (x == ("__debug__" : Str)) = false := by decide)
    (he : starEach (e :: es) X.env = (false, eval e X.env) :: starEach es X.env := by rfl) (hpl : (backTo pos (starEach es X.env)).any (·.1) = false := by rfl) : PE X (.Call (.Name x p) (e :: es) [] pos) (tCB r t) := by
  refine ⟨fun pins s σ H Q I h => ?_⟩
  refine wpAny_Call_Name_kw (ld_glob I hg hm ?_ hdb)
  refine PySem.W.callWith_K (h₀ := X.base) I.ok.mod.kin hk (thn (ha.run pos pins s σ H _ I h) fun us s1 ⟨vs, H1, I1, r, q⟩ => ⟨I1.kIn, ?_⟩) he hpl
  exact hc pins s1 σ H1 vs us Q I1 r q
end
/-! the law's call -/
theorem lawG {P : Program} {w : World} {K : PySem.W.Frag} {mg mb : Str → Option Value} {k : Nat} {fa a : Addr} {fd : FuncData} {x : Str} {sp : Sp} {s1 : Shared} {vs : List Value} {ns : List Int}
    (KX : K.In s1.heap) (hns : s1.heap.Ns mainGlobals mg) (hb : s1.heap.Ns builtinsNs mb) (hbb : ∀ x : Str, x ≠ "__name__" → mb x = bootBuiltins x) (hlim : s1.heap.NoLimit) (hg : s1.gens = #[])
    (ha : s1.heap.get? a = some { cls := .type "list", data := .seq vs.toArray }) (hi : IntsAre vs ns) (hl : ns.length ≤ sizeLine) (hr : Room k callerA)
    (F : ∀ base : Heap, K.In base → base.Ns mainGlobals mg → FnG P w K mg base CX0 k fa fd [x] sp) (hbind : ∀ (s : Shared) (u : Value), BindsTo s fd ⟨[u], []⟩ [(x, u)])
    (hsp : ∀ H : Hp, Only H → SqL K H a (ns.map V.int) → sp [.ref a] H (fun v _ => v = .bl true) fun _ _ _ => False) :
    codeAny (model P w) callerA (.call (.ref fa) ⟨[.ref a], []⟩) (fun r s' => r = .ok (.ret (.bool true)) ∧ OldK s1.heap s'.heap ∧ s'.os = s1.os ∧ AllBare s'.gens) s1 := by
  have rv := vals_ints hi
  have lenV := hi.length
  have core : ∀ H : Hp, Only H → SqL K H a (ns.map V.int) → HOk P w H s1.heap → (∀ b, H b ≠ none → b = a) → (H a ≠ none → K.lookup a = none) →
      codeAny (model P w) callerA (.call (.ref fa) ⟨[.ref a], []⟩) (fun r s' => r = .ok (.ret (.bool true)) ∧ OldK s1.heap s'.heap ∧ s'.os = s1.os ∧ AllBare s'.gens) s1 := by
    intro H hO hS hok hA hK
    have base_of : ∀ {b : Addr} {o : Obj}, s1.heap.get? b = some o → H b = none → (hidT s1.heap H).get? b = some o := fun e n => hidT_get e n
    have isA : ∀ {b : Addr} {u : HO}, H b = some u → b = a := fun {b u} q => hA b (by rw [q]; simp)
    have noA : ∀ {b : Addr} {o : Obj} {es : Array DictEntry} {ep : Nat}, s1.heap.get? b = some o → o.data = .dict es ep → H b = none := by
      intro b o es ep e d
      cases q : H b with
      | none => rfl
      | some u =>
        have e' := isA q
        subst e'
        rw [ha] at e
        cases e
        have d' : Data.seq vs.toArray _ = Data.dict es ep := d
        cases d'
    have nsK : ∀ {b : Addr} {m : Str → Option Value}, s1.heap.Ns b m → (hidT s1.heap H).Ns b m := fun {b m} ⟨o, es, ep, e, d, r⟩ => ⟨o, es, ep, base_of e (noA e d), d, r⟩
    have hKb : K.In (hidT s1.heap H) := by
      intro b o e
      refine base_of (KX b o e) ?_
      cases q : H b with
      | none => rfl
      | some u =>
        have e' := isA q
        subst e'
        rw [hK (by rw [q]; simp)] at e
        cases e
    obtain ⟨mc, c1, c2⟩ := hlim
    have hM : Mod K mg (hidT s1.heap H) := ⟨hKb, nsK hns, ⟨mb, nsK hb, hbb⟩, ⟨mc, nsK c1, c2⟩⟩
    have e0 : Env0 P w K mg (hidT s1.heap H) callerA [] s1 H := ⟨rfl, hM, fun b o e => of_hidT e, Nat.le_of_eq (hidT_size _ _), trivial, fun b hb => absurd (show b ∈ ([] : List Addr) from hb) (by simp), hok, .of_eq hg⟩
    refine codeAny_mono ((F _ hKb (nsK hns)).run callerA [] s1 H ⟨[.ref a], []⟩ [.ref a] [.ref a] _ _ rfl hr e0 (hbind s1 (.ref a)) (.cons rfl .nil) (hsp H hO hS)) fun r s' h => ?_
    cases r with
    | error e => exact h.elim
    | ok fl =>
      cases fl with
      | next => exact False.elim h
      | brk => exact False.elim h
      | cont => exact False.elim h
      | ret u =>
        obtain ⟨v, H', os, bare, un, hok', r', q⟩ := h
        obtain rfl : v = .bl true := q
        obtain rfl : u = Value.bool true := r'
        refine ⟨rfl, OldK.of_keep fun b o e => ?_, os, bare⟩
        cases q : H b with
        | none => exact un.keep b o e q (by intro z; exact absurd (show b ∈ ([] : List Addr) from z) (by simp)) (by simp)
        | some u =>
          rcases hO b with z | ⟨ob, xs, z⟩
          · rw [q] at z
            cases z
          · obtain ⟨e1, _⟩ := hok b _ z
            obtain ⟨e2, _⟩ := hok' b _ (un.frzs b ob _ z)
            rw [e] at e1
            cases e1
            exact e2
  cases hk : K.lookup a with
  | some o =>
    have e := KX a o hk
    rw [ha] at e
    cases e
    refine core (fun _ => none) (fun _ => .inl rfl) (.inr ⟨_, vs.toArray, _, hk, rfl, rfl, rfl, ?_, by simpa using rv⟩) (fun b u z => ?_) (fun b z => absurd rfl z) fun z => absurd rfl z
    · rw [List.size_toArray, lenV]
      exact hl
    · have z' : (none : Option HO) = some u := z
      cases z'
  | none =>
    refine core (fun b => if b = a then some (.frz { cls := .type "list", data := .seq vs.toArray } (.lst (ns.map V.int))) else none) (fun b => ?_)
      (.inl (.inr ⟨{ cls := .type "list", data := .seq vs.toArray }, if_pos rfl⟩)) (fun b u z => ?_) (fun b z => ?_) fun _ => hk
    · by_cases hb : b = a
      · exact .inr ⟨_, _, if_pos hb⟩
      · exact .inl (if_neg hb)
    · by_cases hb : b = a
      · have z' := (if_pos hb).symm.trans z
        cases z'
        subst hb
        exact ⟨ha, by rw [List.length_map]; exact hl, vs, _, rv, ha⟩
      · have z' := (if_neg hb).symm.trans z
        cases z'
    · by_cases hb : b = a
      · exact hb
      · exact absurd (if_neg hb) z
theorem walkG {l : PySem.W.OpenLaw} {n k : Nat} {q : Program} {loose : List Str} {XP : (Str → Option Value) → Heap → Prop} {YP : World → Heap → Prop} {d : DefRec} {K : Params → PySem.W.Frag} {sp : World → Sp} {x : Str}
    (hn : l.most = some n) (hn2 : n ≤ sizeLine) (hdf : d.params.defaults = []) (hr : Room k callerA)
    (hY : ∀ (w : World) (h : Heap), YP w h → (K w.params).In h)
    (F : ∀ (w : World) (mg : Str → Option Value) (fa : Addr) (h : Heap), (K w.params).In h → h.Ns mainGlobals mg → mg d.name = some (.ref fa) →
      ∃ fd : FuncData, (∀ (s : Shared) (u : Value), BindsTo s fd ⟨[u], []⟩ [(x, u)]) ∧
        ∀ base : Heap, (K w.params).In base → base.Ns mainGlobals mg → FnG l.prog w (K w.params) mg base CX0 k fa fd [x] (sp w))
    (hsp : ∀ (w : World) (H : Hp) (a : Addr) (ns : List Int), ns.length ≤ n → (∀ z ∈ ns, Builtin.Int.intBits z ≤ 1048576) → Only H → SqL (K w.params) H a (ns.map V.int) → sp w [.ref a] H (fun v _ => v = .bl true) fun _ _ _ => False) :
    PySem.W.WalkO q loose XP YP l.row.toRowW d [] (fun f vs => PySem.call f vs) := by
  refine Att.attach_callB hn hdf fun w s0 s1 mg mb fa o pm cd doc a vs ns G Y ho hd hcd hmg hobj hints hlen hbits hg => ?_
  have KX := hY w _ Y
  obtain ⟨fd, hb, hF⟩ := F w mg fa _ KX G.T.g hmg
  exact lawG KX G.T.g G.T.b G.T.builtins G.T.nolimit hg hobj hints (Nat.le_trans hlen hn2) hr hF hb fun H hO hS => hsp w H a ns hlen hbits hO hS
end Xv

set_option maxRecDepth 100000
set_option maxHeartbeats 4000000
namespace Xv
open PySem PySem.Spec PyProof.Rows L2
/-! plain data among the values: what v is worth in the heap H -/
mutual
def DV (H : Hp) : PyData → V → Prop
  | .none, v => v = .non
  | .bool b, v => v = .bl b
  | .int i, v => v = .int i
  | .str x, v => v = .str x
  | .list ds, v => ∃ a xs, v = .ref a ∧ H a = some (.lst xs) ∧ DVs H ds xs
  | .tuple ds, v => ∃ a xs, v = .ref a ∧ H a = some (.tup xs) ∧ DVs H ds xs
  | .dict kvs, v => kvs = [] ∧ ∃ a, v = .ref a ∧ H a = some (.dK [])
def DVs (H : Hp) : List PyData → List V → Prop
  | [], xs => xs = []
  | d :: ds, xs => ∃ x r, xs = x :: r ∧ DV H d x ∧ DVs H ds r
end
mutual
theorem DV.same {H H' : Hp} (s : Same H H') : ∀ (d : PyData) (v : V), DV H d v → DV H' d v
  | .none, _, h => h
  | .bool _, _, h => h
  | .int _, _, h => h
  | .str _, _, h => h
  | .list ds, v, h => by
    obtain ⟨a, xs, e, ha, hx⟩ := (show ∃ a xs, v = .ref a ∧ H a = some (.lst xs) ∧ DVs H ds xs from by simpa only [DV] using h)
    simp only [DV]
    exact ⟨a, xs, e, s _ _ ha, DVs.same s ds xs hx⟩
  | .tuple ds, v, h => by
    obtain ⟨a, xs, e, ha, hx⟩ := (show ∃ a xs, v = .ref a ∧ H a = some (.tup xs) ∧ DVs H ds xs from by simpa only [DV] using h)
    simp only [DV]
    exact ⟨a, xs, e, s _ _ ha, DVs.same s ds xs hx⟩
  | .dict kvs, v, h => by
    obtain ⟨e, a, e2, ha⟩ := (show kvs = [] ∧ ∃ a, v = .ref a ∧ H a = some (.dK []) from by simpa only [DV] using h)
    simp only [DV]
    exact ⟨e, a, e2, s _ _ ha⟩
theorem DVs.same {H H' : Hp} (s : Same H H') : ∀ (ds : List PyData) (xs : List V), DVs H ds xs → DVs H' ds xs
  | [], _, h => h
  | d :: ds, xs, h => by
    obtain ⟨x, r, e, h1, h2⟩ := (show ∃ x r, xs = x :: r ∧ DV H d x ∧ DVs H ds r from by simpa only [DVs] using h)
    simp only [DVs]
    exact ⟨x, r, e, DV.same s d x h1, DVs.same s ds r h2⟩
end
mutual
theorem reads_dv {P : Program} {w : World} {H : Hp} {h : Heap} (ok : HOk P w H h) : ∀ (d : PyData) (v : V) (u : Value), DV H d v → RelV v u → ∃ as, Reads h u d as
  | .none, v, u, hd, r => by
    have e : v = .non := by simpa only [DV] using hd
    subst e
    cases (show u = Value.none from r)
    exact ⟨_, .none⟩
  | .bool b, v, u, hd, r => by
    have e : v = .bl b := by simpa only [DV] using hd
    subst e
    cases (show u = Value.bool b from r)
    exact ⟨_, .bool b⟩
  | .int i, v, u, hd, r => by
    have e : v = .int i := by simpa only [DV] using hd
    subst e
    obtain ⟨t, rfl⟩ := (show ∃ t, u = Value.int i t from r)
    exact ⟨_, .int i t⟩
  | .str x, v, u, hd, r => by
    have e : v = .str x := by simpa only [DV] using hd
    subst e
    obtain ⟨t, rfl⟩ := (show ∃ t, u = Value.str x t from r)
    exact ⟨_, .str x t⟩
  | .list ds, v, u, hd, r => by
    obtain ⟨a, xs, e, ha, hx⟩ := (show ∃ a xs, v = .ref a ∧ H a = some (.lst xs) ∧ DVs H ds xs from by simpa only [DV] using hd)
    subst e
    cases (show u = Value.ref a from r)
    obtain ⟨_, its, n, rv, ho⟩ := (show ObjOk P w H h a (.lst xs) from ok a _ ha)
    obtain ⟨as, ra⟩ := reads_dvs ok ds xs its hx rv
    exact ⟨a :: as, .list ho rfl rfl (by simpa using ra)⟩
  | .tuple ds, v, u, hd, r => by
    obtain ⟨a, xs, e, ha, hx⟩ := (show ∃ a xs, v = .ref a ∧ H a = some (.tup xs) ∧ DVs H ds xs from by simpa only [DV] using hd)
    subst e
    cases (show u = Value.ref a from r)
    obtain ⟨_, its, rv, o, ho, hc, n, hdt⟩ := (show ObjOk P w H h a (.tup xs) from ok a _ ha)
    obtain ⟨as, ra⟩ := reads_dvs ok ds xs its hx rv
    exact ⟨as, .tuple ho hc hdt (by simpa using ra)⟩
  | .dict kvs, v, u, hd, r => by
    obtain ⟨e, a, e2, ha⟩ := (show kvs = [] ∧ ∃ a, v = .ref a ∧ H a = some (.dK []) from by simpa only [DV] using hd)
    subst e
    subst e2
    cases (show u = Value.ref a from r)
    obtain ⟨_, hsy, vs, kv, hD⟩ := (show ObjOk P w H h a (.dK []) from ok a _ ha)
    cases kv
    obtain ⟨o, es, ep, ho, hx, hdt, _, hp, _⟩ := hD
    have he : es.toList = [] := by
      cases q : es.toList with
      | nil => rfl
      | cons y r =>
        rw [q] at hp
        cases hp
    refine ⟨a :: [] ++ [], .dict (kvs := []) ho hx.1 hdt ?_ ?_⟩
    · rw [he]
      exact .nil
    · rw [he]
      exact .nil
theorem reads_dvs {P : Program} {w : World} {H : Hp} {h : Heap} (ok : HOk P w H h) : ∀ (ds : List PyData) (xs : List V) (us : List Value), DVs H ds xs → Vals xs us → ∃ as, ReadsAll h us ds as
  | [], xs, us, hd, r => by
    have e : xs = [] := by simpa only [DVs] using hd
    subst e
    cases r
    exact ⟨_, .nil⟩
  | d :: ds, xs, us, hd, r => by
    obtain ⟨x, rr, e, h1, h2⟩ := (show ∃ x r, xs = x :: r ∧ DV H d x ∧ DVs H ds r from by simpa only [DVs] using hd)
    subst e
    cases r with
    | cons r1 r2 =>
      obtain ⟨as, a1⟩ := reads_dv ok d x _ h1 r1
      obtain ⟨bs, a2⟩ := reads_dvs ok ds rr _ h2 r2
      exact ⟨as ++ bs, .cons a1 a2⟩
end
/-- an empty dict of the ledger is no table of modules -/
theorem dict_dv {P : Program} {w : World} {H : Hp} {h : Heap} {kvs : List (PyData × PyData)} {v : V} {u : Value} (ok : HOk P w H h) (hd : DV H (.dict kvs) v) (r : RelV v u) :
    kvs = [] ∧ ∃ a o n, u = .ref a ∧ (a == sysModules) = false ∧ h.get? a = some o ∧ o.cls = .type "dict" ∧ o.data = .dict #[] n := by
  obtain ⟨e, a, e2, ha⟩ := (show kvs = [] ∧ ∃ a, v = .ref a ∧ H a = some (.dK []) from by simpa only [DV] using hd)
  subst e2
  cases (show u = Value.ref a from r)
  obtain ⟨_, hsy, vs, kv, hD⟩ := (show ObjOk P w H h a (.dK []) from ok a _ ha)
  cases kv
  obtain ⟨o, es, ep, ho, hx, hdt, _, hp, _⟩ := hD
  have he : es = #[] := by
    obtain ⟨l⟩ := es
    cases l with
    | nil => rfl
    | cons y r => cases hp
  subst he
  exact ⟨e, a, o, ep, rfl, hsy, ho, hx.1, hdt⟩
mutual
/-- how plain data of the ledger is shown -/
theorem rk_dv {P : Program} {w : World} {H : Hp} {h : Heap} (ok : HOk P w H h) : ∀ (d : PyData) (v : V) (u : Value), DV H d v → RelV v u → d.showable = true → d.shown.length ≤ sizeLine → ∃ bs, ReadAtMost h d.depth bs ∧ ReprK P w bs h d.depth u d.shown
  | .none, v, u, hd, r, hs, hz => by
    have e : v = .non := by simpa only [DV] using hd
    subst e
    cases (show u = Value.none from r)
    exact ReprK.of_reads .none hs (by simp [PyData.hasDict]) hz
  | .bool b, v, u, hd, r, hs, hz => by
    have e : v = .bl b := by simpa only [DV] using hd
    subst e
    cases (show u = Value.bool b from r)
    exact ReprK.of_reads (.bool b) hs (by simp [PyData.hasDict]) hz
  | .int i, v, u, hd, r, hs, hz => by
    have e : v = .int i := by simpa only [DV] using hd
    subst e
    obtain ⟨t, rfl⟩ := (show ∃ t, u = Value.int i t from r)
    exact ReprK.of_reads (.int i t) hs (by simp [PyData.hasDict]) hz
  | .str x, v, u, hd, r, hs, hz => by
    have e : v = .str x := by simpa only [DV] using hd
    subst e
    obtain ⟨t, rfl⟩ := (show ∃ t, u = Value.str x t from r)
    exact ReprK.of_reads (.str x t) hs (by simp [PyData.hasDict]) hz
  | .list ds, v, u, hd, r, hs, hz => by
    have hz' : (listText (PyData.shownAll ds)).length ≤ sizeLine := by simpa only [PyData.shown] using hz
    obtain ⟨as, rd⟩ := reads_dv ok _ _ _ hd r
    obtain ⟨a, xs, e, ha, hx⟩ := (show ∃ a xs, v = .ref a ∧ H a = some (.lst xs) ∧ DVs H ds xs from by simpa only [DV] using hd)
    subst e
    cases (show u = Value.ref a from r)
    obtain ⟨_, its, n, rv, ho⟩ := (show ObjOk P w H h a (.lst xs) from ok a _ ha)
    obtain ⟨bs, hb, hk⟩ := rks_dv ok ds xs its hx rv (by simpa [PyData.showable] using hs) (fun t ht => Nat.le_trans (listText_mem_le ht) hz')
    have hna : a ∉ bs := not_mem_of_deeper rd (by simp only [PyData.depth]; omega) hb
    refine ⟨a :: bs, ReadAtMost.cons rd (by simp only [PyData.depth]; omega) hb, ?_⟩
    simp only [PyData.depth, PyData.shown]
    cases rv with
    | nil =>
      have e : ds = [] := by
        cases ds with
        | nil => rfl
        | cons y q => simp only [DVs] at hx; obtain ⟨_, _, z, _⟩ := hx; cases z
      subst e
      simp only [PyData.shownAll, listText_nil]
      exact ReprK.listEmpty ho rfl rfl
    | cons r1 r2 => exact ReprK.list ho rfl rfl hna (by simpa using hk.length_eq) (fun i y e => hk.item i y (by simpa using e))
  | .tuple ds, v, u, hd, r, hs, hz => by
    have hz' : (tupleText (PyData.shownAll ds)).length ≤ sizeLine := by simpa only [PyData.shown] using hz
    obtain ⟨as, rd⟩ := reads_dv ok _ _ _ hd r
    obtain ⟨a, xs, e, ha, hx⟩ := (show ∃ a xs, v = .ref a ∧ H a = some (.tup xs) ∧ DVs H ds xs from by simpa only [DV] using hd)
    subst e
    cases (show u = Value.ref a from r)
    obtain ⟨_, its, rv, o, ho, hc, n, hdt⟩ := (show ObjOk P w H h a (.tup xs) from ok a _ ha)
    obtain ⟨bs, hb, hk⟩ := rks_dv ok ds xs its hx rv (by simpa [PyData.showable] using hs) (fun t ht => Nat.le_trans (tupleText_mem_le ht) hz')
    have hna : a ∉ bs := not_mem_of_deeper rd (by simp only [PyData.depth]; omega) hb
    refine ⟨a :: bs, ReadAtMost.cons rd (by simp only [PyData.depth]; omega) hb, ?_⟩
    simp only [PyData.depth, PyData.shown]
    exact ReprK.tuple ho hc hdt hna (by simpa using hk)
  | .dict kvs, v, u, hd, r, hs, hz => by
    obtain ⟨as, rd⟩ := reads_dv ok _ _ _ hd r
    obtain ⟨e, a, o, n, e2, hsy, ho, hc, hdt⟩ := dict_dv ok hd r
    subst e
    subst e2
    have hna : a ∉ ([] : List Addr) := by simp
    refine ⟨[a], ReadAtMost.cons rd (n := 0) (by simp only [PyData.depth]; omega) (fun _ h => nomatch h), ?_⟩
    simp only [PyData.depth, PyData.shown, PyData.shownKv_eq]
    exact ReprK.dict ho hc hdt hsy hna (ReprEntriesK.of_two [] [] [] .nil .nil)
theorem rks_dv {P : Program} {w : World} {H : Hp} {h : Heap} (ok : HOk P w H h) : ∀ (ds : List PyData) (xs : List V) (us : List Value), DVs H ds xs → Vals xs us → PyData.showableAll ds = true → (∀ t ∈ PyData.shownAll ds, t.length ≤ sizeLine) →
    ∃ bs, ReadAtMost h (PyData.depthAll ds) bs ∧ ReprAllK P w bs h (PyData.depthAll ds) us (PyData.shownAll ds)
  | [], xs, us, hd, r, hs, hz => by
    have e : xs = [] := by simpa only [DVs] using hd
    subst e
    cases r
    exact ⟨[], (fun _ h => nomatch h), by simp only [PyData.shownAll]; exact .nil⟩
  | d :: ds, xs, us, hd, r, hs, hz => by
    obtain ⟨x, rr, e, h1, h2⟩ := (show ∃ x r, xs = x :: r ∧ DV H d x ∧ DVs H ds r from by simpa only [DVs] using hd)
    subst e
    have hs' : d.showable = true ∧ PyData.showableAll ds = true := by simpa [PyData.showableAll] using hs
    cases r with
    | cons r1 r2 =>
      obtain ⟨b1, hb1, k1⟩ := rk_dv ok d x _ h1 r1 hs'.1 (hz _ (by simp only [PyData.shownAll]; exact List.mem_cons_self ..))
      obtain ⟨b2, hb2, k2⟩ := rks_dv ok ds rr _ h2 r2 hs'.2 (fun t ht => hz t (by simp only [PyData.shownAll]; exact List.mem_cons_of_mem _ ht))
      refine ⟨b1 ++ b2, ?_, ?_⟩
      · simp only [PyData.depthAll]
        exact (hb1.mono (Nat.le_max_left _ _)).append (hb2.mono (Nat.le_max_right _ _))
      · simp only [PyData.depthAll, PyData.shownAll]
        exact .cons ((k1.more fun b hb => List.mem_append_left _ hb).level_le (Nat.le_max_left _ _)) (k2.more_le (fun b hb => List.mem_append_right _ hb) (Nat.le_max_right _ _))
end
/-- repr of plain data, where nothing is being shown -/
def rRepr (K : PySem.W.Frag) : List V → Hp → VK → Prop := fun xs H Q => ∃ (v : V) (d : PyData), xs = [v] ∧ DV H d v ∧ d.showable = true ∧ d.depth ≤ 40 ∧ d.shown.length ≤ sizeLine ∧ (∀ i, d = .int i → i.natAbs.log2 < 1920) ∧ Q (.str d.shown) H
theorem call_repr {X : Cx} {k : Nat} (hr : Room k X.A) (hg : X.A.guards = some []) (hs : True) : CallR X (.builtin "repr") (rRepr X.K) := by
  intro pins s σ H xs us Q I r h
  obtain ⟨v, d, rfl, hd, sh, dp, sz, hi, q⟩ := h
  cases r with
  | cons r1 r2 =>
    rename_i u us'
    cases r2
    have hu := hr.units
    have fin : ∀ (ss : Shared) (u' : Tok), Inv X pins σ H ss → EP X pins σ Q (.str d.shown u') ss := fun ss u' J => ⟨.str d.shown, H, J, ⟨u', rfl⟩, q⟩
    cases d with
    | none =>
      have e : v = .non := by simpa only [DV] using hd
      subst e
      cases (show u = Value.none from r1)
      exact PySem.P.repr_of_none (fin _ _ (I.tok _))
    | bool b =>
      have e : v = .bl b := by simpa only [DV] using hd
      subst e
      cases (show u = Value.bool b from r1)
      refine PySem.P.repr_of_bool ?_
      have z := fin { s with toks := s.toks + 1 } s.toks (I.tok _)
      cases b <;> exact z
    | int i =>
      have e : v = .int i := by simpa only [DV] using hd
      subst e
      obtain ⟨t, rfl⟩ := (show ∃ t, u = Value.int i t from r1)
      exact PySem.P.repr_of_int (hi i rfl) (fin _ _ (I.tok _))
    | str x =>
      have e : v = .str x := by simpa only [DV] using hd
      subst e
      obtain ⟨t, rfl⟩ := (show ∃ t, u = Value.str x t from r1)
      exact PySem.P.repr_of_str (fin _ _ (I.tok _)) sz
    | list ds =>
      have hz' : (listText (PyData.shownAll ds)).length ≤ sizeLine := by simpa only [PyData.shown] using sz
      obtain ⟨as, rd⟩ := reads_dv I.hok _ _ _ hd r1
      obtain ⟨a, xs, e, ha, hx⟩ := (show ∃ a xs, v = .ref a ∧ H a = some (.lst xs) ∧ DVs H ds xs from by simpa only [DV] using hd)
      subst e
      cases (show u = Value.ref a from r1)
      obtain ⟨_, its, n, rv, ho⟩ := (show ObjOk X.prog X.w H s.heap a (.lst xs) from I.hok a _ ha)
      obtain ⟨bs, hb, hk⟩ := rks_dv I.hok ds xs its hx rv (by simpa [PyData.showable] using sh) (fun t ht => Nat.le_trans (listText_mem_le ht) hz')
      have hna : a ∉ bs := not_mem_of_deeper rd (by simp only [PyData.depth]; omega) hb
      simp only [PyData.depth] at dp
      simp only [PyData.shown] at fin
      refine call_repr_slot (T := "list") (by omega) ⟨_, ho, rfl⟩ F.slot_list_repr.toG ?_
      cases rv with
      | nil =>
        have e : ds = [] := by
          cases ds with
          | nil => rfl
          | cons y q => simp only [DVs] at hx; obtain ⟨_, _, z, _⟩ := hx; cases z
        subst e
        simp only [PyData.shownAll, listText_nil] at fin
        exact call_list_repr_empty ⟨_, ho, rfl⟩ ho rfl ⟨_, _, rfl, fin _ _ (I.tok _)⟩
      | cons r1 r2 => exact call_list_reprK ho rfl rfl hna (by simpa using hk.length_eq) (fun i y e => hk.item i y (by simpa using e)) hg (fun b _ => Clear.nil b) (by show X.A.units + 1 + _ < cLine; omega) (fun _ _ z => z) (fun h' u' tk hk => ⟨_, _, rfl, fin _ _ (I.kept hk)⟩) hz'
    | tuple ds =>
      have hz' : (tupleText (PyData.shownAll ds)).length ≤ sizeLine := by simpa only [PyData.shown] using sz
      obtain ⟨as, rd⟩ := reads_dv I.hok _ _ _ hd r1
      obtain ⟨a, xs, e, ha, hx⟩ := (show ∃ a xs, v = .ref a ∧ H a = some (.tup xs) ∧ DVs H ds xs from by simpa only [DV] using hd)
      subst e
      cases (show u = Value.ref a from r1)
      obtain ⟨_, its, rv, o, ho, hc, n, hdt⟩ := (show ObjOk X.prog X.w H s.heap a (.tup xs) from I.hok a _ ha)
      obtain ⟨bs, hb, hk⟩ := rks_dv I.hok ds xs its hx rv (by simpa [PyData.showable] using sh) (fun t ht => Nat.le_trans (tupleText_mem_le ht) hz')
      have hna : a ∉ bs := not_mem_of_deeper rd (by simp only [PyData.depth]; omega) hb
      simp only [PyData.depth] at dp
      simp only [PyData.shown] at fin
      exact call_repr_slot (T := "tuple") (by omega) ⟨_, ho, hc⟩ F.slot_tuple_repr (call_tuple_reprK ho hc hdt hna (by simpa using hk) hg (fun b _ => Clear.nil b) (by show X.A.units + 1 + _ < cLine; omega) (fun _ _ z => z) (fun h' u' tk hk => ⟨_, _, rfl, fin _ _ (I.kept hk)⟩) hz')
    | dict kvs =>
      obtain ⟨e, a, o, n, e2, hsy, ho, hc, hdt⟩ := dict_dv I.hok hd r1
      subst e
      subst e2
      exact repr_of_reads' (as := a :: [] ++ []) (.dict ho hc hdt .nil .nil) sh (fun _ z => by
        have z' : sysModules = a := by simpa using z
        rw [z'] at hsy
        simp at hsy) hg (by omega) (fun _ _ z => z) (fun h' u' tk hk => fin _ _ (I.kept hk)) sz
/-! == and != of plain data -/
def rEqD : R2 := fun x y H Q => ∃ d e, DV H d x ∧ DV H e y ∧ PyData.canLay0 d = true ∧ PyData.canLay0 e = true ∧ d.depth ≤ 40 ∧ e.depth ≤ 40 ∧ Q (.bl (PyData.eqv d e)) H
def rNeD : R2 := fun x y H Q => ∃ d e, DV H d x ∧ DV H e y ∧ PyData.canLay0 d = true ∧ PyData.canLay0 e = true ∧ d.depth ≤ 40 ∧ e.depth ≤ 40 ∧ Q (.bl (!PyData.eqv d e)) H
theorem shaped_of {d : PyData} (h : PyData.canLay0 d = true) (hd : d.depth ≤ 40) : PySem.SeqAt.shaped d = true := by
  unfold PySem.SeqAt.shaped
  simp only [h, Bool.true_and, decide_eq_true_eq]
  omega
theorem op_eqD {X : Cx} {k : Nat} (hr : Room k X.A) (hs : True) : OpR X (compareOp .Eq) rEqD := by
  intro pins s σ H x y u v Q I rx ry h
  obtain ⟨d, e, hd, he, cd, ce, dd, de, q⟩ := h
  obtain ⟨as, ra⟩ := reads_dv I.hok _ _ _ hd rx
  obtain ⟨bs, rb⟩ := reads_dv I.hok _ _ _ he ry
  exact eq_dataH ra rb (shaped_of cd dd) (shaped_of ce de) hr.units ⟨.bl (PyData.eqv d e), H, I, rfl, q⟩
theorem op_neD {X : Cx} {k : Nat} (hr : Room k X.A) (hs : True) : OpR X (compareOp .NotEq) rNeD := by
  intro pins s σ H x y u v Q I rx ry h
  obtain ⟨d, e, hd, he, cd, ce, dd, de, q⟩ := h
  obtain ⟨as, ra⟩ := reads_dv I.hok _ _ _ hd rx
  obtain ⟨bs, rb⟩ := reads_dv I.hok _ _ _ he ry
  exact ne_dataH ra rb (shaped_of cd dd) (shaped_of ce de) hr.units ⟨.bl (!PyData.eqv d e), H, I, rfl, q⟩
end Xv

set_option maxRecDepth 100000
set_option maxHeartbeats 4000000
namespace Xv
open PySem PySem.Spec PyProof.Rows L2
/-! the readings, backwards: one step each -/
section
variable {σ : L2.St} {H : Hp} {Q : VK} {i : Nat} {v : V} {ta tb te : TE} {tr : TA} {r : R2} {rr : List V → Hp → VK → Prop} {g : Int → Int → V} {C : Int → Int → Prop} {a b : Int}
theorem bV (h : σ[i]? = some (some v)) (q : Q v H) : tVar i σ H Q := ⟨v, h, q⟩
theorem bC (q : Q v H) : tC v σ H Q := q
theorem bOp (h : ta σ H fun x H1 => tb σ H1 fun y H2 => r x y H2 Q) : tOp r ta tb σ H Q := h
theorem bUn {u : V → Hp → VK → Prop} (h : ta σ H fun x H1 => u x H1 Q) : tUn u ta σ H Q := h
theorem bI0 (q : Q (g a b) H) : rI0 g (.int a) (.int b) H Q := ⟨a, b, rfl, rfl, q⟩
theorem bI (c : C a b) (q : Q (g a b) H) : rI C g (.int a) (.int b) H Q := ⟨a, b, rfl, rfl, c, q⟩
theorem bCB (h : tr σ H fun vs H1 => rr vs H1 Q) : tCB rr tr σ H Q := h
theorem bIf {tt : TT} (h : tt σ H fun c H1 => if c = true then ta σ H1 Q else tb σ H1 Q) : tIf tt ta tb σ H Q := h
theorem bInt {R : Int → Prop} {S : Prop} (q : R a) : (∃ i, [V.int a] = [V.int i] ∧ R i) ∨ S := .inl ⟨a, rfl, q⟩
theorem bIntB {R : Bool → Prop} {S : Prop} {k : Bool} (q : R k) : S ∨ ∃ k', [V.bl k] = [V.bl k'] ∧ R k' := .inr ⟨k, rfl, q⟩
theorem bTup (h : tr σ H fun xs H1 => xs.length ≤ sizeLine ∧ ∀ p, H1 p = none → Q (.ref p) (upd H1 p (.tup xs))) : tTup tr σ H Q := h
theorem bLst (h : tr σ H fun xs H1 => xs.length ≤ sizeLine ∧ ∀ p, H1 p = none → Q (.ref p) (upd H1 p (.lst xs))) : tLst tr σ H Q := h
end
section
variable {σ : L2.St} {H : Hp} {G : List V → Hp → Prop} {ta : TE} {tr : TA}
theorem bNil (q : G [] H) : tNil σ H G := q
theorem bCons (h : ta σ H fun x H1 => tr σ H1 fun xs H2 => G (x :: xs) H2) : tCons ta tr σ H G := h
end
section
variable {σ : L2.St} {H : Hp} {G : Bool → Hp → Prop} {t u : TT} {te : TE} {k : Bool}
theorem bTest (h : te σ H fun x H1 => ∃ k, x = .bl k ∧ G k H1) : tTest te σ H G := h
theorem bB (h : te σ H fun x H1 => ∃ k, x = .bl k ∧ G k H1) : tB te σ H G := h
theorem bBl {R : Bool → Prop} (q : R k) : ∃ k', V.bl k = .bl k' ∧ R k' := ⟨k, rfl, q⟩
theorem bNot (h : t σ H fun c H1 => G (!c) H1) : tNot t σ H G := h
theorem bOr (h : t σ H fun c H1 => if c = true then G true H1 else u σ H1 G) : tOr t u σ H G := h
theorem bAnd (h : t σ H fun c H1 => if c = true then u σ H1 G else G false H1) : tAnd t u σ H G := h
end
section
variable {σ : L2.St} {H : Hp} {D : Ends} {t u : TS} {te : TE} {ta : TA} {g : TG} {i j : Nat} {c : TT} {v w : V}
theorem bSeq (h : t { D with nx := u D } σ H) : tSeq t u D σ H := h
theorem bAsg (h : te σ H fun x H1 => g x σ H1 D.nx) : tAsg te g D σ H := h
theorem bName {N : L2.St → Hp → Prop} (q : N (σ.set i (some v)) H) : gName i v σ H N := q
theorem bRet (h : te σ H D.rt) : tRet te D σ H := h
theorem bDrop (h : te σ H fun _ H1 => D.nx σ H1) : tDrop te D σ H := h
theorem bIfS (h : c σ H fun b H1 => if b = true then t D σ H1 else u D σ H1) : tIfS c t u D σ H := h
theorem bNext (h : D.nx σ H) : tNext D σ H := h
theorem bPar (h : ta σ H fun vs H1 => ∃ v w, vs = [v, w] ∧ D.nx ((σ.set i (some v)).set j (some w)) H1) : tPar i j ta D σ H := h
theorem bPar2 {R : V → V → Prop} (q : R v w) : ∃ v' w', [v, w] = [v', w'] ∧ R v' w' := ⟨v, w, rfl, q⟩
end
theorem bSub {to ti : TE} {t : TSet} {σ : L2.St} {H : Hp} {v : V} {N : L2.St → Hp → Prop} (h : to σ H fun o H1 => ti σ H1 fun i H2 => t o i v H2 fun H3 => N σ H3) : gSub to ti t v σ H N := h
theorem bIxL {K : PySem.W.Frag} {H : Hp} {Q : VK} {p : Addr} {xs : List V} {i : Int} {v : V} (hp : H p = some (.lst xs)) (ha : atI xs i = some v) (q : Q v H) : rIxL K (.ref p) (.int i) H Q := ⟨p, xs, i, v, rfl, rfl, SqL.of hp, ha, q⟩
theorem bSetL {H : Hp} {Q : Hp → Prop} {p : Addr} {xs : List V} {i : Int} {j : Nat} {v : V} (hp : H p = some (.lst xs)) (hj : ixN xs.length i = some j) (q : Q (upd H p (.lst (xs.set j v)))) : rSetL (.ref p) (.int i) v H Q := ⟨p, xs, i, j, rfl, rfl, hp, hj, q⟩
theorem bCall {sp : Sp} {dvs : List V} {E : XK} {t : TA} {σ : L2.St} {H : Hp} {Q : VK} (h : t σ H fun vs H1 => sp (vs ++ dvs) H1 Q E) : tCall sp dvs E t σ H Q := h
/-! a value where ways meet -/
def tMeet (t : TE) : TE := fun σ H Q => ∃ Q0 : VK, t σ H Q0 ∧ ∀ x H1, Q0 x H1 → Q x H1
theorem pe_meet {X : Cx} {e : Expr} {t : TE} (h : PE X e t) : PE X e (tMeet t) := by
  refine ⟨fun pins s σ H Q I hh => ?_⟩
  obtain ⟨Q0, h0, hq⟩ := hh
  exact wpAny_mono (h.run pins s σ H Q0 I h0) (fun u s1 ⟨v, H1, I1, r, q⟩ => ⟨v, H1, I1, r, hq _ _ q⟩) fun _ _ x => x
/-- an int, the heap as it was -/
theorem bMeetI {t : TE} {σ : L2.St} {H : Hp} {Q : VK} (P : Int → Prop) (h : t σ H fun x H1 => H1 = H ∧ ∃ c, x = .int c ∧ P c) (k : ∀ c, P c → Q (.int c) H) : tMeet t σ H Q := by
  refine ⟨_, h, fun x H1 hx => ?_⟩
  obtain ⟨rfl, c, rfl, p⟩ := hx
  exact k c p
theorem atI_of {α : Type} {xs : List α} {k : Int} {v : α} (h0 : 0 ≤ k) (h : xs[k.toNat]? = some v) : atI xs k = some v := by
  have e : ((k.toNat : Nat) : Int) = k := Int.toNat_of_nonneg h0
  rw [← e]
  exact atI_nat h
theorem cutV_mem {xs : List V} {lo hi : Option Int} {x : V} {i : Nat} (h : (cutV xs lo hi)[i]? = some x) : x ∈ xs := by
  unfold cutV at h
  exact List.mem_of_mem_drop (List.mem_of_mem_take (List.mem_of_getElem? h))
theorem bIte {A B : Prop} {b : Bool} (h1 : b = true → A) (h2 : b = false → B) : if b = true then A else B := by
  cases b with
  | true => exact h1 rfl
  | false => exact h2 rfl
theorem bDec {A B p : Prop} {i : Decidable p} (h1 : p → A) (h2 : ¬ p → B) : if @decide p i = true then A else B := by
  by_cases h : p
  · rw [if_pos (decide_eq_true h)]
    exact h1 h
  · rw [if_neg (fun z => h (of_decide_eq_true z))]
    exact h2 h
end Xv

set_option maxRecDepth 100000
set_option maxHeartbeats 4000000
namespace Xv
open PySem PySem.Spec PyProof.Rows L2
theorem same_new {H : Hp} {p : Addr} {o : HO} (h : H p = none) : Same H (upd H p o) := fun b u e => by
  rw [upd_ne (ne_of_none e h)]
  exact e
theorem DV.i {H : Hp} (i : Int) : DV H (.int i) (.int i) := by simp only [DV]
theorem DV.s {H : Hp} (x : Str) : DV H (.str x) (.str x) := by simp only [DV]
theorem DV.b {H : Hp} (b : Bool) : DV H (.bool b) (.bl b) := by simp only [DV]
theorem DV.n {H : Hp} : DV H .none .non := by simp only [DV]
theorem DV.l {H : Hp} {a : Addr} {xs : List V} {ds : List PyData} (h : H a = some (.lst xs)) (q : DVs H ds xs) : DV H (.list ds) (.ref a) := by
  simp only [DV]
  exact ⟨a, xs, rfl, h, q⟩
theorem DV.t {H : Hp} {a : Addr} {xs : List V} {ds : List PyData} (h : H a = some (.tup xs)) (q : DVs H ds xs) : DV H (.tuple ds) (.ref a) := by
  simp only [DV]
  exact ⟨a, xs, rfl, h, q⟩
theorem DV.d {H : Hp} {a : Addr} (h : H a = some (.dK [])) : DV H (.dict []) (.ref a) := by
  simp only [DV]
  exact ⟨True.intro, a, rfl, h⟩
theorem DVs.n {H : Hp} : DVs H [] [] := by simp only [DVs]
theorem DVs.c {H : Hp} {d : PyData} {ds : List PyData} {x : V} {xs : List V} (h : DV H d x) (r : DVs H ds xs) : DVs H (d :: ds) (x :: xs) := by
  simp only [DVs]
  exact ⟨x, xs, rfl, h, r⟩
theorem DV.li {H : Hp} {ds : List PyData} {v : V} (h : DV H (.list ds) v) : ∃ a xs, v = .ref a ∧ H a = some (.lst xs) ∧ DVs H ds xs := by simpa only [DV] using h
theorem DV.ti {H : Hp} {ds : List PyData} {v : V} (h : DV H (.tuple ds) v) : ∃ a xs, v = .ref a ∧ H a = some (.tup xs) ∧ DVs H ds xs := by simpa only [DV] using h
theorem DVs.ni {H : Hp} {xs : List V} (h : DVs H [] xs) : xs = [] := by simpa only [DVs] using h
theorem DVs.ci {H : Hp} {d : PyData} {ds : List PyData} {xs : List V} (h : DVs H (d :: ds) xs) : ∃ x r, xs = x :: r ∧ DV H d x ∧ DVs H ds r := by simpa only [DVs] using h
theorem DVs.len {H : Hp} : ∀ {ds : List PyData} {xs : List V}, DVs H ds xs → xs.length = ds.length
  | [], xs, h => by rw [h.ni]; rfl
  | d :: ds, xs, h => by
    obtain ⟨x, r, rfl, _, h2⟩ := h.ci
    rw [List.length_cons, List.length_cons, DVs.len h2]
theorem DVs.app {H : Hp} : ∀ {ds es : List PyData} {xs ys : List V}, DVs H ds xs → DVs H es ys → DVs H (ds ++ es) (xs ++ ys)
  | [], es, xs, ys, h, g => by
    rw [h.ni]
    exact g
  | d :: ds, es, xs, ys, h, g => by
    obtain ⟨x, r, rfl, h1, h2⟩ := h.ci
    exact .c h1 (DVs.app h2 g)
theorem DVs.at_ {H : Hp} : ∀ {ds : List PyData} {xs : List V} {i : Nat} {d : PyData}, DVs H ds xs → ds[i]? = some d → ∃ x, xs[i]? = some x ∧ DV H d x
  | [], xs, i, d, h, e => by simp at e
  | c :: ds, xs, 0, d, h, e => by
    obtain ⟨x, r, rfl, h1, h2⟩ := h.ci
    have e' : c = d := by simpa using e
    subst e'
    exact ⟨x, rfl, h1⟩
  | c :: ds, xs, i + 1, d, h, e => by
    obtain ⟨x, r, rfl, h1, h2⟩ := h.ci
    exact DVs.at_ (i := i) h2 (by simpa using e)
/-! what a store into a list of three numbers at p leaves of data -/
mutual
def okD : PyData → Bool
  | .list ds => ds.length != 3 && okDs ds
  | .tuple ds => okDs ds
  | _ => true
def okDs : List PyData → Bool
  | [] => true
  | d :: ds => okD d && okDs ds
end
/-- all but what stands at p is kept -/
def Oth (p : Addr) (H H' : Hp) : Prop := ∀ b o, b ≠ p → H b = some o → H' b = some o
theorem Oth.of {p : Addr} {H H' : Hp} (s : Same H H') : Oth p H H' := fun b o _ e => s b o e
theorem Oth.trans {p : Addr} {H H1 H2 : Hp} (a : Oth p H H1) (b : Oth p H1 H2) : Oth p H H2 := fun c o n e => b c o n (a c o n e)
mutual
theorem DV.oth {H H' : Hp} {p : Addr} {x y z : V} (hp : H p = some (.lst [x, y, z])) (s : Oth p H H') : ∀ (d : PyData) (v : V), okD d = true → DV H d v → DV H' d v
  | .none, _, _, h => h
  | .bool _, _, _, h => h
  | .int _, _, _, h => h
  | .str _, _, _, h => h
  | .list ds, v, k, h => by
    obtain ⟨a, xs, rfl, ha, hx⟩ := h.li
    simp only [okD, Bool.and_eq_true, bne_iff_ne] at k
    refine .l (s a _ (fun e => ?_) ha) (DVs.oth hp s ds xs k.2 hx)
    rw [e, hp] at ha
    have e2 := Option.some.inj ha
    injection e2 with e3
    rw [← e3] at hx
    exact k.1 hx.len.symm
  | .tuple ds, v, k, h => by
    obtain ⟨a, xs, rfl, ha, hx⟩ := h.ti
    have k' : okDs ds = true := by simpa only [okD] using k
    refine .t (s a _ (fun e => ?_) ha) (DVs.oth hp s ds xs k' hx)
    rw [e, hp] at ha
    cases ha
  | .dict kvs, v, k, h => by
    obtain ⟨rfl, a, rfl, ha⟩ := (show kvs = [] ∧ ∃ a, v = .ref a ∧ H a = some (.dK []) from by simpa only [DV] using h)
    refine .d (s a _ (fun e => ?_) ha)
    rw [e, hp] at ha
    cases ha
theorem DVs.oth {H H' : Hp} {p : Addr} {x y z : V} (hp : H p = some (.lst [x, y, z])) (s : Oth p H H') : ∀ (ds : List PyData) (xs : List V), okDs ds = true → DVs H ds xs → DVs H' ds xs
  | [], _, _, h => h
  | d :: ds, xs, k, h => by
    obtain ⟨u, r, rfl, h1, h2⟩ := h.ci
    simp only [okDs, Bool.and_eq_true] at k
    exact .c (DV.oth hp s d u k.1 h1) (DVs.oth hp s ds r k.2 h2)
end
/-! displays of plain data: one step -/
def tData (d : PyData) : TE := fun _ H Q => ∀ v H', Same H H' → DV H' d v → Q v H'
def tDatas (ds : List PyData) : TA := fun _ H G => ∀ xs H', Same H H' → DVs H' ds xs → G xs H'
section
variable {X : Cx} {e : Expr} {es : List Expr} {d : PyData} {ds : List PyData} {pos : Pos} {j : Nat}
theorem pe_imp {t u : TE} (h : PE X e t) (i : ∀ σ H Q, u σ H Q → t σ H Q) : PE X e u := ⟨fun pins s σ H Q I q => h.run pins s σ H Q I (i σ H Q q)⟩
theorem pa_imp {t u : TA} (h : PA X es t) (i : ∀ σ H Q, u σ H Q → t σ H Q) : PA X es u := ⟨fun pos pins s σ H Q I q => h.run pos pins s σ H Q I (i σ H Q q)⟩
theorem dI {i : Int} : PE X (.Constant (.int i) j pos) (tData (.int i)) := pe_imp pe_int fun _ H Q q => q _ H (fun _ _ e => e) (.i i)
theorem dS {x : Str} : PE X (.Constant (.str x) j pos) (tData (.str x)) := pe_imp pe_str fun _ H Q q => q _ H (fun _ _ e => e) (.s x)
theorem dB {b : Bool} : PE X (.Constant (.bool b) j pos) (tData (.bool b)) := pe_imp pe_bl fun _ H Q q => q _ H (fun _ _ e => e) (.b b)
theorem dN : PE X (.Constant .none j pos) (tData .none) := pe_imp pe_non fun _ H Q q => q _ H (fun _ _ e => e) .n
theorem dNeg {e : Expr} {i : Int} (h : PE X e (tData (.int i))) : PE X (.UnaryOp .USub e pos) (tData (.int (-i))) := pe_imp (pe_un un_neg h) fun σ H Q q => by
  intro v H' s hd
  have e : v = .int i := by simpa only [DV] using hd
  subst e
  exact ⟨i, rfl, q _ H' s (.i _)⟩
theorem dPow {e f : Expr} {a b : Int} (h : PE X e (tData (.int a))) (g : PE X f (tData (.int b))) (c : CPow a b) : PE X (.BinOp e .Pow f pos) (tData (.int (a ^ b.toNat))) := pe_imp (pe_op op_pow h g) fun σ H Q q => by
  intro v H' s hd u H'' s' hd'
  have e : v = .int a := by simpa only [DV] using hd
  have e' : u = .int b := by simpa only [DV] using hd'
  subst e
  subst e'
  exact ⟨a, b, rfl, rfl, c, q _ H'' (fun b o z => s' b o (s b o z)) (.i _)⟩
theorem dNil : PA X [] (tDatas []) := pa_imp pa_nil fun _ H G q => q _ H (fun _ _ e => e) .n
theorem dCons (h : PE X e (tData d)) (r : PA X es (tDatas ds)) (hs : starEach (e :: es) X.env = (false, eval e X.env) :: starEach es X.env := by rfl) : PA X (e :: es) (tDatas (d :: ds)) := pa_imp (pa_cons h r hs) fun σ H G q => by
  intro v H1 s1 hd xs H2 s2 hds
  exact q _ H2 (fun b o z => s2 b o (s1 b o z)) (.c (DV.same s2 d v hd) hds)
theorem dT (h : PA X es (tDatas ds)) (hl : ds.length ≤ sizeLine := by first | decide | (simp only [List.length_cons, List.length_nil, List.length_append]; decide)) : PE X (.Tuple es j pos) (tData (.tuple ds)) := pe_imp (pe_tup h) fun σ H Q q => by
  intro xs H1 s1 hds
  refine ⟨by rw [hds.len]; exact hl, fun p hp => q _ _ (fun b o z => same_new hp b o (s1 b o z)) (.t upd_same (DVs.same (same_new hp) ds xs hds))⟩
theorem dL (h : PA X es (tDatas ds)) (hl : ds.length ≤ sizeLine := by first | decide | (simp only [List.length_cons, List.length_nil, List.length_append]; decide)) : PE X (.List es pos) (tData (.list ds)) := pe_imp (pe_lst h) fun σ H Q q => by
  intro xs H1 s1 hds
  refine ⟨by rw [hds.len]; exact hl, fun p hp => q _ _ (fun b o z => same_new hp b o (s1 b o z)) (.l upd_same (DVs.same (same_new hp) ds xs hds))⟩
theorem dD : PE X (.Dict [] [] pos) (tData (.dict [])) := pe_imp pe_dnewK fun σ H Q q => by
  intro p hp
  exact q _ _ (same_new hp) (.d upd_same)
end
/-- data that a name holds, or anything else: the value is told, its data too -/
theorem bData {d : PyData} {σ : L2.St} {H : Hp} {Q : VK} (h : ∀ v H', Same H H' → DV H' d v → Q v H') : tData d σ H Q := h
end Xv

set_option maxRecDepth 100000
set_option maxHeartbeats 4000000
namespace Xv
open PySem PySem.Spec PyProof.Rows L2
/-! expressions whose value is plain data, the heap only grown: Pre tells what they lean on -/
def Grows (Pre : L2.St → Hp → Prop) : Prop := ∀ σ H H', Same H H' → Pre σ H → Pre σ H'
def tDat (Pre : L2.St → Hp → Prop) (d : PyData) : TE := fun σ H Q => Pre σ H ∧ ∀ v H', Same H H' → DV H' d v → Q v H'
def tDats (Pre : L2.St → Hp → Prop) (ds : List PyData) : TA := fun σ H G => Pre σ H ∧ ∀ xs H', Same H H' → DVs H' ds xs → G xs H'
theorem sThn {H H1 H2 : Hp} (a : Same H H1) (b : Same H1 H2) : Same H H2 := fun c o e => b c o (a c o e)
theorem sId {H : Hp} : Same H H := fun _ _ e => e
/-- an exception of the class at C -/
def ExV (K : PySem.W.Frag) (H : Hp) (a C : Addr) : Prop := (∃ bmB newId, XC K C bmB newId) ∧ ∃ d, H a = some (exo a C d) ∧ ∀ dd, d = some dd → ∃ fs, H dd = some (exd dd fs)
/-- .. whose field f is v -/
def ExF (K : PySem.W.Frag) (H : Hp) (a C : Addr) (f : Str) (v : V) : Prop := (∃ bmB newId, XC K C bmB newId) ∧ PySem.W.findIn K (.ref C) f = some none ∧ ∃ d fs, H a = some (exo a C (some d)) ∧ H d = some (exd d fs) ∧ fs.lookup f = some v
theorem ExV.same {K : PySem.W.Frag} {H H' : Hp} {a C : Addr} (s : Same H H') (h : ExV K H a C) : ExV K H' a C := by
  obtain ⟨c, d, h1, h2⟩ := h
  refine ⟨c, d, s _ _ h1, fun dd e => ?_⟩
  obtain ⟨fs, h3⟩ := h2 dd e
  exact ⟨fs, s _ _ h3⟩
theorem ExF.same {K : PySem.W.Frag} {H H' : Hp} {a C : Addr} {f : Str} {v : V} (s : Same H H') (h : ExF K H a C f v) : ExF K H' a C f v := by
  obtain ⟨c, n, d, fs, h1, h2, h3⟩ := h
  exact ⟨c, n, d, fs, s _ _ h1, s _ _ h2, h3⟩
theorem ExF.v {K : PySem.W.Frag} {H : Hp} {a C : Addr} {f : Str} {v : V} (h : ExF K H a C f v) : ExV K H a C := by
  obtain ⟨c, n, d, fs, h1, h2, h3⟩ := h
  exact ⟨c, some d, h1, fun dd e => by cases e; exact ⟨fs, h2⟩⟩
section
variable {X : Cx} {e f : Expr} {es : List Expr} {d g : PyData} {ds hs : List PyData} {pos p : Pos} {j i : Nat} {Pre : L2.St → Hp → Prop}
theorem pd_data (h : PE X e (tData d)) : PE X e (tDat Pre d) := pe_imp h fun σ H Q q => q.2
theorem pdI {i : Int} : PE X (.Constant (.int i) j pos) (tDat Pre (.int i)) := pd_data dI
theorem pdS {x : Str} : PE X (.Constant (.str x) j pos) (tDat Pre (.str x)) := pd_data dS
theorem pdB {b : Bool} : PE X (.Constant (.bool b) j pos) (tDat Pre (.bool b)) := pd_data dB
theorem pdN : PE X (.Constant .none j pos) (tDat Pre .none) := pd_data dN
theorem pdV (h : PE X e (tVar i)) (hv : ∀ σ H, Pre σ H → ∃ v, σ[i]? = some (some v) ∧ DV H d v) : PE X e (tDat Pre d) := pe_imp h fun σ H Q q => by
  obtain ⟨v, e1, e2⟩ := hv σ H q.1
  exact ⟨v, e1, q.2 v H sId e2⟩
theorem pdG {v : V} (h : PE X e (tC v)) (hv : ∀ H, DV H d v) : PE X e (tDat Pre d) := pe_imp h fun σ H Q q => q.2 v H sId (hv H)
theorem pdNil : PA X [] (tDats Pre []) := pa_imp pa_nil fun _ H G q => q.2 _ H sId .n
theorem pdCons (gr : Grows Pre) (h : PE X e (tDat Pre d)) (r : PA X es (tDats Pre ds)) (hst : starEach (e :: es) X.env = (false, eval e X.env) :: starEach es X.env := by rfl) : PA X (e :: es) (tDats Pre (d :: ds)) := pa_imp (pa_cons h r hst) fun σ H G q => by
  refine ⟨q.1, fun v H1 s1 hd => ⟨gr _ _ _ s1 q.1, fun xs H2 s2 hds => ?_⟩⟩
  exact q.2 _ H2 (sThn s1 s2) (.c (DV.same s2 d v hd) hds)
theorem pdT (h : PA X es (tDats Pre ds)) (hl : ds.length ≤ sizeLine := by first | decide | (simp only [List.length_cons, List.length_nil, List.length_append]; decide)) : PE X (.Tuple es j pos) (tDat Pre (.tuple ds)) := pe_imp (pe_tup h) fun σ H Q q => by
  refine ⟨q.1, fun xs H1 s1 hds => ⟨by rw [hds.len]; exact hl, fun p hp => q.2 _ _ (sThn s1 (same_new hp)) (.t upd_same (DVs.same (same_new hp) ds xs hds))⟩⟩
theorem pdL (h : PA X es (tDats Pre ds)) (hl : ds.length ≤ sizeLine := by first | decide | (simp only [List.length_cons, List.length_nil, List.length_append]; decide)) : PE X (.List es pos) (tDat Pre (.list ds)) := pe_imp (pe_lst h) fun σ H Q q => by
  refine ⟨q.1, fun xs H1 s1 hds => ⟨by rw [hds.len]; exact hl, fun p hp => q.2 _ _ (sThn s1 (same_new hp)) (.l upd_same (DVs.same (same_new hp) ds xs hds))⟩⟩
theorem pdCat (gr : Grows Pre) (h : PE X e (tDat Pre (.list ds))) (r : PE X f (tDat Pre (.list hs))) (hl : ds.length + hs.length ≤ sizeLine := by first | decide | (simp only [List.length_cons, List.length_nil, List.length_append]; decide)) : PE X (.BinOp e .Add f pos) (tDat Pre (.list (ds ++ hs))) := pe_imp (pe_op op_cat h r) fun σ H Q q => by
  refine ⟨q.1, fun v H1 s1 hd => ⟨gr _ _ _ s1 q.1, fun u H2 s2 hd2 => ?_⟩⟩
  obtain ⟨a, xs, rfl, ha, hx⟩ := (DV.same s2 _ _ hd).li
  obtain ⟨b, ys, rfl, hb, hy⟩ := hd2.li
  refine ⟨a, b, xs, ys, rfl, rfl, ha, hb, by rw [hx.len, hy.len]; exact hl, fun p hp => q.2 _ _ (sThn (sThn s1 s2) (same_new hp)) (.l upd_same (DVs.same (same_new hp) _ _ (hx.app hy)))⟩
/-- isinstance(name, class) -/
theorem pdIs {C : Addr} {c : V} {u : Value} {b : Bool} (O : XO X.K) (hg : Gl X "isinstance") (hm : X.mg "isinstance" = none) (gr : Grows Pre) (h : PE X e (tVar i)) (hc : PE X f (tC c)) (cv : ClsV c u) (hk : PySem.W.kitOne X.K (.ref C) u = some b)
    (hP : ∀ σ H, Pre σ H → ∃ a, σ[i]? = some (some (.ref a)) ∧ ExV X.K H a C)
    (he : starEach [e, f] X.env = (false, eval e X.env) :: starEach [f] X.env := by rfl) (he2 : starEach [f] X.env = (false, eval f X.env) :: starEach [] X.env := by rfl) (hpl : (backTo pos (starEach [f] X.env)).any (·.1) = false := by rfl) :
    PE X (.Call (.Name "isinstance" p) [e, f] [] pos) (tDat Pre (.bool b)) :=
  pe_imp (pe_callB (call_isX O) hg hm (by decide +kernel) (pa_cons h (pa_cons hc pa_nil he2) he) (by decide) (by decide) he hpl) fun σ H Q q => by
    obtain ⟨a, e1, ⟨t, d, h1, h2⟩⟩ := hP σ H q.1
    exact ⟨_, e1, a, C, d, c, u, b, rfl, cv, h1, h2, t, hk, q.2 _ H sId (.b b)⟩
/-- repr(e) -/
theorem pdRepr {k : Nat} (hr : Room k X.A) (hgd : X.A.guards = some []) (hsys : True) (hg : Gl X "repr") (hm : X.mg "repr" = none) (h : PE X e (tDat Pre d)) (sh : d.showable = true) (dp : d.depth ≤ 40) (sz : d.shown.length ≤ sizeLine)
    (hi : ∀ i, d = .int i → i.natAbs.log2 < 1920) (he : starEach [e] X.env = (false, eval e X.env) :: starEach [] X.env := by rfl) : PE X (.Call (.Name "repr" p) [e] [] pos) (tDat Pre (.str d.shown)) :=
  pe_imp (pe_callB (call_repr hr hgd hsys) hg hm (by decide +kernel) (pa_cons h pa_nil he) (by decide) (by decide) he (by rfl)) fun σ H Q q =>
    ⟨q.1, fun v H1 s1 hd => ⟨v, d, rfl, hd, sh, dp, sz, hi, q.2 _ H1 s1 (.s _)⟩⟩
/-- e.f of an exception -/
theorem pdXf {fn : Str} {C : Addr} (h : PE X e (tVar i)) (hP : ∀ σ H, Pre σ H → ∃ a v, σ[i]? = some (some (.ref a)) ∧ ExF X.K H a C fn v ∧ DV H d v) (hb : attributeBase e fn X.env (eval e X.env) = eval e X.env := by rfl) :
    PE X (.Attribute e fn pos) (tDat Pre d) := pe_imp (Xv.pe_xf h hb) fun σ H Q q => by
  obtain ⟨a, v, e1, ⟨t, no, dd, fs, h1, h2, h3⟩, hd⟩ := hP σ H q.1
  exact ⟨_, e1, a, C, dd, fs, v, rfl, h1, h2, t, no, h3, q.2 v H sId hd⟩
/-- e == f, e != f -/
theorem pdEq {k : Nat} (hr : Room k X.A) (hsys : True) (gr : Grows Pre) (h : PE X e (tDat Pre d)) (r : PE X f (tDat Pre g)) (c1 : PyData.canLay0 d = true) (c2 : PyData.canLay0 g = true) (d1 : d.depth ≤ 40) (d2 : g.depth ≤ 40)
    (hm : behindInMarks .Eq f = false := by rfl) : PE X (.Compare e [.Eq] [f] pos) (tDat Pre (.bool (PyData.eqv d g))) := pe_imp (pe_cmpR (op_eqD hr hsys) h r hm) fun σ H Q q => by
  refine ⟨q.1, fun v H1 s1 hd => ⟨gr _ _ _ s1 q.1, fun u H2 s2 hd2 => ⟨d, g, DV.same s2 _ _ hd, hd2, c1, c2, d1, d2, q.2 _ H2 (sThn s1 s2) (.b _)⟩⟩⟩
theorem pdNe {k : Nat} (hr : Room k X.A) (hsys : True) (gr : Grows Pre) (h : PE X e (tDat Pre d)) (r : PE X f (tDat Pre g)) (c1 : PyData.canLay0 d = true) (c2 : PyData.canLay0 g = true) (d1 : d.depth ≤ 40) (d2 : g.depth ≤ 40)
    (hm : behindInMarks .NotEq f = false := by rfl) : PE X (.Compare e [.NotEq] [f] pos) (tDat Pre (.bool (!PyData.eqv d g))) := pe_imp (pe_cmpR (op_neD hr hsys) h r hm) fun σ H Q q => by
  refine ⟨q.1, fun v H1 s1 hd => ⟨gr _ _ _ s1 q.1, fun u H2 s2 hd2 => ⟨d, g, DV.same s2 _ _ hd, hd2, c1, c2, d1, d2, q.2 _ H2 (sThn s1 s2) (.b _)⟩⟩⟩
theorem pdAdd {a b : Int} (gr : Grows Pre) (h : PE X e (tDat Pre (.int a))) (r : PE X f (tDat Pre (.int b))) : PE X (.BinOp e .Add f pos) (tDat Pre (.int (a + b))) := pe_imp (pe_op op_add h r) fun σ H Q q => by
  refine ⟨q.1, fun v H1 s1 hd => ⟨gr _ _ _ s1 q.1, fun u H2 s2 hd2 => ?_⟩⟩
  have e1 : v = .int a := by simpa only [DV] using hd
  have e2 : u = .int b := by simpa only [DV] using hd2
  subst e1
  subst e2
  exact ⟨a, b, rfl, rfl, q.2 _ H2 (sThn s1 s2) (.i _)⟩
/-- ds * n, n written -/
theorem pdRep {n : Int} (gr : Grows Pre) (h : PE X e (tDat Pre (.list ds))) (r : PE X f (tDat Pre (.int n))) (h0 : -(2 ^ 63) ≤ n := by decide) (h1 : n < 2 ^ 63 := by decide) (hl : ds.length * n.toNat ≤ sizeLine := by first | decide | (simp only [List.length_cons, List.length_nil, List.length_append]; decide)) :
    PE X (.BinOp e .Mult f pos) (tDat Pre (.list (List.replicate n.toNat ds).flatten)) := pe_imp (pe_op op_rep h r) fun σ H Q q => by
  refine ⟨q.1, fun v H1 s1 hd => ⟨gr _ _ _ s1 q.1, fun u H2 s2 hd2 => ?_⟩⟩
  obtain ⟨a, xs, rfl, ha, hx⟩ := (DV.same s2 _ _ hd).li
  have eu : u = .int n := by simpa only [DV] using hd2
  subst eu
  refine ⟨a, n, xs, rfl, rfl, ha, h0, h1, by rw [hx.len]; exact hl, fun p hp => q.2 _ _ (sThn (sThn s1 s2) (same_new hp)) (.l upd_same (DVs.same (same_new hp) _ _ ?_))⟩
  generalize n.toNat = m
  induction m with
  | zero => exact .n
  | succ m ih =>
    rw [List.replicate_succ, List.flatten_cons, List.replicate_succ, List.flatten_cons]
    exact hx.app ih
end
theorem bDat {Pre : L2.St → Hp → Prop} {d : PyData} {σ : L2.St} {H : Hp} {Q : VK} (p : Pre σ H) (q : ∀ v H', Same H H' → DV H' d v → Q v H') : tDat Pre d σ H Q := ⟨p, q⟩
theorem bCat {H : Hp} {x y : V} {ds es : List PyData} {Q : VK} (h1 : DV H (.list ds) x) (h2 : DV H (.list es) y) (hl : ds.length + es.length ≤ sizeLine) (q : ∀ v H', Same H H' → DV H' (.list (ds ++ es)) v → Q v H') : rCat x y H Q := by
  obtain ⟨a, xs, rfl, ha, hx⟩ := h1.li
  obtain ⟨b, ys, rfl, hb, hy⟩ := h2.li
  exact ⟨a, b, xs, ys, rfl, rfl, ha, hb, by rw [hx.len, hy.len]; exact hl, fun p hp => q _ _ (same_new hp) (.l upd_same (DVs.same (same_new hp) _ _ (hx.app hy)))⟩
/-- an item put behind a list of data -/
theorem bApp {H : Hp} {x y : V} {ds : List PyData} {d : PyData} {Q : VK} (h1 : DV H (.list ds) x) (h2 : ∀ H' a, x = .ref a → Oth a H H' → DV H' d y) (h3 : ∀ H' a xs, x = .ref a → Oth a H H' → DVs H ds xs → DVs H' ds xs) (hl : ds.length < sizeLine)
    (q : ∀ a H', x = .ref a → Oth a H H' → DV H' (.list (ds ++ [d])) x → Q .non H') : rAppend x [y] H Q := by
  obtain ⟨a, xs, rfl, ha, hx⟩ := h1.li
  have o : Oth a H (upd H a (.lst (xs ++ [y]))) := fun b u n e => by
    rw [upd_ne n]
    exact e
  exact ⟨a, xs, y, rfl, rfl, ha, by rw [hx.len]; exact hl, q a _ rfl o (.l upd_same ((h3 _ a xs rfl o hx).app (.c (h2 _ a rfl o) .n)))⟩
/-- flat data leans on no object -/
def flatD : PyData → Bool
  | .list _ => false
  | .tuple _ => false
  | .dict _ => false
  | _ => true
theorem DV.flat {H H' : Hp} : ∀ {d : PyData} {v : V}, flatD d = true → DV H d v → DV H' d v
  | .none, v, _, h => by
    have e : v = .non := by simpa only [DV] using h
    subst e
    exact .n
  | .bool b, v, _, h => by
    have e : v = .bl b := by simpa only [DV] using h
    subst e
    exact .b b
  | .int i, v, _, h => by
    have e : v = .int i := by simpa only [DV] using h
    subst e
    exact .i i
  | .str x, v, _, h => by
    have e : v = .str x := by simpa only [DV] using h
    subst e
    exact .s x
theorem DVs.flat {H H' : Hp} : ∀ {ds : List PyData} {xs : List V}, ds.all flatD = true → DVs H ds xs → DVs H' ds xs
  | [], xs, _, h => by
    rw [h.ni]
    exact .n
  | d :: ds, xs, k, h => by
    obtain ⟨x, r, rfl, h1, h2⟩ := h.ci
    rw [List.all_cons, Bool.and_eq_true] at k
    exact .c (DV.flat k.1 h1) (DVs.flat k.2 h2)
theorem bAppF {H : Hp} {x y : V} {ds : List PyData} {d : PyData} {Q : VK} (h1 : DV H (.list ds) x) (fl : ds.all flatD = true) (h2 : DV H d y) (fd : flatD d = true) (hl : ds.length < sizeLine)
    (q : ∀ a xs H', x = .ref a → H a = some (.lst xs) → Oth a H H' → DV H' (.list (ds ++ [d])) x → Q .non H') : rAppend x [y] H Q := by
  obtain ⟨a, xs, e, ha, hx⟩ := h1.li
  exact bApp h1 (fun H' a _ _ => DV.flat fd h2) (fun H' a xs _ _ h => DVs.flat fl h) hl fun a' H' e' o h => by
    rw [e] at e'
    cases e'
    exact q a xs H' e ha o h
theorem ExV.oth {K : PySem.W.Frag} {H H' : Hp} {e C a : Addr} {xs : List V} (h : ExV K H e C) (ha : H a = some (.lst xs)) (o : Oth a H H') : ExV K H' e C := by
  obtain ⟨c, d, h1, h2⟩ := h
  refine ⟨c, d, o _ _ (fun z => ?_) h1, fun dd ed => ?_⟩
  · rw [z, ha] at h1
    have z2 : HO.lst xs = HO.ext _ := Option.some.inj h1
    cases z2
  · obtain ⟨fs, h3⟩ := h2 dd ed
    refine ⟨fs, o _ _ (fun z => ?_) h3⟩
    rw [z, ha] at h3
    have z2 : HO.lst xs = HO.ext _ := Option.some.inj h3
    cases z2
theorem bBM {K : PySem.W.Frag} {T : String} {r : V → List V → Hp → VK → Prop} {to : TE} {t : TA} {σ : L2.St} {H : Hp} {Q : VK} (h : to σ H fun x H1 => tyV K T x H1 ∧ t σ H1 fun xs H2 => r x xs H2 Q) : tBM K T r to t σ H Q := h
theorem tyL {K : PySem.W.Frag} {H : Hp} {v : V} {ds : List PyData} (h : DV H (.list ds) v) : tyV K "list" v H := by
  obtain ⟨a, xs, rfl, ha, _⟩ := h.li
  exact Or.inl ⟨rfl, _, Or.inl (Or.inl ha)⟩
end Xv

set_option maxRecDepth 100000
set_option maxHeartbeats 4000000
namespace Xv
open PySem PySem.Spec PyProof.Rows L2
/-! [e for k in range(n) if t]: a list of flat data -/
def picked (bs : Nat → Bool) (dd : Nat → PyData) (m : Nat) : List PyData := ((List.range m).filter bs).map dd
theorem picked_succ (bs : Nat → Bool) (dd : Nat → PyData) (m : Nat) : picked bs dd (m + 1) = if bs m = true then picked bs dd m ++ [dd m] else picked bs dd m := by
  unfold picked
  rw [List.range_succ, List.filter_append, List.map_append]
  by_cases h : bs m = true
  · rw [if_pos h, List.filter_cons_of_pos h]
    rfl
  · rw [if_neg h, List.filter_cons_of_neg h]
    simp
theorem picked_len (bs : Nat → Bool) (dd : Nat → PyData) (m : Nat) : (picked bs dd m).length ≤ m := by
  unfold picked
  rw [List.length_map]
  exact Nat.le_trans (List.length_filter_le _ _) (by simp)
theorem picked_flat {bs : Nat → Bool} {dd : Nat → PyData} (h : ∀ m, flatD (dd m) = true) (m : Nat) : (picked bs dd m).all flatD = true := by
  unfold picked
  rw [List.all_map, List.all_eq_true]
  exact fun x _ => h x
theorem bLcRange {ta : TA} {j n : Nat} {tt : TT} {te : TE} {vs : List Nat} {σ : L2.St} {H : Hp} {Q : VK} (bs : Nat → Bool) (dd : Nat → PyData) (hn : n ≤ 1000) (hf : ∀ m, flatD (dd m) = true)
    (hta : ∀ G, G [.int (n : Nat)] H → ta σ H G) (hw : ∀ m : Nat, wipe ((wipe σ vs).set j (some (.int (m : Nat)))) vs = wipe σ vs)
    (htt : ∀ (m : Nat) (H' : Hp) (G : Bool → Hp → Prop), m < n → Same H H' → G (bs m) H' → tt ((wipe σ vs).set j (some (.int (m : Nat)))) H' G)
    (hte : ∀ (m : Nat) (H' : Hp) (G : VK), m < n → bs m = true → Same H H' → (∀ y, DV H' (dd m) y → G y H') → te ((wipe σ vs).set j (some (.int (m : Nat)))) H' G)
    (q : ∀ v H', Same H H' → DV H' (.list (picked bs dd n)) v → Q v H') : tLc (iRng1 ta) (gName j) tt te vs σ H Q := by
  refine hta _ ⟨(n : Nat), rfl, by omega, by omega, fun D hD => ?_⟩
  have hz : (n : Int).toNat = n := Int.toNat_natCast n
  rw [hz]
  refine lc_range (fun m H' => Same H H' ∧ ∃ xs, H' D = some (.lst xs) ∧ DVs H' (picked bs dd m) xs) ⟨same_new hD, [], upd_same, .n⟩ ?_ ?_
  · rintro m H' hm ⟨s, xs, hx, hd⟩
    have e0 : (0 : Int) + (m : Nat) = (m : Nat) := by omega
    rw [e0]
    refine ⟨hw m, htt m H' _ hm s ?_⟩
    by_cases hb : bs m = true
    · rw [if_pos hb]
      refine hte m H' _ hm hb s fun y hy => ⟨xs, hx, ?_, ?_, xs ++ [y], upd_same, ?_⟩
      · rw [hd.len]
        have := picked_len bs dd m
        rw [sizeLine_eq]
        omega
      · intro b o e
        have hbD : b ≠ D := ne_of_none e hD
        rw [upd_ne hbD]
        exact s b o e
      · rw [picked_succ, if_pos hb]
        exact (DVs.flat (picked_flat hf m) hd).app (.c (DV.flat (hf m) hy) .n)
    · rw [if_neg hb]
      refine ⟨s, xs, hx, ?_⟩
      rw [picked_succ, if_neg hb]
      exact hd
  · rintro H' ⟨s, xs, hx, hd⟩
    exact q _ H' s (.l hx hd)
theorem bIxD {K : PySem.W.Frag} {H : Hp} {x : V} {ds : List PyData} {i : Int} {d : PyData} {Q : VK} (h : DV H (.list ds) x) (h0 : 0 ≤ i) (e : ds[i.toNat]? = some d) (q : ∀ y, DV H d y → Q y H) : rIxL K x (.int i) H Q := by
  obtain ⟨a, xs, rfl, ha, hx⟩ := h.li
  obtain ⟨y, ey, hy⟩ := hx.at_ e
  exact bIxL ha (atI_of h0 ey) (q y hy)
theorem DV.bi {H : Hp} {b : Bool} {v : V} (h : DV H (.bool b) v) : v = .bl b := by simpa only [DV] using h
theorem DV.ii {H : Hp} {b : Int} {v : V} (h : DV H (.int b) v) : v = .int b := by simpa only [DV] using h
theorem DV.si {H : Hp} {b : Str} {v : V} (h : DV H (.str b) v) : v = .str b := by simpa only [DV] using h
theorem range_at (f : Nat → PyData) {n m : Nat} (h : m < n) : ((List.range n).map f)[m]? = some (f m) := by simp [h]
theorem bCatN {H : Hp} {x y : V} {ds es : List PyData} {Q : VK} (h1 : DV H (.list ds) x) (h2 : DV H (.list es) y) (hl : ds.length + es.length ≤ sizeLine) (q : ∀ p H', H p = none → Same H H' → DV H' (.list (ds ++ es)) (.ref p) → Q (.ref p) H') : rCat x y H Q := by
  obtain ⟨a, xs, rfl, ha, hx⟩ := h1.li
  obtain ⟨b, ys, rfl, hb, hy⟩ := h2.li
  exact ⟨a, b, xs, ys, rfl, rfl, ha, hb, by rw [hx.len, hy.len]; exact hl, fun p hp => q _ _ hp (same_new hp) (.l upd_same (DVs.same (same_new hp) _ _ (hx.app hy)))⟩
theorem fresh_back {H H' : Hp} {p : Addr} (s : Same H H') (h : H' p = none) : H p = none := by
  cases e : H p with
  | none => rfl
  | some o =>
    rw [s _ _ e] at h
    cases h
theorem same_oth {H H1 H2 : Hp} {p : Addr} (h : H p = none) (s : Same H H1) (o : Oth p H1 H2) : Same H H2 := fun b u e => o b u (fun z => by rw [z, h] at e; cases e) (s b u e)
end Xv

set_option maxRecDepth 100000
set_option maxHeartbeats 4000000
namespace Xv
open PySem PySem.Spec PyProof.Rows L2
/-! data in which no list has n items: a store into a list of n items leaves it -/
mutual
def okL (n : Nat) : PyData → Bool
  | .list ds => ds.length != n && okLs n ds
  | .tuple ds => okLs n ds
  | _ => true
def okLs (n : Nat) : List PyData → Bool
  | [] => true
  | d :: ds => okL n d && okLs n ds
end
mutual
theorem DV.othL {H H' : Hp} {p : Addr} {ys : List V} (hp : H p = some (.lst ys)) (s : Oth p H H') : ∀ (d : PyData) (v : V), okL ys.length d = true → DV H d v → DV H' d v
  | .none, _, _, h => h
  | .bool _, _, _, h => h
  | .int _, _, _, h => h
  | .str _, _, _, h => h
  | .list ds, v, k, h => by
    obtain ⟨a, xs, rfl, ha, hx⟩ := h.li
    simp only [okL, Bool.and_eq_true, bne_iff_ne] at k
    refine .l (s a _ (fun e => ?_) ha) (DVs.othL hp s ds xs k.2 hx)
    rw [e, hp] at ha
    have e2 := Option.some.inj ha
    injection e2 with e3
    rw [← e3] at hx
    exact k.1 hx.len.symm
  | .tuple ds, v, k, h => by
    obtain ⟨a, xs, rfl, ha, hx⟩ := h.ti
    have k' : okLs ys.length ds = true := by simpa only [okL] using k
    refine .t (s a _ (fun e => ?_) ha) (DVs.othL hp s ds xs k' hx)
    rw [e, hp] at ha
    cases ha
  | .dict kvs, v, k, h => by
    obtain ⟨rfl, a, rfl, ha⟩ := (show kvs = [] ∧ ∃ a, v = .ref a ∧ H a = some (.dK []) from by simpa only [DV] using h)
    refine .d (s a _ (fun e => ?_) ha)
    rw [e, hp] at ha
    cases ha
theorem DVs.othL {H H' : Hp} {p : Addr} {ys : List V} (hp : H p = some (.lst ys)) (s : Oth p H H') : ∀ (ds : List PyData) (xs : List V), okLs ys.length ds = true → DVs H ds xs → DVs H' ds xs
  | [], _, _, h => h
  | d :: ds, xs, k, h => by
    obtain ⟨u, r, rfl, h1, h2⟩ := h.ci
    simp only [okLs, Bool.and_eq_true] at k
    exact .c (DV.othL hp s d u k.1 h1) (DVs.othL hp s ds r k.2 h2)
end
theorem okLs_app {n : Nat} : ∀ {ds es : List PyData}, okLs n ds = true → okLs n es = true → okLs n (ds ++ es) = true
  | [], _, _, h => h
  | d :: ds, es, g, h => by
    simp only [okLs, Bool.and_eq_true] at g
    simp only [List.cons_append, okLs, Bool.and_eq_true]
    exact ⟨g.1, okLs_app g.2 h⟩
/-! [e for x in a list]: a list of data -/
def told (dd : Nat → PyData) (m : Nat) : List PyData := (List.range m).map dd
theorem told_succ (dd : Nat → PyData) (m : Nat) : told dd (m + 1) = told dd m ++ [dd m] := by
  unfold told
  rw [List.range_succ, List.map_append]
  rfl
theorem told_len (dd : Nat → PyData) (m : Nat) : (told dd m).length = m := by simp [told]
theorem told_okL {dd : Nat → PyData} {n k : Nat} (h : ∀ m, m < k → okL n (dd m) = true) : ∀ m, m ≤ k → okLs n (told dd m) = true
  | 0, _ => rfl
  | m + 1, hm => by
    rw [told_succ]
    exact okLs_app (told_okL h m (by omega)) (by simp only [okLs, Bool.and_true]; exact h m (by omega))
theorem bLcList {K : PySem.W.Frag} {tl : TE} {j : Nat} {te : TE} {vs : List Nat} {σ : L2.St} {H : Hp} {Q : VK} (p : Addr) (xs : List V) (dd : Nat → PyData) (hn : xs.length ≤ 1000) (hok : ∀ k m, k ≤ xs.length → m < xs.length → okL k (dd m) = true)
    (hp : H p = some (.lst xs)) (hta : ∀ G, G (.ref p) H → tl σ H G) (hw : ∀ x : V, wipe ((wipe σ vs).set j (some x)) vs = wipe σ vs)
    (hte : ∀ (m : Nat) (x : V) (H' : Hp) (G : VK), xs[m]? = some x → Same H H' → (∀ y H2, Same H' H2 → DV H2 (dd m) y → G y H2) → te ((wipe σ vs).set j (some x)) H' G)
    (q : ∀ v H', Same H H' → DV H' (.list (told dd xs.length)) v → Q v H') : tLc (iList K tl) (gName j) tYes te vs σ H Q := by
  refine hta _ ⟨p, rfl, ⟨xs, SqL.of hp⟩, fun D hD => ?_⟩
  refine lc_list (K := K) (a := p) (xs := xs) (fun m H' => Same H H' ∧ m ≤ xs.length ∧ ∃ ys, H' D = some (.lst ys) ∧ DVs H' (told dd m) ys) ⟨same_new hD, Nat.zero_le _, [], upd_same, .n⟩ (fun m H' _ h => SqL.of (h.1 _ _ hp)) ?_ ?_
  · rintro m x H' hx ⟨s, hm, ys, hy, hd⟩
    have hlt : m < xs.length := (List.getElem?_eq_some_iff.mp hx).1
    refine ⟨hw x, ?_⟩
    delta tYes
    refine bIte (b := true) (fun _ => ?_) (fun z => nomatch z)
    refine hte m x H' _ hx s fun y H2 s2 hy2 => ⟨ys, s2 _ _ hy, ?_, ?_, hlt, ys ++ [y], upd_same, ?_⟩
    · rw [hd.len, told_len, sizeLine_eq]
      omega
    · intro b o e
      have hbD : b ≠ D := ne_of_none e hD
      rw [upd_ne hbD]
      exact s2 b o (s b o e)
    · have hyl : ys.length = m := by rw [hd.len, told_len]
      have o : Oth D H2 (upd H2 D (.lst (ys ++ [y]))) := fun b u n e => by
        rw [upd_ne n]
        exact e
      have h1 : okLs ys.length (told dd m) = true := told_okL (k := xs.length) (fun i hi => hok _ _ (by omega) hi) m hm
      rw [told_succ]
      exact (DVs.othL (s2 _ _ hy) o _ _ h1 (DVs.same s2 _ _ hd)).app (.c (DV.othL (s2 _ _ hy) o _ _ (hok _ _ (by omega) hlt) hy2) .n)
  · rintro H' ⟨s, hm, ys, hy, hd⟩
    exact q _ H' s (.l hy hd)
/-! own exceptions with one field, as the law makes them -/
structure Cl (P : Program) (w : World) (K : PySem.W.Frag) (mg : Str → Option Value) (base : Heap) (C : Addr) (f : Str) : Prop where
  ex : ∃ (bmB : List Value) (B newId initId : String) (fI : Addr) (fd : FuncData), ExcBaseFacts B newId initId bmB ∧ XC K C bmB newId ∧ XM K C fI ∧ FnOk P w K mg base CX0 1 fI fd ["self", f] (spXI C f) ∧
    KBn K fd ["self", f] 2 [] (fun us _ => us) (fun vs _ => vs) ∧ KBn K fd ["self", f] 1 [f] (fun us ws => us ++ ws) (fun vs zs => vs ++ zs)
  nf : PySem.W.findIn K (.ref C) f = some none
def tEx (K : PySem.W.Frag) (Pre : L2.St → Hp → Prop) (C : Addr) (f : Str) (v : V) : TE := fun σ H Q => Pre σ H ∧ ∀ a H', Same H H' → ExF K H' a C f v → Q (.ref a) H'
theorem ex_made {K : PySem.W.Frag} {H : Hp} {C : Addr} {f : Str} {v : V} {Q : VK} (c : ∃ bmB newId, XC K C bmB newId) (nf : PySem.W.findIn K (.ref C) f = some none) (q : ∀ a H', Same H H' → ExF K H' a C f v → Q (.ref a) H') (a : Addr) (ha : H a = none) :
    spXI C f [.ref a, v] (upd H a (exo a C none)) (fun u H3 => u = .non ∧ Q (.ref a) H3) E0 := by
  refine ⟨a, v, rfl, upd_same, fun d hd hda => ⟨rfl, q a _ (fun b o e => ?_) ⟨c, nf, d, [(f, v)], upd_same, ?_, ?_⟩⟩⟩
  · have nba : b ≠ a := ne_of_none e ha
    have hd' : H d = none := by
      rw [upd_ne hda] at hd
      exact hd
    rw [upd_ne nba, upd_ne (ne_of_none e hd'), upd_ne nba]
    exact e
  · rw [upd_ne hda, upd_same]
  · simp [List.lookup]
section
variable {X : Cx} {e : Expr} {pos p kp : Pos} {i : Nat} {C : Addr} {f x : Str} {v : V} {Pre : L2.St → Hp → Prop}
theorem pxNew (c : Cl X.prog X.w X.K X.mg X.base C f) (hr : Room 2 X.A) (hg : Gl X x) (hm : X.mg x = some (.ref C)) (h : PE X e (tVar i)) (hP : ∀ σ H, Pre σ H → σ[i]? = some (some v)) (hdb : (x == ("__debug__" : Str)) = false := by decide)
    (he : starEach [e] X.env = (false, eval e X.env) :: starEach [] X.env := by rfl) : PE X (.Call (.Name x p) [e] [] pos) (tEx X.K Pre C f v) := by
  obtain ⟨⟨bmB, B, newId, initId, fI, fd, FB, T, M, F1, b0, bk⟩, nf⟩ := c
  refine pe_imp (pe_xn (n := 1) FB T M F1 hr hg hm b0 (pa_cons h pa_nil he) (by decide) hdb he (by rfl)) fun σ H Q q => ?_
  exact ⟨v, hP σ H q.1, rfl, rfl, fun a ha => ex_made ⟨bmB, newId, T⟩ nf q.2 a ha⟩
theorem pxNewK (c : Cl X.prog X.w X.K X.mg X.base C f) (hr : Room 2 X.A) (hg : Gl X x) (hm : X.mg x = some (.ref C)) (h : PE X e (tVar i)) (hP : ∀ σ H, Pre σ H → σ[i]? = some (some v)) (hdb : (x == ("__debug__" : Str)) = false := by decide)
    (hall : (backToKw pos (keywordEach [⟨some f, e, kp⟩] X.env)).all (·.1.isSome) = true := by rfl) (hks : (backToKw pos (keywordEach [⟨some f, e, kp⟩] X.env)).filterMap (·.1) = [f] := by rfl)
    (hpl : ((backTo pos (starEach [] X.env)).any (·.1) || (backToKw pos (keywordEach [⟨some f, e, kp⟩] X.env)).any (·.1.isNone)) = false := by rfl) : PE X (.Call (.Name x p) [] [⟨some f, e, kp⟩] pos) (tEx X.K Pre C f v) := by
  obtain ⟨⟨bmB, B, newId, initId, fI, fd, FB, T, M, F1, b0, bk⟩, nf⟩ := c
  refine pe_imp (pe_xnK FB T M F1 hr hg hm bk (pk_cons h pk_nil) hall hks hdb hpl) fun σ H Q q => ?_
  exact ⟨v, hP σ H q.1, rfl, rfl, fun a ha => ex_made ⟨bmB, newId, T⟩ nf q.2 a ha⟩
/-- [C(thing), C(f=thing)] -/
def Two (K : PySem.W.Frag) (H : Hp) (C : Addr) (f : Str) (v r : V) : Prop := ∃ q a b, r = .ref q ∧ H q = some (.lst [.ref a, .ref b]) ∧ ExF K H a C f v ∧ ExF K H b C f v
theorem Two.same {K : PySem.W.Frag} {H H' : Hp} {C : Addr} {f : Str} {v r : V} (s : Same H H') (h : Two K H C f v r) : Two K H' C f v r := by
  obtain ⟨q, a, b, e, h1, h2, h3⟩ := h
  exact ⟨q, a, b, e, s _ _ h1, h2.same s, h3.same s⟩
def tTwo (K : PySem.W.Frag) (Pre : L2.St → Hp → Prop) (C : Addr) (f : Str) (v : V) : TE := fun σ H Q => Pre σ H ∧ ∀ r H', Same H H' → Two K H' C f v r → Q r H'
theorem pxTwo {e1 e2 : Expr} (gr : Grows Pre) (h1 : PE X e1 (tEx X.K Pre C f v)) (h2 : PE X e2 (tEx X.K Pre C f v))
    (he : starEach [e1, e2] X.env = (false, eval e1 X.env) :: starEach [e2] X.env := by rfl) (he2 : starEach [e2] X.env = (false, eval e2 X.env) :: starEach [] X.env := by rfl) : PE X (.List [e1, e2] pos) (tTwo X.K Pre C f v) := by
  refine pe_imp (pe_lst (pa_cons h1 (pa_cons h2 pa_nil he2) he)) fun σ H Q q => ?_
  refine ⟨q.1, fun a H1 s1 x1 => ⟨gr _ _ _ s1 q.1, fun b H2 s2 x2 => ⟨by show 2 ≤ sizeLine; decide, fun p hp => q.2 _ _ (sThn (sThn s1 s2) (same_new hp)) ⟨p, a, b, rfl, upd_same, (x1.same s2).same (same_new hp), x2.same (same_new hp)⟩⟩⟩⟩
end
end Xv

set_option maxRecDepth 100000
set_option maxHeartbeats 4000000
namespace Xv
open PySem PySem.Spec PyProof.Rows L2
section
variable {K : PySem.W.Frag} {H H' H0 : Hp} {C p : Addr} {f : Str} {v r : V} {ca : Nat → Addr} {rs xs : List V} {n : Nat}
/-- the j-th of rs is a list of two exceptions of the j-th class -/
def Fnd (K : PySem.W.Frag) (H : Hp) (ca : Nat → Addr) (f : Str) (v : V) (rs : List V) : Prop := ∀ j r, rs[j]? = some r → Two K H (ca j) f v r
theorem Fnd.same (s : Same H H') (h : Fnd K H ca f v rs) : Fnd K H' ca f v rs := fun j r e => (h j r e).same s
theorem ExF.upd_lst {a : Addr} (h : ExF K H a C f v) (hp : H p = some (.lst xs)) {ys : List V} : ExF K (upd H p (.lst ys)) a C f v := by
  obtain ⟨c, nf, d, fs, h1, h2, h3⟩ := h
  refine ⟨c, nf, d, fs, ?_, ?_, h3⟩
  · rw [upd_ne (fun z => ?_)]
    · exact h1
    · rw [z, hp] at h1
      have z2 : HO.lst xs = HO.ext _ := Option.some.inj h1
      cases z2
  · rw [upd_ne (fun z => ?_)]
    · exact h2
    · rw [z, hp] at h2
      have z2 : HO.lst xs = HO.ext _ := Option.some.inj h2
      cases z2
theorem ExF.no_lst {a : Addr} (h : ExF K H a C f v) (hp : H a = some (.lst xs)) : False := by
  obtain ⟨c, nf, d, fs, h1, h2, h3⟩ := h
  rw [hp] at h1
  have z2 : HO.lst xs = HO.ext _ := Option.some.inj h1
  cases z2
theorem Two.keep (h : Two K H C f v r) (hp : H p = some (.lst rs)) (F : Fnd K H ca f v rs) {ys : List V} : Two K (upd H p (.lst ys)) C f v r := by
  obtain ⟨q, a, b, e, h1, h2, h3⟩ := h
  refine ⟨q, a, b, e, ?_, h2.upd_lst hp, h3.upd_lst hp⟩
  rw [upd_ne (fun z => ?_)]
  · exact h1
  · rw [z, hp] at h1
    have e2 := Option.some.inj h1
    injection e2 with e3
    subst e3
    obtain ⟨q', a', b', e', h1', _⟩ := F 0 (.ref a) rfl
    cases e'
    exact h2.no_lst h1'
theorem fnd_app (hp : H p = some (.lst rs)) (F : Fnd K H ca f v rs) (t : Two K H (ca rs.length) f v r) : Fnd K (upd H p (.lst (rs ++ [r]))) ca f v (rs ++ [r]) := by
  intro j x e
  by_cases hj : j < rs.length
  · rw [List.getElem?_append_left hj] at e
    exact (F j x e).keep hp F
  · rw [List.getElem?_append_right (by omega)] at e
    have hz : j - rs.length = 0 := by
      have := (List.getElem?_eq_some_iff.mp e).1
      simp at this
      omega
    rw [hz] at e
    have ej : j = rs.length := by omega
    have ex : r = x := by simpa using e
    rw [← ex, ej]
    exact t.keep hp F
/-- found, with n of them in -/
def FS (K : PySem.W.Frag) (ca : Nat → Addr) (f : Str) (v : V) (H0 H : Hp) (p : Addr) (n : Nat) : Prop := Same H0 H ∧ H0 p = none ∧ ∃ rs, H p = some (.lst rs) ∧ rs.length = n ∧ Fnd K H ca f v rs
theorem bAppTwo {Pre : L2.St → Hp → Prop} {σ : L2.St} {Q : VK} (pre : Pre σ H) (S : FS K ca f v H0 H p n) (hn : n ≤ 100) (q : ∀ H', FS K ca f v H0 H' p (n + 1) → Q .non H') :
    tyV K "list" (.ref p) H ∧ tCons (tTwo K Pre (ca n) f v) tNil σ H (fun xs H2 => rAppend (.ref p) xs H2 Q) := by
  obtain ⟨s, p0, rs, hp, hl, F⟩ := S
  refine ⟨Or.inl ⟨rfl, _, Or.inl (Or.inl hp)⟩, pre, fun r H1 s1 t => ?_⟩
  refine ⟨p, rs, r, rfl, rfl, s1 _ _ hp, by rw [sizeLine_eq]; omega, q _ ⟨?_, p0, rs ++ [r], upd_same, by simp [hl], fnd_app (s1 _ _ hp) (F.same s1) (by rw [hl]; exact t)⟩⟩
  intro b o e
  rw [upd_ne (ne_of_none e p0)]
  exact s1 b o (s b o e)
end
end Xv

set_option maxRecDepth 100000
set_option maxHeartbeats 4000000
namespace Xv
open PySem PySem.Spec PyProof.Rows L2
/-! raise C(..) of an own class with an own __init__ -/
def tMkX (C : Addr) (sp : Sp) (ta : TA) : L2.St → Hp → XK → Prop := fun σ H Q => ta σ H fun vs H1 => vs.length ≤ 1000 ∧ ∀ a, H1 a = none → sp (.ref a :: vs) (upd H1 a (exo a C none))
  (fun v H2 => v = .non ∧ ∃ (d : Addr) (fs : List (Str × V)), H2 a = some (exo a C (some d)) ∧ H2 d = some (exd d fs) ∧ H1 d = none ∧ Q (.ref C) (some d) (upd (del H2 a) d (.xd fs))) E0
section
variable {X : Cx} {k n : Nat} {fI C : Addr} {fd : FuncData} {ps : List Str} {sp : Sp} {x : Str} {p pos : Pos} {e : Expr} {es : List Expr} {ta : TA} {g : List Value → List Value → List Value} {gV : List V → List V → List V}
  {bmB : List Value} {B newId initId : String}
theorem pmk_x (FB : ExcBaseFacts B newId initId bmB) (T : XC X.K C bmB newId) (M : XM X.K C fI) (F1 : FnOk X.prog X.w X.K X.mg X.base CX0 k fI fd ps sp) (hr : Room (k + 1) X.A) (hb : Binds X.K fd ps []) (hg : Gl X x) (hm : X.mg x = some (.ref C)) (ha : PA X (e :: es) ta)
    (hdb : (x == ("__debug__" : Str)) = false := by decide) (he : starEach (e :: es) X.env = (false, eval e X.env) :: starEach es X.env := by rfl) (hpl : (backTo pos (starEach es X.env)).any (·.1) = false := by rfl) :
    PMk X (.Call (.Name x p) (e :: es) [] pos) (tMkX C sp ta) := by
  intro pins s σ H Q I h
  obtain ⟨nm, q, N, bs, bm, sn, sub, ab, col, dd, k0, k1, k2, k3, k5, hC, hbm⟩ := T.cls
  refine wpAny_Call_Name_kw (ld_glob I hg hm ?_ hdb)
  refine PySem.W.callWith_K (h₀ := X.base) I.ok.mod.kin T.kC (thn (ha.run pos pins s σ H _ I h) fun us s1 ⟨vs, H1, I1, r1, hz, q1⟩ => ⟨I1.kIn, ?_⟩) he hpl
  show wpAny _ _ (call (.ref C) us) _ _ _
  obtain ⟨hp, gs, dr, tok, os⟩ := s1
  have hsz : hp.objs.size ≤ hp.objs.size + 1 := Nat.le_succ _
  have hq := q1 (hp.objs.size + 1) (I1.hok.fresh hsz)
  have kk : ∀ b o, hp.get? b = some o → ((hp.push (PySem.W.kdv_tup us)).push (PySem.HandSPX.excO C hp.objs.size)).get? b = some o := fun b o e =>
    Heap.get?_push_of_some _ (Heap.get?_push_of_some _ e)
  have hget : ((hp.push (PySem.W.kdv_tup us)).push (PySem.HandSPX.excO C hp.objs.size)).get? (hp.objs.size + 1) = some (PySem.HandSPX.excO C hp.objs.size) := by heap_get
  have I2 : Inv X pins σ (upd H1 (hp.objs.size + 1) (exo (hp.objs.size + 1) C none)) ⟨(hp.push (PySem.W.kdv_tup us)).push (PySem.HandSPX.excO C hp.objs.size), gs, dr, tok, os⟩ :=
    I1.laid (t' := tok) kk hsz (exo_ok hget)
  have r2 : Vals (V.ref (hp.objs.size + 1) :: vs) (Value.ref (hp.objs.size + 1) :: us) := .cons rfl r1
  have hl : (Value.ref (hp.objs.size + 1) :: us ++ []).length = ps.length := by
    rw [List.append_nil, ← r2.length]
    exact F1.len _ _ _ _ hq
  have hbb := hb _ (Value.ref (hp.objs.size + 1) :: us) I2.kIn hl
  rw [List.append_nil] at hbb
  have hus : us.length ≤ sizeLine := by
    rw [← Paired.length r1, sizeLine_eq]
    omega
  refine wpAny_call (run_ccall (kw := []) FB (fun Y => PySem.W.excTail_contains Y bm hbm) (I1.kIn _ _ hC) (PySem.W.looks_findIn I1.kIn M.ini) (fun self => PySem.W.bind_fn I1.kIn self M.ty) hus
    (codeAny_mono (F1.run _ X.stack _ _ ⟨Value.ref (hp.objs.size + 1) :: us, []⟩ (Value.ref (hp.objs.size + 1) :: us) _ _ E0 (hr.make C us []) (I2.env0.make C us []) hbb r2 hq) fun r s' hq' => ?_))
  cases r with
  | error er => exact hq'.elim
  | ok fl =>
    cases fl with
    | ret u =>
      obtain ⟨v, H2, os2, bare2, un2, hok2, rv, ev, d, fs, ea, ed, hd1, q2⟩ := hq'
      subst ev
      obtain ⟨h2, g2, d2, t2, os'⟩ := s'
      exact ⟨rv, mk_end (raises_own T.exC T.tyC) I1 hsz kk un2 hok2 os2 bare2 ea ed hd1 q2⟩
    | next => exact False.elim hq'
    | brk => exact False.elim hq'
    | cont => exact False.elim hq'
end
/-- what is raised, its dict told -/
theorem raised1 {H : Hp} {C : Addr} {f : Str} {v : V} {Q : XK} (q : ∀ d, H d = none → Q (.ref C) (some d) (upd H d (.xd [(f, v)]))) (a : Addr) (ha : H a = none) :
    spXI C f [.ref a, v] (upd H a (exo a C none)) (fun u H2 => u = .non ∧ ∃ (d : Addr) (fs : List (Str × V)), H2 a = some (exo a C (some d)) ∧ H2 d = some (exd d fs) ∧ H d = none ∧ Q (.ref C) (some d) (upd (del H2 a) d (.xd fs))) E0 := by
  refine ⟨a, v, rfl, upd_same, fun d hd hda => ⟨rfl, d, [(f, v)], upd_same, ?_, ?_, ?_⟩⟩
  · rw [upd_ne hda, upd_same]
  · rw [upd_ne hda] at hd
    exact hd
  · have hd' : H d = none := by
      rw [upd_ne hda] at hd
      exact hd
    have e : upd (del (upd (upd (upd H a (exo a C none)) d (exd d [(f, v)])) a (exo a C (some d))) a) d (.xd [(f, v)]) = upd H d (.xd [(f, v)]) := by
      funext b
      by_cases hb : b = d
      · rw [hb, upd_same, upd_same]
      · rw [upd_ne hb, upd_ne hb]
        by_cases hba : b = a
        · rw [hba, del_same, ha]
        · rw [del_ne hba, upd_ne hba, upd_ne hb, upd_ne hba]
    rw [e]
    exact q d hd'
theorem XC.xf {K : PySem.W.Frag} {C : Addr} {bmB : List Value} {newId : String} (T : XC K C bmB newId) : XfC K C := ⟨T.ga, T.gg, T.exC, T.hd⟩
/-- with two fields: Broken -/
def spXI2 (C : Addr) (f g : Str) : Sp := fun vs H Q _ => ∃ (a : Addr) (v u : V), vs = [.ref a, v, u] ∧ H a = some (exo a C none) ∧
  ∀ d, H d = none → d ≠ a → Q .non (upd (upd (upd H d (exd d [(f, v)])) a (exo a C (some d))) d (exd d [(g, u), (f, v)]))
/-- with none: NothingToUndo -/
def spXI0 (C : Addr) : Sp := fun vs H Q _ => ∃ a : Addr, vs = [.ref a] ∧ H a = some (exo a C none) ∧ Q .non H
theorem raised2 {H : Hp} {C : Addr} {f g : Str} {v w : V} {Q : XK} (q : ∀ d, H d = none → Q (.ref C) (some d) (upd H d (.xd [(g, w), (f, v)]))) (a : Addr) (ha : H a = none) :
    spXI2 C f g [.ref a, v, w] (upd H a (exo a C none)) (fun u H2 => u = .non ∧ ∃ (d : Addr) (fs : List (Str × V)), H2 a = some (exo a C (some d)) ∧ H2 d = some (exd d fs) ∧ H d = none ∧ Q (.ref C) (some d) (upd (del H2 a) d (.xd fs))) E0 := by
  refine ⟨a, v, w, rfl, upd_same, fun d hd hda => ⟨rfl, d, [(g, w), (f, v)], ?_, upd_same, ?_, ?_⟩⟩
  · rw [upd_ne (Ne.symm hda), upd_same]
  · rw [upd_ne hda] at hd
    exact hd
  · have hd' : H d = none := by
      rw [upd_ne hda] at hd
      exact hd
    have e : upd (del (upd (upd (upd (upd H a (exo a C none)) d (exd d [(f, v)])) a (exo a C (some d))) d (exd d [(g, w), (f, v)])) a) d (.xd [(g, w), (f, v)]) = upd H d (.xd [(g, w), (f, v)]) := by
      funext b
      by_cases hb : b = d
      · rw [hb, upd_same, upd_same]
      · rw [upd_ne hb, upd_ne hb]
        by_cases hba : b = a
        · rw [hba, del_same, ha]
        · rw [del_ne hba, upd_ne hb, upd_ne hba, upd_ne hb, upd_ne hba]
    rw [e]
    exact q d hd'
/-- self.g = e, a further field -/
def tXs2 (C : Addr) (g : Str) (to te : TE) : TS := fun D σ H => te σ H fun y H1 => to σ H1 fun x H2 => ∃ (a d : Addr) (fs : List (Str × V)), x = .ref a ∧ H2 a = some (exo a C (some d)) ∧ H2 d = some (exd d fs) ∧ fs.length ≤ 900 ∧ D.nx σ (upd H2 d (exd d ((g, y) :: fs)))
end Xv

set_option maxRecDepth 100000
set_option maxHeartbeats 4000000
namespace Xv
open PySem PySem.Spec PyProof.Rows L2
section
variable {B newId initId : String} {bmB : List Value} {C : Addr}
theorem x_osa2 {R : Result → Shared → Prop} {hp : Heap} {gs : Array GenState} {dr : Drawn} {t : Nat} {os : OsState} {K : PySem.W.Frag} {name : Str} {tk : Tok} {v : Value} {x dx : Addr} {fv : Array Value} {prog : Program} {w : World} {A : Around} {m0 : Str → Option Value} {nl : List Str}
    (SF : StoreFacts B bmB "object.__setattr__" "object") (T : XC K C bmB newId) (X : K.In hp) (hx : hp.get? x = some { cls := .ref C, dict := some dx, data := .fields fv }) (hns : hp.Ns1 dx m0) (hw : Within m0 nl) (hz : nl.length ≤ 1000)
    (ha : PySem.W.findIn K (.ref C) name = some none)
    (hq : ∀ h' tk', (∀ b o, b ≠ dx → hp.get? b = some o → h'.get? b = some o) → h'.Ns1 dx (fun y => if y = name then some v else m0 y) → R (.ok (.ret .none)) ⟨h', gs, dr, tk', os⟩) :
    codeAny (model prog w) A (.call (.builtin "object.__setattr__") ⟨[.ref x, .str name tk, v], []⟩) R ⟨hp, gs, dr, t, os⟩ := by
  obtain ⟨oD, esD, epD, hoD, hdD, _⟩ := hns.count hw
  have J : PySem.W.InstAt hp x { cls := .ref C, dict := some dx, data := .fields fv } C (some oD) := ⟨hx, rfl, rfl, hoD⟩
  obtain ⟨nm, q, N, bs, bm, sn, sub, ab, col, dd, k0, k1, k2, k3, k5, hC, hbm⟩ := T.cls
  have hcl : PySem.W.clsIn K C = some { name := nm, bases := bs, mro := .ref C :: bm, ns := N, qualname := q, hasDict := true, slotNames := sn, subclasses := sub, abstract := ab, collection := col, hasDel := false } := by
    unfold PySem.W.clsIn
    rw [hC]
  have hov : PySem.W.excOver K C bmB = true := by
    unfold PySem.W.excOver
    rw [hcl]
    simp [hbm]
  have htk : PySem.W.takerIn K C name = some none := by
    unfold PySem.W.takerIn
    rw [ha]
    rfl
  refine PySem.W.osa_openX (s := ⟨hp, gs, dr, t, os⟩) (r := none) SF X J hov htk fun b => ?_
  have hcls : PySem.W.Looks (model prog w) hp (classData C) _ := PySem.W.looks_clsIn X hcl
  show wpAny _ _ (Builtin.ObjectAttr.storeInOwnDict (.ref x) (.ref C) (.str name tk) name v b) _ _ _
  unfold Builtin.ObjectAttr.storeInOwnDict Builtin.ObjectAttr.ownDictForStores
  repeat (first
    | with_reducible refine PySem.OEX.store_in_old hns hw hz ?_
    | with_reducible refine wpAny_loadPart_at hx ?_
    | with_reducible refine hcls.at ?_
    | wp_step)
  intro h' tk' hn' hs
  exact hq h' tk' (fun b o hb ho => (hs.2 b hb).trans ho) hn'
variable {X : Cx} {pins : List (Addr × Obj)} {σ : L2.St} {H : Hp} {s : Shared} {a dx : Addr} {f : Str} {y : V} {u : Value} {fs : List (Str × V)}
theorem x_set2 {A : Around} {E : Value → Shared → Prop} {Q : Unit → Shared → Prop} (SF : StoreFacts B bmB "object.__setattr__" "object") (T : XC X.K C bmB newId) (I : Inv X pins σ H s) (e : H a = some (exo a C (some dx))) (ed : H dx = some (exd dx fs)) (hl : fs.length ≤ 900)
    (hno : PySem.W.findIn X.K (.ref C) f = some none) (ry : RelV y u) (h : ∀ s', Inv X pins σ (upd H dx (exd dx ((f, y) :: fs))) s' → Q () s') : wpAny (model X.prog X.w) A (setAttr (.ref a) f u) Q E s := by
  obtain ⟨t1, ho⟩ := exo_at I.hok e
  obtain ⟨mA, hns, rel⟩ := exd_at I.hok ed
  have hw := within_of rel
  obtain ⟨hp, g, d, t, os⟩ := s
  obtain ⟨oD, _, _, hoD, _, _⟩ := hns.count hw
  refine PySem.W.set_plain I.kIn (ox := _) (od := some oD) ⟨ho, rfl, rfl, hoD⟩ T.sa ?_
  refine x_osa2 SF T I.kIn ho hns hw (by rw [List.length_map]; omega) hno (fun h' tk' k hn => ?_)
  have hd : ∃ o, h'.get? dx = some o := by
    obtain ⟨o, _, _, e', _⟩ := hn
    exact ⟨o, e'⟩
  exact h _ (I.write (t' := tk') (x := dx) (e := dx) (o := exd dx ((f, y) :: fs)) (by rw [ed]; exact True.intro) (.inl rfl) k hd (exd_ok hn (relO_put ry rel)))
theorem ps_xset2 {o e : Expr} {to te : TE} {p' pos : Pos} (SF : StoreFacts B bmB "object.__setattr__" "object") (T : XC X.K C bmB newId) (hno : PySem.W.findIn X.K (.ref C) f = some none) (ho : PE X o to) (he : PE X e te)
    (hs : swapsWith e (some (.Attribute o f p')) pos.line X.env = pure false := by rfl) : PS X (.Assign [.Attribute o f p'] e pos) (tXs2 C f to te) := by
  refine ⟨fun pins s σ H D I h => ?_⟩
  refine plainObj_wpAny_Assign_Attribute (thn (he.run pins s σ H _ I h) fun v s1 ⟨y, H1, I1, r1, q1⟩ => thn (ho.run pins s1 σ H1 _ I1 q1) fun u s2 ⟨x, H2, I2, r2, a, d, fs, ex, ea, ed, hl, q⟩ => ?_) hs
  subst ex
  obtain rfl : u = Value.ref a := r2
  exact x_set2 SF T I2 ea ed hl hno r1 fun s' J => ⟨σ, _, J, q⟩
end
theorem bRaise1 {C : Addr} {f : Str} {i : Nat} {v : V} {σ : L2.St} {H : Hp} {G : XK} (h : σ[i]? = some (some v)) (q : ∀ d, H d = none → G (.ref C) (some d) (upd H d (.xd [(f, v)]))) : tMkX C (spXI C f) (tCons (tVar i) tNil) σ H G :=
  ⟨v, h, by show 1 ≤ 1000; decide, fun a ha => raised1 (Q := G) q a ha⟩
theorem bRaise2 {C : Addr} {f g : Str} {i j : Nat} {v u : V} {σ : L2.St} {H : Hp} {G : XK} (h : σ[i]? = some (some v)) (h2 : σ[j]? = some (some u)) (q : ∀ d, H d = none → G (.ref C) (some d) (upd H d (.xd [(g, u), (f, v)]))) :
    tMkX C (spXI2 C f g) (tCons (tVar i) (tCons (tVar j) tNil)) σ H G :=
  ⟨v, h, u, h2, by show 2 ≤ 1000; decide, fun a ha => raised2 (Q := G) q a ha⟩
end Xv

set_option maxRecDepth 100000
set_option maxHeartbeats 4000000
namespace Xv
open PySem PySem.Spec PyProof.Rows L2
/-! statements whose derivation is told when one gets there -/
def Does (X : Cx) (ss : List Stmt) (D : Ends) (σ : L2.St) (H : Hp) : Prop := ∃ t, PSs X ss t ∧ t D σ H
theorem pss_late {X : Cx} {ss : List Stmt} : PSs X ss (Does X ss) := by
  refine ⟨fun pins s σ H D I h => ?_⟩
  obtain ⟨t, ht, q⟩ := h
  exact ht.run pins s σ H D I q
theorem does_cons {X : Cx} {s : Stmt} {ss : List Stmt} {t : TS} {D : Ends} {σ : L2.St} {H : Hp} (h : PS X s t) (q : t { D with nx := Does X ss D } σ H) : Does X (s :: ss) D σ H := ⟨_, pss_cons h pss_late, q⟩
theorem does_one {X : Cx} {s : Stmt} {t : TS} {D : Ends} {σ : L2.St} {H : Hp} (h : PS X s t) (q : t D σ H) : Does X [s] D σ H := ⟨_, pss_one h, q⟩
theorem does_nil {X : Cx} {D : Ends} {σ : L2.St} {H : Hp} (q : D.nx σ H) : Does X [] D σ H := ⟨_, pss_nil, q⟩
mutual
theorem eqv_refl : ∀ d : PyData, d.hasDict = false → PyData.eqv d d = true
  | .none, _ => rfl
  | .bool b, _ => by simp [PyData.eqv]
  | .int i, _ => by simp [PyData.eqv]
  | .str x, _ => by simp [PyData.eqv]
  | .list xs, h => by
    simp only [PyData.eqv]
    exact eqvAll_refl xs (by simpa only [PyData.hasDict] using h)
  | .tuple xs, h => by
    simp only [PyData.eqv]
    exact eqvAll_refl xs (by simpa only [PyData.hasDict] using h)
  | .dict kvs, h => by simp [PyData.hasDict] at h
theorem eqvAll_refl : ∀ ds : List PyData, PyData.hasDictAll ds = false → PyData.eqvAll ds ds = true
  | [], _ => rfl
  | d :: ds, h => by
    simp only [PyData.hasDictAll, Bool.or_eq_false_iff] at h
    simp only [PyData.eqvAll, eqv_refl d h.1, eqvAll_refl ds h.2, Bool.and_true]
end
/-- a display of plain data, new -/
theorem bLstD {H : Hp} {xs : List V} {ds : List PyData} {Q : VK} (h : DVs H ds xs) (hl : ds.length ≤ sizeLine) (q : ∀ v H', Same H H' → DV H' (.list ds) v → Q v H') : xs.length ≤ sizeLine ∧ ∀ p, H p = none → Q (.ref p) (upd H p (.lst xs)) :=
  ⟨by rw [h.len]; exact hl, fun p hp => q _ _ (same_new hp) (.l upd_same (DVs.same (same_new hp) ds xs h))⟩
theorem bRepr {K : PySem.W.Frag} {H : Hp} {v : V} {d : PyData} {Q : VK} (h : DV H d v) (sh : d.showable = true) (dp : d.depth ≤ 40) (sz : d.shown.length ≤ sizeLine) (hi : ∀ i, d = .int i → i.natAbs.log2 < 1920) (q : Q (.str d.shown) H) : rRepr K [v] H Q := ⟨v, d, rfl, h, sh, dp, sz, hi, q⟩
theorem bNeD {H : Hp} {x y : V} {d e : PyData} {Q : VK} (h1 : DV H d x) (h2 : DV H e y) (c1 : PyData.canLay0 d = true) (c2 : PyData.canLay0 e = true) (d1 : d.depth ≤ 40) (d2 : e.depth ≤ 40) (q : Q (.bl (!PyData.eqv d e)) H) : rNeD x y H Q := ⟨d, e, h1, h2, c1, c2, d1, d2, q⟩
theorem bEqD {H : Hp} {x y : V} {d e : PyData} {Q : VK} (h1 : DV H d x) (h2 : DV H e y) (c1 : PyData.canLay0 d = true) (c2 : PyData.canLay0 e = true) (d1 : d.depth ≤ 40) (d2 : e.depth ≤ 40) (q : Q (.bl (PyData.eqv d e)) H) : rEqD x y H Q := ⟨d, e, h1, h2, c1, c2, d1, d2, q⟩
/-- ds * n, n written -/
theorem bRepD {H : Hp} {x : V} {ds : List PyData} {n : Int} {Q : VK} (h : DV H (.list ds) x) (h0 : -(2 ^ 63) ≤ n) (h1 : n < 2 ^ 63) (hl : ds.length * n.toNat ≤ sizeLine) (q : ∀ v H', Same H H' → DV H' (.list (List.replicate n.toNat ds).flatten) v → Q v H') : rRep x (.int n) H Q := by
  obtain ⟨a, xs, rfl, ha, hx⟩ := h.li
  refine ⟨a, n, xs, rfl, rfl, ha, h0, h1, by rw [hx.len]; exact hl, fun p hp => q _ _ (same_new hp) (.l upd_same (DVs.same (same_new hp) _ _ ?_))⟩
  generalize n.toNat = m
  induction m with
  | zero => exact .n
  | succ m ih =>
    rw [List.replicate_succ, List.flatten_cons, List.replicate_succ, List.flatten_cons]
    exact hx.app ih
/-- e.f of an exception -/
theorem bXf {K : PySem.W.Frag} {f : Str} {i : Nat} {a C : Addr} {v : V} {σ : L2.St} {H : Hp} {Q : VK} (h : σ[i]? = some (some (.ref a))) (x : ExF K H a C f v) (q : Q v H) : tXf K f (tVar i) σ H Q := by
  obtain ⟨t, no, dd, fs, h1, h2, h3⟩ := x
  exact ⟨_, h, a, C, dd, fs, v, rfl, h1, h2, t, no, h3, q⟩
end Xv

set_option maxRecDepth 100000
set_option maxHeartbeats 4000000
namespace Xv
open PySem PySem.Spec PyProof.Rows L2
section
variable {K : PySem.W.Frag} {H H' : Hp} {C p : Addr} {f : Str} {v r y : V} {ca : Nat → Addr} {ts : List V} {ks : List (Nat × Nat)} {k : Nat × Nat}
/-- (i, base, [two exceptions of the i-th class]) -/
def Pr (K : PySem.W.Frag) (H : Hp) (ca : Nat → Addr) (v : V) (k : Nat × Nat) (r : V) : Prop := ∃ q y, r = .ref q ∧ H q = some (.tup [.int (k.1 : Nat), .int (k.2 : Nat), y]) ∧ Two K H (ca k.1) "index" v y
theorem Pr.same (s : Same H H') (h : Pr K H ca v k r) : Pr K H' ca v k r := by
  obtain ⟨q, y, e, h1, h2⟩ := h
  exact ⟨q, y, e, s _ _ h1, h2.same s⟩
def Prs (K : PySem.W.Frag) (H : Hp) (ca : Nat → Addr) (v : V) (ks : List (Nat × Nat)) (ts : List V) : Prop := ts.length = ks.length ∧ ∀ (j : Nat) r k, ts[j]? = some r → ks[j]? = some k → Pr K H ca v k r
theorem Prs.same (s : Same H H') (h : Prs K H ca v ks ts) : Prs K H' ca v ks ts := ⟨h.1, fun j r k e1 e2 => (h.2 j r k e1 e2).same s⟩
theorem Two.keepP (h : Two K H C f v y) (hp : H p = some (.lst ts)) (P : Prs K H ca v ks ts) {ys : List V} : Two K (upd H p (.lst ys)) C f v y := by
  obtain ⟨q, a, b, e, h1, h2, h3⟩ := h
  refine ⟨q, a, b, e, ?_, h2.upd_lst hp, h3.upd_lst hp⟩
  rw [upd_ne (fun z => ?_)]
  · exact h1
  · rw [z, hp] at h1
    have e2 := Option.some.inj h1
    injection e2 with e3
    subst e3
    have hl := P.1
    match ks, hl with
    | k :: _, _ =>
      obtain ⟨q', y', e', h1', _⟩ := P.2 0 (.ref a) k rfl rfl
      cases e'
      obtain ⟨_, _, d, fs, g1, _⟩ := h2
      rw [h1'] at g1
      have z2 : HO.tup _ = HO.ext _ := Option.some.inj g1
      cases z2
theorem Pr.keep (h : Pr K H ca v k r) (hp : H p = some (.lst ts)) (P : Prs K H ca v ks ts) {ys : List V} : Pr K (upd H p (.lst ys)) ca v k r := by
  obtain ⟨q, y, e, h1, h2⟩ := h
  refine ⟨q, y, e, ?_, h2.keepP hp P⟩
  rw [upd_ne (fun z => ?_)]
  · exact h1
  · rw [z, hp] at h1
    cases h1
theorem prs_app (hp : H p = some (.lst ts)) (P : Prs K H ca v ks ts) (t : Pr K H ca v k r) : Prs K (upd H p (.lst (ts ++ [r]))) ca v (ks ++ [k]) (ts ++ [r]) := by
  refine ⟨by simp [P.1], fun j x k' e1 e2 => ?_⟩
  have hl := P.1
  by_cases hj : j < ts.length
  · rw [List.getElem?_append_left hj] at e1
    rw [List.getElem?_append_left (by omega)] at e2
    exact (P.2 j x k' e1 e2).keep hp P
  · rw [List.getElem?_append_right (by omega)] at e1 e2
    have hz : j - ts.length = 0 := by
      have := (List.getElem?_eq_some_iff.mp e1).1
      simp at this
      omega
    rw [hz] at e1
    rw [← hl, hz] at e2
    have ex : r = x := by simpa using e1
    have ek : k = k' := by simpa using e2
    rw [← ex, ← ek]
    exact t.keep hp P
/-- the pairs, so far, since H0 -/
def FP (K : PySem.W.Frag) (ca : Nat → Addr) (v : V) (H0 H : Hp) (p : Addr) (ks : List (Nat × Nat)) : Prop := Same H0 H ∧ H0 p = none ∧ ∃ ts, H p = some (.lst ts) ∧ Prs K H ca v ks ts
theorem bAppPr {p : Addr} {H0 H1 H : Hp} {q : Addr} {y : V} {Q : VK} (S : FP K ca v H0 H p ks) (hk : ks.length ≤ 100) (s1 : Same H H1) (t : Two K H1 (ca k.1) "index" v y) (hq : H1 q = none)
    (h : ∀ H', FP K ca v H0 H' p (ks ++ [k]) → Q .non H') : rAppend (.ref p) [.ref q] (upd H1 q (.tup [.int (k.1 : Nat), .int (k.2 : Nat), y])) Q := by
  obtain ⟨s, p0, ts, hp, P⟩ := S
  have hl := P.1
  have S1 : Same H1 (upd H1 q (.tup [.int (k.1 : Nat), .int (k.2 : Nat), y])) := same_new hq
  have hp2 : (upd H1 q (.tup [.int (k.1 : Nat), .int (k.2 : Nat), y])) p = some (.lst ts) := S1 _ _ (s1 _ _ hp)
  refine ⟨p, ts, .ref q, rfl, rfl, hp2, by rw [sizeLine_eq]; omega, h _ ⟨?_, p0, ts ++ [.ref q], upd_same, prs_app hp2 ((P.same s1).same S1) ⟨q, y, rfl, upd_same, t.same S1⟩⟩⟩
  intro b o e
  rw [upd_ne (ne_of_none e p0)]
  exact S1 b o (s1 b o (s b o e))
end
end Xv

set_option maxRecDepth 100000
set_option maxHeartbeats 4000000
namespace Toy
open PySem PySem.Spec PyProof.Rows L2 Xv
local macro_rules | `(tactic| walk_at "side") => `(tactic| first
  | trivial | decide | (show (0 : Int) < _; decide) | omega | (left; constructor <;> omega) | (right; constructor <;> omega) | (refine ⟨?_, ?_, ?_⟩ <;> decide) | (refine ⟨?_, ?_⟩ <;> first | decide | omega))
local macro_rules | `(tactic| walk_at "rd1") => `(tactic| first
  | with_reducible refine bCons ?_
  | with_reducible refine bNil ?_
  | ((with_reducible refine bV (v := ?vv) ?hv ?_); (case hv => exact rfl))
  | with_reducible refine bC ?_
  | with_reducible refine bOp ?_
  | with_reducible refine bI0 ?_
  | ((with_reducible refine bI ?hc ?_); (case hc => walk_at "side"))
  | with_reducible refine bCB ?_
  | with_reducible refine bInt ?_
  | with_reducible refine bIntB ?_
  | with_reducible refine bTest ?_
  | with_reducible refine bB ?_
  | with_reducible refine bBl ?_
  | with_reducible refine bNot ?_
  | with_reducible refine bOr ?_
  | with_reducible refine bAnd ?_
  | with_reducible refine bIf ?_
  | with_reducible refine bTup ?_
  | with_reducible refine bLst ?_
  | with_reducible refine bUn ?_
  | with_reducible refine bSeq ?_
  | with_reducible refine bAsg ?_
  | with_reducible refine bName ?_
  | with_reducible refine bRet ?_
  | with_reducible refine bDrop ?_
  | with_reducible refine bIfS ?_
  | with_reducible refine bNext ?_
  | with_reducible refine bPar ?_
  | with_reducible refine bPar2 ?_
  | with_reducible refine bSub ?_
  | with_reducible refine bCall ?_
  | with_reducible refine bBM ?_)
local macro_rules | `(tactic| walk_at "rd") => `(tactic| repeat (walk_at "rd1"))

def top (i : Nat) : Stmt := PySem.Challenge.pw_likelybook_k01_limits_and_errors.main.body.getD i (.Pass ⟨0, 0, 0, 0⟩)
/-! ### the law's own drawing: a bag of three numbers, a coin, one of some -/
abbrev sBag : Stmt := top 29
/-- behind H everything stands, and at p a new list of a bag's three numbers -/
def Bag (H H' : Hp) (p : Addr) : Prop := Same H H' ∧ H p = none ∧ ∃ dg mx ct : Int, H' p = some (.lst [.int dg, .int mx, .int ct]) ∧ 0 ≤ dg ∧ 0 ≤ mx ∧ mx < 2147483249 ∧ 0 ≤ ct
def spBag (K : PySem.W.Frag) : Sp := fun vs H Q _ => ∃ (a : Addr) (ns : List Int) (k : Int), vs = [.ref a, .int k] ∧ SqL K H a (ns.map V.int) ∧ 0 ≤ k ∧ k ≤ 6 ∧ ∀ H' p, Bag H H' p → Q (.ref p) H'
structure TxtB (mg : Str → Option Value) : Prop where
  len : mg "len" = none
  int : mg "int" = none
  abs : mg "abs" = none
section
variable {P : Program} {w : World} {K : PySem.W.Frag} {mg : Str → Option Value} {base : Heap}
theorem scBag : FnScope ["cells", "k", "cell", "mixed", "each", "digits"] ["cells", "k"] (defScope sBag) := ⟨rfl, rfl, rfl, by decide +kernel, rfl, by decide +kernel, by decide +kernel⟩
theorem ok_bag {f : Addr} {fd : FuncData} (F : Fun K "_law_bag" "_law_bag" sBag f fd) (T : TxtB mg) : FnOk P w K mg base CX0 1 f fd ["cells", "k"] (spBag K) := by
  refine F.ok scBag (fun vs H Q E h => ?_) (fun cdv A outer s H vs Q E hr h => ?_)
  · obtain ⟨a, ns, k, rfl, _⟩ := h
    rfl
  · obtain ⟨a, ns, k, rfl, hS, k0, k6, q⟩ := h
    refine ⟨_, pss_cons (ps_par (i := 2) (j := 3) rfl scBag.nd rfl rfl (by decide) rfl rfl (pa_cons (pe_meet (pe_ifExp (pt_cmpR op_lt (pv 1) (pe_callB call_len (by rfl) T.len PySem.boot_len (pa_cons (pv 0) pa_nil)) (nomark _))
          (pe_callTy call_int1 (by rfl) T.int PyProof.Rows.boot_int (pa_cons (pe_ix ix_list (pv 0) (pv 1) (fun _ _ => rfl)) pa_nil)) pe_int))
        (pa_cons (pe_op op_add (pe_op op_mul pe_int (pe_op op_add (pv 1) pe_int)) pe_int) pa_nil)) (by rfl))
      (pss_cons (ps_for PassesOwn.never rfl (pi_list (pe_slice sl_list (pv 0) po_none (po_some pe_int))) (pg_name (i := 4) scBag.nd rfl (.inl rfl))
        (pss_one (ps_set (i := 3) scBag.nd rfl (Or.inl rfl) (pe_op op_mod (pe_callTy call_int1 (by rfl) T.int PyProof.Rows.boot_int (pa_cons
          (pe_op op_add (pe_op op_add (pe_op op_mul (pv 3) pe_int) (pe_op op_mod (pe_callTy call_int1 (by rfl) T.int PyProof.Rows.boot_int (pa_cons (pv 4) pa_nil)) pe_int)) (pe_op op_mul pe_int (pv 1))) pa_nil)) pe_int))))
      (pss_cons (ps_set (i := 5) scBag.nd rfl (Or.inl rfl) (pe_meet (pe_ifExp (pw_or (pt_cmpR op_lt (pv 2) pe_int (nomark _)) (pw_or1 (pt_cmpR op_ge (pv 2) (pe_op op_pow pe_int pe_int) (nomark _)))).pt
          (pe_callB call_abs (by rfl) T.abs PyProof.Rows.boot_abs (pa_cons (pv 2) pa_nil)) pe_int)))
      (pss_one (ps_ret (pe_lst (pa_cons (pv 5) (pa_cons (pe_op op_mod (pe_callTy call_int1 (by rfl) T.int PyProof.Rows.boot_int (pa_cons (pe_op op_add (pv 3) (pe_op op_mul pe_int
          (pe_op op_mod (pe_callTy call_int1 (by rfl) T.int PyProof.Rows.boot_int (pa_cons (pv 2) pa_nil)) pe_int))) pa_nil)) pe_int) (pa_cons pe_int pa_nil)))))))), ?_⟩
    walk_at "rd"
    refine bMeetI (fun _ => True) ?_ (fun c _ => ?_)
    · walk_at "rd"
      refine ⟨_, _, rfl, .inl ⟨_, hS, rfl⟩, ?_⟩
      walk_at "rd"
      refine bDec (fun hk => ?_) (fun hk => ?_)
      · walk_at "rd"
        rw [List.length_map] at hk
        have hk2 : k.toNat < ns.length := by omega
        refine ⟨a, _, k, .int (ns[k.toNat]'hk2), rfl, rfl, hS, atI_of k0 (by simp [hk2]), ?_⟩
        walk_at "rd"
        exact ⟨rfl, _, rfl, trivial⟩
      · walk_at "rd"
        exact ⟨rfl, _, rfl, trivial⟩
    walk_at "rd"
    refine ⟨_, rfl, 6, rfl, a, _, rfl, hS, fun p hp => ⟨p, rfl, ⟨_, SqL.of upd_same⟩, for_list (K := K) (a := p) (xs := cutV (ns.map V.int) none (some 6)) (fun i σ H' => ∃ (m : Int) (each : Option V),
      σ = [some (.ref a), some (.int k), some (.int c), some (.int m), each, none] ∧ H' = upd H p (.lst (cutV (ns.map V.int) none (some 6))) ∧ 0 ≤ m ∧ m < 2147483249) ⟨_, none, rfl, rfl, by omega, by omega⟩ ?_ ?_ ?_⟩⟩
    · rintro i σ H' _ ⟨m, ea, _, rfl, _⟩
      exact SqL.of upd_same
    · rintro i x σ H' hx ⟨m, ea, rfl, rfl, m0, m1⟩
      obtain ⟨u, rfl⟩ : ∃ u, x = V.int u := by
        obtain ⟨u, _, e⟩ := List.mem_map.mp (cutV_mem hx)
        exact ⟨u, e.symm⟩
      walk_at "rd"
      exact ⟨_, _, rfl, rfl, Int.emod_nonneg _ (by decide), Int.emod_lt_of_pos _ (by decide)⟩
    · rintro σ H' ⟨m, ea, rfl, rfl, m0, m1⟩
      walk_at "rd"
      refine bMeetI (fun d => 0 ≤ d) ?_ (fun d d0 => ?_)
      · walk_at "rd"
        refine bDec (fun hc => ?_) (fun hc => ?_)
        · refine bIte (fun _ => ?_) (fun z => by cases z)
          walk_at "rd"
          refine ⟨_, rfl, rfl, _, rfl, ?_⟩
          split <;> omega
        · walk_at "rd"
          refine bDec (fun hc2 => ?_) (fun hc2 => ?_)
          · walk_at "rd"
            refine ⟨_, rfl, rfl, _, rfl, ?_⟩
            split <;> omega
          · walk_at "rd"
            exact ⟨rfl, _, rfl, by omega⟩
      walk_at "rd"
      refine ⟨by show 3 ≤ sizeLine; decide, fun p2 hp2 => q _ _ ⟨?_, ?_, _, _, _, upd_same, d0, Int.emod_nonneg _ (by decide), Int.emod_lt_of_pos _ (by decide), by decide⟩⟩
      · intro b o e
        rw [upd_ne (ne_of_none (by rw [upd_ne (ne_of_none e hp)]; exact e) hp2), upd_ne (ne_of_none e hp)]
        exact e
      · by_cases e : p2 = p
        · rw [e, upd_same] at hp2
          cases hp2
        · rw [upd_ne e] at hp2
          exact hp2
abbrev sCoin : Stmt := top 30
/-- a bag at p; all else is kept -/
def Pch (H : Hp) (p : Addr) : Prop := ∃ dg mx ct : Int, H p = some (.lst [.int dg, .int mx, .int ct]) ∧ 0 ≤ dg ∧ 0 ≤ mx ∧ mx < 2147483249 ∧ 0 ≤ ct
def spCoin : Sp := fun vs H Q _ => ∃ (p : Addr) (t : Int), vs = [.ref p, .int t] ∧ Pch H p ∧ 0 < t ∧ t ≤ 1000000 ∧ ∀ (r : Int) (H' : Hp), 0 ≤ r → r < t → Pch H' p → Oth p H H' → Q (.int r) H'
theorem scCoin : FnScope ["pouch", "top", "figure", "base"] ["pouch", "top"] (defScope sCoin) := ⟨rfl, rfl, rfl, by decide +kernel, rfl, by decide +kernel, by decide +kernel⟩
theorem ok_coin {f : Addr} {fd : FuncData} (F : Fun K "_law_coin" "_law_coin" sCoin f fd) (T : TxtB mg) : FnOk P w K mg base CX0 1 f fd ["pouch", "top"] spCoin := by
  refine F.ok scCoin (fun vs H Q E h => ?_) (fun cdv A outer s H vs Q E hr h => ?_)
  · obtain ⟨p, t, rfl, _⟩ := h
    rfl
  · obtain ⟨p, t, rfl, ⟨dg, mx, ct, hp, d0, m0, m1, c0⟩, t0, t1, q⟩ := h
    refine ⟨_, (pss_cons (ps_if (pt_cmpR op_gt (pe_ix ix_list (pv 0) pe_int (fun _ _ => rfl)) pe_int (nomark _)) (pss_cons (ps_set (i := 2) scCoin.nd rfl (Or.inl rfl) (pe_op op_mod (pe_callTy call_int1 (by rfl) T.int PyProof.Rows.boot_int (pa_cons (pe_ix ix_list (pv 0) pe_int (fun _ _ => rfl)) pa_nil)) (pv 1))) (pss_cons (ps_asg (pe_op op_fdiv (pe_ix ix_list (pv 0) pe_int (fun _ _ => rfl)) (pv 1)) (pg_sub (pv 0) pe_int set_list)) (pss_one (ps_ret (pv 2))))) pss_nil) (pss_cons (ps_asg (pe_op op_add (pe_ix ix_list (pv 0) pe_int (fun _ _ => rfl)) pe_int) (pg_sub (pv 0) pe_int set_list)) (pss_cons (ps_set (i := 3) scCoin.nd rfl (Or.inl rfl) (pe_op op_mod (pe_callTy call_int1 (by rfl) T.int PyProof.Rows.boot_int (pa_cons (pe_op op_add (pe_ix ix_list (pv 0) pe_int (fun _ _ => rfl)) (pe_op op_mul pe_int (pe_ix ix_list (pv 0) pe_int (fun _ _ => rfl)))) pa_nil)) pe_int)) (pss_cons (ps_asg (pe_op op_mod (pe_callTy call_int1 (by rfl) T.int PyProof.Rows.boot_int (pa_cons (pe_op op_add (pe_op op_add (pe_op op_mul (pv 3) (pe_op op_add (pe_op op_mod (pe_callTy call_int1 (by rfl) T.int PyProof.Rows.boot_int (pa_cons (pv 3) pa_nil)) pe_int) pe_int)) (pe_op op_mul pe_int (pe_ix ix_list (pv 0) pe_int (fun _ _ => rfl)))) pe_int) pa_nil)) pe_int) (pg_sub (pv 0) pe_int set_list)) (pss_one (ps_ret (pe_op op_mod (pe_op op_fdiv (pe_callTy call_int1 (by rfl) T.int PyProof.Rows.boot_int (pa_cons (pe_ix ix_list (pv 0) pe_int (fun _ _ => rfl)) pa_nil)) pe_int) (pv 1)))))))), ?_⟩
    walk_at "rd"
    refine bIxL hp rfl ?_
    walk_at "rd"
    refine bDec (fun hk => ?_) (fun hk => ?_)
    · walk_at "rd"
      refine bIxL hp rfl ?_
      walk_at "rd"
      refine bIxL hp rfl ?_
      walk_at "rd"
      refine bSetL hp rfl ?_
      walk_at "rd"
      refine q _ _ (Int.emod_nonneg _ (by omega)) (Int.emod_lt_of_pos _ t0) ⟨_, _, _, upd_same, Int.ediv_nonneg d0 (by omega), m0, m1, c0⟩ fun b o hb e => ?_
      rw [upd_ne hb]
      exact e
    · walk_at "rd"
      refine bIxL hp rfl ?_
      walk_at "rd"
      refine bSetL hp rfl ?_
      walk_at "rd"
      refine bIxL upd_same rfl ?_
      walk_at "rd"
      refine bIxL upd_same rfl ?_
      walk_at "rd"
      refine bIxL upd_same rfl ?_
      walk_at "rd"
      refine bSetL upd_same rfl ?_
      walk_at "rd"
      refine bIxL upd_same rfl ?_
      walk_at "rd"
      refine q _ _ (Int.emod_nonneg _ (by omega)) (Int.emod_lt_of_pos _ t0) ⟨_, _, _, upd_same, d0, Int.emod_nonneg _ (by decide), Int.emod_lt_of_pos _ (by decide), by omega⟩ fun b o hb e => ?_
      rw [upd_ne hb, upd_ne hb]
      exact e
end
end Toy

set_option maxRecDepth 100000
set_option maxHeartbeats 4000000
namespace Toy
open PySem PySem.Spec PyProof.Rows L2 Xv
local macro_rules | `(tactic| walk_at "side") => `(tactic| first
  | trivial | decide | (show (0 : Int) < _; decide) | omega | (left; constructor <;> omega) | (right; constructor <;> omega) | (refine ⟨?_, ?_, ?_⟩ <;> decide) | (refine ⟨?_, ?_⟩ <;> first | decide | omega))
local macro_rules | `(tactic| walk_at "rd1") => `(tactic| first
  | with_reducible refine bCons ?_
  | with_reducible refine bNil ?_
  | ((with_reducible refine bV (v := ?vv) ?hv ?_); (case hv => exact rfl))
  | with_reducible refine bC ?_
  | with_reducible refine bOp ?_
  | with_reducible refine bI0 ?_
  | ((with_reducible refine bI ?hc ?_); (case hc => walk_at "side"))
  | with_reducible refine bCB ?_
  | with_reducible refine bInt ?_
  | with_reducible refine bIntB ?_
  | with_reducible refine bTest ?_
  | with_reducible refine bB ?_
  | with_reducible refine bBl ?_
  | with_reducible refine bNot ?_
  | with_reducible refine bOr ?_
  | with_reducible refine bAnd ?_
  | with_reducible refine bIf ?_
  | with_reducible refine bTup ?_
  | with_reducible refine bLst ?_
  | with_reducible refine bUn ?_
  | with_reducible refine bSeq ?_
  | with_reducible refine bAsg ?_
  | with_reducible refine bName ?_
  | with_reducible refine bRet ?_
  | with_reducible refine bDrop ?_
  | with_reducible refine bIfS ?_
  | with_reducible refine bNext ?_
  | with_reducible refine bPar ?_
  | with_reducible refine bPar2 ?_
  | with_reducible refine bSub ?_
  | with_reducible refine bCall ?_
  | with_reducible refine bBM ?_)
local macro_rules | `(tactic| walk_at "rd") => `(tactic| repeat (walk_at "rd1"))

/-- a def of the law as the module names it -/
structure Df (K : PySem.W.Frag) (mg : Str → Option Value) (x : Str) (f : Addr) (fd : FuncData) (ps : List Str) : Prop where
  m : mg x = some (.ref f)
  k : PySem.W.keepIn K (.ref f) = true
  b : Binds K fd ps []
section
variable {P : Program} {w : World} {K : PySem.W.Frag} {mg : Str → Option Value} {base : Heap}
abbrev sOf : Stmt := top 31
def spOf : Sp := fun vs H Q _ => ∃ (p : Addr) (v : V) (ds : List PyData), vs = [.ref p, v] ∧ Pch H p ∧ DV H (.list ds) v ∧ 0 < ds.length ∧ ds.length ≤ 1000 ∧ okD (.list ds) = true ∧
  ∀ x d H', d ∈ ds → DV H' d x → Pch H' p → Oth p H H' → Q x H'
theorem scOf : FnScope ["pouch", "some"] ["pouch", "some"] (defScope sOf) := ⟨rfl, rfl, rfl, by decide +kernel, rfl, by decide +kernel, by decide +kernel⟩
theorem ok_of {f fc : Addr} {fd fdc : FuncData} (F : Fun K "_law_of" "_law_of" sOf f fd) (T : TxtB mg) (Dc : Df K mg "_law_coin" fc fdc ["pouch", "top"]) (Gc : FnOk P w K mg base CX0 1 fc fdc ["pouch", "top"] spCoin) :
    FnOk P w K mg base CX0 2 f fd ["pouch", "some"] spOf := by
  refine F.ok scOf (fun vs H Q E h => ?_) (fun cdv A outer s H vs Q E hr h => ?_)
  · obtain ⟨p, v, ds, rfl, _⟩ := h
    rfl
  · obtain ⟨p, v, ds, rfl, hp, hd, d0, d1, ok, q⟩ := h
    obtain ⟨l, xs, rfl, hl, hx⟩ := hd.li
    have hn := hx.len
    refine ⟨_, (pss_one (ps_ret (pe_ix ix_list (pv 1) (pe_call Gc hr rfl Dc.m Dc.k Dc.b .nil pass0 (pa_cons (pv 0) (pa_cons (pe_callB call_len (by rfl) T.len PySem.boot_len (pa_cons (pv 1) pa_nil)) pa_nil))) (fun _ _ => rfl)))), ?_⟩
    walk_at "rd"
    refine ⟨_, _, rfl, .inl ⟨_, SqL.of hl, rfl⟩, ?_⟩
    walk_at "rd"
    refine ⟨p, _, rfl, hp, by omega, by omega, fun r H' r0 r1 hp' ho => ?_⟩
    obtain ⟨dg, mx, ct, hq, _⟩ := hp
    have hd' := DV.oth hq ho _ _ ok hd
    obtain ⟨l', xs', e, hl', hx'⟩ := hd'.li
    cases e
    have hn' := hx'.len
    have hi : r.toNat < ds.length := by omega
    obtain ⟨x, ex, hdx⟩ := hx'.at_ (i := r.toNat) (d := ds[r.toNat]) (by simp [hi])
    exact bIxL hl' (atI_of r0 ex) (q x _ H' (List.getElem_mem hi) hdx hp' ho)
abbrev sAny : Stmt := top 32
def anyD : List PyData := [.none, .bool true, .bool false, .int 0, .int 1, .int (-1), .int 2, .int ((10 : Int) ^ (40 : Int).toNat), .str "", .str "a", .str "abc", .str "cases ab", .tuple [], .tuple [.str "more"],
  .tuple [.str "more", .str "a", .str "b"], .list [], .dict []] ++ [.tuple [.str "least", .str "", .str "a"], .tuple [.str "times", .str "a", .str "b", .int 2], .tuple [.int 1, .int 2], .list [.str "a"], .tuple [.str "a"], .tuple [.tuple []],
  .str "A", .str "ba", .str "aa"]
def spAny : Sp := fun vs H Q _ => ∃ p : Addr, vs = [.ref p] ∧ Pch H p ∧ ∀ x d H', d ∈ anyD → DV H' d x → Pch H' p → Oth p H H' → Q x H'
theorem scAny : FnScope ["pouch", "some"] ["pouch"] (defScope sAny) := ⟨rfl, rfl, rfl, by decide +kernel, rfl, by decide +kernel, by decide +kernel⟩
theorem anyD_ok : okD (.list anyD) = true := by decide +kernel
theorem ok_any {f fo : Addr} {fd fdo : FuncData} (F : Fun K "_law_any" "_law_any" sAny f fd) (Do : Df K mg "_law_of" fo fdo ["pouch", "some"]) (Go : FnOk P w K mg base CX0 2 fo fdo ["pouch", "some"] spOf) :
    FnOk P w K mg base CX0 3 f fd ["pouch"] spAny := by
  refine F.ok scAny (fun vs H Q E h => ?_) (fun cdv A outer s H vs Q E hr h => ?_)
  · obtain ⟨p, rfl, _⟩ := h
    rfl
  · obtain ⟨p, rfl, hp, q⟩ := h
    refine ⟨_, (pss_cons (ps_set (i := 1) scAny.nd rfl (Or.inl rfl) (dL (dCons dN (dCons dB (dCons dB (dCons dI (dCons dI (dCons (dNeg dI) (dCons dI (dCons (dPow dI dI (by refine ⟨?_, ?_, ?_⟩ <;> decide)) (dCons dS (dCons dS (dCons dS (dCons dS (dCons (dT dNil) (dCons (dT (dCons dS dNil)) (dCons (dT (dCons dS (dCons dS (dCons dS dNil)))) (dCons (dL dNil) (dCons dD dNil))))))))))))))))))) (pss_one (ps_ret (pe_call Go hr rfl Do.m Do.k Do.b .nil pass0 (pa_cons (pv 0) (pa_cons (pe_op op_cat (pv 1) (dL (dCons (dT (dCons dS (dCons dS (dCons dS dNil)))) (dCons (dT (dCons dS (dCons dS (dCons dS (dCons dI dNil))))) (dCons (dT (dCons dI (dCons dI dNil))) (dCons (dL (dCons dS dNil)) (dCons (dT (dCons dS dNil)) (dCons (dT (dCons (dT dNil) dNil)) (dCons dS (dCons dS (dCons dS dNil))))))))))) pa_nil)))))), ?_⟩
    walk_at "rd"
    refine bData fun v H1 s1 hd1 => ?_
    walk_at "rd"
    refine bData fun u H2 s2 hd2 => ?_
    obtain ⟨l, xs, rfl, hl, hx⟩ := (DV.same s2 _ _ hd1).li
    obtain ⟨l2, ys, rfl, hl2, hy⟩ := hd2.li
    refine ⟨l, l2, xs, ys, rfl, rfl, hl, hl2, ?_, fun r hr2 => ?_⟩
    · have e1 := hx.len
      have e2 := hy.len
      simp only [List.length_cons, List.length_nil] at e1 e2
      rw [e1, e2]
      decide
    · walk_at "rd"
      have s3 : Same H (upd H2 r (.lst (xs ++ ys))) := fun b o e => same_new hr2 b o (s2 b o (s1 b o e))
      refine ⟨p, .ref r, anyD, rfl, ?_, .l upd_same (DVs.same (same_new hr2) _ _ (hx.app hy)), by decide, by decide, anyD_ok, fun x d H' m hd hp' ho => q x d H' m hd hp' ((Oth.of s3).trans ho)⟩
      obtain ⟨dg, mx, ct, hq, r⟩ := hp
      exact ⟨dg, mx, ct, s3 _ _ hq, r⟩
end
end Toy

set_option maxRecDepth 100000
set_option maxHeartbeats 4000000
namespace Toy
open PySem PySem.Spec PyProof.Rows L2 Xv
local macro_rules | `(tactic| walk_at "side") => `(tactic| first
  | trivial | decide | (show (0 : Int) < _; decide) | omega | (left; constructor <;> omega) | (right; constructor <;> omega) | (refine ⟨?_, ?_, ?_⟩ <;> decide) | (refine ⟨?_, ?_⟩ <;> first | decide | omega))
local macro_rules | `(tactic| walk_at "rd1") => `(tactic| first
  | with_reducible refine bCons ?_
  | with_reducible refine bNil ?_
  | ((with_reducible refine bV (v := ?vv) ?hv ?_); (case hv => exact rfl))
  | with_reducible refine bC ?_
  | with_reducible refine bOp ?_
  | with_reducible refine bI0 ?_
  | ((with_reducible refine bI ?hc ?_); (case hc => walk_at "side"))
  | with_reducible refine bCB ?_
  | with_reducible refine bInt ?_
  | with_reducible refine bIntB ?_
  | with_reducible refine bTest ?_
  | with_reducible refine bB ?_
  | with_reducible refine bBl ?_
  | with_reducible refine bNot ?_
  | with_reducible refine bOr ?_
  | with_reducible refine bAnd ?_
  | with_reducible refine bIf ?_
  | with_reducible refine bTup ?_
  | with_reducible refine bLst ?_
  | with_reducible refine bUn ?_
  | with_reducible refine bSeq ?_
  | with_reducible refine bAsg ?_
  | with_reducible refine bName ?_
  | with_reducible refine bRet ?_
  | with_reducible refine bDrop ?_
  | with_reducible refine bIfS ?_
  | with_reducible refine bNext ?_
  | with_reducible refine bPar ?_
  | with_reducible refine bPar2 ?_
  | with_reducible refine bSub ?_
  | with_reducible refine bCall ?_
  | with_reducible refine bBM ?_)
local macro_rules | `(tactic| walk_at "rd") => `(tactic| repeat (walk_at "rd1"))

/-! ### the classes of errors: by number, as the law counts them; 19, 20, 21 are the bases -/
def bOf (i : Nat) : Nat := if i ≤ 12 then 0 else if i ≤ 14 then 1 else 2
structure TxtE (K : PySem.W.Frag) (mg : Str → Option Value) (ca : Nat → Addr) : Prop where
  xo : XO K
  isinstance : mg "isinstance" = none
  range : mg "range" = none
  len : mg "len" = none
  ve : mg "ValueError" = none
  le : mg "LookupError" = none
  ae : mg "ArithmeticError" = none
  c0 : mg "InvalidText" = some (.ref (ca 0))
  c1 : mg "InvalidCases" = some (.ref (ca 1))
  c2 : mg "InvalidLot" = some (.ref (ca 2))
  c3 : mg "InvalidSaying" = some (.ref (ca 3))
  c4 : mg "InvalidNumber" = some (.ref (ca 4))
  c5 : mg "InvalidOrder" = some (.ref (ca 5))
  c6 : mg "InvalidName" = some (.ref (ca 6))
  c7 : mg "InvalidIndex" = some (.ref (ca 7))
  c8 : mg "InvalidClaim" = some (.ref (ca 8))
  c9 : mg "InvalidCommand" = some (.ref (ca 9))
  c10 : mg "NotABook" = some (.ref (ca 10))
  c11 : mg "InvalidSayings" = some (.ref (ca 11))
  c12 : mg "InvalidOdds" = some (.ref (ca 12))
  c13 : mg "UnknownName" = some (.ref (ca 13))
  c14 : mg "InUse" = some (.ref (ca 14))
  c15 : mg "NoOdds" = some (.ref (ca 15))
  c16 : mg "TooMany" = some (.ref (ca 16))
  c17 : mg "NothingToUndo" = some (.ref (ca 17))
  c18 : mg "Broken" = some (.ref (ca 18))
  c19 : mg "BadValue" = some (.ref (ca 19))
  c20 : mg "BadName" = some (.ref (ca 20))
  c21 : mg "NoAnswer" = some (.ref (ca 21))
  own : ∀ i j, i < 19 → j < 19 → PySem.W.kitOne K (.ref (ca i)) (.ref (ca j)) = some (i == j)
  up : ∀ i b, i < 19 → b < 3 → PySem.W.kitOne K (.ref (ca i)) (.ref (ca (19 + b))) = some (bOf i == b)
  v : ∀ i, i < 19 → PySem.W.kitOne K (.ref (ca i)) (.type "ValueError") = some (bOf i == 0)
  l : ∀ i, i < 19 → PySem.W.kitOne K (.ref (ca i)) (.type "LookupError") = some (bOf i == 1)
  a : ∀ i, i < 19 → PySem.W.kitOne K (.ref (ca i)) (.type "ArithmeticError") = some (bOf i == 2)
section
variable {P : Program} {w : World} {K : PySem.W.Frag} {mg : Str → Option Value} {base : Heap} {ca : Nat → Addr}
abbrev sSorts : Stmt := top 33
def sortD (i : Nat) : List PyData := [.int (i : Nat), .int ((50 + bOf i : Nat) : Int), .int ((53 + bOf i : Nat) : Int)]
def spSorts (K : PySem.W.Frag) (ca : Nat → Addr) : Sp := fun vs H Q _ => ∃ (a : Addr) (i : Nat), vs = [.ref a] ∧ i < 19 ∧ ExV K H a (ca i) ∧ ∀ v H', Same H H' → DV H' (.list (sortD i)) v → Q v H'
theorem scSorts : FnScope ["e", "found", "above", "k"] ["e"] (defScope sSorts) := ⟨rfl, rfl, rfl, by decide +kernel, rfl, by decide +kernel, by decide +kernel⟩
def PreE (K : PySem.W.Frag) (C : Addr) : L2.St → Hp → Prop := fun σ H => ∃ a, σ[0]? = some (some (.ref a)) ∧ ExV K H a C
theorem preE_grows {C : Addr} : Grows (PreE K C) := fun σ H H' s h => by
  obtain ⟨a, e, x⟩ := h
  exact ⟨a, e, x.same s⟩
theorem ok_sorts {f : Addr} {fd : FuncData} (F : Fun K "_law_sorts" "_law_sorts" sSorts f fd) (T : TxtE K mg ca) : FnOk P w K mg base CX0 1 f fd ["e"] (spSorts K ca) := by
  refine F.ok scSorts (fun vs H Q E h => ?_) (fun cdv A outer s H vs Q E hr h => ?_)
  · obtain ⟨a, i, rfl, _⟩ := h
    rfl
  · obtain ⟨a, i, rfl, hi, hE, q⟩ := h
    have gr : Grows (PreE K (ca i)) := preE_grows
    refine ⟨_, (pss_cons (ps_set (i := 1) scSorts.nd rfl (Or.inr rfl) (pdL (pdCons gr (pdIs (i := 0) T.xo rfl T.isinstance gr (pv 0) (pe_glob (v := .ref (ca 0)) rfl T.c0 rfl) (.own _) (T.own i 0 hi (by decide)) (fun _ _ h => h)) (pdCons gr (pdIs (i := 0) T.xo rfl T.isinstance gr (pv 0) (pe_glob (v := .ref (ca 1)) rfl T.c1 rfl) (.own _) (T.own i 1 hi (by decide)) (fun _ _ h => h)) (pdCons gr (pdIs (i := 0) T.xo rfl T.isinstance gr (pv 0) (pe_glob (v := .ref (ca 2)) rfl T.c2 rfl) (.own _) (T.own i 2 hi (by decide)) (fun _ _ h => h)) pdNil))))) (pss_cons (ps_set (i := 1) scSorts.nd rfl (Or.inr rfl) (pe_op op_cat (pv 1) (pdL (pdCons gr (pdIs (i := 0) T.xo rfl T.isinstance gr (pv 0) (pe_glob (v := .ref (ca 3)) rfl T.c3 rfl) (.own _) (T.own i 3 hi (by decide)) (fun _ _ h => h)) (pdCons gr (pdIs (i := 0) T.xo rfl T.isinstance gr (pv 0) (pe_glob (v := .ref (ca 4)) rfl T.c4 rfl) (.own _) (T.own i 4 hi (by decide)) (fun _ _ h => h)) (pdCons gr (pdIs (i := 0) T.xo rfl T.isinstance gr (pv 0) (pe_glob (v := .ref (ca 5)) rfl T.c5 rfl) (.own _) (T.own i 5 hi (by decide)) (fun _ _ h => h)) pdNil)))))) (pss_cons (ps_set (i := 1) scSorts.nd rfl (Or.inr rfl) (pe_op op_cat (pv 1) (pdL (pdCons gr (pdIs (i := 0) T.xo rfl T.isinstance gr (pv 0) (pe_glob (v := .ref (ca 6)) rfl T.c6 rfl) (.own _) (T.own i 6 hi (by decide)) (fun _ _ h => h)) (pdCons gr (pdIs (i := 0) T.xo rfl T.isinstance gr (pv 0) (pe_glob (v := .ref (ca 7)) rfl T.c7 rfl) (.own _) (T.own i 7 hi (by decide)) (fun _ _ h => h)) (pdCons gr (pdIs (i := 0) T.xo rfl T.isinstance gr (pv 0) (pe_glob (v := .ref (ca 8)) rfl T.c8 rfl) (.own _) (T.own i 8 hi (by decide)) (fun _ _ h => h)) pdNil)))))) (pss_cons (ps_set (i := 1) scSorts.nd rfl (Or.inr rfl) (pe_op op_cat (pv 1) (pdL (pdCons gr (pdIs (i := 0) T.xo rfl T.isinstance gr (pv 0) (pe_glob (v := .ref (ca 9)) rfl T.c9 rfl) (.own _) (T.own i 9 hi (by decide)) (fun _ _ h => h)) (pdCons gr (pdIs (i := 0) T.xo rfl T.isinstance gr (pv 0) (pe_glob (v := .ref (ca 10)) rfl T.c10 rfl) (.own _) (T.own i 10 hi (by decide)) (fun _ _ h => h)) (pdCons gr (pdIs (i := 0) T.xo rfl T.isinstance gr (pv 0) (pe_glob (v := .ref (ca 11)) rfl T.c11 rfl) (.own _) (T.own i 11 hi (by decide)) (fun _ _ h => h)) pdNil)))))) (pss_cons (ps_set (i := 1) scSorts.nd rfl (Or.inr rfl) (pe_op op_cat (pv 1) (pdL (pdCons gr (pdIs (i := 0) T.xo rfl T.isinstance gr (pv 0) (pe_glob (v := .ref (ca 12)) rfl T.c12 rfl) (.own _) (T.own i 12 hi (by decide)) (fun _ _ h => h)) (pdCons gr (pdIs (i := 0) T.xo rfl T.isinstance gr (pv 0) (pe_glob (v := .ref (ca 13)) rfl T.c13 rfl) (.own _) (T.own i 13 hi (by decide)) (fun _ _ h => h)) (pdCons gr (pdIs (i := 0) T.xo rfl T.isinstance gr (pv 0) (pe_glob (v := .ref (ca 14)) rfl T.c14 rfl) (.own _) (T.own i 14 hi (by decide)) (fun _ _ h => h)) pdNil)))))) (pss_cons (ps_set (i := 1) scSorts.nd rfl (Or.inr rfl) (pe_op op_cat (pv 1) (pdL (pdCons gr (pdIs (i := 0) T.xo rfl T.isinstance gr (pv 0) (pe_glob (v := .ref (ca 15)) rfl T.c15 rfl) (.own _) (T.own i 15 hi (by decide)) (fun _ _ h => h)) (pdCons gr (pdIs (i := 0) T.xo rfl T.isinstance gr (pv 0) (pe_glob (v := .ref (ca 16)) rfl T.c16 rfl) (.own _) (T.own i 16 hi (by decide)) (fun _ _ h => h)) (pdCons gr (pdIs (i := 0) T.xo rfl T.isinstance gr (pv 0) (pe_glob (v := .ref (ca 17)) rfl T.c17 rfl) (.own _) (T.own i 17 hi (by decide)) (fun _ _ h => h)) pdNil)))))) (pss_cons (ps_expr (pe_bm PySem.F.plainAttrs_list PySem.F.slot_list_append PySem.F.type_list_append mt_append (pv 1) (pa_cons (pdIs (i := 0) T.xo rfl T.isinstance gr (pv 0) (pe_glob (v := .ref (ca 18)) rfl T.c18 rfl) (.own _) (T.own i 18 hi (by decide)) (fun _ _ h => h)) pa_nil))) (pss_cons (ps_set (i := 2) scSorts.nd rfl (Or.inr rfl) (pdL (pdCons gr (pdIs (i := 0) T.xo rfl T.isinstance gr (pv 0) (pe_glob (v := .ref (ca 19)) rfl T.c19 rfl) (.own _) (T.up i 0 hi (by decide)) (fun _ _ h => h)) (pdCons gr (pdIs (i := 0) T.xo rfl T.isinstance gr (pv 0) (pe_glob (v := .ref (ca 20)) rfl T.c20 rfl) (.own _) (T.up i 1 hi (by decide)) (fun _ _ h => h)) (pdCons gr (pdIs (i := 0) T.xo rfl T.isinstance gr (pv 0) (pe_glob (v := .ref (ca 21)) rfl T.c21 rfl) (.own _) (T.up i 2 hi (by decide)) (fun _ _ h => h)) pdNil))))) (pss_cons (ps_set (i := 2) scSorts.nd rfl (Or.inr rfl) (pe_op op_cat (pv 2) (pdL (pdCons gr (pdIs (i := 0) T.xo rfl T.isinstance gr (pv 0) (pe_bltn (v := .ty "ValueError") (u := .type "ValueError") rfl T.ve (by decide +kernel) rfl) (.ty _) (T.v i hi) (fun _ _ h => h)) (pdCons gr (pdIs (i := 0) T.xo rfl T.isinstance gr (pv 0) (pe_bltn (v := .ty "LookupError") (u := .type "LookupError") rfl T.le (by decide +kernel) rfl) (.ty _) (T.l i hi) (fun _ _ h => h)) (pdCons gr (pdIs (i := 0) T.xo rfl T.isinstance gr (pv 0) (pe_bltn (v := .ty "ArithmeticError") (u := .type "ArithmeticError") rfl T.ae (by decide +kernel) rfl) (.ty _) (T.a i hi) (fun _ _ h => h)) pdNil)))))) (pss_one (ps_ret (pe_op op_cat (pe_lc (own := [("k", 3)]) (g := gName 3) rfl scSorts.nd (pi_range1 rfl T.range (pa_cons (pe_callB call_len (by rfl) T.len PySem.boot_len (pa_cons (pv 1) pa_nil)) pa_nil)) (blkOk_by (N := ["e", "found", "above", "k"]) (sc := defScope sSorts) (by decide +kernel)) (fun _ _ _ _ _ => pg_name (i := 3) scSorts.nd rfl (Or.inl rfl)) (fun _ _ _ _ _ => pts_one (pt_val (pe_ix (r := rIxL K) (by exact ix_list) (pv 1) (pv 3) (fun _ _ => rfl)))) (fun _ _ _ _ _ => (pv 3))) (pe_lc (own := [("k", 3)]) (g := gName 3) rfl scSorts.nd (pi_range1 rfl T.range (pa_cons pe_int pa_nil)) (blkOk_by (N := ["e", "found", "above", "k"]) (sc := defScope sSorts) (by decide +kernel)) (fun _ _ _ _ _ => pg_name (i := 3) scSorts.nd rfl (Or.inl rfl)) (fun _ _ _ _ _ => pts_one (pt_val (pe_ix (r := rIxL K) (by exact ix_list) (pv 2) (pv 3) (fun _ _ => rfl)))) (fun _ _ _ _ _ => (pe_op op_add pe_int (pv 3)))))))))))))))), ?_⟩
    walk_at "rd"
    refine bDat ⟨a, rfl, hE⟩ fun v0 H0 s0 d0 => ?_
    have e0 := hE.same s0
    walk_at "rd"
    refine bDat ⟨a, rfl, e0⟩ fun u1 G1 t1 c1 => ?_
    refine bCat (DV.same t1 _ _ d0) c1 (by simp only [List.length_cons, List.length_nil, List.length_append]; decide) fun v1 H1 s1 d1 => ?_
    have e1 := e0.same (sThn t1 s1)
    walk_at "rd"
    refine bDat ⟨a, rfl, e1⟩ fun u2 G2 t2 c2 => ?_
    refine bCat (DV.same t2 _ _ d1) c2 (by simp only [List.length_cons, List.length_nil, List.length_append]; decide) fun v2 H2 s2 d2 => ?_
    have e2 := e1.same (sThn t2 s2)
    walk_at "rd"
    refine bDat ⟨a, rfl, e2⟩ fun u3 G3 t3 c3 => ?_
    refine bCat (DV.same t3 _ _ d2) c3 (by simp only [List.length_cons, List.length_nil, List.length_append]; decide) fun v3 H3 s3 d3 => ?_
    have e3 := e2.same (sThn t3 s3)
    walk_at "rd"
    refine bDat ⟨a, rfl, e3⟩ fun u4 G4 t4 c4 => ?_
    refine bCat (DV.same t4 _ _ d3) c4 (by simp only [List.length_cons, List.length_nil, List.length_append]; decide) fun v4 H4 s4 d4 => ?_
    have e4 := e3.same (sThn t4 s4)
    walk_at "rd"
    refine bDat ⟨a, rfl, e4⟩ fun u5 G5 t5 c5 => ?_
    refine bCatN (DV.same t5 _ _ d4) c5 (by simp only [List.length_cons, List.length_nil, List.length_append]; decide) fun p5 H5 n5 s5 d5 => ?_
    have z5 : Same H G5 := sThn (sThn (sThn (sThn (sThn s0 (sThn t1 s1)) (sThn t2 s2)) (sThn t3 s3)) (sThn t4 s4)) t5
    have e5 := e4.same (sThn t5 s5)
    walk_at "rd"
    refine ⟨tyL d5, ?_⟩
    walk_at "rd"
    refine bDat ⟨a, rfl, e5⟩ fun u6 G6 t6 c6 => ?_
    walk_at "rd"
    refine bAppF (DV.same t6 _ _ d5) (by rfl) c6 rfl (by simp only [List.length_cons, List.length_nil, List.length_append]; decide) fun l6 xs6 H6 ev hl6 o6 d6 => ?_
    cases ev
    have z6 : Same H H6 := same_oth (fresh_back z5 n5) (sThn (sThn z5 s5) t6) o6
    have e6 := (e5.same t6).oth hl6 o6
    walk_at "rd"
    refine bDat ⟨a, rfl, e6⟩ fun v7 H7 s7 d7 => ?_
    have e7 := e6.same s7
    walk_at "rd"
    refine bDat ⟨a, rfl, e7⟩ fun u8 G8 t8 c8 => ?_
    refine bCat (DV.same t8 _ _ d7) c8 (by simp only [List.length_cons, List.length_nil]; decide) fun v8 H8 s8 d8 => ?_
    walk_at "rd"
    have e8 := e7.same (sThn t8 s8)
    have dF : DV H8 (.list ((List.range 19).map fun j => PyData.bool (i == j))) (.ref p5) := DV.same (sThn (sThn s7 t8) s8) _ _ d6
    have dA : DV H8 (.list ((List.range 6).map fun j => PyData.bool (bOf i == j % 3))) v8 := d8
    refine bLcRange (n := 19) (fun j => i == j) (fun j => .int (j : Nat)) (by decide) (fun _ => rfl) (fun G g => ?_) (fun m => rfl) (fun m H' G hm s g => ?_) (fun m H' G hm hb s g => ?_) (fun r1 H9 s9 d9 => ?_)
    · obtain ⟨l, xs, ev2, hl, hx⟩ := dF.li
      have hn := hx.len
      rw [List.length_map, List.length_range] at hn
      walk_at "rd"
      refine ⟨.ref p5, xs.length, rfl, ?_, ?_⟩
      · rw [ev2]
        exact .inl ⟨xs, SqL.of hl, rfl⟩
      · rw [hn]
        exact g
    · walk_at "rd"
      refine bIxD (DV.same s _ _ dF) (by omega) (d := .bool (i == m)) (by rw [Int.toNat_natCast]; exact range_at _ hm) fun y hy => ?_
      rw [hy.bi]
      exact ⟨_, rfl, g⟩
    · walk_at "rd"
      exact g _ (.i _)
    · refine bLcRange (n := 6) (fun j => bOf i == j % 3) (fun j => .int (50 + (j : Nat))) (by decide) (fun _ => rfl) (fun G g => g) (fun m => rfl) (fun m H' G hm s g => ?_) (fun m H' G hm hb s g => ?_) (fun r2 H10 s10 d10 => ?_)
      · walk_at "rd"
        refine bIxD (DV.same s _ _ (DV.same s9 _ _ dA)) (by omega) (d := .bool (bOf i == m % 3)) (by rw [Int.toNat_natCast]; exact range_at _ hm) fun y hy => ?_
        rw [hy.bi]
        exact ⟨_, rfl, g⟩
      · walk_at "rd"
        exact g _ (.i _)
      · refine bCat (DV.same s10 _ _ d9) d10 ?_ fun v H11 s11 d11 => ?_
        · have h1 := picked_len (fun j => i == j) (fun j => .int (j : Nat)) 19
          have h2 := picked_len (fun j => bOf i == j % 3) (fun j => .int (50 + (j : Nat))) 6
          rw [sizeLine_eq]
          omega
        · have e11 : picked (fun j => i == j) (fun j => .int (j : Nat)) 19 ++ picked (fun j => bOf i == j % 3) (fun j => .int (50 + (j : Nat))) 6 = sortD i := by
            have key : i = 0 ∨ i = 1 ∨ i = 2 ∨ i = 3 ∨ i = 4 ∨ i = 5 ∨ i = 6 ∨ i = 7 ∨ i = 8 ∨ i = 9 ∨ i = 10 ∨ i = 11 ∨ i = 12 ∨ i = 13 ∨ i = 14 ∨ i = 15 ∨ i = 16 ∨ i = 17 ∨ i = 18 := by omega
            rcases key with rfl | rfl | rfl | rfl | rfl | rfl | rfl | rfl | rfl | rfl | rfl | rfl | rfl | rfl | rfl | rfl | rfl | rfl | rfl <;> rfl
          rw [e11] at d11
          exact q v H11 (sThn (sThn (sThn (sThn z6 s7) (sThn t8 s8)) s9) (sThn s10 s11)) d11
end
end Toy

set_option maxRecDepth 100000
set_option maxHeartbeats 4000000
namespace Toy
open PySem PySem.Spec PyProof.Rows L2 Xv
local macro_rules | `(tactic| walk_at "side") => `(tactic| first
  | trivial | decide | (show (0 : Int) < _; decide) | omega | (left; constructor <;> omega) | (right; constructor <;> omega) | (refine ⟨?_, ?_, ?_⟩ <;> decide) | (refine ⟨?_, ?_⟩ <;> first | decide | omega))
local macro_rules | `(tactic| walk_at "rd1") => `(tactic| first
  | with_reducible refine bCons ?_
  | with_reducible refine bNil ?_
  | ((with_reducible refine bV (v := ?vv) ?hv ?_); (case hv => exact rfl))
  | with_reducible refine bC ?_
  | with_reducible refine bOp ?_
  | with_reducible refine bI0 ?_
  | ((with_reducible refine bI ?hc ?_); (case hc => walk_at "side"))
  | with_reducible refine bCB ?_
  | with_reducible refine bInt ?_
  | with_reducible refine bIntB ?_
  | with_reducible refine bTest ?_
  | with_reducible refine bB ?_
  | with_reducible refine bBl ?_
  | with_reducible refine bNot ?_
  | with_reducible refine bOr ?_
  | with_reducible refine bAnd ?_
  | with_reducible refine bIf ?_
  | with_reducible refine bTup ?_
  | with_reducible refine bLst ?_
  | with_reducible refine bUn ?_
  | with_reducible refine bSeq ?_
  | with_reducible refine bAsg ?_
  | with_reducible refine bName ?_
  | with_reducible refine bRet ?_
  | with_reducible refine bDrop ?_
  | with_reducible refine bIfS ?_
  | with_reducible refine bNext ?_
  | with_reducible refine bPar ?_
  | with_reducible refine bPar2 ?_
  | with_reducible refine bSub ?_
  | with_reducible refine bCall ?_
  | with_reducible refine bBM ?_)
local macro_rules | `(tactic| walk_at "rd") => `(tactic| repeat (walk_at "rd1"))

section
variable {P : Program} {w : World} {K : PySem.W.Frag} {mg : Str → Option Value} {base : Heap} {ca : Nat → Addr}
abbrev sGiven : Stmt := top 34
def spGiven (K : PySem.W.Frag) (ca : Nat → Addr) : Sp := fun vs H Q _ => ∃ v : V, vs = [v] ∧ ∀ p H' rs, Same H H' → H' p = some (.lst rs) → rs.length = 11 → Fnd K H' ca "given" v rs → Q (.ref p) H'
theorem scGiven : FnScope ["thing", "found"] ["thing"] (defScope sGiven) := ⟨rfl, rfl, rfl, by decide +kernel, rfl, by decide +kernel, by decide +kernel⟩
theorem ok_given {f : Addr} {fd : FuncData} (F : Fun K "_law_given" "_law_given" sGiven f fd) (T : TxtE K mg ca) (CL : ∀ j, j < 11 → Cl P w K mg base (ca j) "given") : FnOk P w K mg base CX0 3 f fd ["thing"] (spGiven K ca) := by
  refine F.ok scGiven (fun vs H Q E h => ?_) (fun cdv A outer s H vs Q E hr h => ?_)
  · obtain ⟨v, rfl, _⟩ := h
    rfl
  · obtain ⟨v, rfl, q⟩ := h
    have gr : Grows (fun σ (_ : Hp) => σ[0]? = some (some v)) := fun _ _ _ _ h => h
    have hP : ∀ (σ : L2.St) (H : Hp), (fun σ (_ : Hp) => σ[0]? = some (some v)) σ H → σ[0]? = some (some v) := fun _ _ h => h
    refine ⟨_, (pss_cons (ps_set (i := 1) scGiven.nd rfl (Or.inl rfl) (pe_lst (pa_cons (pxTwo gr (pxNew (CL 0 (by decide)) hr rfl T.c0 (pv 0) hP) (pxNewK (CL 0 (by decide)) hr rfl T.c0 (pv 0) hP)) (pa_cons (pxTwo gr (pxNew (CL 1 (by decide)) hr rfl T.c1 (pv 0) hP) (pxNewK (CL 1 (by decide)) hr rfl T.c1 (pv 0) hP)) pa_nil)))) (pss_cons (ps_expr (pe_bm PySem.F.plainAttrs_list PySem.F.slot_list_append PySem.F.type_list_append mt_append (pv 1) (pa_cons (pxTwo gr (pxNew (CL 2 (by decide)) hr rfl T.c2 (pv 0) hP) (pxNewK (CL 2 (by decide)) hr rfl T.c2 (pv 0) hP)) pa_nil))) (pss_cons (ps_expr (pe_bm PySem.F.plainAttrs_list PySem.F.slot_list_append PySem.F.type_list_append mt_append (pv 1) (pa_cons (pxTwo gr (pxNew (CL 3 (by decide)) hr rfl T.c3 (pv 0) hP) (pxNewK (CL 3 (by decide)) hr rfl T.c3 (pv 0) hP)) pa_nil))) (pss_cons (ps_expr (pe_bm PySem.F.plainAttrs_list PySem.F.slot_list_append PySem.F.type_list_append mt_append (pv 1) (pa_cons (pxTwo gr (pxNew (CL 4 (by decide)) hr rfl T.c4 (pv 0) hP) (pxNewK (CL 4 (by decide)) hr rfl T.c4 (pv 0) hP)) pa_nil))) (pss_cons (ps_expr (pe_bm PySem.F.plainAttrs_list PySem.F.slot_list_append PySem.F.type_list_append mt_append (pv 1) (pa_cons (pxTwo gr (pxNew (CL 5 (by decide)) hr rfl T.c5 (pv 0) hP) (pxNewK (CL 5 (by decide)) hr rfl T.c5 (pv 0) hP)) pa_nil))) (pss_cons (ps_expr (pe_bm PySem.F.plainAttrs_list PySem.F.slot_list_append PySem.F.type_list_append mt_append (pv 1) (pa_cons (pxTwo gr (pxNew (CL 6 (by decide)) hr rfl T.c6 (pv 0) hP) (pxNewK (CL 6 (by decide)) hr rfl T.c6 (pv 0) hP)) pa_nil))) (pss_cons (ps_expr (pe_bm PySem.F.plainAttrs_list PySem.F.slot_list_append PySem.F.type_list_append mt_append (pv 1) (pa_cons (pxTwo gr (pxNew (CL 7 (by decide)) hr rfl T.c7 (pv 0) hP) (pxNewK (CL 7 (by decide)) hr rfl T.c7 (pv 0) hP)) pa_nil))) (pss_cons (ps_expr (pe_bm PySem.F.plainAttrs_list PySem.F.slot_list_append PySem.F.type_list_append mt_append (pv 1) (pa_cons (pxTwo gr (pxNew (CL 8 (by decide)) hr rfl T.c8 (pv 0) hP) (pxNewK (CL 8 (by decide)) hr rfl T.c8 (pv 0) hP)) pa_nil))) (pss_cons (ps_expr (pe_bm PySem.F.plainAttrs_list PySem.F.slot_list_append PySem.F.type_list_append mt_append (pv 1) (pa_cons (pxTwo gr (pxNew (CL 9 (by decide)) hr rfl T.c9 (pv 0) hP) (pxNewK (CL 9 (by decide)) hr rfl T.c9 (pv 0) hP)) pa_nil))) (pss_one (ps_ret (pe_op op_cat (pv 1) (pe_lst (pa_cons (pxTwo gr (pxNew (CL 10 (by decide)) hr rfl T.c10 (pv 0) hP) (pxNewK (CL 10 (by decide)) hr rfl T.c10 (pv 0) hP)) pa_nil)))))))))))))), ?_⟩
    walk_at "rd"
    refine ⟨rfl, fun r0 H1 s1 t0 => ?_⟩
    walk_at "rd"
    refine ⟨rfl, fun r1 H2 s2 t1 => ?_⟩
    walk_at "rd"
    refine ⟨by show 2 ≤ sizeLine; decide, fun p hp => ?_⟩
    have z2 : FS K ca "given" v H (upd H2 p (.lst [r0, r1])) p 2 := by
      refine ⟨sThn (sThn s1 s2) (same_new hp), fresh_back (sThn s1 s2) hp, _, upd_same, rfl, fun j r e => ?_⟩
      match j, e with
      | 0, e => cases e; exact (t0.same s2).same (same_new hp)
      | 1, e => cases e; exact t1.same (same_new hp)
    walk_at "rd"
    refine bAppTwo (n := 2) rfl z2 (by decide) fun H3 z3 => ?_
    walk_at "rd"
    refine bAppTwo (n := 3) rfl z3 (by decide) fun H4 z4 => ?_
    walk_at "rd"
    refine bAppTwo (n := 4) rfl z4 (by decide) fun H5 z5 => ?_
    walk_at "rd"
    refine bAppTwo (n := 5) rfl z5 (by decide) fun H6 z6 => ?_
    walk_at "rd"
    refine bAppTwo (n := 6) rfl z6 (by decide) fun H7 z7 => ?_
    walk_at "rd"
    refine bAppTwo (n := 7) rfl z7 (by decide) fun H8 z8 => ?_
    walk_at "rd"
    refine bAppTwo (n := 8) rfl z8 (by decide) fun H9 z9 => ?_
    walk_at "rd"
    refine bAppTwo (n := 9) rfl z9 (by decide) fun H10 z10 => ?_
    walk_at "rd"
    obtain ⟨s10, p0, rs, hp10, hl10, F10⟩ := z10
    refine ⟨rfl, fun r H11 s11 t11 => ?_⟩
    walk_at "rd"
    refine ⟨by show 1 ≤ sizeLine; decide, fun p2 hp2 => ?_⟩
    have n2 : p ≠ p2 := ne_of_none (s11 _ _ hp10) hp2
    refine ⟨p, p2, rs, [r], rfl, rfl, by rw [upd_ne n2]; exact s11 _ _ hp10, upd_same, by rw [hl10]; show 11 ≤ sizeLine; decide, fun p3 hp3 => ?_⟩
    have s12 := same_new (o := .lst [r]) hp2
    have s13 := same_new (o := .lst (rs ++ [r])) hp3
    refine q p3 _ (rs ++ [r]) (sThn (sThn s10 s11) (sThn s12 s13)) upd_same (by simp [hl10]) fun j x e => ?_
    by_cases hj : j < rs.length
    · rw [List.getElem?_append_left hj] at e
      exact (F10 j x e).same (sThn s11 (sThn s12 s13))
    · rw [List.getElem?_append_right (by omega)] at e
      have hz : j - rs.length = 0 := by
        have := (List.getElem?_eq_some_iff.mp e).1
        simp at this
        omega
      rw [hz] at e
      have ej : j = 10 := by omega
      have ex : r = x := by simpa using e
      rw [← ex, ej]
      exact t11.same (sThn s12 s13)
end
end Toy

set_option maxRecDepth 100000
set_option maxHeartbeats 4000000
namespace Toy
open PySem PySem.Spec PyProof.Rows L2 Xv
local macro_rules | `(tactic| walk_at "side") => `(tactic| first
  | trivial | decide | (show (0 : Int) < _; decide) | omega | (left; constructor <;> omega) | (right; constructor <;> omega) | (refine ⟨?_, ?_, ?_⟩ <;> decide) | (refine ⟨?_, ?_⟩ <;> first | decide | omega))
local macro_rules | `(tactic| walk_at "rd1") => `(tactic| first
  | with_reducible refine bCons ?_
  | with_reducible refine bNil ?_
  | ((with_reducible refine bV (v := ?vv) ?hv ?_); (case hv => exact rfl))
  | with_reducible refine bC ?_
  | with_reducible refine bOp ?_
  | with_reducible refine bI0 ?_
  | ((with_reducible refine bI ?hc ?_); (case hc => walk_at "side"))
  | with_reducible refine bCB ?_
  | with_reducible refine bInt ?_
  | with_reducible refine bIntB ?_
  | with_reducible refine bTest ?_
  | with_reducible refine bB ?_
  | with_reducible refine bBl ?_
  | with_reducible refine bNot ?_
  | with_reducible refine bOr ?_
  | with_reducible refine bAnd ?_
  | with_reducible refine bIf ?_
  | with_reducible refine bTup ?_
  | with_reducible refine bLst ?_
  | with_reducible refine bUn ?_
  | with_reducible refine bSeq ?_
  | with_reducible refine bAsg ?_
  | with_reducible refine bName ?_
  | with_reducible refine bRet ?_
  | with_reducible refine bDrop ?_
  | with_reducible refine bIfS ?_
  | with_reducible refine bNext ?_
  | with_reducible refine bPar ?_
  | with_reducible refine bPar2 ?_
  | with_reducible refine bSub ?_
  | with_reducible refine bCall ?_
  | with_reducible refine bBM ?_)
local macro_rules | `(tactic| walk_at "rd") => `(tactic| repeat (walk_at "rd1"))

/-- Broken, with two fields; NothingToUndo, with none -/
structure Cl2 (P : Program) (w : World) (K : PySem.W.Frag) (mg : Str → Option Value) (base : Heap) (C : Addr) : Prop where
  ex : ∃ (bmB : List Value) (B newId initId : String) (fI : Addr) (fd : FuncData), ExcBaseFacts B newId initId bmB ∧ XC K C bmB newId ∧ XM K C fI ∧ FnOk P w K mg base CX0 1 fI fd ["self", "index", "shown"] (spXI2 C "index" "shown") ∧
    KBn K fd ["self", "index", "shown"] 3 [] (fun us _ => us) (fun vs _ => vs) ∧ KBn K fd ["self", "index", "shown"] 1 ["shown", "index"] (fun us ws => us ++ ws.reverse) (fun vs zs => vs ++ zs.reverse)
  nf : PySem.W.findIn K (.ref C) "index" = some none
  ng : PySem.W.findIn K (.ref C) "shown" = some none
structure Cl0 (P : Program) (w : World) (K : PySem.W.Frag) (mg : Str → Option Value) (base : Heap) (C : Addr) : Prop where
  ex : ∃ (bmB : List Value) (B newId initId : String) (fI : Addr) (fd : FuncData), ExcBaseFacts B newId initId bmB ∧ XC K C bmB newId ∧ XM K C fI ∧ FnOk P w K mg base CX0 1 fI fd ["self"] (spXI0 C) ∧ KBn K fd ["self"] 1 [] (fun us _ => us) (fun vs _ => vs)
theorem binds_kbn {K : PySem.W.Frag} {fd : FuncData} {ps : List Str} {n : Nat} {gV : List V → List V → List V} (h : KBn K fd ps n [] (fun us _ => us) gV) (hn : ps.length = n) : Binds K fd ps [] := fun s us X hl => by
  rw [List.append_nil] at hl ⊢
  exact h.to s us [] X (hl.trans hn) rfl
section
variable {P : Program} {w : World} {K : PySem.W.Frag} {mg : Str → Option Value} {base : Heap} {ca : Nat → Addr}
abbrev sCaught : Stmt := top 35
def spCaught : Sp := fun vs H Q _ => ∃ v u : V, vs = [v, u] ∧ ∀ p H', Same H H' → H' p = some (.lst [v, v, v, u]) → Q (.ref p) H'
theorem scCaught : FnScope ["thing", "other", "found", "e"] ["thing", "other"] (defScope sCaught) := ⟨rfl, rfl, rfl, by decide +kernel, rfl, by decide +kernel, by decide +kernel⟩
theorem ok_caught {f : Addr} {fd : FuncData} (F : Fun K "_law_caught" "_law_caught" sCaught f fd) (T : TxtE K mg ca) (TX : ∀ i, i < 19 → PySem.W.exmOne K (.ref (ca i)) (.ref (ca (19 + bOf i))) = some true)
    (C12 : Cl P w K mg base (ca 12) "index") (C13 : Cl P w K mg base (ca 13) "given") (C18 : Cl2 P w K mg base (ca 18)) : FnOk P w K mg base CX0 3 f fd ["thing", "other"] spCaught := by
  obtain ⟨⟨b1, B1, n1, i1, f1, d1, FB1, T1, M1, G1, k1, _⟩, nf1⟩ := C12
  obtain ⟨⟨b2, B2, n2, i2, f2, d2, FB2, T2, M2, G2, k2, _⟩, nf2⟩ := C13
  obtain ⟨⟨b3, B3, n3, i3, f3, d3, FB3, T3, M3, G3, k3, _⟩, nf3, nf4⟩ := C18
  have y1 := binds_kbn k1 rfl
  have y2 := binds_kbn k2 rfl
  have y3 := binds_kbn k3 rfl
  refine F.ok scCaught (fun vs H Q E h => ?_) (fun cdv A outer s H vs Q E hr h => ?_)
  · obtain ⟨v, u, rfl, _⟩ := h
    rfl
  · obtain ⟨v, u, rfl, q⟩ := h
    refine ⟨_, pss_cons (ps_set (i := 2) scCaught.nd rfl (Or.inl rfl) (pe_lst pa_nil))
      (pss_cons (L2.ps_try_as (i := 3) (ts := fun a cls d => tDrop (tBM K "list" rAppend (tVar 2) (tCons (L2.tXf a cls d (ca 12) "index" (tVar 3)) tNil))) rfl rfl scCaught.nd rfl rfl ⟨rfl, by decide, .inl T.c19⟩ takes0
        (fun W pn xe tk _ => pss_one (ps_raise rfl tk (pmk_x FB1 T1 M1 G1 hr y1 rfl T.c12 (pa_cons (pv 0) pa_nil))))
        (fun a oe cls d pn hz hf => pss_one (ps_expr (pe_bm PySem.F.plainAttrs_list PySem.F.slot_list_append PySem.F.type_list_append mt_append (pv 2) (pa_cons (L2.pe_xf T1.xf nf1 hz hf (pv 3)) pa_nil)))))
      (pss_cons (L2.ps_try_as (i := 3) (ts := fun a cls d => tDrop (tBM K "list" rAppend (tVar 2) (tCons (L2.tXf a cls d (ca 13) "given" (tVar 3)) tNil))) rfl rfl scCaught.nd rfl rfl ⟨rfl, by decide, .inl T.c20⟩ takes0
        (fun W pn xe tk _ => pss_one (ps_raise rfl tk (pmk_x FB2 T2 M2 G2 hr y2 rfl T.c13 (pa_cons (pv 0) pa_nil))))
        (fun a oe cls d pn hz hf => pss_one (ps_expr (pe_bm PySem.F.plainAttrs_list PySem.F.slot_list_append PySem.F.type_list_append mt_append (pv 2) (pa_cons (L2.pe_xf T2.xf nf2 hz hf (pv 3)) pa_nil)))))
      (pss_cons (L2.ps_try_as (i := 3) (ts := fun a cls d => tAsg (tOp rCat (tVar 2) (tLst (tCons (L2.tXf a cls d (ca 18) "index" (tVar 3)) (tCons (L2.tXf a cls d (ca 18) "shown" (tVar 3)) tNil)))) (gName 2)) rfl rfl scCaught.nd rfl rfl ⟨rfl, by decide, .inl T.c21⟩ takes0
        (fun W pn xe tk _ => pss_one (ps_raise rfl tk (pmk_x FB3 T3 M3 G3 hr y3 rfl T.c18 (pa_cons (pv 0) (pa_cons (pv 1) pa_nil)))))
        (fun a oe cls d pn hz hf => pss_one (ps_set (i := 2) scCaught.nd rfl (Or.inl rfl) (pe_op op_cat (pv 2) (pe_lst (pa_cons (L2.pe_xf T3.xf nf3 hz hf (pv 3)) (pa_cons (L2.pe_xf T3.xf nf4 hz hf (pv 3)) pa_nil)))))))
      (pss_one (ps_ret (pv 2)))))), ?_⟩
    walk_at "rd"
    refine ⟨Nat.zero_le _, fun p hp => ?_⟩
    walk_at "rd"
    refine bRaise1 (v := v) rfl fun d hd => ?_
    have e1 : (upd (upd H p (.lst [])) d (.xd [(("index" : Str), v)])) p = some (.lst []) := by
      rw [upd_ne (ne_of_none upd_same hd), upd_same]
    refine ⟨true, TX 12 (by decide), fun _ a0 _ => ?_, fun z => Bool.noConfusion z⟩
    walk_at "rd"
    refine ⟨Or.inl ⟨rfl, _, Or.inl (Or.inl e1)⟩, ?_⟩
    walk_at "rd"
    refine ⟨_, rfl, rfl, rfl, d, _, v, rfl, upd_same, by simp [List.lookup], ?_⟩
    walk_at "rd"
    refine ⟨p, [], v, rfl, rfl, e1, by decide, ?_⟩
    have s1 : Same H (upd (upd (upd H p (.lst [])) d (.xd [(("index" : Str), v)])) p (.lst ([] ++ [v]))) := by
      intro b o e
      rw [upd_ne (ne_of_none e hp), upd_ne (ne_of_none (same_new hp _ _ e) hd), upd_ne (ne_of_none e hp)]
      exact e
    generalize hH1 : upd (upd (upd H p (.lst [])) d (.xd [(("index" : Str), v)])) p (.lst ([] ++ [v])) = H1 at *
    have g1 : H1 p = some (.lst [v]) := by
      rw [← hH1]
      exact upd_same
    walk_at "rd"
    refine bRaise1 (v := v) rfl fun d2 hd2 => ?_
    have e2 : (upd H1 d2 (.xd [(("given" : Str), v)])) p = some (.lst [v]) := by
      rw [upd_ne (ne_of_none g1 hd2)]
      exact g1
    refine ⟨true, TX 13 (by decide), fun _ a0 _ => ?_, fun z => Bool.noConfusion z⟩
    walk_at "rd"
    refine ⟨Or.inl ⟨rfl, _, Or.inl (Or.inl e2)⟩, ?_⟩
    walk_at "rd"
    refine ⟨_, rfl, rfl, rfl, d2, _, v, rfl, upd_same, by simp [List.lookup], ?_⟩
    walk_at "rd"
    refine ⟨p, [v], v, rfl, rfl, e2, by show 1 < sizeLine; decide, ?_⟩
    have s2 : Same H (upd (upd H1 d2 (.xd [(("given" : Str), v)])) p (.lst ([v] ++ [v]))) := by
      intro b o e
      rw [upd_ne (ne_of_none e hp), upd_ne (ne_of_none (s1 _ _ e) hd2)]
      exact s1 _ _ e
    generalize hH2 : upd (upd H1 d2 (.xd [(("given" : Str), v)])) p (.lst ([v] ++ [v])) = H2 at *
    have g2 : H2 p = some (.lst [v, v]) := by
      rw [← hH2]
      exact upd_same
    walk_at "rd"
    refine bRaise2 (v := v) (u := u) rfl rfl fun d3 hd3 => ?_
    refine ⟨true, TX 18 (by decide), fun _ a0 _ => ?_, fun z => Bool.noConfusion z⟩
    have e3 : (upd H2 d3 (.xd [(("shown" : Str), u), (("index" : Str), v)])) p = some (.lst [v, v]) := by
      rw [upd_ne (ne_of_none g2 hd3)]
      exact g2
    walk_at "rd"
    refine ⟨_, rfl, rfl, rfl, d3, _, v, rfl, upd_same, by rfl, ?_⟩
    walk_at "rd"
    refine ⟨_, rfl, rfl, rfl, d3, _, u, rfl, upd_same, by simp [List.lookup], ?_⟩
    walk_at "rd"
    refine ⟨by show 2 ≤ sizeLine; decide, fun p4 hp4 => ?_⟩
    have n4 : p ≠ p4 := ne_of_none e3 hp4
    refine ⟨p, p4, [v, v], [v, u], rfl, rfl, by rw [upd_ne n4]; exact e3, upd_same, by show 4 ≤ sizeLine; decide, fun p5 hp5 => ?_⟩
    walk_at "rd"
    exact q p5 _ (sThn s2 (sThn (same_new hd3) (sThn (same_new hp4) (same_new hp5)))) upd_same
end
end Toy

set_option maxRecDepth 100000
set_option maxHeartbeats 4000000
namespace Toy
open PySem PySem.Spec PyProof.Rows L2 Xv
local macro_rules | `(tactic| walk_at "side") => `(tactic| first
  | trivial | decide | (show (0 : Int) < _; decide) | omega | (left; constructor <;> omega) | (right; constructor <;> omega) | (refine ⟨?_, ?_, ?_⟩ <;> decide) | (refine ⟨?_, ?_⟩ <;> first | decide | omega))
local macro_rules | `(tactic| walk_at "rd1") => `(tactic| first
  | with_reducible refine bCons ?_
  | with_reducible refine bNil ?_
  | ((with_reducible refine bV (v := ?vv) ?hv ?_); (case hv => exact rfl))
  | with_reducible refine bC ?_
  | with_reducible refine bOp ?_
  | with_reducible refine bI0 ?_
  | ((with_reducible refine bI ?hc ?_); (case hc => walk_at "side"))
  | with_reducible refine bCB ?_
  | with_reducible refine bInt ?_
  | with_reducible refine bIntB ?_
  | with_reducible refine bTest ?_
  | with_reducible refine bB ?_
  | with_reducible refine bBl ?_
  | with_reducible refine bNot ?_
  | with_reducible refine bOr ?_
  | with_reducible refine bAnd ?_
  | with_reducible refine bIf ?_
  | with_reducible refine bTup ?_
  | with_reducible refine bLst ?_
  | with_reducible refine bUn ?_
  | with_reducible refine bSeq ?_
  | with_reducible refine bAsg ?_
  | with_reducible refine bName ?_
  | with_reducible refine bRet ?_
  | with_reducible refine bDrop ?_
  | with_reducible refine bIfS ?_
  | with_reducible refine bNext ?_
  | with_reducible refine bPar ?_
  | with_reducible refine bPar2 ?_
  | with_reducible refine bSub ?_
  | with_reducible refine bCall ?_
  | with_reducible refine bBM ?_)
local macro_rules | `(tactic| walk_at "rd") => `(tactic| repeat (walk_at "rd1"))

/-! ### what is true of each drawn thing -/
def goodD (d : PyData) : Bool := okD d && (d.showable && (decide (d.depth ≤ 10) && (decide (d.shown.length ≤ 100) && (PyData.canLay0 (.str d.shown) && (match d with | .int i => decide (i.natAbs.log2 < 1920) | _ => true)))))
theorem anyD_good : anyD.all goodD = true := by decide +kernel
structure Good (d : PyData) : Prop where
  ok : okD d = true
  sh : d.showable = true
  dp : d.depth ≤ 10
  sz : d.shown.length ≤ 100
  cl : PyData.canLay0 (.str d.shown) = true
  hi : ∀ i, d = .int i → i.natAbs.log2 < 1920
theorem good_of {d : PyData} (h : d ∈ anyD) : Good d := by
  have g := List.all_eq_true.mp anyD_good d h
  unfold goodD at g
  simp only [Bool.and_eq_true, decide_eq_true_eq] at g
  obtain ⟨g1, g2, g3, g4, g5, g6⟩ := g
  refine ⟨g1, g2, g3, g4, g5, fun i e => ?_⟩
  subst e
  simpa using g6
theorem strOk_app {x y : Str} (h1 : PyData.strOk x = true) (h2 : PyData.strOk y = true) : PyData.strOk (x ++ y) = true := by
  unfold PyData.strOk at *
  show (x.cps ++ y.cps).all _ = true
  rw [Array.all_append, h1, h2]
  rfl
theorem strOk_from : ∀ (ts : List Str) (k : Nat) (acc : Str), PyData.strOk acc = true → (∀ t ∈ ts, PyData.strOk t = true) → PyData.strOk (textFrom k acc ts) = true
  | [], _, _, h, _ => h
  | t :: ts, k, acc, h, hs => strOk_from ts (k + 1) _ (strOk_app (strOk_app h (by split <;> decide +kernel)) (hs t (List.mem_cons_self ..))) fun u hu => hs u (List.mem_cons_of_mem _ hu)
theorem two_of {d e : PyData} (gd : Good d) (ge : Good e) : (PyData.list [d, d, d, e]).shown.length ≤ 2000 ∧ PyData.canLay0 (.str (PyData.list [d, d, d, e]).shown) = true := by
  have e1 : (PyData.list [d, d, d, e]).shown = listText [d.shown, d.shown, d.shown, e.shown] := by simp only [PyData.shown, PyData.shownAll]
  have h1 := gd.sz
  have h2 := ge.sz
  have c1 : PyData.strOk d.shown = true := by simpa only [PyData.canLay0] using gd.cl
  have c2 : PyData.strOk e.shown = true := by simpa only [PyData.canLay0] using ge.cl
  rw [e1]
  refine ⟨?_, ?_⟩
  · have h3 := listText_len_le [d.shown, d.shown, d.shown, e.shown]
    simp only [List.map_cons, List.map_nil, List.sum_cons, List.sum_nil, List.length_cons, List.length_nil] at h3
    omega
  · simp only [PyData.canLay0]
    refine strOk_app (strOk_from _ _ _ (by decide +kernel) fun t ht => ?_) (by decide +kernel)
    simp only [List.mem_cons, List.not_mem_nil, or_false] at ht
    rcases ht with h | h | h | h <;> subst h <;> assumption
theorem Good.szl {d : PyData} (g : Good d) : d.shown.length ≤ sizeLine := by
  have := g.sz
  rw [sizeLine_eq]
  omega
section
variable {P : Program} {w : World} {K : PySem.W.Frag} {mg : Str → Option Value} {base : Heap} {ca : Nat → Addr}
abbrev sRight : Stmt := top 36
abbrev nRight : List Str := ["pouch", "thing", "other", "at", "both", "pairs", "base", "e", "told", "kept"]
theorem scRight : FnScope nRight ["pouch"] (defScope sRight) := ⟨rfl, rfl, rfl, by decide +kernel, rfl, by decide +kernel, by decide +kernel⟩
def spRight : Sp := fun vs H Q _ => ∃ p : Addr, vs = [.ref p] ∧ Pch H p ∧ ∀ H', Oth p H H' → Q (.bl true) H'
/-- what the law tells of an exception of the i-th class -/
def seenD (i : Nat) (ts : List PyData) : PyData := .list (sortD i ++ ts)
/-- _law_sorts(e) + [repr(e.f)] -/
def tElt (K : PySem.W.Frag) (ca : Nat → Addr) (f : Str) : TE := tOp rCat (tCall (spSorts K ca) [] E0 (tCons (tVar 7) tNil)) (tLst (tCons (tCB (rRepr K) (tCons (tXf K f (tVar 7)) tNil)) tNil))
theorem bElt {f : Str} {i : Nat} {a : Addr} {v : V} {d : PyData} {σ : L2.St} {H : Hp} {Q : VK} (g : Good d) (h : σ[7]? = some (some (.ref a))) (hi : i < 19) (x : ExF K H a (ca i) f v) (hd : DV H d v) (q : ∀ y H', Same H H' → DV H' (seenD i [.str d.shown]) y → Q y H') : tElt K ca f σ H Q := by
  refine ⟨_, h, a, i, rfl, hi, x.v, fun y1 H1 s1 d1 => ?_⟩
  refine bLst (bCons (bCB (bCons (bXf h (x.same s1) (bNil (bRepr (DV.same s1 _ _ hd) g.sh (by have := g.dp; omega) g.szl g.hi (bNil ?_)))))))
  refine bLstD (Q := fun y H2 => rCat y1 y H2 Q) (ds := [.str d.shown]) (.c (.s _) .n) (by show 1 ≤ sizeLine; decide) fun y2 H2 s2 d2 => ?_
  exact bCat (DV.same s2 _ _ d1) d2 (by show 4 ≤ sizeLine; decide) fun y3 H3 s3 d3 => q y3 H3 (sThn s1 (sThn s2 s3)) d3
theorem seen_facts {i : Nat} {ts : List PyData} (h1 : PyData.canLayAll0 ts = true) (h2 : PyData.depthAll ts ≤ 5) (h3 : PyData.hasDictAll ts = false) : PyData.canLay0 (seenD i ts) = true ∧ (seenD i ts).depth ≤ 10 ∧ (seenD i ts).hasDict = false := by
  refine ⟨?_, ?_, ?_⟩
  · simp [seenD, sortD, PyData.canLay0, PyData.canLayAll0, h1]
  · simp [seenD, sortD, PyData.depth, PyData.depthAll]
    omega
  · simp [seenD, sortD, PyData.hasDict, PyData.hasDictAll, h3]
theorem ne_one {H : Hp} {x y : V} {E R : PyData} {Q : VK} (h1 : DV H E x) (h2 : DV H R y) (e : R = E) (c : PyData.canLay0 E = true ∧ E.depth ≤ 10 ∧ E.hasDict = false) (q : Q (.bl false) H) : rNeD x y H Q := by
  subst e
  refine bNeD h1 h2 c.1 c.1 (by have := c.2.1; omega) (by have := c.2.1; omega) ?_
  rw [eqv_refl R c.2.2]
  exact q
theorem two_facts {E : PyData} (c : PyData.canLay0 E = true ∧ E.depth ≤ 9 ∧ E.hasDict = false) : PyData.canLay0 (.list [E, E]) = true ∧ (PyData.list [E, E]).depth ≤ 10 ∧ (PyData.list [E, E]).hasDict = false := by
  refine ⟨?_, ?_, ?_⟩
  · simp [PyData.canLay0, PyData.canLayAll0, c.1]
  · have := c.2.1
    simp [PyData.depth, PyData.depthAll]
    omega
  · simp [PyData.hasDict, PyData.hasDictAll, c.2.2]
theorem seen_good {i : Nat} {d : PyData} (g : Good d) : PyData.canLay0 (seenD i [.str d.shown]) = true ∧ (seenD i [.str d.shown]).depth ≤ 9 ∧ (seenD i [.str d.shown]).hasDict = false := by
  have h := seen_facts (i := i) (ts := [.str d.shown]) (by simp [PyData.canLayAll0, g.cl]) (by simp [PyData.depthAll, PyData.depth]) (by simp [PyData.hasDictAll, PyData.hasDict])
  refine ⟨h.1, ?_, h.2.2⟩
  simp [seenD, sortD, PyData.depth, PyData.depthAll]
theorem seen_one {i : Nat} {d : PyData} (g : Good d) : PyData.canLay0 (seenD i [.str d.shown]) = true ∧ (seenD i [.str d.shown]).depth ≤ 10 ∧ (seenD i [.str d.shown]).hasDict = false := by
  have h := seen_good (i := i) g
  exact ⟨h.1, by omega, h.2.2⟩
theorem okL_seen {i k : Nat} {t : Str} (h : k ≤ 2) : okL k (seenD i [.str t]) = true := by
  have h3 : ¬ 4 = k := by omega
  simp [seenD, sortD, okL, okLs, h3]
def tElt2 (K : PySem.W.Frag) (ca : Nat → Addr) (f g : Str) : TE := tOp rCat (tCall (spSorts K ca) [] E0 (tCons (tVar 7) tNil)) (tLst (tCons (tCB (rRepr K) (tCons (tXf K f (tVar 7)) tNil)) (tCons (tCB (rRepr K) (tCons (tXf K g (tVar 7)) tNil)) tNil)))
theorem bElt2 {f g : Str} {i : Nat} {a : Addr} {v u : V} {d e : PyData} {σ : L2.St} {H : Hp} {Q : VK} (gd : Good d) (ge : Good e) (h : σ[7]? = some (some (.ref a))) (hi : i < 19) (x : ExF K H a (ca i) f v) (x2 : ExF K H a (ca i) g u) (hd : DV H d v) (he : DV H e u)
    (q : ∀ y H', Same H H' → DV H' (seenD i [.str d.shown, .str e.shown]) y → Q y H') : tElt2 K ca f g σ H Q := by
  refine ⟨_, h, a, i, rfl, hi, x.v, fun y1 H1 s1 d1 => ?_⟩
  refine bLst (bCons (bCB (bCons (bXf h (x.same s1) (bNil (bRepr (DV.same s1 _ _ hd) gd.sh (by have := gd.dp; omega) gd.szl gd.hi ?_))))))
  refine bCons (bCB (bCons (bXf h (x2.same s1) (bNil (bRepr (DV.same s1 _ _ he) ge.sh (by have := ge.dp; omega) ge.szl ge.hi (bNil ?_))))))
  refine bLstD (Q := fun y H2 => rCat y1 y H2 Q) (ds := [.str d.shown, .str e.shown]) (.c (.s _) (.c (.s _) .n)) (by show 2 ≤ sizeLine; decide) fun y2 H2 s2 d2 => ?_
  exact bCat (DV.same s2 _ _ d1) d2 (by show 5 ≤ sizeLine; decide) fun y3 H3 s3 d3 => q y3 H3 (sThn s1 (sThn s2 s3)) d3
/-- an exception with two fields -/
def tEx2 (K : PySem.W.Frag) (Pre : L2.St → Hp → Prop) (C : Addr) (v u : V) : TE := fun σ H Q => Pre σ H ∧ ∀ a H', Same H H' → ExF K H' a C "index" v ∧ ExF K H' a C "shown" u → Q (.ref a) H'
theorem ex_made2 {K : PySem.W.Frag} {H : Hp} {C : Addr} {v u : V} {Q : VK} (c : ∃ bmB newId, XC K C bmB newId) (nf : PySem.W.findIn K (.ref C) "index" = some none) (ng : PySem.W.findIn K (.ref C) "shown" = some none)
    (q : ∀ a H', Same H H' → ExF K H' a C "index" v ∧ ExF K H' a C "shown" u → Q (.ref a) H') (a : Addr) (ha : H a = none) :
    spXI2 C "index" "shown" [.ref a, v, u] (upd H a (exo a C none)) (fun x H3 => x = .non ∧ Q (.ref a) H3) E0 := by
  refine ⟨a, v, u, rfl, upd_same, fun d hd hda => ⟨rfl, q a _ (fun b o e => ?_) ⟨⟨c, nf, d, [(("shown" : Str), u), (("index" : Str), v)], ?_, upd_same, rfl⟩, ⟨c, ng, d, [(("shown" : Str), u), (("index" : Str), v)], ?_, upd_same, rfl⟩⟩⟩⟩
  · have nba : b ≠ a := ne_of_none e ha
    have hd' : H d = none := by
      rw [upd_ne hda] at hd
      exact hd
    have nbd := ne_of_none e hd'
    rw [upd_ne nbd, upd_ne nba, upd_ne nbd, upd_ne nba]
    exact e
  · rw [upd_ne (Ne.symm hda), upd_same]
  · rw [upd_ne (Ne.symm hda), upd_same]
section
variable {X : Cx} {e1 e2 : Expr} {pos p kp kp2 : Pos} {i j : Nat} {C : Addr} {x : Str} {v u : V} {Pre : L2.St → Hp → Prop}
theorem px2New (c : Cl2 X.prog X.w X.K X.mg X.base C) (hr : Room 2 X.A) (hg : Gl X x) (hm : X.mg x = some (.ref C)) (h1 : PE X e1 (tVar i)) (h2 : PE X e2 (tVar j)) (hP : ∀ σ H, Pre σ H → σ[i]? = some (some v)) (hU : ∀ σ H, Pre σ H → σ[j]? = some (some u))
    (hdb : (x == ("__debug__" : Str)) = false := by decide)
    (he : starEach [e1, e2] X.env = (false, eval e1 X.env) :: starEach [e2] X.env := by rfl) (he2 : starEach [e2] X.env = (false, eval e2 X.env) :: starEach [] X.env := by rfl)
    (hpl : (backTo pos (starEach [e2] X.env)).any (·.1) = false := by rfl) : PE X (.Call (.Name x p) [e1, e2] [] pos) (tEx2 X.K Pre C v u) := by
  obtain ⟨⟨bmB, B, newId, initId, fI, fd, FB, T, M, F1, b0, bk⟩, nf, ng⟩ := c
  refine pe_imp (pe_xn (n := 2) FB T M F1 hr hg hm b0 (pa_cons h1 (pa_cons h2 pa_nil he2) he) (by decide) hdb he hpl) fun σ H Q q => ?_
  exact ⟨v, hP σ H q.1, u, hU σ H q.1, rfl, rfl, fun a ha => ex_made2 ⟨bmB, newId, T⟩ nf ng q.2 a ha⟩
theorem px2NewK (c : Cl2 X.prog X.w X.K X.mg X.base C) (hr : Room 2 X.A) (hg : Gl X x) (hm : X.mg x = some (.ref C)) (h1 : PE X e1 (tVar j)) (h2 : PE X e2 (tVar i)) (hP : ∀ σ H, Pre σ H → σ[i]? = some (some v)) (hU : ∀ σ H, Pre σ H → σ[j]? = some (some u))
    (hdb : (x == ("__debug__" : Str)) = false := by decide)
    (hall : (backToKw pos (keywordEach [⟨some "shown", e1, kp⟩, ⟨some "index", e2, kp2⟩] X.env)).all (·.1.isSome) = true := by rfl) (hks : (backToKw pos (keywordEach [⟨some "shown", e1, kp⟩, ⟨some "index", e2, kp2⟩] X.env)).filterMap (·.1) = [("shown" : Str), ("index" : Str)] := by rfl)
    (hpl : ((backTo pos (starEach [] X.env)).any (·.1) || (backToKw pos (keywordEach [⟨some "shown", e1, kp⟩, ⟨some "index", e2, kp2⟩] X.env)).any (·.1.isNone)) = false := by rfl) : PE X (.Call (.Name x p) [] [⟨some "shown", e1, kp⟩, ⟨some "index", e2, kp2⟩] pos) (tEx2 X.K Pre C v u) := by
  obtain ⟨⟨bmB, B, newId, initId, fI, fd, FB, T, M, F1, b0, bk⟩, nf, ng⟩ := c
  refine pe_imp (pe_xnK FB T M F1 hr hg hm bk (pk_cons h1 (pk_cons h2 pk_nil)) hall hks hdb hpl) fun σ H Q q => ?_
  exact ⟨u, hU σ H q.1, v, hP σ H q.1, rfl, rfl, fun a ha => ex_made2 ⟨bmB, newId, T⟩ nf ng q.2 a ha⟩
/-- [C(thing, other), C(shown=other, index=thing)] -/
def tTwo2 (K : PySem.W.Frag) (Pre : L2.St → Hp → Prop) (C : Addr) (v u : V) : TE := fun σ H Q => Pre σ H ∧ ∀ q H', Same H H' → (∃ a b, H' q = some (.lst [.ref a, .ref b]) ∧ (ExF K H' a C "index" v ∧ ExF K H' a C "shown" u) ∧ (ExF K H' b C "index" v ∧ ExF K H' b C "shown" u)) → Q (.ref q) H'
theorem px2Two (gr : Grows Pre) (h1 : PE X e1 (tEx2 X.K Pre C v u)) (h2 : PE X e2 (tEx2 X.K Pre C v u))
    (he : starEach [e1, e2] X.env = (false, eval e1 X.env) :: starEach [e2] X.env := by rfl) (he2 : starEach [e2] X.env = (false, eval e2 X.env) :: starEach [] X.env := by rfl) : PE X (.List [e1, e2] pos) (tTwo2 X.K Pre C v u) := by
  refine pe_imp (pe_lst (pa_cons h1 (pa_cons h2 pa_nil he2) he)) fun σ H Q q => ?_
  refine ⟨q.1, fun a H1 s1 x1 => ⟨gr _ _ _ s1 q.1, fun b H2 s2 x2 => ⟨by show 2 ≤ sizeLine; decide, fun p hp => q.2 _ _ (sThn (sThn s1 s2) (same_new hp)) ⟨a, b, upd_same, ⟨(x1.1.same s2).same (same_new hp), (x1.2.same s2).same (same_new hp)⟩, x2.1.same (same_new hp), x2.2.same (same_new hp)⟩⟩⟩⟩
/-- C(), without fields -/
def tEx0 (K : PySem.W.Frag) (C : Addr) : TE := fun _ H Q => ∀ a H', Same H H' → ExV K H' a C → Q (.ref a) H'
theorem px0New (c : Cl0 X.prog X.w X.K X.mg X.base C) (hr : Room 2 X.A) (hg : Gl X x) (hm : X.mg x = some (.ref C)) (hdb : (x == ("__debug__" : Str)) = false := by decide) : PE X (.Call (.Name x p) [] [] pos) (tEx0 X.K C) := by
  obtain ⟨bmB, B, newId, initId, fI, fd, FB, T, M, F1, b0⟩ := c.ex
  refine pe_imp (pe_xn0 FB T M F1 hr hg hm b0 hdb) fun σ H Q q => ?_
  exact ⟨rfl, rfl, fun a ha => ⟨a, rfl, upd_same, rfl, q a _ (same_new ha) ⟨⟨bmB, newId, T⟩, none, upd_same, fun _ z => nomatch z⟩⟩⟩
end
structure TxtR (K : PySem.W.Frag) (mg : Str → Option Value) : Prop where
  sys : True
  m0 : ∃ t, mg "MOST_CASES" = some (.int 6 t)
  m1 : ∃ t, mg "MOST_SAYINGS" = some (.int 12 t)
  m2 : ∃ t, mg "MOST_TIMES" = some (.int 9 t)
  m3 : ∃ t, mg "MOST_TOTAL" = some (.int 30 t)
  m4 : ∃ t, mg "MOST_OPEN" = some (.int 5 t)
  repr : mg "repr" = none
  enumerate : mg "enumerate" = none
theorem ok_right {f fa fg fs fc : Addr} {fd fda fdg fds fdc : FuncData} (F : Fun K "_law_right" "_law_right" sRight f fd) (T : TxtE K mg ca) (T2 : TxtR K mg)
    (Da : Df K mg "_law_any" fa fda ["pouch"]) (Ga : FnOk P w K mg base CX0 3 fa fda ["pouch"] spAny) (Dg : Df K mg "_law_given" fg fdg ["thing"]) (Gg : FnOk P w K mg base CX0 3 fg fdg ["thing"] (spGiven K ca))
    (Ds : Df K mg "_law_sorts" fs fds ["e"]) (Gs : FnOk P w K mg base CX0 1 fs fds ["e"] (spSorts K ca)) (Dc : Df K mg "_law_caught" fc fdc ["thing", "other"]) (Gc : FnOk P w K mg base CX0 3 fc fdc ["thing", "other"] spCaught)
    (CI : ∀ j, 11 ≤ j → j < 15 → j ≠ 13 → Cl P w K mg base (ca j) "index") (C13 : Cl P w K mg base (ca 13) "given") (C15 : Cl P w K mg base (ca 15) "balance") (C16 : Cl P w K mg base (ca 16) "limit") (C17 : Cl0 P w K mg base (ca 17)) (C18 : Cl2 P w K mg base (ca 18)) :
    FnG P w K mg base CX0 4 f fd ["pouch"] spRight := by
  refine okG F scRight (fun vs H Q E h => ?_) (fun cdv A outer s H vs Q E hg hr h => ?_)
  · obtain ⟨p, rfl, _⟩ := h
    rfl
  · obtain ⟨p, rfl, hp, q⟩ := h
    obtain ⟨t0, m0⟩ := T2.m0
    obtain ⟨t1, m1⟩ := T2.m1
    obtain ⟨t2, m2⟩ := T2.m2
    obtain ⟨t3, m3⟩ := T2.m3
    obtain ⟨t4, m4⟩ := T2.m4
    show Does _ _ _ _ _
    refine does_cons (ps_par (i := 1) (j := 2) rfl scRight.nd rfl rfl (by decide) rfl rfl (pa_cons (pe_call Ga hr rfl Da.m Da.k Da.b .nil pass0 (pa_cons (pv 0) pa_nil)) (pa_cons (pe_call Ga hr rfl Da.m Da.k Da.b .nil pass0 (pa_cons (pv 0) pa_nil)) pa_nil)) (by rfl)) ?_
    walk_at "rd"
    refine ⟨p, rfl, hp, fun v d H1 hd dv hp1 o1 => ?_⟩
    walk_at "rd"
    refine ⟨p, rfl, hp1, fun u e H2 he du hp2 o2 => ?_⟩
    walk_at "rd"
    have gd := good_of hd
    have ge := good_of he
    have dv2 : DV H2 d v := by
      obtain ⟨x, y, z, hq, _⟩ := hp1
      exact DV.oth hq o2 d v gd.ok dv
    refine does_cons (ps_for PassesOwn.never rfl (pi_enum rfl T2.enumerate (pa_cons (pe_call Gg hr rfl Dg.m Dg.k Dg.b .nil pass0 (pa_cons (pv 1) pa_nil)) pa_nil)) (pg_tup rfl (pgs_cons (pg_name (i := 3) scRight.nd rfl (.inl rfl)) (pgs_cons (pg_name (i := 4) scRight.nd rfl (.inl rfl)) pgs_nil))) pss_late) ?_
    walk_at "rd"
    refine ⟨v, rfl, v, rfl, fun pl H3 rs s3 hl hlen Fn => ⟨pl, rs, rfl, SqL.of hl, for_it walk_enum (fun _ σ H' => Same H3 H' ∧ ∃ o3 o4 o7, σ = [some (.ref p), some v, some u, o3, o4, none, none, o7, none, none]) ⟨sId, none, none, none, rfl⟩ (fun i σ H' _ h => SqL.of (h.1 _ _ hl)) ?_ ?_⟩⟩
    · rintro i x σ H' H'' hi ⟨s4, o3, o4, o7, rfl⟩ ⟨T0, x1, y1, rfl, hT, rfl, e1, e2⟩
      cases e1
      have hi11 : i < 11 := by omega
      have t4 := ((Fn i y1 e2).same s4).same (same_new (o := .tup [.int (i : Nat), y1]) hT)
      have dv4 := DV.same (same_new (o := .tup [.int (i : Nat), y1]) hT) _ _ (DV.same s4 _ _ (DV.same s3 _ _ dv2))
      have z4 : Same H3 (upd H' T0 (.tup [.int (i : Nat), y1])) := sThn s4 (same_new hT)
      refine ⟨T0, [.int (i : Nat), y1], rfl, SqT.of upd_same, rfl, _, _, rfl, _, _, rfl, rfl, ?_⟩
      generalize upd H' T0 (.tup [.int (i : Nat), y1]) = H4 at *
      obtain ⟨q2, a, b, rfl, hq2, xa, xb⟩ := t4
      have gr : Grows (fun σ H => σ[1]? = some (some v) ∧ σ[3]? = some (some (.int (i : Nat))) ∧ DV H d v) := fun σ H H' s h => ⟨h.1, h.2.1, DV.same s _ _ h.2.2⟩
      have hV : ∀ (σ : L2.St) (H : Hp), (σ[1]? = some (some v) ∧ σ[3]? = some (some (V.int (i : Nat))) ∧ DV H d v) → ∃ v', σ[1]? = some (some v') ∧ DV H d v' := fun σ H h => ⟨v, h.1, h.2.2⟩
      have hA : ∀ (σ : L2.St) (H : Hp), (σ[1]? = some (some v) ∧ σ[3]? = some (some (V.int (i : Nat))) ∧ DV H d v) → ∃ v', σ[3]? = some (some v') ∧ DV H (.int (i : Nat)) v' := fun σ H h => ⟨_, h.2.1, .i _⟩
      refine does_one (ps_if (pt_cmpR (op_neD hr T2.sys) (pe_lc (own := [("e", 7)]) (g := gName 7) (tt := tYes) (te := tElt K ca "given") rfl scRight.nd (pi_list (pv 4)) (blkOk_by (N := nRight) (sc := defScope sRight) (by decide +kernel)) (fun _ _ _ _ _ => pg_name (i := 7) scRight.nd rfl (Or.inl rfl)) (fun _ _ _ _ _ => pts_nil) (fun _ _ _ _ _ => (show PE _ _ (tElt K ca "given") from (pe_op op_cat (pe_call Gs (hr.mono (by decide)) rfl Ds.m Ds.k Ds.b .nil pass0 (pa_cons (pv 7) pa_nil)) (pe_lst (pa_cons (pe_callB (r := rRepr K) (call_repr hr hg T2.sys) (by rfl) T2.repr (by decide +kernel) (pa_cons (show PE _ _ (tXf K "given" (tVar 7)) from Xv.pe_xf (pv 7)) pa_nil)) pa_nil)))))) (pdRep gr (pdL (pdCons gr (pdL (pdCons gr (pdV (pv 3) hA) (pdCons gr pdI (pdCons gr pdI (pdCons gr (pdRepr hr hg T2.sys rfl T2.repr (pdV (pv 1) hV) gd.sh (by have := gd.dp; omega) gd.szl gd.hi) pdNil))))) pdNil)) pdI) (nomark _)) (pss_one (ps_ret pe_bl)) pss_nil) ?_
      walk_at "rd"
      refine bLcList q2 [.ref a, .ref b] (fun _ => seenD i [.str d.shown]) (by show 2 ≤ 1000; decide) (fun k m hk _ => okL_seen hk) hq2 (fun G g => bV rfl g) (fun x => rfl) (fun m x H5 G ex s5 k => ?_) (fun lv H5 s5 d5 => ?_)
      · have xx : ∃ c, x = .ref c ∧ ExF K H5 c (ca i) "given" v := by
          match m, ex with
          | 0, ex => cases ex; exact ⟨a, rfl, xa.same s5⟩
          | 1, ex => cases ex; exact ⟨b, rfl, xb.same s5⟩
        obtain ⟨c, rfl, xc⟩ := xx
        exact bElt gd rfl (by omega) xc (DV.same s5 _ _ dv4) k
      · refine bDat ⟨rfl, rfl, DV.same s5 _ _ dv4⟩ fun w H6 s6 d6 => ?_
        have eE : PyData.list [.int (i : Nat), .int 50, .int 53, .str d.shown] = seenD i [.str d.shown] := by
          have eb : bOf i = 0 := by simp [bOf]; omega
          simp [seenD, sortD, eb]
        refine ne_one (E := .list [seenD i [.str d.shown], seenD i [.str d.shown]]) (R := .list [.list [.int (i : Nat), .int 50, .int 53, .str d.shown], .list [.int (i : Nat), .int 50, .int 53, .str d.shown]]) (DV.same s6 _ _ d5) d6 (by rw [eE]) (two_facts (seen_good gd)) ?_
        walk_at "rd"
        refine bIte (fun z => nomatch z) (fun _ => ?_)
        walk_at "rd"
        exact ⟨sThn z4 (sThn s5 s6), _, _, _, rfl⟩
    · rintro σ H' ⟨s4, o3, o4, o7, rfl⟩
      have dv4 := DV.same s4 _ _ (DV.same s3 _ _ dv2)
      have du4 := DV.same s4 _ _ (DV.same s3 _ _ du)
      have oo : Oth p H H' := (o1.trans o2).trans (.of (sThn s3 s4))
      clear Fn hl hlen s4
      have gI2 : Grows (fun σ (_ : Hp) => σ[1]? = some (some v) ∧ σ[2]? = some (some u)) := fun _ _ _ _ h => h
      have hI2 : ∀ (σ : L2.St) (H : Hp), (fun σ (_ : Hp) => σ[1]? = some (some v) ∧ σ[2]? = some (some u)) σ H → σ[1]? = some (some v) := fun _ _ h => h.1
      have hJ2 : ∀ (σ : L2.St) (H : Hp), (fun σ (_ : Hp) => σ[1]? = some (some v) ∧ σ[2]? = some (some u)) σ H → σ[2]? = some (some u) := fun _ _ h => h.2
      have gI : Grows (fun σ (_ : Hp) => σ[1]? = some (some v)) := fun _ _ _ _ h => h
      have hI : ∀ (σ : L2.St) (H : Hp), (fun σ (_ : Hp) => σ[1]? = some (some v)) σ H → σ[1]? = some (some v) := fun _ _ h => h
      show Does _ _ _ _ _
      refine does_cons (ps_set (i := 5) scRight.nd rfl (Or.inl rfl) (pe_lst (pa_cons (pe_tup (pa_cons pe_int (pa_cons pe_int (pa_cons (pxTwo gI (pxNew (CI 11 (by decide) (by decide) (by decide)) (hr.mono (by decide)) rfl T.c11 (pv 1) hI) (pxNewK (CI 11 (by decide) (by decide) (by decide)) (hr.mono (by decide)) rfl T.c11 (pv 1) hI)) pa_nil)))) pa_nil))) ?_
      walk_at "rd"
      refine ⟨rfl, fun y11 H5 s5 t11 => ?_⟩
      walk_at "rd"
      refine ⟨by show 3 ≤ sizeLine; decide, fun q11 hq11 => ?_⟩
      walk_at "rd"
      refine ⟨by show 1 ≤ sizeLine; decide, fun pp hpp => ?_⟩
      walk_at "rd"
      have S6 : Same H5 (upd H5 q11 (.tup [.int 11, .int 50, y11])) := same_new hq11
      have S7 : Same (upd H5 q11 (.tup [.int 11, .int 50, y11])) (upd (upd H5 q11 (.tup [.int 11, .int 50, y11])) pp (.lst [.ref q11])) := same_new hpp
      have P1 : Prs K (upd (upd H5 q11 (.tup [.int 11, .int 50, y11])) pp (.lst [.ref q11])) ca v [(11, 50)] [.ref q11] := by
        refine ⟨rfl, fun j r k e1 e2 => ?_⟩
        match j, e1, e2 with
        | 0, e1, e2 =>
          cases e1; cases e2
          exact ⟨q11, y11, rfl, S7 _ _ upd_same, t11.same (sThn S6 S7)⟩
      have F6 : FP K ca v H' (upd (upd H5 q11 (.tup [.int 11, .int 50, y11])) pp (.lst [.ref q11])) pp [(11, 50)] := by
        refine ⟨sThn s5 (sThn S6 S7), ?_, [.ref q11], upd_same, P1⟩
        cases z : H' pp with
        | none => rfl
        | some o =>
          have := sThn s5 S6 _ _ z
          rw [hpp] at this
          cases this
      have L6 : (upd (upd H5 q11 (.tup [.int 11, .int 50, y11])) pp (.lst [.ref q11])) pp = some (.lst [.ref q11]) := upd_same
      generalize upd (upd H5 q11 (.tup [.int 11, .int 50, y11])) pp (.lst [.ref q11]) = H6 at *
      refine does_cons (ps_expr (pe_bm PySem.F.plainAttrs_list PySem.F.slot_list_append PySem.F.type_list_append mt_append (pv 5) (pa_cons (pe_tup (pa_cons pe_int (pa_cons pe_int (pa_cons (pxTwo gI (pxNew (CI 12 (by decide) (by decide) (by decide)) (hr.mono (by decide)) rfl T.c12 (pv 1) hI) (pxNewK (CI 12 (by decide) (by decide) (by decide)) (hr.mono (by decide)) rfl T.c12 (pv 1) hI)) pa_nil)))) pa_nil))) ?_
      walk_at "rd"
      refine ⟨Or.inl ⟨rfl, _, Or.inl (Or.inl L6)⟩, rfl, fun y12 H7 s7 t12 => ?_⟩
      walk_at "rd"
      refine ⟨by show 3 ≤ sizeLine; decide, fun q12 hq12 => ?_⟩
      walk_at "rd"
      refine bAppPr (k := (12, 50)) F6 (by decide) s7 t12 hq12 fun H8 F8 => ?_
      refine does_cons (ps_expr (pe_bm PySem.F.plainAttrs_list PySem.F.slot_list_append PySem.F.type_list_append mt_append (pv 5) (pa_cons (pe_tup (pa_cons pe_int (pa_cons pe_int (pa_cons (pxTwo gI (pxNew (CI 14 (by decide) (by decide) (by decide)) (hr.mono (by decide)) rfl T.c14 (pv 1) hI) (pxNewK (CI 14 (by decide) (by decide) (by decide)) (hr.mono (by decide)) rfl T.c14 (pv 1) hI)) pa_nil)))) pa_nil))) ?_
      walk_at "rd"
      refine ⟨(by obtain ⟨_, _, ts8, L8, _⟩ := F8; exact Or.inl ⟨rfl, _, Or.inl (Or.inl L8)⟩), rfl, fun y14 H9 s9 t14 => ?_⟩
      walk_at "rd"
      refine ⟨by show 3 ≤ sizeLine; decide, fun q14 hq14 => ?_⟩
      walk_at "rd"
      refine bAppPr (k := (14, 51)) F8 (by decide) s9 t14 hq14 fun H10 F10 => ?_
      obtain ⟨s10, _, ts, L10, P10⟩ := F10
      have dv10 := DV.same s10 _ _ dv4
      have du10 := DV.same s10 _ _ du4
      have oo10 : Oth p H H10 := oo.trans (.of s10)
      clear F8 F6 L6 P1 S6 S7 s7 s9 t12 t14 t11 hq11 hq12 hq14 hpp
      refine does_cons (ps_for PassesOwn.never rfl (pi_list (pv 5)) (pg_tup rfl (pgs_cons (pg_name (i := 3) scRight.nd rfl (.inl rfl)) (pgs_cons (pg_name (i := 6) scRight.nd rfl (.inl rfl)) (pgs_cons (pg_name (i := 4) scRight.nd rfl (.inl rfl)) pgs_nil)))) pss_late) ?_
      walk_at "rd"
      have hl := P10.1
      refine ⟨.ref pp, rfl, pp, rfl, ⟨ts, SqL.of L10⟩, for_it walk_list (fun _ σ H'' => Same H10 H'' ∧ ∃ o3 o4 o6 o7, σ = [some (.ref p), some v, some u, o3, o4, some (.ref pp), o6, o7, none, none]) ⟨sId, _, _, _, _, rfl⟩ (fun i σ H'' _ h => SqL.of (h.1 _ _ L10)) ?_ ?_⟩
      · rintro i x σ H7 H8 hi ⟨s7, o3, o4, o6, o7, rfl⟩ ⟨rfl, ex⟩
        obtain ⟨k, ek, k1, k2⟩ : ∃ k : Nat × Nat, (([(11, 50)] ++ [(12, 50)] ++ [(14, 51)] : List (Nat × Nat)))[i]? = some k ∧ k.1 < 18 ∧ k.2 = 50 + bOf k.1 := by
          have h3 : i < 3 := by
            have hz : ts.length = 3 := hl
            omega
          match i, h3 with
          | 0, _ => exact ⟨_, rfl, by decide, by decide⟩
          | 1, _ => exact ⟨_, rfl, by decide, by decide⟩
          | 2, _ => exact ⟨_, rfl, by decide, by decide⟩
        obtain ⟨q1, y1, rfl, hq1, two⟩ := (P10.2 i x k ex ek).same s7
        have dv7 := DV.same s7 _ _ dv10
        refine ⟨q1, [.int (k.1 : Nat), .int (k.2 : Nat), y1], rfl, SqT.of hq1, rfl, _, _, rfl, _, _, rfl, _, _, rfl, rfl, ?_⟩
        obtain ⟨q2, a, b, rfl, hq2, xa, xb⟩ := two
        have gr : Grows (fun σ H => σ[1]? = some (some v) ∧ σ[3]? = some (some (.int (k.1 : Nat))) ∧ σ[6]? = some (some (.int (k.2 : Nat))) ∧ DV H d v) := fun σ H H' s h => ⟨h.1, h.2.1, h.2.2.1, DV.same s _ _ h.2.2.2⟩
        have hV : ∀ (σ : L2.St) (H : Hp), (σ[1]? = some (some v) ∧ σ[3]? = some (some (V.int (k.1 : Nat))) ∧ σ[6]? = some (some (V.int (k.2 : Nat))) ∧ DV H d v) → ∃ v', σ[1]? = some (some v') ∧ DV H d v' := fun σ H h => ⟨v, h.1, h.2.2.2⟩
        have hA : ∀ (σ : L2.St) (H : Hp), (σ[1]? = some (some v) ∧ σ[3]? = some (some (V.int (k.1 : Nat))) ∧ σ[6]? = some (some (V.int (k.2 : Nat))) ∧ DV H d v) → ∃ v', σ[3]? = some (some v') ∧ DV H (.int (k.1 : Nat)) v' := fun σ H h => ⟨_, h.2.1, .i _⟩
        have hB : ∀ (σ : L2.St) (H : Hp), (σ[1]? = some (some v) ∧ σ[3]? = some (some (V.int (k.1 : Nat))) ∧ σ[6]? = some (some (V.int (k.2 : Nat))) ∧ DV H d v) → ∃ v', σ[6]? = some (some v') ∧ DV H (.int (k.2 : Nat)) v' := fun σ H h => ⟨_, h.2.2.1, .i _⟩
        refine does_one (ps_if (pt_cmpR (op_neD hr T2.sys) (pe_lc (own := [("e", 7)]) (g := gName 7) (tt := tYes) (te := tElt K ca "index") rfl scRight.nd (pi_list (pv 4)) (blkOk_by (N := nRight) (sc := defScope sRight) (by decide +kernel)) (fun _ _ _ _ _ => pg_name (i := 7) scRight.nd rfl (Or.inl rfl)) (fun _ _ _ _ _ => pts_nil) (fun _ _ _ _ _ => (show PE _ _ (tElt K ca "index") from (pe_op op_cat (pe_call Gs (hr.mono (by decide)) rfl Ds.m Ds.k Ds.b .nil pass0 (pa_cons (pv 7) pa_nil)) (pe_lst (pa_cons (pe_callB (r := rRepr K) (call_repr hr hg T2.sys) (by rfl) T2.repr (by decide +kernel) (pa_cons (show PE _ _ (tXf K "index" (tVar 7)) from Xv.pe_xf (pv 7)) pa_nil)) pa_nil)))))) (pdRep gr (pdL (pdCons gr (pdL (pdCons gr (pdV (pv 3) hA) (pdCons gr (pdV (pv 6) hB) (pdCons gr (pdAdd gr (pdV (pv 6) hB) pdI) (pdCons gr (pdRepr hr hg T2.sys rfl T2.repr (pdV (pv 1) hV) gd.sh (by have := gd.dp; omega) gd.szl gd.hi) pdNil))))) pdNil)) pdI) (nomark _)) (pss_one (ps_ret pe_bl)) pss_nil) ?_
        walk_at "rd"
        refine bLcList q2 [.ref a, .ref b] (fun _ => seenD k.1 [.str d.shown]) (by show 2 ≤ 1000; decide) (fun k m hk _ => okL_seen hk) hq2 (fun G g => bV rfl g) (fun x => rfl) (fun m x H5 G ex s5 kk => ?_) (fun lv H5 s5 d5 => ?_)
        · have xx : ∃ c, x = .ref c ∧ ExF K H5 c (ca k.1) "index" v := by
            match m, ex with
            | 0, ex => cases ex; exact ⟨a, rfl, xa.same s5⟩
            | 1, ex => cases ex; exact ⟨b, rfl, xb.same s5⟩
          obtain ⟨c, rfl, xc⟩ := xx
          exact bElt gd rfl (by omega) xc (DV.same s5 _ _ dv7) kk
        · refine bDat ⟨rfl, rfl, rfl, DV.same s5 _ _ dv7⟩ fun w H6 s6 d6 => ?_
          have eE : PyData.list [.int (k.1 : Nat), .int (k.2 : Nat), .int ((k.2 : Nat) + 3), .str d.shown] = seenD k.1 [.str d.shown] := by
            have e3 : ((k.2 : Nat) : Int) + 3 = ((53 + bOf k.1 : Nat) : Int) := by omega
            rw [e3, k2]
            rfl
          refine ne_one (E := .list [seenD k.1 [.str d.shown], seenD k.1 [.str d.shown]]) (R := .list [.list [.int (k.1 : Nat), .int (k.2 : Nat), .int ((k.2 : Nat) + 3), .str d.shown], .list [.int (k.1 : Nat), .int (k.2 : Nat), .int ((k.2 : Nat) + 3), .str d.shown]]) (DV.same s6 _ _ d5) d6 (by rw [eE]) (two_facts (seen_good gd)) ?_
          walk_at "rd"
          refine bIte (fun z => nomatch z) (fun _ => ?_)
          walk_at "rd"
          exact ⟨sThn s7 (sThn s5 s6), _, _, _, _, rfl⟩
      · rintro σ H11 ⟨s11, o3, o4, o6, o7, rfl⟩
        have dv11 := DV.same s11 _ _ dv10
        have du11 := DV.same s11 _ _ du10
        have oo11 : Oth p H H11 := oo10.trans (.of s11)
        clear P10 L10 s10 hl
        clear s11 dv10 du10 oo10
        show Does _ _ _ _ _
        refine does_cons (ps_for PassesOwn.never rfl (pi_list (pxTwo gI (pxNew C13 (hr.mono (by decide)) rfl T.c13 (pv 1) hI) (pxNewK C13 (hr.mono (by decide)) rfl T.c13 (pv 1) hI))) (pg_name (i := 7) scRight.nd rfl (.inl rfl)) pss_late) ?_
        walk_at "rd"
        refine ⟨rfl, fun y6 G6 u6 t6 => ?_⟩
        obtain ⟨q6, a6, b6, rfl, hq6, xa6, xb6⟩ := t6
        have dw6 := DV.same u6 _ _ dv11
        have dz6 := DV.same u6 _ _ du11
        refine ⟨q6, rfl, ⟨[.ref a6, .ref b6], SqL.of hq6⟩, for_it walk_list (fun _ σ H'' => Same G6 H'' ∧ ∃ o3 o4 o6 o7, σ = [some (.ref p), some v, some u, o3, o4, some (.ref pp), o6, o7, none, none]) ⟨sId, _, _, _, _, rfl⟩ (fun i σ H'' _ h => SqL.of (h.1 _ _ hq6)) ?_ ?_⟩
        · rintro i x σ H7 H8 hi ⟨s7, o3, o4, o6, o7, rfl⟩ ⟨rfl, ex⟩
          have dv7 := DV.same s7 _ _ dw6
          have xx : ∃ c, x = .ref c ∧ ExF K H8 c (ca 13) "given" v := by
            match i, ex with
            | 0, ex => cases ex; exact ⟨_, rfl, xa6.same s7⟩
            | 1, ex => cases ex; exact ⟨_, rfl, xb6.same s7⟩
          obtain ⟨c, rfl, xc⟩ := xx
          have gr : Grows (fun σ H => σ[1]? = some (some v) ∧ DV H d v) := fun σ H H' s h => ⟨h.1, DV.same s _ _ h.2⟩
          have hV : ∀ (σ : L2.St) (H : Hp), (σ[1]? = some (some v) ∧ DV H d v) → ∃ v', σ[1]? = some (some v') ∧ DV H d v' := fun σ H h => ⟨v, h.1, h.2⟩
          show Does _ _ _ _ _
          refine does_one (ps_if (pt_cmpR (op_neD hr T2.sys) (show PE _ _ (tElt K ca "given") from (pe_op op_cat (pe_call Gs (hr.mono (by decide)) rfl Ds.m Ds.k Ds.b .nil pass0 (pa_cons (pv 7) pa_nil)) (pe_lst (pa_cons (pe_callB (r := rRepr K) (call_repr hr hg T2.sys) (by rfl) T2.repr (by decide +kernel) (pa_cons (show PE _ _ (tXf K "given" (tVar 7)) from Xv.pe_xf (pv 7)) pa_nil)) pa_nil)))) (pdL (pdCons gr pdI (pdCons gr pdI (pdCons gr pdI (pdCons gr (pdRepr hr hg T2.sys rfl T2.repr (pdV (pv 1) hV) gd.sh (by have := gd.dp; omega) gd.szl gd.hi) pdNil))))) (nomark _)) (pss_one (ps_ret pe_bl)) pss_nil) ?_
          walk_at "rd"
          refine bElt gd rfl (by decide) xc dv7 fun y H5 s5 d5 => ?_
          refine bDat ⟨rfl, DV.same s5 _ _ dv7⟩ fun w H6 s6 d6 => ?_
          refine ne_one (E := seenD 13 [.str d.shown]) (R := .list [.int 13, .int 51, .int 54, .str d.shown]) (DV.same s6 _ _ d5) d6 rfl (seen_one gd) ?_
          walk_at "rd"
          refine bIte (fun z => nomatch z) (fun _ => ?_)
          walk_at "rd"
          exact ⟨sThn s7 (sThn s5 s6), _, _, _, _, rfl⟩
        · rintro σ H12 ⟨s7, o3, o4, o6, o7, rfl⟩
          have dv12 := DV.same s7 _ _ dw6
          have du12 := DV.same s7 _ _ dz6
          have oo12 : Oth p H H12 := oo11.trans (.of (sThn u6 s7))
          clear dw6 dz6 hq6 xa6 xb6 s7 u6
          show Does _ _ _ _ _
          refine does_cons (ps_for PassesOwn.never rfl (pi_list (pxTwo gI (pxNew C15 (hr.mono (by decide)) rfl T.c15 (pv 1) hI) (pxNewK C15 (hr.mono (by decide)) rfl T.c15 (pv 1) hI))) (pg_name (i := 7) scRight.nd rfl (.inl rfl)) pss_late) ?_
          walk_at "rd"
          refine ⟨rfl, fun y7 G7 u7 t7 => ?_⟩
          obtain ⟨q7, a7, b7, rfl, hq7, xa7, xb7⟩ := t7
          have dw7 := DV.same u7 _ _ dv12
          have dz7 := DV.same u7 _ _ du12
          refine ⟨q7, rfl, ⟨[.ref a7, .ref b7], SqL.of hq7⟩, for_it walk_list (fun _ σ H'' => Same G7 H'' ∧ ∃ o3 o4 o6 o7, σ = [some (.ref p), some v, some u, o3, o4, some (.ref pp), o6, o7, none, none]) ⟨sId, _, _, _, _, rfl⟩ (fun i σ H'' _ h => SqL.of (h.1 _ _ hq7)) ?_ ?_⟩
          · rintro i x σ H7 H8 hi ⟨s7, o3, o4, o6, o7, rfl⟩ ⟨rfl, ex⟩
            have dv7 := DV.same s7 _ _ dw7
            have xx : ∃ c, x = .ref c ∧ ExF K H8 c (ca 15) "balance" v := by
              match i, ex with
              | 0, ex => cases ex; exact ⟨_, rfl, xa7.same s7⟩
              | 1, ex => cases ex; exact ⟨_, rfl, xb7.same s7⟩
            obtain ⟨c, rfl, xc⟩ := xx
            have gr : Grows (fun σ H => σ[1]? = some (some v) ∧ DV H d v) := fun σ H H' s h => ⟨h.1, DV.same s _ _ h.2⟩
            have hV : ∀ (σ : L2.St) (H : Hp), (σ[1]? = some (some v) ∧ DV H d v) → ∃ v', σ[1]? = some (some v') ∧ DV H d v' := fun σ H h => ⟨v, h.1, h.2⟩
            show Does _ _ _ _ _
            refine does_one (ps_if (pt_cmpR (op_neD hr T2.sys) (show PE _ _ (tElt K ca "balance") from (pe_op op_cat (pe_call Gs (hr.mono (by decide)) rfl Ds.m Ds.k Ds.b .nil pass0 (pa_cons (pv 7) pa_nil)) (pe_lst (pa_cons (pe_callB (r := rRepr K) (call_repr hr hg T2.sys) (by rfl) T2.repr (by decide +kernel) (pa_cons (show PE _ _ (tXf K "balance" (tVar 7)) from Xv.pe_xf (pv 7)) pa_nil)) pa_nil)))) (pdL (pdCons gr pdI (pdCons gr pdI (pdCons gr pdI (pdCons gr (pdRepr hr hg T2.sys rfl T2.repr (pdV (pv 1) hV) gd.sh (by have := gd.dp; omega) gd.szl gd.hi) pdNil))))) (nomark _)) (pss_one (ps_ret pe_bl)) pss_nil) ?_
            walk_at "rd"
            refine bElt gd rfl (by decide) xc dv7 fun y H5 s5 d5 => ?_
            refine bDat ⟨rfl, DV.same s5 _ _ dv7⟩ fun w H6 s6 d6 => ?_
            refine ne_one (E := seenD 15 [.str d.shown]) (R := .list [.int 15, .int 52, .int 55, .str d.shown]) (DV.same s6 _ _ d5) d6 rfl (seen_one gd) ?_
            walk_at "rd"
            refine bIte (fun z => nomatch z) (fun _ => ?_)
            walk_at "rd"
            exact ⟨sThn s7 (sThn s5 s6), _, _, _, _, rfl⟩
          · rintro σ H13 ⟨s7, o3, o4, o6, o7, rfl⟩
            have dv13 := DV.same s7 _ _ dw7
            have du13 := DV.same s7 _ _ dz7
            have oo13 : Oth p H H13 := oo12.trans (.of (sThn u7 s7))
            clear dw7 dz7 hq7 xa7 xb7 s7 u7
            show Does _ _ _ _ _
            refine does_cons (ps_for PassesOwn.never rfl (pi_list (pxTwo gI (pxNew C16 (hr.mono (by decide)) rfl T.c16 (pv 1) hI) (pxNewK C16 (hr.mono (by decide)) rfl T.c16 (pv 1) hI))) (pg_name (i := 7) scRight.nd rfl (.inl rfl)) pss_late) ?_
            walk_at "rd"
            refine ⟨rfl, fun y8 G8 u8 t8 => ?_⟩
            obtain ⟨q8, a8, b8, rfl, hq8, xa8, xb8⟩ := t8
            have dw8 := DV.same u8 _ _ dv13
            have dz8 := DV.same u8 _ _ du13
            refine ⟨q8, rfl, ⟨[.ref a8, .ref b8], SqL.of hq8⟩, for_it walk_list (fun _ σ H'' => Same G8 H'' ∧ ∃ o3 o4 o6 o7, σ = [some (.ref p), some v, some u, o3, o4, some (.ref pp), o6, o7, none, none]) ⟨sId, _, _, _, _, rfl⟩ (fun i σ H'' _ h => SqL.of (h.1 _ _ hq8)) ?_ ?_⟩
            · rintro i x σ H7 H8 hi ⟨s7, o3, o4, o6, o7, rfl⟩ ⟨rfl, ex⟩
              have dv7 := DV.same s7 _ _ dw8
              have xx : ∃ c, x = .ref c ∧ ExF K H8 c (ca 16) "limit" v := by
                match i, ex with
                | 0, ex => cases ex; exact ⟨_, rfl, xa8.same s7⟩
                | 1, ex => cases ex; exact ⟨_, rfl, xb8.same s7⟩
              obtain ⟨c, rfl, xc⟩ := xx
              have gr : Grows (fun σ H => σ[1]? = some (some v) ∧ DV H d v) := fun σ H H' s h => ⟨h.1, DV.same s _ _ h.2⟩
              have hV : ∀ (σ : L2.St) (H : Hp), (σ[1]? = some (some v) ∧ DV H d v) → ∃ v', σ[1]? = some (some v') ∧ DV H d v' := fun σ H h => ⟨v, h.1, h.2⟩
              show Does _ _ _ _ _
              refine does_one (ps_if (pt_cmpR (op_neD hr T2.sys) (show PE _ _ (tElt K ca "limit") from (pe_op op_cat (pe_call Gs (hr.mono (by decide)) rfl Ds.m Ds.k Ds.b .nil pass0 (pa_cons (pv 7) pa_nil)) (pe_lst (pa_cons (pe_callB (r := rRepr K) (call_repr hr hg T2.sys) (by rfl) T2.repr (by decide +kernel) (pa_cons (show PE _ _ (tXf K "limit" (tVar 7)) from Xv.pe_xf (pv 7)) pa_nil)) pa_nil)))) (pdL (pdCons gr pdI (pdCons gr pdI (pdCons gr pdI (pdCons gr (pdRepr hr hg T2.sys rfl T2.repr (pdV (pv 1) hV) gd.sh (by have := gd.dp; omega) gd.szl gd.hi) pdNil))))) (nomark _)) (pss_one (ps_ret pe_bl)) pss_nil) ?_
              walk_at "rd"
              refine bElt gd rfl (by decide) xc dv7 fun y H5 s5 d5 => ?_
              refine bDat ⟨rfl, DV.same s5 _ _ dv7⟩ fun w H6 s6 d6 => ?_
              refine ne_one (E := seenD 16 [.str d.shown]) (R := .list [.int 16, .int 52, .int 55, .str d.shown]) (DV.same s6 _ _ d5) d6 rfl (seen_one gd) ?_
              walk_at "rd"
              refine bIte (fun z => nomatch z) (fun _ => ?_)
              walk_at "rd"
              exact ⟨sThn s7 (sThn s5 s6), _, _, _, _, rfl⟩
            · rintro σ H14 ⟨s7, o3, o4, o6, o7, rfl⟩
              have dv14 := DV.same s7 _ _ dw8
              have du14 := DV.same s7 _ _ dz8
              have oo14 : Oth p H H14 := oo13.trans (.of (sThn u8 s7))
              clear dw8 dz8 hq8 xa8 xb8 s7 u8
              show Does _ _ _ _ _
              refine does_cons (ps_for PassesOwn.never rfl (pi_list (px2Two gI2 (px2New C18 (hr.mono (by decide)) rfl T.c18 (pv 1) (pv 2) hI2 hJ2) (px2NewK C18 (hr.mono (by decide)) rfl T.c18 (pv 2) (pv 1) hI2 hJ2))) (pg_name (i := 7) scRight.nd rfl (.inl rfl)) pss_late) ?_
              walk_at "rd"
              refine ⟨⟨rfl, rfl⟩, fun q9 G9 u9 t9 => ?_⟩
              obtain ⟨a9, b9, hq9, ⟨xa9, ya9⟩, xb9, yb9⟩ := t9
              have dw9 := DV.same u9 _ _ dv14
              have dz9 := DV.same u9 _ _ du14
              refine ⟨q9, rfl, ⟨[.ref a9, .ref b9], SqL.of hq9⟩, for_it walk_list (fun _ σ H'' => Same G9 H'' ∧ ∃ o3 o4 o6 o7, σ = [some (.ref p), some v, some u, o3, o4, some (.ref pp), o6, o7, none, none]) ⟨sId, _, _, _, _, rfl⟩ (fun i σ H'' _ h => SqL.of (h.1 _ _ hq9)) ?_ ?_⟩
              · rintro i x σ H7 H8 hi ⟨s7, o3, o4, o6, o7, rfl⟩ ⟨rfl, ex⟩
                have dv7 := DV.same s7 _ _ dw9
                have du7 := DV.same s7 _ _ dz9
                have xx : ∃ c, x = .ref c ∧ ExF K H8 c (ca 18) "index" v ∧ ExF K H8 c (ca 18) "shown" u := by
                  match i, ex with
                  | 0, ex => cases ex; exact ⟨_, rfl, xa9.same s7, ya9.same s7⟩
                  | 1, ex => cases ex; exact ⟨_, rfl, xb9.same s7, yb9.same s7⟩
                obtain ⟨c, rfl, xc, yc⟩ := xx
                have gr : Grows (fun σ H => (σ[1]? = some (some v) ∧ σ[2]? = some (some u)) ∧ DV H d v ∧ DV H e u) := fun σ H H' s h => ⟨h.1, DV.same s _ _ h.2.1, DV.same s _ _ h.2.2⟩
                have hV : ∀ (σ : L2.St) (H : Hp), ((σ[1]? = some (some v) ∧ σ[2]? = some (some u)) ∧ DV H d v ∧ DV H e u) → ∃ v', σ[1]? = some (some v') ∧ DV H d v' := fun σ H h => ⟨v, h.1.1, h.2.1⟩
                have hU : ∀ (σ : L2.St) (H : Hp), ((σ[1]? = some (some v) ∧ σ[2]? = some (some u)) ∧ DV H d v ∧ DV H e u) → ∃ v', σ[2]? = some (some v') ∧ DV H e v' := fun σ H h => ⟨u, h.1.2, h.2.2⟩
                show Does _ _ _ _ _
                refine does_one (ps_if (pt_cmpR (op_neD hr T2.sys) (show PE _ _ (tElt2 K ca "index" "shown") from (pe_op op_cat (pe_call Gs (hr.mono (by decide)) rfl Ds.m Ds.k Ds.b .nil pass0 (pa_cons (pv 7) pa_nil)) (pe_lst (pa_cons (pe_callB (r := rRepr K) (call_repr hr hg T2.sys) (by rfl) T2.repr (by decide +kernel) (pa_cons (show PE _ _ (tXf K "index" (tVar 7)) from Xv.pe_xf (pv 7)) pa_nil)) (pa_cons (pe_callB (r := rRepr K) (call_repr hr hg T2.sys) (by rfl) T2.repr (by decide +kernel) (pa_cons (show PE _ _ (tXf K "shown" (tVar 7)) from Xv.pe_xf (pv 7)) pa_nil)) pa_nil))))) (pdL (pdCons gr pdI (pdCons gr pdI (pdCons gr pdI (pdCons gr (pdRepr hr hg T2.sys rfl T2.repr (pdV (pv 1) hV) gd.sh (by have := gd.dp; omega) gd.szl gd.hi) (pdCons gr (pdRepr hr hg T2.sys rfl T2.repr (pdV (pv 2) hU) ge.sh (by have := ge.dp; omega) ge.szl ge.hi) pdNil)))))) (nomark _)) (pss_one (ps_ret pe_bl)) pss_nil) ?_
                walk_at "rd"
                refine bElt2 gd ge rfl (by decide) xc yc dv7 du7 fun y H5 s5 d5 => ?_
                refine bDat ⟨⟨rfl, rfl⟩, DV.same s5 _ _ dv7, DV.same s5 _ _ du7⟩ fun w H6 s6 d6 => ?_
                refine ne_one (E := seenD 18 [.str d.shown, .str e.shown]) (R := .list [.int 18, .int 52, .int 55, .str d.shown, .str e.shown]) (DV.same s6 _ _ d5) d6 rfl (seen_facts (by simp [PyData.canLayAll0, gd.cl, ge.cl]) (by simp [PyData.depthAll, PyData.depth]) (by simp [PyData.hasDictAll, PyData.hasDict])) ?_
                walk_at "rd"
                refine bIte (fun z => nomatch z) (fun _ => ?_)
                walk_at "rd"
                exact ⟨sThn s7 (sThn s5 s6), _, _, _, _, rfl⟩
              · rintro σ H15 ⟨s7, o3, o4, o6, o7, rfl⟩
                have dv15 := DV.same s7 _ _ dw9
                have du15 := DV.same s7 _ _ dz9
                have oo15 : Oth p H H15 := oo14.trans (.of (sThn u9 s7))
                clear dw9 dz9 hq9 xa9 ya9 xb9 yb9 s7 u9
                show Does _ _ _ _ _
                refine does_cons (ps_if (pt_cmpR (op_neD hr T2.sys) (pe_call Gs (hr.mono (by decide)) rfl Ds.m Ds.k Ds.b .nil pass0 (pa_cons (px0New C17 (hr.mono (by decide)) rfl T.c17) pa_nil)) (pd_data (Pre := fun _ _ => True) (dL (dCons dI (dCons dI (dCons dI dNil))))) (nomark _)) (pss_one (ps_ret pe_bl)) pss_nil) ?_
                walk_at "rd"
                refine fun a10 H16 s16 x16 => ?_
                walk_at "rd"
                refine ⟨a10, 17, rfl, by decide, x16, fun y H17 s17 d17 => ?_⟩
                refine bDat trivial fun w H18 s18 d18 => ?_
                refine ne_one (E := .list (sortD 17)) (R := .list [.int 17, .int 52, .int 55]) (DV.same s18 _ _ d17) d18 rfl ⟨by decide, by decide, by decide⟩ ?_
                walk_at "rd"
                refine bIte (fun z => nomatch z) (fun _ => ?_)
                have s19 := sThn s16 (sThn s17 s18)
                have dv19 := DV.same s19 _ _ dv15
                have du19 := DV.same s19 _ _ du15
                have oo19 : Oth p H H18 := oo15.trans (.of s19)
                clear s19 s16 s17 s18 d17 d18 x16
                show Does _ _ _ _ _
                refine does_cons (ps_set (i := 8) scRight.nd rfl (Or.inl rfl) (pe_lst (pa_cons (pe_glob (v := .int 6) (u := .int 6 t0) rfl m0 ⟨_, rfl⟩) (pa_cons (pe_glob (v := .int 12) (u := .int 12 t1) rfl m1 ⟨_, rfl⟩) (pa_cons (pe_glob (v := .int 9) (u := .int 9 t2) rfl m2 ⟨_, rfl⟩) (pa_cons (pe_glob (v := .int 30) (u := .int 30 t3) rfl m3 ⟨_, rfl⟩) (pa_cons (pe_glob (v := .int 5) (u := .int 5 t4) rfl m4 ⟨_, rfl⟩) pa_nil))))))) ?_
                walk_at "rd"
                refine ⟨by show 5 ≤ sizeLine; decide, fun pt hpt => ?_⟩
                walk_at "rd"
                have dv20 := DV.same (same_new (o := .lst [.int 6, .int 12, .int 9, .int 30, .int 5]) hpt) _ _ dv19
                have du20 := DV.same (same_new (o := .lst [.int 6, .int 12, .int 9, .int 30, .int 5]) hpt) _ _ du19
                have oo20 : Oth p H (upd H18 pt (.lst [.int 6, .int 12, .int 9, .int 30, .int 5])) := oo19.trans (.of (same_new hpt))
                have L20 : (upd H18 pt (.lst [.int 6, .int 12, .int 9, .int 30, .int 5])) pt = some (.lst [.int 6, .int 12, .int 9, .int 30, .int 5]) := upd_same
                generalize upd H18 pt (.lst [.int 6, .int 12, .int 9, .int 30, .int 5]) = H20 at *
                show Does _ _ _ _ _
                refine does_cons (ps_set (i := 9) scRight.nd rfl (Or.inl rfl) (pe_call Gc hr rfl Dc.m Dc.k Dc.b .nil pass0 (pa_cons (pv 1) (pa_cons (pv 2) pa_nil)))) ?_
                walk_at "rd"
                refine ⟨v, u, rfl, fun pk H21 s21 L21 => ?_⟩
                walk_at "rd"
                show Does _ _ _ _ _
                refine does_one (ps_ret (pe_and (pe_cmpR (op_eqD hr T2.sys) (pe_callB (r := rRepr K) (call_repr hr hg T2.sys) (by rfl) T2.repr (by decide +kernel) (pa_cons (pv 8) pa_nil)) pe_str (nomark _)) (pe_one (pe_cmpR (op_eqD hr T2.sys) (pe_callB (r := rRepr K) (call_repr hr hg T2.sys) (by rfl) T2.repr (by decide +kernel) (pa_cons (pv 9) pa_nil)) (pe_callB (r := rRepr K) (call_repr hr hg T2.sys) (by rfl) T2.repr (by decide +kernel) (pa_cons (pe_lst (pa_cons (pv 1) (pa_cons (pv 1) (pa_cons (pv 1) (pa_cons (pv 2) pa_nil))))) pa_nil)) (nomark _))))) ?_
                walk_at "rd"
                have dt : DV H21 (.list [.int 6, .int 12, .int 9, .int 30, .int 5]) (.ref pt) := .l (s21 _ _ L20) (.c (.i _) (.c (.i _) (.c (.i _) (.c (.i _) (.c (.i _) .n)))))
                have dk : DV H21 (.list [d, d, d, e]) (.ref pk) := .l L21 (.c (DV.same s21 _ _ dv20) (.c (DV.same s21 _ _ dv20) (.c (DV.same s21 _ _ dv20) (.c (DV.same s21 _ _ du20) .n))))
                have g2 := two_of gd ge
                have gsh : (PyData.list [d, d, d, e]).showable = true := by simp [PyData.showable, PyData.showableAll, gd.sh, ge.sh]
                have gdp : (PyData.list [d, d, d, e]).depth ≤ 40 := by
                  have h1 := gd.dp
                  have h2 := ge.dp
                  simp only [PyData.depth, PyData.depthAll]
                  omega
                have gsz : (PyData.list [d, d, d, e]).shown.length ≤ sizeLine := by
                  have h1 := g2.1
                  rw [sizeLine_eq]
                  omega
                show tOp _ _ _ _ _ _
                refine bOp (bCB (bCons (bV rfl (bNil (bRepr dt (by decide) (by decide) (by show _ ≤ 2 ^ 24; decide +kernel) (fun _ z => nomatch z) ?_)))))
                refine bC ?_
                refine bEqD (d := .str (PyData.list [.int 6, .int 12, .int 9, .int 30, .int 5]).shown) (e := .str "[6, 12, 9, 30, 5]") (.s _) (.s _) (by decide +kernel) (by decide +kernel) (by decide +kernel) (by decide +kernel) ?_
                refine ⟨true, by decide +kernel, ?_⟩
                rw [if_pos rfl]
                refine bOp (bCB (bCons (bV rfl (bNil (bRepr dk gsh gdp gsz (fun _ z => nomatch z) ?_)))))
                refine bCB (bCons ?_)
                refine bLst (bCons (bV rfl (bCons (bV rfl (bCons (bV rfl (bCons (bV rfl (bNil ?_)))))))))
                refine ⟨by show 4 ≤ sizeLine; decide, fun pz hpz => ?_⟩
                have s22 : Same H21 (upd H21 pz (.lst [v, v, v, u])) := same_new hpz
                have dz : DV (upd H21 pz (.lst [v, v, v, u])) (.list [d, d, d, e]) (.ref pz) := .l upd_same (.c (DV.same s22 _ _ (DV.same s21 _ _ dv20)) (.c (DV.same s22 _ _ (DV.same s21 _ _ dv20)) (.c (DV.same s22 _ _ (DV.same s21 _ _ dv20)) (.c (DV.same s22 _ _ (DV.same s21 _ _ du20)) .n))))
                refine bNil (bRepr dz gsh gdp gsz (fun _ z => nomatch z) ?_)
                refine bEqD (d := .str (PyData.list [d, d, d, e]).shown) (e := .str (PyData.list [d, d, d, e]).shown) (.s _) (.s _) g2.2 g2.2 (by simp [PyData.depth]) (by simp [PyData.depth]) ?_
                rw [eqv_refl (.str _) (by simp [PyData.hasDict])]
                exact q _ (oo20.trans (.of (sThn s21 s22)))
end
end Toy

set_option maxRecDepth 100000
set_option maxHeartbeats 4000000
namespace Toy
open PySem PySem.Spec PyProof.Rows L2 Xv
local macro_rules | `(tactic| walk_at "side") => `(tactic| first
  | trivial | decide | (show (0 : Int) < _; decide) | omega | (left; constructor <;> omega) | (right; constructor <;> omega) | (refine ⟨?_, ?_, ?_⟩ <;> decide) | (refine ⟨?_, ?_⟩ <;> first | decide | omega))
local macro_rules | `(tactic| walk_at "rd1") => `(tactic| first
  | with_reducible refine bCons ?_
  | with_reducible refine bNil ?_
  | ((with_reducible refine bV (v := ?vv) ?hv ?_); (case hv => exact rfl))
  | with_reducible refine bC ?_
  | with_reducible refine bOp ?_
  | with_reducible refine bI0 ?_
  | ((with_reducible refine bI ?hc ?_); (case hc => walk_at "side"))
  | with_reducible refine bCB ?_
  | with_reducible refine bInt ?_
  | with_reducible refine bIntB ?_
  | with_reducible refine bTest ?_
  | with_reducible refine bB ?_
  | with_reducible refine bBl ?_
  | with_reducible refine bNot ?_
  | with_reducible refine bOr ?_
  | with_reducible refine bAnd ?_
  | with_reducible refine bIf ?_
  | with_reducible refine bTup ?_
  | with_reducible refine bLst ?_
  | with_reducible refine bUn ?_
  | with_reducible refine bSeq ?_
  | with_reducible refine bAsg ?_
  | with_reducible refine bName ?_
  | with_reducible refine bRet ?_
  | with_reducible refine bDrop ?_
  | with_reducible refine bIfS ?_
  | with_reducible refine bNext ?_
  | with_reducible refine bPar ?_
  | with_reducible refine bPar2 ?_
  | with_reducible refine bSub ?_
  | with_reducible refine bCall ?_
  | with_reducible refine bBM ?_)
local macro_rules | `(tactic| walk_at "rd") => `(tactic| repeat (walk_at "rd1"))

theorem sqL_same {K : PySem.W.Frag} {H H' : Hp} {a : Addr} {xs : List V} (s : Same H H') (h : SqL K H a xs) : SqL K H' a xs := by
  rcases h with h | h
  · rcases h with h | ⟨o, h⟩
    · exact .inl (.inl (s _ _ h))
    · exact .inl (.inr ⟨o, s _ _ h⟩)
  · exact .inr h
structure TxtL (mg : Str → Option Value) : Prop where
  len : mg "len" = none
  max : mg "max" = none
  min : mg "min" = none
  range : mg "range" = none
section
variable {P : Program} {w : World} {K : PySem.W.Frag} {mg : Str → Option Value} {base : Heap}
abbrev sLaw : Stmt := top 37
theorem scLaw : FnScope ["cells", "k"] ["cells"] (defScope sLaw) := ⟨rfl, rfl, rfl, by decide +kernel, rfl, by decide +kernel, by decide +kernel⟩
def spLaw (K : PySem.W.Frag) : Sp := fun vs H Q _ => ∃ (a : Addr) (ns : List Int), vs = [.ref a] ∧ SqL K H a (ns.map V.int) ∧ ∀ H', Q (.bl true) H'
theorem ok_law {f fr fb : Addr} {fd fdr fdb : FuncData} (F : Fun K "law" "law" sLaw f fd) (T : TxtL mg) (Dr : Df K mg "_law_right" fr fdr ["pouch"]) (Gr : FnG P w K mg base CX0 4 fr fdr ["pouch"] spRight)
    (Db : Df K mg "_law_bag" fb fdb ["cells", "k"]) (Gb : FnOk P w K mg base CX0 1 fb fdb ["cells", "k"] (spBag K)) : FnG P w K mg base CX0 5 f fd ["cells"] (spLaw K) := by
  refine okG F scLaw (fun vs H Q E h => ?_) (fun cdv A outer s H vs Q E hg hr h => ?_)
  · obtain ⟨a, ns, rfl, _⟩ := h
    rfl
  · obtain ⟨a, ns, rfl, hS, q⟩ := h
    refine ⟨_, (pss_cons (ps_for PassesOwn.never rfl (pi_range1 rfl T.range (pa_cons (pe_callB (call_max2 rfl) (by rfl) T.max PyProof.Rows.boot_max (pa_cons pe_int (pa_cons (pe_callB (call_min2 rfl) (by rfl) T.min PyProof.Rows.boot_min (pa_cons (pe_callB call_len (by rfl) T.len PySem.boot_len (pa_cons (pv 0) pa_nil)) (pa_cons pe_int pa_nil))) pa_nil))) pa_nil)) (pg_name (i := 1) scLaw.nd rfl (.inl rfl)) (pss_one (ps_if (pt_not (pt_val (pe_cf (Gr.callR hg hr Dr.b .nil) rfl Dr.m Dr.k (pa_cons (pe_call Gb (hr.mono (by decide)) rfl Db.m Db.k Db.b .nil pass0 (pa_cons (pv 0) (pa_cons (pv 1) pa_nil))) pa_nil)))) (pss_one (ps_ret pe_bl)) pss_nil))) (pss_one (ps_ret pe_bl))), ?_⟩
    walk_at "rd"
    refine ⟨.ref a, rfl, .ref a, ns.length, rfl, .inl ⟨_, hS, (by simp)⟩, ns.length, 6, rfl, 1, _, rfl, _, rfl, ?_⟩
    obtain ⟨m, hm⟩ : ∃ m : Int, m = if (if (6 : Int) < (ns.length : Int) then (6 : Int) else (ns.length : Int)) > 1 then (if (6 : Int) < (ns.length : Int) then (6 : Int) else (ns.length : Int)) else 1 := ⟨_, rfl⟩
    rw [← hm]
    have m1 : 1 ≤ m ∧ m ≤ 6 := by
      subst hm
      constructor <;> (split <;> split <;> omega)
    clear hm
    refine ⟨by omega, by omega, for_it (L2.walk_range (lo := 0)) (fun _ σ H' => Same H H' ∧ ∃ o, σ = [some (.ref a), o]) ⟨sId, _, rfl⟩ (fun _ _ _ _ _ => trivial) ?_ ?_⟩
    · rintro i x σ H1 H2 hi ⟨s1, o, rfl⟩ ⟨rfl, rfl⟩
      show tIfS _ _ _ _ _ _
      walk_at "rd"
      refine ⟨a, ns, _, rfl, sqL_same s1 hS, by omega, by omega, fun H3 p B => ?_⟩
      obtain ⟨s3, p0, dg, mx, ct, h1, h2, h3, h4, h5⟩ := B
      refine ⟨p, rfl, ⟨dg, mx, ct, h1, h2, h3, h4, h5⟩, fun H4 oo => ?_⟩
      walk_at "rd"
      refine ⟨fun b o e => ?_, _, rfl⟩
      have e1 := s1 _ _ e
      refine oo b o (fun z => ?_) (s3 _ _ e1)
      subst z
      rw [p0] at e1
      cases e1
    · rintro σ H1 ⟨s1, o, rfl⟩
      exact q H1
end
end Toy

set_option maxRecDepth 100000
set_option maxHeartbeats 4000000
namespace Toy
open PySem PySem.Spec PyProof.Rows L2 Xv
/-- an own exception class as the written part has it: its chain behind it, and its maker -/
def Lk (K : PySem.W.Frag) (C : Addr) (nm : Str) (bm : List Value) (newId : String) : Prop := ∃ q N bs sn sub ab col dd k0 k1 k2 k3 k5, K.lookup C = some (excClassObj nm q C N bs bm true sn sub ab col dd k0 k1 k2 k3 k5 newId)
section
variable {K : PySem.W.Frag} {C D : Addr} {nm nmD : Str} {bm bmD bmB : List Value} {newId newD : String}
theorem Lk.cls (l : Lk K C nm bm newId) : ∃ cd : ClassData, PySem.W.clsIn K C = some cd ∧ cd.mro = .ref C :: bm ∧ cd.hasDict = true := by
  obtain ⟨q, N, bs, sn, sub, ab, col, dd, k0, k1, k2, k3, k5, h⟩ := l
  cases e : PySem.W.clsIn K C with
  | none =>
    unfold PySem.W.clsIn at e
    rw [h] at e
    cases e
  | some cd =>
    unfold PySem.W.clsIn at e
    rw [h] at e
    cases e
    exact ⟨_, rfl, rfl, rfl⟩
theorem Lk.mro (l : Lk K C nm bm newId) (v : Value) : PySem.W.mroIn K C v = some ((Value.ref C :: bm).contains v) := by
  obtain ⟨cd, h1, h2, _⟩ := l.cls
  unfold PySem.W.mroIn
  rw [h1]
  show (if cd.mro.isEmpty = true then none else some (cd.mro.contains v)) = _
  rw [h2]
  rfl
theorem Lk.ty (l : Lk K C nm bm newId) : PySem.W.typeIn K (.ref C) = some (.type "type") := by
  obtain ⟨q, N, bs, sn, sub, ab, col, dd, k0, k1, k2, k3, k5, h⟩ := l
  show (K.lookup C).map (fun o => o.cls) = _
  rw [h]
  rfl
theorem Lk.hd (l : Lk K C nm bm newId) : PySem.W.hasDictIn K C = true := by
  obtain ⟨cd, h1, _, h3⟩ := l.cls
  unfold PySem.W.hasDictIn
  rw [h1]
  simp [h3]
theorem Lk.exc (l : Lk K C nm bm newId) (e : PySem.W.excTail bmB bm = true) : PySem.W.excInitIn K C bmB newId = true := by
  obtain ⟨q, N, bs, sn, sub, ab, col, dd, k0, k1, k2, k3, k5, h⟩ := l
  unfold PySem.W.excInitIn
  rw [h]
  simp [e]
theorem Lk.kitR (l : Lk K C nm bm newId) (d : Lk K D nmD bmD newD) : PySem.W.kitOne K (.ref C) (.ref D) = some ((Value.ref C :: bm).contains (.ref D)) := by
  unfold PySem.W.kitOne
  by_cases e : ((Value.ref C) == (Value.ref D)) = true
  · rw [if_pos e]
    have e' := beq_iff_eq.mp e
    rw [← e']
    simp
  · rw [if_neg e]
    obtain ⟨cd, h1, _⟩ := d.cls
    show (if ((PySem.W.clsIn K D).isSome && PySem.W.typeIn K (.ref D) == some (.type "type")) = true then PySem.W.mroIn K C (.ref D) else none) = _
    rw [h1, d.ty, l.mro]
    rfl
theorem Lk.kitT {T : String} (l : Lk K C nm bm newId) (m : PySem.W.kitMeta T = true) : PySem.W.kitOne K (.ref C) (.type T) = some ((Value.ref C :: bm).contains (.type T)) := by
  unfold PySem.W.kitOne
  have e : ((Value.ref C) == (Value.type T)) = false := rfl
  rw [e]
  show (if PySem.W.kitMeta T = true then PySem.W.mroIn K C (.type T) else none) = _
  rw [m, l.mro]
  rfl
theorem Lk.exm (l : Lk K C nm bm newId) (d : Lk K D nmD bmD newD) (hb : bmD.contains (Value.type "BaseException") = true) : PySem.W.exmOne K (.ref C) (.ref D) = some ((Value.ref C :: bm).contains (.ref D)) := by
  have hs : PySem.W.subIn K (.ref D) (.type "BaseException") = some true := by
    show PySem.W.mroIn K D (.type "BaseException") = _
    rw [d.mro]
    have : (Value.ref D :: bmD).contains (Value.type "BaseException") = true := by
      rw [List.contains_cons, hb]
      simp
    rw [this]
  obtain ⟨cd, h1, _⟩ := d.cls
  unfold PySem.W.exmOne
  rw [hs]
  show (if ((PySem.W.clsIn K D).isSome && PySem.W.typeIn K (.ref D) == some (.type "type")) = true then PySem.W.mroIn K C (.ref D) else none) = _
  rw [h1, d.ty, l.mro]
  rfl
theorem Lk.xc (l : Lk K C nm bm newId) (e : PySem.W.excTail bmB bm = true) (hb : bm.contains (Value.type "BaseException") = true) (ho : bm.contains (Value.type "object") = true)
    (sa : PySem.W.findIn K (.ref C) "__setattr__" = some (some (.builtin "object.__setattr__"))) (ga : PySem.W.findIn K (.ref C) "__getattribute__" = some (some (.builtin "BaseException.__getattribute__")))
    (gg : PySem.W.findIn K (.ref C) "__getattr__" = some none) (kC : PySem.W.keepIn K (.ref C) = true) (ca : PySem.W.findIn K (.ref C) "__class__" = some (some (.builtin "object.__class__"))) : XC K C bmB newId := by
  refine ⟨l.exc e, l.hd, sa, ga, gg, ?_, l.ty, kC, ca, ?_⟩
  · show PySem.W.mroIn K C _ = _
    rw [l.mro, List.contains_cons, hb]
    simp
  · rw [l.mro, List.contains_cons, ho]
    simp
end
section
variable {P : Program} {w : World} {K : PySem.W.Frag} {h : Heap} {mg : Str → Option Value}
abbrev sI0 : Stmt := inClass (top 2) 0
theorem scI0 : FnScope ["self", "given"] ["self", "given"] (defScope sI0) := ⟨rfl, rfl, rfl, by decide +kernel, rfl, by decide +kernel, by decide +kernel⟩
theorem ok_I0 {base : Heap} {C D fI : Addr} {fd : FuncData} (Fn : Fun K "__init__" "InvalidText.__init__" sI0 fI fd) (T : XC K C mroV "ValueError.__new__") (W : XB K D "ValueError.__init__") (hm : mg "BadValue" = some (.ref D)) (n0 : PySem.W.findIn K (.ref C) "given" = some none) :
    FnOk P w K mg base CX0 1 fI fd ["self", "given"] (spXI C "given") := by
  refine Fn.ok scI0 (fun vs H Q E h => ?_) (fun cdv A outer s H vs Q E hr h => ?_)
  · obtain ⟨a, v, rfl, _⟩ := h
    rfl
  · obtain ⟨a, v, rfl, ha, k⟩ := h
    refine ⟨_, pss_cons (ps_expr (pe_xinit (C := C) F.excBase_ValueError T W rfl hm (pa_cons (pv 0) (pa_cons pe_str pa_nil)))) (pss_one (ps_xset F.store_ValueError T n0 (pv 0) (pv 1))), ?_⟩
    exact ⟨_, rfl, a, _, rfl, by decide, ha, _, rfl, _, rfl, a, rfl, ha, k⟩
theorem mk0 (X : K.In h) (G : h.Ns mainGlobals mg) {D : Addr} (W : XB K D "ValueError.__init__") (hm : mg "BadValue" = some (.ref D)) {C fI : Addr} {q : Str} {N : Addr} {bs : List Value} {sn : List Str} {sub : List Value} {ab : Bool} {col : Option Bool} {dd : Option Addr} {m0 m1 m2 m3 m5 : Option Value} {oc : Value} {od an : Option Addr} {osl : Array (Option Value)} {kV doc pm cdv ct : Value}
    (aC : PySem.W.nsIn K mainGlobals "InvalidText" = some (some (.ref C))) (xL : K.lookup C = some (excClassObj "InvalidText" q C N bs (.ref D :: mroV) true sn sub ab col dd m0 m1 m2 m3 m5 "ValueError.__new__"))
    (sa : PySem.W.findIn K (.ref C) "__setattr__" = some (some (.builtin "object.__setattr__"))) (ga : PySem.W.findIn K (.ref C) "__getattribute__" = some (some (.builtin "BaseException.__getattribute__"))) (gg : PySem.W.findIn K (.ref C) "__getattr__" = some none) (kC : PySem.W.keepIn K (.ref C) = true) (ca : PySem.W.findIn K (.ref C) "__class__" = some (some (.builtin "object.__class__"))) (n0 : PySem.W.findIn K (.ref C) "given" = some none)
    (ini : PySem.W.findIn K (.ref C) "__init__" = some (some (.ref fI))) (ty : PySem.W.typeIn K (.ref fI) = some (.type "function"))
    (l1 : K.lookup fI = some ⟨oc, od, .func (PySem.W.fnOf "__init__" "InvalidText.__init__" (defArgs sI0) (defBody sI0) (defScope sI0) .none kV doc pm an cdv ct), osl⟩) (c1 : PySem.W.codeIn K cdv "InvalidText.__init__" = true) (k1 : PySem.W.keepIn K (.ref fI) = true) :
    ∃ C : Addr, mg "InvalidText" = some (.ref C) ∧ Lk K C "InvalidText" (.ref D :: mroV) "ValueError.__new__" ∧ ∀ base : Heap, Cl P w K mg base C "given" := by
  have l : Lk K C "InvalidText" (.ref D :: mroV) "ValueError.__new__" := ⟨q, N, bs, sn, sub, ab, col, dd, m0, m1, m2, m3, m5, xL⟩
  have T := l.xc (bmB := mroV) (by rfl) (by rfl) (by rfl) sa ga gg kC ca
  have Fn := fun_mk (st := sI0) l1 c1 k1
  exact ⟨C, PySem.W.mg_of X G aC, l, fun base => ⟨⟨_, _, _, _, fI, _, F.excBase_ValueError, T, ⟨ini, ty⟩, ok_I0 Fn T W hm n0, kbn_of Fn (n := 2) (ks := []) (g := fun us _ => us) (fun _ _ _ _ _ _ us ws h1 h2 => match us, h1, ws, h2 with | [_, _], _, [], _ => rfl) (fun r _ => r), kbn_of Fn (n := 1) (ks := ["given"]) (g := fun us ws => us ++ ws) (fun _ _ _ _ _ _ us ws h1 h2 => match us, h1, ws, h2 with | [_], _, [_], _ => rfl) (fun r s => r.append s)⟩, n0⟩⟩
abbrev sI1 : Stmt := inClass (top 3) 0
theorem scI1 : FnScope ["self", "given"] ["self", "given"] (defScope sI1) := ⟨rfl, rfl, rfl, by decide +kernel, rfl, by decide +kernel, by decide +kernel⟩
theorem ok_I1 {base : Heap} {C D fI : Addr} {fd : FuncData} (Fn : Fun K "__init__" "InvalidCases.__init__" sI1 fI fd) (T : XC K C mroV "ValueError.__new__") (W : XB K D "ValueError.__init__") (hm : mg "BadValue" = some (.ref D)) (n0 : PySem.W.findIn K (.ref C) "given" = some none) :
    FnOk P w K mg base CX0 1 fI fd ["self", "given"] (spXI C "given") := by
  refine Fn.ok scI1 (fun vs H Q E h => ?_) (fun cdv A outer s H vs Q E hr h => ?_)
  · obtain ⟨a, v, rfl, _⟩ := h
    rfl
  · obtain ⟨a, v, rfl, ha, k⟩ := h
    refine ⟨_, pss_cons (ps_expr (pe_xinit (C := C) F.excBase_ValueError T W rfl hm (pa_cons (pv 0) (pa_cons pe_str pa_nil)))) (pss_one (ps_xset F.store_ValueError T n0 (pv 0) (pv 1))), ?_⟩
    exact ⟨_, rfl, a, _, rfl, by decide, ha, _, rfl, _, rfl, a, rfl, ha, k⟩
theorem mk1 (X : K.In h) (G : h.Ns mainGlobals mg) {D : Addr} (W : XB K D "ValueError.__init__") (hm : mg "BadValue" = some (.ref D)) {C fI : Addr} {q : Str} {N : Addr} {bs : List Value} {sn : List Str} {sub : List Value} {ab : Bool} {col : Option Bool} {dd : Option Addr} {m0 m1 m2 m3 m5 : Option Value} {oc : Value} {od an : Option Addr} {osl : Array (Option Value)} {kV doc pm cdv ct : Value}
    (aC : PySem.W.nsIn K mainGlobals "InvalidCases" = some (some (.ref C))) (xL : K.lookup C = some (excClassObj "InvalidCases" q C N bs (.ref D :: mroV) true sn sub ab col dd m0 m1 m2 m3 m5 "ValueError.__new__"))
    (sa : PySem.W.findIn K (.ref C) "__setattr__" = some (some (.builtin "object.__setattr__"))) (ga : PySem.W.findIn K (.ref C) "__getattribute__" = some (some (.builtin "BaseException.__getattribute__"))) (gg : PySem.W.findIn K (.ref C) "__getattr__" = some none) (kC : PySem.W.keepIn K (.ref C) = true) (ca : PySem.W.findIn K (.ref C) "__class__" = some (some (.builtin "object.__class__"))) (n0 : PySem.W.findIn K (.ref C) "given" = some none)
    (ini : PySem.W.findIn K (.ref C) "__init__" = some (some (.ref fI))) (ty : PySem.W.typeIn K (.ref fI) = some (.type "function"))
    (l1 : K.lookup fI = some ⟨oc, od, .func (PySem.W.fnOf "__init__" "InvalidCases.__init__" (defArgs sI1) (defBody sI1) (defScope sI1) .none kV doc pm an cdv ct), osl⟩) (c1 : PySem.W.codeIn K cdv "InvalidCases.__init__" = true) (k1 : PySem.W.keepIn K (.ref fI) = true) :
    ∃ C : Addr, mg "InvalidCases" = some (.ref C) ∧ Lk K C "InvalidCases" (.ref D :: mroV) "ValueError.__new__" ∧ ∀ base : Heap, Cl P w K mg base C "given" := by
  have l : Lk K C "InvalidCases" (.ref D :: mroV) "ValueError.__new__" := ⟨q, N, bs, sn, sub, ab, col, dd, m0, m1, m2, m3, m5, xL⟩
  have T := l.xc (bmB := mroV) (by rfl) (by rfl) (by rfl) sa ga gg kC ca
  have Fn := fun_mk (st := sI1) l1 c1 k1
  exact ⟨C, PySem.W.mg_of X G aC, l, fun base => ⟨⟨_, _, _, _, fI, _, F.excBase_ValueError, T, ⟨ini, ty⟩, ok_I1 Fn T W hm n0, kbn_of Fn (n := 2) (ks := []) (g := fun us _ => us) (fun _ _ _ _ _ _ us ws h1 h2 => match us, h1, ws, h2 with | [_, _], _, [], _ => rfl) (fun r _ => r), kbn_of Fn (n := 1) (ks := ["given"]) (g := fun us ws => us ++ ws) (fun _ _ _ _ _ _ us ws h1 h2 => match us, h1, ws, h2 with | [_], _, [_], _ => rfl) (fun r s => r.append s)⟩, n0⟩⟩
abbrev sI2 : Stmt := inClass (top 4) 0
theorem scI2 : FnScope ["self", "given"] ["self", "given"] (defScope sI2) := ⟨rfl, rfl, rfl, by decide +kernel, rfl, by decide +kernel, by decide +kernel⟩
theorem ok_I2 {base : Heap} {C D fI : Addr} {fd : FuncData} (Fn : Fun K "__init__" "InvalidLot.__init__" sI2 fI fd) (T : XC K C mroV "ValueError.__new__") (W : XB K D "ValueError.__init__") (hm : mg "BadValue" = some (.ref D)) (n0 : PySem.W.findIn K (.ref C) "given" = some none) :
    FnOk P w K mg base CX0 1 fI fd ["self", "given"] (spXI C "given") := by
  refine Fn.ok scI2 (fun vs H Q E h => ?_) (fun cdv A outer s H vs Q E hr h => ?_)
  · obtain ⟨a, v, rfl, _⟩ := h
    rfl
  · obtain ⟨a, v, rfl, ha, k⟩ := h
    refine ⟨_, pss_cons (ps_expr (pe_xinit (C := C) F.excBase_ValueError T W rfl hm (pa_cons (pv 0) (pa_cons pe_str pa_nil)))) (pss_one (ps_xset F.store_ValueError T n0 (pv 0) (pv 1))), ?_⟩
    exact ⟨_, rfl, a, _, rfl, by decide, ha, _, rfl, _, rfl, a, rfl, ha, k⟩
theorem mk2 (X : K.In h) (G : h.Ns mainGlobals mg) {D : Addr} (W : XB K D "ValueError.__init__") (hm : mg "BadValue" = some (.ref D)) {C fI : Addr} {q : Str} {N : Addr} {bs : List Value} {sn : List Str} {sub : List Value} {ab : Bool} {col : Option Bool} {dd : Option Addr} {m0 m1 m2 m3 m5 : Option Value} {oc : Value} {od an : Option Addr} {osl : Array (Option Value)} {kV doc pm cdv ct : Value}
    (aC : PySem.W.nsIn K mainGlobals "InvalidLot" = some (some (.ref C))) (xL : K.lookup C = some (excClassObj "InvalidLot" q C N bs (.ref D :: mroV) true sn sub ab col dd m0 m1 m2 m3 m5 "ValueError.__new__"))
    (sa : PySem.W.findIn K (.ref C) "__setattr__" = some (some (.builtin "object.__setattr__"))) (ga : PySem.W.findIn K (.ref C) "__getattribute__" = some (some (.builtin "BaseException.__getattribute__"))) (gg : PySem.W.findIn K (.ref C) "__getattr__" = some none) (kC : PySem.W.keepIn K (.ref C) = true) (ca : PySem.W.findIn K (.ref C) "__class__" = some (some (.builtin "object.__class__"))) (n0 : PySem.W.findIn K (.ref C) "given" = some none)
    (ini : PySem.W.findIn K (.ref C) "__init__" = some (some (.ref fI))) (ty : PySem.W.typeIn K (.ref fI) = some (.type "function"))
    (l1 : K.lookup fI = some ⟨oc, od, .func (PySem.W.fnOf "__init__" "InvalidLot.__init__" (defArgs sI2) (defBody sI2) (defScope sI2) .none kV doc pm an cdv ct), osl⟩) (c1 : PySem.W.codeIn K cdv "InvalidLot.__init__" = true) (k1 : PySem.W.keepIn K (.ref fI) = true) :
    ∃ C : Addr, mg "InvalidLot" = some (.ref C) ∧ Lk K C "InvalidLot" (.ref D :: mroV) "ValueError.__new__" ∧ ∀ base : Heap, Cl P w K mg base C "given" := by
  have l : Lk K C "InvalidLot" (.ref D :: mroV) "ValueError.__new__" := ⟨q, N, bs, sn, sub, ab, col, dd, m0, m1, m2, m3, m5, xL⟩
  have T := l.xc (bmB := mroV) (by rfl) (by rfl) (by rfl) sa ga gg kC ca
  have Fn := fun_mk (st := sI2) l1 c1 k1
  exact ⟨C, PySem.W.mg_of X G aC, l, fun base => ⟨⟨_, _, _, _, fI, _, F.excBase_ValueError, T, ⟨ini, ty⟩, ok_I2 Fn T W hm n0, kbn_of Fn (n := 2) (ks := []) (g := fun us _ => us) (fun _ _ _ _ _ _ us ws h1 h2 => match us, h1, ws, h2 with | [_, _], _, [], _ => rfl) (fun r _ => r), kbn_of Fn (n := 1) (ks := ["given"]) (g := fun us ws => us ++ ws) (fun _ _ _ _ _ _ us ws h1 h2 => match us, h1, ws, h2 with | [_], _, [_], _ => rfl) (fun r s => r.append s)⟩, n0⟩⟩
abbrev sI3 : Stmt := inClass (top 5) 0
theorem scI3 : FnScope ["self", "given"] ["self", "given"] (defScope sI3) := ⟨rfl, rfl, rfl, by decide +kernel, rfl, by decide +kernel, by decide +kernel⟩
theorem ok_I3 {base : Heap} {C D fI : Addr} {fd : FuncData} (Fn : Fun K "__init__" "InvalidSaying.__init__" sI3 fI fd) (T : XC K C mroV "ValueError.__new__") (W : XB K D "ValueError.__init__") (hm : mg "BadValue" = some (.ref D)) (n0 : PySem.W.findIn K (.ref C) "given" = some none) :
    FnOk P w K mg base CX0 1 fI fd ["self", "given"] (spXI C "given") := by
  refine Fn.ok scI3 (fun vs H Q E h => ?_) (fun cdv A outer s H vs Q E hr h => ?_)
  · obtain ⟨a, v, rfl, _⟩ := h
    rfl
  · obtain ⟨a, v, rfl, ha, k⟩ := h
    refine ⟨_, pss_cons (ps_expr (pe_xinit (C := C) F.excBase_ValueError T W rfl hm (pa_cons (pv 0) (pa_cons pe_str pa_nil)))) (pss_one (ps_xset F.store_ValueError T n0 (pv 0) (pv 1))), ?_⟩
    exact ⟨_, rfl, a, _, rfl, by decide, ha, _, rfl, _, rfl, a, rfl, ha, k⟩
theorem mk3 (X : K.In h) (G : h.Ns mainGlobals mg) {D : Addr} (W : XB K D "ValueError.__init__") (hm : mg "BadValue" = some (.ref D)) {C fI : Addr} {q : Str} {N : Addr} {bs : List Value} {sn : List Str} {sub : List Value} {ab : Bool} {col : Option Bool} {dd : Option Addr} {m0 m1 m2 m3 m5 : Option Value} {oc : Value} {od an : Option Addr} {osl : Array (Option Value)} {kV doc pm cdv ct : Value}
    (aC : PySem.W.nsIn K mainGlobals "InvalidSaying" = some (some (.ref C))) (xL : K.lookup C = some (excClassObj "InvalidSaying" q C N bs (.ref D :: mroV) true sn sub ab col dd m0 m1 m2 m3 m5 "ValueError.__new__"))
    (sa : PySem.W.findIn K (.ref C) "__setattr__" = some (some (.builtin "object.__setattr__"))) (ga : PySem.W.findIn K (.ref C) "__getattribute__" = some (some (.builtin "BaseException.__getattribute__"))) (gg : PySem.W.findIn K (.ref C) "__getattr__" = some none) (kC : PySem.W.keepIn K (.ref C) = true) (ca : PySem.W.findIn K (.ref C) "__class__" = some (some (.builtin "object.__class__"))) (n0 : PySem.W.findIn K (.ref C) "given" = some none)
    (ini : PySem.W.findIn K (.ref C) "__init__" = some (some (.ref fI))) (ty : PySem.W.typeIn K (.ref fI) = some (.type "function"))
    (l1 : K.lookup fI = some ⟨oc, od, .func (PySem.W.fnOf "__init__" "InvalidSaying.__init__" (defArgs sI3) (defBody sI3) (defScope sI3) .none kV doc pm an cdv ct), osl⟩) (c1 : PySem.W.codeIn K cdv "InvalidSaying.__init__" = true) (k1 : PySem.W.keepIn K (.ref fI) = true) :
    ∃ C : Addr, mg "InvalidSaying" = some (.ref C) ∧ Lk K C "InvalidSaying" (.ref D :: mroV) "ValueError.__new__" ∧ ∀ base : Heap, Cl P w K mg base C "given" := by
  have l : Lk K C "InvalidSaying" (.ref D :: mroV) "ValueError.__new__" := ⟨q, N, bs, sn, sub, ab, col, dd, m0, m1, m2, m3, m5, xL⟩
  have T := l.xc (bmB := mroV) (by rfl) (by rfl) (by rfl) sa ga gg kC ca
  have Fn := fun_mk (st := sI3) l1 c1 k1
  exact ⟨C, PySem.W.mg_of X G aC, l, fun base => ⟨⟨_, _, _, _, fI, _, F.excBase_ValueError, T, ⟨ini, ty⟩, ok_I3 Fn T W hm n0, kbn_of Fn (n := 2) (ks := []) (g := fun us _ => us) (fun _ _ _ _ _ _ us ws h1 h2 => match us, h1, ws, h2 with | [_, _], _, [], _ => rfl) (fun r _ => r), kbn_of Fn (n := 1) (ks := ["given"]) (g := fun us ws => us ++ ws) (fun _ _ _ _ _ _ us ws h1 h2 => match us, h1, ws, h2 with | [_], _, [_], _ => rfl) (fun r s => r.append s)⟩, n0⟩⟩
abbrev sI4 : Stmt := inClass (top 6) 0
theorem scI4 : FnScope ["self", "given"] ["self", "given"] (defScope sI4) := ⟨rfl, rfl, rfl, by decide +kernel, rfl, by decide +kernel, by decide +kernel⟩
theorem ok_I4 {base : Heap} {C D fI : Addr} {fd : FuncData} (Fn : Fun K "__init__" "InvalidNumber.__init__" sI4 fI fd) (T : XC K C mroV "ValueError.__new__") (W : XB K D "ValueError.__init__") (hm : mg "BadValue" = some (.ref D)) (n0 : PySem.W.findIn K (.ref C) "given" = some none) :
    FnOk P w K mg base CX0 1 fI fd ["self", "given"] (spXI C "given") := by
  refine Fn.ok scI4 (fun vs H Q E h => ?_) (fun cdv A outer s H vs Q E hr h => ?_)
  · obtain ⟨a, v, rfl, _⟩ := h
    rfl
  · obtain ⟨a, v, rfl, ha, k⟩ := h
    refine ⟨_, pss_cons (ps_expr (pe_xinit (C := C) F.excBase_ValueError T W rfl hm (pa_cons (pv 0) (pa_cons pe_str pa_nil)))) (pss_one (ps_xset F.store_ValueError T n0 (pv 0) (pv 1))), ?_⟩
    exact ⟨_, rfl, a, _, rfl, by decide, ha, _, rfl, _, rfl, a, rfl, ha, k⟩
theorem mk4 (X : K.In h) (G : h.Ns mainGlobals mg) {D : Addr} (W : XB K D "ValueError.__init__") (hm : mg "BadValue" = some (.ref D)) {C fI : Addr} {q : Str} {N : Addr} {bs : List Value} {sn : List Str} {sub : List Value} {ab : Bool} {col : Option Bool} {dd : Option Addr} {m0 m1 m2 m3 m5 : Option Value} {oc : Value} {od an : Option Addr} {osl : Array (Option Value)} {kV doc pm cdv ct : Value}
    (aC : PySem.W.nsIn K mainGlobals "InvalidNumber" = some (some (.ref C))) (xL : K.lookup C = some (excClassObj "InvalidNumber" q C N bs (.ref D :: mroV) true sn sub ab col dd m0 m1 m2 m3 m5 "ValueError.__new__"))
    (sa : PySem.W.findIn K (.ref C) "__setattr__" = some (some (.builtin "object.__setattr__"))) (ga : PySem.W.findIn K (.ref C) "__getattribute__" = some (some (.builtin "BaseException.__getattribute__"))) (gg : PySem.W.findIn K (.ref C) "__getattr__" = some none) (kC : PySem.W.keepIn K (.ref C) = true) (ca : PySem.W.findIn K (.ref C) "__class__" = some (some (.builtin "object.__class__"))) (n0 : PySem.W.findIn K (.ref C) "given" = some none)
    (ini : PySem.W.findIn K (.ref C) "__init__" = some (some (.ref fI))) (ty : PySem.W.typeIn K (.ref fI) = some (.type "function"))
    (l1 : K.lookup fI = some ⟨oc, od, .func (PySem.W.fnOf "__init__" "InvalidNumber.__init__" (defArgs sI4) (defBody sI4) (defScope sI4) .none kV doc pm an cdv ct), osl⟩) (c1 : PySem.W.codeIn K cdv "InvalidNumber.__init__" = true) (k1 : PySem.W.keepIn K (.ref fI) = true) :
    ∃ C : Addr, mg "InvalidNumber" = some (.ref C) ∧ Lk K C "InvalidNumber" (.ref D :: mroV) "ValueError.__new__" ∧ ∀ base : Heap, Cl P w K mg base C "given" := by
  have l : Lk K C "InvalidNumber" (.ref D :: mroV) "ValueError.__new__" := ⟨q, N, bs, sn, sub, ab, col, dd, m0, m1, m2, m3, m5, xL⟩
  have T := l.xc (bmB := mroV) (by rfl) (by rfl) (by rfl) sa ga gg kC ca
  have Fn := fun_mk (st := sI4) l1 c1 k1
  exact ⟨C, PySem.W.mg_of X G aC, l, fun base => ⟨⟨_, _, _, _, fI, _, F.excBase_ValueError, T, ⟨ini, ty⟩, ok_I4 Fn T W hm n0, kbn_of Fn (n := 2) (ks := []) (g := fun us _ => us) (fun _ _ _ _ _ _ us ws h1 h2 => match us, h1, ws, h2 with | [_, _], _, [], _ => rfl) (fun r _ => r), kbn_of Fn (n := 1) (ks := ["given"]) (g := fun us ws => us ++ ws) (fun _ _ _ _ _ _ us ws h1 h2 => match us, h1, ws, h2 with | [_], _, [_], _ => rfl) (fun r s => r.append s)⟩, n0⟩⟩
abbrev sI5 : Stmt := inClass (top 7) 0
theorem scI5 : FnScope ["self", "given"] ["self", "given"] (defScope sI5) := ⟨rfl, rfl, rfl, by decide +kernel, rfl, by decide +kernel, by decide +kernel⟩
theorem ok_I5 {base : Heap} {C D fI : Addr} {fd : FuncData} (Fn : Fun K "__init__" "InvalidOrder.__init__" sI5 fI fd) (T : XC K C mroV "ValueError.__new__") (W : XB K D "ValueError.__init__") (hm : mg "BadValue" = some (.ref D)) (n0 : PySem.W.findIn K (.ref C) "given" = some none) :
    FnOk P w K mg base CX0 1 fI fd ["self", "given"] (spXI C "given") := by
  refine Fn.ok scI5 (fun vs H Q E h => ?_) (fun cdv A outer s H vs Q E hr h => ?_)
  · obtain ⟨a, v, rfl, _⟩ := h
    rfl
  · obtain ⟨a, v, rfl, ha, k⟩ := h
    refine ⟨_, pss_cons (ps_expr (pe_xinit (C := C) F.excBase_ValueError T W rfl hm (pa_cons (pv 0) (pa_cons pe_str pa_nil)))) (pss_one (ps_xset F.store_ValueError T n0 (pv 0) (pv 1))), ?_⟩
    exact ⟨_, rfl, a, _, rfl, by decide, ha, _, rfl, _, rfl, a, rfl, ha, k⟩
theorem mk5 (X : K.In h) (G : h.Ns mainGlobals mg) {D : Addr} (W : XB K D "ValueError.__init__") (hm : mg "BadValue" = some (.ref D)) {C fI : Addr} {q : Str} {N : Addr} {bs : List Value} {sn : List Str} {sub : List Value} {ab : Bool} {col : Option Bool} {dd : Option Addr} {m0 m1 m2 m3 m5 : Option Value} {oc : Value} {od an : Option Addr} {osl : Array (Option Value)} {kV doc pm cdv ct : Value}
    (aC : PySem.W.nsIn K mainGlobals "InvalidOrder" = some (some (.ref C))) (xL : K.lookup C = some (excClassObj "InvalidOrder" q C N bs (.ref D :: mroV) true sn sub ab col dd m0 m1 m2 m3 m5 "ValueError.__new__"))
    (sa : PySem.W.findIn K (.ref C) "__setattr__" = some (some (.builtin "object.__setattr__"))) (ga : PySem.W.findIn K (.ref C) "__getattribute__" = some (some (.builtin "BaseException.__getattribute__"))) (gg : PySem.W.findIn K (.ref C) "__getattr__" = some none) (kC : PySem.W.keepIn K (.ref C) = true) (ca : PySem.W.findIn K (.ref C) "__class__" = some (some (.builtin "object.__class__"))) (n0 : PySem.W.findIn K (.ref C) "given" = some none)
    (ini : PySem.W.findIn K (.ref C) "__init__" = some (some (.ref fI))) (ty : PySem.W.typeIn K (.ref fI) = some (.type "function"))
    (l1 : K.lookup fI = some ⟨oc, od, .func (PySem.W.fnOf "__init__" "InvalidOrder.__init__" (defArgs sI5) (defBody sI5) (defScope sI5) .none kV doc pm an cdv ct), osl⟩) (c1 : PySem.W.codeIn K cdv "InvalidOrder.__init__" = true) (k1 : PySem.W.keepIn K (.ref fI) = true) :
    ∃ C : Addr, mg "InvalidOrder" = some (.ref C) ∧ Lk K C "InvalidOrder" (.ref D :: mroV) "ValueError.__new__" ∧ ∀ base : Heap, Cl P w K mg base C "given" := by
  have l : Lk K C "InvalidOrder" (.ref D :: mroV) "ValueError.__new__" := ⟨q, N, bs, sn, sub, ab, col, dd, m0, m1, m2, m3, m5, xL⟩
  have T := l.xc (bmB := mroV) (by rfl) (by rfl) (by rfl) sa ga gg kC ca
  have Fn := fun_mk (st := sI5) l1 c1 k1
  exact ⟨C, PySem.W.mg_of X G aC, l, fun base => ⟨⟨_, _, _, _, fI, _, F.excBase_ValueError, T, ⟨ini, ty⟩, ok_I5 Fn T W hm n0, kbn_of Fn (n := 2) (ks := []) (g := fun us _ => us) (fun _ _ _ _ _ _ us ws h1 h2 => match us, h1, ws, h2 with | [_, _], _, [], _ => rfl) (fun r _ => r), kbn_of Fn (n := 1) (ks := ["given"]) (g := fun us ws => us ++ ws) (fun _ _ _ _ _ _ us ws h1 h2 => match us, h1, ws, h2 with | [_], _, [_], _ => rfl) (fun r s => r.append s)⟩, n0⟩⟩
abbrev sI6 : Stmt := inClass (top 8) 0
theorem scI6 : FnScope ["self", "given"] ["self", "given"] (defScope sI6) := ⟨rfl, rfl, rfl, by decide +kernel, rfl, by decide +kernel, by decide +kernel⟩
theorem ok_I6 {base : Heap} {C D fI : Addr} {fd : FuncData} (Fn : Fun K "__init__" "InvalidName.__init__" sI6 fI fd) (T : XC K C mroV "ValueError.__new__") (W : XB K D "ValueError.__init__") (hm : mg "BadValue" = some (.ref D)) (n0 : PySem.W.findIn K (.ref C) "given" = some none) :
    FnOk P w K mg base CX0 1 fI fd ["self", "given"] (spXI C "given") := by
  refine Fn.ok scI6 (fun vs H Q E h => ?_) (fun cdv A outer s H vs Q E hr h => ?_)
  · obtain ⟨a, v, rfl, _⟩ := h
    rfl
  · obtain ⟨a, v, rfl, ha, k⟩ := h
    refine ⟨_, pss_cons (ps_expr (pe_xinit (C := C) F.excBase_ValueError T W rfl hm (pa_cons (pv 0) (pa_cons pe_str pa_nil)))) (pss_one (ps_xset F.store_ValueError T n0 (pv 0) (pv 1))), ?_⟩
    exact ⟨_, rfl, a, _, rfl, by decide, ha, _, rfl, _, rfl, a, rfl, ha, k⟩
theorem mk6 (X : K.In h) (G : h.Ns mainGlobals mg) {D : Addr} (W : XB K D "ValueError.__init__") (hm : mg "BadValue" = some (.ref D)) {C fI : Addr} {q : Str} {N : Addr} {bs : List Value} {sn : List Str} {sub : List Value} {ab : Bool} {col : Option Bool} {dd : Option Addr} {m0 m1 m2 m3 m5 : Option Value} {oc : Value} {od an : Option Addr} {osl : Array (Option Value)} {kV doc pm cdv ct : Value}
    (aC : PySem.W.nsIn K mainGlobals "InvalidName" = some (some (.ref C))) (xL : K.lookup C = some (excClassObj "InvalidName" q C N bs (.ref D :: mroV) true sn sub ab col dd m0 m1 m2 m3 m5 "ValueError.__new__"))
    (sa : PySem.W.findIn K (.ref C) "__setattr__" = some (some (.builtin "object.__setattr__"))) (ga : PySem.W.findIn K (.ref C) "__getattribute__" = some (some (.builtin "BaseException.__getattribute__"))) (gg : PySem.W.findIn K (.ref C) "__getattr__" = some none) (kC : PySem.W.keepIn K (.ref C) = true) (ca : PySem.W.findIn K (.ref C) "__class__" = some (some (.builtin "object.__class__"))) (n0 : PySem.W.findIn K (.ref C) "given" = some none)
    (ini : PySem.W.findIn K (.ref C) "__init__" = some (some (.ref fI))) (ty : PySem.W.typeIn K (.ref fI) = some (.type "function"))
    (l1 : K.lookup fI = some ⟨oc, od, .func (PySem.W.fnOf "__init__" "InvalidName.__init__" (defArgs sI6) (defBody sI6) (defScope sI6) .none kV doc pm an cdv ct), osl⟩) (c1 : PySem.W.codeIn K cdv "InvalidName.__init__" = true) (k1 : PySem.W.keepIn K (.ref fI) = true) :
    ∃ C : Addr, mg "InvalidName" = some (.ref C) ∧ Lk K C "InvalidName" (.ref D :: mroV) "ValueError.__new__" ∧ ∀ base : Heap, Cl P w K mg base C "given" := by
  have l : Lk K C "InvalidName" (.ref D :: mroV) "ValueError.__new__" := ⟨q, N, bs, sn, sub, ab, col, dd, m0, m1, m2, m3, m5, xL⟩
  have T := l.xc (bmB := mroV) (by rfl) (by rfl) (by rfl) sa ga gg kC ca
  have Fn := fun_mk (st := sI6) l1 c1 k1
  exact ⟨C, PySem.W.mg_of X G aC, l, fun base => ⟨⟨_, _, _, _, fI, _, F.excBase_ValueError, T, ⟨ini, ty⟩, ok_I6 Fn T W hm n0, kbn_of Fn (n := 2) (ks := []) (g := fun us _ => us) (fun _ _ _ _ _ _ us ws h1 h2 => match us, h1, ws, h2 with | [_, _], _, [], _ => rfl) (fun r _ => r), kbn_of Fn (n := 1) (ks := ["given"]) (g := fun us ws => us ++ ws) (fun _ _ _ _ _ _ us ws h1 h2 => match us, h1, ws, h2 with | [_], _, [_], _ => rfl) (fun r s => r.append s)⟩, n0⟩⟩
abbrev sI7 : Stmt := inClass (top 9) 0
theorem scI7 : FnScope ["self", "given"] ["self", "given"] (defScope sI7) := ⟨rfl, rfl, rfl, by decide +kernel, rfl, by decide +kernel, by decide +kernel⟩
theorem ok_I7 {base : Heap} {C D fI : Addr} {fd : FuncData} (Fn : Fun K "__init__" "InvalidIndex.__init__" sI7 fI fd) (T : XC K C mroV "ValueError.__new__") (W : XB K D "ValueError.__init__") (hm : mg "BadValue" = some (.ref D)) (n0 : PySem.W.findIn K (.ref C) "given" = some none) :
    FnOk P w K mg base CX0 1 fI fd ["self", "given"] (spXI C "given") := by
  refine Fn.ok scI7 (fun vs H Q E h => ?_) (fun cdv A outer s H vs Q E hr h => ?_)
  · obtain ⟨a, v, rfl, _⟩ := h
    rfl
  · obtain ⟨a, v, rfl, ha, k⟩ := h
    refine ⟨_, pss_cons (ps_expr (pe_xinit (C := C) F.excBase_ValueError T W rfl hm (pa_cons (pv 0) (pa_cons pe_str pa_nil)))) (pss_one (ps_xset F.store_ValueError T n0 (pv 0) (pv 1))), ?_⟩
    exact ⟨_, rfl, a, _, rfl, by decide, ha, _, rfl, _, rfl, a, rfl, ha, k⟩
theorem mk7 (X : K.In h) (G : h.Ns mainGlobals mg) {D : Addr} (W : XB K D "ValueError.__init__") (hm : mg "BadValue" = some (.ref D)) {C fI : Addr} {q : Str} {N : Addr} {bs : List Value} {sn : List Str} {sub : List Value} {ab : Bool} {col : Option Bool} {dd : Option Addr} {m0 m1 m2 m3 m5 : Option Value} {oc : Value} {od an : Option Addr} {osl : Array (Option Value)} {kV doc pm cdv ct : Value}
    (aC : PySem.W.nsIn K mainGlobals "InvalidIndex" = some (some (.ref C))) (xL : K.lookup C = some (excClassObj "InvalidIndex" q C N bs (.ref D :: mroV) true sn sub ab col dd m0 m1 m2 m3 m5 "ValueError.__new__"))
    (sa : PySem.W.findIn K (.ref C) "__setattr__" = some (some (.builtin "object.__setattr__"))) (ga : PySem.W.findIn K (.ref C) "__getattribute__" = some (some (.builtin "BaseException.__getattribute__"))) (gg : PySem.W.findIn K (.ref C) "__getattr__" = some none) (kC : PySem.W.keepIn K (.ref C) = true) (ca : PySem.W.findIn K (.ref C) "__class__" = some (some (.builtin "object.__class__"))) (n0 : PySem.W.findIn K (.ref C) "given" = some none)
    (ini : PySem.W.findIn K (.ref C) "__init__" = some (some (.ref fI))) (ty : PySem.W.typeIn K (.ref fI) = some (.type "function"))
    (l1 : K.lookup fI = some ⟨oc, od, .func (PySem.W.fnOf "__init__" "InvalidIndex.__init__" (defArgs sI7) (defBody sI7) (defScope sI7) .none kV doc pm an cdv ct), osl⟩) (c1 : PySem.W.codeIn K cdv "InvalidIndex.__init__" = true) (k1 : PySem.W.keepIn K (.ref fI) = true) :
    ∃ C : Addr, mg "InvalidIndex" = some (.ref C) ∧ Lk K C "InvalidIndex" (.ref D :: mroV) "ValueError.__new__" ∧ ∀ base : Heap, Cl P w K mg base C "given" := by
  have l : Lk K C "InvalidIndex" (.ref D :: mroV) "ValueError.__new__" := ⟨q, N, bs, sn, sub, ab, col, dd, m0, m1, m2, m3, m5, xL⟩
  have T := l.xc (bmB := mroV) (by rfl) (by rfl) (by rfl) sa ga gg kC ca
  have Fn := fun_mk (st := sI7) l1 c1 k1
  exact ⟨C, PySem.W.mg_of X G aC, l, fun base => ⟨⟨_, _, _, _, fI, _, F.excBase_ValueError, T, ⟨ini, ty⟩, ok_I7 Fn T W hm n0, kbn_of Fn (n := 2) (ks := []) (g := fun us _ => us) (fun _ _ _ _ _ _ us ws h1 h2 => match us, h1, ws, h2 with | [_, _], _, [], _ => rfl) (fun r _ => r), kbn_of Fn (n := 1) (ks := ["given"]) (g := fun us ws => us ++ ws) (fun _ _ _ _ _ _ us ws h1 h2 => match us, h1, ws, h2 with | [_], _, [_], _ => rfl) (fun r s => r.append s)⟩, n0⟩⟩
abbrev sI8 : Stmt := inClass (top 10) 0
theorem scI8 : FnScope ["self", "given"] ["self", "given"] (defScope sI8) := ⟨rfl, rfl, rfl, by decide +kernel, rfl, by decide +kernel, by decide +kernel⟩
theorem ok_I8 {base : Heap} {C D fI : Addr} {fd : FuncData} (Fn : Fun K "__init__" "InvalidClaim.__init__" sI8 fI fd) (T : XC K C mroV "ValueError.__new__") (W : XB K D "ValueError.__init__") (hm : mg "BadValue" = some (.ref D)) (n0 : PySem.W.findIn K (.ref C) "given" = some none) :
    FnOk P w K mg base CX0 1 fI fd ["self", "given"] (spXI C "given") := by
  refine Fn.ok scI8 (fun vs H Q E h => ?_) (fun cdv A outer s H vs Q E hr h => ?_)
  · obtain ⟨a, v, rfl, _⟩ := h
    rfl
  · obtain ⟨a, v, rfl, ha, k⟩ := h
    refine ⟨_, pss_cons (ps_expr (pe_xinit (C := C) F.excBase_ValueError T W rfl hm (pa_cons (pv 0) (pa_cons pe_str pa_nil)))) (pss_one (ps_xset F.store_ValueError T n0 (pv 0) (pv 1))), ?_⟩
    exact ⟨_, rfl, a, _, rfl, by decide, ha, _, rfl, _, rfl, a, rfl, ha, k⟩
theorem mk8 (X : K.In h) (G : h.Ns mainGlobals mg) {D : Addr} (W : XB K D "ValueError.__init__") (hm : mg "BadValue" = some (.ref D)) {C fI : Addr} {q : Str} {N : Addr} {bs : List Value} {sn : List Str} {sub : List Value} {ab : Bool} {col : Option Bool} {dd : Option Addr} {m0 m1 m2 m3 m5 : Option Value} {oc : Value} {od an : Option Addr} {osl : Array (Option Value)} {kV doc pm cdv ct : Value}
    (aC : PySem.W.nsIn K mainGlobals "InvalidClaim" = some (some (.ref C))) (xL : K.lookup C = some (excClassObj "InvalidClaim" q C N bs (.ref D :: mroV) true sn sub ab col dd m0 m1 m2 m3 m5 "ValueError.__new__"))
    (sa : PySem.W.findIn K (.ref C) "__setattr__" = some (some (.builtin "object.__setattr__"))) (ga : PySem.W.findIn K (.ref C) "__getattribute__" = some (some (.builtin "BaseException.__getattribute__"))) (gg : PySem.W.findIn K (.ref C) "__getattr__" = some none) (kC : PySem.W.keepIn K (.ref C) = true) (ca : PySem.W.findIn K (.ref C) "__class__" = some (some (.builtin "object.__class__"))) (n0 : PySem.W.findIn K (.ref C) "given" = some none)
    (ini : PySem.W.findIn K (.ref C) "__init__" = some (some (.ref fI))) (ty : PySem.W.typeIn K (.ref fI) = some (.type "function"))
    (l1 : K.lookup fI = some ⟨oc, od, .func (PySem.W.fnOf "__init__" "InvalidClaim.__init__" (defArgs sI8) (defBody sI8) (defScope sI8) .none kV doc pm an cdv ct), osl⟩) (c1 : PySem.W.codeIn K cdv "InvalidClaim.__init__" = true) (k1 : PySem.W.keepIn K (.ref fI) = true) :
    ∃ C : Addr, mg "InvalidClaim" = some (.ref C) ∧ Lk K C "InvalidClaim" (.ref D :: mroV) "ValueError.__new__" ∧ ∀ base : Heap, Cl P w K mg base C "given" := by
  have l : Lk K C "InvalidClaim" (.ref D :: mroV) "ValueError.__new__" := ⟨q, N, bs, sn, sub, ab, col, dd, m0, m1, m2, m3, m5, xL⟩
  have T := l.xc (bmB := mroV) (by rfl) (by rfl) (by rfl) sa ga gg kC ca
  have Fn := fun_mk (st := sI8) l1 c1 k1
  exact ⟨C, PySem.W.mg_of X G aC, l, fun base => ⟨⟨_, _, _, _, fI, _, F.excBase_ValueError, T, ⟨ini, ty⟩, ok_I8 Fn T W hm n0, kbn_of Fn (n := 2) (ks := []) (g := fun us _ => us) (fun _ _ _ _ _ _ us ws h1 h2 => match us, h1, ws, h2 with | [_, _], _, [], _ => rfl) (fun r _ => r), kbn_of Fn (n := 1) (ks := ["given"]) (g := fun us ws => us ++ ws) (fun _ _ _ _ _ _ us ws h1 h2 => match us, h1, ws, h2 with | [_], _, [_], _ => rfl) (fun r s => r.append s)⟩, n0⟩⟩
abbrev sI9 : Stmt := inClass (top 11) 0
theorem scI9 : FnScope ["self", "given"] ["self", "given"] (defScope sI9) := ⟨rfl, rfl, rfl, by decide +kernel, rfl, by decide +kernel, by decide +kernel⟩
theorem ok_I9 {base : Heap} {C D fI : Addr} {fd : FuncData} (Fn : Fun K "__init__" "InvalidCommand.__init__" sI9 fI fd) (T : XC K C mroV "ValueError.__new__") (W : XB K D "ValueError.__init__") (hm : mg "BadValue" = some (.ref D)) (n0 : PySem.W.findIn K (.ref C) "given" = some none) :
    FnOk P w K mg base CX0 1 fI fd ["self", "given"] (spXI C "given") := by
  refine Fn.ok scI9 (fun vs H Q E h => ?_) (fun cdv A outer s H vs Q E hr h => ?_)
  · obtain ⟨a, v, rfl, _⟩ := h
    rfl
  · obtain ⟨a, v, rfl, ha, k⟩ := h
    refine ⟨_, pss_cons (ps_expr (pe_xinit (C := C) F.excBase_ValueError T W rfl hm (pa_cons (pv 0) (pa_cons pe_str pa_nil)))) (pss_one (ps_xset F.store_ValueError T n0 (pv 0) (pv 1))), ?_⟩
    exact ⟨_, rfl, a, _, rfl, by decide, ha, _, rfl, _, rfl, a, rfl, ha, k⟩
theorem mk9 (X : K.In h) (G : h.Ns mainGlobals mg) {D : Addr} (W : XB K D "ValueError.__init__") (hm : mg "BadValue" = some (.ref D)) {C fI : Addr} {q : Str} {N : Addr} {bs : List Value} {sn : List Str} {sub : List Value} {ab : Bool} {col : Option Bool} {dd : Option Addr} {m0 m1 m2 m3 m5 : Option Value} {oc : Value} {od an : Option Addr} {osl : Array (Option Value)} {kV doc pm cdv ct : Value}
    (aC : PySem.W.nsIn K mainGlobals "InvalidCommand" = some (some (.ref C))) (xL : K.lookup C = some (excClassObj "InvalidCommand" q C N bs (.ref D :: mroV) true sn sub ab col dd m0 m1 m2 m3 m5 "ValueError.__new__"))
    (sa : PySem.W.findIn K (.ref C) "__setattr__" = some (some (.builtin "object.__setattr__"))) (ga : PySem.W.findIn K (.ref C) "__getattribute__" = some (some (.builtin "BaseException.__getattribute__"))) (gg : PySem.W.findIn K (.ref C) "__getattr__" = some none) (kC : PySem.W.keepIn K (.ref C) = true) (ca : PySem.W.findIn K (.ref C) "__class__" = some (some (.builtin "object.__class__"))) (n0 : PySem.W.findIn K (.ref C) "given" = some none)
    (ini : PySem.W.findIn K (.ref C) "__init__" = some (some (.ref fI))) (ty : PySem.W.typeIn K (.ref fI) = some (.type "function"))
    (l1 : K.lookup fI = some ⟨oc, od, .func (PySem.W.fnOf "__init__" "InvalidCommand.__init__" (defArgs sI9) (defBody sI9) (defScope sI9) .none kV doc pm an cdv ct), osl⟩) (c1 : PySem.W.codeIn K cdv "InvalidCommand.__init__" = true) (k1 : PySem.W.keepIn K (.ref fI) = true) :
    ∃ C : Addr, mg "InvalidCommand" = some (.ref C) ∧ Lk K C "InvalidCommand" (.ref D :: mroV) "ValueError.__new__" ∧ ∀ base : Heap, Cl P w K mg base C "given" := by
  have l : Lk K C "InvalidCommand" (.ref D :: mroV) "ValueError.__new__" := ⟨q, N, bs, sn, sub, ab, col, dd, m0, m1, m2, m3, m5, xL⟩
  have T := l.xc (bmB := mroV) (by rfl) (by rfl) (by rfl) sa ga gg kC ca
  have Fn := fun_mk (st := sI9) l1 c1 k1
  exact ⟨C, PySem.W.mg_of X G aC, l, fun base => ⟨⟨_, _, _, _, fI, _, F.excBase_ValueError, T, ⟨ini, ty⟩, ok_I9 Fn T W hm n0, kbn_of Fn (n := 2) (ks := []) (g := fun us _ => us) (fun _ _ _ _ _ _ us ws h1 h2 => match us, h1, ws, h2 with | [_, _], _, [], _ => rfl) (fun r _ => r), kbn_of Fn (n := 1) (ks := ["given"]) (g := fun us ws => us ++ ws) (fun _ _ _ _ _ _ us ws h1 h2 => match us, h1, ws, h2 with | [_], _, [_], _ => rfl) (fun r s => r.append s)⟩, n0⟩⟩
abbrev sI10 : Stmt := inClass (top 12) 0
theorem scI10 : FnScope ["self", "given"] ["self", "given"] (defScope sI10) := ⟨rfl, rfl, rfl, by decide +kernel, rfl, by decide +kernel, by decide +kernel⟩
theorem ok_I10 {base : Heap} {C D fI : Addr} {fd : FuncData} (Fn : Fun K "__init__" "NotABook.__init__" sI10 fI fd) (T : XC K C mroV "ValueError.__new__") (W : XB K D "ValueError.__init__") (hm : mg "BadValue" = some (.ref D)) (n0 : PySem.W.findIn K (.ref C) "given" = some none) :
    FnOk P w K mg base CX0 1 fI fd ["self", "given"] (spXI C "given") := by
  refine Fn.ok scI10 (fun vs H Q E h => ?_) (fun cdv A outer s H vs Q E hr h => ?_)
  · obtain ⟨a, v, rfl, _⟩ := h
    rfl
  · obtain ⟨a, v, rfl, ha, k⟩ := h
    refine ⟨_, pss_cons (ps_expr (pe_xinit (C := C) F.excBase_ValueError T W rfl hm (pa_cons (pv 0) (pa_cons pe_str pa_nil)))) (pss_one (ps_xset F.store_ValueError T n0 (pv 0) (pv 1))), ?_⟩
    exact ⟨_, rfl, a, _, rfl, by decide, ha, _, rfl, _, rfl, a, rfl, ha, k⟩
theorem mk10 (X : K.In h) (G : h.Ns mainGlobals mg) {D : Addr} (W : XB K D "ValueError.__init__") (hm : mg "BadValue" = some (.ref D)) {C fI : Addr} {q : Str} {N : Addr} {bs : List Value} {sn : List Str} {sub : List Value} {ab : Bool} {col : Option Bool} {dd : Option Addr} {m0 m1 m2 m3 m5 : Option Value} {oc : Value} {od an : Option Addr} {osl : Array (Option Value)} {kV doc pm cdv ct : Value}
    (aC : PySem.W.nsIn K mainGlobals "NotABook" = some (some (.ref C))) (xL : K.lookup C = some (excClassObj "NotABook" q C N bs (.ref D :: mroV) true sn sub ab col dd m0 m1 m2 m3 m5 "ValueError.__new__"))
    (sa : PySem.W.findIn K (.ref C) "__setattr__" = some (some (.builtin "object.__setattr__"))) (ga : PySem.W.findIn K (.ref C) "__getattribute__" = some (some (.builtin "BaseException.__getattribute__"))) (gg : PySem.W.findIn K (.ref C) "__getattr__" = some none) (kC : PySem.W.keepIn K (.ref C) = true) (ca : PySem.W.findIn K (.ref C) "__class__" = some (some (.builtin "object.__class__"))) (n0 : PySem.W.findIn K (.ref C) "given" = some none)
    (ini : PySem.W.findIn K (.ref C) "__init__" = some (some (.ref fI))) (ty : PySem.W.typeIn K (.ref fI) = some (.type "function"))
    (l1 : K.lookup fI = some ⟨oc, od, .func (PySem.W.fnOf "__init__" "NotABook.__init__" (defArgs sI10) (defBody sI10) (defScope sI10) .none kV doc pm an cdv ct), osl⟩) (c1 : PySem.W.codeIn K cdv "NotABook.__init__" = true) (k1 : PySem.W.keepIn K (.ref fI) = true) :
    ∃ C : Addr, mg "NotABook" = some (.ref C) ∧ Lk K C "NotABook" (.ref D :: mroV) "ValueError.__new__" ∧ ∀ base : Heap, Cl P w K mg base C "given" := by
  have l : Lk K C "NotABook" (.ref D :: mroV) "ValueError.__new__" := ⟨q, N, bs, sn, sub, ab, col, dd, m0, m1, m2, m3, m5, xL⟩
  have T := l.xc (bmB := mroV) (by rfl) (by rfl) (by rfl) sa ga gg kC ca
  have Fn := fun_mk (st := sI10) l1 c1 k1
  exact ⟨C, PySem.W.mg_of X G aC, l, fun base => ⟨⟨_, _, _, _, fI, _, F.excBase_ValueError, T, ⟨ini, ty⟩, ok_I10 Fn T W hm n0, kbn_of Fn (n := 2) (ks := []) (g := fun us _ => us) (fun _ _ _ _ _ _ us ws h1 h2 => match us, h1, ws, h2 with | [_, _], _, [], _ => rfl) (fun r _ => r), kbn_of Fn (n := 1) (ks := ["given"]) (g := fun us ws => us ++ ws) (fun _ _ _ _ _ _ us ws h1 h2 => match us, h1, ws, h2 with | [_], _, [_], _ => rfl) (fun r s => r.append s)⟩, n0⟩⟩
abbrev sI11 : Stmt := inClass (top 13) 0
theorem scI11 : FnScope ["self", "index"] ["self", "index"] (defScope sI11) := ⟨rfl, rfl, rfl, by decide +kernel, rfl, by decide +kernel, by decide +kernel⟩
theorem ok_I11 {base : Heap} {C D fI : Addr} {fd : FuncData} (Fn : Fun K "__init__" "InvalidSayings.__init__" sI11 fI fd) (T : XC K C mroV "ValueError.__new__") (W : XB K D "ValueError.__init__") (hm : mg "BadValue" = some (.ref D)) (n0 : PySem.W.findIn K (.ref C) "index" = some none) :
    FnOk P w K mg base CX0 1 fI fd ["self", "index"] (spXI C "index") := by
  refine Fn.ok scI11 (fun vs H Q E h => ?_) (fun cdv A outer s H vs Q E hr h => ?_)
  · obtain ⟨a, v, rfl, _⟩ := h
    rfl
  · obtain ⟨a, v, rfl, ha, k⟩ := h
    refine ⟨_, pss_cons (ps_expr (pe_xinit (C := C) F.excBase_ValueError T W rfl hm (pa_cons (pv 0) (pa_cons pe_str pa_nil)))) (pss_one (ps_xset F.store_ValueError T n0 (pv 0) (pv 1))), ?_⟩
    exact ⟨_, rfl, a, _, rfl, by decide, ha, _, rfl, _, rfl, a, rfl, ha, k⟩
theorem mk11 (X : K.In h) (G : h.Ns mainGlobals mg) {D : Addr} (W : XB K D "ValueError.__init__") (hm : mg "BadValue" = some (.ref D)) {C fI : Addr} {q : Str} {N : Addr} {bs : List Value} {sn : List Str} {sub : List Value} {ab : Bool} {col : Option Bool} {dd : Option Addr} {m0 m1 m2 m3 m5 : Option Value} {oc : Value} {od an : Option Addr} {osl : Array (Option Value)} {kV doc pm cdv ct : Value}
    (aC : PySem.W.nsIn K mainGlobals "InvalidSayings" = some (some (.ref C))) (xL : K.lookup C = some (excClassObj "InvalidSayings" q C N bs (.ref D :: mroV) true sn sub ab col dd m0 m1 m2 m3 m5 "ValueError.__new__"))
    (sa : PySem.W.findIn K (.ref C) "__setattr__" = some (some (.builtin "object.__setattr__"))) (ga : PySem.W.findIn K (.ref C) "__getattribute__" = some (some (.builtin "BaseException.__getattribute__"))) (gg : PySem.W.findIn K (.ref C) "__getattr__" = some none) (kC : PySem.W.keepIn K (.ref C) = true) (ca : PySem.W.findIn K (.ref C) "__class__" = some (some (.builtin "object.__class__"))) (n0 : PySem.W.findIn K (.ref C) "index" = some none)
    (ini : PySem.W.findIn K (.ref C) "__init__" = some (some (.ref fI))) (ty : PySem.W.typeIn K (.ref fI) = some (.type "function"))
    (l1 : K.lookup fI = some ⟨oc, od, .func (PySem.W.fnOf "__init__" "InvalidSayings.__init__" (defArgs sI11) (defBody sI11) (defScope sI11) .none kV doc pm an cdv ct), osl⟩) (c1 : PySem.W.codeIn K cdv "InvalidSayings.__init__" = true) (k1 : PySem.W.keepIn K (.ref fI) = true) :
    ∃ C : Addr, mg "InvalidSayings" = some (.ref C) ∧ Lk K C "InvalidSayings" (.ref D :: mroV) "ValueError.__new__" ∧ ∀ base : Heap, Cl P w K mg base C "index" := by
  have l : Lk K C "InvalidSayings" (.ref D :: mroV) "ValueError.__new__" := ⟨q, N, bs, sn, sub, ab, col, dd, m0, m1, m2, m3, m5, xL⟩
  have T := l.xc (bmB := mroV) (by rfl) (by rfl) (by rfl) sa ga gg kC ca
  have Fn := fun_mk (st := sI11) l1 c1 k1
  exact ⟨C, PySem.W.mg_of X G aC, l, fun base => ⟨⟨_, _, _, _, fI, _, F.excBase_ValueError, T, ⟨ini, ty⟩, ok_I11 Fn T W hm n0, kbn_of Fn (n := 2) (ks := []) (g := fun us _ => us) (fun _ _ _ _ _ _ us ws h1 h2 => match us, h1, ws, h2 with | [_, _], _, [], _ => rfl) (fun r _ => r), kbn_of Fn (n := 1) (ks := ["index"]) (g := fun us ws => us ++ ws) (fun _ _ _ _ _ _ us ws h1 h2 => match us, h1, ws, h2 with | [_], _, [_], _ => rfl) (fun r s => r.append s)⟩, n0⟩⟩
abbrev sI12 : Stmt := inClass (top 14) 0
theorem scI12 : FnScope ["self", "index"] ["self", "index"] (defScope sI12) := ⟨rfl, rfl, rfl, by decide +kernel, rfl, by decide +kernel, by decide +kernel⟩
theorem ok_I12 {base : Heap} {C D fI : Addr} {fd : FuncData} (Fn : Fun K "__init__" "InvalidOdds.__init__" sI12 fI fd) (T : XC K C mroV "ValueError.__new__") (W : XB K D "ValueError.__init__") (hm : mg "BadValue" = some (.ref D)) (n0 : PySem.W.findIn K (.ref C) "index" = some none) :
    FnOk P w K mg base CX0 1 fI fd ["self", "index"] (spXI C "index") := by
  refine Fn.ok scI12 (fun vs H Q E h => ?_) (fun cdv A outer s H vs Q E hr h => ?_)
  · obtain ⟨a, v, rfl, _⟩ := h
    rfl
  · obtain ⟨a, v, rfl, ha, k⟩ := h
    refine ⟨_, pss_cons (ps_expr (pe_xinit (C := C) F.excBase_ValueError T W rfl hm (pa_cons (pv 0) (pa_cons pe_str pa_nil)))) (pss_one (ps_xset F.store_ValueError T n0 (pv 0) (pv 1))), ?_⟩
    exact ⟨_, rfl, a, _, rfl, by decide, ha, _, rfl, _, rfl, a, rfl, ha, k⟩
theorem mk12 (X : K.In h) (G : h.Ns mainGlobals mg) {D : Addr} (W : XB K D "ValueError.__init__") (hm : mg "BadValue" = some (.ref D)) {C fI : Addr} {q : Str} {N : Addr} {bs : List Value} {sn : List Str} {sub : List Value} {ab : Bool} {col : Option Bool} {dd : Option Addr} {m0 m1 m2 m3 m5 : Option Value} {oc : Value} {od an : Option Addr} {osl : Array (Option Value)} {kV doc pm cdv ct : Value}
    (aC : PySem.W.nsIn K mainGlobals "InvalidOdds" = some (some (.ref C))) (xL : K.lookup C = some (excClassObj "InvalidOdds" q C N bs (.ref D :: mroV) true sn sub ab col dd m0 m1 m2 m3 m5 "ValueError.__new__"))
    (sa : PySem.W.findIn K (.ref C) "__setattr__" = some (some (.builtin "object.__setattr__"))) (ga : PySem.W.findIn K (.ref C) "__getattribute__" = some (some (.builtin "BaseException.__getattribute__"))) (gg : PySem.W.findIn K (.ref C) "__getattr__" = some none) (kC : PySem.W.keepIn K (.ref C) = true) (ca : PySem.W.findIn K (.ref C) "__class__" = some (some (.builtin "object.__class__"))) (n0 : PySem.W.findIn K (.ref C) "index" = some none)
    (ini : PySem.W.findIn K (.ref C) "__init__" = some (some (.ref fI))) (ty : PySem.W.typeIn K (.ref fI) = some (.type "function"))
    (l1 : K.lookup fI = some ⟨oc, od, .func (PySem.W.fnOf "__init__" "InvalidOdds.__init__" (defArgs sI12) (defBody sI12) (defScope sI12) .none kV doc pm an cdv ct), osl⟩) (c1 : PySem.W.codeIn K cdv "InvalidOdds.__init__" = true) (k1 : PySem.W.keepIn K (.ref fI) = true) :
    ∃ C : Addr, mg "InvalidOdds" = some (.ref C) ∧ Lk K C "InvalidOdds" (.ref D :: mroV) "ValueError.__new__" ∧ ∀ base : Heap, Cl P w K mg base C "index" := by
  have l : Lk K C "InvalidOdds" (.ref D :: mroV) "ValueError.__new__" := ⟨q, N, bs, sn, sub, ab, col, dd, m0, m1, m2, m3, m5, xL⟩
  have T := l.xc (bmB := mroV) (by rfl) (by rfl) (by rfl) sa ga gg kC ca
  have Fn := fun_mk (st := sI12) l1 c1 k1
  exact ⟨C, PySem.W.mg_of X G aC, l, fun base => ⟨⟨_, _, _, _, fI, _, F.excBase_ValueError, T, ⟨ini, ty⟩, ok_I12 Fn T W hm n0, kbn_of Fn (n := 2) (ks := []) (g := fun us _ => us) (fun _ _ _ _ _ _ us ws h1 h2 => match us, h1, ws, h2 with | [_, _], _, [], _ => rfl) (fun r _ => r), kbn_of Fn (n := 1) (ks := ["index"]) (g := fun us ws => us ++ ws) (fun _ _ _ _ _ _ us ws h1 h2 => match us, h1, ws, h2 with | [_], _, [_], _ => rfl) (fun r s => r.append s)⟩, n0⟩⟩
abbrev sI13 : Stmt := inClass (top 16) 0
theorem scI13 : FnScope ["self", "given"] ["self", "given"] (defScope sI13) := ⟨rfl, rfl, rfl, by decide +kernel, rfl, by decide +kernel, by decide +kernel⟩
theorem ok_I13 {base : Heap} {C D fI : Addr} {fd : FuncData} (Fn : Fun K "__init__" "UnknownName.__init__" sI13 fI fd) (T : XC K C mroL "LookupError.__new__") (W : XB K D "LookupError.__init__") (hm : mg "BadName" = some (.ref D)) (n0 : PySem.W.findIn K (.ref C) "given" = some none) :
    FnOk P w K mg base CX0 1 fI fd ["self", "given"] (spXI C "given") := by
  refine Fn.ok scI13 (fun vs H Q E h => ?_) (fun cdv A outer s H vs Q E hr h => ?_)
  · obtain ⟨a, v, rfl, _⟩ := h
    rfl
  · obtain ⟨a, v, rfl, ha, k⟩ := h
    refine ⟨_, pss_cons (ps_expr (pe_xinit (C := C) F.excBase_LookupError T W rfl hm (pa_cons (pv 0) (pa_cons pe_str pa_nil)))) (pss_one (ps_xset F.store_LookupError T n0 (pv 0) (pv 1))), ?_⟩
    exact ⟨_, rfl, a, _, rfl, by decide, ha, _, rfl, _, rfl, a, rfl, ha, k⟩
theorem mk13 (X : K.In h) (G : h.Ns mainGlobals mg) {D : Addr} (W : XB K D "LookupError.__init__") (hm : mg "BadName" = some (.ref D)) {C fI : Addr} {q : Str} {N : Addr} {bs : List Value} {sn : List Str} {sub : List Value} {ab : Bool} {col : Option Bool} {dd : Option Addr} {m0 m1 m2 m3 m5 : Option Value} {oc : Value} {od an : Option Addr} {osl : Array (Option Value)} {kV doc pm cdv ct : Value}
    (aC : PySem.W.nsIn K mainGlobals "UnknownName" = some (some (.ref C))) (xL : K.lookup C = some (excClassObj "UnknownName" q C N bs (.ref D :: mroL) true sn sub ab col dd m0 m1 m2 m3 m5 "LookupError.__new__"))
    (sa : PySem.W.findIn K (.ref C) "__setattr__" = some (some (.builtin "object.__setattr__"))) (ga : PySem.W.findIn K (.ref C) "__getattribute__" = some (some (.builtin "BaseException.__getattribute__"))) (gg : PySem.W.findIn K (.ref C) "__getattr__" = some none) (kC : PySem.W.keepIn K (.ref C) = true) (ca : PySem.W.findIn K (.ref C) "__class__" = some (some (.builtin "object.__class__"))) (n0 : PySem.W.findIn K (.ref C) "given" = some none)
    (ini : PySem.W.findIn K (.ref C) "__init__" = some (some (.ref fI))) (ty : PySem.W.typeIn K (.ref fI) = some (.type "function"))
    (l1 : K.lookup fI = some ⟨oc, od, .func (PySem.W.fnOf "__init__" "UnknownName.__init__" (defArgs sI13) (defBody sI13) (defScope sI13) .none kV doc pm an cdv ct), osl⟩) (c1 : PySem.W.codeIn K cdv "UnknownName.__init__" = true) (k1 : PySem.W.keepIn K (.ref fI) = true) :
    ∃ C : Addr, mg "UnknownName" = some (.ref C) ∧ Lk K C "UnknownName" (.ref D :: mroL) "LookupError.__new__" ∧ ∀ base : Heap, Cl P w K mg base C "given" := by
  have l : Lk K C "UnknownName" (.ref D :: mroL) "LookupError.__new__" := ⟨q, N, bs, sn, sub, ab, col, dd, m0, m1, m2, m3, m5, xL⟩
  have T := l.xc (bmB := mroL) (by rfl) (by rfl) (by rfl) sa ga gg kC ca
  have Fn := fun_mk (st := sI13) l1 c1 k1
  exact ⟨C, PySem.W.mg_of X G aC, l, fun base => ⟨⟨_, _, _, _, fI, _, F.excBase_LookupError, T, ⟨ini, ty⟩, ok_I13 Fn T W hm n0, kbn_of Fn (n := 2) (ks := []) (g := fun us _ => us) (fun _ _ _ _ _ _ us ws h1 h2 => match us, h1, ws, h2 with | [_, _], _, [], _ => rfl) (fun r _ => r), kbn_of Fn (n := 1) (ks := ["given"]) (g := fun us ws => us ++ ws) (fun _ _ _ _ _ _ us ws h1 h2 => match us, h1, ws, h2 with | [_], _, [_], _ => rfl) (fun r s => r.append s)⟩, n0⟩⟩
abbrev sI14 : Stmt := inClass (top 17) 0
theorem scI14 : FnScope ["self", "index"] ["self", "index"] (defScope sI14) := ⟨rfl, rfl, rfl, by decide +kernel, rfl, by decide +kernel, by decide +kernel⟩
theorem ok_I14 {base : Heap} {C D fI : Addr} {fd : FuncData} (Fn : Fun K "__init__" "InUse.__init__" sI14 fI fd) (T : XC K C mroL "LookupError.__new__") (W : XB K D "LookupError.__init__") (hm : mg "BadName" = some (.ref D)) (n0 : PySem.W.findIn K (.ref C) "index" = some none) :
    FnOk P w K mg base CX0 1 fI fd ["self", "index"] (spXI C "index") := by
  refine Fn.ok scI14 (fun vs H Q E h => ?_) (fun cdv A outer s H vs Q E hr h => ?_)
  · obtain ⟨a, v, rfl, _⟩ := h
    rfl
  · obtain ⟨a, v, rfl, ha, k⟩ := h
    refine ⟨_, pss_cons (ps_expr (pe_xinit (C := C) F.excBase_LookupError T W rfl hm (pa_cons (pv 0) (pa_cons pe_str pa_nil)))) (pss_one (ps_xset F.store_LookupError T n0 (pv 0) (pv 1))), ?_⟩
    exact ⟨_, rfl, a, _, rfl, by decide, ha, _, rfl, _, rfl, a, rfl, ha, k⟩
theorem mk14 (X : K.In h) (G : h.Ns mainGlobals mg) {D : Addr} (W : XB K D "LookupError.__init__") (hm : mg "BadName" = some (.ref D)) {C fI : Addr} {q : Str} {N : Addr} {bs : List Value} {sn : List Str} {sub : List Value} {ab : Bool} {col : Option Bool} {dd : Option Addr} {m0 m1 m2 m3 m5 : Option Value} {oc : Value} {od an : Option Addr} {osl : Array (Option Value)} {kV doc pm cdv ct : Value}
    (aC : PySem.W.nsIn K mainGlobals "InUse" = some (some (.ref C))) (xL : K.lookup C = some (excClassObj "InUse" q C N bs (.ref D :: mroL) true sn sub ab col dd m0 m1 m2 m3 m5 "LookupError.__new__"))
    (sa : PySem.W.findIn K (.ref C) "__setattr__" = some (some (.builtin "object.__setattr__"))) (ga : PySem.W.findIn K (.ref C) "__getattribute__" = some (some (.builtin "BaseException.__getattribute__"))) (gg : PySem.W.findIn K (.ref C) "__getattr__" = some none) (kC : PySem.W.keepIn K (.ref C) = true) (ca : PySem.W.findIn K (.ref C) "__class__" = some (some (.builtin "object.__class__"))) (n0 : PySem.W.findIn K (.ref C) "index" = some none)
    (ini : PySem.W.findIn K (.ref C) "__init__" = some (some (.ref fI))) (ty : PySem.W.typeIn K (.ref fI) = some (.type "function"))
    (l1 : K.lookup fI = some ⟨oc, od, .func (PySem.W.fnOf "__init__" "InUse.__init__" (defArgs sI14) (defBody sI14) (defScope sI14) .none kV doc pm an cdv ct), osl⟩) (c1 : PySem.W.codeIn K cdv "InUse.__init__" = true) (k1 : PySem.W.keepIn K (.ref fI) = true) :
    ∃ C : Addr, mg "InUse" = some (.ref C) ∧ Lk K C "InUse" (.ref D :: mroL) "LookupError.__new__" ∧ ∀ base : Heap, Cl P w K mg base C "index" := by
  have l : Lk K C "InUse" (.ref D :: mroL) "LookupError.__new__" := ⟨q, N, bs, sn, sub, ab, col, dd, m0, m1, m2, m3, m5, xL⟩
  have T := l.xc (bmB := mroL) (by rfl) (by rfl) (by rfl) sa ga gg kC ca
  have Fn := fun_mk (st := sI14) l1 c1 k1
  exact ⟨C, PySem.W.mg_of X G aC, l, fun base => ⟨⟨_, _, _, _, fI, _, F.excBase_LookupError, T, ⟨ini, ty⟩, ok_I14 Fn T W hm n0, kbn_of Fn (n := 2) (ks := []) (g := fun us _ => us) (fun _ _ _ _ _ _ us ws h1 h2 => match us, h1, ws, h2 with | [_, _], _, [], _ => rfl) (fun r _ => r), kbn_of Fn (n := 1) (ks := ["index"]) (g := fun us ws => us ++ ws) (fun _ _ _ _ _ _ us ws h1 h2 => match us, h1, ws, h2 with | [_], _, [_], _ => rfl) (fun r s => r.append s)⟩, n0⟩⟩
abbrev sI15 : Stmt := inClass (top 19) 0
theorem scI15 : FnScope ["self", "balance"] ["self", "balance"] (defScope sI15) := ⟨rfl, rfl, rfl, by decide +kernel, rfl, by decide +kernel, by decide +kernel⟩
theorem ok_I15 {base : Heap} {C D fI : Addr} {fd : FuncData} (Fn : Fun K "__init__" "NoOdds.__init__" sI15 fI fd) (T : XC K C mroA "ArithmeticError.__new__") (W : XB K D "ArithmeticError.__init__") (hm : mg "NoAnswer" = some (.ref D)) (n0 : PySem.W.findIn K (.ref C) "balance" = some none) :
    FnOk P w K mg base CX0 1 fI fd ["self", "balance"] (spXI C "balance") := by
  refine Fn.ok scI15 (fun vs H Q E h => ?_) (fun cdv A outer s H vs Q E hr h => ?_)
  · obtain ⟨a, v, rfl, _⟩ := h
    rfl
  · obtain ⟨a, v, rfl, ha, k⟩ := h
    refine ⟨_, pss_cons (ps_expr (pe_xinit (C := C) F.excBase_ArithmeticError T W rfl hm (pa_cons (pv 0) (pa_cons pe_str pa_nil)))) (pss_one (ps_xset F.store_ArithmeticError T n0 (pv 0) (pv 1))), ?_⟩
    exact ⟨_, rfl, a, _, rfl, by decide, ha, _, rfl, _, rfl, a, rfl, ha, k⟩
theorem mk15 (X : K.In h) (G : h.Ns mainGlobals mg) {D : Addr} (W : XB K D "ArithmeticError.__init__") (hm : mg "NoAnswer" = some (.ref D)) {C fI : Addr} {q : Str} {N : Addr} {bs : List Value} {sn : List Str} {sub : List Value} {ab : Bool} {col : Option Bool} {dd : Option Addr} {m0 m1 m2 m3 m5 : Option Value} {oc : Value} {od an : Option Addr} {osl : Array (Option Value)} {kV doc pm cdv ct : Value}
    (aC : PySem.W.nsIn K mainGlobals "NoOdds" = some (some (.ref C))) (xL : K.lookup C = some (excClassObj "NoOdds" q C N bs (.ref D :: mroA) true sn sub ab col dd m0 m1 m2 m3 m5 "ArithmeticError.__new__"))
    (sa : PySem.W.findIn K (.ref C) "__setattr__" = some (some (.builtin "object.__setattr__"))) (ga : PySem.W.findIn K (.ref C) "__getattribute__" = some (some (.builtin "BaseException.__getattribute__"))) (gg : PySem.W.findIn K (.ref C) "__getattr__" = some none) (kC : PySem.W.keepIn K (.ref C) = true) (ca : PySem.W.findIn K (.ref C) "__class__" = some (some (.builtin "object.__class__"))) (n0 : PySem.W.findIn K (.ref C) "balance" = some none)
    (ini : PySem.W.findIn K (.ref C) "__init__" = some (some (.ref fI))) (ty : PySem.W.typeIn K (.ref fI) = some (.type "function"))
    (l1 : K.lookup fI = some ⟨oc, od, .func (PySem.W.fnOf "__init__" "NoOdds.__init__" (defArgs sI15) (defBody sI15) (defScope sI15) .none kV doc pm an cdv ct), osl⟩) (c1 : PySem.W.codeIn K cdv "NoOdds.__init__" = true) (k1 : PySem.W.keepIn K (.ref fI) = true) :
    ∃ C : Addr, mg "NoOdds" = some (.ref C) ∧ Lk K C "NoOdds" (.ref D :: mroA) "ArithmeticError.__new__" ∧ ∀ base : Heap, Cl P w K mg base C "balance" := by
  have l : Lk K C "NoOdds" (.ref D :: mroA) "ArithmeticError.__new__" := ⟨q, N, bs, sn, sub, ab, col, dd, m0, m1, m2, m3, m5, xL⟩
  have T := l.xc (bmB := mroA) (by rfl) (by rfl) (by rfl) sa ga gg kC ca
  have Fn := fun_mk (st := sI15) l1 c1 k1
  exact ⟨C, PySem.W.mg_of X G aC, l, fun base => ⟨⟨_, _, _, _, fI, _, F.excBase_ArithmeticError, T, ⟨ini, ty⟩, ok_I15 Fn T W hm n0, kbn_of Fn (n := 2) (ks := []) (g := fun us _ => us) (fun _ _ _ _ _ _ us ws h1 h2 => match us, h1, ws, h2 with | [_, _], _, [], _ => rfl) (fun r _ => r), kbn_of Fn (n := 1) (ks := ["balance"]) (g := fun us ws => us ++ ws) (fun _ _ _ _ _ _ us ws h1 h2 => match us, h1, ws, h2 with | [_], _, [_], _ => rfl) (fun r s => r.append s)⟩, n0⟩⟩
abbrev sI16 : Stmt := inClass (top 20) 0
theorem scI16 : FnScope ["self", "limit"] ["self", "limit"] (defScope sI16) := ⟨rfl, rfl, rfl, by decide +kernel, rfl, by decide +kernel, by decide +kernel⟩
theorem ok_I16 {base : Heap} {C D fI : Addr} {fd : FuncData} (Fn : Fun K "__init__" "TooMany.__init__" sI16 fI fd) (T : XC K C mroA "ArithmeticError.__new__") (W : XB K D "ArithmeticError.__init__") (hm : mg "NoAnswer" = some (.ref D)) (n0 : PySem.W.findIn K (.ref C) "limit" = some none) :
    FnOk P w K mg base CX0 1 fI fd ["self", "limit"] (spXI C "limit") := by
  refine Fn.ok scI16 (fun vs H Q E h => ?_) (fun cdv A outer s H vs Q E hr h => ?_)
  · obtain ⟨a, v, rfl, _⟩ := h
    rfl
  · obtain ⟨a, v, rfl, ha, k⟩ := h
    refine ⟨_, pss_cons (ps_expr (pe_xinit (C := C) F.excBase_ArithmeticError T W rfl hm (pa_cons (pv 0) (pa_cons pe_str pa_nil)))) (pss_one (ps_xset F.store_ArithmeticError T n0 (pv 0) (pv 1))), ?_⟩
    exact ⟨_, rfl, a, _, rfl, by decide, ha, _, rfl, _, rfl, a, rfl, ha, k⟩
theorem mk16 (X : K.In h) (G : h.Ns mainGlobals mg) {D : Addr} (W : XB K D "ArithmeticError.__init__") (hm : mg "NoAnswer" = some (.ref D)) {C fI : Addr} {q : Str} {N : Addr} {bs : List Value} {sn : List Str} {sub : List Value} {ab : Bool} {col : Option Bool} {dd : Option Addr} {m0 m1 m2 m3 m5 : Option Value} {oc : Value} {od an : Option Addr} {osl : Array (Option Value)} {kV doc pm cdv ct : Value}
    (aC : PySem.W.nsIn K mainGlobals "TooMany" = some (some (.ref C))) (xL : K.lookup C = some (excClassObj "TooMany" q C N bs (.ref D :: mroA) true sn sub ab col dd m0 m1 m2 m3 m5 "ArithmeticError.__new__"))
    (sa : PySem.W.findIn K (.ref C) "__setattr__" = some (some (.builtin "object.__setattr__"))) (ga : PySem.W.findIn K (.ref C) "__getattribute__" = some (some (.builtin "BaseException.__getattribute__"))) (gg : PySem.W.findIn K (.ref C) "__getattr__" = some none) (kC : PySem.W.keepIn K (.ref C) = true) (ca : PySem.W.findIn K (.ref C) "__class__" = some (some (.builtin "object.__class__"))) (n0 : PySem.W.findIn K (.ref C) "limit" = some none)
    (ini : PySem.W.findIn K (.ref C) "__init__" = some (some (.ref fI))) (ty : PySem.W.typeIn K (.ref fI) = some (.type "function"))
    (l1 : K.lookup fI = some ⟨oc, od, .func (PySem.W.fnOf "__init__" "TooMany.__init__" (defArgs sI16) (defBody sI16) (defScope sI16) .none kV doc pm an cdv ct), osl⟩) (c1 : PySem.W.codeIn K cdv "TooMany.__init__" = true) (k1 : PySem.W.keepIn K (.ref fI) = true) :
    ∃ C : Addr, mg "TooMany" = some (.ref C) ∧ Lk K C "TooMany" (.ref D :: mroA) "ArithmeticError.__new__" ∧ ∀ base : Heap, Cl P w K mg base C "limit" := by
  have l : Lk K C "TooMany" (.ref D :: mroA) "ArithmeticError.__new__" := ⟨q, N, bs, sn, sub, ab, col, dd, m0, m1, m2, m3, m5, xL⟩
  have T := l.xc (bmB := mroA) (by rfl) (by rfl) (by rfl) sa ga gg kC ca
  have Fn := fun_mk (st := sI16) l1 c1 k1
  exact ⟨C, PySem.W.mg_of X G aC, l, fun base => ⟨⟨_, _, _, _, fI, _, F.excBase_ArithmeticError, T, ⟨ini, ty⟩, ok_I16 Fn T W hm n0, kbn_of Fn (n := 2) (ks := []) (g := fun us _ => us) (fun _ _ _ _ _ _ us ws h1 h2 => match us, h1, ws, h2 with | [_, _], _, [], _ => rfl) (fun r _ => r), kbn_of Fn (n := 1) (ks := ["limit"]) (g := fun us ws => us ++ ws) (fun _ _ _ _ _ _ us ws h1 h2 => match us, h1, ws, h2 with | [_], _, [_], _ => rfl) (fun r s => r.append s)⟩, n0⟩⟩
abbrev sI17 : Stmt := inClass (top 21) 0
theorem scI17 : FnScope ["self"] ["self"] (defScope sI17) := ⟨rfl, rfl, rfl, by decide +kernel, rfl, by decide +kernel, by decide +kernel⟩
theorem ok_I17 {base : Heap} {C D fI : Addr} {fd : FuncData} (Fn : Fun K "__init__" "NothingToUndo.__init__" sI17 fI fd) (T : XC K C mroA "ArithmeticError.__new__") (W : XB K D "ArithmeticError.__init__") (hm : mg "NoAnswer" = some (.ref D)) :
    FnOk P w K mg base CX0 1 fI fd ["self"] (spXI0 C) := by
  refine Fn.ok scI17 (fun vs H Q E h => ?_) (fun cdv A outer s H vs Q E hr h => ?_)
  · obtain ⟨a, rfl, _⟩ := h
    rfl
  · obtain ⟨a, rfl, ha, k⟩ := h
    refine ⟨_, pss_one (ps_expr (pe_xinit (C := C) F.excBase_ArithmeticError T W rfl hm (pa_cons (pv 0) (pa_cons pe_str pa_nil)))), ?_⟩
    exact ⟨_, rfl, a, _, rfl, by decide, ha, k⟩
theorem mk17 (X : K.In h) (G : h.Ns mainGlobals mg) {D : Addr} (W : XB K D "ArithmeticError.__init__") (hm : mg "NoAnswer" = some (.ref D)) {C fI : Addr} {q : Str} {N : Addr} {bs : List Value} {sn : List Str} {sub : List Value} {ab : Bool} {col : Option Bool} {dd : Option Addr} {m0 m1 m2 m3 m5 : Option Value} {oc : Value} {od an : Option Addr} {osl : Array (Option Value)} {kV doc pm cdv ct : Value}
    (aC : PySem.W.nsIn K mainGlobals "NothingToUndo" = some (some (.ref C))) (xL : K.lookup C = some (excClassObj "NothingToUndo" q C N bs (.ref D :: mroA) true sn sub ab col dd m0 m1 m2 m3 m5 "ArithmeticError.__new__"))
    (sa : PySem.W.findIn K (.ref C) "__setattr__" = some (some (.builtin "object.__setattr__"))) (ga : PySem.W.findIn K (.ref C) "__getattribute__" = some (some (.builtin "BaseException.__getattribute__"))) (gg : PySem.W.findIn K (.ref C) "__getattr__" = some none) (kC : PySem.W.keepIn K (.ref C) = true) (ca : PySem.W.findIn K (.ref C) "__class__" = some (some (.builtin "object.__class__")))
    (ini : PySem.W.findIn K (.ref C) "__init__" = some (some (.ref fI))) (ty : PySem.W.typeIn K (.ref fI) = some (.type "function"))
    (l1 : K.lookup fI = some ⟨oc, od, .func (PySem.W.fnOf "__init__" "NothingToUndo.__init__" (defArgs sI17) (defBody sI17) (defScope sI17) .none kV doc pm an cdv ct), osl⟩) (c1 : PySem.W.codeIn K cdv "NothingToUndo.__init__" = true) (k1 : PySem.W.keepIn K (.ref fI) = true) :
    ∃ C : Addr, mg "NothingToUndo" = some (.ref C) ∧ Lk K C "NothingToUndo" (.ref D :: mroA) "ArithmeticError.__new__" ∧ ∀ base : Heap, Cl0 P w K mg base C := by
  have l : Lk K C "NothingToUndo" (.ref D :: mroA) "ArithmeticError.__new__" := ⟨q, N, bs, sn, sub, ab, col, dd, m0, m1, m2, m3, m5, xL⟩
  have T := l.xc (bmB := mroA) (by rfl) (by rfl) (by rfl) sa ga gg kC ca
  have Fn := fun_mk (st := sI17) l1 c1 k1
  exact ⟨C, PySem.W.mg_of X G aC, l, fun base => ⟨⟨_, _, _, _, fI, _, F.excBase_ArithmeticError, T, ⟨ini, ty⟩, ok_I17 Fn T W hm, kbn_of Fn (n := 1) (ks := []) (g := fun us _ => us) (fun _ _ _ _ _ _ us ws h1 h2 => match us, h1, ws, h2 with | [_], _, [], _ => rfl) (fun r _ => r)⟩⟩⟩
abbrev sI18 : Stmt := inClass (top 22) 0
theorem scI18 : FnScope ["self", "index", "shown"] ["self", "index", "shown"] (defScope sI18) := ⟨rfl, rfl, rfl, by decide +kernel, rfl, by decide +kernel, by decide +kernel⟩
theorem ok_I18 {base : Heap} {C D fI : Addr} {fd : FuncData} (Fn : Fun K "__init__" "Broken.__init__" sI18 fI fd) (T : XC K C mroA "ArithmeticError.__new__") (W : XB K D "ArithmeticError.__init__") (hm : mg "NoAnswer" = some (.ref D)) (n0 : PySem.W.findIn K (.ref C) "index" = some none) (n1 : PySem.W.findIn K (.ref C) "shown" = some none) :
    FnOk P w K mg base CX0 1 fI fd ["self", "index", "shown"] (spXI2 C "index" "shown") := by
  refine Fn.ok scI18 (fun vs H Q E h => ?_) (fun cdv A outer s H vs Q E hr h => ?_)
  · obtain ⟨a, v, u, rfl, _⟩ := h
    rfl
  · obtain ⟨a, v, u, rfl, ha, k⟩ := h
    refine ⟨_, pss_cons (ps_expr (pe_xinit (C := C) F.excBase_ArithmeticError T W rfl hm (pa_cons (pv 0) (pa_cons pe_str pa_nil)))) (pss_cons (ps_xset F.store_ArithmeticError T n0 (pv 0) (pv 1)) (pss_one (ps_xset2 F.store_ArithmeticError T n1 (pv 0) (pv 2)))), ?_⟩
    refine ⟨_, rfl, a, _, rfl, by decide, ha, _, rfl, _, rfl, a, rfl, ha, fun d hd hda => ?_⟩
    exact ⟨_, rfl, _, rfl, a, d, _, rfl, upd_same, by rw [upd_ne hda, upd_same], by show 1 ≤ 900; decide, k d hd hda⟩
theorem mk18 (X : K.In h) (G : h.Ns mainGlobals mg) {D : Addr} (W : XB K D "ArithmeticError.__init__") (hm : mg "NoAnswer" = some (.ref D)) {C fI : Addr} {q : Str} {N : Addr} {bs : List Value} {sn : List Str} {sub : List Value} {ab : Bool} {col : Option Bool} {dd : Option Addr} {m0 m1 m2 m3 m5 : Option Value} {oc : Value} {od an : Option Addr} {osl : Array (Option Value)} {kV doc pm cdv ct : Value}
    (aC : PySem.W.nsIn K mainGlobals "Broken" = some (some (.ref C))) (xL : K.lookup C = some (excClassObj "Broken" q C N bs (.ref D :: mroA) true sn sub ab col dd m0 m1 m2 m3 m5 "ArithmeticError.__new__"))
    (sa : PySem.W.findIn K (.ref C) "__setattr__" = some (some (.builtin "object.__setattr__"))) (ga : PySem.W.findIn K (.ref C) "__getattribute__" = some (some (.builtin "BaseException.__getattribute__"))) (gg : PySem.W.findIn K (.ref C) "__getattr__" = some none) (kC : PySem.W.keepIn K (.ref C) = true) (ca : PySem.W.findIn K (.ref C) "__class__" = some (some (.builtin "object.__class__"))) (n0 : PySem.W.findIn K (.ref C) "index" = some none) (n1 : PySem.W.findIn K (.ref C) "shown" = some none)
    (ini : PySem.W.findIn K (.ref C) "__init__" = some (some (.ref fI))) (ty : PySem.W.typeIn K (.ref fI) = some (.type "function"))
    (l1 : K.lookup fI = some ⟨oc, od, .func (PySem.W.fnOf "__init__" "Broken.__init__" (defArgs sI18) (defBody sI18) (defScope sI18) .none kV doc pm an cdv ct), osl⟩) (c1 : PySem.W.codeIn K cdv "Broken.__init__" = true) (k1 : PySem.W.keepIn K (.ref fI) = true) :
    ∃ C : Addr, mg "Broken" = some (.ref C) ∧ Lk K C "Broken" (.ref D :: mroA) "ArithmeticError.__new__" ∧ ∀ base : Heap, Cl2 P w K mg base C := by
  have l : Lk K C "Broken" (.ref D :: mroA) "ArithmeticError.__new__" := ⟨q, N, bs, sn, sub, ab, col, dd, m0, m1, m2, m3, m5, xL⟩
  have T := l.xc (bmB := mroA) (by rfl) (by rfl) (by rfl) sa ga gg kC ca
  have Fn := fun_mk (st := sI18) l1 c1 k1
  exact ⟨C, PySem.W.mg_of X G aC, l, fun base => ⟨⟨_, _, _, _, fI, _, F.excBase_ArithmeticError, T, ⟨ini, ty⟩, ok_I18 Fn T W hm n0 n1, kbn_of Fn (n := 3) (ks := []) (g := fun us _ => us) (fun _ _ _ _ _ _ us ws h1 h2 => match us, h1, ws, h2 with | [_, _, _], _, [], _ => rfl) (fun r _ => r), kbn_of Fn (n := 1) (ks := ["shown", "index"]) (g := fun us ws => us ++ ws.reverse) (fun _ _ _ _ _ _ us ws h1 h2 => match us, h1, ws, h2 with | [_], _, [_, _], _ => rfl) (fun r s => r.append s.reverse)⟩, n0, n1⟩⟩
end
end Toy

set_option maxRecDepth 100000
set_option maxHeartbeats 4000000
namespace Toy
open PySem PySem.Spec PyProof.Rows L2 Xv
def nmL (i : Nat) : Str := ["InvalidText", "InvalidCases", "InvalidLot", "InvalidSaying", "InvalidNumber", "InvalidOrder", "InvalidName", "InvalidIndex", "InvalidClaim", "InvalidCommand", "NotABook", "InvalidSayings", "InvalidOdds", "UnknownName", "InUse", "NoOdds", "TooMany", "NothingToUndo", "Broken", "BadValue", "BadName", "NoAnswer"].getD i ""
theorem nmL_inj : ∀ i, i < 22 → ∀ j, j < 22 → nmL i = nmL j → i = j := by decide +kernel
def mroB : Nat → List Value
  | 0 => mroV
  | 1 => mroL
  | _ => mroA
def newB : Nat → String
  | 0 => "ValueError.__new__"
  | 1 => "LookupError.__new__"
  | _ => "ArithmeticError.__new__"
def bmL (ca : Nat → Addr) (i : Nat) : List Value := if i < 19 then .ref (ca (19 + bOf i)) :: mroB (bOf i) else mroB (i - 19)
def nwL (i : Nat) : String := if i < 19 then newB (bOf i) else newB (i - 19)
theorem bOf_lt (i : Nat) : bOf i < 3 := by
  unfold bOf
  split
  · omega
  · split <;> omega
theorem mroB_ref {b : Nat} {x : Addr} : (mroB b).contains (Value.ref x) = false := by
  match b with
  | 0 => rfl
  | 1 => rfl
  | n + 2 => rfl
theorem mroB_ty {b : Nat} (h : b < 3) : (mroB b).contains (Value.type "ValueError") = (b == 0) ∧ (mroB b).contains (Value.type "LookupError") = (b == 1) ∧ (mroB b).contains (Value.type "ArithmeticError") = (b == 2) ∧ (mroB b).contains (Value.type "BaseException") = true := by
  match b, h with
  | 0, _ => exact ⟨by decide +kernel, by decide +kernel, by decide +kernel, by decide +kernel⟩
  | 1, _ => exact ⟨by decide +kernel, by decide +kernel, by decide +kernel, by decide +kernel⟩
  | 2, _ => exact ⟨by decide +kernel, by decide +kernel, by decide +kernel, by decide +kernel⟩
section
variable {K : PySem.W.Frag} {ca : Nat → Addr}
theorem lk_inj (L : ∀ i, i < 22 → Lk K (ca i) (nmL i) (bmL ca i) (nwL i)) {i j : Nat} (hi : i < 22) (hj : j < 22) (e : ca i = ca j) : i = j := by
  obtain ⟨q, N, bs, sn, sub, ab, col, dd, k0, k1, k2, k3, k5, h⟩ := L i hi
  obtain ⟨q', N', bs', sn', sub', ab', col', dd', k0', k1', k2', k3', k5', h'⟩ := L j hj
  rw [e, h'] at h
  have h2 := congrArg (fun o : Option Obj => o.bind fun o => match o.data with | .cls cd => some cd.name | _ => none) h
  have h3 : some (nmL j) = some (nmL i) := h2
  exact (nmL_inj j hj i hi (Option.some.inj h3)).symm
theorem ref_beq (L : ∀ i, i < 22 → Lk K (ca i) (nmL i) (bmL ca i) (nwL i)) {i j : Nat} (hi : i < 22) (hj : j < 22) : (Value.ref (ca i) == Value.ref (ca j)) = (i == j) := by
  by_cases e : i = j
  · subst e
    simp
  · have e1 : (i == j) = false := by simpa using e
    rw [e1]
    refine beq_eq_false_iff_ne.mpr fun z => e (lk_inj L hi hj ?_)
    injection z
theorem own_of (L : ∀ i, i < 22 → Lk K (ca i) (nmL i) (bmL ca i) (nwL i)) {i j : Nat} (hi : i < 19) (hj : j < 19) : PySem.W.kitOne K (.ref (ca i)) (.ref (ca j)) = some (i == j) := by
  rw [(L i (by omega)).kitR (L j (by omega))]
  have hb := bOf_lt i
  unfold bmL
  rw [if_pos hi, List.contains_cons, List.contains_cons, mroB_ref, ref_beq L (by omega) (by omega), ref_beq L (by omega) (by omega)]
  have e1 : (j == 19 + bOf i) = false := by
    refine beq_eq_false_iff_ne.mpr ?_
    omega
  rw [e1, Bool.or_false, Bool.or_false]
  congr 1
  exact Bool.eq_iff_iff.mpr (by simp only [beq_iff_eq]; exact eq_comm)
theorem up_of (L : ∀ i, i < 22 → Lk K (ca i) (nmL i) (bmL ca i) (nwL i)) {i b : Nat} (hi : i < 19) (hb : b < 3) : PySem.W.kitOne K (.ref (ca i)) (.ref (ca (19 + b))) = some (bOf i == b) := by
  rw [(L i (by omega)).kitR (L (19 + b) (by omega))]
  have hb := bOf_lt i
  unfold bmL
  rw [if_pos hi, List.contains_cons, List.contains_cons, mroB_ref, ref_beq L (by omega) (by omega), ref_beq L (by omega) (by omega)]
  have e1 : (19 + b == i) = false := by
    refine beq_eq_false_iff_ne.mpr ?_
    omega
  rw [e1, Bool.or_false, Bool.false_or]
  congr 1
  exact Bool.eq_iff_iff.mpr (by simp only [beq_iff_eq]; omega)
theorem ty_of (L : ∀ i, i < 22 → Lk K (ca i) (nmL i) (bmL ca i) (nwL i)) {i : Nat} (hi : i < 19) {T : String} (m : PySem.W.kitMeta T = true) : PySem.W.kitOne K (.ref (ca i)) (.type T) = some ((mroB (bOf i)).contains (.type T)) := by
  rw [(L i (by omega)).kitT m]
  unfold bmL
  rw [if_pos hi, List.contains_cons, List.contains_cons]
  have e1 : (Value.type T == Value.ref (ca i)) = false := rfl
  have e2 : (Value.type T == Value.ref (ca (19 + bOf i))) = false := rfl
  rw [e1, e2]
  rfl
theorem exm_of (L : ∀ i, i < 22 → Lk K (ca i) (nmL i) (bmL ca i) (nwL i)) {i : Nat} (hi : i < 19) : PySem.W.exmOne K (.ref (ca i)) (.ref (ca (19 + bOf i))) = some true := by
  have hb := bOf_lt i
  have e0 : bmL ca (19 + bOf i) = mroB (bOf i) := by
    unfold bmL
    rw [if_neg (by omega), show 19 + bOf i - 19 = bOf i by omega]
  rw [(L i (by omega)).exm (L (19 + bOf i) (by omega)) (by rw [e0]; exact (mroB_ty hb).2.2.2)]
  unfold bmL
  rw [if_pos hi, List.contains_cons, List.contains_cons]
  simp
end
theorem whole {P : Program} {w : World} {K : PySem.W.Frag} {h : Heap} {mg : Str → Option Value} {fa : Addr} (X : K.In h) (G : h.Ns mainGlobals mg) (hfa : mg "law" = some (.ref fa))
    {D0 : Addr} (d0 : mg "BadValue" = some (.ref D0)) (lD0 : Lk K D0 "BadValue" mroV "ValueError.__new__")
    {D1 : Addr} (d1 : mg "BadName" = some (.ref D1)) (lD1 : Lk K D1 "BadName" mroL "LookupError.__new__")
    {D2 : Addr} (d2 : mg "NoAnswer" = some (.ref D2)) (lD2 : Lk K D2 "NoAnswer" mroA "ArithmeticError.__new__")
    (c0 : ∃ C : Addr, mg "InvalidText" = some (.ref C) ∧ Lk K C "InvalidText" (.ref D0 :: mroV) "ValueError.__new__" ∧ ∀ base : Heap, Cl P w K mg base C "given")
    (c1 : ∃ C : Addr, mg "InvalidCases" = some (.ref C) ∧ Lk K C "InvalidCases" (.ref D0 :: mroV) "ValueError.__new__" ∧ ∀ base : Heap, Cl P w K mg base C "given")
    (c2 : ∃ C : Addr, mg "InvalidLot" = some (.ref C) ∧ Lk K C "InvalidLot" (.ref D0 :: mroV) "ValueError.__new__" ∧ ∀ base : Heap, Cl P w K mg base C "given")
    (c3 : ∃ C : Addr, mg "InvalidSaying" = some (.ref C) ∧ Lk K C "InvalidSaying" (.ref D0 :: mroV) "ValueError.__new__" ∧ ∀ base : Heap, Cl P w K mg base C "given")
    (c4 : ∃ C : Addr, mg "InvalidNumber" = some (.ref C) ∧ Lk K C "InvalidNumber" (.ref D0 :: mroV) "ValueError.__new__" ∧ ∀ base : Heap, Cl P w K mg base C "given")
    (c5 : ∃ C : Addr, mg "InvalidOrder" = some (.ref C) ∧ Lk K C "InvalidOrder" (.ref D0 :: mroV) "ValueError.__new__" ∧ ∀ base : Heap, Cl P w K mg base C "given")
    (c6 : ∃ C : Addr, mg "InvalidName" = some (.ref C) ∧ Lk K C "InvalidName" (.ref D0 :: mroV) "ValueError.__new__" ∧ ∀ base : Heap, Cl P w K mg base C "given")
    (c7 : ∃ C : Addr, mg "InvalidIndex" = some (.ref C) ∧ Lk K C "InvalidIndex" (.ref D0 :: mroV) "ValueError.__new__" ∧ ∀ base : Heap, Cl P w K mg base C "given")
    (c8 : ∃ C : Addr, mg "InvalidClaim" = some (.ref C) ∧ Lk K C "InvalidClaim" (.ref D0 :: mroV) "ValueError.__new__" ∧ ∀ base : Heap, Cl P w K mg base C "given")
    (c9 : ∃ C : Addr, mg "InvalidCommand" = some (.ref C) ∧ Lk K C "InvalidCommand" (.ref D0 :: mroV) "ValueError.__new__" ∧ ∀ base : Heap, Cl P w K mg base C "given")
    (c10 : ∃ C : Addr, mg "NotABook" = some (.ref C) ∧ Lk K C "NotABook" (.ref D0 :: mroV) "ValueError.__new__" ∧ ∀ base : Heap, Cl P w K mg base C "given")
    (c11 : ∃ C : Addr, mg "InvalidSayings" = some (.ref C) ∧ Lk K C "InvalidSayings" (.ref D0 :: mroV) "ValueError.__new__" ∧ ∀ base : Heap, Cl P w K mg base C "index")
    (c12 : ∃ C : Addr, mg "InvalidOdds" = some (.ref C) ∧ Lk K C "InvalidOdds" (.ref D0 :: mroV) "ValueError.__new__" ∧ ∀ base : Heap, Cl P w K mg base C "index")
    (c13 : ∃ C : Addr, mg "UnknownName" = some (.ref C) ∧ Lk K C "UnknownName" (.ref D1 :: mroL) "LookupError.__new__" ∧ ∀ base : Heap, Cl P w K mg base C "given")
    (c14 : ∃ C : Addr, mg "InUse" = some (.ref C) ∧ Lk K C "InUse" (.ref D1 :: mroL) "LookupError.__new__" ∧ ∀ base : Heap, Cl P w K mg base C "index")
    (c15 : ∃ C : Addr, mg "NoOdds" = some (.ref C) ∧ Lk K C "NoOdds" (.ref D2 :: mroA) "ArithmeticError.__new__" ∧ ∀ base : Heap, Cl P w K mg base C "balance")
    (c16 : ∃ C : Addr, mg "TooMany" = some (.ref C) ∧ Lk K C "TooMany" (.ref D2 :: mroA) "ArithmeticError.__new__" ∧ ∀ base : Heap, Cl P w K mg base C "limit")
    (c17 : ∃ C : Addr, mg "NothingToUndo" = some (.ref C) ∧ Lk K C "NothingToUndo" (.ref D2 :: mroA) "ArithmeticError.__new__" ∧ ∀ base : Heap, Cl0 P w K mg base C)
    (c18 : ∃ C : Addr, mg "Broken" = some (.ref C) ∧ Lk K C "Broken" (.ref D2 :: mroA) "ArithmeticError.__new__" ∧ ∀ base : Heap, Cl2 P w K mg base C)
    (z0 : PySem.W.nsIn K mainGlobals "len" = some none)
    (z1 : PySem.W.nsIn K mainGlobals "int" = some none)
    (z2 : PySem.W.nsIn K mainGlobals "abs" = some none)
    (z3 : PySem.W.nsIn K mainGlobals "isinstance" = some none)
    (z4 : PySem.W.nsIn K mainGlobals "range" = some none)
    (z5 : PySem.W.nsIn K mainGlobals "ValueError" = some none)
    (z6 : PySem.W.nsIn K mainGlobals "LookupError" = some none)
    (z7 : PySem.W.nsIn K mainGlobals "ArithmeticError" = some none)
    (z8 : PySem.W.nsIn K mainGlobals "repr" = some none)
    (z9 : PySem.W.nsIn K mainGlobals "enumerate" = some none)
    (z10 : PySem.W.nsIn K mainGlobals "max" = some none)
    (z11 : PySem.W.nsIn K mainGlobals "min" = some none)
    {t0 : Tok} (m0 : PySem.W.nsIn K mainGlobals "MOST_CASES" = some (some (.int 6 t0)))
    {t1 : Tok} (m1 : PySem.W.nsIn K mainGlobals "MOST_SAYINGS" = some (some (.int 12 t1)))
    {t2 : Tok} (m2 : PySem.W.nsIn K mainGlobals "MOST_TIMES" = some (some (.int 9 t2)))
    {t3 : Tok} (m3 : PySem.W.nsIn K mainGlobals "MOST_TOTAL" = some (some (.int 30 t3)))
    {t4 : Tok} (m4 : PySem.W.nsIn K mainGlobals "MOST_OPEN" = some (some (.int 5 t4)))
    (xo : XO K)
    {f0 : Addr} {oc0 : Value} {od0 an0 : Option Addr} {sl0 : Array (Option Value)} {kV0 dc0 pm0 cd0 ct0 : Value} (a0 : PySem.W.nsIn K mainGlobals "_law_bag" = some (some (.ref f0))) (l0 : K.lookup f0 = some ⟨oc0, od0, .func (PySem.W.fnOf "_law_bag" "_law_bag" (defArgs sBag) (defBody sBag) (defScope sBag) .none kV0 dc0 pm0 an0 cd0 ct0), sl0⟩) (cc0 : PySem.W.codeIn K cd0 "_law_bag" = true) (k0 : PySem.W.keepIn K (.ref f0) = true)
    {f1 : Addr} {oc1 : Value} {od1 an1 : Option Addr} {sl1 : Array (Option Value)} {kV1 dc1 pm1 cd1 ct1 : Value} (a1 : PySem.W.nsIn K mainGlobals "_law_coin" = some (some (.ref f1))) (l1 : K.lookup f1 = some ⟨oc1, od1, .func (PySem.W.fnOf "_law_coin" "_law_coin" (defArgs sCoin) (defBody sCoin) (defScope sCoin) .none kV1 dc1 pm1 an1 cd1 ct1), sl1⟩) (cc1 : PySem.W.codeIn K cd1 "_law_coin" = true) (k1 : PySem.W.keepIn K (.ref f1) = true)
    {f2 : Addr} {oc2 : Value} {od2 an2 : Option Addr} {sl2 : Array (Option Value)} {kV2 dc2 pm2 cd2 ct2 : Value} (a2 : PySem.W.nsIn K mainGlobals "_law_of" = some (some (.ref f2))) (l2 : K.lookup f2 = some ⟨oc2, od2, .func (PySem.W.fnOf "_law_of" "_law_of" (defArgs sOf) (defBody sOf) (defScope sOf) .none kV2 dc2 pm2 an2 cd2 ct2), sl2⟩) (cc2 : PySem.W.codeIn K cd2 "_law_of" = true) (k2 : PySem.W.keepIn K (.ref f2) = true)
    {f3 : Addr} {oc3 : Value} {od3 an3 : Option Addr} {sl3 : Array (Option Value)} {kV3 dc3 pm3 cd3 ct3 : Value} (a3 : PySem.W.nsIn K mainGlobals "_law_any" = some (some (.ref f3))) (l3 : K.lookup f3 = some ⟨oc3, od3, .func (PySem.W.fnOf "_law_any" "_law_any" (defArgs sAny) (defBody sAny) (defScope sAny) .none kV3 dc3 pm3 an3 cd3 ct3), sl3⟩) (cc3 : PySem.W.codeIn K cd3 "_law_any" = true) (k3 : PySem.W.keepIn K (.ref f3) = true)
    {f4 : Addr} {oc4 : Value} {od4 an4 : Option Addr} {sl4 : Array (Option Value)} {kV4 dc4 pm4 cd4 ct4 : Value} (a4 : PySem.W.nsIn K mainGlobals "_law_sorts" = some (some (.ref f4))) (l4 : K.lookup f4 = some ⟨oc4, od4, .func (PySem.W.fnOf "_law_sorts" "_law_sorts" (defArgs sSorts) (defBody sSorts) (defScope sSorts) .none kV4 dc4 pm4 an4 cd4 ct4), sl4⟩) (cc4 : PySem.W.codeIn K cd4 "_law_sorts" = true) (k4 : PySem.W.keepIn K (.ref f4) = true)
    {f5 : Addr} {oc5 : Value} {od5 an5 : Option Addr} {sl5 : Array (Option Value)} {kV5 dc5 pm5 cd5 ct5 : Value} (a5 : PySem.W.nsIn K mainGlobals "_law_given" = some (some (.ref f5))) (l5 : K.lookup f5 = some ⟨oc5, od5, .func (PySem.W.fnOf "_law_given" "_law_given" (defArgs sGiven) (defBody sGiven) (defScope sGiven) .none kV5 dc5 pm5 an5 cd5 ct5), sl5⟩) (cc5 : PySem.W.codeIn K cd5 "_law_given" = true) (k5 : PySem.W.keepIn K (.ref f5) = true)
    {f6 : Addr} {oc6 : Value} {od6 an6 : Option Addr} {sl6 : Array (Option Value)} {kV6 dc6 pm6 cd6 ct6 : Value} (a6 : PySem.W.nsIn K mainGlobals "_law_caught" = some (some (.ref f6))) (l6 : K.lookup f6 = some ⟨oc6, od6, .func (PySem.W.fnOf "_law_caught" "_law_caught" (defArgs sCaught) (defBody sCaught) (defScope sCaught) .none kV6 dc6 pm6 an6 cd6 ct6), sl6⟩) (cc6 : PySem.W.codeIn K cd6 "_law_caught" = true) (k6 : PySem.W.keepIn K (.ref f6) = true)
    {f7 : Addr} {oc7 : Value} {od7 an7 : Option Addr} {sl7 : Array (Option Value)} {kV7 dc7 pm7 cd7 ct7 : Value} (a7 : PySem.W.nsIn K mainGlobals "_law_right" = some (some (.ref f7))) (l7 : K.lookup f7 = some ⟨oc7, od7, .func (PySem.W.fnOf "_law_right" "_law_right" (defArgs sRight) (defBody sRight) (defScope sRight) .none kV7 dc7 pm7 an7 cd7 ct7), sl7⟩) (cc7 : PySem.W.codeIn K cd7 "_law_right" = true) (k7 : PySem.W.keepIn K (.ref f7) = true)
    {f8 : Addr} {oc8 : Value} {od8 an8 : Option Addr} {sl8 : Array (Option Value)} {kV8 dc8 pm8 cd8 ct8 : Value} (a8 : PySem.W.nsIn K mainGlobals "law" = some (some (.ref f8))) (l8 : K.lookup f8 = some ⟨oc8, od8, .func (PySem.W.fnOf "law" "law" (defArgs sLaw) (defBody sLaw) (defScope sLaw) .none kV8 dc8 pm8 an8 cd8 ct8), sl8⟩) (cc8 : PySem.W.codeIn K cd8 "law" = true) (k8 : PySem.W.keepIn K (.ref f8) = true)
    : ∃ fd : FuncData, (∀ (s : Shared) (u : Value), BindsTo s fd ⟨[u], []⟩ [("cells", u)]) ∧ ∀ base : Heap, FnG P w K mg base CX0 5 fa fd ["cells"] (spLaw K) := by
  have e := hfa.symm.trans (PySem.W.mg_of X G a8)
  cases e
  obtain ⟨C0, g0, q0, u0⟩ := c0
  obtain ⟨C1, g1, q1, u1⟩ := c1
  obtain ⟨C2, g2, q2, u2⟩ := c2
  obtain ⟨C3, g3, q3, u3⟩ := c3
  obtain ⟨C4, g4, q4, u4⟩ := c4
  obtain ⟨C5, g5, q5, u5⟩ := c5
  obtain ⟨C6, g6, q6, u6⟩ := c6
  obtain ⟨C7, g7, q7, u7⟩ := c7
  obtain ⟨C8, g8, q8, u8⟩ := c8
  obtain ⟨C9, g9, q9, u9⟩ := c9
  obtain ⟨C10, g10, q10, u10⟩ := c10
  obtain ⟨C11, g11, q11, u11⟩ := c11
  obtain ⟨C12, g12, q12, u12⟩ := c12
  obtain ⟨C13, g13, q13, u13⟩ := c13
  obtain ⟨C14, g14, q14, u14⟩ := c14
  obtain ⟨C15, g15, q15, u15⟩ := c15
  obtain ⟨C16, g16, q16, u16⟩ := c16
  obtain ⟨C17, g17, q17, u17⟩ := c17
  obtain ⟨C18, g18, q18, u18⟩ := c18
  obtain ⟨ca, hca⟩ : ∃ ca : Nat → Addr, ca = fun i => [C0, C1, C2, C3, C4, C5, C6, C7, C8, C9, C10, C11, C12, C13, C14, C15, C16, C17, C18, D0, D1, D2].getD i 0 := ⟨_, rfl⟩
  have r0 : ca 0 = C0 := by rw [hca]; rfl
  have r1 : ca 1 = C1 := by rw [hca]; rfl
  have r2 : ca 2 = C2 := by rw [hca]; rfl
  have r3 : ca 3 = C3 := by rw [hca]; rfl
  have r4 : ca 4 = C4 := by rw [hca]; rfl
  have r5 : ca 5 = C5 := by rw [hca]; rfl
  have r6 : ca 6 = C6 := by rw [hca]; rfl
  have r7 : ca 7 = C7 := by rw [hca]; rfl
  have r8 : ca 8 = C8 := by rw [hca]; rfl
  have r9 : ca 9 = C9 := by rw [hca]; rfl
  have r10 : ca 10 = C10 := by rw [hca]; rfl
  have r11 : ca 11 = C11 := by rw [hca]; rfl
  have r12 : ca 12 = C12 := by rw [hca]; rfl
  have r13 : ca 13 = C13 := by rw [hca]; rfl
  have r14 : ca 14 = C14 := by rw [hca]; rfl
  have r15 : ca 15 = C15 := by rw [hca]; rfl
  have r16 : ca 16 = C16 := by rw [hca]; rfl
  have r17 : ca 17 = C17 := by rw [hca]; rfl
  have r18 : ca 18 = C18 := by rw [hca]; rfl
  have r19 : ca 19 = D0 := by rw [hca]; rfl
  have r20 : ca 20 = D1 := by rw [hca]; rfl
  have r21 : ca 21 = D2 := by rw [hca]; rfl
  clear hca
  subst r0
  subst r1
  subst r2
  subst r3
  subst r4
  subst r5
  subst r6
  subst r7
  subst r8
  subst r9
  subst r10
  subst r11
  subst r12
  subst r13
  subst r14
  subst r15
  subst r16
  subst r17
  subst r18
  subst r19
  subst r20
  subst r21
  have L : ∀ i, i < 22 → Lk K (ca i) (nmL i) (bmL ca i) (nwL i) := fun i hi => match i, hi with
    | 0, _ => q0
    | 1, _ => q1
    | 2, _ => q2
    | 3, _ => q3
    | 4, _ => q4
    | 5, _ => q5
    | 6, _ => q6
    | 7, _ => q7
    | 8, _ => q8
    | 9, _ => q9
    | 10, _ => q10
    | 11, _ => q11
    | 12, _ => q12
    | 13, _ => q13
    | 14, _ => q14
    | 15, _ => q15
    | 16, _ => q16
    | 17, _ => q17
    | 18, _ => q18
    | 19, _ => lD0
    | 20, _ => lD1
    | 21, _ => lD2
    | n + 22, hi => absurd hi (by omega)
  have TB : TxtB mg := ⟨(PySem.W.mg_none_of X G z0), (PySem.W.mg_none_of X G z1), (PySem.W.mg_none_of X G z2)⟩
  have TV : ∀ i, i < 19 → PySem.W.kitOne K (.ref (ca i)) (.type "ValueError") = some (bOf i == 0) := fun i hi => by rw [ty_of L hi (by decide +kernel), (mroB_ty (bOf_lt i)).1]
  have TL : ∀ i, i < 19 → PySem.W.kitOne K (.ref (ca i)) (.type "LookupError") = some (bOf i == 1) := fun i hi => by rw [ty_of L hi (by decide +kernel), (mroB_ty (bOf_lt i)).2.1]
  have TA : ∀ i, i < 19 → PySem.W.kitOne K (.ref (ca i)) (.type "ArithmeticError") = some (bOf i == 2) := fun i hi => by rw [ty_of L hi (by decide +kernel), (mroB_ty (bOf_lt i)).2.2.1]
  have TE : TxtE K mg ca := ⟨xo, (PySem.W.mg_none_of X G z3), (PySem.W.mg_none_of X G z4), (PySem.W.mg_none_of X G z0), (PySem.W.mg_none_of X G z5), (PySem.W.mg_none_of X G z6), (PySem.W.mg_none_of X G z7), g0, g1, g2, g3, g4, g5, g6, g7, g8, g9, g10, g11, g12, g13, g14, g15, g16, g17, g18, d0, d1, d2, fun i j hi hj => own_of L hi hj, fun i b hi hb => up_of L hi hb, TV, TL, TA⟩
  have TR : TxtR K mg := ⟨trivial, ⟨_, PySem.W.mg_of X G m0⟩, ⟨_, PySem.W.mg_of X G m1⟩, ⟨_, PySem.W.mg_of X G m2⟩, ⟨_, PySem.W.mg_of X G m3⟩, ⟨_, PySem.W.mg_of X G m4⟩, (PySem.W.mg_none_of X G z8), (PySem.W.mg_none_of X G z9)⟩
  have TLw : TxtL mg := ⟨(PySem.W.mg_none_of X G z0), (PySem.W.mg_none_of X G z10), (PySem.W.mg_none_of X G z11), (PySem.W.mg_none_of X G z4)⟩
  have F0 := fun_mk (st := sBag) l0 cc0 k0
  have b0 := F0.binds (ps := ["cells", "k"]) fun _ _ _ _ _ _ us hl => match us, hl with | [_, _], _ => rfl
  have E0 : Df K mg "_law_bag" f0 _ ["cells", "k"] := ⟨PySem.W.mg_of X G a0, k0, b0⟩
  have F1 := fun_mk (st := sCoin) l1 cc1 k1
  have b1 := F1.binds (ps := ["pouch", "top"]) fun _ _ _ _ _ _ us hl => match us, hl with | [_, _], _ => rfl
  have E1 : Df K mg "_law_coin" f1 _ ["pouch", "top"] := ⟨PySem.W.mg_of X G a1, k1, b1⟩
  have F2 := fun_mk (st := sOf) l2 cc2 k2
  have b2 := F2.binds (ps := ["pouch", "some"]) fun _ _ _ _ _ _ us hl => match us, hl with | [_, _], _ => rfl
  have E2 : Df K mg "_law_of" f2 _ ["pouch", "some"] := ⟨PySem.W.mg_of X G a2, k2, b2⟩
  have F3 := fun_mk (st := sAny) l3 cc3 k3
  have b3 := F3.binds (ps := ["pouch"]) fun _ _ _ _ _ _ us hl => match us, hl with | [_], _ => rfl
  have E3 : Df K mg "_law_any" f3 _ ["pouch"] := ⟨PySem.W.mg_of X G a3, k3, b3⟩
  have F4 := fun_mk (st := sSorts) l4 cc4 k4
  have b4 := F4.binds (ps := ["e"]) fun _ _ _ _ _ _ us hl => match us, hl with | [_], _ => rfl
  have E4 : Df K mg "_law_sorts" f4 _ ["e"] := ⟨PySem.W.mg_of X G a4, k4, b4⟩
  have F5 := fun_mk (st := sGiven) l5 cc5 k5
  have b5 := F5.binds (ps := ["thing"]) fun _ _ _ _ _ _ us hl => match us, hl with | [_], _ => rfl
  have E5 : Df K mg "_law_given" f5 _ ["thing"] := ⟨PySem.W.mg_of X G a5, k5, b5⟩
  have F6 := fun_mk (st := sCaught) l6 cc6 k6
  have b6 := F6.binds (ps := ["thing", "other"]) fun _ _ _ _ _ _ us hl => match us, hl with | [_, _], _ => rfl
  have E6 : Df K mg "_law_caught" f6 _ ["thing", "other"] := ⟨PySem.W.mg_of X G a6, k6, b6⟩
  have F7 := fun_mk (st := sRight) l7 cc7 k7
  have b7 := F7.binds (ps := ["pouch"]) fun _ _ _ _ _ _ us hl => match us, hl with | [_], _ => rfl
  have E7 : Df K mg "_law_right" f7 _ ["pouch"] := ⟨PySem.W.mg_of X G a7, k7, b7⟩
  have F8 := fun_mk (st := sLaw) l8 cc8 k8
  have b8 := F8.binds (ps := ["cells"]) fun _ _ _ _ _ _ us hl => match us, hl with | [_], _ => rfl
  refine ⟨PySem.W.fnOf "law" "law" (defArgs sLaw) (defBody sLaw) (defScope sLaw) .none kV8 dc8 pm8 an8 cd8 ct8, fun s u => .of_eq rfl, fun base => ?_⟩
  have G0 := ok_bag (P := P) (w := w) (base := base) F0 TB
  have G1 := ok_coin (P := P) (w := w) (base := base) F1 TB
  have G2 := ok_of F2 TB E1 G1
  have G3 := ok_any F3 E2 G2
  have G4 := ok_sorts (P := P) (w := w) (base := base) F4 TE
  have CLg : ∀ j, j < 11 → Cl P w K mg base (ca j) "given" := fun j hj => match j, hj with
    | 0, _ => u0 base
    | 1, _ => u1 base
    | 2, _ => u2 base
    | 3, _ => u3 base
    | 4, _ => u4 base
    | 5, _ => u5 base
    | 6, _ => u6 base
    | 7, _ => u7 base
    | 8, _ => u8 base
    | 9, _ => u9 base
    | 10, _ => u10 base
  have CLi : ∀ j, 11 ≤ j → j < 15 → j ≠ 13 → Cl P w K mg base (ca j) "index" := fun j h1 h2 h3 => by
    have hj : j = 11 ∨ j = 12 ∨ j = 14 := by omega
    rcases hj with e | e | e
    · rw [e]; exact u11 base
    · rw [e]; exact u12 base
    · rw [e]; exact u14 base
  have G5 := ok_given F5 TE CLg
  have G6 := ok_caught F6 TE (fun i hi => exm_of L hi) (u12 base) (u13 base) (u18 base)
  have G7 := ok_right F7 TE TR E3 G3 E5 G5 E4 G4 E6 G6 CLi (u13 base) (u15 base) (u16 base) (u17 base) (u18 base)
  exact ok_law F8 TLw E7 G7 E0 G0
end Toy

set_option maxRecDepth 100000
set_option maxHeartbeats 4000000
namespace Toy
open PySem PySem.Spec PyProof.Rows L2 Xv
theorem walkL {l : PySem.W.OpenLaw} {q : Program} {loose : List Str} {XP : (Str → Option Value) → Heap → Prop} {YP : World → Heap → Prop} {d : DefRec} {K : Params → PySem.W.Frag}
    (hn : l.most = some 63) (hdf : d.params.defaults = []) (hY : ∀ (w : World) (h : Heap), YP w h → (K w.params).In h)
    (F : ∀ (w : World) (mg : Str → Option Value) (fa : Addr) (h : Heap), (K w.params).In h → h.Ns mainGlobals mg → mg d.name = some (.ref fa) →
      ∃ fd : FuncData, (∀ (s : Shared) (u : Value), BindsTo s fd ⟨[u], []⟩ [("cells", u)]) ∧ ∀ base : Heap, FnG l.prog w (K w.params) mg base CX0 5 fa fd ["cells"] (spLaw (K w.params))) :
    PySem.W.WalkO q loose XP YP l.row.toRowW d [] (fun f vs => PySem.call f vs) := by
  refine walkG (l := l) (n := 63) (k := 5) (x := "cells") (sp := fun w => spLaw (K w.params)) hn (by rw [sizeLine_eq]; decide) hdf ⟨rfl, by decide, by decide⟩ hY (fun w mg fa h KX G hmg => ?_) fun w H a ns hl hb hO hS => ⟨a, ns, rfl, hS, fun _ => rfl⟩
  obtain ⟨fd, h1, h2⟩ := F w mg fa h KX G hmg
  exact ⟨fd, h1, fun base _ _ => h2 base⟩
theorem fin {P : Program} {w : World} {K : PySem.W.Frag} {h : Heap} {mg : Str → Option Value} {fa : Addr} (X : K.In h) (G : h.Ns mainGlobals mg) (hfa : mg "law" = some (.ref fa))
    {D0 : Addr} (aD0 : PySem.W.nsIn K mainGlobals "BadValue" = some (some (.ref D0)))
    {qD0 : Str} {ND0 : Addr} {bD0 : List Value} {snD0 : List Str} {suD0 : List Value} {abD0 : Bool} {coD0 : Option Bool} {ddD0 : Option Addr} {vD00 vD01 vD02 vD03 vD05 : Option Value} (xD0 : K.lookup D0 = some (excClassObj "BadValue" qD0 D0 ND0 bD0 mroV true snD0 suD0 abD0 coD0 ddD0 vD00 vD01 vD02 vD03 vD05 "ValueError.__new__"))
     (rD0 : PySem.W.readsIn K D0 (.type "type") = true)
     (sD0 : PySem.W.specialIn K (.ref D0) "__getattribute__" = some (some (.builtin "type.__getattribute__")))
     (iD0 : PySem.W.findCls K (.ref D0) (.type "type") "__init__" = some (.val (.builtin "ValueError.__init__")))
    {D1 : Addr} (aD1 : PySem.W.nsIn K mainGlobals "BadName" = some (some (.ref D1)))
    {qD1 : Str} {ND1 : Addr} {bD1 : List Value} {snD1 : List Str} {suD1 : List Value} {abD1 : Bool} {coD1 : Option Bool} {ddD1 : Option Addr} {vD10 vD11 vD12 vD13 vD15 : Option Value} (xD1 : K.lookup D1 = some (excClassObj "BadName" qD1 D1 ND1 bD1 mroL true snD1 suD1 abD1 coD1 ddD1 vD10 vD11 vD12 vD13 vD15 "LookupError.__new__"))
     (rD1 : PySem.W.readsIn K D1 (.type "type") = true)
     (sD1 : PySem.W.specialIn K (.ref D1) "__getattribute__" = some (some (.builtin "type.__getattribute__")))
     (iD1 : PySem.W.findCls K (.ref D1) (.type "type") "__init__" = some (.val (.builtin "LookupError.__init__")))
    {D2 : Addr} (aD2 : PySem.W.nsIn K mainGlobals "NoAnswer" = some (some (.ref D2)))
    {qD2 : Str} {ND2 : Addr} {bD2 : List Value} {snD2 : List Str} {suD2 : List Value} {abD2 : Bool} {coD2 : Option Bool} {ddD2 : Option Addr} {vD20 vD21 vD22 vD23 vD25 : Option Value} (xD2 : K.lookup D2 = some (excClassObj "NoAnswer" qD2 D2 ND2 bD2 mroA true snD2 suD2 abD2 coD2 ddD2 vD20 vD21 vD22 vD23 vD25 "ArithmeticError.__new__"))
     (rD2 : PySem.W.readsIn K D2 (.type "type") = true)
     (sD2 : PySem.W.specialIn K (.ref D2) "__getattribute__" = some (some (.builtin "type.__getattribute__")))
     (iD2 : PySem.W.findCls K (.ref D2) (.type "type") "__init__" = some (.val (.builtin "ArithmeticError.__init__")))
    {C0 : Addr} (aC0 : PySem.W.nsIn K mainGlobals "InvalidText" = some (some (.ref C0)))
    {qC0 : Str} {NC0 : Addr} {bC0 : List Value} {snC0 : List Str} {suC0 : List Value} {abC0 : Bool} {coC0 : Option Bool} {ddC0 : Option Addr} {vC0a vC0b vC0c vC0d vC0e : Option Value} (xC0 : K.lookup C0 = some (excClassObj "InvalidText" qC0 C0 NC0 bC0 (.ref D0 :: mroV) true snC0 suC0 abC0 coC0 ddC0 vC0a vC0b vC0c vC0d vC0e "ValueError.__new__"))
     (sC0 : PySem.W.findIn K (.ref C0) "__setattr__" = some (some (.builtin "object.__setattr__")))
     (gC0 : PySem.W.findIn K (.ref C0) "__getattribute__" = some (some (.builtin "BaseException.__getattribute__")))
     (hC0 : PySem.W.findIn K (.ref C0) "__getattr__" = some none)
     (kC0 : PySem.W.keepIn K (.ref C0) = true)
     (wC0 : PySem.W.findIn K (.ref C0) "__class__" = some (some (.builtin "object.__class__")))
     (nC0_0 : PySem.W.findIn K (.ref C0) "given" = some none)
    {I0 : Addr} (iC0 : PySem.W.findIn K (.ref C0) "__init__" = some (some (.ref I0)))
     (yC0 : PySem.W.typeIn K (.ref I0) = some (.type "function"))
    {oI0 : Value} {odI0 anI0 : Option Addr} {slI0 : Array (Option Value)} {kI0 dI0 pI0 cdI0 ctI0 : Value} (lC0 : K.lookup I0 = some ⟨oI0, odI0, .func (PySem.W.fnOf "__init__" "InvalidText.__init__" (defArgs sI0) (defBody sI0) (defScope sI0) .none kI0 dI0 pI0 anI0 cdI0 ctI0), slI0⟩)
     (eC0 : PySem.W.codeIn K cdI0 "InvalidText.__init__" = true)
     (fC0 : PySem.W.keepIn K (.ref I0) = true)
    {C1 : Addr} (aC1 : PySem.W.nsIn K mainGlobals "InvalidCases" = some (some (.ref C1)))
    {qC1 : Str} {NC1 : Addr} {bC1 : List Value} {snC1 : List Str} {suC1 : List Value} {abC1 : Bool} {coC1 : Option Bool} {ddC1 : Option Addr} {vC1a vC1b vC1c vC1d vC1e : Option Value} (xC1 : K.lookup C1 = some (excClassObj "InvalidCases" qC1 C1 NC1 bC1 (.ref D0 :: mroV) true snC1 suC1 abC1 coC1 ddC1 vC1a vC1b vC1c vC1d vC1e "ValueError.__new__"))
     (sC1 : PySem.W.findIn K (.ref C1) "__setattr__" = some (some (.builtin "object.__setattr__")))
     (gC1 : PySem.W.findIn K (.ref C1) "__getattribute__" = some (some (.builtin "BaseException.__getattribute__")))
     (hC1 : PySem.W.findIn K (.ref C1) "__getattr__" = some none)
     (kC1 : PySem.W.keepIn K (.ref C1) = true)
     (wC1 : PySem.W.findIn K (.ref C1) "__class__" = some (some (.builtin "object.__class__")))
     (nC1_0 : PySem.W.findIn K (.ref C1) "given" = some none)
    {I1 : Addr} (iC1 : PySem.W.findIn K (.ref C1) "__init__" = some (some (.ref I1)))
     (yC1 : PySem.W.typeIn K (.ref I1) = some (.type "function"))
    {oI1 : Value} {odI1 anI1 : Option Addr} {slI1 : Array (Option Value)} {kI1 dI1 pI1 cdI1 ctI1 : Value} (lC1 : K.lookup I1 = some ⟨oI1, odI1, .func (PySem.W.fnOf "__init__" "InvalidCases.__init__" (defArgs sI1) (defBody sI1) (defScope sI1) .none kI1 dI1 pI1 anI1 cdI1 ctI1), slI1⟩)
     (eC1 : PySem.W.codeIn K cdI1 "InvalidCases.__init__" = true)
     (fC1 : PySem.W.keepIn K (.ref I1) = true)
    {C2 : Addr} (aC2 : PySem.W.nsIn K mainGlobals "InvalidLot" = some (some (.ref C2)))
    {qC2 : Str} {NC2 : Addr} {bC2 : List Value} {snC2 : List Str} {suC2 : List Value} {abC2 : Bool} {coC2 : Option Bool} {ddC2 : Option Addr} {vC2a vC2b vC2c vC2d vC2e : Option Value} (xC2 : K.lookup C2 = some (excClassObj "InvalidLot" qC2 C2 NC2 bC2 (.ref D0 :: mroV) true snC2 suC2 abC2 coC2 ddC2 vC2a vC2b vC2c vC2d vC2e "ValueError.__new__"))
     (sC2 : PySem.W.findIn K (.ref C2) "__setattr__" = some (some (.builtin "object.__setattr__")))
     (gC2 : PySem.W.findIn K (.ref C2) "__getattribute__" = some (some (.builtin "BaseException.__getattribute__")))
     (hC2 : PySem.W.findIn K (.ref C2) "__getattr__" = some none)
     (kC2 : PySem.W.keepIn K (.ref C2) = true)
     (wC2 : PySem.W.findIn K (.ref C2) "__class__" = some (some (.builtin "object.__class__")))
     (nC2_0 : PySem.W.findIn K (.ref C2) "given" = some none)
    {I2 : Addr} (iC2 : PySem.W.findIn K (.ref C2) "__init__" = some (some (.ref I2)))
     (yC2 : PySem.W.typeIn K (.ref I2) = some (.type "function"))
    {oI2 : Value} {odI2 anI2 : Option Addr} {slI2 : Array (Option Value)} {kI2 dI2 pI2 cdI2 ctI2 : Value} (lC2 : K.lookup I2 = some ⟨oI2, odI2, .func (PySem.W.fnOf "__init__" "InvalidLot.__init__" (defArgs sI2) (defBody sI2) (defScope sI2) .none kI2 dI2 pI2 anI2 cdI2 ctI2), slI2⟩)
     (eC2 : PySem.W.codeIn K cdI2 "InvalidLot.__init__" = true)
     (fC2 : PySem.W.keepIn K (.ref I2) = true)
    {C3 : Addr} (aC3 : PySem.W.nsIn K mainGlobals "InvalidSaying" = some (some (.ref C3)))
    {qC3 : Str} {NC3 : Addr} {bC3 : List Value} {snC3 : List Str} {suC3 : List Value} {abC3 : Bool} {coC3 : Option Bool} {ddC3 : Option Addr} {vC3a vC3b vC3c vC3d vC3e : Option Value} (xC3 : K.lookup C3 = some (excClassObj "InvalidSaying" qC3 C3 NC3 bC3 (.ref D0 :: mroV) true snC3 suC3 abC3 coC3 ddC3 vC3a vC3b vC3c vC3d vC3e "ValueError.__new__"))
     (sC3 : PySem.W.findIn K (.ref C3) "__setattr__" = some (some (.builtin "object.__setattr__")))
     (gC3 : PySem.W.findIn K (.ref C3) "__getattribute__" = some (some (.builtin "BaseException.__getattribute__")))
     (hC3 : PySem.W.findIn K (.ref C3) "__getattr__" = some none)
     (kC3 : PySem.W.keepIn K (.ref C3) = true)
     (wC3 : PySem.W.findIn K (.ref C3) "__class__" = some (some (.builtin "object.__class__")))
     (nC3_0 : PySem.W.findIn K (.ref C3) "given" = some none)
    {I3 : Addr} (iC3 : PySem.W.findIn K (.ref C3) "__init__" = some (some (.ref I3)))
     (yC3 : PySem.W.typeIn K (.ref I3) = some (.type "function"))
    {oI3 : Value} {odI3 anI3 : Option Addr} {slI3 : Array (Option Value)} {kI3 dI3 pI3 cdI3 ctI3 : Value} (lC3 : K.lookup I3 = some ⟨oI3, odI3, .func (PySem.W.fnOf "__init__" "InvalidSaying.__init__" (defArgs sI3) (defBody sI3) (defScope sI3) .none kI3 dI3 pI3 anI3 cdI3 ctI3), slI3⟩)
     (eC3 : PySem.W.codeIn K cdI3 "InvalidSaying.__init__" = true)
     (fC3 : PySem.W.keepIn K (.ref I3) = true)
    {C4 : Addr} (aC4 : PySem.W.nsIn K mainGlobals "InvalidNumber" = some (some (.ref C4)))
    {qC4 : Str} {NC4 : Addr} {bC4 : List Value} {snC4 : List Str} {suC4 : List Value} {abC4 : Bool} {coC4 : Option Bool} {ddC4 : Option Addr} {vC4a vC4b vC4c vC4d vC4e : Option Value} (xC4 : K.lookup C4 = some (excClassObj "InvalidNumber" qC4 C4 NC4 bC4 (.ref D0 :: mroV) true snC4 suC4 abC4 coC4 ddC4 vC4a vC4b vC4c vC4d vC4e "ValueError.__new__"))
     (sC4 : PySem.W.findIn K (.ref C4) "__setattr__" = some (some (.builtin "object.__setattr__")))
     (gC4 : PySem.W.findIn K (.ref C4) "__getattribute__" = some (some (.builtin "BaseException.__getattribute__")))
     (hC4 : PySem.W.findIn K (.ref C4) "__getattr__" = some none)
     (kC4 : PySem.W.keepIn K (.ref C4) = true)
     (wC4 : PySem.W.findIn K (.ref C4) "__class__" = some (some (.builtin "object.__class__")))
     (nC4_0 : PySem.W.findIn K (.ref C4) "given" = some none)
    {I4 : Addr} (iC4 : PySem.W.findIn K (.ref C4) "__init__" = some (some (.ref I4)))
     (yC4 : PySem.W.typeIn K (.ref I4) = some (.type "function"))
    {oI4 : Value} {odI4 anI4 : Option Addr} {slI4 : Array (Option Value)} {kI4 dI4 pI4 cdI4 ctI4 : Value} (lC4 : K.lookup I4 = some ⟨oI4, odI4, .func (PySem.W.fnOf "__init__" "InvalidNumber.__init__" (defArgs sI4) (defBody sI4) (defScope sI4) .none kI4 dI4 pI4 anI4 cdI4 ctI4), slI4⟩)
     (eC4 : PySem.W.codeIn K cdI4 "InvalidNumber.__init__" = true)
     (fC4 : PySem.W.keepIn K (.ref I4) = true)
    {C5 : Addr} (aC5 : PySem.W.nsIn K mainGlobals "InvalidOrder" = some (some (.ref C5)))
    {qC5 : Str} {NC5 : Addr} {bC5 : List Value} {snC5 : List Str} {suC5 : List Value} {abC5 : Bool} {coC5 : Option Bool} {ddC5 : Option Addr} {vC5a vC5b vC5c vC5d vC5e : Option Value} (xC5 : K.lookup C5 = some (excClassObj "InvalidOrder" qC5 C5 NC5 bC5 (.ref D0 :: mroV) true snC5 suC5 abC5 coC5 ddC5 vC5a vC5b vC5c vC5d vC5e "ValueError.__new__"))
     (sC5 : PySem.W.findIn K (.ref C5) "__setattr__" = some (some (.builtin "object.__setattr__")))
     (gC5 : PySem.W.findIn K (.ref C5) "__getattribute__" = some (some (.builtin "BaseException.__getattribute__")))
     (hC5 : PySem.W.findIn K (.ref C5) "__getattr__" = some none)
     (kC5 : PySem.W.keepIn K (.ref C5) = true)
     (wC5 : PySem.W.findIn K (.ref C5) "__class__" = some (some (.builtin "object.__class__")))
     (nC5_0 : PySem.W.findIn K (.ref C5) "given" = some none)
    {I5 : Addr} (iC5 : PySem.W.findIn K (.ref C5) "__init__" = some (some (.ref I5)))
     (yC5 : PySem.W.typeIn K (.ref I5) = some (.type "function"))
    {oI5 : Value} {odI5 anI5 : Option Addr} {slI5 : Array (Option Value)} {kI5 dI5 pI5 cdI5 ctI5 : Value} (lC5 : K.lookup I5 = some ⟨oI5, odI5, .func (PySem.W.fnOf "__init__" "InvalidOrder.__init__" (defArgs sI5) (defBody sI5) (defScope sI5) .none kI5 dI5 pI5 anI5 cdI5 ctI5), slI5⟩)
     (eC5 : PySem.W.codeIn K cdI5 "InvalidOrder.__init__" = true)
     (fC5 : PySem.W.keepIn K (.ref I5) = true)
    {C6 : Addr} (aC6 : PySem.W.nsIn K mainGlobals "InvalidName" = some (some (.ref C6)))
    {qC6 : Str} {NC6 : Addr} {bC6 : List Value} {snC6 : List Str} {suC6 : List Value} {abC6 : Bool} {coC6 : Option Bool} {ddC6 : Option Addr} {vC6a vC6b vC6c vC6d vC6e : Option Value} (xC6 : K.lookup C6 = some (excClassObj "InvalidName" qC6 C6 NC6 bC6 (.ref D0 :: mroV) true snC6 suC6 abC6 coC6 ddC6 vC6a vC6b vC6c vC6d vC6e "ValueError.__new__"))
     (sC6 : PySem.W.findIn K (.ref C6) "__setattr__" = some (some (.builtin "object.__setattr__")))
     (gC6 : PySem.W.findIn K (.ref C6) "__getattribute__" = some (some (.builtin "BaseException.__getattribute__")))
     (hC6 : PySem.W.findIn K (.ref C6) "__getattr__" = some none)
     (kC6 : PySem.W.keepIn K (.ref C6) = true)
     (wC6 : PySem.W.findIn K (.ref C6) "__class__" = some (some (.builtin "object.__class__")))
     (nC6_0 : PySem.W.findIn K (.ref C6) "given" = some none)
    {I6 : Addr} (iC6 : PySem.W.findIn K (.ref C6) "__init__" = some (some (.ref I6)))
     (yC6 : PySem.W.typeIn K (.ref I6) = some (.type "function"))
    {oI6 : Value} {odI6 anI6 : Option Addr} {slI6 : Array (Option Value)} {kI6 dI6 pI6 cdI6 ctI6 : Value} (lC6 : K.lookup I6 = some ⟨oI6, odI6, .func (PySem.W.fnOf "__init__" "InvalidName.__init__" (defArgs sI6) (defBody sI6) (defScope sI6) .none kI6 dI6 pI6 anI6 cdI6 ctI6), slI6⟩)
     (eC6 : PySem.W.codeIn K cdI6 "InvalidName.__init__" = true)
     (fC6 : PySem.W.keepIn K (.ref I6) = true)
    {C7 : Addr} (aC7 : PySem.W.nsIn K mainGlobals "InvalidIndex" = some (some (.ref C7)))
    {qC7 : Str} {NC7 : Addr} {bC7 : List Value} {snC7 : List Str} {suC7 : List Value} {abC7 : Bool} {coC7 : Option Bool} {ddC7 : Option Addr} {vC7a vC7b vC7c vC7d vC7e : Option Value} (xC7 : K.lookup C7 = some (excClassObj "InvalidIndex" qC7 C7 NC7 bC7 (.ref D0 :: mroV) true snC7 suC7 abC7 coC7 ddC7 vC7a vC7b vC7c vC7d vC7e "ValueError.__new__"))
     (sC7 : PySem.W.findIn K (.ref C7) "__setattr__" = some (some (.builtin "object.__setattr__")))
     (gC7 : PySem.W.findIn K (.ref C7) "__getattribute__" = some (some (.builtin "BaseException.__getattribute__")))
     (hC7 : PySem.W.findIn K (.ref C7) "__getattr__" = some none)
     (kC7 : PySem.W.keepIn K (.ref C7) = true)
     (wC7 : PySem.W.findIn K (.ref C7) "__class__" = some (some (.builtin "object.__class__")))
     (nC7_0 : PySem.W.findIn K (.ref C7) "given" = some none)
    {I7 : Addr} (iC7 : PySem.W.findIn K (.ref C7) "__init__" = some (some (.ref I7)))
     (yC7 : PySem.W.typeIn K (.ref I7) = some (.type "function"))
    {oI7 : Value} {odI7 anI7 : Option Addr} {slI7 : Array (Option Value)} {kI7 dI7 pI7 cdI7 ctI7 : Value} (lC7 : K.lookup I7 = some ⟨oI7, odI7, .func (PySem.W.fnOf "__init__" "InvalidIndex.__init__" (defArgs sI7) (defBody sI7) (defScope sI7) .none kI7 dI7 pI7 anI7 cdI7 ctI7), slI7⟩)
     (eC7 : PySem.W.codeIn K cdI7 "InvalidIndex.__init__" = true)
     (fC7 : PySem.W.keepIn K (.ref I7) = true)
    {C8 : Addr} (aC8 : PySem.W.nsIn K mainGlobals "InvalidClaim" = some (some (.ref C8)))
    {qC8 : Str} {NC8 : Addr} {bC8 : List Value} {snC8 : List Str} {suC8 : List Value} {abC8 : Bool} {coC8 : Option Bool} {ddC8 : Option Addr} {vC8a vC8b vC8c vC8d vC8e : Option Value} (xC8 : K.lookup C8 = some (excClassObj "InvalidClaim" qC8 C8 NC8 bC8 (.ref D0 :: mroV) true snC8 suC8 abC8 coC8 ddC8 vC8a vC8b vC8c vC8d vC8e "ValueError.__new__"))
     (sC8 : PySem.W.findIn K (.ref C8) "__setattr__" = some (some (.builtin "object.__setattr__")))
     (gC8 : PySem.W.findIn K (.ref C8) "__getattribute__" = some (some (.builtin "BaseException.__getattribute__")))
     (hC8 : PySem.W.findIn K (.ref C8) "__getattr__" = some none)
     (kC8 : PySem.W.keepIn K (.ref C8) = true)
     (wC8 : PySem.W.findIn K (.ref C8) "__class__" = some (some (.builtin "object.__class__")))
     (nC8_0 : PySem.W.findIn K (.ref C8) "given" = some none)
    {I8 : Addr} (iC8 : PySem.W.findIn K (.ref C8) "__init__" = some (some (.ref I8)))
     (yC8 : PySem.W.typeIn K (.ref I8) = some (.type "function"))
    {oI8 : Value} {odI8 anI8 : Option Addr} {slI8 : Array (Option Value)} {kI8 dI8 pI8 cdI8 ctI8 : Value} (lC8 : K.lookup I8 = some ⟨oI8, odI8, .func (PySem.W.fnOf "__init__" "InvalidClaim.__init__" (defArgs sI8) (defBody sI8) (defScope sI8) .none kI8 dI8 pI8 anI8 cdI8 ctI8), slI8⟩)
     (eC8 : PySem.W.codeIn K cdI8 "InvalidClaim.__init__" = true)
     (fC8 : PySem.W.keepIn K (.ref I8) = true)
    {C9 : Addr} (aC9 : PySem.W.nsIn K mainGlobals "InvalidCommand" = some (some (.ref C9)))
    {qC9 : Str} {NC9 : Addr} {bC9 : List Value} {snC9 : List Str} {suC9 : List Value} {abC9 : Bool} {coC9 : Option Bool} {ddC9 : Option Addr} {vC9a vC9b vC9c vC9d vC9e : Option Value} (xC9 : K.lookup C9 = some (excClassObj "InvalidCommand" qC9 C9 NC9 bC9 (.ref D0 :: mroV) true snC9 suC9 abC9 coC9 ddC9 vC9a vC9b vC9c vC9d vC9e "ValueError.__new__"))
     (sC9 : PySem.W.findIn K (.ref C9) "__setattr__" = some (some (.builtin "object.__setattr__")))
     (gC9 : PySem.W.findIn K (.ref C9) "__getattribute__" = some (some (.builtin "BaseException.__getattribute__")))
     (hC9 : PySem.W.findIn K (.ref C9) "__getattr__" = some none)
     (kC9 : PySem.W.keepIn K (.ref C9) = true)
     (wC9 : PySem.W.findIn K (.ref C9) "__class__" = some (some (.builtin "object.__class__")))
     (nC9_0 : PySem.W.findIn K (.ref C9) "given" = some none)
    {I9 : Addr} (iC9 : PySem.W.findIn K (.ref C9) "__init__" = some (some (.ref I9)))
     (yC9 : PySem.W.typeIn K (.ref I9) = some (.type "function"))
    {oI9 : Value} {odI9 anI9 : Option Addr} {slI9 : Array (Option Value)} {kI9 dI9 pI9 cdI9 ctI9 : Value} (lC9 : K.lookup I9 = some ⟨oI9, odI9, .func (PySem.W.fnOf "__init__" "InvalidCommand.__init__" (defArgs sI9) (defBody sI9) (defScope sI9) .none kI9 dI9 pI9 anI9 cdI9 ctI9), slI9⟩)
     (eC9 : PySem.W.codeIn K cdI9 "InvalidCommand.__init__" = true)
     (fC9 : PySem.W.keepIn K (.ref I9) = true)
    {C10 : Addr} (aC10 : PySem.W.nsIn K mainGlobals "NotABook" = some (some (.ref C10)))
    {qC10 : Str} {NC10 : Addr} {bC10 : List Value} {snC10 : List Str} {suC10 : List Value} {abC10 : Bool} {coC10 : Option Bool} {ddC10 : Option Addr} {vC10a vC10b vC10c vC10d vC10e : Option Value} (xC10 : K.lookup C10 = some (excClassObj "NotABook" qC10 C10 NC10 bC10 (.ref D0 :: mroV) true snC10 suC10 abC10 coC10 ddC10 vC10a vC10b vC10c vC10d vC10e "ValueError.__new__"))
     (sC10 : PySem.W.findIn K (.ref C10) "__setattr__" = some (some (.builtin "object.__setattr__")))
     (gC10 : PySem.W.findIn K (.ref C10) "__getattribute__" = some (some (.builtin "BaseException.__getattribute__")))
     (hC10 : PySem.W.findIn K (.ref C10) "__getattr__" = some none)
     (kC10 : PySem.W.keepIn K (.ref C10) = true)
     (wC10 : PySem.W.findIn K (.ref C10) "__class__" = some (some (.builtin "object.__class__")))
     (nC10_0 : PySem.W.findIn K (.ref C10) "given" = some none)
    {I10 : Addr} (iC10 : PySem.W.findIn K (.ref C10) "__init__" = some (some (.ref I10)))
     (yC10 : PySem.W.typeIn K (.ref I10) = some (.type "function"))
    {oI10 : Value} {odI10 anI10 : Option Addr} {slI10 : Array (Option Value)} {kI10 dI10 pI10 cdI10 ctI10 : Value} (lC10 : K.lookup I10 = some ⟨oI10, odI10, .func (PySem.W.fnOf "__init__" "NotABook.__init__" (defArgs sI10) (defBody sI10) (defScope sI10) .none kI10 dI10 pI10 anI10 cdI10 ctI10), slI10⟩)
     (eC10 : PySem.W.codeIn K cdI10 "NotABook.__init__" = true)
     (fC10 : PySem.W.keepIn K (.ref I10) = true)
    {C11 : Addr} (aC11 : PySem.W.nsIn K mainGlobals "InvalidSayings" = some (some (.ref C11)))
    {qC11 : Str} {NC11 : Addr} {bC11 : List Value} {snC11 : List Str} {suC11 : List Value} {abC11 : Bool} {coC11 : Option Bool} {ddC11 : Option Addr} {vC11a vC11b vC11c vC11d vC11e : Option Value} (xC11 : K.lookup C11 = some (excClassObj "InvalidSayings" qC11 C11 NC11 bC11 (.ref D0 :: mroV) true snC11 suC11 abC11 coC11 ddC11 vC11a vC11b vC11c vC11d vC11e "ValueError.__new__"))
     (sC11 : PySem.W.findIn K (.ref C11) "__setattr__" = some (some (.builtin "object.__setattr__")))
     (gC11 : PySem.W.findIn K (.ref C11) "__getattribute__" = some (some (.builtin "BaseException.__getattribute__")))
     (hC11 : PySem.W.findIn K (.ref C11) "__getattr__" = some none)
     (kC11 : PySem.W.keepIn K (.ref C11) = true)
     (wC11 : PySem.W.findIn K (.ref C11) "__class__" = some (some (.builtin "object.__class__")))
     (nC11_0 : PySem.W.findIn K (.ref C11) "index" = some none)
    {I11 : Addr} (iC11 : PySem.W.findIn K (.ref C11) "__init__" = some (some (.ref I11)))
     (yC11 : PySem.W.typeIn K (.ref I11) = some (.type "function"))
    {oI11 : Value} {odI11 anI11 : Option Addr} {slI11 : Array (Option Value)} {kI11 dI11 pI11 cdI11 ctI11 : Value} (lC11 : K.lookup I11 = some ⟨oI11, odI11, .func (PySem.W.fnOf "__init__" "InvalidSayings.__init__" (defArgs sI11) (defBody sI11) (defScope sI11) .none kI11 dI11 pI11 anI11 cdI11 ctI11), slI11⟩)
     (eC11 : PySem.W.codeIn K cdI11 "InvalidSayings.__init__" = true)
     (fC11 : PySem.W.keepIn K (.ref I11) = true)
    {C12 : Addr} (aC12 : PySem.W.nsIn K mainGlobals "InvalidOdds" = some (some (.ref C12)))
    {qC12 : Str} {NC12 : Addr} {bC12 : List Value} {snC12 : List Str} {suC12 : List Value} {abC12 : Bool} {coC12 : Option Bool} {ddC12 : Option Addr} {vC12a vC12b vC12c vC12d vC12e : Option Value} (xC12 : K.lookup C12 = some (excClassObj "InvalidOdds" qC12 C12 NC12 bC12 (.ref D0 :: mroV) true snC12 suC12 abC12 coC12 ddC12 vC12a vC12b vC12c vC12d vC12e "ValueError.__new__"))
     (sC12 : PySem.W.findIn K (.ref C12) "__setattr__" = some (some (.builtin "object.__setattr__")))
     (gC12 : PySem.W.findIn K (.ref C12) "__getattribute__" = some (some (.builtin "BaseException.__getattribute__")))
     (hC12 : PySem.W.findIn K (.ref C12) "__getattr__" = some none)
     (kC12 : PySem.W.keepIn K (.ref C12) = true)
     (wC12 : PySem.W.findIn K (.ref C12) "__class__" = some (some (.builtin "object.__class__")))
     (nC12_0 : PySem.W.findIn K (.ref C12) "index" = some none)
    {I12 : Addr} (iC12 : PySem.W.findIn K (.ref C12) "__init__" = some (some (.ref I12)))
     (yC12 : PySem.W.typeIn K (.ref I12) = some (.type "function"))
    {oI12 : Value} {odI12 anI12 : Option Addr} {slI12 : Array (Option Value)} {kI12 dI12 pI12 cdI12 ctI12 : Value} (lC12 : K.lookup I12 = some ⟨oI12, odI12, .func (PySem.W.fnOf "__init__" "InvalidOdds.__init__" (defArgs sI12) (defBody sI12) (defScope sI12) .none kI12 dI12 pI12 anI12 cdI12 ctI12), slI12⟩)
     (eC12 : PySem.W.codeIn K cdI12 "InvalidOdds.__init__" = true)
     (fC12 : PySem.W.keepIn K (.ref I12) = true)
    {C13 : Addr} (aC13 : PySem.W.nsIn K mainGlobals "UnknownName" = some (some (.ref C13)))
    {qC13 : Str} {NC13 : Addr} {bC13 : List Value} {snC13 : List Str} {suC13 : List Value} {abC13 : Bool} {coC13 : Option Bool} {ddC13 : Option Addr} {vC13a vC13b vC13c vC13d vC13e : Option Value} (xC13 : K.lookup C13 = some (excClassObj "UnknownName" qC13 C13 NC13 bC13 (.ref D1 :: mroL) true snC13 suC13 abC13 coC13 ddC13 vC13a vC13b vC13c vC13d vC13e "LookupError.__new__"))
     (sC13 : PySem.W.findIn K (.ref C13) "__setattr__" = some (some (.builtin "object.__setattr__")))
     (gC13 : PySem.W.findIn K (.ref C13) "__getattribute__" = some (some (.builtin "BaseException.__getattribute__")))
     (hC13 : PySem.W.findIn K (.ref C13) "__getattr__" = some none)
     (kC13 : PySem.W.keepIn K (.ref C13) = true)
     (wC13 : PySem.W.findIn K (.ref C13) "__class__" = some (some (.builtin "object.__class__")))
     (nC13_0 : PySem.W.findIn K (.ref C13) "given" = some none)
    {I13 : Addr} (iC13 : PySem.W.findIn K (.ref C13) "__init__" = some (some (.ref I13)))
     (yC13 : PySem.W.typeIn K (.ref I13) = some (.type "function"))
    {oI13 : Value} {odI13 anI13 : Option Addr} {slI13 : Array (Option Value)} {kI13 dI13 pI13 cdI13 ctI13 : Value} (lC13 : K.lookup I13 = some ⟨oI13, odI13, .func (PySem.W.fnOf "__init__" "UnknownName.__init__" (defArgs sI13) (defBody sI13) (defScope sI13) .none kI13 dI13 pI13 anI13 cdI13 ctI13), slI13⟩)
     (eC13 : PySem.W.codeIn K cdI13 "UnknownName.__init__" = true)
     (fC13 : PySem.W.keepIn K (.ref I13) = true)
    {C14 : Addr} (aC14 : PySem.W.nsIn K mainGlobals "InUse" = some (some (.ref C14)))
    {qC14 : Str} {NC14 : Addr} {bC14 : List Value} {snC14 : List Str} {suC14 : List Value} {abC14 : Bool} {coC14 : Option Bool} {ddC14 : Option Addr} {vC14a vC14b vC14c vC14d vC14e : Option Value} (xC14 : K.lookup C14 = some (excClassObj "InUse" qC14 C14 NC14 bC14 (.ref D1 :: mroL) true snC14 suC14 abC14 coC14 ddC14 vC14a vC14b vC14c vC14d vC14e "LookupError.__new__"))
     (sC14 : PySem.W.findIn K (.ref C14) "__setattr__" = some (some (.builtin "object.__setattr__")))
     (gC14 : PySem.W.findIn K (.ref C14) "__getattribute__" = some (some (.builtin "BaseException.__getattribute__")))
     (hC14 : PySem.W.findIn K (.ref C14) "__getattr__" = some none)
     (kC14 : PySem.W.keepIn K (.ref C14) = true)
     (wC14 : PySem.W.findIn K (.ref C14) "__class__" = some (some (.builtin "object.__class__")))
     (nC14_0 : PySem.W.findIn K (.ref C14) "index" = some none)
    {I14 : Addr} (iC14 : PySem.W.findIn K (.ref C14) "__init__" = some (some (.ref I14)))
     (yC14 : PySem.W.typeIn K (.ref I14) = some (.type "function"))
    {oI14 : Value} {odI14 anI14 : Option Addr} {slI14 : Array (Option Value)} {kI14 dI14 pI14 cdI14 ctI14 : Value} (lC14 : K.lookup I14 = some ⟨oI14, odI14, .func (PySem.W.fnOf "__init__" "InUse.__init__" (defArgs sI14) (defBody sI14) (defScope sI14) .none kI14 dI14 pI14 anI14 cdI14 ctI14), slI14⟩)
     (eC14 : PySem.W.codeIn K cdI14 "InUse.__init__" = true)
     (fC14 : PySem.W.keepIn K (.ref I14) = true)
    {C15 : Addr} (aC15 : PySem.W.nsIn K mainGlobals "NoOdds" = some (some (.ref C15)))
    {qC15 : Str} {NC15 : Addr} {bC15 : List Value} {snC15 : List Str} {suC15 : List Value} {abC15 : Bool} {coC15 : Option Bool} {ddC15 : Option Addr} {vC15a vC15b vC15c vC15d vC15e : Option Value} (xC15 : K.lookup C15 = some (excClassObj "NoOdds" qC15 C15 NC15 bC15 (.ref D2 :: mroA) true snC15 suC15 abC15 coC15 ddC15 vC15a vC15b vC15c vC15d vC15e "ArithmeticError.__new__"))
     (sC15 : PySem.W.findIn K (.ref C15) "__setattr__" = some (some (.builtin "object.__setattr__")))
     (gC15 : PySem.W.findIn K (.ref C15) "__getattribute__" = some (some (.builtin "BaseException.__getattribute__")))
     (hC15 : PySem.W.findIn K (.ref C15) "__getattr__" = some none)
     (kC15 : PySem.W.keepIn K (.ref C15) = true)
     (wC15 : PySem.W.findIn K (.ref C15) "__class__" = some (some (.builtin "object.__class__")))
     (nC15_0 : PySem.W.findIn K (.ref C15) "balance" = some none)
    {I15 : Addr} (iC15 : PySem.W.findIn K (.ref C15) "__init__" = some (some (.ref I15)))
     (yC15 : PySem.W.typeIn K (.ref I15) = some (.type "function"))
    {oI15 : Value} {odI15 anI15 : Option Addr} {slI15 : Array (Option Value)} {kI15 dI15 pI15 cdI15 ctI15 : Value} (lC15 : K.lookup I15 = some ⟨oI15, odI15, .func (PySem.W.fnOf "__init__" "NoOdds.__init__" (defArgs sI15) (defBody sI15) (defScope sI15) .none kI15 dI15 pI15 anI15 cdI15 ctI15), slI15⟩)
     (eC15 : PySem.W.codeIn K cdI15 "NoOdds.__init__" = true)
     (fC15 : PySem.W.keepIn K (.ref I15) = true)
    {C16 : Addr} (aC16 : PySem.W.nsIn K mainGlobals "TooMany" = some (some (.ref C16)))
    {qC16 : Str} {NC16 : Addr} {bC16 : List Value} {snC16 : List Str} {suC16 : List Value} {abC16 : Bool} {coC16 : Option Bool} {ddC16 : Option Addr} {vC16a vC16b vC16c vC16d vC16e : Option Value} (xC16 : K.lookup C16 = some (excClassObj "TooMany" qC16 C16 NC16 bC16 (.ref D2 :: mroA) true snC16 suC16 abC16 coC16 ddC16 vC16a vC16b vC16c vC16d vC16e "ArithmeticError.__new__"))
     (sC16 : PySem.W.findIn K (.ref C16) "__setattr__" = some (some (.builtin "object.__setattr__")))
     (gC16 : PySem.W.findIn K (.ref C16) "__getattribute__" = some (some (.builtin "BaseException.__getattribute__")))
     (hC16 : PySem.W.findIn K (.ref C16) "__getattr__" = some none)
     (kC16 : PySem.W.keepIn K (.ref C16) = true)
     (wC16 : PySem.W.findIn K (.ref C16) "__class__" = some (some (.builtin "object.__class__")))
     (nC16_0 : PySem.W.findIn K (.ref C16) "limit" = some none)
    {I16 : Addr} (iC16 : PySem.W.findIn K (.ref C16) "__init__" = some (some (.ref I16)))
     (yC16 : PySem.W.typeIn K (.ref I16) = some (.type "function"))
    {oI16 : Value} {odI16 anI16 : Option Addr} {slI16 : Array (Option Value)} {kI16 dI16 pI16 cdI16 ctI16 : Value} (lC16 : K.lookup I16 = some ⟨oI16, odI16, .func (PySem.W.fnOf "__init__" "TooMany.__init__" (defArgs sI16) (defBody sI16) (defScope sI16) .none kI16 dI16 pI16 anI16 cdI16 ctI16), slI16⟩)
     (eC16 : PySem.W.codeIn K cdI16 "TooMany.__init__" = true)
     (fC16 : PySem.W.keepIn K (.ref I16) = true)
    {C17 : Addr} (aC17 : PySem.W.nsIn K mainGlobals "NothingToUndo" = some (some (.ref C17)))
    {qC17 : Str} {NC17 : Addr} {bC17 : List Value} {snC17 : List Str} {suC17 : List Value} {abC17 : Bool} {coC17 : Option Bool} {ddC17 : Option Addr} {vC17a vC17b vC17c vC17d vC17e : Option Value} (xC17 : K.lookup C17 = some (excClassObj "NothingToUndo" qC17 C17 NC17 bC17 (.ref D2 :: mroA) true snC17 suC17 abC17 coC17 ddC17 vC17a vC17b vC17c vC17d vC17e "ArithmeticError.__new__"))
     (sC17 : PySem.W.findIn K (.ref C17) "__setattr__" = some (some (.builtin "object.__setattr__")))
     (gC17 : PySem.W.findIn K (.ref C17) "__getattribute__" = some (some (.builtin "BaseException.__getattribute__")))
     (hC17 : PySem.W.findIn K (.ref C17) "__getattr__" = some none)
     (kC17 : PySem.W.keepIn K (.ref C17) = true)
     (wC17 : PySem.W.findIn K (.ref C17) "__class__" = some (some (.builtin "object.__class__")))
    {I17 : Addr} (iC17 : PySem.W.findIn K (.ref C17) "__init__" = some (some (.ref I17)))
     (yC17 : PySem.W.typeIn K (.ref I17) = some (.type "function"))
    {oI17 : Value} {odI17 anI17 : Option Addr} {slI17 : Array (Option Value)} {kI17 dI17 pI17 cdI17 ctI17 : Value} (lC17 : K.lookup I17 = some ⟨oI17, odI17, .func (PySem.W.fnOf "__init__" "NothingToUndo.__init__" (defArgs sI17) (defBody sI17) (defScope sI17) .none kI17 dI17 pI17 anI17 cdI17 ctI17), slI17⟩)
     (eC17 : PySem.W.codeIn K cdI17 "NothingToUndo.__init__" = true)
     (fC17 : PySem.W.keepIn K (.ref I17) = true)
    {C18 : Addr} (aC18 : PySem.W.nsIn K mainGlobals "Broken" = some (some (.ref C18)))
    {qC18 : Str} {NC18 : Addr} {bC18 : List Value} {snC18 : List Str} {suC18 : List Value} {abC18 : Bool} {coC18 : Option Bool} {ddC18 : Option Addr} {vC18a vC18b vC18c vC18d vC18e : Option Value} (xC18 : K.lookup C18 = some (excClassObj "Broken" qC18 C18 NC18 bC18 (.ref D2 :: mroA) true snC18 suC18 abC18 coC18 ddC18 vC18a vC18b vC18c vC18d vC18e "ArithmeticError.__new__"))
     (sC18 : PySem.W.findIn K (.ref C18) "__setattr__" = some (some (.builtin "object.__setattr__")))
     (gC18 : PySem.W.findIn K (.ref C18) "__getattribute__" = some (some (.builtin "BaseException.__getattribute__")))
     (hC18 : PySem.W.findIn K (.ref C18) "__getattr__" = some none)
     (kC18 : PySem.W.keepIn K (.ref C18) = true)
     (wC18 : PySem.W.findIn K (.ref C18) "__class__" = some (some (.builtin "object.__class__")))
     (nC18_0 : PySem.W.findIn K (.ref C18) "index" = some none)
     (nC18_1 : PySem.W.findIn K (.ref C18) "shown" = some none)
    {I18 : Addr} (iC18 : PySem.W.findIn K (.ref C18) "__init__" = some (some (.ref I18)))
     (yC18 : PySem.W.typeIn K (.ref I18) = some (.type "function"))
    {oI18 : Value} {odI18 anI18 : Option Addr} {slI18 : Array (Option Value)} {kI18 dI18 pI18 cdI18 ctI18 : Value} (lC18 : K.lookup I18 = some ⟨oI18, odI18, .func (PySem.W.fnOf "__init__" "Broken.__init__" (defArgs sI18) (defBody sI18) (defScope sI18) .none kI18 dI18 pI18 anI18 cdI18 ctI18), slI18⟩)
     (eC18 : PySem.W.codeIn K cdI18 "Broken.__init__" = true)
     (fC18 : PySem.W.keepIn K (.ref I18) = true)
     (z0 : PySem.W.nsIn K mainGlobals "len" = some none)
     (z1 : PySem.W.nsIn K mainGlobals "int" = some none)
     (z2 : PySem.W.nsIn K mainGlobals "abs" = some none)
     (z3 : PySem.W.nsIn K mainGlobals "isinstance" = some none)
     (z4 : PySem.W.nsIn K mainGlobals "range" = some none)
     (z5 : PySem.W.nsIn K mainGlobals "ValueError" = some none)
     (z6 : PySem.W.nsIn K mainGlobals "LookupError" = some none)
     (z7 : PySem.W.nsIn K mainGlobals "ArithmeticError" = some none)
     (z8 : PySem.W.nsIn K mainGlobals "repr" = some none)
     (z9 : PySem.W.nsIn K mainGlobals "enumerate" = some none)
     (z10 : PySem.W.nsIn K mainGlobals "max" = some none)
     (z11 : PySem.W.nsIn K mainGlobals "min" = some none)
    {t0 : Tok} (m0 : PySem.W.nsIn K mainGlobals "MOST_CASES" = some (some (.int 6 t0)))
    {t1 : Tok} (m1 : PySem.W.nsIn K mainGlobals "MOST_SAYINGS" = some (some (.int 12 t1)))
    {t2 : Tok} (m2 : PySem.W.nsIn K mainGlobals "MOST_TIMES" = some (some (.int 9 t2)))
    {t3 : Tok} (m3 : PySem.W.nsIn K mainGlobals "MOST_TOTAL" = some (some (.int 30 t3)))
    {t4 : Tok} (m4 : PySem.W.nsIn K mainGlobals "MOST_OPEN" = some (some (.int 5 t4)))
     (xo1 : PySem.W.specialIn K (.builtin "object.__class__") "__get__" = some (some (.builtin "getset_descriptor.__get__")))
     (xo2 : PySem.W.takesIn K (.builtin "object.__class__") = some true)
    {f0 : Addr} (a0 : PySem.W.nsIn K mainGlobals "_law_bag" = some (some (.ref f0)))
    {oc0 : Value} {od0 an0 : Option Addr} {sl0 : Array (Option Value)} {kV0 dc0 pm0 cd0 ct0 : Value} (l0 : K.lookup f0 = some ⟨oc0, od0, .func (PySem.W.fnOf "_law_bag" "_law_bag" (defArgs sBag) (defBody sBag) (defScope sBag) .none kV0 dc0 pm0 an0 cd0 ct0), sl0⟩)
     (cc0 : PySem.W.codeIn K cd0 "_law_bag" = true)
     (k0 : PySem.W.keepIn K (.ref f0) = true)
    {f1 : Addr} (a1 : PySem.W.nsIn K mainGlobals "_law_coin" = some (some (.ref f1)))
    {oc1 : Value} {od1 an1 : Option Addr} {sl1 : Array (Option Value)} {kV1 dc1 pm1 cd1 ct1 : Value} (l1 : K.lookup f1 = some ⟨oc1, od1, .func (PySem.W.fnOf "_law_coin" "_law_coin" (defArgs sCoin) (defBody sCoin) (defScope sCoin) .none kV1 dc1 pm1 an1 cd1 ct1), sl1⟩)
     (cc1 : PySem.W.codeIn K cd1 "_law_coin" = true)
     (k1 : PySem.W.keepIn K (.ref f1) = true)
    {f2 : Addr} (a2 : PySem.W.nsIn K mainGlobals "_law_of" = some (some (.ref f2)))
    {oc2 : Value} {od2 an2 : Option Addr} {sl2 : Array (Option Value)} {kV2 dc2 pm2 cd2 ct2 : Value} (l2 : K.lookup f2 = some ⟨oc2, od2, .func (PySem.W.fnOf "_law_of" "_law_of" (defArgs sOf) (defBody sOf) (defScope sOf) .none kV2 dc2 pm2 an2 cd2 ct2), sl2⟩)
     (cc2 : PySem.W.codeIn K cd2 "_law_of" = true)
     (k2 : PySem.W.keepIn K (.ref f2) = true)
    {f3 : Addr} (a3 : PySem.W.nsIn K mainGlobals "_law_any" = some (some (.ref f3)))
    {oc3 : Value} {od3 an3 : Option Addr} {sl3 : Array (Option Value)} {kV3 dc3 pm3 cd3 ct3 : Value} (l3 : K.lookup f3 = some ⟨oc3, od3, .func (PySem.W.fnOf "_law_any" "_law_any" (defArgs sAny) (defBody sAny) (defScope sAny) .none kV3 dc3 pm3 an3 cd3 ct3), sl3⟩)
     (cc3 : PySem.W.codeIn K cd3 "_law_any" = true)
     (k3 : PySem.W.keepIn K (.ref f3) = true)
    {f4 : Addr} (a4 : PySem.W.nsIn K mainGlobals "_law_sorts" = some (some (.ref f4)))
    {oc4 : Value} {od4 an4 : Option Addr} {sl4 : Array (Option Value)} {kV4 dc4 pm4 cd4 ct4 : Value} (l4 : K.lookup f4 = some ⟨oc4, od4, .func (PySem.W.fnOf "_law_sorts" "_law_sorts" (defArgs sSorts) (defBody sSorts) (defScope sSorts) .none kV4 dc4 pm4 an4 cd4 ct4), sl4⟩)
     (cc4 : PySem.W.codeIn K cd4 "_law_sorts" = true)
     (k4 : PySem.W.keepIn K (.ref f4) = true)
    {f5 : Addr} (a5 : PySem.W.nsIn K mainGlobals "_law_given" = some (some (.ref f5)))
    {oc5 : Value} {od5 an5 : Option Addr} {sl5 : Array (Option Value)} {kV5 dc5 pm5 cd5 ct5 : Value} (l5 : K.lookup f5 = some ⟨oc5, od5, .func (PySem.W.fnOf "_law_given" "_law_given" (defArgs sGiven) (defBody sGiven) (defScope sGiven) .none kV5 dc5 pm5 an5 cd5 ct5), sl5⟩)
     (cc5 : PySem.W.codeIn K cd5 "_law_given" = true)
     (k5 : PySem.W.keepIn K (.ref f5) = true)
    {f6 : Addr} (a6 : PySem.W.nsIn K mainGlobals "_law_caught" = some (some (.ref f6)))
    {oc6 : Value} {od6 an6 : Option Addr} {sl6 : Array (Option Value)} {kV6 dc6 pm6 cd6 ct6 : Value} (l6 : K.lookup f6 = some ⟨oc6, od6, .func (PySem.W.fnOf "_law_caught" "_law_caught" (defArgs sCaught) (defBody sCaught) (defScope sCaught) .none kV6 dc6 pm6 an6 cd6 ct6), sl6⟩)
     (cc6 : PySem.W.codeIn K cd6 "_law_caught" = true)
     (k6 : PySem.W.keepIn K (.ref f6) = true)
    {f7 : Addr} (a7 : PySem.W.nsIn K mainGlobals "_law_right" = some (some (.ref f7)))
    {oc7 : Value} {od7 an7 : Option Addr} {sl7 : Array (Option Value)} {kV7 dc7 pm7 cd7 ct7 : Value} (l7 : K.lookup f7 = some ⟨oc7, od7, .func (PySem.W.fnOf "_law_right" "_law_right" (defArgs sRight) (defBody sRight) (defScope sRight) .none kV7 dc7 pm7 an7 cd7 ct7), sl7⟩)
     (cc7 : PySem.W.codeIn K cd7 "_law_right" = true)
     (k7 : PySem.W.keepIn K (.ref f7) = true)
    {f8 : Addr} (a8 : PySem.W.nsIn K mainGlobals "law" = some (some (.ref f8)))
    {oc8 : Value} {od8 an8 : Option Addr} {sl8 : Array (Option Value)} {kV8 dc8 pm8 cd8 ct8 : Value} (l8 : K.lookup f8 = some ⟨oc8, od8, .func (PySem.W.fnOf "law" "law" (defArgs sLaw) (defBody sLaw) (defScope sLaw) .none kV8 dc8 pm8 an8 cd8 ct8), sl8⟩)
     (cc8 : PySem.W.codeIn K cd8 "law" = true)
     (k8 : PySem.W.keepIn K (.ref f8) = true)
    : ∃ fd : FuncData, (∀ (s : Shared) (u : Value), BindsTo s fd ⟨[u], []⟩ [("cells", u)]) ∧ ∀ base : Heap, FnG P w K mg base CX0 5 fa fd ["cells"] (spLaw K) := by
  have W0 : XB K D0 "ValueError.__init__" := ⟨rD0, sD0, by decide +kernel, iD0⟩
  have M0 := PySem.W.mg_of X G aD0
  have L0 : Lk K D0 "BadValue" mroV "ValueError.__new__" := ⟨_, _, _, _, _, _, _, _, _, _, _, _, _, xD0⟩
  have W1 : XB K D1 "LookupError.__init__" := ⟨rD1, sD1, by decide +kernel, iD1⟩
  have M1 := PySem.W.mg_of X G aD1
  have L1 : Lk K D1 "BadName" mroL "LookupError.__new__" := ⟨_, _, _, _, _, _, _, _, _, _, _, _, _, xD1⟩
  have W2 : XB K D2 "ArithmeticError.__init__" := ⟨rD2, sD2, by decide +kernel, iD2⟩
  have M2 := PySem.W.mg_of X G aD2
  have L2 : Lk K D2 "NoAnswer" mroA "ArithmeticError.__new__" := ⟨_, _, _, _, _, _, _, _, _, _, _, _, _, xD2⟩
  have Q0 := mk0 (P := P) (w := w) X G W0 M0 aC0 xC0 sC0 gC0 hC0 kC0 wC0 nC0_0 iC0 yC0 lC0 eC0 fC0
  have Q1 := mk1 (P := P) (w := w) X G W0 M0 aC1 xC1 sC1 gC1 hC1 kC1 wC1 nC1_0 iC1 yC1 lC1 eC1 fC1
  have Q2 := mk2 (P := P) (w := w) X G W0 M0 aC2 xC2 sC2 gC2 hC2 kC2 wC2 nC2_0 iC2 yC2 lC2 eC2 fC2
  have Q3 := mk3 (P := P) (w := w) X G W0 M0 aC3 xC3 sC3 gC3 hC3 kC3 wC3 nC3_0 iC3 yC3 lC3 eC3 fC3
  have Q4 := mk4 (P := P) (w := w) X G W0 M0 aC4 xC4 sC4 gC4 hC4 kC4 wC4 nC4_0 iC4 yC4 lC4 eC4 fC4
  have Q5 := mk5 (P := P) (w := w) X G W0 M0 aC5 xC5 sC5 gC5 hC5 kC5 wC5 nC5_0 iC5 yC5 lC5 eC5 fC5
  have Q6 := mk6 (P := P) (w := w) X G W0 M0 aC6 xC6 sC6 gC6 hC6 kC6 wC6 nC6_0 iC6 yC6 lC6 eC6 fC6
  have Q7 := mk7 (P := P) (w := w) X G W0 M0 aC7 xC7 sC7 gC7 hC7 kC7 wC7 nC7_0 iC7 yC7 lC7 eC7 fC7
  have Q8 := mk8 (P := P) (w := w) X G W0 M0 aC8 xC8 sC8 gC8 hC8 kC8 wC8 nC8_0 iC8 yC8 lC8 eC8 fC8
  have Q9 := mk9 (P := P) (w := w) X G W0 M0 aC9 xC9 sC9 gC9 hC9 kC9 wC9 nC9_0 iC9 yC9 lC9 eC9 fC9
  have Q10 := mk10 (P := P) (w := w) X G W0 M0 aC10 xC10 sC10 gC10 hC10 kC10 wC10 nC10_0 iC10 yC10 lC10 eC10 fC10
  have Q11 := mk11 (P := P) (w := w) X G W0 M0 aC11 xC11 sC11 gC11 hC11 kC11 wC11 nC11_0 iC11 yC11 lC11 eC11 fC11
  have Q12 := mk12 (P := P) (w := w) X G W0 M0 aC12 xC12 sC12 gC12 hC12 kC12 wC12 nC12_0 iC12 yC12 lC12 eC12 fC12
  have Q13 := mk13 (P := P) (w := w) X G W1 M1 aC13 xC13 sC13 gC13 hC13 kC13 wC13 nC13_0 iC13 yC13 lC13 eC13 fC13
  have Q14 := mk14 (P := P) (w := w) X G W1 M1 aC14 xC14 sC14 gC14 hC14 kC14 wC14 nC14_0 iC14 yC14 lC14 eC14 fC14
  have Q15 := mk15 (P := P) (w := w) X G W2 M2 aC15 xC15 sC15 gC15 hC15 kC15 wC15 nC15_0 iC15 yC15 lC15 eC15 fC15
  have Q16 := mk16 (P := P) (w := w) X G W2 M2 aC16 xC16 sC16 gC16 hC16 kC16 wC16 nC16_0 iC16 yC16 lC16 eC16 fC16
  have Q17 := mk17 (P := P) (w := w) X G W2 M2 aC17 xC17 sC17 gC17 hC17 kC17 wC17 iC17 yC17 lC17 eC17 fC17
  have Q18 := mk18 (P := P) (w := w) X G W2 M2 aC18 xC18 sC18 gC18 hC18 kC18 wC18 nC18_0 nC18_1 iC18 yC18 lC18 eC18 fC18
  exact whole X G hfa M0 L0 M1 L1 M2 L2 Q0 Q1 Q2 Q3 Q4 Q5 Q6 Q7 Q8 Q9 Q10 Q11 Q12 Q13 Q14 Q15 Q16 Q17 Q18 z0 z1 z2 z3 z4 z5 z6 z7 z8 z9 z10 z11 m0 m1 m2 m3 m4 ⟨xo1, xo2⟩ a0 l0 cc0 k0 a1 l1 cc1 k1 a2 l2 cc2 k2 a3 l3 cc3 k3 a4 l4 cc4 k4 a5 l5 cc5 k5 a6 l6 cc6 k6 a7 l7 cc7 k7 a8 l8 cc8 k8
end Toy

set_option maxRecDepth 100000
open PySem PySem.W PyProof.Rows
set_option maxRecDepth 100000 in
set_option maxHeartbeats 0 in
theorem PySem.Challenge.cw_likelybook_k01_limits_and_errors_holds : PySem.Challenge.rw_likelybook_k01_limits_and_errors.Holds := by
  w_on; o_law; k_head; (case hw => w_witness2)
  k_fill
  refine Toy.walkL (l := PySem.Challenge.rw_likelybook_k01_limits_and_errors) rfl rfl (fun w h Y => PySem.W.kIn_of Y) ?F
  case F =>
    intro w mg fa h KX G hmg
    refine' Toy.fin KX G hmg ?aD0 ?xD0 ?rD0 ?sD0 ?iD0 ?aD1 ?xD1 ?rD1 ?sD1 ?iD1 ?aD2 ?xD2 ?rD2 ?sD2 ?iD2 ?aC0 ?xC0 ?sC0 ?gC0 ?hC0 ?kC0 ?wC0 ?nC0_0 ?iC0 ?yC0 ?lC0 ?eC0 ?fC0 ?aC1 ?xC1 ?sC1 ?gC1 ?hC1 ?kC1 ?wC1 ?nC1_0 ?iC1 ?yC1 ?lC1 ?eC1 ?fC1 ?aC2 ?xC2 ?sC2 ?gC2 ?hC2 ?kC2 ?wC2 ?nC2_0 ?iC2 ?yC2 ?lC2 ?eC2 ?fC2 ?aC3 ?xC3 ?sC3 ?gC3 ?hC3 ?kC3 ?wC3 ?nC3_0 ?iC3 ?yC3 ?lC3 ?eC3 ?fC3 ?aC4 ?xC4 ?sC4 ?gC4 ?hC4 ?kC4 ?wC4 ?nC4_0 ?iC4 ?yC4 ?lC4 ?eC4 ?fC4 ?aC5 ?xC5 ?sC5 ?gC5 ?hC5 ?kC5 ?wC5 ?nC5_0 ?iC5 ?yC5 ?lC5 ?eC5 ?fC5 ?aC6 ?xC6 ?sC6 ?gC6 ?hC6 ?kC6 ?wC6 ?nC6_0 ?iC6 ?yC6 ?lC6 ?eC6 ?fC6 ?aC7 ?xC7 ?sC7 ?gC7 ?hC7 ?kC7 ?wC7 ?nC7_0 ?iC7 ?yC7 ?lC7 ?eC7 ?fC7 ?aC8 ?xC8 ?sC8 ?gC8 ?hC8 ?kC8 ?wC8 ?nC8_0 ?iC8 ?yC8 ?lC8 ?eC8 ?fC8 ?aC9 ?xC9 ?sC9 ?gC9 ?hC9 ?kC9 ?wC9 ?nC9_0 ?iC9 ?yC9 ?lC9 ?eC9 ?fC9 ?aC10 ?xC10 ?sC10 ?gC10 ?hC10 ?kC10 ?wC10 ?nC10_0 ?iC10 ?yC10 ?lC10 ?eC10 ?fC10 ?aC11 ?xC11 ?sC11 ?gC11 ?hC11 ?kC11 ?wC11 ?nC11_0 ?iC11 ?yC11 ?lC11 ?eC11 ?fC11 ?aC12 ?xC12 ?sC12 ?gC12 ?hC12 ?kC12 ?wC12 ?nC12_0 ?iC12 ?yC12 ?lC12 ?eC12 ?fC12 ?aC13 ?xC13 ?sC13 ?gC13 ?hC13 ?kC13 ?wC13 ?nC13_0 ?iC13 ?yC13 ?lC13 ?eC13 ?fC13 ?aC14 ?xC14 ?sC14 ?gC14 ?hC14 ?kC14 ?wC14 ?nC14_0 ?iC14 ?yC14 ?lC14 ?eC14 ?fC14 ?aC15 ?xC15 ?sC15 ?gC15 ?hC15 ?kC15 ?wC15 ?nC15_0 ?iC15 ?yC15 ?lC15 ?eC15 ?fC15 ?aC16 ?xC16 ?sC16 ?gC16 ?hC16 ?kC16 ?wC16 ?nC16_0 ?iC16 ?yC16 ?lC16 ?eC16 ?fC16 ?aC17 ?xC17 ?sC17 ?gC17 ?hC17 ?kC17 ?wC17 ?iC17 ?yC17 ?lC17 ?eC17 ?fC17 ?aC18 ?xC18 ?sC18 ?gC18 ?hC18 ?kC18 ?wC18 ?nC18_0 ?nC18_1 ?iC18 ?yC18 ?lC18 ?eC18 ?fC18 ?z0 ?z1 ?z2 ?z3 ?z4 ?z5 ?z6 ?z7 ?z8 ?z9 ?z10 ?z11 ?m0 ?m1 ?m2 ?m3 ?m4 ?xo1 ?xo2 ?a0 ?l0 ?cc0 ?k0 ?a1 ?l1 ?cc1 ?k1 ?a2 ?l2 ?cc2 ?k2 ?a3 ?l3 ?cc3 ?k3 ?a4 ?l4 ?cc4 ?k4 ?a5 ?l5 ?cc5 ?k5 ?a6 ?l6 ?cc6 ?k6 ?a7 ?l7 ?cc7 ?k7 ?a8 ?l8 ?cc8 ?k8
    (case aD0 => k_is)
    (case xD0 => k_is)
    (case rD0 => k_is)
    (case sD0 => k_is)
    (case iD0 => k_is)
    (case aD1 => k_is)
    (case xD1 => k_is)
    (case rD1 => k_is)
    (case sD1 => k_is)
    (case iD1 => k_is)
    (case aD2 => k_is)
    (case xD2 => k_is)
    (case rD2 => k_is)
    (case sD2 => k_is)
    (case iD2 => k_is)
    (case aC0 => k_is)
    (case xC0 => k_is)
    (case sC0 => k_is)
    (case gC0 => k_is)
    (case hC0 => k_is)
    (case kC0 => k_is)
    (case wC0 => k_is)
    (case nC0_0 => k_is)
    (case iC0 => k_is)
    (case yC0 => k_is)
    (case lC0 => k_is)
    (case eC0 => k_is)
    (case fC0 => k_is)
    (case aC1 => k_is)
    (case xC1 => k_is)
    (case sC1 => k_is)
    (case gC1 => k_is)
    (case hC1 => k_is)
    (case kC1 => k_is)
    (case wC1 => k_is)
    (case nC1_0 => k_is)
    (case iC1 => k_is)
    (case yC1 => k_is)
    (case lC1 => k_is)
    (case eC1 => k_is)
    (case fC1 => k_is)
    (case aC2 => k_is)
    (case xC2 => k_is)
    (case sC2 => k_is)
    (case gC2 => k_is)
    (case hC2 => k_is)
    (case kC2 => k_is)
    (case wC2 => k_is)
    (case nC2_0 => k_is)
    (case iC2 => k_is)
    (case yC2 => k_is)
    (case lC2 => k_is)
    (case eC2 => k_is)
    (case fC2 => k_is)
    (case aC3 => k_is)
    (case xC3 => k_is)
    (case sC3 => k_is)
    (case gC3 => k_is)
    (case hC3 => k_is)
    (case kC3 => k_is)
    (case wC3 => k_is)
    (case nC3_0 => k_is)
    (case iC3 => k_is)
    (case yC3 => k_is)
    (case lC3 => k_is)
    (case eC3 => k_is)
    (case fC3 => k_is)
    (case aC4 => k_is)
    (case xC4 => k_is)
    (case sC4 => k_is)
    (case gC4 => k_is)
    (case hC4 => k_is)
    (case kC4 => k_is)
    (case wC4 => k_is)
    (case nC4_0 => k_is)
    (case iC4 => k_is)
    (case yC4 => k_is)
    (case lC4 => k_is)
    (case eC4 => k_is)
    (case fC4 => k_is)
    (case aC5 => k_is)
    (case xC5 => k_is)
    (case sC5 => k_is)
    (case gC5 => k_is)
    (case hC5 => k_is)
    (case kC5 => k_is)
    (case wC5 => k_is)
    (case nC5_0 => k_is)
    (case iC5 => k_is)
    (case yC5 => k_is)
    (case lC5 => k_is)
    (case eC5 => k_is)
    (case fC5 => k_is)
    (case aC6 => k_is)
    (case xC6 => k_is)
    (case sC6 => k_is)
    (case gC6 => k_is)
    (case hC6 => k_is)
    (case kC6 => k_is)
    (case wC6 => k_is)
    (case nC6_0 => k_is)
    (case iC6 => k_is)
    (case yC6 => k_is)
    (case lC6 => k_is)
    (case eC6 => k_is)
    (case fC6 => k_is)
    (case aC7 => k_is)
    (case xC7 => k_is)
    (case sC7 => k_is)
    (case gC7 => k_is)
    (case hC7 => k_is)
    (case kC7 => k_is)
    (case wC7 => k_is)
    (case nC7_0 => k_is)
    (case iC7 => k_is)
    (case yC7 => k_is)
    (case lC7 => k_is)
    (case eC7 => k_is)
    (case fC7 => k_is)
    (case aC8 => k_is)
    (case xC8 => k_is)
    (case sC8 => k_is)
    (case gC8 => k_is)
    (case hC8 => k_is)
    (case kC8 => k_is)
    (case wC8 => k_is)
    (case nC8_0 => k_is)
    (case iC8 => k_is)
    (case yC8 => k_is)
    (case lC8 => k_is)
    (case eC8 => k_is)
    (case fC8 => k_is)
    (case aC9 => k_is)
    (case xC9 => k_is)
    (case sC9 => k_is)
    (case gC9 => k_is)
    (case hC9 => k_is)
    (case kC9 => k_is)
    (case wC9 => k_is)
    (case nC9_0 => k_is)
    (case iC9 => k_is)
    (case yC9 => k_is)
    (case lC9 => k_is)
    (case eC9 => k_is)
    (case fC9 => k_is)
    (case aC10 => k_is)
    (case xC10 => k_is)
    (case sC10 => k_is)
    (case gC10 => k_is)
    (case hC10 => k_is)
    (case kC10 => k_is)
    (case wC10 => k_is)
    (case nC10_0 => k_is)
    (case iC10 => k_is)
    (case yC10 => k_is)
    (case lC10 => k_is)
    (case eC10 => k_is)
    (case fC10 => k_is)
    (case aC11 => k_is)
    (case xC11 => k_is)
    (case sC11 => k_is)
    (case gC11 => k_is)
    (case hC11 => k_is)
    (case kC11 => k_is)
    (case wC11 => k_is)
    (case nC11_0 => k_is)
    (case iC11 => k_is)
    (case yC11 => k_is)
    (case lC11 => k_is)
    (case eC11 => k_is)
    (case fC11 => k_is)
    (case aC12 => k_is)
    (case xC12 => k_is)
    (case sC12 => k_is)
    (case gC12 => k_is)
    (case hC12 => k_is)
    (case kC12 => k_is)
    (case wC12 => k_is)
    (case nC12_0 => k_is)
    (case iC12 => k_is)
    (case yC12 => k_is)
    (case lC12 => k_is)
    (case eC12 => k_is)
    (case fC12 => k_is)
    (case aC13 => k_is)
    (case xC13 => k_is)
    (case sC13 => k_is)
    (case gC13 => k_is)
    (case hC13 => k_is)
    (case kC13 => k_is)
    (case wC13 => k_is)
    (case nC13_0 => k_is)
    (case iC13 => k_is)
    (case yC13 => k_is)
    (case lC13 => k_is)
    (case eC13 => k_is)
    (case fC13 => k_is)
    (case aC14 => k_is)
    (case xC14 => k_is)
    (case sC14 => k_is)
    (case gC14 => k_is)
    (case hC14 => k_is)
    (case kC14 => k_is)
    (case wC14 => k_is)
    (case nC14_0 => k_is)
    (case iC14 => k_is)
    (case yC14 => k_is)
    (case lC14 => k_is)
    (case eC14 => k_is)
    (case fC14 => k_is)
    (case aC15 => k_is)
    (case xC15 => k_is)
    (case sC15 => k_is)
    (case gC15 => k_is)
    (case hC15 => k_is)
    (case kC15 => k_is)
    (case wC15 => k_is)
    (case nC15_0 => k_is)
    (case iC15 => k_is)
    (case yC15 => k_is)
    (case lC15 => k_is)
    (case eC15 => k_is)
    (case fC15 => k_is)
    (case aC16 => k_is)
    (case xC16 => k_is)
    (case sC16 => k_is)
    (case gC16 => k_is)
    (case hC16 => k_is)
    (case kC16 => k_is)
    (case wC16 => k_is)
    (case nC16_0 => k_is)
    (case iC16 => k_is)
    (case yC16 => k_is)
    (case lC16 => k_is)
    (case eC16 => k_is)
    (case fC16 => k_is)
    (case aC17 => k_is)
    (case xC17 => k_is)
    (case sC17 => k_is)
    (case gC17 => k_is)
    (case hC17 => k_is)
    (case kC17 => k_is)
    (case wC17 => k_is)
    (case iC17 => k_is)
    (case yC17 => k_is)
    (case lC17 => k_is)
    (case eC17 => k_is)
    (case fC17 => k_is)
    (case aC18 => k_is)
    (case xC18 => k_is)
    (case sC18 => k_is)
    (case gC18 => k_is)
    (case hC18 => k_is)
    (case kC18 => k_is)
    (case wC18 => k_is)
    (case nC18_0 => k_is)
    (case nC18_1 => k_is)
    (case iC18 => k_is)
    (case yC18 => k_is)
    (case lC18 => k_is)
    (case eC18 => k_is)
    (case fC18 => k_is)
    (case z0 => k_is)
    (case z1 => k_is)
    (case z2 => k_is)
    (case z3 => k_is)
    (case z4 => k_is)
    (case z5 => k_is)
    (case z6 => k_is)
    (case z7 => k_is)
    (case z8 => k_is)
    (case z9 => k_is)
    (case z10 => k_is)
    (case z11 => k_is)
    (case m0 => k_is)
    (case m1 => k_is)
    (case m2 => k_is)
    (case m3 => k_is)
    (case m4 => k_is)
    (case xo1 => k_is)
    (case xo2 => k_is)
    (case a0 => k_is)
    (case l0 => k_is)
    (case cc0 => k_is)
    (case k0 => k_is)
    (case a1 => k_is)
    (case l1 => k_is)
    (case cc1 => k_is)
    (case k1 => k_is)
    (case a2 => k_is)
    (case l2 => k_is)
    (case cc2 => k_is)
    (case k2 => k_is)
    (case a3 => k_is)
    (case l3 => k_is)
    (case cc3 => k_is)
    (case k3 => k_is)
    (case a4 => k_is)
    (case l4 => k_is)
    (case cc4 => k_is)
    (case k4 => k_is)
    (case a5 => k_is)
    (case l5 => k_is)
    (case cc5 => k_is)
    (case k5 => k_is)
    (case a6 => k_is)
    (case l6 => k_is)
    (case cc6 => k_is)
    (case k6 => k_is)
    (case a7 => k_is)
    (case l7 => k_is)
    (case cc7 => k_is)
    (case k7 => k_is)
    (case a8 => k_is)
    (case l8 => k_is)
    (case cc8 => k_is)
    (case k8 => k_is)
#print axioms PySem.Challenge.cw_likelybook_k01_limits_and_errors_holds
